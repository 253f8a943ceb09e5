import PyProof.Rows.All
import Wide.All
import OpenK.AllK
import Wide.FinOn
import HandS.ForMost
import HandS.ForExc
import HandS.WideMore
import HandS.Gcd
import HandS.IsInst
import HandS.TupAny
import HandS.OwnEq
import HandS.Deep
import HandS.TupMul
import HandS.Zip
import HandS.Style
import HandS.Defaults
import HandS.Zip0
import HandS.Iter
import HandS.Star
import HandS.TryOnly
import HandS.WordsExc
import HandS.ExcOwn
import HandS.SetTxt0
import HandS.Strs
import PyProof.ListMulRoad
import PyProof.FactsAll.tuple_2
import PyProof.StrLawsIn
import PyProof.SliceStr2
import PyProof.Rows.StrRev
import PySem.Challenge.RW_wordweight_k10_weights_of_machines
import HandS.ExcIs
import KE.KExcIs
import HandS.Rev
set_option Elab.async false
set_option linter.all false
set_option autoImplicit true
set_option maxRecDepth 100000
namespace Dv
open PySem PySem.Spec PyProof.Rows L2

/-! ### data without addresses -/
inductive Dt where
  | non | bl (b : Bool) | int (i : Int) | str (x : Str) | lst (xs : List Dt) | ro (xs : List Dt) | tup (xs : List Dt) | obj (c : Nat) (fs : List Dt)

/-- own classes by number: the class's address, its attributes in order -/
abbrev Ct := Nat → Option (Addr × List Str)

mutual
inductive Rep (K : PySem.W.Frag) (T : Ct) (G : Hp) : Dt → V → Prop where
  | non : Rep K T G .non .non
  | bl {b} : Rep K T G (.bl b) (.bl b)
  | int {i} : Rep K T G (.int i) (.int i)
  | str {x} : Rep K T G (.str x) (.str x)
  | lst {a xs vs} : G a = some (.lst vs) → Reps K T G xs vs → Rep K T G (.lst xs) (.ref a)
  | ro {a xs vs} : SqL K G a vs → Reps K T G xs vs → Rep K T G (.ro xs) (.ref a)
  | tup {a xs vs} : SqT K G a vs → Reps K T G xs vs → Rep K T G (.tup xs) (.ref a)
  | obj {c C ns a dx fs vs} : T c = some (C, ns) → G a = some (.ins C dx (ns.zip vs)) → ns.length = vs.length → Reps K T G fs vs → Rep K T G (.obj c fs) (.ref a)
inductive Reps (K : PySem.W.Frag) (T : Ct) (G : Hp) : List Dt → List V → Prop where
  | nil : Reps K T G [] []
  | cons {d v ds vs} : Rep K T G d v → Reps K T G ds vs → Reps K T G (d :: ds) (v :: vs)
end

def Ex (H H' : Hp) : Prop := ∀ a o, H a = some o → H' a = some o
theorem Ex.refl (H : Hp) : Ex H H := fun _ _ h => h
theorem Ex.trans {H H1 H2 : Hp} (a : Ex H H1) (b : Ex H1 H2) : Ex H H2 := fun x o h => b x o (a x o h)
theorem Ex.new {H : Hp} {p : Addr} {o : HO} (h : H p = none) : Ex H (upd H p o) := fun a u e => by
  rw [upd_ne (ne_of_none e h)]; exact e
theorem Ex.none {H H' : Hp} (e : Ex H H') {p : Addr} (h : H' p = none) : H p = none := by
  cases q : H p with
  | none => rfl
  | some o => rw [e p o q] at h; cases h
theorem Ex.rd {H H' : Hp} {a : Addr} {u : HO} (e : Ex H H') (h : Rd H a u) : Rd H' a u := by
  rcases h with h | ⟨o, h⟩
  · exact Or.inl (e a _ h)
  · exact Or.inr ⟨o, e a _ h⟩
theorem Ex.sl {K : PySem.W.Frag} {H H' : Hp} {a : Addr} {xs : List V} (e : Ex H H') (h : SqL K H a xs) : SqL K H' a xs := h.elim (fun h => .inl (e.rd h)) .inr
theorem Ex.st {K : PySem.W.Frag} {H H' : Hp} {a : Addr} {xs : List V} (e : Ex H H') (h : SqT K H a xs) : SqT K H' a xs := h.elim (fun h => .inl (e.rd h)) .inr

variable {K : PySem.W.Frag} {T : Ct} {G G' G1 G2 H H' H1 H2 : Hp}

mutual
theorem Rep.ex {d : Dt} {v : V} (e : Ex G G') : Rep K T G d v → Rep K T G' d v
  | .non => .non
  | .bl => .bl
  | .int => .int
  | .str => .str
  | .lst h r => .lst (e _ _ h) (r.ex e)
  | .ro h r => .ro (e.sl h) (r.ex e)
  | .tup h r => .tup (e.st h) (r.ex e)
  | .obj t h l r => .obj t (e _ _ h) l (r.ex e)
theorem Reps.ex {ds : List Dt} {vs : List V} (e : Ex G G') : Reps K T G ds vs → Reps K T G' ds vs
  | .nil => .nil
  | .cons r rs => .cons (r.ex e) (rs.ex e)
end

theorem Reps.length : ∀ {ds : List Dt} {vs : List V}, Reps K T G ds vs → ds.length = vs.length
  | _, _, .nil => rfl
  | _, _, .cons _ r => congrArg Nat.succ (Reps.length r)
theorem Reps.get : ∀ {ds : List Dt} {vs : List V} {i : Nat} {d : Dt}, Reps K T G ds vs → ds[i]? = some d → ∃ v, vs[i]? = some v ∧ Rep K T G d v
  | _, _, _, _, .nil, e => by simp at e
  | _, _, 0, _, .cons r _, e => by simp at e; subst e; exact ⟨_, rfl, r⟩
  | _, _, i + 1, d, .cons _ t, e => by
    obtain ⟨u, h1, h2⟩ := Reps.get (i := i) (d := d) t (by simpa using e)
    exact ⟨u, by simpa using h1, h2⟩
theorem Reps.getV : ∀ {ds : List Dt} {vs : List V} {i : Nat} {v : V}, Reps K T G ds vs → vs[i]? = some v → ∃ d, ds[i]? = some d ∧ Rep K T G d v
  | _, _, _, _, .nil, e => by simp at e
  | _, _, 0, _, .cons r _, e => by simp at e; subst e; exact ⟨_, rfl, r⟩
  | _, _, i + 1, v, .cons _ t, e => by
    obtain ⟨u, h1, h2⟩ := Reps.getV (i := i) (v := v) t (by simpa using e)
    exact ⟨u, by simpa using h1, h2⟩
theorem Reps.app : ∀ {ds es : List Dt} {vs ws : List V}, Reps K T G ds vs → Reps K T G es ws → Reps K T G (ds ++ es) (vs ++ ws)
  | _, _, _, _, .nil, s => s
  | _, _, _, _, .cons r t, s => .cons r (Reps.app t s)
theorem Reps.set {d : Dt} {v : V} (r : Rep K T G d v) : ∀ {ds : List Dt} {vs : List V} (i : Nat), Reps K T G ds vs → Reps K T G (ds.set i d) (vs.set i v)
  | _, _, _, .nil => .nil
  | _, _, 0, .cons _ t => .cons r t
  | _, _, i + 1, .cons q t => .cons q (Reps.set r i t)
theorem Reps.take : ∀ {ds : List Dt} {vs : List V} (n : Nat), Reps K T G ds vs → Reps K T G (ds.take n) (vs.take n)
  | _, _, 0, _ => .nil
  | _, _, _ + 1, .nil => .nil
  | _, _, n + 1, .cons r t => .cons r (Reps.take n t)
theorem Reps.drop : ∀ {ds : List Dt} {vs : List V} (n : Nat), Reps K T G ds vs → Reps K T G (ds.drop n) (vs.drop n)
  | _, _, 0, r => r
  | _, _, _ + 1, .nil => .nil
  | _, _, n + 1, .cons _ t => Reps.drop n t

/-! ### stores -/
inductive Sv where
  /-- known, never changed -/
  | fr (d : Dt)
  /-- a list of this def's own, unshared -/
  | ow (xs : List Dt)
  /-- a list that the caller handed in to be changed -/
  | pr (k : Nat) (xs : List Dt)
  /-- an instance that is being made (by its __init__): the attributes that it has so far -/
  | bo (n : Nat) (fs : List Dt)
  /-- an exception that is held: its place, its own dict, what it says of itself -/
  | ex (a : Addr) (dd : Option Addr) (at_ : Option (Str × Dt))
def Sv.isOw : Sv → Bool
  | .fr _ => false
  | .ex _ _ _ => false
  | _ => true
abbrev Store := List (Option Sv)

def SvR (K : PySem.W.Frag) (T : Ct) (pa : Nat → Addr) (G H : Hp) : Sv → V → Prop
  | .fr d, v => Rep K T G d v
  | .ow xs, v => ∃ a vs, v = .ref a ∧ G a = none ∧ H a = some (.lst vs) ∧ Reps K T G xs vs
  | .pr k xs, v => ∃ vs, v = .ref (pa k) ∧ G (pa k) = none ∧ H (pa k) = some (.lst vs) ∧ Reps K T G xs vs
  | .bo n fs, v => ∃ C ns dx vs, T n = some (C, ns) ∧ v = .ref (pa 0) ∧ G (pa 0) = none ∧ H (pa 0) = some (.ins C dx ((ns.take fs.length).zip vs)) ∧ Reps K T G fs vs
  | .ex a dd at_, v => v = .ref a ∧ match at_ with
    | none => dd = none
    | some (f, d) => ∃ p vv, dd = some p ∧ G p = some (.xd [(f, vv)]) ∧ Rep K T G d vv

structure En (K : PySem.W.Frag) (T : Ct) (pa : Nat → Addr) (G H : Hp) (σ : L2.St) (st : Store) : Prop where
  ex : Ex G H
  sl : ∀ (i : Nat) s, st[i]? = some (some s) → ∃ v, σ[i]? = some (some v) ∧ SvR K T pa G H s v
  ds : ∀ (i j : Nat) s t a, st[i]? = some (some s) → st[j]? = some (some t) → s.isOw = true → t.isOw = true → σ[i]? = some (some (.ref a)) → σ[j]? = some (some (.ref a)) → i = j
  len : σ.length = st.length

def own (σ : L2.St) (st : Store) (p : Addr) : Prop := ∃ (i : Nat) (s : Sv), st[i]? = some (some s) ∧ s.isOw = true ∧ σ[i]? = some (some (.ref p))

structure Gr (G H G' H' : Hp) (O O' : Addr → Prop) : Prop where
  ex : Ex G G'
  nw : ∀ p o, G' p = some o → G p = some o ∨ H p = none ∨ O p
  fr : ∀ p o, H p = some o → ¬ O p → H' p = some o
  al : ∀ p, H p ≠ none → H' p ≠ none
  ow : ∀ p, O' p → O p ∨ H p = none

theorem Gr.refl {O : Addr → Prop} : Gr G H G H O O := ⟨Ex.refl G, fun _ _ h => .inl h, fun _ _ h _ => h, fun _ h => h, fun _ h => .inl h⟩
theorem Gr.trans {O O1 O2 : Addr → Prop} (a : Gr G H G1 H1 O O1) (b : Gr G1 H1 G2 H2 O1 O2) : Gr G H G2 H2 O O2 where
  ex := a.ex.trans b.ex
  nw := fun p o h => by
    rcases b.nw p o h with h | h | h
    · exact a.nw p o h
    · exact .inr (.inl (by
        cases q : H p with
        | none => rfl
        | some u => exact absurd h (a.al p (by rw [q]; simp))))
    · rcases a.ow p h with h | h
      · exact .inr (.inr h)
      · exact .inr (.inl h)
  fr := fun p o h n => b.fr p o (a.fr p o h n) fun z => (a.ow p z).elim n fun q => by rw [h] at q; cases q
  al := fun p h => b.al p (a.al p h)
  ow := fun p h => by
    rcases b.ow p h with h | h
    · exact a.ow p h
    · exact .inr (by
        cases q : H p with
        | none => rfl
        | some u => exact absurd h (a.al p (by rw [q]; simp)))

/-- growth alone -/
structure Gw (G H G' H' : Hp) : Prop where
  ex : Ex G G'
  hx : Ex H H'
  gh : Ex G' H'
  nw : ∀ p o, G' p = some o → G p = some o ∨ H p = none
theorem Gw.refl (e : Ex G H) : Dv.Gw G H G H := ⟨Ex.refl G, Ex.refl H, e, fun _ _ h => .inl h⟩
theorem Gw.new (e : Ex G H) {p : Addr} {o : HO} (hp : H p = none) : Dv.Gw G H (upd G p o) (upd H p o) where
  ex := Ex.new (e.none hp)
  hx := Ex.new hp
  gh := fun a u h => by
    by_cases q : a = p
    · subst q; rw [upd_same] at h ⊢; exact h
    · rw [upd_ne q] at h ⊢; exact e a u h
  nw := fun a u h => by
    by_cases q : a = p
    · subst q; exact .inr hp
    · rw [upd_ne q] at h; exact .inl h
theorem Gw.gr {O : Addr → Prop} (g : Dv.Gw G H G' H') : Gr G H G' H' O O :=
  ⟨g.ex, fun p o h => (g.nw p o h).elim .inl fun z => .inr (.inl z), fun p o h _ => g.hx p o h, fun p h => by
    cases q : H p with
    | none => exact absurd q h
    | some u => rw [g.hx p u q]; simp, fun p h => .inl h⟩
theorem Gw.trans (a : Dv.Gw G H G1 H1) (b : Dv.Gw G1 H1 G2 H2) : Dv.Gw G H G2 H2 :=
  ⟨a.ex.trans b.ex, a.hx.trans b.hx, b.gh, fun p o h => by
    rcases b.nw p o h with h | h
    · exact a.nw p o h
    · exact .inr (a.hx.none h)⟩
theorem SvR.exE {pa : Nat → Addr} (e : Ex G G') {a : Addr} {dd : Option Addr} {at_ : Option (Str × Dt)} {v : V} (h : SvR K T pa G H (.ex a dd at_) v) : SvR K T pa G' H' (.ex a dd at_) v := by
  obtain ⟨h1, h2⟩ := h
  refine ⟨h1, ?_⟩
  cases at_ with
  | none => exact h2
  | some q =>
    obtain ⟨p, vv, e1, e2, e3⟩ := h2
    exact ⟨p, vv, e1, e _ _ e2, e3.ex e⟩
theorem SvR.g1 {pa : Nat → Addr} (g : Dv.Gw G H G' H') {s : Sv} {v : V} (h : SvR K T pa G H s v) : SvR K T pa G' H' s v := by
  cases s with
  | fr d => exact Rep.ex g.ex h
  | ex _ _ _ => exact SvR.exE g.ex h
  | ow xs =>
    obtain ⟨a, vs, e, n, l, r⟩ := h
    refine ⟨a, vs, e, ?_, g.hx _ _ l, r.ex g.ex⟩
    cases q : G' a with
    | none => rfl
    | some o =>
      rcases g.nw a o q with z | z
      · rw [n] at z; cases z
      · rw [l] at z; cases z
  | pr k xs =>
    obtain ⟨vs, e, n, l, r⟩ := h
    refine ⟨vs, e, ?_, g.hx _ _ l, r.ex g.ex⟩
    cases q : G' (pa k) with
    | none => rfl
    | some o =>
      rcases g.nw _ o q with z | z
      · rw [n] at z; cases z
      · rw [l] at z; cases z
  | bo m fs =>
    obtain ⟨C, ns, dx, vs, t, e, n, l, r⟩ := h
    refine ⟨C, ns, dx, vs, t, e, ?_, g.hx _ _ l, r.ex g.ex⟩
    cases q : G' (pa 0) with
    | none => rfl
    | some o =>
      rcases g.nw _ o q with z | z
      · rw [n] at z; cases z
      · rw [l] at z; cases z
theorem En.g1 {pa : Nat → Addr} {σ : L2.St} {st : Store} (E : En K T pa G H σ st) (g : Dv.Gw G H G' H') : En K T pa G' H' σ st :=
  ⟨g.gh, fun i s h => let ⟨v, a, b⟩ := E.sl i s h; ⟨v, a, b.g1 g⟩, E.ds, E.len⟩
end Dv
set_option autoImplicit true
set_option maxRecDepth 100000
namespace Dv
open PySem PySem.Spec PyProof.Rows L2

theorem pe_weak {X : Cx} {e : Expr} {t t' : TE} (h : PE X e t) (w : ∀ σ H Q, t' σ H Q → t σ H Q) : PE X e t' := ⟨fun pins s σ H Q I q => h.run pins s σ H Q I (w _ _ _ q)⟩
theorem pt_weak {X : Cx} {e : Expr} {t t' : TT} (h : PT X e t) (w : ∀ σ H Q, t' σ H Q → t σ H Q) : PT X e t' := ⟨fun pins s σ H Q I q => h.run pins s σ H Q I (w _ _ _ q)⟩
theorem pw_weak {X : Cx} {e : Expr} {t t' : TT} (h : PW X e t) (w : ∀ σ H Q, t' σ H Q → t σ H Q) : PW X e t' := ⟨fun wh pins s σ H Q I q => h.run wh pins s σ H Q I (w _ _ _ q)⟩
theorem pa_weak {X : Cx} {e : List Expr} {t t' : TA} (h : PA X e t) (w : ∀ σ H Q, t' σ H Q → t σ H Q) : PA X e t' := ⟨fun pos pins s σ H Q I q => h.run pos pins s σ H Q I (w _ _ _ q)⟩
theorem ps_weak {X : Cx} {e : Stmt} {t t' : TS} (h : PS X e t) (w : ∀ D σ H, t' D σ H → t D σ H) : PS X e t' := ⟨fun pins s σ H D I q => h.run pins s σ H D I (w _ _ _ q)⟩
theorem pss_weak {X : Cx} {e : List Stmt} {t t' : TS} (h : PSs X e t) (w : ∀ D σ H, t' D σ H → t D σ H) : PSs X e t' := ⟨fun pins s σ H D I q => h.run pins s σ H D I (w _ _ _ q)⟩
theorem pg_weak {X : Cx} {e : Expr} {t t' : TG} (h : PG X e t) (w : ∀ v σ H Q, t' v σ H Q → t v σ H Q) : PG X e t' := ⟨fun pins s σ H v u Q I r q => h.run pins s σ H v u Q I r (w _ _ _ _ q)⟩
theorem pi_weak {X : Cx} {tg e : Expr} {t t' : TI} (h : PI X tg e t) (w : ∀ σ H R, t' σ H R → t σ H R) : PI X tg e t' := ⟨fun pins s σ H R I q => h.run pins s σ H R I (w _ _ _ q)⟩

/-- the context of the readings: class table, the places of the lists handed in -/
structure Ctx where
  K : PySem.W.Frag
  T : Ct
  pa : Nat → Addr

/-! ### the readings -/
def tD (c : Ctx) (st : Store) (d : Dt) (st' : Store) : TE := fun σ H Q => ∃ G, En c.K c.T c.pa G H σ st ∧
  ∀ v G' H', Gr G H G' H' (own σ st) (own σ st') → En c.K c.T c.pa G' H' σ st' → Rep c.K c.T G' d v → Q v H'
def tB' (c : Ctx) (st : Store) (b : Bool) (st' : Store) : TT := fun σ H Q => ∃ G, En c.K c.T c.pa G H σ st ∧
  ∀ G' H', Gr G H G' H' (own σ st) (own σ st') → En c.K c.T c.pa G' H' σ st' → Q b H'
def tDs (c : Ctx) (st : Store) (ds : List Dt) (st' : Store) : TA := fun σ H Q => ∃ G, En c.K c.T c.pa G H σ st ∧
  ∀ vs G' H', Gr G H G' H' (own σ st) (own σ st') → En c.K c.T c.pa G' H' σ st' → Reps c.K c.T G' ds vs → Q vs H'

structure XD (c : Ctx) (X : Cx) (e : Expr) (st : Store) (d : Dt) (st' : Store) : Prop where
  pe : PE X e (tD c st d st')
structure XT (c : Ctx) (X : Cx) (e : Expr) (st : Store) (b : Bool) (st' : Store) : Prop where
  pt : PT X e (tB' c st b st')
structure XW (c : Ctx) (X : Cx) (e : Expr) (st : Store) (b : Bool) (st' : Store) : Prop where
  pw : PW X e (tB' c st b st')
structure XA (c : Ctx) (X : Cx) (es : List Expr) (st : Store) (ds : List Dt) (st' : Store) : Prop where
  pa : PA X es (tDs c st ds st')

variable {c : Ctx} {X : Cx} {st st1 st2 st3 st' : Store} {a b e : Expr} {es : List Expr} {d d1 d2 d' : Dt} {ds : List Dt} {pos : Pos}

/-- a value by values: what comes of an operation that only makes things -/
abbrev KV' (c : Ctx) (G H : Hp) (d : Dt) (Q : VK) : Prop := ∀ v G' H', Gw G H G' H' → Rep c.K c.T G' d v → Q v H'
def Op1 (c : Ctx) (d1 d : Dt) (r : V → Hp → VK → Prop) : Prop := ∀ (G H : Hp) (x : V) (Q : VK), Ex G H → Rep c.K c.T G d1 x → KV' c G H d Q → r x H Q
def Op2 (c : Ctx) (d1 d2 d : Dt) (r : R2) : Prop := ∀ (G H : Hp) (x y : V) (Q : VK), Ex G H → Rep c.K c.T G d1 x → Rep c.K c.T G d2 y → KV' c G H d Q → r x y H Q
def OpN (c : Ctx) (ds : List Dt) (d : Dt) (r : List V → Hp → VK → Prop) : Prop := ∀ (G H : Hp) (vs : List V) (Q : VK), Ex G H → Reps c.K c.T G ds vs → KV' c G H d Q → r vs H Q

theorem kv_same {G H : Hp} {Q : VK} {v : V} (k : KV' c G H d Q) (e : Ex G H) (r : Rep c.K c.T G d v) : Q v H := k v G H (Gw.refl e) r

/-! ### expressions -/
theorem xd_int {i j} : XD c X (.Constant (.int i) j pos) st (.int i) st := ⟨pe_weak pe_int fun σ H Q ⟨G, E, k⟩ => k _ G H Gr.refl E .int⟩
theorem xd_bl {i j} : XD c X (.Constant (.bool i) j pos) st (.bl i) st := ⟨pe_weak pe_bl fun σ H Q ⟨G, E, k⟩ => k _ G H Gr.refl E .bl⟩
theorem xd_non {j} : XD c X (.Constant .none j pos) st .non st := ⟨pe_weak pe_non fun σ H Q ⟨G, E, k⟩ => k _ G H Gr.refl E .non⟩
theorem xd_str {x j} : XD c X (.Constant (.str x) j pos) st (.str x) st := ⟨pe_weak pe_str fun σ H Q ⟨G, E, k⟩ => k _ G H Gr.refl E .str⟩
theorem xd_var (i : Nat) {x : Str} (hs : st[i]? = some (some (.fr d)) := by rfl) (hN : X.N[i]? = some x := by rfl) (hv : Vis X.env.scope x := by first | exact Or.inl rfl | exact Or.inr (Or.inl rfl) | exact Or.inr (Or.inr rfl)) (hd : (x == ("__debug__" : Str)) = false := by decide)
    (hcd : (x == ("__classdict__" : Str)) = false := by decide) : XD c X (.Name x pos) st d st := ⟨pe_weak (pe_var hN hv hd hcd) fun σ H Q ⟨G, E, k⟩ => by
  obtain ⟨v, h1, h2⟩ := E.sl i _ hs
  exact ⟨v, h1, k v G H Gr.refl E h2⟩⟩
theorem xd_glob {x : Str} {v : V} {u : Value} (hm : X.mg x = some u) (r : RelV v u) (rd : ∀ G, Rep c.K c.T G d v) (hg : Gl X x := by rfl) (hd : (x == ("__debug__" : Str)) = false := by decide) : XD c X (.Name x pos) st d st :=
  ⟨pe_weak (pe_glob hg hm r hd) fun σ H Q ⟨G, E, k⟩ => k v G H Gr.refl E (rd G)⟩

theorem xd_bin {op : Operator} {r : R2} (ha : XD c X a st d1 st1) (hb : XD c X b st1 d2 st2) (ho : OpR X (binaryOp op) r) (hv : Op2 c d1 d2 d r) : XD c X (.BinOp a op b pos) st d st2 :=
  ⟨pe_weak (pe_op ho ha.pe hb.pe) fun σ H Q ⟨G, E, k⟩ => ⟨G, E, fun x G1 H1 g1 E1 r1 => ⟨G1, E1, fun y G2 H2 g2 E2 r2 =>
    hv G2 H2 x y Q E2.ex (r1.ex g2.ex) r2 fun v G3 H3 g3 r3 => k v G3 H3 ((g1.trans g2).trans g3.gr) (E2.g1 g3) r3⟩⟩⟩
theorem xd_cmp {op : CmpOp} {r : R2} (ha : XD c X a st d1 st1) (hb : XD c X b st1 d2 st2) (ho : OpR X (compareOp op) r) (hv : Op2 c d1 d2 d r) (hm : behindInMarks op b = false) : XD c X (.Compare a [op] [b] pos) st d st2 :=
  ⟨pe_weak (pe_cmpR ho ha.pe hb.pe hm) fun σ H Q ⟨G, E, k⟩ => ⟨G, E, fun x G1 H1 g1 E1 r1 => ⟨G1, E1, fun y G2 H2 g2 E2 r2 =>
    hv G2 H2 x y Q E2.ex (r1.ex g2.ex) r2 fun v G3 H3 g3 r3 => k v G3 H3 ((g1.trans g2).trans g3.gr) (E2.g1 g3) r3⟩⟩⟩
theorem xt_cmp {op : CmpOp} {r : R2} {t : Bool} (ha : XD c X a st d1 st1) (hb : XD c X b st1 d2 st2) (ho : OpR X (compareOp op) r) (hv : Op2 c d1 d2 (.bl t) r) (hm : behindInMarks op b = false) : XT c X (.Compare a [op] [b] pos) st t st2 :=
  ⟨pt_weak (pt_cmpR ho ha.pe hb.pe hm) fun σ H Q ⟨G, E, k⟩ => ⟨G, E, fun x G1 H1 g1 E1 r1 => ⟨G1, E1, fun y G2 H2 g2 E2 r2 =>
    hv G2 H2 x y _ E2.ex (r1.ex g2.ex) r2 fun v G3 H3 g3 r3 => by cases r3; exact ⟨t, rfl, k G3 H3 ((g1.trans g2).trans g3.gr) (E2.g1 g3)⟩⟩⟩⟩
theorem xd_un {op : UnaryOp} {r : V → Hp → VK → Prop} (ha : XD c X a st d1 st1) (ho : UnR X (unaryOp op) r) (hv : Op1 c d1 d r) : XD c X (.UnaryOp op a pos) st d st1 :=
  ⟨pe_weak (pe_un ho ha.pe) fun σ H Q ⟨G, E, k⟩ => ⟨G, E, fun x G1 H1 g1 E1 r1 => hv G1 H1 x Q E1.ex r1 fun v G3 H3 g3 r3 => k v G3 H3 (g1.trans g3.gr) (E1.g1 g3) r3⟩⟩
theorem xd_ix {r : R2} (ha : XD c X a st d1 st1) (hb : XD c X b st1 d2 st2) (ho : IxR X r) (hv : Op2 c d1 d2 d r) (hs : PlainIx b) : XD c X (.Subscript a b pos) st d st2 :=
  ⟨pe_weak (pe_ix ho ha.pe hb.pe hs) fun σ H Q ⟨G, E, k⟩ => ⟨G, E, fun x G1 H1 g1 E1 r1 => ⟨G1, E1, fun y G2 H2 g2 E2 r2 =>
    hv G2 H2 x y Q E2.ex (r1.ex g2.ex) r2 fun v G3 H3 g3 r3 => k v G3 H3 ((g1.trans g2).trans g3.gr) (E2.g1 g3) r3⟩⟩⟩

theorem xt_val {t : Bool} (h : XD c X e st (.bl t) st1) (he : ∀ whole, isTrue e X.env whole = (do let v ← whole; standAt e.pos; holding [v] (truthy v)) := by intro _; rfl) : XT c X e st t st1 :=
  ⟨pt_weak (pt_val h.pe he) fun σ H Q ⟨G, E, k⟩ => ⟨G, E, fun x G1 H1 g1 E1 r1 => by cases r1; exact ⟨t, rfl, k G1 H1 g1 E1⟩⟩⟩
theorem xw_pt {t : Bool} (h : XW c X e st t st1) : XT c X e st t st1 := ⟨h.pw.pt⟩
theorem xt_not {t : Bool} (h : XT c X a st t st1) : XT c X (.UnaryOp .Not a pos) st (!t) st1 := ⟨pt_weak (pt_not h.pt) fun σ H Q h => h⟩
theorem xw_and1 {t : Bool} (h : XT c X a st t st1) : XW c X (.BoolOp .And [a] pos) st t st1 := ⟨pw_and1 h.pt⟩
theorem xw_or1 {t : Bool} (h : XT c X a st t st1) : XW c X (.BoolOp .Or [a] pos) st t st1 := ⟨pw_or1 h.pt⟩
theorem pw_never {X : Cx} {e : Expr} : PW X e (fun _ _ _ => False) := ⟨fun _ _ _ _ _ _ _ h => h.elim⟩
theorem pe_never {X : Cx} {e : Expr} : PE X e (fun _ _ _ => False) := ⟨fun _ _ _ _ _ _ h => h.elim⟩
theorem pss_never' {X : Cx} {e : List Stmt} : PSs X e (fun _ _ _ => False) := ⟨fun _ _ _ _ _ _ h => h.elim⟩
theorem xw_andT {rest : List Expr} {t : Bool} (h : XT c X a st true st1) (h2 : XW c X (.BoolOp .And (b :: rest) pos) st1 t st2) : XW c X (.BoolOp .And (a :: b :: rest) pos) st t st2 :=
  ⟨pw_weak (pw_and h.pt h2.pw) fun σ H Q ⟨G, E, k⟩ => ⟨G, E, fun G1 H1 g1 E1 => by refine L2.iteT ?_; exact ⟨G1, E1, fun G2 H2 g2 E2 => k G2 H2 (g1.trans g2) E2⟩⟩⟩
theorem xw_andF {rest : List Expr} (h : XT c X a st false st1) : XW c X (.BoolOp .And (a :: b :: rest) pos) st false st1 :=
  ⟨pw_weak (pw_and h.pt pw_never) fun σ H Q ⟨G, E, k⟩ => ⟨G, E, fun G1 H1 g1 E1 => by refine L2.iteF ?_; exact k G1 H1 g1 E1⟩⟩
theorem xw_orF {rest : List Expr} {t : Bool} (h : XT c X a st false st1) (h2 : XW c X (.BoolOp .Or (b :: rest) pos) st1 t st2) : XW c X (.BoolOp .Or (a :: b :: rest) pos) st t st2 :=
  ⟨pw_weak (pw_or h.pt h2.pw) fun σ H Q ⟨G, E, k⟩ => ⟨G, E, fun G1 H1 g1 E1 => by refine L2.iteF ?_; exact ⟨G1, E1, fun G2 H2 g2 E2 => k G2 H2 (g1.trans g2) E2⟩⟩⟩
theorem xw_orT {rest : List Expr} (h : XT c X a st true st1) : XW c X (.BoolOp .Or (a :: b :: rest) pos) st true st1 :=
  ⟨pw_weak (pw_or h.pt pw_never) fun σ H Q ⟨G, E, k⟩ => ⟨G, E, fun G1 H1 g1 E1 => by refine L2.iteT ?_; exact k G1 H1 g1 E1⟩⟩
/-- and, or whose tests leave the store as it is -/
theorem xw_and {rest : List Expr} {t u : Bool} (h : XT c X a st t st) (h2 : t = true → XW c X (.BoolOp .And (b :: rest) pos) st u st) : XW c X (.BoolOp .And (a :: b :: rest) pos) st (t && u) st := by
  cases t with
  | true => exact xw_andT h (h2 rfl)
  | false => exact xw_andF h
theorem xw_or {rest : List Expr} {t u : Bool} (h : XT c X a st t st) (h2 : t = false → XW c X (.BoolOp .Or (b :: rest) pos) st u st) : XW c X (.BoolOp .Or (a :: b :: rest) pos) st (t || u) st := by
  cases t with
  | true => exact xw_orT h
  | false => exact xw_orF h (h2 rfl)
/-- and, or as values -/
theorem xd_one {op} (h : XD c X a st d st1) : XD c X (.BoolOp op [a] pos) st d st1 := ⟨pe_one h.pe⟩
theorem xd_and {rest : List Expr} {t u : Bool} (h : XD c X a st (.bl t) st) (h2 : t = true → XD c X (.BoolOp .And (b :: rest) pos) st (.bl u) st) : XD c X (.BoolOp .And (a :: b :: rest) pos) st (.bl (t && u)) st := by
  cases t with
  | true => exact ⟨pe_weak (pe_and h.pe (h2 rfl).pe) fun σ H Q ⟨G, E, k⟩ => ⟨G, E, fun v G1 H1 g1 E1 r1 => by cases r1; exact ⟨true, rfl, by refine L2.iteT ?_; exact ⟨G1, E1, fun v G2 H2 g2 E2 r2 => k v G2 H2 (g1.trans g2) E2 r2⟩⟩⟩⟩
  | false => exact ⟨pe_weak (pe_and h.pe pe_never) fun σ H Q ⟨G, E, k⟩ => ⟨G, E, fun v G1 H1 g1 E1 r1 => by cases r1; exact ⟨false, rfl, by refine L2.iteF ?_; exact k _ G1 H1 g1 E1 .bl⟩⟩⟩
theorem xd_or {rest : List Expr} {t u : Bool} (h : XD c X a st (.bl t) st) (h2 : t = false → XD c X (.BoolOp .Or (b :: rest) pos) st (.bl u) st) : XD c X (.BoolOp .Or (a :: b :: rest) pos) st (.bl (t || u)) st := by
  cases t with
  | true => exact ⟨pe_weak (pe_or h.pe pe_never) fun σ H Q ⟨G, E, k⟩ => ⟨G, E, fun v G1 H1 g1 E1 r1 => by cases r1; exact ⟨true, rfl, by refine L2.iteT ?_; exact k _ G1 H1 g1 E1 .bl⟩⟩⟩
  | false => exact ⟨pe_weak (pe_or h.pe (h2 rfl).pe) fun σ H Q ⟨G, E, k⟩ => ⟨G, E, fun v G1 H1 g1 E1 r1 => by cases r1; exact ⟨false, rfl, by refine L2.iteF ?_; exact ⟨G1, E1, fun v G2 H2 g2 E2 r2 => k v G2 H2 (g1.trans g2) E2 r2⟩⟩⟩⟩
theorem xd_not {t : Bool} (h : XD c X a st (.bl t) st1) : XD c X (.UnaryOp .Not a pos) st (.bl (!t)) st1 :=
  ⟨pe_weak (pe_not h.pe) fun σ H Q ⟨G, E, k⟩ => ⟨G, E, fun v G1 H1 g1 E1 r1 => by cases r1; exact ⟨t, rfl, k _ G1 H1 g1 E1 .bl⟩⟩⟩
theorem xd_if {t : Expr} {tb : Bool} (h : XT c X t st tb st1) (h1 : tb = true → XD c X a st1 d st2) (h2 : tb = false → XD c X b st1 d st2) : XD c X (.IfExp t a b pos) st d st2 := by
  cases tb with
  | true => exact ⟨pe_weak (pe_ifExp h.pt (h1 rfl).pe pe_never) fun σ H Q ⟨G, E, k⟩ => ⟨G, E, fun G1 H1 g1 E1 => by refine L2.iteT ?_; exact ⟨G1, E1, fun v G2 H2 g2 E2 r2 => k v G2 H2 (g1.trans g2) E2 r2⟩⟩⟩
  | false => exact ⟨pe_weak (pe_ifExp h.pt pe_never (h2 rfl).pe) fun σ H Q ⟨G, E, k⟩ => ⟨G, E, fun G1 H1 g1 E1 => by refine L2.iteF ?_; exact ⟨G1, E1, fun v G2 H2 g2 E2 r2 => k v G2 H2 (g1.trans g2) E2 r2⟩⟩⟩
theorem xa_nil : XA c X [] st [] st := ⟨pa_weak pa_nil fun σ H Q ⟨G, E, k⟩ => k [] G H Gr.refl E .nil⟩
theorem xa_cons (h : XD c X e st d st1) (h2 : XA c X es st1 ds st2) (hs : starEach (e :: es) X.env = (false, eval e X.env) :: starEach es X.env := by rfl) : XA c X (e :: es) st (d :: ds) st2 :=
  ⟨pa_weak (pa_cons h.pe h2.pa hs) fun σ H Q ⟨G, E, k⟩ => ⟨G, E, fun v G1 H1 g1 E1 r1 => ⟨G1, E1, fun vs G2 H2 g2 E2 r2 => k (v :: vs) G2 H2 (g1.trans g2) E2 (.cons (r1.ex g2.ex) r2)⟩⟩⟩
theorem xd_tup {x1} (h : XA c X es st ds st1) (hl : ds.length ≤ 100000) : XD c X (.Tuple es x1 pos) st (.tup ds) st1 :=
  ⟨pe_weak (pe_tup h.pa) fun σ H Q ⟨G, E, k⟩ => ⟨G, E, fun vs G1 H1 g1 E1 r1 => ⟨by rw [← r1.length]; exact Nat.le_trans hl (by decide), fun p hp => k _ _ _ (g1.trans (Gw.new E1.ex hp).gr) (E1.g1 (Gw.new E1.ex hp)) (.tup (SqT.of upd_same) (r1.ex (Gw.new (o := .tup vs) E1.ex hp).ex))⟩⟩⟩
theorem xd_lst (h : XA c X es st ds st1) (hl : ds.length ≤ 100000) : XD c X (.List es pos) st (.lst ds) st1 :=
  ⟨pe_weak (pe_lst h.pa) fun σ H Q ⟨G, E, k⟩ => ⟨G, E, fun vs G1 H1 g1 E1 r1 => ⟨by rw [← r1.length]; exact Nat.le_trans hl (by decide), fun p hp => k _ _ _ (g1.trans (Gw.new E1.ex hp).gr) (E1.g1 (Gw.new E1.ex hp)) (.lst upd_same (r1.ex (Gw.new (o := .lst vs) E1.ex hp).ex))⟩⟩⟩
/-- a built-in's call by its name, by values -/
theorem xd_callB {x : Str} {p : Pos} {id : String} {r : List V → Hp → VK → Prop} (h : XA c X (e :: es) st ds st1) (hc : CallR X (.builtin id) r) (hv : OpN c ds d r) (hm : X.mg x = none) (hb : bootBuiltins x = some (.builtin id)) (hg : Gl X x := by rfl)
    (hn : x ≠ "__name__" := by decide) (hdb : (x == ("__debug__" : Str)) = false := by decide)
    (he : starEach (e :: es) X.env = (false, eval e X.env) :: starEach es X.env := by rfl) (hpl : (backTo pos (starEach es X.env)).any (·.1) = false := by rfl) : XD c X (.Call (.Name x p) (e :: es) [] pos) st d st1 :=
  ⟨pe_weak (pe_callB hc hg hm hb h.pa hn hdb he hpl) fun σ H Q ⟨G, E, k⟩ => ⟨G, E, fun vs G1 H1 g1 E1 r1 => hv G1 H1 vs Q E1.ex r1 fun v G3 H3 g3 r3 => k v G3 H3 (g1.trans g3.gr) (E1.g1 g3) r3⟩⟩
theorem xd_callTy {x : Str} {p : Pos} {id : String} {r : List V → Hp → VK → Prop} (h : XA c X (e :: es) st ds st1) (hc : CallR X (.type id) r) (hv : OpN c ds d r) (hm : X.mg x = none) (hb : bootBuiltins x = some (.type id)) (hg : Gl X x := by rfl)
    (hn : x ≠ "__name__" := by decide) (hdb : (x == ("__debug__" : Str)) = false := by decide)
    (he : starEach (e :: es) X.env = (false, eval e X.env) :: starEach es X.env := by rfl) (hpl : (backTo pos (starEach es X.env)).any (·.1) = false := by rfl) : XD c X (.Call (.Name x p) (e :: es) [] pos) st d st1 :=
  ⟨pe_weak (pe_callTy hc hg hm hb h.pa hn hdb he hpl) fun σ H Q ⟨G, E, k⟩ => ⟨G, E, fun vs G1 H1 g1 E1 r1 => hv G1 H1 vs Q E1.ex r1 fun v G3 H3 g3 r3 => k v G3 H3 (g1.trans g3.gr) (E1.g1 g3) r3⟩⟩

/-! ### operations by values -/
section ops
variable {i j : Int} {x y : Str}
theorem o_I0 {g : Int → Int → Int} : Op2 c (.int i) (.int j) (.int (g i j)) (rI0 fun i j => .int (g i j)) := fun G H v u Q e r1 r2 k => by
  cases r1; cases r2; exact ⟨i, j, rfl, rfl, kv_same k e .int⟩
theorem o_I {C : Int → Int → Prop} {g : Int → Int → Int} (hc : C i j) : Op2 c (.int i) (.int j) (.int (g i j)) (rI C fun i j => .int (g i j)) := fun G H v u Q e r1 r2 k => by
  cases r1; cases r2; exact ⟨i, j, rfl, rfl, hc, kv_same k e .int⟩
theorem o_B0 {g : Int → Int → Bool} : Op2 c (.int i) (.int j) (.bl (g i j)) (rI0 fun i j => .bl (g i j)) := fun G H v u Q e r1 r2 k => by
  cases r1; cases r2; exact ⟨i, j, rfl, rfl, kv_same k e .bl⟩
theorem o_neg : Op1 c (.int i) (.int (-i)) (rU fun i => .int (-i)) := fun G H v Q e r1 k => by
  cases r1; exact ⟨i, rfl, kv_same k e .int⟩
end ops
end Dv
set_option autoImplicit true
set_option maxRecDepth 100000
namespace Dv
open PySem PySem.Spec PyProof.Rows L2

variable {c : Ctx} {X : Cx} {st st1 st2 st3 st' : Store} {a b e : Expr} {es : List Expr} {d d1 d2 d' : Dt} {ds xs ys : List Dt} {pos : Pos} {G G' H H' : Hp} {σ σ' : L2.St} {v : V} {i j : Nat}

/-! ### stores that change -/
theorem set_cases {α : Type} {l : List α} {i j : Nat} {x y : α} (h : (l.set i x)[j]? = some y) : (j = i ∧ x = y ∧ i < l.length) ∨ (j ≠ i ∧ l[j]? = some y) := by
  by_cases q : j = i
  · subst q
    rw [List.getElem?_set] at h
    by_cases z : j < l.length
    · rw [if_pos rfl, if_pos z] at h; exact .inl ⟨rfl, Option.some.inj h, z⟩
    · rw [if_pos rfl, if_neg z] at h; cases h
  · rw [List.getElem?_set_ne (Ne.symm q)] at h
    exact .inr ⟨q, h⟩
theorem En.setFr (E : En c.K c.T c.pa G H σ st) (r : Rep c.K c.T G d v) (i : Nat) : En c.K c.T c.pa G H (σ.set i (some v)) (st.set i (some (.fr d))) where
  ex := E.ex
  sl := fun j s h => by
    rcases set_cases h with ⟨rfl, e, z⟩ | ⟨n, h⟩
    · cases e
      exact ⟨v, by rw [List.getElem?_set_self (by rw [E.len]; exact z)], r⟩
    · obtain ⟨w, h1, h2⟩ := E.sl j s h
      exact ⟨w, by rw [List.getElem?_set_ne (Ne.symm n)]; exact h1, h2⟩
  ds := fun j k s t p h1 h2 o1 o2 h3 h4 => by
    rcases set_cases h1 with ⟨rfl, e, z⟩ | ⟨n, h1⟩
    · cases e; cases o1
    · rcases set_cases h2 with ⟨rfl, e, z⟩ | ⟨n', h2⟩
      · cases e; cases o2
      · rw [List.getElem?_set_ne (Ne.symm n)] at h3
        rw [List.getElem?_set_ne (Ne.symm n')] at h4
        exact E.ds j k s t p h1 h2 o1 o2 h3 h4
  len := by rw [List.length_set, List.length_set, E.len]
theorem own_setFr {p : Addr} (h : own (σ.set i (some v)) (st.set i (some (.fr d))) p) : own σ st p := by
  obtain ⟨j, s, h1, h2, h3⟩ := h
  rcases set_cases h1 with ⟨rfl, e, z⟩ | ⟨n, h1⟩
  · cases e; cases h2
  · rw [List.getElem?_set_ne (Ne.symm n)] at h3
    exact ⟨j, s, h1, h2, h3⟩
theorem Gr.weakO {O O' O'' : Addr → Prop} (g : Gr G H G' H' O O') (h : ∀ p, O'' p → O' p) : Gr G H G' H' O O'' := ⟨g.ex, g.nw, g.fr, g.al, fun p q => g.ow p (h p q)⟩

/-! ### statements -/
inductive Out where
  | nx (st : Store) | rt (d : Dt) (st : Store) | bk (st : Store) | ct (st : Store) | rl (xs : List Dt) | rq (ds : List Dt) (j : Nat) (st : Store)
def OutK (c : Ctx) (D : Ends) (G H : Hp) (O : Addr → Prop) : Out → Prop
  | .nx st' => ∀ σ' G' H', Gr G H G' H' O (own σ' st') → En c.K c.T c.pa G' H' σ' st' → D.nx σ' H'
  | .bk st' => ∀ σ' G' H', Gr G H G' H' O (own σ' st') → En c.K c.T c.pa G' H' σ' st' → D.bk σ' H'
  | .ct st' => ∀ σ' G' H', Gr G H G' H' O (own σ' st') → En c.K c.T c.pa G' H' σ' st' → D.ct σ' H'
  | .rt d st' => ∀ v σ' G' H', Gr G H G' H' O (own σ' st') → En c.K c.T c.pa G' H' σ' st' → Rep c.K c.T G' d v → D.rt v H'
  | .rl xs => ∀ p ws G' H', Gr G H G' H' O (fun _ => False) → Ex G' H' → (H p = none ∨ O p) → G' p = none → H' p = some (.lst ws) → Reps c.K c.T G' xs ws → D.rt (.ref p) H'
  | .rq ds j st' => ∀ t b vs σ' G' H', Gr G H G' H' O (own σ' st') → En c.K c.T c.pa G' H' σ' st' → Reps c.K c.T G' ds vs → σ'[j]? = some (some (.ref b)) → G' t = none → ¬ own σ' st' t → H' t = some (.tup (vs ++ [.ref b])) → D.rt (.ref t) H'
theorem OutK.from {D : Ends} {G H G1 H1 : Hp} {O O1 : Addr → Prop} {o : Out} (k : OutK c D G H O o) (g : Gr G H G1 H1 O O1) : OutK c D G1 H1 O1 o := by
  cases o with
  | nx s => exact fun σ' G' H' g' E => k σ' G' H' (g.trans g') E
  | bk s => exact fun σ' G' H' g' E => k σ' G' H' (g.trans g') E
  | ct s => exact fun σ' G' H' g' E => k σ' G' H' (g.trans g') E
  | rt d s => exact fun v σ' G' H' g' E r => k v σ' G' H' (g.trans g') E r
  | rq ds j s => exact fun t b vs σ' G' H' g' E r1 r2 r3 r4 r5 => k t b vs σ' G' H' (g.trans g') E r1 r2 r3 r4 r5
  | rl xs => exact fun p ws G' H' g' e hp hn hl r => k p ws G' H' (g.trans g') e (hp.elim (fun z => .inl (by
      cases q : H p with
      | none => rfl
      | some u => exact absurd z (g.al p (by rw [q]; simp)))) fun z => (g.ow p z).elim .inr .inl) hn hl r
def tO (c : Ctx) (st : Store) (o : Out) : TS := fun D σ H => ∃ G, En c.K c.T c.pa G H σ st ∧ OutK c D G H (own σ st) o
structure XP (c : Ctx) (X : Cx) (s : Stmt) (st : Store) (o : Out) : Prop where
  ps : PS X s (tO c st o)
structure XS (c : Ctx) (X : Cx) (s : List Stmt) (st : Store) (o : Out) : Prop where
  pss : PSs X s (tO c st o)
variable {s : Stmt} {rest body orelse : List Stmt} {o : Out}
theorem xs_nil : XS c X [] st (.nx st) := ⟨pss_weak pss_nil fun D σ H ⟨G, E, k⟩ => k σ G H Gr.refl E⟩
theorem xs_cons (h1 : XP c X s st (.nx st1)) (h2 : XS c X rest st1 o) : XS c X (s :: rest) st o :=
  ⟨pss_weak (pss_cons h1.ps h2.pss) fun D σ H ⟨G, E, k⟩ => ⟨G, E, fun σ1 G1 H1 g1 E1 => ⟨G1, E1, k.from g1⟩⟩⟩
theorem xs_one (h1 : XP c X s st o) : XS c X [s] st o := ⟨pss_one h1.ps⟩
theorem xs_ret (h1 : XP c X s st (.rt d st')) : XS c X (s :: rest) st (.rt d st') :=
  ⟨pss_weak (pss_cons h1.ps pss_never') fun D σ H ⟨G, E, k⟩ => ⟨G, E, k⟩⟩
theorem xs_bk (h1 : XP c X s st (.bk st')) : XS c X (s :: rest) st (.bk st') :=
  ⟨pss_weak (pss_cons h1.ps pss_never') fun D σ H ⟨G, E, k⟩ => ⟨G, E, k⟩⟩
theorem xs_ct (h1 : XP c X s st (.ct st')) : XS c X (s :: rest) st (.ct st') :=
  ⟨pss_weak (pss_cons h1.ps pss_never') fun D σ H ⟨G, E, k⟩ => ⟨G, E, k⟩⟩
theorem xs_rl (h1 : XP c X s st (.rl xs)) : XS c X (s :: rest) st (.rl xs) :=
  ⟨pss_weak (pss_cons h1.ps pss_never') fun D σ H ⟨G, E, k⟩ => ⟨G, E, k⟩⟩
theorem xs_rq {j : Nat} (h1 : XP c X s st (.rq ds j st')) : XS c X (s :: rest) st (.rq ds j st') :=
  ⟨pss_weak (pss_cons h1.ps pss_never') fun D σ H ⟨G, E, k⟩ => ⟨G, E, k⟩⟩
theorem xp_pass : XP c X (.Pass pos) st (.nx st) := ⟨ps_weak ps_pass fun D σ H ⟨G, E, k⟩ => k σ G H Gr.refl E⟩
theorem xp_break : XP c X (.Break pos) st (.bk st) := ⟨ps_weak ps_break fun D σ H ⟨G, E, k⟩ => k σ G H Gr.refl E⟩
theorem xp_continue : XP c X (.Continue pos) st (.ct st) := ⟨ps_weak ps_continue fun D σ H ⟨G, E, k⟩ => k σ G H Gr.refl E⟩
theorem xp_ret (h : XD c X e st d st1) : XP c X (.Return (some e) pos) st (.rt d st1) :=
  ⟨ps_weak (ps_ret h.pe) fun D σ H ⟨G, E, k⟩ => ⟨G, E, fun v G1 H1 g1 E1 r1 => k v σ G1 H1 g1 E1 r1⟩⟩
theorem xp_retN : XP c X (.Return none pos) st (.rt .non st) := ⟨ps_weak ps_retN fun D σ H ⟨G, E, k⟩ => k .non σ G H Gr.refl E .non⟩
theorem xp_expr (h : XD c X e st d st1) (hs : swapsWith e none pos.line X.env = pure false := by rfl) : XP c X (.Expr e pos) st (.nx st1) :=
  ⟨ps_weak (ps_expr h.pe hs) fun D σ H ⟨G, E, k⟩ => ⟨G, E, fun v G1 H1 g1 E1 r1 => k σ G1 H1 g1 E1⟩⟩
theorem xp_if {t : Expr} {tb : Bool} {A B : List Stmt} (h : XT c X t st tb st1) (h1 : tb = true → XS c X A st1 o) (h2 : tb = false → XS c X B st1 o) : XP c X (.If t A B pos) st o := by
  cases tb with
  | true => exact ⟨ps_weak (ps_if h.pt (h1 rfl).pss pss_never') fun D σ H ⟨G, E, k⟩ => ⟨G, E, fun G1 H1 g1 E1 => by refine L2.iteT ?_; exact ⟨G1, E1, k.from g1⟩⟩⟩
  | false => exact ⟨ps_weak (ps_if h.pt pss_never' (h2 rfl).pss) fun D σ H ⟨G, E, k⟩ => ⟨G, E, fun G1 H1 g1 E1 => by refine L2.iteF ?_; exact ⟨G1, E1, k.from g1⟩⟩⟩

/-! ### targets -/
def gD (c : Ctx) (d : Dt) (st st' : Store) : TG := fun v σ H Q => ∃ G, En c.K c.T c.pa G H σ st ∧ Rep c.K c.T G d v ∧ ∀ σ' G' H', Gr G H G' H' (own σ st) (own σ' st') → En c.K c.T c.pa G' H' σ' st' → Q σ' H'
def gDs (c : Ctx) (ds : List Dt) (st st' : Store) : TGs := fun vs σ H Q => ∃ G, En c.K c.T c.pa G H σ st ∧ Reps c.K c.T G ds vs ∧ ∀ σ' G' H', Gr G H G' H' (own σ st) (own σ' st') → En c.K c.T c.pa G' H' σ' st' → Q σ' H'
structure XG (c : Ctx) (X : Cx) (tg : Expr) (d : Dt) (st st' : Store) : Prop where
  pg : PG X tg (gD c d st st')
structure XGs (c : Ctx) (X : Cx) (tg : List Expr) (ds : List Dt) (st st' : Store) : Prop where
  pgs : PGs X tg (gDs c ds st st')
theorem xg_name (i : Nat) {x : Str} (hN : X.N.Nodup) (hi : X.N[i]? = some x := by rfl) (hx : Loc X.env.scope x := by first | exact Or.inl rfl | exact Or.inr rfl) (hf : X.fn x = true ∨ X.env.scope.names.lookup x = some .local := by first | exact .inl rfl | exact .inr rfl | assumption) :
    XG c X (.Name x pos) d st (st.set i (some (.fr d))) := ⟨pg_weak (pg_name hN hi hx hf) fun v σ H Q ⟨G, E, r, k⟩ => k _ G H (Gr.refl.weakO fun p h => own_setFr h) (E.setFr r i)⟩
theorem pgs_weak {X : Cx} {e : List Expr} {t t' : TGs} (h : PGs X e t) (w : ∀ v σ H Q, t' v σ H Q → t v σ H Q) : PGs X e t' := ⟨fun pins s σ H v u Q I r q => h.run pins s σ H v u Q I r (w _ _ _ _ q)⟩
theorem xgs_nil : XGs c X [] [] st st := ⟨pgs_weak pgs_nil fun v σ H Q ⟨G, E, r, k⟩ => by cases r; exact ⟨rfl, k _ G H Gr.refl E⟩⟩
theorem xgs_cons (h : XG c X e d st st1) (h2 : XGs c X es ds st1 st2) (hs : (assignEach (e :: es) X.env).map (·.2) = assign e X.env :: (assignEach es X.env).map (·.2) := by rfl) : XGs c X (e :: es) (d :: ds) st st2 :=
  ⟨pgs_weak (pgs_cons h.pg h2.pgs hs) fun v σ H Q ⟨G, E, r, k⟩ => by
    cases r with
    | cons r rs => exact ⟨_, _, rfl, G, E, r, fun σ1 G1 H1 g1 E1 => ⟨G1, E1, rs.ex g1.ex, fun σ2 G2 H2 g2 E2 => k σ2 G2 H2 (g1.trans g2) E2⟩⟩⟩
theorem Rep.tup_inv {K : PySem.W.Frag} {T : Ct} {xs : List Dt} {v : V} (r : Rep K T G (.tup xs) v) : ∃ a vs, v = .ref a ∧ SqT K G a vs ∧ Reps K T G xs vs := by
  cases r with
  | tup h r => exact ⟨_, _, rfl, h, r⟩
theorem Rep.ro_inv {K : PySem.W.Frag} {T : Ct} {xs : List Dt} {v : V} (r : Rep K T G (.ro xs) v) : ∃ a vs, v = .ref a ∧ SqL K G a vs ∧ Reps K T G xs vs := by
  cases r with
  | ro h r => exact ⟨_, _, rfl, h, r⟩
theorem Rep.lst_inv {K : PySem.W.Frag} {T : Ct} {xs : List Dt} {v : V} (r : Rep K T G (.lst xs) v) : ∃ a vs, v = .ref a ∧ G a = some (.lst vs) ∧ Reps K T G xs vs := by
  cases r with
  | lst h r => exact ⟨_, _, rfl, h, r⟩
theorem Rep.obj_inv {K : PySem.W.Frag} {T : Ct} {n : Nat} {fs : List Dt} {v : V} (r : Rep K T G (.obj n fs) v) : ∃ C ns a dx vs, v = .ref a ∧ T n = some (C, ns) ∧ G a = some (.ins C dx (ns.zip vs)) ∧ ns.length = vs.length ∧ Reps K T G fs vs := by
  cases r with
  | obj h1 h2 h3 r => exact ⟨_, _, _, _, _, rfl, h1, h2, h3, r⟩
theorem xg_tup {k : Nat} {n : Nat} (hK : X.K = c.K) (hc : X.calm = true) (h : XGs c X es ds st st1) (hl : ds.length = n)
    (hn : (assignEach es X.env).length = n := by rfl) (hst : (assignEach es X.env).findIdx? (·.1) = none := by rfl) : XG c X (.Tuple es k pos) (.tup ds) st st1 :=
  ⟨pg_weak (pg_tup hc h.pgs hn hst) fun v σ H Q ⟨G, E, r, k⟩ => by
    obtain ⟨a, vs, rfl, h1, h2⟩ := r.tup_inv
    exact ⟨a, vs, rfl, by rw [hK]; exact E.ex.st h1, by rw [← h2.length]; exact hl, G, E, h2, k⟩⟩
theorem xp_asg {tg : Expr} (he : XD c X e st d st1) (hg : XG c X tg d st1 st2) (hs : swapsWithSole [tg] e pos.line X.env = pure false := by rfl) (hw : swappedStores [tg] e X.env = pure none := by rfl)
    (h1 : (assignEach [tg] X.env).map (·.2) = [assign tg X.env] := by rfl) : XP c X (.Assign [tg] e pos) st (.nx st2) :=
  ⟨ps_weak (ps_asg he.pe hg.pg hs hw h1) fun D σ H ⟨G, E, k⟩ => ⟨G, E, fun v G1 H1 g1 E1 r1 => ⟨G1, E1, r1, fun σ2 G2 H2 g2 E2 => k σ2 G2 H2 (g1.trans g2) E2⟩⟩⟩
theorem xp_set (i : Nat) {x : Str} {pos' : Pos} (hN : X.N.Nodup) (he : XD c X e st d st1) (hi : X.N[i]? = some x := by rfl) (hx : Loc X.env.scope x := by first | exact Or.inl rfl | exact Or.inr rfl) (hs : swapsWith e (some (.Name x pos')) pos.line X.env = pure false := by rfl)
    (hf : X.fn x = true ∨ X.env.scope.names.lookup x = some .local := by first | exact .inl rfl | exact .inr rfl | assumption) : XP c X (.Assign [.Name x pos'] e pos) st (.nx (st1.set i (some (.fr d)))) :=
  ⟨ps_weak (ps_set hN hi hx he.pe hs hf) fun D σ H ⟨G, E, k⟩ => ⟨G, E, fun v G1 H1 g1 E1 r1 => k _ G1 H1 (g1.weakO fun p h => own_setFr h) (E1.setFr r1 i)⟩⟩
/-- a, b = x, y -/
theorem xp_par (i j : Nat) {x y : Str} {px py pt : Pos} {kt k2 pt2} (hN : X.N.Nodup) (hc : X.calm = true) (ha : XA c X [a, b] st [d1, d2] st1) (hij : i ≠ j) (hi : X.N[i]? = some x := by rfl) (hj : X.N[j]? = some y := by rfl)
    (hx : X.env.scope.names.lookup x = some .local := by rfl) (hy : X.env.scope.names.lookup y = some .local := by rfl)
    (hw : swappedStores [.Tuple [.Name x px, .Name y py] kt pt] (.Tuple [a, b] k2 pt2) X.env = pure (some [x, y]) := by rfl)
    (hs : swapsWithSole [.Tuple [.Name x px, .Name y py] kt pt] (.Tuple [a, b] k2 pt2) pos.line X.env = pure false := by rfl) :
    XP c X (.Assign [.Tuple [.Name x px, .Name y py] kt pt] (.Tuple [a, b] k2 pt2) pos) st (.nx ((st1.set i (some (.fr d1))).set j (some (.fr d2)))) :=
  ⟨ps_weak (ps_par hc hN hi hj hij hx hy ha.pa hw hs) fun D σ H ⟨G, E, k⟩ => ⟨G, E, fun vs G1 H1 g1 E1 r1 => by
    cases r1 with
    | cons r r1 =>
      cases r1 with
      | cons r' r1 =>
        cases r1
        exact ⟨_, _, rfl, k _ G1 H1 (g1.weakO fun p h => own_setFr (own_setFr h)) ((E1.setFr r i).setFr r' j)⟩⟩⟩

/-! ### what a def promises: data in, data out -/
def spD (K : PySem.W.Frag) (T : Ct) (R : List Dt → Dt → Prop) : Sp := fun vs H Q _ => ∃ G ds r, Ex G H ∧ Reps K T G ds vs ∧ R ds r ∧
  ∀ v G' H', Gr G H G' H' (fun _ => False) (fun _ => False) → Ex G' H' → Rep K T G' r v → Q v H'
theorem xd_call {CX : CXT} {k : Nat} {f : Addr} {fd : FuncData} {ps : List Str} {R : List Dt → Dt → Prop} {x : Str} {p : Pos} {dds : List Dt} {dvs : List V} {dus : List Value}
    (F : FnOk X.prog X.w X.K X.mg X.base CX k f fd ps (spD c.K c.T R)) (hr : Room k X.A) (hm : X.mg x = some (.ref f)) (hk : PySem.W.keepIn X.K (.ref f) = true) (hb : Binds X.K fd ps dus) (hd : Vals dvs dus) (hdd : ∀ G, Reps c.K c.T G dds dvs)
    {E : XK} (hx : Passes CX X E) (h : XA c X (e :: es) st ds st1) (hR : R (ds ++ dds) d) (hg : Gl X x := by rfl) (hdb : (x == ("__debug__" : Str)) = false := by decide) (he : starEach (e :: es) X.env = (false, eval e X.env) :: starEach es X.env := by rfl) (hpl : (backTo pos (starEach es X.env)).any (·.1) = false := by rfl) :
    XD c X (.Call (.Name x p) (e :: es) [] pos) st d st1 :=
  ⟨pe_weak (pe_call F hr hg hm hk hb hd hx h.pa hdb he hpl) fun σ H Q ⟨G, E, k⟩ => ⟨G, E, fun vs G1 H1 g1 E1 r1 => ⟨G1, ds ++ dds, d, E1.ex, r1.app (hdd G1), hR, fun v G2 H2 g2 e2 r2 => by
    have w : Gw G1 H1 G2 H2 := ⟨g2.ex, fun p o h => g2.fr p o h id, e2, fun p o h => (g2.nw p o h).elim .inl fun z => z.elim .inr False.elim⟩
    exact k v G2 H2 (g1.trans w.gr) (E1.g1 w) r2⟩⟩⟩
theorem xd_call0 {CX : CXT} {k : Nat} {f : Addr} {fd : FuncData} {ps : List Str} {R : List Dt → Dt → Prop} {x : Str} {p : Pos}
    (F : FnOk X.prog X.w X.K X.mg X.base CX k f fd ps (spD c.K c.T R)) (hr : Room k X.A) (hm : X.mg x = some (.ref f)) (hk : PySem.W.keepIn X.K (.ref f) = true) (hb : Binds X.K fd ps [])
    {E : XK} (hx : Passes CX X E) (hR : R [] d) (hg : Gl X x := by rfl) (hdb : (x == ("__debug__" : Str)) = false := by decide) :
    XD c X (.Call (.Name x p) [] [] pos) st d st :=
  ⟨pe_weak (pe_call0 F hr hg hm hk hb .nil hx hdb) fun σ H Q ⟨G, E, k⟩ => ⟨G, [], d, E.ex, .nil, hR, fun v G2 H2 g2 e2 r2 => by
    have w : Gw G H G2 H2 := ⟨g2.ex, fun p o h => g2.fr p o h id, e2, fun p o h => (g2.nw p o h).elim .inl fun z => z.elim .inr False.elim⟩
    exact k v G2 H2 w.gr (E.g1 w) r2⟩⟩

/-- a def's store at its entry -/
def st0 (N : List Str) (ds : List Dt) : Store := ds.map (fun d => some (.fr d)) ++ List.replicate (N.length - ds.length) none
theorem En.start {N : List Str} {ds : List Dt} {vs : List V} (e : Ex G H) (r : Reps c.K c.T G ds vs) : En c.K c.T c.pa G H (L2.start N vs) (st0 N ds) where
  ex := e
  sl := fun i s h => by
    unfold st0 at h
    unfold L2.start
    by_cases q : i < ds.length
    · rw [List.getElem?_append_left (by simpa using q)] at h
      rw [List.getElem?_map] at h
      cases z : ds[i]? with
      | none => rw [z] at h; cases h
      | some d =>
        rw [z] at h
        cases h
        obtain ⟨v, h1, h2⟩ := r.get z
        refine ⟨v, ?_, h2⟩
        rw [List.getElem?_append_left (by rw [List.length_map, ← r.length]; exact q), List.getElem?_map, h1]
        rfl
    · rw [List.getElem?_append_right (by simpa using q), List.getElem?_replicate] at h
      split at h <;> cases h
  ds := fun i j s t a h1 h2 o1 => by
    exfalso
    unfold st0 at h1
    by_cases q : i < ds.length
    · rw [List.getElem?_append_left (by simpa using q), List.getElem?_map] at h1
      cases z : ds[i]? with
      | none => rw [z] at h1; cases h1
      | some d => rw [z] at h1; cases h1; cases o1
    · rw [List.getElem?_append_right (by simpa using q), List.getElem?_replicate] at h1
      split at h1 <;> cases h1
  len := by unfold L2.start st0; rw [List.length_append, List.length_append, List.length_map, List.length_map, r.length]; simp
theorem own_start {N : List Str} {ds : List Dt} {σ : L2.St} {p : Addr} (h : own σ (st0 N ds) p) : False := by
  obtain ⟨i, s, h1, o1, _⟩ := h
  unfold st0 at h1
  by_cases q : i < ds.length
  · rw [List.getElem?_append_left (by simpa using q), List.getElem?_map] at h1
    cases z : ds[i]? with
    | none => rw [z] at h1; cases h1
    | some d => rw [z] at h1; cases h1; cases o1
  · rw [List.getElem?_append_right (by simpa using q), List.getElem?_replicate] at h1
    split at h1 <;> cases h1
theorem Gr.fromO {O O1 O' : Addr → Prop} (g : Gr G H G' H' O O') (h : ∀ p, O p → O1 p) : Gr G H G' H' O1 O' :=
  ⟨g.ex, fun p o q => (g.nw p o q).imp id (Or.imp id (h p)), fun p o q n => g.fr p o q fun z => n (h p z), g.al, fun p q => (g.ow p q).imp (h p) id⟩
/-- the context of a def's body that lets no exception out -/
abbrev bX (P : Program) (w : World) (K : PySem.W.Frag) (mg : Str → Option Value) (base : Heap) (N : List Str) (qual : Str) (sd : Stmt) (f : Addr) (cdv : Value) (A : Around) (outer : List Env) (s : Shared) (H : Hp) (E : XK) : Cx :=
  (cxOf CX0 P w K mg base N qual (defScope sd) f cdv A outer s H E).nox
/-- A DEF: its body on data -/
theorem okD {P : Program} {w : World} {K : PySem.W.Frag} {T : Ct} {mg : Str → Option Value} {base : Heap} {x qual : Str} {sd : Stmt} {f : Addr} {fd : FuncData} {N ps : List Str} {k : Nat} {R : List Dt → Dt → Prop} (F : Fun K x qual sd f fd) (S : FnScope N ps (defScope sd)) (hl : ∀ ds r, R ds r → ds.length = ps.length)
    (body : ∀ (cdv : Value) (A : Around) (outer : List Env) (s : Shared) (H : Hp) (E : XK) (pa : Nat → Addr) (ds : List Dt) (r : Dt), Room k (A.deeper (envOfC qual (defScope sd) s.heap.objs.size f cdv)) → R ds r →
      ∃ o, XS ⟨K, T, pa⟩ (bX P w K mg base N qual sd f cdv A outer s H E) (defBody sd) (st0 N ds) o ∧ ((∃ st', o = .rt r st') ∨ (r = .non ∧ ∃ st', o = .nx st'))) : FnOk P w K mg base CX0 (k + 1) f fd ps (spD K T R) := by
  refine F.ok S (fun vs H Q E h => ?_) (fun cdv A outer s H vs Q E hr h => ?_)
  · obtain ⟨G, ds, r, e, rs, hR, _⟩ := h
    rw [← rs.length]; exact hl ds r hR
  · obtain ⟨G, ds, r, e, rs, hR, kk⟩ := h
    obtain ⟨o, hb, ho⟩ := body cdv A outer s H E (fun _ => 0) ds r hr hR
    refine ⟨_, hb.pss, G, En.start e rs, ?_⟩
    rcases ho with ⟨st', rfl⟩ | ⟨rfl, st', rfl⟩
    · exact fun v σ' G' H' g E' r' => kk v G' H' ((g.weakO (fun p h => h.elim)).fromO fun p h => own_start h) E'.ex r'
    · exact fun σ' G' H' g E' => kk .non G' H' ((g.weakO (fun p h => h.elim)).fromO fun p h => own_start h) E'.ex .non
end Dv
set_option autoImplicit true
set_option maxRecDepth 100000
namespace Dv
open PySem PySem.Spec PyProof.Rows L2
open Classical in
/-- the frozen part with the own lists beside it -/
noncomputable def Gz (σ : L2.St) (st : Store) (G H : Hp) : Hp := fun p => if own σ st p then H p else G p

variable {c : Ctx} {X : Cx} {st st1 st2 st3 st' : Store} {a b e : Expr} {es : List Expr} {d d1 d2 d' : Dt} {ds xs ys : List Dt} {pos : Pos} {G G' H H' : Hp} {σ σ' : L2.St} {v : V} {i j : Nat}

/-! ### own lists read -/
def Sv.fz : Sv → Option Sv
  | .fr d => some (.fr d)
  | .ow xs => some (.fr (.lst xs))
  | .pr _ xs => some (.fr (.lst xs))
  | .bo _ _ => none
  | .ex _ _ _ => none
def fz (st : Store) : Store := st.map fun o => o.bind Sv.fz
theorem fz_get {s : Sv} (h : (fz st)[i]? = some (some s)) : ∃ t, st[i]? = some (some t) ∧ t.fz = some s := by
  unfold fz at h
  rw [List.getElem?_map] at h
  cases q : st[i]? with
  | none => rw [q] at h; cases h
  | some o =>
    rw [q] at h
    cases o with
    | none => cases h
    | some t => exact ⟨t, rfl, Option.some.inj h⟩
theorem fz_notOw {s t : Sv} (h : t.fz = some s) : s.isOw = false := by cases t <;> cases h <;> rfl
theorem own_fz {p : Addr} : ¬ own σ (fz st) p := fun ⟨i, s, h1, h2, _⟩ => by
  obtain ⟨t, _, e⟩ := fz_get h1
  rw [fz_notOw e] at h2; cases h2
theorem En.ownAt (E : En c.K c.T c.pa G H σ st) {p : Addr} (h : own σ st p) : G p = none ∧ H p ≠ none := by
  obtain ⟨i, s, h1, h2, h3⟩ := h
  obtain ⟨v, h4, h5⟩ := E.sl i s h1
  rw [h3] at h4
  cases h4
  cases s with
  | fr d => cases h2
  | ex _ _ _ => cases h2
  | ow xs =>
    obtain ⟨a, vs, e, n, l, r⟩ := h5
    cases e
    exact ⟨n, by rw [l]; simp⟩
  | pr k xs =>
    obtain ⟨vs, e, n, l, r⟩ := h5
    cases e
    exact ⟨n, by rw [l]; simp⟩
  | bo m fs =>
    obtain ⟨C, ns, dx, vs, t, e, n, l, r⟩ := h5
    cases e
    exact ⟨n, by rw [l]; simp⟩
theorem En.gz (E : En c.K c.T c.pa G H σ st) : Ex G (Gz σ st G H) := fun p o h => by
  unfold Gz
  by_cases q : own σ st p
  · rw [if_pos q]; exact E.ex _ _ h
  · rw [if_neg q]; exact h
theorem En.frz (E : En c.K c.T c.pa G H σ st) : En c.K c.T c.pa (Gz σ st G H) H σ (fz st) where
  ex := fun p o h => by
    unfold Gz at h
    by_cases q : own σ st p
    · rw [if_pos q] at h; exact h
    · rw [if_neg q] at h; exact E.ex _ _ h
  sl := fun i s h => by
    obtain ⟨t, h1, e⟩ := fz_get h
    obtain ⟨v, h2, h3⟩ := E.sl i t h1
    refine ⟨v, h2, ?_⟩
    cases t with
    | bo _ _ => cases e
    | ex _ _ _ => cases e
    | fr d => cases e; exact Rep.ex E.gz h3
    | ow xs =>
      cases e
      obtain ⟨a, vs, rfl, n, l, r⟩ := h3
      exact .lst (show Gz σ st G H a = _ by unfold Gz; rw [if_pos ⟨i, _, h1, rfl, h2⟩]; exact l) (r.ex E.gz)
    | pr k xs =>
      cases e
      obtain ⟨vs, rfl, n, l, r⟩ := h3
      exact .lst (show Gz σ st G H _ = _ by unfold Gz; rw [if_pos ⟨i, _, h1, rfl, h2⟩]; exact l) (r.ex E.gz)
  ds := fun i j s t a h1 _ o1 => by
    obtain ⟨u, _, e⟩ := fz_get h1
    rw [fz_notOw e] at o1; cases o1
  len := by unfold Dv.fz; rw [List.length_map]; exact E.len
def Dt.scal : Dt → Bool
  | .non | .bl _ | .int _ | .str _ => true
  | _ => false
theorem Rep.scal {K : PySem.W.Frag} {T : Ct} {G G' : Hp} {d : Dt} {v : V} (h : d.scal = true) (r : Rep K T G d v) : Rep K T G' d v := by
  cases r <;> first | (cases h; done) | constructor
/-- behind a look at everything -/
theorem En.unfz {O' : Addr → Prop} {G2 : Hp} (E : En c.K c.T c.pa G H σ st) (g : Gr (Gz σ st G H) H G2 H' (own σ (fz st)) O') : Gr G H G H' (own σ st) (own σ st) ∧ En c.K c.T c.pa G H' σ st := by
  have keep : ∀ p o, H p = some o → H' p = some o := fun p o h => g.fr p o h own_fz
  refine ⟨⟨Ex.refl G, fun _ _ h => .inl h, fun p o h _ => keep p o h, g.al, fun _ h => .inl h⟩, ⟨fun p o h => keep p o (E.ex p o h), fun i s h => ?_, E.ds, E.len⟩⟩
  obtain ⟨v, h1, h2⟩ := E.sl i s h
  refine ⟨v, h1, ?_⟩
  cases s with
  | fr d => exact h2
  | ex _ _ _ => exact h2
  | ow xs => obtain ⟨a, vs, e, n, l, r⟩ := h2; exact ⟨a, vs, e, n, keep _ _ l, r⟩
  | pr k xs => obtain ⟨vs, e, n, l, r⟩ := h2; exact ⟨vs, e, n, keep _ _ l, r⟩
  | bo m fs => obtain ⟨C, ns, dx, vs, t, e, n, l, r⟩ := h2; exact ⟨C, ns, dx, vs, t, e, n, keep _ _ l, r⟩
theorem xd_view (h : XD c X e (fz st) d st1) (hs : d.scal = true) : XD c X e st d st :=
  ⟨pe_weak h.pe fun σ H Q ⟨G, E, k⟩ => ⟨_, E.frz, fun v G2 H2 g2 E2 r2 => by
    obtain ⟨g, E'⟩ := E.unfz g2
    exact k v G H2 g E' (r2.scal hs)⟩⟩
theorem xt_view {t : Bool} (h : XT c X e (fz st) t st1) : XT c X e st t st :=
  ⟨pt_weak h.pt fun σ H Q ⟨G, E, k⟩ => ⟨_, E.frz, fun G2 H2 g2 E2 => by
    obtain ⟨g, E'⟩ := E.unfz g2
    exact k G H2 g E'⟩⟩

/-! ### an own list becomes known for good -/
theorem xs_freeze {s : List Stmt} {o : Out} (i : Nat) (hi : st[i]? = some (some (.ow xs)) := by rfl) (h : XS c X s (st.set i (some (.fr (.lst xs)))) o) : XS c X s st o :=
  ⟨pss_weak h.pss fun D σ H ⟨G, E, k⟩ => by
    obtain ⟨v, h1, h2⟩ := E.sl i _ hi
    obtain ⟨a, vs, rfl, n, l, r⟩ := h2
    have ho : own σ st a := ⟨i, _, hi, rfl, h1⟩
    have eG : Ex G (upd G a (.lst vs)) := Ex.new n
    have eq : σ.set i (some (V.ref a)) = σ := by
      have q := (List.getElem?_eq_some_iff.mp h1)
      obtain ⟨q1, q2⟩ := q
      apply List.ext_getElem?
      intro j
      by_cases z : j = i
      · subst z; rw [List.getElem?_set_self q1, h1]
      · rw [List.getElem?_set_ne (Ne.symm z)]
    have E1 : En c.K c.T c.pa (upd G a (.lst vs)) H σ (st.set i (some (.fr (.lst xs)))) := by
      refine ⟨fun p o q => ?_, fun j s q => ?_, fun j k s t p q1 q2 o1 o2 q3 q4 => ?_, by rw [List.length_set]; exact E.len⟩
      · by_cases z : p = a
        · subst z; rw [upd_same] at q; cases q; exact l
        · rw [upd_ne z] at q; exact E.ex p o q
      · rcases set_cases q with ⟨rfl, e, z⟩ | ⟨nj, q⟩
        · cases e; exact ⟨_, h1, .lst upd_same (r.ex eG)⟩
        · obtain ⟨w, z1, z2⟩ := E.sl j s q
          refine ⟨w, z1, ?_⟩
          cases s with
          | fr d => exact Rep.ex eG z2
          | ex _ _ _ => exact SvR.exE eG z2
          | ow ys =>
            obtain ⟨b, ws, rfl, m1, m2, m3⟩ := z2
            refine ⟨b, ws, rfl, ?_, m2, m3.ex eG⟩
            have nb : b ≠ a := fun z => nj (E.ds j i _ _ a q hi rfl rfl (by rw [z1, z]) h1)
            rw [upd_ne nb]; exact m1
          | pr k ys =>
            obtain ⟨ws, rfl, m1, m2, m3⟩ := z2
            refine ⟨ws, rfl, ?_, m2, m3.ex eG⟩
            have nb : c.pa k ≠ a := fun z => nj (E.ds j i _ _ a q hi rfl rfl (by rw [z1, z]) h1)
            rw [upd_ne nb]; exact m1
          | bo mm fs =>
            obtain ⟨C, ns, dx, ws, t, rfl, m1, m2, m3⟩ := z2
            refine ⟨C, ns, dx, ws, t, rfl, ?_, m2, m3.ex eG⟩
            have nb : c.pa 0 ≠ a := fun z => nj (E.ds j i _ _ a q hi rfl rfl (by rw [z1, z]) h1)
            rw [upd_ne nb]; exact m1
      · rcases set_cases q1 with ⟨rfl, e, z⟩ | ⟨n1, q1⟩
        · cases e; cases o1
        · rcases set_cases q2 with ⟨rfl, e, z⟩ | ⟨n2, q2⟩
          · cases e; cases o2
          · exact E.ds j k s t p q1 q2 o1 o2 q3 q4
    have g1 : Gr G H (upd G a (.lst vs)) H (own σ st) (own σ (st.set i (some (.fr (.lst xs))))) := by
      refine ⟨eG, fun p o q => ?_, fun _ _ q _ => q, fun _ q => q, fun p q => .inl ?_⟩
      · by_cases z : p = a
        · subst z; exact .inr (.inr ho)
        · rw [upd_ne z] at q; exact .inl q
      · have q' : own (σ.set i (some (V.ref a))) (st.set i (some (.fr (.lst xs)))) p := by rw [eq]; exact q
        exact own_setFr q'
    exact ⟨_, E1, k.from g1⟩⟩

/-! ### new lists -/
def tL (c : Ctx) (st : Store) (xs : List Dt) (st' : Store) : TE := fun σ H Q => ∃ G, En c.K c.T c.pa G H σ st ∧
  ∀ p vs G' H', Gr G H G' H' (own σ st) (own σ st') → En c.K c.T c.pa G' H' σ st' → ¬ own σ st' p → H p = none → G' p = none → H' p = some (.lst vs) → Reps c.K c.T G' xs vs → Q (.ref p) H'
structure XL (c : Ctx) (X : Cx) (e : Expr) (st : Store) (xs : List Dt) (st' : Store) : Prop where
  pe : PE X e (tL c st xs st')
theorem Gr.none {O O' : Addr → Prop} (g : Gr G H G' H' O O') {p : Addr} (h : H' p = Option.none) : H p = Option.none := by
  cases q : H p with
  | none => rfl
  | some o => exact absurd h (g.al p (by rw [q]; simp))
/-- a new list at p is known -/
theorem En.know {p : Addr} {vs : List V} (E : En c.K c.T c.pa G H σ st) (n : ¬ own σ st p) (hn : G p = none) (hp : H p = some (.lst vs)) : En c.K c.T c.pa (upd G p (.lst vs)) H σ st where
  ex := fun q o z => by
    by_cases y : q = p
    · subst y; rw [upd_same] at z; cases z; exact hp
    · rw [upd_ne y] at z; exact E.ex q o z
  sl := fun j s h => by
    have eG : Ex G (upd G p (.lst vs)) := Ex.new hn
    obtain ⟨w, z1, z2⟩ := E.sl j s h
    refine ⟨w, z1, ?_⟩
    cases s with
    | fr d => exact Rep.ex eG z2
    | ex _ _ _ => exact SvR.exE eG z2
    | ow ys =>
      obtain ⟨b, ws, rfl, m1, m2, m3⟩ := z2
      exact ⟨b, ws, rfl, by rw [upd_ne (fun z => n ⟨j, _, h, rfl, by rw [z1, z]⟩)]; exact m1, m2, m3.ex eG⟩
    | pr k ys =>
      obtain ⟨ws, rfl, m1, m2, m3⟩ := z2
      exact ⟨ws, rfl, by rw [upd_ne (fun z => n ⟨j, _, h, rfl, by rw [z1, z]⟩)]; exact m1, m2, m3.ex eG⟩
    | bo mm fs =>
      obtain ⟨C, ns, dx, ws, t, rfl, m1, m2, m3⟩ := z2
      exact ⟨C, ns, dx, ws, t, rfl, by rw [upd_ne (fun z => n ⟨j, _, h, rfl, by rw [z1, z]⟩)]; exact m1, m2, m3.ex eG⟩
  ds := E.ds
  len := E.len
theorem xd_xl (h : XL c X e st xs st1) : XD c X e st (.lst xs) st1 :=
  ⟨pe_weak h.pe fun σ H Q ⟨G, E, k⟩ => ⟨G, E, fun p vs G1 H1 g1 E1 no hp hn hl r => by
    refine k _ (upd G1 p (.lst vs)) H1 ⟨g1.ex.trans (Ex.new hn), fun q o z => ?_, g1.fr, g1.al, g1.ow⟩ (E1.know no hn hl) (.lst upd_same (r.ex (Ex.new hn)))
    by_cases y : q = p
    · subst y; exact .inr (.inl hp)
    · rw [upd_ne y] at z; exact g1.nw q o z⟩⟩
theorem En.notOwn {p : Addr} (E : En c.K c.T c.pa G H σ st) (h : H p = none) : ¬ own σ st p := fun q => by
  exact (E.ownAt q).2 h
/-- a new list is laid beside all -/
theorem En.lay {p : Addr} {o : HO} (E : En c.K c.T c.pa G H σ st) (h : H p = none) : En c.K c.T c.pa G (upd H p o) σ st ∧ Gr G H G (upd H p o) (own σ st) (own σ st) := by
  have kp : ∀ q u, H q = some u → upd H p o q = some u := fun q u z => by rw [upd_ne (ne_of_none z h)]; exact z
  refine ⟨⟨fun q u z => kp q u (E.ex q u z), fun j s z => ?_, E.ds, E.len⟩, ⟨Ex.refl G, fun _ _ z => .inl z, fun q u z _ => kp q u z, fun q z => ?_, fun _ z => .inl z⟩⟩
  · obtain ⟨w, z1, z2⟩ := E.sl j s z
    refine ⟨w, z1, ?_⟩
    cases s with
    | fr d => exact z2
    | ex _ _ _ => exact z2
    | ow ys => obtain ⟨b, ws, e, m1, m2, m3⟩ := z2; exact ⟨b, ws, e, m1, kp _ _ m2, m3⟩
    | pr k ys => obtain ⟨ws, e, m1, m2, m3⟩ := z2; exact ⟨ws, e, m1, kp _ _ m2, m3⟩
    | bo mm fs => obtain ⟨C, ns, dx, ws, t, e, m1, m2, m3⟩ := z2; exact ⟨C, ns, dx, ws, t, e, m1, kp _ _ m2, m3⟩
  · cases y : H q with
    | none => exact absurd y z
    | some u => rw [kp q u y]; simp
theorem xl_lst (h : XA c X es st ds st1) (hl : ds.length ≤ 100000) : XL c X (.List es pos) st ds st1 :=
  ⟨pe_weak (pe_lst h.pa) fun σ H Q ⟨G, E, k⟩ => ⟨G, E, fun vs G1 H1 g1 E1 r1 => ⟨by rw [← r1.length]; exact Nat.le_trans hl (by decide), fun p hp => by
    obtain ⟨E2, g2⟩ := E1.lay (o := .lst vs) hp
    exact k p vs G1 _ (g1.trans g2) E2 (E1.notOwn hp) (g1.none hp) (E1.ex.none hp) upd_same r1⟩⟩⟩
/-- name = a new list, kept as one's own -/
theorem En.setOw {p : Addr} {vs : List V} (E : En c.K c.T c.pa G H σ st) (n : ¬ own σ st p) (hn : G p = none) (hp : H p = some (.lst vs)) (r : Reps c.K c.T G xs vs) (i : Nat) : En c.K c.T c.pa G H (σ.set i (some (.ref p))) (st.set i (some (.ow xs))) where
  ex := E.ex
  sl := fun j s h => by
    rcases set_cases h with ⟨rfl, e, z⟩ | ⟨nj, h⟩
    · cases e
      exact ⟨_, by rw [List.getElem?_set_self (by rw [E.len]; exact z)], p, vs, rfl, hn, hp, r⟩
    · obtain ⟨w, h1, h2⟩ := E.sl j s h
      exact ⟨w, by rw [List.getElem?_set_ne (Ne.symm nj)]; exact h1, h2⟩
  ds := fun j k s t q h1 h2 o1 o2 h3 h4 => by
    rcases set_cases h1 with ⟨ej, e, z⟩ | ⟨n1, g1⟩
    · rcases set_cases h2 with ⟨ek, e', z'⟩ | ⟨n2, g2⟩
      · rw [ej, ek]
      · rw [ej, List.getElem?_set_self (by rw [E.len]; exact z)] at h3
        rw [List.getElem?_set_ne (Ne.symm n2)] at h4
        cases h3
        exact absurd ⟨k, t, g2, o2, h4⟩ n
    · rcases set_cases h2 with ⟨ek, e', z'⟩ | ⟨n2, g2⟩
      · rw [ek, List.getElem?_set_self (by rw [E.len]; exact z')] at h4
        rw [List.getElem?_set_ne (Ne.symm n1)] at h3
        cases h4
        exact absurd ⟨j, s, g1, o1, h3⟩ n
      · rw [List.getElem?_set_ne (Ne.symm n1)] at h3
        rw [List.getElem?_set_ne (Ne.symm n2)] at h4
        exact E.ds j k s t q g1 g2 o1 o2 h3 h4
  len := by rw [List.length_set, List.length_set, E.len]
theorem own_setOw {p q : Addr} (h : own (σ.set i (some (.ref p))) (st.set i (some (.ow xs))) q) : own σ st q ∨ q = p := by
  obtain ⟨j, s, h1, h2, h3⟩ := h
  rcases set_cases h1 with ⟨rfl, e, z⟩ | ⟨n, h1⟩
  · by_cases y : j < σ.length
    · rw [List.getElem?_set_self y] at h3; cases h3; exact .inr rfl
    · rw [List.getElem?_eq_none (by rw [List.length_set]; omega)] at h3; cases h3
  · rw [List.getElem?_set_ne (Ne.symm n)] at h3
    exact .inl ⟨j, s, h1, h2, h3⟩
theorem xp_setOw (i : Nat) {x : Str} {pos' : Pos} (hN : X.N.Nodup) (he : XL c X e st xs st1) (hi : X.N[i]? = some x := by rfl) (hx : Loc X.env.scope x := by first | exact Or.inl rfl | exact Or.inr rfl) (hs : swapsWith e (some (.Name x pos')) pos.line X.env = pure false := by rfl)
    (hf : X.fn x = true ∨ X.env.scope.names.lookup x = some .local := by first | exact .inl rfl | exact .inr rfl | assumption) : XP c X (.Assign [.Name x pos'] e pos) st (.nx (st1.set i (some (.ow xs)))) :=
  ⟨ps_weak (ps_set hN hi hx he.pe hs hf) fun D σ H ⟨G, E, k⟩ => ⟨G, E, fun p vs G1 H1 g1 E1 no hp hn hl r =>
    k _ G1 H1 ⟨g1.ex, g1.nw, g1.fr, g1.al, fun q z => (own_setOw z).elim (g1.ow q) fun y => .inr (by rw [y]; exact hp)⟩ (E1.setOw no hn hl r i)⟩⟩

/-! ### own lists changed -/
def Sv.with (s : Sv) (xs : List Dt) : Sv := match s with
  | .fr d => .fr d
  | .ow _ => .ow xs
  | .pr k _ => .pr k xs
  | .bo n fs => .bo n fs
  | .ex a p q => .ex a p q
inductive Sv.Has : Sv → List Dt → Prop where
  | ow {zs : List Dt} : Sv.Has (.ow zs) zs
  | pr {k : Nat} {zs : List Dt} : Sv.Has (.pr k zs) zs
theorem En.at (E : En c.K c.T c.pa G H σ st) {s : Sv} (hi : st[i]? = some (some s)) (hs : s.Has xs) : ∃ a vs, σ[i]? = some (some (.ref a)) ∧ G a = none ∧ H a = some (.lst vs) ∧ Reps c.K c.T G xs vs ∧ s.isOw = true ∧ (∀ k ys, s = .pr k ys → a = c.pa k) := by
  obtain ⟨v, h1, h2⟩ := E.sl i s hi
  cases hs with
  | ow => obtain ⟨a, vs, rfl, n, l, r⟩ := h2; exact ⟨a, vs, h1, n, l, r, rfl, fun _ _ e => nomatch e⟩
  | pr => obtain ⟨vs, rfl, n, l, r⟩ := h2; exact ⟨_, vs, h1, n, l, r, rfl, fun _ _ e => by cases e; rfl⟩
/-- the list in slot i is another one now -/
theorem En.mut {a : Addr} {vs : List V} {s : Sv} (E : En c.K c.T c.pa G H σ st) (hi : st[i]? = some (some s)) (hs : s.Has xs) (hσ : σ[i]? = some (some (.ref a))) (g : Gr G H G' H' (· = a) (· = a)) (e : Ex G' H') (hn : G' a = none) (hl : H' a = some (.lst vs)) (r : Reps c.K c.T G' ys vs) :
    En c.K c.T c.pa G' H' σ (st.set i (some (s.with ys))) ∧ Gr G H G' H' (own σ st) (own σ (st.set i (some (s.with ys)))) := by
  obtain ⟨a', ws, z1, z2, z3, z4, z5, z6⟩ := E.at hi hs
  rw [hσ] at z1
  cases z1
  have ho : own σ st a := ⟨i, s, hi, z5, hσ⟩
  have il : i < st.length := (List.getElem?_eq_some_iff.mp hi).1
  have oth : ∀ (j : Nat) t b, j ≠ i → st[j]? = some (some t) → t.isOw = true → σ[j]? = some (some (.ref b)) → b ≠ a := fun j t b nj h1 h2 h3 z => nj (E.ds j i t s a h1 hi h2 z5 (by rw [h3, z]) hσ)
  have out : ∀ b ob, G b = none → H b = some ob → b ≠ a → G' b = none ∧ H' b = some ob := fun b ob h1 h2 h3 => by
    refine ⟨?_, g.fr b ob h2 h3⟩
    cases q : G' b with
    | none => rfl
    | some u =>
      rcases g.nw b u q with y | y | y
      · rw [h1] at y; cases y
      · rw [h2] at y; cases y
      · exact absurd y h3
  refine ⟨⟨e, fun j t h => ?_, fun j k t u b h1 h2 o1 o2 h3 h4 => ?_, by rw [List.length_set]; exact E.len⟩, ⟨g.ex, fun p o q => (g.nw p o q).imp id (Or.imp id fun z => by rw [z]; exact ho), fun p o q n => g.fr p o q fun z => n (by rw [z]; exact ho), g.al, fun p q => .inl ?_⟩⟩
  · rcases set_cases h with ⟨rfl, q, z⟩ | ⟨nj, h⟩
    · cases q
      refine ⟨_, hσ, ?_⟩
      cases hs with
      | ow => exact ⟨a, vs, rfl, hn, hl, r⟩
      | pr =>
        have q := z6 _ _ rfl
        subst q
        exact ⟨vs, rfl, hn, hl, r⟩
    · obtain ⟨w, h1, h2⟩ := E.sl j t h
      refine ⟨w, h1, ?_⟩
      cases t with
      | fr d => exact Rep.ex g.ex h2
      | ex _ _ _ => exact SvR.exE g.ex h2
      | ow zs =>
        obtain ⟨b, us, rfl, m1, m2, m3⟩ := h2
        obtain ⟨q1, q2⟩ := out b _ m1 m2 (oth j _ b nj h rfl h1)
        exact ⟨b, us, rfl, q1, q2, m3.ex g.ex⟩
      | pr k zs =>
        obtain ⟨us, rfl, m1, m2, m3⟩ := h2
        obtain ⟨q1, q2⟩ := out _ _ m1 m2 (oth j _ _ nj h rfl h1)
        exact ⟨us, rfl, q1, q2, m3.ex g.ex⟩
      | bo mm fs =>
        obtain ⟨C, ns, dx, us, t, rfl, m1, m2, m3⟩ := h2
        obtain ⟨q1, q2⟩ := out _ _ m1 m2 (oth j _ _ nj h rfl h1)
        exact ⟨C, ns, dx, us, t, rfl, q1, q2, m3.ex g.ex⟩
  · have base : ∀ (j : Nat) t, (st.set i (some (s.with ys)))[j]? = some (some t) → t.isOw = true → ∃ t', st[j]? = some (some t') ∧ t'.isOw = true := fun j t h o => by
      rcases set_cases h with ⟨rfl, q, z⟩ | ⟨nj, h⟩
      · exact ⟨s, hi, z5⟩
      · exact ⟨t, h, o⟩
    obtain ⟨t', q1, q2⟩ := base j t h1 o1
    obtain ⟨u', q3, q4⟩ := base k u h2 o2
    exact E.ds j k t' u' b q1 q3 q2 q4 h3 h4
  · obtain ⟨j, t, h1, h2, h3⟩ := q
    rcases set_cases h1 with ⟨rfl, q, z⟩ | ⟨nj, h1⟩
    · exact ⟨_, s, hi, z5, h3⟩
    · exact ⟨j, t, h1, h2, h3⟩
theorem gr_upd {a : Addr} {o : HO} (e : Ex G H) (hn : G a = none) (hl : H a ≠ none) : Gr G H G (upd H a o) (· = a) (· = a) ∧ Ex G (upd H a o) :=
  ⟨⟨Ex.refl G, fun _ _ h => .inl h, fun p u h n => by rw [upd_ne n]; exact h, fun p h => by
    by_cases q : p = a
    · subst q; rw [upd_same]; simp
    · rw [upd_ne q]; exact h, fun _ h => .inl h⟩, fun p u h => by
    have n : p ≠ a := fun z => by subst z; rw [hn] at h; cases h
    rw [upd_ne n]; exact e p u h⟩
/-- x.append(e) -/
theorem xp_append (i : Nat) {s : Sv} {x : Str} {p1 apos cpos p2 : Pos} (he : XD c X e st d st1) (hK : X.K = c.K) (hi : st[i]? = some (some s)) (hi1 : st1[i]? = some (some s)) (hs : s.Has xs) (hl : xs.length < 100000) (hN : X.N[i]? = some x := by rfl) (hv : Vis X.env.scope x := by first | exact Or.inl rfl | exact Or.inr (Or.inl rfl) | exact Or.inr (Or.inr rfl)) (hd : (x == ("__debug__" : Str)) = false := by decide)
    (hcd : (x == ("__classdict__" : Str)) = false := by decide) (hline : (apos.endLine == cpos.line) = true := by rfl) (hb : attributeBase (.Name x p1) "append" X.env (eval (.Name x p1) X.env) = eval (.Name x p1) X.env := by rfl)
    (hfew : ((backTo cpos (starEach (e :: []) X.env)).all (fun x => !x.1) && (backToKw cpos (keywordEach [] X.env)).all (fun x => x.1.isSome)
      && decide ((e :: []).length + ([] : List Keyword).length + (if ([] : List Keyword).isEmpty then 0 else 1) < 30)) = true := by rfl) (hst : starEach (e :: []) X.env = (false, eval e X.env) :: starEach [] X.env := by rfl) (hsw : swapsWith (.Call (.Attribute (.Name x p1) "append" apos) [e] [] cpos) none p2.line X.env = pure false := by rfl) :
    XP c X (.Expr (.Call (.Attribute (.Name x p1) "append" apos) [e] [] cpos) p2) st (.nx (st1.set i (some (s.with (xs ++ [d]))))) :=
  ⟨ps_weak (ps_expr (pe_bm PySem.F.plainAttrs_list PySem.F.slot_list_append PySem.F.type_list_append mt_append (pe_var hN hv hd hcd) (pa_cons he.pe pa_nil hst) hb hfew hline hst) hsw) fun D σ H ⟨G, E, k⟩ => by
    obtain ⟨a, vs, z1, z2, z3, z4, z5, z6⟩ := E.at hi hs
    refine ⟨_, z1, .inl ⟨rfl, vs, by rw [hK]; exact SqL.of z3⟩, G, E, fun v G1 H1 g1 E1 r1 => ?_⟩
    obtain ⟨a', ws, y1, y2, y3, y4, y5, y6⟩ := E1.at hi1 hs
    rw [z1] at y1
    cases y1
    refine ⟨a, ws, v, rfl, rfl, y3, by rw [← y4.length]; exact Nat.lt_of_lt_of_le hl (by decide), ?_⟩
    obtain ⟨g2, e2⟩ := gr_upd (a := a) (o := .lst (ws ++ [v])) E1.ex y2 (by rw [y3]; simp)
    obtain ⟨E3, g3⟩ := E1.mut hi1 hs z1 g2 e2 y2 upd_same (y4.app (.cons r1 .nil))
    exact k _ _ _ (g1.trans g3) E3⟩
end Dv
set_option autoImplicit true
set_option maxRecDepth 100000
namespace Dv
open PySem PySem.Spec PyProof.Rows L2

variable {c : Ctx} {X : Cx} {st st1 st2 st3 st' : Store} {a b e tg iter : Expr} {es : List Expr} {d d1 d2 d' : Dt} {ds xs ys : List Dt} {pos : Pos} {G G' H H' : Hp} {σ σ' : L2.St} {v : V} {i j : Nat} {body : List Stmt} {o : Out}

/-! ### what is walked -/
structure Yld (c : Ctx) (J : It) (G0 : Hp) (ds : List Dt) : Prop where
  go : ∀ i G H, Ex G0 G → Ex G H → i < ds.length → J.go i H
  stop : ∀ i G H, Ex G0 G → Ex G H → ds.length ≤ i → J.stop i H
  yl : ∀ i G H x H', Ex G0 G → Ex G H → i < ds.length → J.yld i H x H' → ∃ G' d, Gw G H G' H' ∧ ds[i]? = some d ∧ Rep c.K c.T G' d x
def tI (c : Ctx) (st : Store) (ds : List Dt) (st' : Store) : TI := fun σ H R => ∃ G, En c.K c.T c.pa G H σ st ∧
  ∀ J G' H', Gr G H G' H' (own σ st) (own σ st') → En c.K c.T c.pa G' H' σ st' → Yld c J G' ds → R J H'
structure XI (c : Ctx) (X : Cx) (tg iter : Expr) (st : Store) (ds : List Dt) (st' : Store) : Prop where
  pi : PI X tg iter (tI c st ds st')

theorem yld_list {a : Addr} {vs : List V} {G0 : Hp} {K : PySem.W.Frag} (hK : c.K = K) (h : SqL K G0 a vs) (r : Reps c.K c.T G0 ds vs) : Yld c (Itl K a) G0 ds where
  go := fun i G H e1 e2 hi => ⟨vs, vs[i]'(by rw [← r.length]; exact hi), (e1.trans e2).sl h, List.getElem?_eq_getElem _⟩
  stop := fun i G H e1 e2 hi => ⟨vs, (e1.trans e2).sl h, by rw [← r.length]; exact hi⟩
  yl := fun i G H x H' e1 e2 hi y => by
    obtain ⟨rfl, y⟩ := y
    obtain ⟨d, h1, h2⟩ := r.getV (y vs ((e1.trans e2).sl h))
    exact ⟨G, d, Gw.refl e2, h1, h2.ex e1⟩
theorem yld_tup {a : Addr} {vs : List V} {G0 : Hp} {K : PySem.W.Frag} (hK : c.K = K) (h : SqT K G0 a vs) (r : Reps c.K c.T G0 ds vs) : Yld c (Itt K a) G0 ds where
  go := fun i G H e1 e2 hi => ⟨vs, vs[i]'(by rw [← r.length]; exact hi), (e1.trans e2).st h, List.getElem?_eq_getElem _⟩
  stop := fun i G H e1 e2 hi => ⟨vs, (e1.trans e2).st h, by rw [← r.length]; exact hi⟩
  yl := fun i G H x H' e1 e2 hi y => by
    obtain ⟨rfl, y⟩ := y
    obtain ⟨d, h1, h2⟩ := r.getV (y vs ((e1.trans e2).st h))
    exact ⟨G, d, Gw.refl e2, h1, h2.ex e1⟩
theorem xi_list (hK : X.K = c.K) (h : XD c X e st (.lst ds) st1) : XI c X tg e st ds st1 :=
  ⟨pi_weak (pi_list h.pe) fun σ H R ⟨G, E, k⟩ => ⟨G, E, fun v G1 H1 g1 E1 r1 => by
    obtain ⟨a, vs, rfl, hl, r⟩ := r1.lst_inv
    exact ⟨a, rfl, ⟨vs, .inl (.inl (E1.ex _ _ hl))⟩, k _ G1 H1 g1 E1 (yld_list hK.symm (.inl (.inl hl)) r)⟩⟩⟩
theorem xi_ro (hK : X.K = c.K) (h : XD c X e st (.ro ds) st1) : XI c X tg e st ds st1 :=
  ⟨pi_weak (pi_list h.pe) fun σ H R ⟨G, E, k⟩ => ⟨G, E, fun v G1 H1 g1 E1 r1 => by
    obtain ⟨a, vs, rfl, hl, r⟩ := r1.ro_inv
    rw [← hK] at hl
    exact ⟨a, rfl, ⟨vs, E1.ex.sl hl⟩, k _ G1 H1 g1 E1 (yld_list hK.symm hl r)⟩⟩⟩
theorem xi_tup (hK : X.K = c.K) (h : XD c X e st (.tup ds) st1) : XI c X tg e st ds st1 :=
  ⟨pi_weak (pi_tup h.pe) fun σ H R ⟨G, E, k⟩ => ⟨G, E, fun v G1 H1 g1 E1 r1 => by
    obtain ⟨a, vs, rfl, hl, r⟩ := r1.tup_inv
    rw [← hK] at hl
    exact ⟨a, rfl, ⟨vs, E1.ex.st hl⟩, k _ G1 H1 g1 E1 (yld_tup hK.symm hl r)⟩⟩⟩
/-- an own list walked by a name -/
theorem yld_range {G0 : Hp} {lo : Int} {n : Nat} : Yld c (Itr lo n) G0 ((List.range n).map fun (i : Nat) => .int (lo + (i : Int))) where
  go := fun i G H _ _ hi => by
    show i < n
    simpa using hi
  stop := fun i G H _ _ hi => by
    show n ≤ i
    simpa using hi
  yl := fun i G H x H' _ e2 hi y => by
    obtain ⟨rfl, rfl⟩ := y
    have hi' : i < n := by simpa using hi
    exact ⟨G, _, Gw.refl e2, by rw [List.getElem?_map, List.getElem?_range hi']; rfl, .int⟩
theorem xi_range1 {a : Expr} {p pos : Pos} {n : Int} (ha : XD c X a st (.int n) st1) (hn : n < 2 ^ 62) (hn0 : -(2 ^ 62) ≤ n) (hm : X.mg "range" = none) (hg : Gl X "range" := by rfl) (hs : starEach [a] X.env = [(false, eval a X.env)] := by rfl) :
    XI c X tg (.Call (.Name "range" p) [a] [] pos) st ((List.range n.toNat).map fun (i : Nat) => .int (i : Int)) st1 :=
  ⟨pi_weak (pi_range1 hg hm (pa_cons ha.pe pa_nil (by rw [hs]; rfl)) hs) fun σ H R ⟨G, E, k⟩ => ⟨G, E, fun v G1 H1 g1 E1 r1 => by
    cases r1
    refine ⟨n, rfl, hn0, hn, k _ G1 H1 g1 E1 ?_⟩
    have q := yld_range (c := c) (G0 := G1) (lo := 0) (n := n.toNat)
    have e : (fun i : Nat => Dt.int (0 + (i : Int))) = fun i : Nat => Dt.int (i : Int) := by funext i; rw [Int.zero_add]
    rw [e] at q
    exact q⟩⟩
theorem xi_range2 {a b : Expr} {p pos : Pos} {lo n : Int} (ha : XA c X [a, b] st [.int lo, .int n] st1) (hl : -(2 ^ 62) ≤ lo ∧ lo < 2 ^ 62 ∧ -(2 ^ 62) ≤ n ∧ n < 2 ^ 62) (hm : X.mg "range" = none) (hg : Gl X "range" := by rfl) (hs : starEach [a, b] X.env = [(false, eval a X.env), (false, eval b X.env)] := by rfl) (hs2 : starEach [b] X.env = [(false, eval b X.env)] := by rfl) :
    XI c X tg (.Call (.Name "range" p) [a, b] [] pos) st ((List.range (n - lo).toNat).map fun (i : Nat) => .int (lo + (i : Int))) st1 :=
  ⟨pi_weak (pi_range2 hg hm ha.pa hs hs2) fun σ H R ⟨G, E, k⟩ => ⟨G, E, fun v G1 H1 g1 E1 r1 => by
    cases r1 with
    | cons r r1 =>
      cases r1 with
      | cons r' r1 =>
        cases r1; cases r; cases r'
        exact ⟨lo, n, rfl, hl, k _ G1 H1 g1 E1 yld_range⟩⟩⟩
theorem xi_str {x : Str} (h : XD c X e st (.str x) st1) : XI c X tg e st (x.cps.toList.map fun q => .str ⟨#[q]⟩) st1 :=
  ⟨pi_weak (pi_str h.pe) fun σ H R ⟨G, E, k⟩ => ⟨G, E, fun v G1 H1 g1 E1 r1 => by
    cases r1
    refine ⟨x, rfl, k _ G1 H1 g1 E1 ⟨fun i G H _ _ hi => ?_, fun i G H _ _ hi => ?_, fun i G H y H' _ e2 hi q => ?_⟩⟩
    · show i < x.cps.size
      simpa using hi
    · show x.cps.size ≤ i
      simpa using hi
    · obtain ⟨rfl, q, h1, rfl⟩ := q
      exact ⟨G, _, Gw.refl e2, by rw [List.getElem?_map]; simp [h1], .str⟩⟩⟩

/-! ### for -/
def tAny (c : Ctx) (X : Cx) (body : List Stmt) : TS := fun D σ H => ∃ st o, XS c X body st o ∧ tO c st o D σ H
theorem pss_any : PSs X body (tAny c X body) := ⟨fun pins s σ H D I ⟨st, o, h, q⟩ => h.pss.run pins s σ H D I q⟩
def gAny (c : Ctx) (X : Cx) (tg : Expr) : TG := fun v σ H Q => ∃ d st st', XG c X tg d st st' ∧ gD c d st st' v σ H Q
theorem pg_any : PG X tg (gAny c X tg) := ⟨fun pins s σ H v u Q I r ⟨d, st, st', h, q⟩ => h.pg.run pins s σ H v u Q I r q⟩
def ttAny (c : Ctx) (X : Cx) (t : Expr) : TT := fun σ H Q => ∃ st b st', XT c X t st b st' ∧ tB' c st b st' σ H Q
theorem pt_any {t : Expr} : PT X t (ttAny c X t) := ⟨fun pins s σ H Q I ⟨st, b, st', h, q⟩ => h.pt.run pins s σ H Q I q⟩

/-- one turn that goes on -/
def Turns (c : Ctx) (X : Cx) (tg : Expr) (body : List Stmt) (d : Dt) (s s' : Store) : Prop := ∃ t, XG c X tg d s t ∧ (XS c X body t (.nx s') ∨ XS c X body t (.ct s'))
/-- the last turn -/
def Leaves (c : Ctx) (X : Cx) (tg : Expr) (body : List Stmt) (d : Dt) (s : Store) (o : Out) : Prop := ∃ t, XG c X tg d s t ∧ ((∃ r s', o = .rt r s' ∧ XS c X body t (.rt r s')) ∨ (∃ s', o = .nx s' ∧ XS c X body t (.bk s')))
theorem xp_for (S : Nat → Store) (hi : XI c X tg iter st ds (S 0)) (hb : ∀ i d, ds[i]? = some d → Turns c X tg body d (S i) (S (i + 1))) (hc : X.calm = true := by rfl) (hp : PassesOwn (model X.prog X.w) X.A X.env X.xe := by exact PassesOwn.never)
    (hs : ∀ x, foldedSetIterable iter X.env x = pure x := by intro _; rfl) : XP c X (.For tg iter body [] pos) st (.nx (S ds.length)) :=
  ⟨ps_weak (ps_for hp hc hi.pi (pg_any (c := c)) (pss_any (c := c)) hs) fun D σ0 H0 ⟨G, E, k⟩ => ⟨G, E, fun J G1 H1 g1 E1 y => by
    refine ⟨fun i m σ H => m = ds.length - i ∧ i ≤ ds.length ∧ ∃ G', Gr G1 H1 G' H (own σ0 (S 0)) (own σ (S i)) ∧ En c.K c.T c.pa G' H σ (S i), ⟨_, rfl, Nat.zero_le _, G1, Gr.refl, E1⟩, ?_⟩
    rintro i m σ H ⟨rfl, hi, G', g', E'⟩
    by_cases hlt : i < ds.length
    · refine .inr ⟨y.go i G' H g'.ex E'.ex hlt, fun σ2 H2 => ∃ G2, Gr G1 H1 G2 H2 (own σ0 (S 0)) (own σ2 (S (i + 1))) ∧ En c.K c.T c.pa G2 H2 σ2 (S (i + 1)), fun σ2 H2 q => ⟨ds.length - (i + 1), by omega, rfl, hlt, q⟩, fun x H2 yl => ?_⟩
      obtain ⟨G2, d, w, hd, rd⟩ := y.yl i G' H x H2 g'.ex E'.ex hlt yl
      obtain ⟨t, hg, hx⟩ := hb i d hd
      refine ⟨d, S i, t, hg, G2, E'.g1 w, rd, fun σ3 G3 H3 g3 E3 => ?_⟩
      have g4 := (g'.trans w.gr).trans g3
      rcases hx with hx | hx
      · exact ⟨t, _, hx, G3, E3, fun σ5 G5 H5 g5 E5 => ⟨G5, g4.trans g5, E5⟩⟩
      · exact ⟨t, _, hx, G3, E3, fun σ5 G5 H5 g5 E5 => ⟨G5, g4.trans g5, E5⟩⟩
    · have e : i = ds.length := by omega
      subst e
      exact .inl ⟨y.stop _ G' H g'.ex E'.ex (Nat.le_refl _), k σ G' H (g1.trans g') E'⟩⟩⟩
theorem xp_forX (S : Nat → Store) (m : Nat) (hm : ds[m]? = some d) (hi : XI c X tg iter st ds (S 0)) (hb : ∀ i d, i < m → ds[i]? = some d → Turns c X tg body d (S i) (S (i + 1))) (hl : Leaves c X tg body d (S m) o) (hc : X.calm = true := by rfl) (hp : PassesOwn (model X.prog X.w) X.A X.env X.xe := by exact PassesOwn.never)
    (hs : ∀ x, foldedSetIterable iter X.env x = pure x := by intro _; rfl) : XP c X (.For tg iter body [] pos) st o :=
  ⟨ps_weak (ps_for hp hc hi.pi (pg_any (c := c)) (pss_any (c := c)) hs) fun D σ0 H0 ⟨G, E, k⟩ => ⟨G, E, fun J G1 H1 g1 E1 y => by
    have ml : m < ds.length := (List.getElem?_eq_some_iff.mp hm).1
    refine ⟨fun i n σ H => n = m - i ∧ i ≤ m ∧ ∃ G', Gr G1 H1 G' H (own σ0 (S 0)) (own σ (S i)) ∧ En c.K c.T c.pa G' H σ (S i), ⟨_, rfl, Nat.zero_le _, G1, Gr.refl, E1⟩, ?_⟩
    rintro i n σ H ⟨rfl, hi, G', g', E'⟩
    by_cases hlt : i < m
    · refine .inr ⟨y.go i G' H g'.ex E'.ex (by omega), fun σ2 H2 => ∃ G2, Gr G1 H1 G2 H2 (own σ0 (S 0)) (own σ2 (S (i + 1))) ∧ En c.K c.T c.pa G2 H2 σ2 (S (i + 1)), fun σ2 H2 q => ⟨m - (i + 1), by omega, rfl, hlt, q⟩, fun x H2 yl => ?_⟩
      obtain ⟨G2, d, w, hd, rd⟩ := y.yl i G' H x H2 g'.ex E'.ex (by omega) yl
      obtain ⟨t, hg, hx⟩ := hb i d hlt hd
      refine ⟨d, S i, t, hg, G2, E'.g1 w, rd, fun σ3 G3 H3 g3 E3 => ?_⟩
      have g4 := (g'.trans w.gr).trans g3
      rcases hx with hx | hx
      · exact ⟨t, _, hx, G3, E3, fun σ5 G5 H5 g5 E5 => ⟨G5, g4.trans g5, E5⟩⟩
      · exact ⟨t, _, hx, G3, E3, fun σ5 G5 H5 g5 E5 => ⟨G5, g4.trans g5, E5⟩⟩
    · have e : i = m := by omega
      subst e
      refine .inr ⟨y.go i G' H g'.ex E'.ex ml, fun _ _ => False, fun _ _ q => q.elim, fun x H2 yl => ?_⟩
      obtain ⟨G2, d', w, hd, rd⟩ := y.yl i G' H x H2 g'.ex E'.ex ml yl
      rw [hm] at hd
      cases hd
      obtain ⟨t, hg, hx⟩ := hl
      refine ⟨d, S i, t, hg, G2, E'.g1 w, rd, fun σ3 G3 H3 g3 E3 => ?_⟩
      have g4 := g1.trans ((g'.trans w.gr).trans g3)
      rcases hx with ⟨r, s', rfl, hx⟩ | ⟨s', rfl, hx⟩
      · exact ⟨t, _, hx, G3, E3, fun v σ5 G5 H5 g5 E5 r5 => k v σ5 G5 H5 (g4.trans g5) E5 r5⟩
      · exact ⟨t, _, hx, G3, E3, fun σ5 G5 H5 g5 E5 => k σ5 G5 H5 (g4.trans g5) E5⟩⟩⟩

/-! ### while -/
theorem xp_while {t : Expr} (S S' : Nat → Store) (n : Nat) (hb : ∀ i, i < n → XT c X t (S i) true (S' i) ∧ (XS c X body (S' i) (.nx (S (i + 1))) ∨ XS c X body (S' i) (.ct (S (i + 1))))) (he : XT c X t (S n) false st1) (hp : PassesOwn (model X.prog X.w) X.A X.env X.xe := by exact PassesOwn.never) :
    XP c X (.While t body [] pos) (S 0) (.nx st1) :=
  ⟨ps_weak (ps_while hp (pt_any (c := c)) (pss_any (c := c))) fun D σ0 H0 ⟨G, E, k⟩ => by
    refine ⟨fun m σ H => ∃ i, i ≤ n ∧ m = n - i ∧ ∃ G', Gr G H0 G' H (own σ0 (S 0)) (own σ (S i)) ∧ En c.K c.T c.pa G' H σ (S i), ⟨n, 0, Nat.zero_le _, rfl, G, Gr.refl, E⟩, ?_⟩
    rintro m σ H ⟨i, hi, rfl, G', g', E'⟩
    by_cases hlt : i < n
    · obtain ⟨ht, hx⟩ := hb i hlt
      refine ⟨_, _, _, ht, G', E', fun G1 H1 g1 E1 => ?_⟩
      refine L2.iteT ⟨fun σ2 H2 => ∃ G2, Gr G H0 G2 H2 (own σ0 (S 0)) (own σ2 (S (i + 1))) ∧ En c.K c.T c.pa G2 H2 σ2 (S (i + 1)), fun σ2 H2 q => ⟨n - (i + 1), by omega, i + 1, hlt, rfl, q⟩, ?_⟩
      have g4 := g'.trans g1
      rcases hx with hx | hx
      · exact ⟨_, _, hx, G1, E1, fun σ5 G5 H5 g5 E5 => ⟨G5, g4.trans g5, E5⟩⟩
      · exact ⟨_, _, hx, G1, E1, fun σ5 G5 H5 g5 E5 => ⟨G5, g4.trans g5, E5⟩⟩
    · have e : i = n := by omega
      subst e
      refine ⟨_, _, _, he, G', E', fun G1 H1 g1 E1 => ?_⟩
      exact L2.iteF (k σ G1 H1 (g'.trans g1) E1)⟩

/-! ### comprehensions of one name -/
theorem wipe_get {σ : L2.St} {i : Nat} : ∀ {vs : List Nat}, i ∉ vs → (wipe σ vs)[i]? = σ[i]?
  | [], _ => rfl
  | q :: vs, ni => by
    unfold wipe
    rw [List.getElem?_set_ne (fun z => ni (by rw [z]; exact List.mem_cons_self))]
    exact wipe_get fun z => ni (List.mem_cons_of_mem _ z)
theorem En.forget {vs : List Nat} (E : En c.K c.T c.pa G H σ st) (hn : ∀ i ∈ vs, st[i]? = some none) : En c.K c.T c.pa G H (wipe σ vs) st := by
  have keep : ∀ (i : Nat) (s : Sv), st[i]? = some (some s) → (wipe σ vs)[i]? = σ[i]? := fun i s h => wipe_get fun z => by rw [hn i z] at h; cases h
  exact ⟨E.ex, fun i s h => by rw [keep i s h]; exact E.sl i s h, fun i j s t a h1 h2 o1 o2 h3 h4 => E.ds i j s t a h1 h2 o1 o2 (by rw [← keep i s h1]; exact h3) (by rw [← keep j t h2]; exact h4), by rw [wipe_length]; exact E.len⟩
theorem En.remember {vs : List Nat} (E : En c.K c.T c.pa G H (wipe σ vs) st) (hn : ∀ i ∈ vs, st[i]? = some none) : En c.K c.T c.pa G H σ st := by
  have keep : ∀ (i : Nat) (s : Sv), st[i]? = some (some s) → (wipe σ vs)[i]? = σ[i]? := fun i s h => wipe_get fun z => by rw [hn i z] at h; cases h
  exact ⟨E.ex, fun i s h => by rw [← keep i s h]; exact E.sl i s h, fun i j s t a h1 h2 o1 o2 h3 h4 => E.ds i j s t a h1 h2 o1 o2 (by rw [keep i s h1]; exact h3) (by rw [keep j t h2]; exact h4), by rw [← wipe_length σ vs]; exact E.len⟩
theorem own_wipe {vs : List Nat} {p : Addr} (hn : ∀ i ∈ vs, st[i]? = some none) : own (wipe σ vs) st p ↔ own σ st p := by
  have keep : ∀ (i : Nat) (s : Sv), st[i]? = some (some s) → (wipe σ vs)[i]? = σ[i]? := fun i s h => wipe_get fun z => by rw [hn i z] at h; cases h
  exact ⟨fun ⟨i, s, h1, h2, h3⟩ => ⟨i, s, h1, h2, by rw [← keep i s h1]; exact h3⟩, fun ⟨i, s, h1, h2, h3⟩ => ⟨i, s, h1, h2, by rw [keep i s h1]; exact h3⟩⟩

/-- the block's context -/
abbrev BlkC (X : Cx) (s : Shared) (H : Hp) (scope : Scope) (C : Addr) (cl : List (Str × Addr)) (fp : List Addr) : Cx := X.blk s H scope (compEnvC scope cl C X.env) fp
/-- what a turn gives: nothing, or a value -/
def collect : List (Option Dt) → List Dt
  | [] => []
  | none :: r => collect r
  | some d :: r => d :: collect r
theorem collect_app : ∀ (xs ys : List (Option Dt)), collect (xs ++ ys) = collect xs ++ collect ys
  | [], _ => rfl
  | none :: r, ys => collect_app r ys
  | some d :: r, ys => congrArg (d :: ·) (collect_app r ys)
theorem collect_len : ∀ (xs : List (Option Dt)), (collect xs).length ≤ xs.length
  | [] => Nat.le_refl _
  | none :: r => Nat.le_succ_of_le (collect_len r)
  | some d :: r => Nat.succ_le_succ (collect_len r)
/-- the tests of one turn -/
inductive Tests (c : Ctx) (X : Cx) (scope : Scope) : List Expr → Store → Bool → Store → Prop where
  | nil {s} : Tests c X scope [] s true s
  | one {t s b s'} : (∀ sh H C cl fp, XT c (BlkC X sh H scope C cl fp) t s b s') → Tests c X scope [t] s b s'
def ttTests (c : Ctx) (X : Cx) (scope : Scope) : List Expr → TT
  | [] => tYes
  | [t] => fun σ H Q => ∃ s b s', (∀ sh H C cl fp, XT c (BlkC X sh H scope C cl fp) t s b s') ∧ tB' c s b s' σ H Q
  | _ => fun _ _ _ => False
theorem pts_tests {scope : Scope} (ifs : List Expr) (hl : ifs.length ≤ 1) (s : Shared) (H : Hp) (C : Addr) (cl : List (Str × Addr)) (fp : List Addr) : PTs (BlkC X s H scope C cl fp) ifs (ttTests c X scope ifs) := by
  match ifs, hl with
  | [], _ => exact pts_nil
  | [t], _ => exact pts_one ⟨fun pins s' σ H' Q I ⟨st, b, st', h, q⟩ => (h s H C cl fp).pt.run pins s' σ H' Q I q⟩
/-- the slots of the comprehension's names are empty again -/
def wipeS (s : Store) : List Nat → Store
  | [] => s
  | v :: vs => (wipeS s vs).set v none
theorem En.unset {i : Nat} (E : En c.K c.T c.pa G H σ st) : En c.K c.T c.pa G H (σ.set i none) (st.set i none) where
  ex := E.ex
  sl := fun j s h => by
    rcases set_cases h with ⟨_, e, _⟩ | ⟨n, h⟩
    · cases e
    · obtain ⟨w, h1, h2⟩ := E.sl j s h
      exact ⟨w, by rw [List.getElem?_set_ne (Ne.symm n)]; exact h1, h2⟩
  ds := fun j k s t p h1 h2 o1 o2 h3 h4 => by
    rcases set_cases h1 with ⟨_, e, _⟩ | ⟨n, h1⟩
    · cases e
    · rcases set_cases h2 with ⟨_, e, _⟩ | ⟨n', h2⟩
      · cases e
      · rw [List.getElem?_set_ne (Ne.symm n)] at h3
        rw [List.getElem?_set_ne (Ne.symm n')] at h4
        exact E.ds j k s t p h1 h2 o1 o2 h3 h4
  len := by rw [List.length_set, List.length_set, E.len]
theorem own_unset {i : Nat} {p : Addr} (h : own (σ.set i none) (st.set i none) p) : own σ st p := by
  obtain ⟨j, s, h1, h2, h3⟩ := h
  rcases set_cases h1 with ⟨_, e, _⟩ | ⟨n, h1⟩
  · cases e
  · rw [List.getElem?_set_ne (Ne.symm n)] at h3
    exact ⟨j, s, h1, h2, h3⟩
theorem En.wipeS (E : En c.K c.T c.pa G H σ st) : ∀ vs : List Nat, En c.K c.T c.pa G H (wipe σ vs) (wipeS st vs)
  | [] => E
  | _ :: vs => (E.wipeS vs).unset
theorem own_wipeS {p : Addr} : ∀ {vs : List Nat}, own (wipe σ vs) (wipeS st vs) p → own σ st p
  | [], h => h
  | _ :: _, h => own_wipeS (own_unset h)
/-- a target of a comprehension, on data: d is stored, s becomes s' -/
structure Tgt (c : Ctx) (g : TG) (vs : List Nat) (d : Dt) (s s' : Store) : Prop where
  go : ∀ (σ : L2.St) (G H : Hp) (x : V) (Q : L2.St → Hp → Prop), En c.K c.T c.pa G H (wipe σ vs) s → Rep c.K c.T G d x →
    (∀ σ2, wipe σ2 vs = wipe σ vs → En c.K c.T c.pa G H σ2 s' → (∀ p, own σ2 s' p → own (wipe σ vs) s p) → Q σ2 H) → g x (wipe σ vs) H Q
theorem tgt_name {jx : Nat} {s : Store} : Tgt c (gName jx) [jx] d s (s.set jx (some (.fr d))) := ⟨fun σ G H x Q E r k => by
  refine k _ ?_ (E.setFr r jx) fun p h => own_setFr h
  show (((σ.set jx none).set jx (some x)).set jx none) = σ.set jx none
  rw [List.set_set, List.set_set]⟩
theorem tgt_pair {K : PySem.W.Frag} {j1 j2 : Nat} {s : Store} (hK : c.K = K) (hj : j1 ≠ j2) : Tgt c (gTup K 2 (gCons (gName j1) (gCons (gName j2) gNil))) [j1, j2] (.tup [d1, d2]) s ((s.set j1 (some (.fr d1))).set j2 (some (.fr d2))) := ⟨fun σ G H x Q E r k => by
  obtain ⟨a, vs, rfl, h1, h2⟩ := r.tup_inv
  cases h2 with
  | cons r1 h2 =>
    cases h2 with
    | cons r2 h2 =>
      cases h2
      refine ⟨a, _, rfl, by rw [← hK]; exact E.ex.st h1, rfl, _, _, rfl, _, _, rfl, rfl, k _ ?_ ((E.setFr r1 j1).setFr r2 j2) fun p h => own_setFr (own_setFr h)⟩
      show ((((((σ.set j2 none).set j1 none).set j1 (some _)).set j2 (some _)).set j2 none).set j1 none) = (σ.set j2 none).set j1 none
      rw [List.set_set, List.set_set, List.set_comm _ _ hj]
      rw [List.set_set]
      first
        | rfl
        | (rw [List.set_set])
        | (rw [List.set_comm _ _ hj, List.set_set])⟩
/-- one turn: the item is stored; then the tests; then the element -/
def LcTurn (c : Ctx) (X : Cx) (g : TG) (vs : List Nat) (scope : Scope) (ifs : List Expr) (elt : Expr) (d : Dt) (s : Store) (r : Option Dt) (s' : Store) : Prop :=
  ∃ s0 b s1, Tgt c g vs d s s0 ∧ Tests c X scope ifs s0 b s1 ∧
    ((b = false ∧ r = none ∧ s' = wipeS s1 vs) ∨ (b = true ∧ ∃ v s2, r = some v ∧ s' = wipeS s2 vs ∧ ∀ sh H C cl fp, XD c (BlkC X sh H scope C cl fp) elt s1 v s2))
def teAny (c : Ctx) (X : Cx) (scope : Scope) (elt : Expr) : TE := fun σ H Q => ∃ s v s2, (∀ sh H C cl fp, XD c (BlkC X sh H scope C cl fp) elt s v s2) ∧ tD c s v s2 σ H Q
theorem pe_teAny {scope : Scope} {elt : Expr} (s : Shared) (H : Hp) (C : Addr) (cl : List (Str × Addr)) (fp : List Addr) : PE (BlkC X s H scope C cl fp) elt (teAny c X scope elt) :=
  ⟨fun pins s' σ H' Q I ⟨st, v, s2, h, q⟩ => (h s H C cl fp).pe.run pins s' σ H' Q I q⟩
/-- the comprehension's reading, from its turns: rs what they give, S the stores between them -/
theorem lc_go {g : TG} {vw : List Nat} {scope : Scope} {ifs : List Expr} {elt : Expr} {wi : TI} {S : Nat → Store} {rs : List (Option Dt)} (hwi : ∀ σ H R, tI c st ds (S 0) σ H R → wi σ H R) (hlen : rs.length = ds.length) (hsz : ds.length ≤ 100000)
    (hn : ∀ i, i ≤ ds.length → ∀ q ∈ vw, (S i)[q]? = some none) (hb : ∀ i d r, ds[i]? = some d → rs[i]? = some r → LcTurn c X g vw scope ifs elt d (S i) r (S (i + 1))) :
    ∀ σ H Q, tL c st (collect rs) (S ds.length) σ H Q → tLc wi g (ttTests c X scope ifs) (teAny c X scope elt) vw σ H Q := fun σ H Q ⟨G, E, k⟩ => hwi σ H _ ⟨G, E, fun J G1 H1 g1 E1 y D hD => by
  have F1 := E1.forget (hn 0 (Nat.zero_le _))
  let I := fun (i m : Nat) (H' : Hp) => m = ds.length - i ∧ i ≤ ds.length ∧ ∃ G' vs, Gr G1 H1 G' H' (own σ (S 0)) (own σ (S i)) ∧ En c.K c.T c.pa G' H' (wipe σ vw) (S i) ∧ G' D = none ∧ ¬ own σ (S i) D ∧ H' D = some (.lst vs) ∧ Reps c.K c.T G' (collect (rs.take i)) vs
  have nO : ¬ own σ (S 0) D := E1.notOwn hD
  refine ⟨I, ⟨_, rfl, Nat.zero_le _, G1, [], (E1.lay hD).2, (F1.lay hD).1, E1.ex.none hD, nO, upd_same, .nil⟩, ?_⟩
  rintro i m H' ⟨rfl, hi, G', vs, g', E', hGD, hOD, hHD, rv⟩
  by_cases hlt : i < ds.length
  · refine .inr ⟨y.go i G' H' g'.ex E'.ex hlt, fun H2 => I (i + 1) (ds.length - (i + 1)) H2, fun H2 q => ⟨_, by omega, q⟩, fun x H2 yl => ?_⟩
    obtain ⟨G2, d, w, hd, rd⟩ := y.yl i G' H' x H2 g'.ex E'.ex hlt yl
    have hri : rs[i]? = some (rs[i]'(by omega)) := List.getElem?_eq_getElem _
    obtain ⟨s0, b, s1, hg, hT, hE⟩ := hb i d _ hd hri
    refine hg.go σ G2 H2 x _ (E'.g1 w) rd fun σ2 hw E2 ho2 => ⟨hw, ?_⟩
    have ow : ∀ p, own (wipe σ vw) (S i) p ↔ own σ (S i) p := fun p => own_wipe (hn i hi)
    have g2 : Gr G1 H1 G2 H2 (own σ (S 0)) (own σ2 s0) := g'.trans ((w.gr.weakO ho2).fromO fun p h => (ow p).mp h)
    have notO : ∀ (O2 O3 : Addr → Prop) (Ga Ha Gb Hb : Hp), Gr Ga Ha Gb Hb O2 O3 → Ha D ≠ none → ¬ O2 D → ¬ O3 D := fun O2 O3 Ga Ha Gb Hb g h1 h2 h3 => (g.ow D h3).elim h2 h1
    have hHD2 : H2 D = some (.lst vs) := w.hx _ _ hHD
    have hGD2 : G2 D = none := by
      cases q : G2 D with
      | none => rfl
      | some u =>
        rcases w.nw D u q with z | z
        · rw [hGD] at z; cases z
        · rw [hHD] at z; cases z
    have hOD2 : ¬ own σ2 s0 D := fun z => hOD ((ow D).mp (ho2 D z))
    -- the slots behind the turn
    have back : ∀ {Ga Ha : Hp} {sx : Store}, En c.K c.T c.pa Ga Ha σ2 sx → S (i + 1) = wipeS sx vw → En c.K c.T c.pa Ga Ha (wipe σ vw) (S (i + 1)) := fun {Ga Ha sx} E es => by
      rw [es, ← hw]; exact E.wipeS vw
    have ownB : ∀ {sx : Store}, S (i + 1) = wipeS sx vw → ∀ p, own σ (S (i + 1)) p → own σ2 sx p := fun {sx} es p h => by
      have h' := (own_wipe (hn (i + 1) hlt)).mpr h
      rw [es, ← hw] at h'
      exact own_wipeS h'
    have key : ∀ G3 H3, Gr G2 H2 G3 H3 (own σ2 s0) (own σ2 s1) → En c.K c.T c.pa G3 H3 σ2 s1 →
        (if b = true then teAny c X scope elt σ2 H3 (fun y' H4 => ∃ acc, H4 D = some (.lst acc) ∧ acc.length < sizeLine ∧ I (i + 1) (ds.length - (i + 1)) (upd H4 D (.lst (acc ++ [y'])))) else I (i + 1) (ds.length - (i + 1)) H3) := fun G3 H3 g3 E3 => by
      have hOD3 := notO _ _ _ _ _ _ g3 (by rw [hHD2]; simp) hOD2
      have hHD3 : H3 D = some (.lst vs) := g3.fr D _ hHD2 hOD2
      have stay : ∀ {Ga Ha Gb Hb : Hp} {O2 O3 : Addr → Prop}, Gr Ga Ha Gb Hb O2 O3 → Ga D = none → (∃ u, Ha D = some u) → ¬ O2 D → Gb D = none := fun {Ga Ha Gb Hb O2 O3} g h1 ⟨u, h2⟩ h3 => by
        cases q : Gb D with
        | none => rfl
        | some u =>
          rcases g.nw D u q with z | z | z
          · rw [h1] at z; cases z
          · rw [h2] at z; cases z
          · exact absurd z h3
      have hGD3 : G3 D = none := stay g3 hGD2 ⟨_, hHD2⟩ hOD2
      have take : rs.take (i + 1) = rs.take i ++ [rs[i]'(by omega)] := by rw [List.take_succ, hri]; rfl
      rcases hE with ⟨rfl, er, es'⟩ | ⟨rfl, v, s2, er, es', hv⟩
      · refine L2.iteF ?_
        refine ⟨rfl, hlt, G3, vs, (g2.trans g3).weakO (ownB es'), back E3 es', hGD3, fun z => hOD3 (ownB es' D z), hHD3, ?_⟩
        rw [take, collect_app, er]
        show Reps _ _ _ (collect (rs.take i) ++ []) vs
        rw [List.append_nil]
        exact (rv.ex w.ex).ex g3.ex
      · refine L2.iteT ?_
        refine ⟨s1, v, s2, hv, G3, E3, fun y' G4 H4 g4 E4 r4 => ?_⟩
        have hOD4 := notO _ _ _ _ _ _ g4 (by rw [hHD3]; simp) hOD3
        have hHD4 : H4 D = some (.lst vs) := g4.fr D _ hHD3 hOD3
        have hGD4 : G4 D = none := stay g4 hGD3 ⟨_, hHD3⟩ hOD3
        have lv : vs.length ≤ ds.length := by
          rw [← rv.length]
          refine Nat.le_trans (collect_len _) ?_
          rw [List.length_take]; omega
        refine ⟨vs, hHD4, Nat.lt_of_le_of_lt lv (Nat.lt_of_le_of_lt hsz (by decide)), ?_⟩
        have E5 := back E4 es'
        have nD5 : ¬ own σ (S (i + 1)) D := fun z => hOD4 (ownB es' D z)
        have g5 := (g2.trans (g3.trans g4)).weakO (ownB es')
        refine ⟨rfl, hlt, G4, vs ++ [y'], ⟨g5.ex, g5.nw, fun p o h n => ?_, fun p h => ?_, g5.ow⟩, ⟨fun p o h => ?_, fun j s h => ?_, E5.ds, E5.len⟩, hGD4, nD5, upd_same, ?_⟩
        · rw [upd_ne (ne_of_none h hD)]; exact g5.fr p o h n
        · by_cases z : p = D
          · subst z; rw [upd_same]; simp
          · rw [upd_ne z]; exact g5.al p h
        · have z : p ≠ D := fun z => by subst z; rw [hGD4] at h; cases h
          rw [upd_ne z]; exact E5.ex p o h
        · obtain ⟨w', q1, q2⟩ := E5.sl j s h
          have noD : ∀ q, s.isOw = true → w' = .ref q → q ≠ D := fun q o z1 z2 => nD5 ((own_wipe (hn (i + 1) hlt)).mp ⟨j, s, h, o, by rw [q1, z1, z2]⟩)
          refine ⟨w', q1, ?_⟩
          cases s with
          | fr d => exact q2
          | ex _ _ _ => exact q2
          | ow ys =>
            obtain ⟨b, ws, e, m1, m2, m3⟩ := q2
            exact ⟨b, ws, e, m1, by rw [upd_ne (noD b rfl e)]; exact m2, m3⟩
          | pr kk ys =>
            obtain ⟨ws, e, m1, m2, m3⟩ := q2
            exact ⟨ws, e, m1, by rw [upd_ne (noD _ rfl e)]; exact m2, m3⟩
          | bo mm fs =>
            obtain ⟨C, ns, dx, ws, t, e, m1, m2, m3⟩ := q2
            exact ⟨C, ns, dx, ws, t, e, m1, by rw [upd_ne (noD _ rfl e)]; exact m2, m3⟩
        · rw [take, collect_app, er]
          exact ((((rv.ex w.ex).ex g3.ex).ex g4.ex)).app (.cons r4 .nil)
    cases hT with
    | nil => exact key G2 H2 Gr.refl E2
    | one h => exact ⟨_, b, s1, h, G2, E2, fun G3 H3 g3 E3 => key G3 H3 g3 E3⟩
  · have e : i = ds.length := by omega
    subst e
    refine .inl ⟨y.stop _ G' H' g'.ex E'.ex (Nat.le_refl _), ?_⟩
    rw [List.take_of_length_le (by omega)] at rv
    exact k D vs G' H' (g1.trans g') (E'.remember (hn _ (Nat.le_refl _))) hOD (g1.none hD) hGD hHD rv⟩
theorem xl_lc {scope : Scope} {ifs : List Expr} {elt tg : Expr} {g : TG} {ow : List (Str × Nat)} (S : Nat → Store) (rs : List (Option Dt)) (hN : X.N.Nodup) (hi : XI c X tg iter st ds (S 0)) (hlen : rs.length = ds.length) (hsz : ds.length ≤ 100000) (hn : ∀ i, i ≤ ds.length → ∀ q ∈ ow.map (·.2), (S i)[q]? = some none)
    (hb : ∀ i d r, ds[i]? = some d → rs[i]? = some r → LcTurn c X g (ow.map (·.2)) scope ifs elt d (S i) r (S (i + 1)))
    (hg : ∀ (s : Shared) (H : Hp) (C : Addr) (cl : List (Str × Addr)) (fp : List Addr), PG (BlkC X s H scope C cl fp) tg g) (hifs : ifs.length ≤ 1 := by decide) (ok : BlkOk X.N X.env.scope scope ow := by exact blkOk_by (by decide +kernel))
    (hc : X.calm = true := by rfl) (hs : ∀ x, foldedSetIterable iter X.env x = pure x := by intro _; rfl) :
    XL c X (.ListComp elt [⟨tg, iter, ifs, 0⟩] scope pos) st (collect rs) (S ds.length) :=
  ⟨pe_weak (pe_lc (own := ow) hc hN hi.pi ok hg (pts_tests ifs hifs) (pe_teAny (c := c) (scope := scope)) hs) (lc_go (fun _ _ _ h => h) hlen hsz hn hb)⟩
/-- name = [..], known or one's own -/
theorem xp_setLc (i : Nat) {y : Str} {py spos : Pos} {scope : Scope} {ifs : List Expr} {elt tg : Expr} {g : TG} {ow : List (Str × Nat)} (S : Nat → Store) (rs : List (Option Dt)) (own? : Bool) (hN : X.N.Nodup) (hi : XI c X tg iter st ds (S 0)) (hlen : rs.length = ds.length) (hsz : ds.length ≤ 100000) (hn : ∀ i, i ≤ ds.length → ∀ q ∈ ow.map (·.2), (S i)[q]? = some none)
    (hb : ∀ i d r, ds[i]? = some d → rs[i]? = some r → LcTurn c X g (ow.map (·.2)) scope ifs elt d (S i) r (S (i + 1)))
    (hg : ∀ (s : Shared) (H : Hp) (C : Addr) (cl : List (Str × Addr)) (fp : List Addr), PG (BlkC X s H scope C cl fp) tg g) (hifs : ifs.length ≤ 1 := by decide) (ok : BlkOk X.N X.env.scope scope ow := by exact blkOk_by (by decide +kernel))
    (hy : X.N[i]? = some y := by rfl) (hyl : X.env.scope.names.lookup y = some .local := by rfl) (hsw : swapsWith (.ListComp elt [⟨tg, iter, ifs, 0⟩] scope pos) (some (.Name y py)) spos.line X.env = pure true := by exact sw_true rfl rfl rfl (by decide +kernel))
    (hc : X.calm = true := by rfl) (hs : ∀ x, foldedSetIterable iter X.env x = pure x := by intro _; rfl) :
    XP c X (.Assign [.Name y py] (.ListComp elt [⟨tg, iter, ifs, 0⟩] scope pos) spos) st (.nx ((S ds.length).set i (some (if own? = true then .ow (collect rs) else .fr (.lst (collect rs)))))) :=
  ⟨ps_weak (ps_setLc (own := ow) hc hN hy hyl hsw hi.pi ok hg (pts_tests ifs hifs) (pe_teAny (c := c) (scope := scope)) hs) fun D σ H ⟨G, E, k⟩ => lc_go (fun _ _ _ h => h) hlen hsz hn hb σ H _ ⟨G, E, fun p vs G1 H1 g1 E1 no hp hn' hl r => by
    cases own? with
    | true => exact k _ G1 H1 ⟨g1.ex, g1.nw, g1.fr, g1.al, fun q z => (own_setOw z).elim (g1.ow q) fun y => .inr (by rw [y]; exact hp)⟩ (E1.setOw no hn' hl r i)
    | false =>
      have E2 := (E1.know no hn' hl).setFr (d := .lst (collect rs)) (.lst upd_same (r.ex (Ex.new hn'))) i
      refine k _ _ H1 ⟨g1.ex.trans (Ex.new hn'), fun q o z => ?_, g1.fr, g1.al, fun q z => g1.ow q (own_setFr z)⟩ E2
      by_cases y : q = p
      · subst y; exact .inr (.inl hp)
      · rw [upd_ne y] at z; exact g1.nw q o z⟩⟩
end Dv
set_option autoImplicit true
set_option maxRecDepth 100000
namespace Dv
open PySem PySem.Spec PyProof.Rows L2

variable {c : Ctx} {X : Cx} {st st1 st2 st3 st' : Store} {a b e tg iter : Expr} {es : List Expr} {d d1 d2 d' : Dt} {ds xs ys zs : List Dt} {pos : Pos} {G G' H H' : Hp} {σ σ' : L2.St} {v : V} {i j : Nat} {body : List Stmt} {o : Out}

/-! ### a def that changes the list in its first argument -/
def spM (K : PySem.W.Frag) (T : Ct) (R : List Dt → List Dt → Dt → List Dt → Prop) : Sp := fun vs H Q _ => ∃ a vs' G ws xs ds r xs', vs = .ref a :: vs' ∧ Ex G H ∧ G a = none ∧ H a = some (.lst ws) ∧ Reps K T G xs ws ∧ Reps K T G ds vs' ∧ R xs ds r xs' ∧
  ∀ v G' H' ws', Gr G H G' H' (· = a) (· = a) → Ex G' H' → G' a = none → H' a = some (.lst ws') → Reps K T G' xs' ws' → Rep K T G' r v → Q v H'
theorem xd_callM (i : Nat) {s : Sv} {CX : CXT} {k : Nat} {f : Addr} {fd : FuncData} {ps : List Str} {R : List Dt → List Dt → Dt → List Dt → Prop} {x y : Str} {p py : Pos}
    (F : FnOk X.prog X.w X.K X.mg X.base CX k f fd ps (spM c.K c.T R)) (hr : Room k X.A) (hm : X.mg x = some (.ref f)) (hk : PySem.W.keepIn X.K (.ref f) = true) (hb : Binds X.K fd ps [])
    {E : XK} (hx : Passes CX X E) (h : XA c X es st ds st1) (hi : st[i]? = some (some s)) (hi1 : st1[i]? = some (some s)) (hs : s.Has xs) (hR : R xs ds d ys) (hg : Gl X x := by rfl) (hdb : (x == ("__debug__" : Str)) = false := by decide)
    (hN : X.N[i]? = some y := by rfl) (hv : Vis X.env.scope y := by first | exact Or.inl rfl | exact Or.inr (Or.inl rfl) | exact Or.inr (Or.inr rfl)) (hd : (y == ("__debug__" : Str)) = false := by decide) (hcd : (y == ("__classdict__" : Str)) = false := by decide)
    (he : starEach (.Name y py :: es) X.env = (false, eval (.Name y py) X.env) :: starEach es X.env := by rfl) (hpl : (backTo pos (starEach es X.env)).any (·.1) = false := by rfl) :
    XD c X (.Call (.Name x p) (.Name y py :: es) [] pos) st d (st1.set i (some (s.with ys))) :=
  ⟨pe_weak (pe_call F hr hg hm hk hb .nil hx (pa_cons (pe_var hN hv hd hcd) h.pa he) hdb he hpl) fun σ H Q ⟨G, E, k⟩ => by
    obtain ⟨a, ws0, z1, z2, z3, z4, z5, z6⟩ := E.at hi hs
    refine ⟨_, z1, G, E, fun vs G1 H1 g1 E1 r1 => ?_⟩
    obtain ⟨a', ws, y1, y2, y3, y4, y5, y6⟩ := E1.at hi1 hs
    rw [z1] at y1
    cases y1
    refine ⟨a, vs, G1, ws, xs, ds, d, ys, by simp, E1.ex, y2, y3, y4, r1, hR, fun v G2 H2 ws' g2 e2 n2 l2 r2 rv => ?_⟩
    obtain ⟨E3, g3⟩ := E1.mut hi1 hs z1 g2 e2 n2 l2 r2
    exact k v G2 H2 (g1.trans g3) E3 rv⟩
def st0M (N : List Str) (xs ds : List Dt) : Store := some (.pr 0 xs) :: (ds.map (fun d => some (.fr d)) ++ List.replicate (N.length - (ds.length + 1)) none)
theorem En.startM {pa : Nat → Addr} {N : List Str} {vs ws : List V} (e : Ex G H) (hn : G (pa 0) = none) (hl : H (pa 0) = some (.lst ws)) (rx : Reps c.K c.T G xs ws) (r : Reps c.K c.T G ds vs) : En c.K c.T pa G H (L2.start N (.ref (pa 0) :: vs)) (st0M N xs ds) := by
  have base := En.start (c := ⟨c.K, c.T, pa⟩) (N := N.tail) e r
  have e1 : L2.start N (.ref (pa 0) :: vs) = some (.ref (pa 0)) :: (vs.map some ++ List.replicate (N.length - (vs.length + 1)) none) := rfl
  rw [e1]
  refine ⟨e, fun i s h => ?_, fun i j s t a h1 h2 o1 o2 h3 h4 => ?_, by unfold st0M; simp [r.length]⟩
  · cases i with
    | zero => cases h; exact ⟨_, rfl, ws, rfl, hn, hl, rx⟩
    | succ i =>
      have h' : (ds.map (fun d => some (Sv.fr d)) ++ List.replicate (N.length - (ds.length + 1)) none)[i]? = some (some s) := h
      by_cases q : i < ds.length
      · rw [List.getElem?_append_left (by simpa using q), List.getElem?_map] at h'
        cases z : ds[i]? with
        | none => rw [z] at h'; cases h'
        | some d =>
          rw [z] at h'
          cases h'
          obtain ⟨v, h1, h2⟩ := r.get z
          refine ⟨v, ?_, h2⟩
          show (vs.map some ++ _)[i]? = _
          rw [List.getElem?_append_left (by rw [List.length_map, ← r.length]; exact q), List.getElem?_map, h1]; rfl
      · rw [List.getElem?_append_right (by simpa using q), List.getElem?_replicate] at h'
        split at h' <;> cases h'
  · have z : ∀ (i : Nat) s, (st0M N xs ds)[i]? = some (some s) → s.isOw = true → i = 0 := fun i s h o => by
      cases i with
      | zero => rfl
      | succ i =>
        exfalso
        have h' : (ds.map (fun d => some (Sv.fr d)) ++ List.replicate (N.length - (ds.length + 1)) none)[i]? = some (some s) := h
        by_cases q : i < ds.length
        · rw [List.getElem?_append_left (by simpa using q), List.getElem?_map] at h'
          cases z : ds[i]? with
          | none => rw [z] at h'; cases h'
          | some d => rw [z] at h'; cases h'; cases o
        · rw [List.getElem?_append_right (by simpa using q), List.getElem?_replicate] at h'
          split at h' <;> cases h'
    rw [z i s h1 o1, z j t h2 o2]
theorem own_startM {pa : Nat → Addr} {N : List Str} {vs : List V} {p : Addr} (h : own (L2.start N (.ref (pa 0) :: vs)) (st0M N xs ds) p) : p = pa 0 := by
  obtain ⟨i, s, h1, o1, h3⟩ := h
  cases i with
  | zero => cases h3; rfl
  | succ i =>
    exfalso
    have h' : (ds.map (fun d => some (Sv.fr d)) ++ List.replicate (N.length - (ds.length + 1)) none)[i]? = some (some s) := h1
    by_cases q : i < ds.length
    · rw [List.getElem?_append_left (by simpa using q), List.getElem?_map] at h'
      cases z : ds[i]? with
      | none => rw [z] at h'; cases h'
      | some d => rw [z] at h'; cases h'; cases o1
    · rw [List.getElem?_append_right (by simpa using q), List.getElem?_replicate] at h'
      split at h' <;> cases h'
theorem okM {P : Program} {w : World} {K : PySem.W.Frag} {T : Ct} {mg : Str → Option Value} {base : Heap} {x qual : Str} {sd : Stmt} {f : Addr} {fd : FuncData} {N ps : List Str} {k : Nat} {R : List Dt → List Dt → Dt → List Dt → Prop} (F : Fun K x qual sd f fd) (S : FnScope N ps (defScope sd)) (hl : ∀ xs ds r ys, R xs ds r ys → ds.length + 1 = ps.length)
    (body : ∀ (cdv : Value) (A : Around) (outer : List Env) (s : Shared) (H : Hp) (E : XK) (pa : Nat → Addr) (xs ds : List Dt) (r : Dt) (ys : List Dt), Room k (A.deeper (envOfC qual (defScope sd) s.heap.objs.size f cdv)) → R xs ds r ys →
      ∃ st', XS ⟨K, T, pa⟩ (bX P w K mg base N qual sd f cdv A outer s H E) (defBody sd) (st0M N xs ds) (.rt r st') ∧ st'[0]? = some (some (.pr 0 ys))) : FnOk P w K mg base CX0 (k + 1) f fd ps (spM K T R) := by
  refine F.ok S (fun vs H Q E h => ?_) (fun cdv A outer s H vs Q E hr h => ?_)
  · obtain ⟨a, vs', G, ws, xs, ds, r, ys, rfl, e, n, l, rx, rs, hR, _⟩ := h
    rw [List.length_cons, ← rs.length]; exact hl xs ds r ys hR
  · obtain ⟨a, vs', G, ws, xs, ds, r, ys, rfl, e, n, l, rx, rs, hR, kk⟩ := h
    obtain ⟨st', hb, hst⟩ := body cdv A outer s H E (fun _ => a) xs ds r ys hr hR
    refine ⟨_, hb.pss, G, En.startM (pa := fun _ => a) e n l rx rs, ?_⟩
    intro v σ' G' H' g E' r'
    obtain ⟨u, h1, h2⟩ := E'.sl 0 _ hst
    obtain ⟨ws', rfl, n', l', r2⟩ := h2
    refine kk v G' H' ws' ⟨g.ex, fun p o q => (g.nw p o q).imp id (Or.imp id fun z => own_startM (pa := fun _ => a) z), fun p o q nq => g.fr p o q fun z => nq (own_startM (pa := fun _ => a) z), g.al, fun p q => .inl q⟩ E'.ex n' l' r2 r'

/-! ### attributes of instances -/
theorem lookup_zip {ns : List Str} {vs : List V} {f : Str} {v : V} {i : Nat} (hi : ns.findIdx? (· == f) = some i) (hv : vs[i]? = some v) : (ns.zip vs).lookup f = some v := by
  induction ns generalizing vs i with
  | nil => cases hi
  | cons n ns ih =>
    cases vs with
    | nil => simp at hv
    | cons u vs =>
      rw [List.findIdx?_cons] at hi
      by_cases q : (n == f) = true
      · rw [if_pos q] at hi
        cases hi
        have : n = f := by simpa using q
        subst this
        simpa [List.zip, List.lookup] using hv
      · rw [if_neg q] at hi
        cases z : ns.findIdx? (· == f) with
        | none => rw [z] at hi; cases hi
        | some k =>
          rw [z] at hi
          cases hi
          have q' : (f == n) = false := by
            cases y : (f == n) with
            | false => rfl
            | true =>
              exfalso; apply q
              have : f = n := by simpa using y
              simp [this]
          show List.lookup f ((n, u) :: ns.zip vs) = some v
          unfold List.lookup
          rw [q']
          exact ih z (by simpa using hv)
/-- e.f: the i-th attribute -/
theorem xd_fld {n : Nat} {C : Addr} {ns : List Str} {fs : List Dt} {f : Str} {i : Nat} (h : XD c X e st (.obj n fs) st1) (hK : X.K = c.K) (hT : c.T n = some (C, ns)) (hc : Cls X.K C) (hna : NoAttr X.K C f) (hi : ns.findIdx? (· == f) = some i) (hd : fs[i]? = some d)
    (hb : attributeBase e f X.env (eval e X.env) = eval e X.env := by rfl) : XD c X (.Attribute e f pos) st d st1 :=
  ⟨pe_weak (pe_fld h.pe hb) fun σ H Q ⟨G, E, k⟩ => ⟨G, E, fun x G1 H1 g1 E1 r1 => by
    obtain ⟨C', ns', a, dx, vs, rfl, q1, q2, q3, q4⟩ := r1.obj_inv
    rw [hT] at q1
    cases q1
    obtain ⟨v, h1, h2⟩ := q4.get hd
    exact ⟨a, C, dx, _, v, rfl, E1.ex _ _ q2, hc, hna, lookup_zip hi h1, k v G1 H1 g1 E1 h2⟩⟩⟩

/-! ### more operations by values -/
theorem o_str {x y : Str} (hl : x.length + y.length ≤ 100000) : Op2 c (.str x) (.str y) (.str (x ++ y)) (fun x y H Q => ∃ i j, x = .str i ∧ y = .str j ∧ i.length + j.length ≤ sizeLine ∧ Q (.str (i ++ j)) H) := fun G H v u Q e r1 r2 k => by
  cases r1; cases r2; exact ⟨x, y, rfl, rfl, Nat.le_trans hl (by decide), kv_same k e .str⟩
theorem o_ixT {i : Int} {n : Nat} (hn : i = n) (hd : ds[n]? = some d) : Op2 c (.tup ds) (.int i) d (rIxT c.K) := fun G H v u Q e r1 r2 k => by
  obtain ⟨a, vs, rfl, h, r⟩ := r1.tup_inv
  cases r2
  obtain ⟨w, h1, h2⟩ := r.get hd
  exact ⟨a, vs, i, w, rfl, rfl, e.st h, by rw [hn]; exact atI_nat h1, kv_same k e h2⟩
theorem o_ixL {i : Int} {n : Nat} (hn : i = n) (hd : ds[n]? = some d) : Op2 c (.lst ds) (.int i) d (rIxL c.K) := fun G H v u Q e r1 r2 k => by
  obtain ⟨a, vs, rfl, h, r⟩ := r1.lst_inv
  cases r2
  obtain ⟨w, h1, h2⟩ := r.get hd
  exact ⟨a, vs, i, w, rfl, rfl, .inl (.inl (e _ _ h)), by rw [hn]; exact atI_nat h1, kv_same k e h2⟩
theorem o_ixR {i : Int} {n : Nat} (hn : i = n) (hd : ds[n]? = some d) : Op2 c (.ro ds) (.int i) d (rIxL c.K) := fun G H v u Q e r1 r2 k => by
  obtain ⟨a, vs, rfl, h, r⟩ := r1.ro_inv
  cases r2
  obtain ⟨w, h1, h2⟩ := r.get hd
  exact ⟨a, vs, i, w, rfl, rfl, e.sl h, by rw [hn]; exact atI_nat h1, kv_same k e h2⟩
theorem o_ixS {x : Str} {i : Int} {n : Nat} {q : Nat} (hl : x.length ≤ 100000) (hn : i = n) (hd : x.cps.toList[n]? = some q) : Op2 c (.str x) (.int i) (.str ⟨#[q]⟩) rIxS := fun G H v u Q e r1 r2 k => by
  cases r1; cases r2
  exact ⟨x, i, q, rfl, rfl, Nat.le_trans hl (by decide), by rw [hn]; exact atI_nat hd, kv_same k e .str⟩
theorem o_len (h : d1 = .lst ds ∨ d1 = .ro ds ∨ d1 = .tup ds) : OpN c [d1] (.int (ds.length : Int)) (fun xs H Q => ∃ p ys, xs = [.ref p] ∧ (SqL c.K H p ys ∨ SqT c.K H p ys) ∧ Q (.int ys.length) H) := fun G H vs Q e r k => by
  cases r with
  | cons r r' =>
    cases r'
    rcases h with rfl | rfl | rfl
    · obtain ⟨a, vs, rfl, h, r⟩ := r.lst_inv
      exact ⟨a, vs, rfl, .inl (.inl (.inl (e _ _ h))), by rw [← r.length]; exact kv_same k e .int⟩
    · obtain ⟨a, vs, rfl, h, r⟩ := r.ro_inv
      exact ⟨a, vs, rfl, .inl (e.sl h), by rw [← r.length]; exact kv_same k e .int⟩
    · obtain ⟨a, vs, rfl, h, r⟩ := r.tup_inv
      exact ⟨a, vs, rfl, .inr (e.st h), by rw [← r.length]; exact kv_same k e .int⟩
theorem o_int1 {i : Int} : OpN c [.int i] (.int i) (fun xs H Q => (∃ i, xs = [.int i] ∧ Q (.int i) H) ∨ ∃ k, xs = [.bl k] ∧ Q (.int (if k then 1 else 0)) H) := fun G H vs Q e r k => by
  cases r with
  | cons r r' => cases r'; cases r; exact .inl ⟨i, rfl, kv_same k e .int⟩
theorem o_intB {t : Bool} : OpN c [.bl t] (.int (if t then 1 else 0)) (fun xs H Q => (∃ i, xs = [.int i] ∧ Q (.int i) H) ∨ ∃ k, xs = [.bl k] ∧ Q (.int (if k then 1 else 0)) H) := fun G H vs Q e r k => by
  cases r with
  | cons r r' => cases r'; cases r; exact .inr ⟨t, rfl, kv_same k e .int⟩
theorem o_abs {i : Int} : OpN c [.int i] (.int (if i < 0 then -i else i)) (fun xs H Q => ∃ i, xs = [.int i] ∧ Q (.int (if i < 0 then -i else i)) H) := fun G H vs Q e r k => by
  cases r with
  | cons r r' => cases r'; cases r; exact ⟨i, rfl, kv_same k e .int⟩
theorem o_gcd {i j : Int} : OpN c [.int i, .int j] (.int ((Nat.gcd i.natAbs j.natAbs : Nat) : Int)) rGcd := fun G H vs Q e r k => by
  cases r with
  | cons r r' =>
    cases r' with
    | cons r2 r' => cases r'; cases r; cases r2; exact ⟨i, j, rfl, kv_same k e .int⟩

/-! ### == of data -/
mutual
def Dt.py : Dt → Option PyData
  | .non => some .none
  | .bl b => some (.bool b)
  | .int i => some (.int i)
  | .str x => some (.str x)
  | .lst xs => (Dt.pys xs).map .list
  | .ro xs => (Dt.pys xs).map .list
  | .tup xs => (Dt.pys xs).map .tuple
  | .obj _ _ => none
def Dt.pys : List Dt → Option (List PyData)
  | [] => some []
  | d :: r => match Dt.py d, Dt.pys r with
    | some p, some q => some (p :: q)
    | _, _ => none
end
end Dv
set_option autoImplicit true
set_option maxRecDepth 100000
namespace Dv
open PySem PySem.Spec PyProof.Rows L2

variable {c : Ctx} {X : Cx} {st st1 st2 st3 st' : Store} {a b e tg iter : Expr} {es : List Expr} {d d1 d2 d' : Dt} {ds xs ys zs fs : List Dt} {pos : Pos} {G G' H H' : Hp} {σ σ' : L2.St} {v : V} {i j : Nat} {body : List Stmt} {o : Out}

/-! ### own operators -/
theorem back_of {pins : List (Addr × Obj)} {Q : VK} {u : Value} {s' : Shared} (h : EP X pins σ Q u s') : PySem.W.CmpBack (EP X pins σ Q) u s' := by
  obtain ⟨w, H1, I1, r, q⟩ := id h
  cases w with
  | non => cases r; exact h
  | bl _ => cases r; exact h
  | int _ => obtain ⟨t, rfl⟩ := r; exact h
  | str _ => obtain ⟨t, rfl⟩ := r; exact h
  | byt _ => obtain ⟨t, rfl⟩ := r; exact h
  | flt _ => obtain ⟨t, rfl⟩ := r; exact h
  | ref _ => cases r; exact h
  | ty _ => cases r; exact h
/-- a method of the class at C, as it is called by an operator -/
structure OwnOp (K : PySem.W.Frag) (C : Addr) (m : Str) (f : Addr) : Prop where
  at_ : PySem.W.findIn K (.ref C) m = some (some (.ref f))
  fn : PySem.W.isFn K (.ref f) = true
def rOwn2 (C : Addr) (sp : Sp) (E : XK) : R2 := fun x y H Q => (∃ p dx gs, x = .ref p ∧ H p = some (.ins C dx gs)) ∧ (∃ q dy hs, y = .ref q ∧ H q = some (.ins C dy hs)) ∧ sp [x, y] H Q E
section
variable {CX : CXT} {k : Nat} {f C : Addr} {fd : FuncData} {ps : List Str} {E : XK}
theorem op_own {op : Operator} {sp : Sp} (F : FnOk X.prog X.w X.K X.mg X.base CX k f fd ps sp) (hr : Room k X.A) (M : OwnOp X.K C (PySem.dunder op.info.2) f) (hc : PySem.W.selfFirst X.K C = true) (hb : Binds X.K fd ps []) (hx : Passes CX X E) :
    OpR X (binaryOp op) (rOwn2 C sp E) := by
  intro pins s σ H x y vx vy Q I rx ry h
  obtain ⟨⟨p, dx, gs, rfl, hp⟩, ⟨q, dy, hs, rfl, hq⟩, hsp⟩ := h
  cases rx
  cases ry
  obtain ⟨mA, J, _⟩ := ins_get I.hok hp
  obtain ⟨mB, J', _⟩ := ins_get I.hok hq
  obtain ⟨od, J, _⟩ := J.look
  obtain ⟨od', J', _⟩ := J'.look
  obtain ⟨m, hF⟩ := I.fr
  exact PySem.W.binop_K hF I.ok.mod.kin J J'.type hc M.at_ M.fn (thn (run_fn (dvs := []) (vs := [.ref p, .ref q]) (us := [.ref p, .ref q]) F hr hb .nil hx I (.cons rfl (.cons rfl .nil)) hsp) fun u s' z => back_of z)
/-- x == y by the class's own __eq__, y of a known type -/
def rOwnEq (K : PySem.W.Frag) (C : Addr) (sp : Sp) (E : XK) : R2 := fun x y H Q => (∃ p dx gs, x = .ref p ∧ H p = some (.ins C dx gs)) ∧ (∃ q dy hs, y = .ref q ∧ H q = some (.ins C dy hs)) ∧ sp [x, y] H Q E
theorem op_ownEq {sp : Sp} (F : FnOk X.prog X.w X.K X.mg X.base CX k f fd ps sp) (hr : Room k X.A) (M : OwnOp X.K C "__eq__" f) (hb : Binds X.K fd ps []) (hx : Passes CX X E) :
    OpR X (compareOp .Eq) (rOwnEq X.K C sp E) := by
  intro pins s σ H x y vx vy Q I rx ry h
  obtain ⟨⟨p, dx, gs, rfl, hp⟩, ⟨q, dy, hs, rfl, hq⟩, hsp⟩ := h
  cases rx
  cases ry
  obtain ⟨mA, J, _⟩ := ins_get I.hok hp
  obtain ⟨mB, J', _⟩ := ins_get I.hok hq
  obtain ⟨od, J, _⟩ := J.look
  obtain ⟨od', J', _⟩ := J'.look
  obtain ⟨m, hF⟩ := I.fr
  show wpAny (model X.prog X.w) X.A (richCompare .Eq (.ref p) (.ref q)) (EP X pins σ Q) X.xe s
  exact PySem.W.cmp_K (op := .Eq) hr.units0 hF I.ok.mod.kin J J'.type (by simp [PySem.W.notFirst]) M.at_ M.fn (thn (run_fn (dvs := []) (vs := [.ref p, .ref q]) (us := [.ref p, .ref q]) F hr hb .nil hx I (.cons rfl (.cons rfl .nil)) hsp) fun u s' z => back_of z)
end

/-! ### != where only == is the class's own -/
section
variable {prog : Program} {w : World} {A : Around} {E : Value → Shared → Prop} {s : Shared} {K : PySem.W.Frag} {x C f : Addr} {ox : Obj} {od : Option Obj} {b : Value}
theorem ne_body {Q : Fin → Shared → Prop} (hu : A.units < cLine) (KX : K.In s.heap) (I : PySem.W.InstAt s.heap x ox C od) (hs : PySem.W.findIn K (.ref C) "__eq__" = some (some (.ref f))) (hf : PySem.W.isFn K (.ref f) = true)
    (h : wpAny (model prog w) A (call (.ref f) [.ref x, b]) (fun v s' => ∃ t, v = .bool t ∧ Q (.done (.ret (.bool (!t)))) s') E s) :
    wpAny (model prog w) A (Builtin.«object.__ne__» ⟨[.ref x, b], []⟩) Q E s := by
  unfold Builtin.«object.__ne__»
  repeat (first
    | with_reducible refine wpAny_cRoomFor hu ?_
    | (refine wpAny_bind (m := callSpecialIfBound? (.ref x) (Str.ofString "__eq__") [b])
        (PySem.W.ifBound_K KX I hs hf (wpAny_mono h (fun r s' hr => by
          obtain ⟨t, rfl, hq⟩ := hr
          repeat (first | exact hq | exact wpAny_pure hq | exact wpAny_truthy_bool hq | (refine wpAny_bind (m := truthy (.bool _)) (wpAny_truthy_bool ?_)) | wp_step)) fun _ _ e => e)))
    | wp_step)
theorem ne_call {Q : Value → Shared → Prop} (hu : A.units + 1 < cLine) (KX : K.In s.heap) (I : PySem.W.InstAt s.heap x ox C od) (hm : PySem.W.mroIn K C (.type "object") = some true) (hs : PySem.W.findIn K (.ref C) "__eq__" = some (some (.ref f))) (hf : PySem.W.isFn K (.ref f) = true)
    (h : wpAny (model prog w) A.in1 (call (.ref f) [.ref x, b]) (fun v s' => ∃ t, v = .bool t ∧ Q (.bool (!t)) s') E s) :
    wpAny (model prog w) A (call (.builtin "object.__ne__") [.ref x, b]) Q E s :=
  wpAny_call (codeAny_call_builtin F.cmp_object.ne.plain F.cmpEntry_ne (PySem.W.check_slot F.cmpKind_ne F.cmpSplit_ne (I.type.andThen (PySem.W.looks_mroIn KX hm)) (F.cmpArgs_ne _ _)
    (ne_body (A := A.in1) hu KX I hs hf (wpAny_mono h (fun v s' hv => by
      obtain ⟨t, rfl, hq⟩ := hv
      exact ⟨t, rfl, hq⟩) fun _ _ e => e))))
theorem ne_ifBound {args : List Value} {Q : Option Value → Shared → Prop} (KX : K.In s.heap) (I : PySem.W.InstAt s.heap x ox C od) (hn : PySem.W.findIn K (.ref C) "__ne__" = some (some (.builtin "object.__ne__")))
    (h : wpAny (model prog w) A (call (.builtin "object.__ne__") (.ref x :: args)) (fun v => Q (some v)) E s) : wpAny (model prog w) A (callSpecialIfBound? (.ref x) "__ne__" args) Q E s := by
  simp only [callSpecialIfBound?, bindSpecialIfBound?]
  refine wpAny_holding (wpAny_bind (wpAny_bind (wpAny_bind (I.type.here ((PySem.W.looks_findIn KX hn).here ?_)))))
  refine wpAny_bind (wpAny_askSetting (wpAny_ite ?_))
  have fin : wpAny (model prog w) A (call (.builtin "object.__ne__") ([.ref x] ++ args) >>= fun v => pure (some v)) Q E s := wpAny_bind (wpAny_mono h (fun v s' h' => wpAny_pure h') fun _ _ h' => h')
  split
  · exact wpAny_bind (wpAny_of_eq (F.cmp_object.ne.bind _) (wpAny_pure (by exact fin)))
  · exact wpAny_tryCatch (wpAny_bind (wpAny_of_eq (F.cmp_object.ne.bind _) (wpAny_pure (by exact fin))))
theorem ne_rich {tb : Value} {Q : Value → Shared → Prop} (hu : A.units + 1 < cLine) (KX : K.In s.heap) (I : PySem.W.InstAt s.heap x ox C od) (hm : PySem.W.mroIn K C (.type "object") = some true)
    (hs : PySem.W.findIn K (.ref C) "__eq__" = some (some (.ref f))) (hf : PySem.W.isFn K (.ref f) = true) (hn : PySem.W.findIn K (.ref C) "__ne__" = some (some (.builtin "object.__ne__")))
    (hb : PySem.W.Looks (model prog w) s.heap (typeOf b) tb) (ht : PySem.W.notFirst K C tb = true)
    (h : wpAny (model prog w) A.in1 (call (.ref f) [.ref x, b]) (fun v s' => ∃ t, v = .bool t ∧ Q (.bool (!t)) s') E s) : wpAny (model prog w) A (richCompare .NotEq (.ref x) b) Q E s := by
  have one : wpAny (model prog w) A (tryCompare (.ref x) "__ne__" b) (fun r s' => ∃ v, r = some v ∧ Q v s') E s := by
    unfold tryCompare
    exact wpAny_bind (ne_ifBound KX I hn (ne_call hu KX I hm hs hf (wpAny_mono h (fun v s' hv => by
      obtain ⟨t, rfl, hq⟩ := hv
      exact ⟨t, rfl, wpAny_pure ⟨_, rfl, hq⟩⟩) fun _ _ e => e)))
  unfold richCompare
  simp only [oneThing_ref]
  rw [cmpInfo_NotEq]
  refine wpAny_holding (wpAny_bind (wpAny_cRoomFor (Nat.lt_of_succ_lt hu) ?_))
  refine wpAny_bind (I.type.here (wpAny_bind (hb.here ?_)))
  split
  · rename_i q
    have e : PySem.W.subIn K tb (.ref C) = some false := by
      rcases Bool.or_eq_true_iff.mp ht with e | e
      · rw [beq_iff_eq.mp e] at q; simp at q
      · exact beq_iff_eq.mp e
    refine wpAny_bind ((PySem.W.looks_subIn KX e).here ?_)
    simp only [Bool.false_eq_true, if_false]
    refine wpAny_bind (wpAny_mono one (fun r s' z => ?_) fun _ _ e => e)
    obtain ⟨v, rfl, hq⟩ := z
    exact wpAny_pure hq
  · refine wpAny_bind (wpAny_pure ?_)
    simp only [Bool.false_eq_true, if_false]
    refine wpAny_bind (wpAny_mono one (fun r s' z => ?_) fun _ _ e => e)
    obtain ⟨v, rfl, hq⟩ := z
    exact wpAny_pure hq
end
/-- the class's comparisons: its own ==, the plain != -/
structure EqNe (K : PySem.W.Frag) (C f : Addr) : Prop where
  eq : PySem.W.findIn K (.ref C) "__eq__" = some (some (.ref f))
  fn : PySem.W.isFn K (.ref f) = true
  ne : PySem.W.findIn K (.ref C) "__ne__" = some (some (.builtin "object.__ne__"))
  ob : PySem.W.mroIn K C (.type "object") = some true
section
variable {CX : CXT} {k : Nat} {f C : Addr} {fd : FuncData} {ps : List Str} {E : XK}
theorem run_in1 {pins : List (Addr × Obj)} {s : Shared} {Q : VK} {us : List Value} {vs : List V} {sp : Sp} (F : FnOk X.prog X.w X.K X.mg X.base CX k f fd ps sp) (hr : Room (k + 1) X.A) (hb : Binds X.K fd ps []) (hx : Passes CX X E)
    (I : Inv X pins σ H s) (r : Vals vs us) (h : sp vs H Q E) : wpAny (model X.prog X.w) X.A.in1 (call (.ref f) us) (EP X pins σ Q) X.xe s := by
  have hl : us.length = ps.length := by rw [← r.length]; exact F.len _ _ _ _ h
  have b := hb s us I.kIn (by rw [List.append_nil]; exact hl)
  rw [List.append_nil] at b
  refine wpAny_call (codeAny_mono (F.run X.A.in1 X.stack s H ⟨us, []⟩ us vs Q E hr.in1 I.env0.in1 b r h) fun r s' hq => ?_)
  cases r with
  | error e => exact hx pins σ H s e s' I hq
  | ok fl =>
    cases fl with
    | ret u => exact I.after hq
    | next => exact False.elim hq
    | brk => exact False.elim hq
    | cont => exact False.elim hq
def rOwnNe (K : PySem.W.Frag) (C : Addr) (sp : Sp) (E : XK) : R2 := fun x y H Q => (∃ p dx gs, x = .ref p ∧ H p = some (.ins C dx gs)) ∧ (∃ q dy hs, y = .ref q ∧ H q = some (.ins C dy hs)) ∧
  sp [x, y] H (fun v H' => ∃ t, v = .bl t ∧ Q (.bl (!t)) H') E
theorem op_ownNe {sp : Sp} (F : FnOk X.prog X.w X.K X.mg X.base CX k f fd ps sp) (hr : Room (k + 1) X.A) (M : EqNe X.K C f) (hb : Binds X.K fd ps []) (hx : Passes CX X E) :
    OpR X (compareOp .NotEq) (rOwnNe X.K C sp E) := by
  intro pins s σ H x y vx vy Q I rx ry h
  obtain ⟨⟨p, dx, gs, rfl, hp⟩, ⟨q, dy, hs, rfl, hq⟩, hsp⟩ := h
  cases rx
  cases ry
  obtain ⟨mA, J, _⟩ := ins_get I.hok hp
  obtain ⟨mB, J', _⟩ := ins_get I.hok hq
  obtain ⟨od, J, _⟩ := J.look
  obtain ⟨od', J', _⟩ := J'.look
  show wpAny (model X.prog X.w) X.A (richCompare .NotEq (.ref p) (.ref q)) (EP X pins σ Q) X.xe s
  refine ne_rich (K := X.K) (by have := hr.un; omega) I.kIn J M.ob M.eq M.fn M.ne J'.type (by simp [PySem.W.notFirst]) (thn (run_in1 (vs := [.ref p, .ref q]) (us := [.ref p, .ref q]) F hr hb hx I (.cons rfl (.cons rfl .nil)) hsp) fun u s' z => ?_)
  obtain ⟨w, H1, I1, r, t, rfl, q1⟩ := z
  cases r
  exact ⟨t, rfl, .bl (!t), H1, I1, rfl, q1⟩
end
end Dv
set_option autoImplicit true
set_option maxRecDepth 100000
namespace Dv
open PySem PySem.Spec PyProof.Rows L2

variable {c : Ctx} {X : Cx} {st st1 st2 st3 st' : Store} {a b e tg iter : Expr} {es : List Expr} {d d1 d2 d' : Dt} {ds xs ys zs fs gs : List Dt} {pos : Pos} {G G' H H' : Hp} {σ σ' : L2.St} {v : V} {i j n : Nat} {body : List Stmt} {o : Out}

/-! ### instances: operators, comparisons, methods, making -/
theorem gw_of {G H G' H' : Hp} (g : Gr G H G' H' (fun _ => False) (fun _ => False)) (e : Ex G' H') : Gw G H G' H' :=
  ⟨g.ex, fun p o h => g.fr p o h id, e, fun p o h => (g.nw p o h).elim .inl fun z => z.elim .inr False.elim⟩
section
variable {CX : CXT} {k : Nat} {f C : Addr} {fd : FuncData} {ps : List Str} {E : XK} {R : List Dt → Dt → Prop} {ns : List Str}
theorem o_own (hT : c.T n = some (C, ns)) (hR : R [.obj n fs, .obj n gs] d) : Op2 c (.obj n fs) (.obj n gs) d (rOwn2 C (spD c.K c.T R) E) := fun G H x y Q e r1 r2 kk => by
  obtain ⟨C1, ns1, p, dx, vs, rfl, q1, q2, q3, q4⟩ := id r1.obj_inv
  obtain ⟨C2, ns2, q, dy, ws, rfl, p1, p2, p3, p4⟩ := id r2.obj_inv
  rw [hT] at q1 p1
  cases q1
  cases p1
  exact ⟨⟨p, dx, _, rfl, e _ _ q2⟩, ⟨q, dy, _, rfl, e _ _ p2⟩, G, [.obj n fs, .obj n gs], d, e, .cons r1 (.cons r2 .nil), hR, fun v G' H' g e' r' => kk v G' H' (gw_of g e') r'⟩
theorem o_ownEq (hT : c.T n = some (C, ns)) (hR : R [.obj n fs, .obj n gs] d) : Op2 c (.obj n fs) (.obj n gs) d (rOwnEq X.K C (spD c.K c.T R) E) := fun G H x y Q e r1 r2 kk => by
  obtain ⟨C1, ns1, p, dx, vs, rfl, q1, q2, q3, q4⟩ := id r1.obj_inv
  obtain ⟨C2, ns2, q, dy, ws, rfl, p1, p2, p3, p4⟩ := id r2.obj_inv
  rw [hT] at q1 p1
  cases q1
  cases p1
  exact ⟨⟨p, dx, _, rfl, e _ _ q2⟩, ⟨q, dy, _, rfl, e _ _ p2⟩, G, [.obj n fs, .obj n gs], d, e, .cons r1 (.cons r2 .nil), hR, fun v G' H' g e' r' => kk v G' H' (gw_of g e') r'⟩
theorem o_ownNe {t : Bool} (hT : c.T n = some (C, ns)) (hR : R [.obj n fs, .obj n gs] (.bl t)) : Op2 c (.obj n fs) (.obj n gs) (.bl (!t)) (rOwnNe X.K C (spD c.K c.T R) E) := fun G H x y Q e r1 r2 kk => by
  obtain ⟨C1, ns1, p, dx, vs, rfl, q1, q2, q3, q4⟩ := id r1.obj_inv
  obtain ⟨C2, ns2, q, dy, ws, rfl, p1, p2, p3, p4⟩ := id r2.obj_inv
  rw [hT] at q1 p1
  cases q1
  cases p1
  exact ⟨⟨p, dx, _, rfl, e _ _ q2⟩, ⟨q, dy, _, rfl, e _ _ p2⟩, G, [.obj n fs, .obj n gs], .bl t, e, .cons r1 (.cons r2 .nil), hR, fun v G' H' g e' r' => by
    cases r'
    exact ⟨t, rfl, kk _ G' H' (gw_of g e') .bl⟩⟩
theorem lookup_notin {ns : List Str} {vs : List V} {m : Str} (h : ns.contains m = false) : (ns.zip vs).lookup m = none := by
  induction ns generalizing vs with
  | nil => rfl
  | cons q ns ih =>
    cases vs with
    | nil => rfl
    | cons u vs =>
      have h' : (m == q) = false ∧ ns.contains m = false := by
        rw [List.contains_cons] at h
        exact Bool.or_eq_false_iff.mp h
      show List.lookup m ((q, u) :: ns.zip vs) = none
      unfold List.lookup
      rw [h'.1]
      exact ih h'.2
/-- o.m(e, ..) -/
theorem xd_meth {m : Str} {apos : Pos} {pl : Sem Bool} (ho : XD c X b st (.obj n fs) st1) (hT : c.T n = some (C, ns)) (hcl : Cls X.K C) (hm : Meth X.K C m f) (F : FnOk X.prog X.w X.K X.mg X.base CX k f fd ps (spD c.K c.T R)) (hr : Room k X.A) (hb : Binds X.K fd ps []) (hx : Passes CX X E)
    (h : XA c X (e :: es) st1 ds st2) (hR : R (.obj n fs :: ds) d) (hno : ns.contains m = false := by decide +kernel)
    (hst : starEach (e :: es) X.env = (false, eval e X.env) :: starEach es X.env := by rfl) (hpl : (backTo pos (starEach es X.env)).any (·.1) = false := by rfl)
    (ht : eval (.Call (.Attribute b m apos) (e :: es) [] pos) X.env = (do
      let ov ← eval b X.env
      standAt apos.atName
      let (f, first) ← holding [ov] (getMethod ov m pl)
      callWith pos f first (backTo pos (starEach (e :: es) X.env)) (backToKw pos (keywordEach [] X.env))) := by rfl) :
    XD c X (.Call (.Attribute b m apos) (e :: es) [] pos) st d st2 :=
  ⟨pe_weak (pe_meth ho.pe hcl hm F hr hb .nil hx h.pa hst hpl ht) fun σ H Q ⟨G, E, kk⟩ => ⟨G, E, fun x G1 H1 g1 E1 r1 => by
    obtain ⟨C1, ns1, p, dx, vs, rfl, q1, q2, q3, q4⟩ := id r1.obj_inv
    rw [hT] at q1
    cases q1
    refine ⟨p, dx, _, rfl, E1.ex _ _ q2, lookup_notin hno, G1, E1, fun ws G2 H2 g2 E2 r2 => ?_⟩
    refine ⟨G2, .obj n fs :: ds, d, E2.ex, ?_, hR, fun v G3 H3 g3 e3 r3 => kk v G3 H3 ((g1.trans g2).trans (gw_of g3 e3).gr) (E2.g1 (gw_of g3 e3)) r3⟩
    rw [List.append_nil]
    exact .cons (r1.ex g2.ex) r2⟩⟩
/-- o.m() -/
theorem xd_meth0 {m : Str} {apos : Pos} {pl : Sem Bool} (ho : XD c X b st (.obj n fs) st1) (hT : c.T n = some (C, ns)) (hcl : Cls X.K C) (hm : Meth X.K C m f) (F : FnOk X.prog X.w X.K X.mg X.base CX k f fd ps (spD c.K c.T R)) (hr : Room k X.A) (hb : Binds X.K fd ps []) (hx : Passes CX X E)
    (hR : R [.obj n fs] d) (hno : ns.contains m = false := by decide +kernel)
    (ht : eval (.Call (.Attribute b m apos) [] [] pos) X.env = (do
      let ov ← eval b X.env
      standAt apos.atName
      let (f, first) ← holding [ov] (getMethod ov m pl)
      callWith pos f first (backTo pos (starEach [] X.env)) (backToKw pos (keywordEach [] X.env))) := by rfl) :
    XD c X (.Call (.Attribute b m apos) [] [] pos) st d st1 :=
  ⟨pe_weak (pe_meth0 ho.pe hcl hm F hr hb .nil hx ht) fun σ H Q ⟨G, E, kk⟩ => ⟨G, E, fun x G1 H1 g1 E1 r1 => by
    obtain ⟨C1, ns1, p, dx, vs, rfl, q1, q2, q3, q4⟩ := id r1.obj_inv
    rw [hT] at q1
    cases q1
    exact ⟨p, dx, _, rfl, E1.ex _ _ q2, lookup_notin hno, G1, [.obj n fs], d, E1.ex, .cons r1 .nil, hR, fun v G3 H3 g3 e3 r3 => kk v G3 H3 (g1.trans (gw_of g3 e3).gr) (E1.g1 (gw_of g3 e3)) r3⟩⟩⟩
/-- what an __init__ promises: the attributes from the arguments -/
def spI (K : PySem.W.Frag) (T : Ct) (n : Nat) (R : List Dt → List Dt → Prop) : Sp := fun vs H Q _ => ∃ x vs' G C ns dx ds fs, vs = .ref x :: vs' ∧ T n = some (C, ns) ∧ Ex G H ∧ G x = none ∧ H x = some (.ins C dx []) ∧ Reps K T G ds vs' ∧ R ds fs ∧
  ∀ G' H' dx' ws, Gr G H G' H' (· = x) (· = x) → Ex G' H' → G' x = none → H' x = some (.ins C dx' (ns.zip ws)) → ns.length = ws.length → Reps K T G' fs ws → Q .non H'
theorem made_of {Rf : List Dt → List Dt → Prop} {vs dvs : List V} {dds : List Dt} {Q : VK} {x dx : Addr} (hT : c.T n = some (C, ns)) (E1 : En c.K c.T c.pa G H σ st) (r : Reps c.K c.T G ds vs) (hdd : ∀ G, Reps c.K c.T G dds dvs) (hR : Rf (ds ++ dds) fs)
    (hx : H x = none) (hdx : H dx = none) (hne : dx ≠ x) (k : ∀ v G' H', Gr G H G' H' (own σ st) (own σ st) → En c.K c.T c.pa G' H' σ st → Rep c.K c.T G' (.obj n fs) v → Q v H') (E0 : XK) :
    spI c.K c.T n Rf (.ref x :: (vs ++ dvs)) (upd (upd H dx (.own x)) x (.ins C dx [])) (fun v H2 => v = .non ∧ Q (.ref x) H2) E0 := by
  have e0 : Ex H (upd (upd H dx (.own x)) x (.ins C dx [])) := fun p o h => by rw [upd_ne (ne_of_none h hx), upd_ne (ne_of_none h hdx)]; exact h
  refine ⟨x, vs ++ dvs, G, C, ns, dx, ds ++ dds, fs, rfl, hT, E1.ex.trans e0, E1.ex.none hx, upd_same, r.app (hdd G), hR, fun G' H' dx' ws g e' n' l' hl r' => ⟨rfl, ?_⟩⟩
  -- the new instance is known
  have gw : Gw G H (upd G' x (.ins C dx' (ns.zip ws))) H' := by
    refine ⟨g.ex.trans (Ex.new n'), fun p o h => g.fr p o (e0 p o h) (ne_of_none h hx), fun p o h => ?_, fun p o h => ?_⟩
    · by_cases q : p = x
      · subst q; rw [upd_same] at h; cases h; exact l'
      · rw [upd_ne q] at h; exact e' p o h
    · by_cases q : p = x
      · subst q; exact .inr hx
      · rw [upd_ne q] at h
        rcases g.nw p o h with z | z | z
        · exact .inl z
        · exact .inr (e0.none z)
        · exact absurd z q
  exact k _ _ _ gw.gr (E1.g1 gw) (.obj hT upd_same hl (r'.ex (Ex.new n')))
theorem xd_make {x : Str} {p : Pos} {dds : List Dt} {dvs : List V} {dus : List Value} {Rf : List Dt → List Dt → Prop} (hT : c.T n = some (C, ns)) (M : Mk X.K C f) (F : FnOk X.prog X.w X.K X.mg X.base CX k f fd ps (spI c.K c.T n Rf)) (hr : Room (k + 1) X.A) (hm : X.mg x = some (.ref C)) (hb : Binds X.K fd ps dus) (hd : Vals dvs dus) (hdd : ∀ G, Reps c.K c.T G dds dvs) (hx : Passes CX X E)
    (h : XA c X (e :: es) st ds st1) (hR : Rf (ds ++ dds) fs) (hg : Gl X x := by rfl) (hdb : (x == ("__debug__" : Str)) = false := by decide) (he : starEach (e :: es) X.env = (false, eval e X.env) :: starEach es X.env := by rfl) (hpl : (backTo pos (starEach es X.env)).any (·.1) = false := by rfl) :
    XD c X (.Call (.Name x p) (e :: es) [] pos) st (.obj n fs) st1 :=
  ⟨pe_weak (pe_make M F hr hg hm hb hd hx h.pa hdb he hpl) fun σ H Q ⟨G, E0, kk⟩ => ⟨G, E0, fun vs G1 H1 g1 E1 r1 => fun y dx hy hdx hne =>
    made_of hT E1 r1 hdd hR hy hdx hne (fun v G' H' g E' r' => kk v G' H' (g1.trans g) E' r') E⟩⟩
/-- in an __init__: self.f = e, the next attribute -/
theorem putF_next {ns : List Str} {vs : List V} {f : Str} {v : V} (hn : ns.Nodup) (k : Nat) (hk : vs.length = k) (hf : ns[k]? = some f) : putF f v ((ns.take k).zip vs) = (ns.take (k + 1)).zip (vs ++ [v]) := by
  induction ns generalizing vs k with
  | nil => simp at hf
  | cons q ns ih =>
    cases k with
    | zero =>
      have : vs = [] := List.length_eq_zero_iff.mp hk
      subst this
      have : q = f := by simpa using hf
      subst this
      rfl
    | succ k =>
      cases vs with
      | nil => simp at hk
      | cons u vs =>
        have hf' : ns[k]? = some f := by simpa using hf
        have nq : ¬ q = f := fun z => by
          subst z
          exact (List.nodup_cons.mp hn).1 (List.mem_of_getElem? hf')
        show (if q = f then _ else (q, u) :: putF f v ((ns.take k).zip vs)) = _
        rw [if_neg nq, ih (List.nodup_cons.mp hn).2 k (by simpa using hk) hf']
        rfl
theorem xp_fldset {C : Addr} {f y : Str} {p1 p2 ppos : Pos} (he : XD c X e st d st1) (hT : c.T n = some (C, ns)) (hnd : ns.Nodup) (hcl : Cls X.K C) (hna : NoAttr X.K C f) (h0 : st1[0]? = some (some (.bo n fs))) (hf : ns[fs.length]? = some f) (hlen : fs.length < 1000 := by first | decide | simp)
    (hN : X.N[0]? = some y := by rfl) (hv : Vis X.env.scope y := by first | exact Or.inl rfl | exact Or.inr (Or.inl rfl) | exact Or.inr (Or.inr rfl)) (hd : (y == ("__debug__" : Str)) = false := by decide) (hcd : (y == ("__classdict__" : Str)) = false := by decide)
    (hs : swapsWith e (some (.Attribute (.Name y p1) f p2)) ppos.line X.env = pure false := by rfl) :
    XP c X (.Assign [.Attribute (.Name y p1) f p2] e ppos) st (.nx (st1.set 0 (some (.bo n (fs ++ [d]))))) :=
  ⟨ps_weak (ps_fld (pe_var hN hv hd hcd) he.pe hs) fun D σ H ⟨G, E, kk⟩ => ⟨G, E, fun w G1 H1 g1 E1 r1 => by
    obtain ⟨u, z1, C', ns', dx, vs, t, rfl, m1, m2, m3⟩ := E1.sl 0 _ h0
    rw [hT] at t
    cases t
    refine ⟨_, z1, c.pa 0, C, dx, _, rfl, m2, hcl, hna, ?_, ?_⟩
    · rw [List.length_zip, List.length_take]; omega
    · rw [putF_next hnd fs.length m3.length.symm hf]
      obtain ⟨g2, e2⟩ := gr_upd (a := c.pa 0) (o := .ins C dx ((ns.take (fs.length + 1)).zip (vs ++ [w]))) E1.ex m1 (by rw [m2]; simp)
      have ho : own σ st1 (c.pa 0) := ⟨0, _, h0, rfl, z1⟩
      have il : 0 < st1.length := (List.getElem?_eq_some_iff.mp h0).1
      have oth : ∀ (j : Nat) t b, j ≠ 0 → st1[j]? = some (some t) → t.isOw = true → σ[j]? = some (some (.ref b)) → b ≠ c.pa 0 := fun j t b nj h1 h2 h3 z => nj (E1.ds j 0 _ _ _ h1 h0 h2 rfl (by rw [h3, z]) z1)
      have E3 : En c.K c.T c.pa G1 (upd H1 (c.pa 0) (.ins C dx ((ns.take (fs.length + 1)).zip (vs ++ [w])))) σ (st1.set 0 (some (.bo n (fs ++ [d])))) := by
        refine ⟨e2, fun j t h => ?_, fun j k s t b h1 h2 o1 o2 h3 h4 => ?_, by rw [List.length_set]; exact E1.len⟩
        · rcases set_cases h with ⟨rfl, q, z⟩ | ⟨nj, h⟩
          · cases q
            exact ⟨_, z1, C, ns, dx, vs ++ [w], hT, rfl, m1, by rw [upd_same, List.length_append]; rfl, m3.app (.cons r1 .nil)⟩
          · obtain ⟨w', q1, q2⟩ := E1.sl j t h
            refine ⟨w', q1, ?_⟩
            cases t with
            | fr d => exact q2
            | ex _ _ _ => exact q2
            | ow zs =>
              obtain ⟨b, us, rfl, y1, y2, y3⟩ := q2
              exact ⟨b, us, rfl, y1, by rw [upd_ne (oth j _ b nj h rfl q1)]; exact y2, y3⟩
            | pr k zs =>
              obtain ⟨us, rfl, y1, y2, y3⟩ := q2
              exact ⟨us, rfl, y1, by rw [upd_ne (oth j _ _ nj h rfl q1)]; exact y2, y3⟩
            | bo mm zs =>
              obtain ⟨C2, ns2, dx2, us, t2, rfl, y1, y2, y3⟩ := q2
              exact ⟨C2, ns2, dx2, us, t2, rfl, y1, by rw [upd_ne (oth j _ _ nj h rfl q1)]; exact y2, y3⟩
        · have base : ∀ (j : Nat) t, (st1.set 0 (some (.bo n (fs ++ [d]))))[j]? = some (some t) → t.isOw = true → ∃ t', st1[j]? = some (some t') ∧ t'.isOw = true := fun j t h o => by
            rcases set_cases h with ⟨rfl, q, z⟩ | ⟨nj, h⟩
            · exact ⟨_, h0, rfl⟩
            · exact ⟨t, h, o⟩
          obtain ⟨t', q1, q2⟩ := base j s h1 o1
          obtain ⟨u', q3, q4⟩ := base k t h2 o2
          exact E1.ds j k t' u' b q1 q3 q2 q4 h3 h4
      have g3 : Gr G1 H1 G1 (upd H1 (c.pa 0) (.ins C dx ((ns.take (fs.length + 1)).zip (vs ++ [w])))) (own σ st1) (own σ (st1.set 0 (some (.bo n (fs ++ [d]))))) := by
        refine ⟨g2.ex, fun p o q => .inl q, fun p o q nn => g2.fr p o q fun z => nn (by rw [z]; exact ho), g2.al, fun p q => .inl ?_⟩
        obtain ⟨j, t, h1, h2, h3⟩ := q
        rcases set_cases h1 with ⟨rfl, q, z⟩ | ⟨nj, h1⟩
        · exact ⟨0, _, h0, rfl, h3⟩
        · exact ⟨j, t, h1, h2, h3⟩
      exact kk _ _ _ (g1.trans g3) E3⟩⟩
end
end Dv
set_option autoImplicit true
set_option maxRecDepth 100000
namespace Dv
open PySem PySem.Spec PyProof.Rows L2

variable {c : Ctx} {X : Cx} {st st1 st2 st3 st' : Store} {a b e tg iter : Expr} {es : List Expr} {d d1 d2 d' : Dt} {ds xs ys zs fs gs : List Dt} {pos : Pos} {G G' H H' : Hp} {σ σ' : L2.St} {v : V} {i j n : Nat} {body : List Stmt} {o : Out}

/-! ### an __init__ from its body -/
def st0I (N : List Str) (n : Nat) (ds : List Dt) : Store := some (.bo n []) :: (ds.map (fun d => some (.fr d)) ++ List.replicate (N.length - (ds.length + 1)) none)
theorem tail_get {m : Nat} {s : Sv} {i : Nat} (h : (ds.map (fun d => some (Sv.fr d)) ++ List.replicate m none)[i]? = some (some s)) : ∃ d, ds[i]? = some d ∧ s = .fr d := by
  by_cases q : i < ds.length
  · rw [List.getElem?_append_left (by simpa using q), List.getElem?_map] at h
    cases z : ds[i]? with
    | none => rw [z] at h; cases h
    | some d => rw [z] at h; cases h; exact ⟨d, rfl, rfl⟩
  · rw [List.getElem?_append_right (by simpa using q), List.getElem?_replicate] at h
    split at h <;> cases h
theorem En.startI {pa : Nat → Addr} {N : List Str} {vs : List V} {C dx : Addr} {ns : List Str} (hT : c.T n = some (C, ns)) (e : Ex G H) (hn : G (pa 0) = none) (hl : H (pa 0) = some (.ins C dx [])) (r : Reps c.K c.T G ds vs) : En c.K c.T pa G H (L2.start N (.ref (pa 0) :: vs)) (st0I N n ds) := by
  have e1 : L2.start N (.ref (pa 0) :: vs) = some (.ref (pa 0)) :: (vs.map some ++ List.replicate (N.length - (vs.length + 1)) none) := rfl
  rw [e1]
  refine ⟨e, fun i s h => ?_, fun i j s t a h1 h2 o1 o2 h3 h4 => ?_, by unfold st0I; simp [r.length]⟩
  · cases i with
    | zero => cases h; exact ⟨_, rfl, C, ns, dx, [], hT, rfl, hn, hl, .nil⟩
    | succ i =>
      obtain ⟨d, z, rfl⟩ := tail_get (ds := ds) (i := i) h
      obtain ⟨v, h1, h2⟩ := r.get z
      refine ⟨v, ?_, h2⟩
      have q : i < ds.length := (List.getElem?_eq_some_iff.mp z).1
      show (vs.map some ++ _)[i]? = _
      rw [List.getElem?_append_left (by rw [List.length_map, ← r.length]; exact q), List.getElem?_map, h1]; rfl
  · have z : ∀ (i : Nat) s, (st0I N n ds)[i]? = some (some s) → s.isOw = true → i = 0 := fun i s h o => by
      cases i with
      | zero => rfl
      | succ i => obtain ⟨d, z, rfl⟩ := tail_get (ds := ds) (i := i) h; cases o
    rw [z i s h1 o1, z j t h2 o2]
theorem own_startI {pa : Nat → Addr} {N : List Str} {vs : List V} {p : Addr} (h : own (L2.start N (.ref (pa 0) :: vs)) (st0I N n ds) p) : p = pa 0 := by
  obtain ⟨i, s, h1, o1, h3⟩ := h
  cases i with
  | zero => cases h3; rfl
  | succ i => obtain ⟨d, z, rfl⟩ := tail_get (ds := ds) (i := i) h1; cases o1
section
variable {P : Program} {w : World} {K : PySem.W.Frag} {T : Ct} {mg : Str → Option Value} {base : Heap} {x qual : Str} {sd : Stmt} {f : Addr} {fd : FuncData} {N ps : List Str} {k : Nat} {Rf : List Dt → List Dt → Prop} {C : Addr} {ns : List Str}
/-- the reading, once the body is shown -/
theorem initEnd {X : Cx} {sts : List Stmt} (hT : T n = some (C, ns)) (hlenR : ∀ ds fs, Rf ds fs → fs.length = ns.length) {vs : List V} {H : Hp} {Q : VK} {E : XK}
    (body : ∀ (pa : Nat → Addr) (ds fs : List Dt), Rf ds fs → ∃ st', XS ⟨K, T, pa⟩ X sts (st0I N n ds) (.nx st') ∧ st'[0]? = some (some (.bo n fs))) (h : spI K T n Rf vs H Q E) :
    ∃ t, PSs X sts t ∧ t { nx := fun _ H' => Q .non H', rt := Q } (L2.start N vs) H := by
  obtain ⟨y, vs', G, C', ns', dx, ds, fs, rfl, hT', e, hn, hl, r, hR, kk⟩ := h
  rw [hT] at hT'
  cases hT'
  obtain ⟨st', hb, hst⟩ := body (fun _ => y) ds fs hR
  refine ⟨_, hb.pss, G, En.startI (c := ⟨K, T, fun _ => y⟩) (pa := fun _ => y) hT e hn hl r, fun σ' G' H' g E' => ?_⟩
  obtain ⟨u, z1, C2, ns2, dx2, ws, t2, rfl, m1, m2, m3⟩ := E'.sl 0 _ hst
  have t3 := hT.symm.trans t2
  cases t3
  have hlf := hlenR ds fs hR
  rw [hlf, List.take_length] at m2
  refine kk G' H' dx2 ws ?_ E'.ex m1 m2 ?_ m3
  · exact ⟨g.ex, fun p o q => (g.nw p o q).imp id (Or.imp id fun z => own_startI (pa := fun _ => y) z), fun p o q nq => g.fr p o q fun z => nq (own_startI (pa := fun _ => y) z), g.al, fun p q => .inl q⟩
  · rw [← m3.length, hlf]
theorem okI (F : Fun K x qual sd f fd) (S : FnScope N ps (defScope sd)) (hT : T n = some (C, ns)) (hl : ∀ ds fs, Rf ds fs → ds.length + 1 = ps.length) (hlenR : ∀ ds fs, Rf ds fs → fs.length = ns.length)
    (body : ∀ (cdv : Value) (A : Around) (outer : List Env) (s : Shared) (H : Hp) (E : XK) (pa : Nat → Addr) (ds fs : List Dt), Room k (A.deeper (envOfC qual (defScope sd) s.heap.objs.size f cdv)) → Rf ds fs →
      ∃ st', XS ⟨K, T, pa⟩ (bX P w K mg base N qual sd f cdv A outer s H E) (defBody sd) (st0I N n ds) (.nx st') ∧ st'[0]? = some (some (.bo n fs))) : FnOk P w K mg base CX0 (k + 1) f fd ps (spI K T n Rf) := by
  refine F.ok S (fun vs H Q E h => ?_) (fun cdv A outer s H vs Q E hr h => ?_)
  · obtain ⟨y, vs', G, C', ns', dx, ds, fs, rfl, hT', e, hn, hl', r, hR, kk⟩ := h
    rw [List.length_cons, ← r.length]; exact hl ds fs hR
  · exact initEnd hT hlenR (fun pa ds fs hR => body cdv A outer s H E pa ds fs hr hR) h
/-- the same for an __init__ with defaults -/
theorem okID {dvs : List V} {kws : List (Str × V)} (F : FunD K x qual (defArgs sd) (defBody sd) (defScope sd) dvs kws f fd) (S : FnScope N ps (defScope sd)) (hT : T n = some (C, ns)) (hl : ∀ ds fs, Rf ds fs → ds.length + 1 = ps.length) (hlenR : ∀ ds fs, Rf ds fs → fs.length = ns.length)
    (body : ∀ (cdv : Value) (A : Around) (outer : List Env) (s : Shared) (H : Hp) (E : XK) (pa : Nat → Addr) (ds fs : List Dt), Room k (A.deeper (envOfC qual (defScope sd) s.heap.objs.size f cdv)) → Rf ds fs →
      ∃ st', XS ⟨K, T, pa⟩ (bX P w K mg base N qual sd f cdv A outer s H E) (defBody sd) (st0I N n ds) (.nx st') ∧ st'[0]? = some (some (.bo n fs))) : FnOk P w K mg base CX0 (k + 1) f fd ps (spI K T n Rf) := by
  refine F.ok S (fun vs H Q E h => ?_) (fun cdv A outer s H vs Q E hr h => ?_)
  · obtain ⟨y, vs', G, C', ns', dx, ds, fs, rfl, hT', e, hn, hl', r, hR, kk⟩ := h
    rw [List.length_cons, ← r.length]; exact hl ds fs hR
  · obtain ⟨t, h1, h2⟩ := initEnd (N := N) (X := bX P w K mg base N qual sd f cdv A outer s H E) hT hlenR (fun pa ds fs hR => body cdv A outer s H E pa ds fs hr hR) h
    exact ⟨t, h1.nox, h2⟩
end

/-! ### lists and tuples made of others -/
theorem Reps.replicate {K : PySem.W.Frag} {T : Ct} {G : Hp} : ∀ (m : Nat) {ds : List Dt} {vs : List V}, Reps K T G ds vs → Reps K T G (List.replicate m ds).flatten (List.replicate m vs).flatten
  | 0, _, _, _ => .nil
  | m + 1, ds, vs, r => by
    rw [List.replicate_succ, List.replicate_succ, List.flatten_cons, List.flatten_cons]
    exact r.app (Reps.replicate m r)
/-- xs * k -/
theorem o_rep {k : Int} (h0 : k < 2 ^ 63) (h1 : -(2 ^ 63) ≤ k) (hz : ds.length * k.toNat ≤ 100000) : Op2 c (.lst ds) (.int k) (.lst (List.replicate k.toNat ds).flatten) rRep := fun G H x y Q e r1 r2 kk => by
  obtain ⟨a, vs, rfl, h, r⟩ := r1.lst_inv
  cases r2
  refine ⟨a, k, vs, rfl, rfl, e _ _ h, h1, h0, by rw [← r.length]; exact Nat.le_trans hz (by decide), fun p hp => kk _ _ _ (Gw.new e hp) (.lst upd_same ((Reps.replicate _ r).ex (Ex.new (e.none hp))))⟩
/-- xs + ys -/
theorem o_cat (hz : ds.length + xs.length ≤ 100000) : Op2 c (.lst ds) (.lst xs) (.lst (ds ++ xs)) rCat := fun G H x y Q e r1 r2 kk => by
  obtain ⟨a, vs, rfl, h, r⟩ := r1.lst_inv
  obtain ⟨b, ws, rfl, h2, r2⟩ := r2.lst_inv
  exact ⟨a, b, vs, ws, rfl, rfl, e _ _ h, e _ _ h2, by rw [← r.length, ← r2.length]; exact Nat.le_trans hz (by decide), fun p hp => kk _ _ _ (Gw.new e hp) (.lst upd_same ((r.app r2).ex (Ex.new (e.none hp))))⟩
/-- tuple(xs) -/
theorem o_tuple (h : d1 = .lst ds ∨ d1 = .tup ds) : OpN c [d1] (.tup ds) (fun xs H Q => ∃ p ys, xs = [.ref p] ∧ ((SqL c.K H p ys ∧ ∀ l, H l = none → Q (.ref l) (upd H l (.tup ys))) ∨ (SqT c.K H p ys ∧ Q (.ref p) H))) := fun G H vs Q e r kk => by
  cases r with
  | cons r r' =>
    cases r'
    rcases h with rfl | rfl
    · obtain ⟨a, vs, rfl, h, r⟩ := r.lst_inv
      exact ⟨a, vs, rfl, .inl ⟨.inl (.inl (e _ _ h)), fun p hp => kk _ _ _ (Gw.new e hp) (.tup (SqT.of upd_same) (r.ex (Ex.new (e.none hp))))⟩⟩
    · obtain ⟨a, vs, q, h, r2⟩ := id r.tup_inv
      subst q
      exact ⟨a, vs, rfl, .inr ⟨e.st h, kv_same kk e r⟩⟩
/-- list(xs) -/
theorem o_list (h : d1 = .lst ds ∨ d1 = .ro ds ∨ d1 = .tup ds) : OpN c [d1] (.lst ds) (fun xs H Q => ∃ p ys, xs = [.ref p] ∧ (SqL c.K H p ys ∨ SqT c.K H p ys) ∧ ∀ l, H l = none → Q (.ref l) (upd H l (.lst ys))) := fun G H vs Q e r kk => by
  cases r with
  | cons r r' =>
    cases r'
    rcases h with rfl | rfl | rfl
    · obtain ⟨a, vs, rfl, h, r⟩ := r.lst_inv
      exact ⟨a, vs, rfl, .inl (.inl (.inl (e _ _ h))), fun p hp => kk _ _ _ (Gw.new e hp) (.lst upd_same (r.ex (Ex.new (e.none hp))))⟩
    · obtain ⟨a, vs, rfl, h, r⟩ := r.ro_inv
      exact ⟨a, vs, rfl, .inl (e.sl h), fun p hp => kk _ _ _ (Gw.new e hp) (.lst upd_same (r.ex (Ex.new (e.none hp))))⟩
    · obtain ⟨a, vs, rfl, h, r⟩ := r.tup_inv
      exact ⟨a, vs, rfl, .inr (e.st h), fun p hp => kk _ _ _ (Gw.new e hp) (.lst upd_same (r.ex (Ex.new (e.none hp))))⟩
theorem o_lenS {x : Str} (hz : x.length ≤ 100000) : OpN c [.str x] (.int (x.length : Int)) (fun xs H Q => ∃ z, xs = [.str z] ∧ z.length ≤ sizeLine ∧ Q (.int z.length) H) := fun G H vs Q e r kk => by
  cases r with
  | cons r r' => cases r'; cases r; exact ⟨x, rfl, Nat.le_trans hz (by decide), kv_same kk e .int⟩

/-! ### == of plain data -/
mutual
theorem Rep.dp {K : PySem.W.Frag} {T : Ct} {G H : Hp} (e : Ex G H) : ∀ {d : Dt} {v : V} {p : PyData}, Rep K T G d v → d.py = some p → Dp K H v p
  | _, _, _, .non, h => by cases h; exact .non
  | _, _, _, .bl, h => by cases h; exact .bl _
  | _, _, _, .int, h => by cases h; exact .int _
  | _, _, _, .str, h => by cases h; exact .str _
  | _, _, p, .lst h1 r, h => by
    unfold Dt.py at h
    cases q : Dt.pys _ with
    | none => rw [q] at h; cases h
    | some ps => rw [q] at h; cases h; exact .lst (.inl (.inl (e _ _ h1))) (Reps.dp e r q)
  | _, _, p, .ro h1 r, h => by
    unfold Dt.py at h
    cases q : Dt.pys _ with
    | none => rw [q] at h; cases h
    | some ps => rw [q] at h; cases h; exact .lst (e.sl h1) (Reps.dp e r q)
  | _, _, p, .tup h1 r, h => by
    unfold Dt.py at h
    cases q : Dt.pys _ with
    | none => rw [q] at h; cases h
    | some ps => rw [q] at h; cases h; exact .tup (e.st h1) (Reps.dp e r q)
  | _, _, _, .obj _ _ _ _, h => by cases h
theorem Reps.dp {K : PySem.W.Frag} {T : Ct} {G H : Hp} (e : Ex G H) : ∀ {ds : List Dt} {vs : List V} {ps : List PyData}, Reps K T G ds vs → Dt.pys ds = some ps → DpAll K H vs ps
  | _, _, _, .nil, h => by cases h; exact .nil
  | _, _, ps, .cons r rs, h => by
    unfold Dt.pys at h
    split at h
    · rename_i p q h1 h2
      cases h
      exact .cons (Rep.dp e r h1) (Reps.dp e rs h2)
    · cases h
end
theorem o_eqD {p q : PyData} (h1 : d1.py = some p) (h2 : d2.py = some q) (s1 : SeqAt.shaped p = true) (s2 : SeqAt.shaped q = true) : Op2 c d1 d2 (.bl (PyData.eqv p q)) (rEqD c.K) := fun G H x y Q e r1 r2 kk =>
  ⟨p, q, r1.dp e h1, r2.dp e h2, s1, s2, kv_same kk e .bl⟩
theorem o_neD {p q : PyData} (h1 : d1.py = some p) (h2 : d2.py = some q) (s1 : SeqAt.shaped p = true) (s2 : SeqAt.shaped q = true) : Op2 c d1 d2 (.bl (!PyData.eqv p q)) (rNeD c.K) := fun G H x y Q e r1 r2 kk =>
  ⟨p, q, r1.dp e h1, r2.dp e h2, s1, s2, kv_same kk e .bl⟩
theorem o_inD {p : PyData} {qs : List PyData} (h1 : d1.py = some p) (h2 : d2.py = some (.list qs)) (s1 : SeqAt.shaped p = true) (s2 : SeqAt.shaped (.list qs) = true) : Op2 c d1 d2 (.bl (qs.any fun z => PyData.eqv z p)) (rInD c.K) := fun G H x y Q e r1 r2 kk =>
  ⟨p, qs, r1.dp e h1, r2.dp e h2, s1, s2, kv_same kk e .bl⟩

/-! ### isinstance -/
/-- what isinstance asks of an own class -/
structure ClsX (K : PySem.W.Frag) (C : Addr) : Prop where
  cl : Cls K C
  ha : PySem.W.findIn K (.ref C) "__class__" = some (some (.builtin "object.__class__"))
  hn : PySem.W.specialIn K (.builtin "object.__class__") "__get__" = some (some (.builtin "getset_descriptor.__get__"))
  tk : PySem.W.takesIn K (.builtin "object.__class__") = some true
  ob : PySem.W.mroIn K C (.type "object") = some true
inductive HasTy (c : Ctx) : Dt → Value → Prop where
  | non : HasTy c .non (.type "NoneType")
  | bl {t : Bool} : HasTy c (.bl t) (.type "bool")
  | int {k : Int} : HasTy c (.int k) (.type "int")
  | str {x : Str} : HasTy c (.str x) (.type "str")
  | lst {ws : List Dt} : HasTy c (.lst ws) (.type "list")
  | tup {ws : List Dt} : HasTy c (.tup ws) (.type "tuple")
  | obj {m : Nat} {ws : List Dt} {C : Addr} {ns : List Str} : c.T m = some (C, ns) → ClsX c.K C → HasTy c (.obj m ws) (.ref C)
theorem HasTy.tyx {t : Value} {G H : Hp} (h : HasTy c d t) (e : Ex G H) (r : Rep c.K c.T G d v) : TyX c.K H v t := by
  cases h with
  | non => cases r; exact .base .non
  | bl => cases r; exact .base (.bl _)
  | int => cases r; exact .base (.int _)
  | str => cases r; exact .base (.str _)
  | lst => obtain ⟨a, vs, rfl, h, _⟩ := r.lst_inv; exact .base (.lst (e _ _ h))
  | tup =>
    obtain ⟨a, vs, rfl, h, _⟩ := r.tup_inv
    rcases e.st h with (h | ⟨ob, h⟩) | ⟨ob, _, _, h, hc, _⟩
    · exact .base (.tup h)
    · exact .fTuple h
    · exact .kTuple h hc
  | obj t x =>
    obtain ⟨C', ns', a, dx, vs, rfl, q1, q2, _, _⟩ := r.obj_inv
    rw [t] at q1
    cases q1
    exact .base (.ins (e _ _ q2) x.cl x.ha x.hn x.tk x.ob)
theorem xd_isi {ce : Expr} {cv : V} {u t : Value} {r : Bool} {x : Str} {p : Pos} (h : XD c X e st d st1) (hc : PE X ce (tC cv)) (hu : ClsV cv u) (ht : HasTy c d t) (hk : PySem.W.kitOne X.K t u = some r) (hK : X.K = c.K) (hm : X.mg "isinstance" = none) (hg : Gl X "isinstance" := by rfl)
    (he : starEach (e :: [ce]) X.env = (false, eval e X.env) :: starEach [ce] X.env := by rfl) (he2 : starEach (ce :: []) X.env = (false, eval ce X.env) :: starEach [] X.env := by rfl) (hpl : (backTo pos (starEach [ce] X.env)).any (·.1) = false := by rfl) :
    XD c X (.Call (.Name "isinstance" p) [e, ce] [] pos) st (.bl r) st1 :=
  ⟨pe_weak (pe_callB call_isi hg hm (by decide +kernel) (pa_cons h.pe (pa_cons hc pa_nil he2) he) (by decide) (by decide) he hpl) fun σ H Q ⟨G, E, kk⟩ => ⟨G, E, fun v G1 H1 g1 E1 r1 => ⟨v, cv, t, u, r, rfl, hu, by rw [hK]; exact ht.tyx E1.ex r1, hk, kk _ G1 H1 g1 E1 .bl⟩⟩⟩
end Dv
set_option autoImplicit true
set_option maxRecDepth 100000
set_option maxHeartbeats 1000000
/-! zip of two sequences, each a list or a tuple -/
namespace Zk
open PySem
/-- what kind of sequence -/
inductive Kd where
  | l | t
def Kd.cls : Kd → String
  | .l => "list_iterator"
  | .t => "tuple_iterator"
def Kd.Sq : Kd → Heap → Addr → Array Value → Prop
  | .l => Heap.IsList
  | .t => Heap.IsTuple
/-- the walker at it stands ahead of the place i of the sequence at q -/
def Wk (κ : Kd) (h : Heap) (it q : Addr) (i : Nat) : Prop := ∃ o, h.get? it = some o ∧ o.cls = .type κ.cls ∧ o.data = .fields #[.ref q, .int i 0]
section
variable {prog : Program} {w : World} {A : Around} {E : Value → Shared → Prop} {s : Shared} {κ κ1 κ2 : Kd} {it q : Addr} {i : Nat} {vs : Array Value}
theorem Wk.only {h h' : Heap} (x : Wk κ h it q i) (e : ∀ o, h.get? it = some o → h'.get? it = some o) : Wk κ h' it q i := let ⟨o, ho, r⟩ := x; ⟨o, e _ ho, r⟩
theorem Wk.but {h h' : Heap} {b : Addr} (x : Wk κ h it q i) (e : Heap.ExtBut b h h') (n : it ≠ b) : Wk κ h' it q i := x.only fun o z => e _ _ n z
theorem Sq.but {h h' : Heap} {b : Addr} (x : κ.Sq h q vs) (e : Heap.ExtBut b h h') (n : q ≠ b) : κ.Sq h' q vs := by
  cases κ with
  | l => exact Heap.IsList.extBut x e n
  | t => exact Heap.IsTuple.extBut x e n
theorem Sq.push {h : Heap} (x : κ.Sq h q vs) (o : Obj) : κ.Sq (h.push o) q vs := by
  cases κ with
  | l => exact Heap.IsList.push x o
  | t => exact Heap.IsTuple.push x o
theorem draw_item {v : Value} {Q : Value → Shared → Prop} (hw : Wk κ s.heap it q i) (hq : κ.Sq s.heap q vs) (hv : vs[i]? = some v) (k : ∀ h', Wk κ h' it q (i + 1) → Heap.SameBut it s.heap h' → Q v { s with heap := h' }) :
    wpAny (model prog w) A (Builtin.SmallTypes.nextOf (.ref it)) Q E s := by
  cases κ with
  | l => exact wpAny_nextOf_list_item hw hq hv k
  | t => exact RZ.nextOf_tuple_item hw hq hv k
theorem draw_end {Q : Value → Shared → Prop} (hh : A.handled = none) (hw : Wk κ s.heap it q i) (hq : κ.Sq s.heap q vs) (hv : vs[i]? = none)
    (k : ∀ h' e, Heap.ExtBut it s.heap h' → (∃ o, h'.get? e = some o ∧ o.cls = .type "StopIteration") → E (.ref e) { s with heap := h' }) : wpAny (model prog w) A (Builtin.SmallTypes.nextOf (.ref it)) Q E s := by
  cases κ with
  | l => exact wpAny_nextOf_list_end hh hw hq hv k
  | t => exact RZ.nextOf_tuple_end hh hw hq hv k
/-- all but the zip's own things stand -/
abbrev Rest (z TO i1 i2 : Addr) (h h' : Heap) : Prop := ∀ c o, c ≠ z → c ≠ TO → c ≠ i1 → c ≠ i2 → h.get? c = some o → h'.get? c = some o
variable {z TI TO i1 i2 q1 q2 : Addr} {k1 k2 : Nat} {xs ys : Array Value} {x y a b : Value}
theorem go_item {Q : Value → Shared → Prop} (D : ZipApart z TI TO i1 i2 q1 q2) (hz : IsZip s.heap z TI TO .none) (hTI : IsPair s.heap TI (.ref i1) (.ref i2)) (hTO : IsPair s.heap TO a b)
    (w1 : Wk κ1 s.heap i1 q1 k1) (w2 : Wk κ2 s.heap i2 q2 k2) (s1 : κ1.Sq s.heap q1 xs) (s2 : κ2.Sq s.heap q2 ys) (hx : xs[k1]? = some x) (hy : ys[k2]? = some y)
    (k : ∀ h', IsZip h' z TI TO (rawInt s.heap.objs.size) → IsPair h' TO x y → Wk κ1 h' i1 q1 (k1 + 1) → Wk κ2 h' i2 q2 (k2 + 1) → IsPair h' s.heap.objs.size x y → h'.objs.size = s.heap.objs.size + 1 → Rest z TO i1 i2 s.heap h' → Q (.ref s.heap.objs.size) { s with heap := h' }) :
    wpAny (model prog w) A (Builtin.«zip.__next__» ⟨[.ref z], []⟩) (fun fin s' => ∃ v, fin = .done (.ret v) ∧ Q v s') E s := by
  show wpAny _ _ (field (.ref z) 2 >>= _) _ _ _
  refine wpAny_bind (wpAny_field hz rfl (x := .bool false) rfl ?_)
  show wpAny _ _ (field (.ref z) 3 >>= _) _ _ _
  refine wpAny_bind (wpAny_field hz rfl (x := .ref TI) rfl (wpAny_bind (wpAny_seqItems hTI rfl ?_)))
  show wpAny _ _ (Builtin.SmallTypes.ownedTupleIsFree (.ref z) >>= _) _ _ _
  unfold Builtin.SmallTypes.ownedTupleIsFree
  refine wpAny_bind (wpAny_bind (wpAny_field hz rfl (x := .none) rfl (wpAny_pure ?_)))
  simp only [if_true]
  refine wpAny_bind (wpAny_rule (wpAny_bind (wpAny_field hz rfl (x := .ref TO) rfl ?_)))
  refine wpAny_bind (wpAny_setField_rec hz (by simp) fun ha za ea => wpAny_bind ?_)
  have za : IsZip ha z TI TO .ellipsis := za
  simp only [List.zipIdx_cons, List.zipIdx_nil, List.forIn_cons, List.forIn_nil]
  -- the first one
  refine wpAny_bind (wpAny_bind (wpAny_onRaise ?_))
  show wpAny _ _ (Builtin.SmallTypes.nextOf (.ref i1) >>= _) _ _ _
  refine wpAny_bind (draw_item (w1.but ea.extBut D.i1z) (Sq.but s1 ea.extBut D.l1z) hx fun hb wb eb => wpAny_pure ?_)
  have tb : IsPair hb TO a b := eb.extBut _ _ D.TOi1 (ea.extBut _ _ D.TOz hTO)
  refine wpAny_bind (wpAny_seqItems tb rfl (wpAny_bind (wpAny_updateSeq_pair tb fun hc tc ec => ?_)))
  have tc : IsPair hc TO x b := tc
  refine wpAny_bind (wpAny_letGo (wpAny_pure (wpAny_bind (wpAny_bind (wpAny_onRaise ?_)))))
  -- the second one
  show wpAny _ _ (Builtin.SmallTypes.nextOf (.ref i2) >>= _) _ _ _
  refine wpAny_bind (draw_item (((w2.but ea.extBut D.i2z).but eb.extBut D.i12.symm).but ec.extBut D.TOi2.symm) (Sq.but (Sq.but (Sq.but s2 ea.extBut D.l2z) eb.extBut D.l2i1) ec.extBut D.l2TO) hy fun hd wd ed => wpAny_pure ?_)
  have td : IsPair hd TO x b := ed.extBut _ _ D.TOi2 tc
  refine wpAny_bind (wpAny_seqItems td rfl (wpAny_bind (wpAny_updateSeq_pair td fun he te ee => ?_)))
  have te : IsPair he TO x y := te
  refine wpAny_bind (wpAny_letGo (wpAny_pure (wpAny_pure (wpAny_bind (wpAny_seqItems te rfl (wpAny_bind (wpAny_newTuple ?_)))))))
  have hsz : he.objs.size = s.heap.objs.size := by rw [ee.1, ed.1, ec.1, eb.1, ea.1]
  have ze : IsZip he z TI TO .ellipsis := ee.extBut _ _ D.TOz.symm (ed.extBut _ _ D.i2z.symm (ec.extBut _ _ D.TOz.symm (eb.extBut _ _ D.i1z.symm za)))
  have re : Rest z TO i1 i2 s.heap he := fun c o c1 c2 c3 c4 e => ee.extBut _ _ c2 (ed.extBut _ _ c4 (ec.extBut _ _ c2 (eb.extBut _ _ c3 (ea.extBut _ _ c1 e))))
  have w1e : Wk κ1 he i1 q1 (k1 + 1) := ((wb.but ec.extBut D.TOi1.symm).but ed.extBut D.i12).but ee.extBut D.TOi1.symm
  have w2e : Wk κ2 he i2 q2 (k2 + 1) := wd.but ee.extBut D.TOi2.symm
  have zl : z < he.objs.size := Heap.lt_size ze
  show wpAny _ _ (Builtin.SmallTypes.ownedTupleHandOut (.ref z) (.ref he.objs.size) >>= _) _ _ _
  unfold Builtin.SmallTypes.ownedTupleHandOut
  have zf : IsZip (he.push { cls := .type "tuple", data := .seq #[x, y] }) z TI TO .ellipsis := Heap.get?_push_of_some _ ze
  refine wpAny_bind (wpAny_bind (wpAny_setField_rec zf (by simp) fun hg zg eg => ?_))
  have zg : IsZip hg z TI TO (rawInt he.objs.size) := zg
  refine wpAny_setField_rec zg (by simp) fun hh zh eh => ?_
  have zh : IsZip hh z TI TO (rawInt he.objs.size) := zh
  have up : ∀ c o, c ≠ z → he.get? c = some o → hh.get? c = some o := fun c o c1 e => eh.extBut _ _ c1 (eg.extBut _ _ c1 (Heap.get?_push_of_some _ e))
  have th : IsPair hh he.objs.size x y := eh.extBut _ _ (Nat.ne_of_gt zl) (eg.extBut _ _ (Nat.ne_of_gt zl) (Heap.get?_push_size _ rfl))
  have sh : hh.objs.size = he.objs.size + 1 := by rw [eh.1, eg.1, Heap.size_push]
  rw [hsz] at zh th sh
  refine wpAny_pure ⟨_, rfl, ?_⟩
  show Q (.ref he.objs.size) _
  rw [hsz]
  exact k hh zh (up _ _ D.TOz te) (w1e.only fun o e => up _ o D.i1z e) (w2e.only fun o e => up _ o D.i2z e) th sh fun c o c1 c2 c3 c4 e => up c o c1 (re c o c1 c2 c3 c4 e)
theorem go_end {Q : Fin → Shared → Prop} (hn : A.handled = none) (D : ZipApart z TI TO i1 i2 q1 q2) (hz : IsZip s.heap z TI TO .none) (hTI : IsPair s.heap TI (.ref i1) (.ref i2)) (hTO : IsPair s.heap TO a b)
    (w1 : Wk κ1 s.heap i1 q1 k1) (w2 : Wk κ2 s.heap i2 q2 k2) (s1 : κ1.Sq s.heap q1 xs) (s2 : κ2.Sq s.heap q2 ys) (he : xs[k1]? = none ∨ ys[k2]? = none)
    (k : ∀ h' e, Rest z TO i1 i2 s.heap h' → (∃ o, h'.get? e = some o ∧ o.cls = .type "StopIteration") → E (.ref e) { s with heap := h' }) :
    wpAny (model prog w) A (Builtin.«zip.__next__» ⟨[.ref z], []⟩) Q E s := by
  show wpAny _ _ (field (.ref z) 2 >>= _) _ _ _
  refine wpAny_bind (wpAny_field hz rfl (x := .bool false) rfl ?_)
  show wpAny _ _ (field (.ref z) 3 >>= _) _ _ _
  refine wpAny_bind (wpAny_field hz rfl (x := .ref TI) rfl (wpAny_bind (wpAny_seqItems hTI rfl ?_)))
  show wpAny _ _ (Builtin.SmallTypes.ownedTupleIsFree (.ref z) >>= _) _ _ _
  unfold Builtin.SmallTypes.ownedTupleIsFree
  refine wpAny_bind (wpAny_bind (wpAny_field hz rfl (x := .none) rfl (wpAny_pure ?_)))
  simp only [if_true]
  refine wpAny_bind (wpAny_rule (wpAny_bind (wpAny_field hz rfl (x := .ref TO) rfl ?_)))
  refine wpAny_bind (wpAny_setField_rec hz (by simp) fun ha za ea => wpAny_bind ?_)
  have za : IsZip ha z TI TO .ellipsis := za
  simp only [List.zipIdx_cons, List.zipIdx_nil, List.forIn_cons, List.forIn_nil]
  refine wpAny_bind (wpAny_bind (wpAny_onRaise ?_))
  show wpAny _ _ (Builtin.SmallTypes.nextOf (.ref i1) >>= _) _ _ _
  cases hx : xs[k1]? with
  | none =>
    refine wpAny_bind (draw_end hn (w1.but ea.extBut D.i1z) (Sq.but s1 ea.extBut D.l1z) hx fun hb e eb x => ?_)
    obtain ⟨oe, hoe, hce⟩ := x
    have zb : IsZip hb z TI TO .ellipsis := eb _ _ D.i1z.symm za
    have nz : e ≠ z := fun x => by subst x; rw [zb] at hoe; cases hoe; simp at hce
    exact wpAny_setField_rec zb (by simp) fun hc _ ec => k hc e (fun c o c1 _ c3 _ x => ec.extBut _ _ c1 (eb _ _ c3 (ea.extBut _ _ c1 x))) ⟨oe, ec.extBut _ _ nz hoe, hce⟩
  | some x =>
    have hy : ys[k2]? = none := he.resolve_left (by rw [hx]; simp)
    refine wpAny_bind (draw_item (w1.but ea.extBut D.i1z) (Sq.but s1 ea.extBut D.l1z) hx fun hb wb eb => wpAny_pure ?_)
    have tb : IsPair hb TO a b := eb.extBut _ _ D.TOi1 (ea.extBut _ _ D.TOz hTO)
    refine wpAny_bind (wpAny_seqItems tb rfl (wpAny_bind (wpAny_updateSeq_pair tb fun hc tc ec => ?_)))
    refine wpAny_bind (wpAny_letGo (wpAny_pure (wpAny_bind (wpAny_bind (wpAny_onRaise ?_)))))
    show wpAny _ _ (Builtin.SmallTypes.nextOf (.ref i2) >>= _) _ _ _
    refine wpAny_bind (draw_end hn (((w2.but ea.extBut D.i2z).but eb.extBut D.i12.symm).but ec.extBut D.TOi2.symm) (Sq.but (Sq.but (Sq.but s2 ea.extBut D.l2z) eb.extBut D.l2i1) ec.extBut D.l2TO) hy fun hd e ed x => ?_)
    obtain ⟨oe, hoe, hce⟩ := x
    have zd : IsZip hd z TI TO .ellipsis := ed _ _ D.i2z.symm (ec.extBut _ _ D.TOz.symm (eb.extBut _ _ D.i1z.symm za))
    have nz : e ≠ z := fun x => by subst x; rw [zd] at hoe; cases hoe; simp at hce
    exact wpAny_setField_rec zd (by simp) fun hf _ ef => k hf e (fun c o c1 c2 c3 c4 x => ef.extBut _ _ c1 (ed _ _ c4 (ec.extBut _ _ c2 (eb.extBut _ _ c3 (ea.extBut _ _ c1 x))))) ⟨oe, ef.extBut _ _ nz hoe, hce⟩
theorem next_item {Q : Option Value → Shared → Prop} (D : ZipApart z TI TO i1 i2 q1 q2) (hz : IsZip s.heap z TI TO .none) (hTI : IsPair s.heap TI (.ref i1) (.ref i2)) (hTO : IsPair s.heap TO a b)
    (w1 : Wk κ1 s.heap i1 q1 k1) (w2 : Wk κ2 s.heap i2 q2 k2) (s1 : κ1.Sq s.heap q1 xs) (s2 : κ2.Sq s.heap q2 ys) (hx : xs[k1]? = some x) (hy : ys[k2]? = some y)
    (k : ∀ h', IsZip h' z TI TO (rawInt s.heap.objs.size) → IsPair h' TO x y → Wk κ1 h' i1 q1 (k1 + 1) → Wk κ2 h' i2 q2 (k2 + 1) → IsPair h' s.heap.objs.size x y → h'.objs.size = s.heap.objs.size + 1 → Rest z TO i1 i2 s.heap h' → Q (some (.ref s.heap.objs.size)) { s with heap := h' }) :
    wpAny (model prog w) A (pyNext (.ref z)) Q E s := by
  have ty : s.TypeIs (.ref z) "zip" := ⟨_, hz, rfl⟩
  unfold pyNext
  exact wpAny_bind (wpAny_attempt (wpAny_callSpecial?_slot (name := Str.ofString "__next__") ty F.slot_zip_next (wpAny_call_entry F.slot_zip_next ty F.entry_zip_next
    (go_item D hz hTI hTO w1 w2 s1 s2 hx hy fun h' b1 b2 b3 b4 b5 b6 b7 => wpAny_pure (k h' b1 b2 b3 b4 b5 b6 b7)) (F.args_zip_next_1 _))))
theorem next_end {Q : Option Value → Shared → Prop} (hn : A.handled = none) (D : ZipApart z TI TO i1 i2 q1 q2) (hz : IsZip s.heap z TI TO .none) (hTI : IsPair s.heap TI (.ref i1) (.ref i2)) (hTO : IsPair s.heap TO a b)
    (w1 : Wk κ1 s.heap i1 q1 k1) (w2 : Wk κ2 s.heap i2 q2 k2) (s1 : κ1.Sq s.heap q1 xs) (s2 : κ2.Sq s.heap q2 ys) (he : xs[k1]? = none ∨ ys[k2]? = none) (k : ∀ h', Rest z TO i1 i2 s.heap h' → Q none { s with heap := h' }) :
    wpAny (model prog w) A (pyNext (.ref z)) Q E s := by
  have ty : s.TypeIs (.ref z) "zip" := ⟨_, hz, rfl⟩
  unfold pyNext
  refine wpAny_bind (wpAny_attempt (wpAny_callSpecial?_slot (name := Str.ofString "__next__") ty F.slot_zip_next (wpAny_call_entry F.slot_zip_next ty F.entry_zip_next
    (go_end hn D hz hTI hTO w1 w2 s1 s2 he fun h' e r x => ?_) (F.args_zip_next_1 _))))
  obtain ⟨o, ho, hc⟩ := x
  exact wpAny_bind (wpAny_isInstance (T := "StopIteration") (b := true) ⟨o, ho, hc⟩ isSubtype_stop (wpAny_pure (k _ r)))
/-! the making -/
abbrev H1 (κ1 : Kd) (h : Heap) (q1 : Addr) : Heap := h.push { cls := .type κ1.cls, data := .fields #[.ref q1, .int 0 0] }
abbrev H2 (κ1 κ2 : Kd) (h : Heap) (q1 q2 : Addr) : Heap := (H1 κ1 h q1).push { cls := .type κ2.cls, data := .fields #[.ref q2, .int 0 0] }
abbrev H3 (κ1 κ2 : Kd) (h : Heap) (q1 q2 : Addr) : Heap := (H2 κ1 κ2 h q1 q2).push { cls := .type "tuple", data := .seq #[.ref h.objs.size, .ref (H1 κ1 h q1).objs.size] }
abbrev H4 (κ1 κ2 : Kd) (h : Heap) (q1 q2 : Addr) : Heap := (H3 κ1 κ2 h q1 q2).push { cls := .type "tuple", data := .seq #[.none, .none] }
abbrev H5 (κ1 κ2 : Kd) (h : Heap) (q1 q2 : Addr) : Heap := (H4 κ1 κ2 h q1 q2).push { cls := .type "zip", data := .fields #[.none, .bool false, .bool false, .ref (H2 κ1 κ2 h q1 q2).objs.size, .ref (H3 κ1 κ2 h q1 q2).objs.size] }
theorem iter_of {Q : Value → Shared → Prop} (hq : κ.Sq s.heap q vs) (k : Q (.ref s.heap.objs.size) { s with heap := s.heap.push { cls := .type κ.cls, data := .fields #[.ref q, .int 0 0] } }) : wpAny (model prog w) A (pyIter (.ref q)) Q E s := by
  cases κ with
  | l => exact wpAny_pyIter_list hq k
  | t => exact wpAny_pyIter_tuple hq k
theorem meets_new (κ1 κ2 : Kd) (q1 q2 : Addr) (xs ys : Array Value) :
    Meets (Builtin.«zip.__new__» ⟨[.type "zip", .ref q1, .ref q2], []⟩) (fun _ R s => κ1.Sq s.heap q1 xs ∧ κ2.Sq s.heap q2 ys ∧ R (.ok (.ret (.ref (H4 κ1 κ2 s.heap q1 q2).objs.size))) { s with heap := H5 κ1 κ2 s.heap q1 q2 }) :=
  .of_wp fun prog w A R s h => by
    obtain ⟨hp, g, d, tk, os⟩ := s
    obtain ⟨u1, u2, h⟩ := h
    have hsub := sub_zip
    have L1 : κ1.Sq (Shared.heap ⟨hp, g, d, tk, os⟩) q1 xs := u1
    have L2 : κ2.Sq (Shared.heap ⟨hp.push { cls := .type κ1.cls, data := .fields #[.ref q1, .int 0 0] }, g, d, tk, os⟩) q2 ys := Sq.push u2 _
    wp_walk using iter_of L1, iter_of L2
    exact ⟨_, rfl, h⟩
theorem call_zip {Q : Value → Shared → Prop} (s1 : κ1.Sq s.heap q1 xs) (s2 : κ2.Sq s.heap q2 ys)
    (k : ∀ h', IsZip h' (s.heap.objs.size + 4) (s.heap.objs.size + 2) (s.heap.objs.size + 3) .none → IsPair h' (s.heap.objs.size + 2) (.ref s.heap.objs.size) (.ref (s.heap.objs.size + 1)) → IsPair h' (s.heap.objs.size + 3) .none .none →
      Wk κ1 h' s.heap.objs.size q1 0 → Wk κ2 h' (s.heap.objs.size + 1) q2 0 → (∀ c o, s.heap.get? c = some o → h'.get? c = some o) → Q (.ref (s.heap.objs.size + 4)) { s with heap := h' }) : wpAny (model prog w) A (call (.type "zip") [.ref q1, .ref q2]) Q E s := by
  refine callType_new F.called_zip (by decide) (F.typeCall_zip_2 _ _) (F.newCall_zip_2 _ _) (fun obj => F.args_object_init_3 obj _ _) F.entry_zip_new (meets_new κ1 κ2 q1 q2 xs ys) ⟨s1, s2, ?_⟩
  have n1 : (H1 κ1 s.heap q1).objs.size = s.heap.objs.size + 1 := Heap.size_push ..
  have n2 : (H2 κ1 κ2 s.heap q1 q2).objs.size = s.heap.objs.size + 2 := by rw [Heap.size_push, n1]
  have n3 : (H3 κ1 κ2 s.heap q1 q2).objs.size = s.heap.objs.size + 3 := by rw [Heap.size_push, n2]
  have n4 : (H4 κ1 κ2 s.heap q1 q2).objs.size = s.heap.objs.size + 4 := by rw [Heap.size_push, n3]
  have p5 : (H5 κ1 κ2 s.heap q1 q2).get? (H4 κ1 κ2 s.heap q1 q2).objs.size = some _ := Heap.get?_push_size _ rfl
  have p4 : (H5 κ1 κ2 s.heap q1 q2).get? (H3 κ1 κ2 s.heap q1 q2).objs.size = some _ := Heap.get?_push_of_some _ (Heap.get?_push_size _ rfl)
  have p3 : (H5 κ1 κ2 s.heap q1 q2).get? (H2 κ1 κ2 s.heap q1 q2).objs.size = some _ := Heap.get?_push_of_some _ (Heap.get?_push_of_some _ (Heap.get?_push_size _ rfl))
  have p2 : (H5 κ1 κ2 s.heap q1 q2).get? (H1 κ1 s.heap q1).objs.size = some _ := Heap.get?_push_of_some _ (Heap.get?_push_of_some _ (Heap.get?_push_of_some _ (Heap.get?_push_size _ rfl)))
  have p1 : (H5 κ1 κ2 s.heap q1 q2).get? s.heap.objs.size = some _ := Heap.get?_push_of_some _ (Heap.get?_push_of_some _ (Heap.get?_push_of_some _ (Heap.get?_push_of_some _ (Heap.get?_push_size _ rfl))))
  show _ ∧ _
  rw [n2, n3, n4] at p5
  rw [n1, n2] at p3
  rw [n3] at p4
  rw [n1] at p2
  rw [n4]
  exact ⟨⟨_, p5, rfl⟩, k _ p5 p3 p4 ⟨_, p1, rfl, rfl⟩ ⟨_, p2, rfl, rfl⟩ fun c o x => Heap.get?_push_of_some _ (Heap.get?_push_of_some _ (Heap.get?_push_of_some _ (Heap.get?_push_of_some _ (Heap.get?_push_of_some _ x))))⟩
end
end Zk
set_option autoImplicit true
set_option maxRecDepth 100000
namespace Dv
open PySem PySem.Spec PyProof.Rows L2 Zk

variable {c : Ctx} {X : Cx} {st st1 st2 st3 st' : Store} {a b e e2 tg iter : Expr} {es : List Expr} {d d1 d2 d' : Dt} {ds xs ys zs fs gs : List Dt} {pos : Pos} {G G' H H' : Hp} {σ σ' : L2.St} {v : V} {i j n : Nat} {body : List Stmt} {o : Out}

/-! ### zip over lists and tuples, mixed -/
def SqK (κ : Kd) (K : PySem.W.Frag) (H : Hp) (a : Addr) (xs : List V) : Prop := match κ with
  | .l => SqL K H a xs
  | .t => SqT K H a xs
theorem sqk_inv {κ : Kd} {pins : List (Addr × Obj)} {s : Shared} {a : Addr} {xs : List V} (I : Inv X pins σ H s) (h : SqK κ X.K H a xs) : ∃ its : List Value, Vals xs its ∧ κ.Sq s.heap a its.toArray ∧ a < s.heap.objs.size := by
  cases κ with
  | l => obtain ⟨its, r, p, _⟩ := I.list h; exact ⟨its, r, p.isList, p.lt⟩
  | t => obtain ⟨its, r, p, _⟩ := I.tuple h; exact ⟨its, r, p, by obtain ⟨o, e, _⟩ := id p; exact Heap.lt_size e⟩
theorem sqk_inj {κ : Kd} {pins : List (Addr × Obj)} {s : Shared} {a : Addr} {xs ys : List V} (I : Inv X pins σ H s) (h : SqK κ X.K H a xs) (h' : SqK κ X.K H a ys) : xs = ys := by
  cases κ with
  | l => exact I.list_inj h h'
  | t => exact I.tuple_inj h h'
def ItZ (κ1 κ2 : Kd) (K : PySem.W.Frag) (a b : Addr) : It :=
  ⟨fun i H => ∃ (xs ys : List V) (x y : V), SqK κ1 K H a xs ∧ SqK κ2 K H b ys ∧ xs[i]? = some x ∧ ys[i]? = some y,
   fun i H v H' => ∃ T x y, v = .ref T ∧ H T = none ∧ H' = upd H T (.tup [x, y]) ∧ (∀ xs, SqK κ1 K H a xs → xs[i]? = some x) ∧ ∀ ys, SqK κ2 K H b ys → ys[i]? = some y,
   fun i H => ∃ xs ys : List V, SqK κ1 K H a xs ∧ SqK κ2 K H b ys ∧ (xs.length ≤ i ∨ ys.length ≤ i)⟩
theorem turnZ {κ1 κ2 : Kd} {P : Program} {w : World} {K : PySem.W.Frag} {elts : List Expr} {kk : Nat} {tpos : Pos} {a b z TI TO i1 i2 : Addr} (D : ZipApart z TI TO i1 i2 a b) :
    Turn P w K (.Tuple elts kk tpos) (ItZ κ1 κ2 K a b) [z, TI, TO, i1, i2] z (fun i h => IsZip h z TI TO .none ∧ IsPair h TI (.ref i1) (.ref i2) ∧ (∃ x y, IsPair h TO x y) ∧ Wk κ1 h i1 a i ∧ Wk κ2 h i2 b i) where
  mem := by simp
  obj := fun i h st q hq => by
    obtain ⟨hz, hTI, ⟨x, y, hTO⟩, ⟨o1, e1, _, d1⟩, ⟨o2, e2, _, d2⟩⟩ := st
    have : q = z ∨ q = TI ∨ q = TO ∨ q = i1 ∨ q = i2 := by simpa using hq
    rcases this with rfl | rfl | rfl | rfl | rfl
    · exact ⟨_, hz, fun v q => nomatch q⟩
    · exact ⟨_, hTI, fun v q => nomatch q⟩
    · exact ⟨_, hTO, fun v q => nomatch q⟩
    · exact ⟨o1, e1, fun v q => by rw [d1] at q; cases q⟩
    · exact ⟨o2, e2, fun v q => by rw [d2] at q; cases q⟩
  keep := fun i h h' st k => by
    obtain ⟨hz, hTI, ⟨x, y, hTO⟩, h1, h2⟩ := st
    exact ⟨k z (by simp) _ hz, k TI (by simp) _ hTI, ⟨x, y, k TO (by simp) _ hTO⟩, h1.only fun o q => k i1 (by simp) o q, h2.only fun o q => k i2 (by simp) o q⟩
  item := by
    intro X hP hw hK hc i pins s σ H E I hf st hg
    subst hP hw hK
    obtain ⟨hz, hTI, ⟨x0, y0, hTO⟩, h1, h2⟩ := st
    obtain ⟨xs, ys, x, y, hqx, hqy, hx, hy⟩ := hg
    obtain ⟨its, rv, p, _⟩ := sqk_inv I hqx
    obtain ⟨its2, rv2, p2, _⟩ := sqk_inv I hqy
    obtain ⟨u, hu, ru⟩ := rv.get hx
    obtain ⟨u2, hu2, ru2⟩ := rv2.get hy
    have hzl : z < s.heap.objs.size := Heap.lt_size hz
    refine next_item D hz hTI hTO h1 h2 p p2 (x := u) (y := u2) (by simpa using hu) (by simpa using hu2) fun h' z' TO' h1' h2' hT hsz hk => ?_
    refine ⟨_, rfl, wpAny_letOwnedTupleGo_zip (s := { s with heap := h' }) z' fun h'' z'' sb => ?_⟩
    have hT2 : h''.get? s.heap.objs.size = some { cls := .type "tuple", data := .seq #[u, u2] } := (sb.2 _ (Nat.ne_of_gt hzl)).trans hT
    have new : ObjOk X.prog X.w (upd H s.heap.objs.size (.tup [x, y])) h'' s.heap.objs.size (.tup [x, y]) := ⟨by show 2 ≤ sizeLine; decide, [u, u2], .cons ru (.cons ru2 .nil), ⟨_, hT2, rfl, _, rfl⟩⟩
    have nin : ∀ q, q ∉ [z, TI, TO, i1, i2] → q ≠ z ∧ q ≠ TO ∧ q ≠ i1 ∧ q ≠ i2 := fun q hb => ⟨fun e => hb (by simp [e]), fun e => hb (by simp [e]), fun e => hb (by simp [e]), fun e => hb (by simp [e])⟩
    have I1 : Inv X pins σ (upd H s.heap.objs.size (.tup [x, y])) { s with heap := h'' } :=
      I.turnedNew (t' := s.toks) (ch := [z, TI, TO, i1, i2]) (fun q o hb e => by
        obtain ⟨n1, n2, n3, n4⟩ := nin q hb
        exact (sb.2 q n1).trans (hk q o n1 n2 n3 n4 e)) hf (Nat.le_refl _) new
    refine ⟨.ref s.heap.objs.size, _, I1, rfl, ⟨_, x, y, rfl, I.hok.fresh (Nat.le_refl _), rfl, fun l hl => by rw [sqk_inj I hl hqx]; exact hx, fun l hl => by rw [sqk_inj I hl hqy]; exact hy⟩, ⟨z'', ?_, ⟨u, u2, ?_⟩, ?_, ?_⟩, fun q hcm => ?_⟩
    · exact (sb.2 _ D.TIz).trans (hk _ _ D.TIz D.TITO D.TIi1 D.TIi2 hTI)
    · exact (sb.2 _ D.TOz).trans TO'
    · exact h1'.only fun o q => (sb.2 _ D.i1z).trans q
    · exact h2'.only fun o q => (sb.2 _ D.i2z).trans q
    · have hlt : q < s.heap.objs.size := by
        have : q = z ∨ q = TI ∨ q = TO ∨ q = i1 ∨ q = i2 := by simpa using hcm
        rcases this with e | e | e | e | e
        · rw [e]; exact hzl
        · rw [e]; exact Heap.lt_size hTI
        · rw [e]; exact Heap.lt_size hTO
        · rw [e]; obtain ⟨_, e1, _⟩ := h1; exact Heap.lt_size e1
        · rw [e]; obtain ⟨_, e2, _⟩ := h2; exact Heap.lt_size e2
      rw [upd_ne (Nat.ne_of_lt hlt)]
      exact (hf q hcm).1
  done := by
    intro X hP hw hK hc i pins s σ H E I hf st hg
    subst hP hw hK
    obtain ⟨hz, hTI, ⟨x0, y0, hTO⟩, h1, h2⟩ := st
    obtain ⟨xs, ys, hqx, hqy, hend⟩ := hg
    obtain ⟨its, rv, p, _⟩ := sqk_inv I hqx
    obtain ⟨its2, rv2, p2, _⟩ := sqk_inv I hqy
    have l1 := rv.length
    have l2 := rv2.length
    have he : its.toArray[i]? = none ∨ its2.toArray[i]? = none := hend.imp (fun q => by simp; omega) fun q => by simp; omega
    exact next_end (I.ok.hd hc) D hz hTI hTO h1 h2 p p2 he fun h' hk => ⟨rfl, I.turnedL (t' := s.toks) (ch := [z, TI, TO, i1, i2]) (fun q o hb e =>
      hk q o (fun e => hb (by simp [e])) (fun e => hb (by simp [e])) (fun e => hb (by simp [e])) (fun e => hb (by simp [e])) e) hf⟩
  self := fun A i s Q E st h => wpAny_pyIter_zip st.1 h
def iZ (κ1 κ2 : Kd) (K : PySem.W.Frag) (ta : TA) : TI := fun σ H R => ta σ H fun vs H1 => ∃ a b xs ys, vs = [.ref a, .ref b] ∧ SqK κ1 K H1 a xs ∧ SqK κ2 K H1 b ys ∧ R (ItZ κ1 κ2 K a b) H1
theorem pi_z {κ1 κ2 : Kd} {ta : TA} {p pos tpos : Pos} {elts : List Expr} {kk : Nat} (hg : Gl X "zip") (hm : X.mg "zip" = none) (ha : PA X [e, e2] ta)
    (hs : starEach [e, e2] X.env = (false, eval e X.env) :: starEach [e2] X.env := by rfl) (hpl : (backTo pos (starEach [e2] X.env)).any (·.1) = false := by rfl) :
    PI X (.Tuple elts kk tpos) (.Call (.Name "zip" p) [e, e2] [] pos) (iZ κ1 κ2 X.K ta) := by
  refine ⟨fun pins s σ H R I h => ?_⟩
  refine Call_ (ld_blt I hg hm PyProof.Rows.boot_zip (PyProof.Rows.callWith_type1 (thn (ha.run pos pins s σ H _ I h) fun us s1 ⟨vs, H1, I1, r1, q1⟩ => ?_) hs hpl))
  obtain ⟨a, b, xs, ys, ex, hqx, hqy, q⟩ := q1
  subst ex
  cases r1 with
  | cons r rr =>
    cases rr with
    | cons r' rr =>
      cases rr; cases r; cases r'
      have fresh : ∀ q, q ∈ [s1.heap.objs.size + 4, s1.heap.objs.size + 2, s1.heap.objs.size + 3, s1.heap.objs.size, s1.heap.objs.size + 1] → FpOk X pins H1 q := fun q hq => by
        have hle : s1.heap.objs.size ≤ q := by
          have : q = s1.heap.objs.size + 4 ∨ q = s1.heap.objs.size + 2 ∨ q = s1.heap.objs.size + 3 ∨ q = s1.heap.objs.size ∨ q = s1.heap.objs.size + 1 := by simpa using hq
          rcases this with z | z | z | z | z
          · rw [z]; exact Nat.le_add_right _ _
          · rw [z]; exact Nat.le_add_right _ _
          · rw [z]; exact Nat.le_add_right _ _
          · rw [z]; exact Nat.le_refl _
          · rw [z]; exact Nat.le_add_right _ _
        exact I1.fpOk hle (I1.hok.fresh hle)
      obtain ⟨its, rv, p1, l1⟩ := sqk_inv I1 hqx
      obtain ⟨its2, rv2, p2, l2⟩ := sqk_inv I1 hqy
      refine Zk.call_zip p1 p2 fun h' hz hTI hTO h1 h2 hk => wpAny_pyIter_zip hz ?_
      have I2 : Inv X pins σ H1 { s1 with heap := h' } := I1.kept (t' := s1.toks) hk
      exact ⟨s1.heap.objs.size + 4, [s1.heap.objs.size + 4, s1.heap.objs.size + 2, s1.heap.objs.size + 3, s1.heap.objs.size, s1.heap.objs.size + 1], _, _, H1, rfl, I2, turnZ (PySem.W.ktu_apart s1.heap.objs.size a b l1 l2), ⟨hz, hTI, ⟨_, _, hTO⟩, h1, h2⟩, fresh, q⟩
/-- the data of a list or a tuple -/
inductive SqD : Kd → Dt → List Dt → Prop where
  | l {ws : List Dt} : SqD .l (.lst ws) ws
  | r {ws : List Dt} : SqD .l (.ro ws) ws
  | t {ws : List Dt} : SqD .t (.tup ws) ws
theorem SqD.at {κ : Kd} (h : SqD κ d ds) (r : Rep c.K c.T G d v) : ∃ a vs, v = .ref a ∧ SqK κ c.K G a vs ∧ Reps c.K c.T G ds vs := by
  cases h with
  | l => obtain ⟨a, vs, e, h, r⟩ := r.lst_inv; exact ⟨a, vs, e, .inl (.inl h), r⟩
  | r => obtain ⟨a, vs, e, h, r⟩ := r.ro_inv; exact ⟨a, vs, e, h, r⟩
  | t => obtain ⟨a, vs, e, h, r⟩ := r.tup_inv; exact ⟨a, vs, e, h, r⟩
theorem SqK.ex {κ : Kd} {K : PySem.W.Frag} {a : Addr} {vs : List V} (e : Ex G H) (h : SqK κ K G a vs) : SqK κ K H a vs := by
  cases κ with
  | l => exact e.sl h
  | t => exact e.st h
theorem zipWith_get {α β γ : Type} {f : α → β → γ} {xs : List α} {ys : List β} {i : Nat} {x : α} {y : β} (h1 : xs[i]? = some x) (h2 : ys[i]? = some y) : (List.zipWith f xs ys)[i]? = some (f x y) := by
  rw [List.getElem?_zipWith, h1, h2]
theorem xi_zip {κ1 κ2 : Kd} {p pos tpos : Pos} {elts : List Expr} {kk : Nat} (ha : XA c X [e, e2] st [d1, d2] st1) (h1 : SqD κ1 d1 xs) (h2 : SqD κ2 d2 ys) (hK : X.K = c.K) (hm : X.mg "zip" = none) (hg : Gl X "zip" := by rfl)
    (hs : starEach [e, e2] X.env = (false, eval e X.env) :: starEach [e2] X.env := by rfl) (hpl : (backTo pos (starEach [e2] X.env)).any (·.1) = false := by rfl) :
    XI c X (.Tuple elts kk tpos) (.Call (.Name "zip" p) [e, e2] [] pos) st (List.zipWith (fun x y => .tup [x, y]) xs ys) st1 :=
  ⟨pi_weak (pi_z (κ1 := κ1) (κ2 := κ2) hg hm ha.pa hs hpl) fun σ H R ⟨G, E, k⟩ => ⟨G, E, fun vs G1 H1 g1 E1 r1 => by
    cases r1 with
    | cons r r1 =>
      cases r1 with
      | cons r' r1 =>
        cases r1
        obtain ⟨a, us, rfl, q1, r1⟩ := h1.at r
        obtain ⟨b, ws, rfl, q2, r2⟩ := h2.at r'
        rw [← hK] at q1 q2
        refine ⟨a, b, us, ws, rfl, q1.ex E1.ex, q2.ex E1.ex, k _ G1 H1 g1 E1 ⟨fun i G H e1 e2 hi => ?_, fun i G H e1 e2 hi => ?_, fun i G H x H' e1 e2 hi y => ?_⟩⟩
        · have hi' : i < us.length ∧ i < ws.length := by
            have hi0 : i < min xs.length ys.length := by simpa using hi
            rw [← r1.length, ← r2.length]; omega
          exact ⟨us, ws, us[i]'hi'.1, ws[i]'hi'.2, q1.ex (e1.trans e2), q2.ex (e1.trans e2), List.getElem?_eq_getElem _, List.getElem?_eq_getElem _⟩
        · refine ⟨us, ws, q1.ex (e1.trans e2), q2.ex (e1.trans e2), ?_⟩
          rw [← r1.length, ← r2.length]
          have : min xs.length ys.length ≤ i := by simpa using hi
          omega
        · obtain ⟨T, u, w, rfl, hn, rfl, y1, y2⟩ := y
          obtain ⟨d, z1, z2⟩ := r1.getV (y1 us (q1.ex (e1.trans e2)))
          obtain ⟨d', z3, z4⟩ := r2.getV (y2 ws (q2.ex (e1.trans e2)))
          exact ⟨_, _, Gw.new e2 hn, zipWith_get z1 z3, .tup (SqT.of upd_same) (.cons ((z2.ex e1).ex (Ex.new (e2.none hn))) (.cons ((z4.ex e1).ex (Ex.new (e2.none hn))) .nil))⟩⟩⟩
theorem xi_rev {p : Pos} (h : XA c X [e] st [.lst ds] st1) (hK : X.K = c.K) (hm : X.mg "reversed" = none) (hg : Gl X "reversed" := by rfl) (hs : starEach [e] X.env = [(false, eval e X.env)] := by rfl) : XI c X tg (.Call (.Name "reversed" p) [e] [] pos) st ds.reverse st1 :=
  ⟨pi_weak (pi_reversed hg hm h.pa hs) fun σ H R ⟨G, E, k⟩ => ⟨G, E, fun vs G1 H1 g1 E1 r1 => by
    cases r1 with
    | cons r r1 =>
      cases r1
      obtain ⟨a, us, rfl, q1, r1⟩ := r.lst_inv
      have q : SqL X.K H1 a us := .inl (.inl (E1.ex _ _ q1))
      refine ⟨a, us, rfl, q, k _ G1 H1 g1 E1 ⟨fun i G H e1 e2 hi => ?_, fun i G H e1 e2 hi => ?_, fun i G H x H' e1 e2 hi y => ?_⟩⟩
      · have hi' : i < us.length := by rw [← r1.length]; simpa using hi
        exact ⟨hi', us, us[us.length - 1 - i]'(by omega), .inl (.inl (e2 _ _ (e1 _ _ q1))), List.getElem?_eq_getElem _⟩
      · show us.length ≤ i
        rw [← r1.length]; simpa using hi
      · obtain ⟨rfl, y⟩ := y
        have hi' : i < ds.length := by simpa using hi
        obtain ⟨d, z1, z2⟩ := r1.getV (y us (.inl (.inl (e2 _ _ (e1 _ _ q1)))))
        refine ⟨G, d, Gw.refl e2, ?_, z2.ex e1⟩
        rw [List.getElem?_reverse hi', r1.length]
        exact z1⟩⟩
end Dv
set_option autoImplicit true
set_option maxRecDepth 100000
namespace Dv
open PySem PySem.Spec PyProof.Rows L2

variable {c : Ctx} {X : Cx} {st st1 st2 st3 st' : Store} {a b e e2 tg iter : Expr} {es : List Expr} {d d1 d2 d' : Dt} {ds xs ys zs fs gs : List Dt} {pos : Pos} {G G' H H' : Hp} {σ σ' : L2.St} {v : V} {n : Nat} {body : List Stmt} {o : Out} {i j : Int} {t : Bool}

/-! ### whole numbers -/
theorem xd_add (ha : XD c X a st (.int i) st1) (hb : XD c X b st1 (.int j) st2) : XD c X (.BinOp a .Add b pos) st (.int (i + j)) st2 := xd_bin ha hb op_add (o_I0 (g := fun i j => i + j))
theorem xd_sub (ha : XD c X a st (.int i) st1) (hb : XD c X b st1 (.int j) st2) : XD c X (.BinOp a .Sub b pos) st (.int (i - j)) st2 := xd_bin ha hb op_sub (o_I0 (g := fun i j => i - j))
theorem op_mulB : OpR X (binaryOp .Mult) (rI IntMulOk fun i j => .int (i * j)) := opI fun _ _ _ _ _ _ _ hc q => mul_int q hc
theorem xd_mul (ha : XD c X a st (.int i) st1) (hb : XD c X b st1 (.int j) st2) (h : IntMulOk i j) : XD c X (.BinOp a .Mult b pos) st (.int (i * j)) st2 := xd_bin ha hb op_mulB (o_I (g := fun i j => i * j) h)
theorem xd_mod (ha : XD c X a st (.int i) st1) (hb : XD c X b st1 (.int j) st2) (h : 0 < j) : XD c X (.BinOp a .Mod b pos) st (.int (i % j)) st2 := xd_bin ha hb op_mod (o_I (g := fun i j => i % j) h)
def CDv (_ j : Int) : Prop := j ≠ 0 ∧ j.natAbs.log2 < 9000
theorem op_fdivV : OpR X (binaryOp .FloorDiv) (rI CDv fun i j => .int (i.fdiv j)) := opI fun _ _ _ _ _ _ _ hc q => floordiv_int hc.1 q (.inl (PyProof.noPylong_of_log2 hc.2))
theorem xd_fdiv (ha : XD c X a st (.int i) st1) (hb : XD c X b st1 (.int j) st2) (h : j ≠ 0) (hs : j.natAbs.log2 < 9000) : XD c X (.BinOp a .FloorDiv b pos) st (.int (i.fdiv j)) st2 := xd_bin ha hb op_fdivV (o_I (g := fun i j => i.fdiv j) ⟨h, hs⟩)
theorem xd_neg (ha : XD c X a st (.int i) st1) : XD c X (.UnaryOp .USub a pos) st (.int (-i)) st1 := xd_un ha un_neg o_neg
theorem xt_lt (ha : XD c X a st (.int i) st1) (hb : XD c X b st1 (.int j) st2) (ht : decide (i < j) = t) : XT c X (.Compare a [.Lt] [b] pos) st t st2 := xt_cmp ha hb op_lt (by rw [← ht]; exact o_B0 (g := fun i j => decide (i < j))) (nomark _)
theorem xt_le (ha : XD c X a st (.int i) st1) (hb : XD c X b st1 (.int j) st2) (ht : decide (i ≤ j) = t) : XT c X (.Compare a [.LtE] [b] pos) st t st2 := xt_cmp ha hb op_le (by rw [← ht]; exact o_B0 (g := fun i j => decide (i ≤ j))) (nomark _)
theorem xt_gt (ha : XD c X a st (.int i) st1) (hb : XD c X b st1 (.int j) st2) (ht : decide (j < i) = t) : XT c X (.Compare a [.Gt] [b] pos) st t st2 := xt_cmp ha hb op_gt (by rw [← ht]; exact o_B0 (g := fun i j => decide (j < i))) (nomark _)
theorem xt_ge (ha : XD c X a st (.int i) st1) (hb : XD c X b st1 (.int j) st2) (ht : decide (j ≤ i) = t) : XT c X (.Compare a [.GtE] [b] pos) st t st2 := xt_cmp ha hb op_ge (by rw [← ht]; exact o_B0 (g := fun i j => decide (j ≤ i))) (nomark _)
theorem xd_lt (ha : XD c X a st (.int i) st1) (hb : XD c X b st1 (.int j) st2) : XD c X (.Compare a [.Lt] [b] pos) st (.bl (decide (i < j))) st2 := xd_cmp ha hb op_lt (o_B0 (g := fun i j => decide (i < j))) (nomark _)
theorem xd_gt (ha : XD c X a st (.int i) st1) (hb : XD c X b st1 (.int j) st2) : XD c X (.Compare a [.Gt] [b] pos) st (.bl (decide (j < i))) st2 := xd_cmp ha hb op_gt (o_B0 (g := fun i j => decide (j < i))) (nomark _)

/-! ### == and != of scalars -/
/-- the scalar as a value -/
def Dt.v? : Dt → Option V
  | .non => some .non
  | .bl b => some (.bl b)
  | .int i => some (.int i)
  | .str x => some (.str x)
  | _ => none
theorem Rep.v? {K : PySem.W.Frag} {T : Ct} {u : V} (h : d.v? = some u) (r : Rep K T G d v) : v = u := by
  cases r <;> first | (cases h; rfl) | cases h
theorem o_eqS {u w : V} (h1 : d1.v? = some u) (h2 : d2.v? = some w) (hs : L2.scal u w = true) (ht : decide (u = w) = t) : Op2 c d1 d2 (.bl t) rEq := fun G H x y Q e r1 r2 k => by
  rw [r1.v? h1, r2.v? h2]; exact ⟨hs, by rw [ht]; exact kv_same k e .bl⟩
theorem o_neS {u w : V} (h1 : d1.v? = some u) (h2 : d2.v? = some w) (hs : L2.scal u w = true) (ht : (!decide (u = w)) = t) : Op2 c d1 d2 (.bl t) rNe := fun G H x y Q e r1 r2 k => by
  rw [r1.v? h1, r2.v? h2]; exact ⟨hs, by rw [ht]; exact kv_same k e .bl⟩
theorem xt_eqS {u w : V} (ha : XD c X a st d1 st1) (hb : XD c X b st1 d2 st2) (h1 : d1.v? = some u) (h2 : d2.v? = some w) (hs : L2.scal u w = true) (ht : decide (u = w) = t) : XT c X (.Compare a [.Eq] [b] pos) st t st2 := xt_cmp ha hb op_eq (o_eqS h1 h2 hs ht) (nomark _)
theorem xt_neS {u w : V} (ha : XD c X a st d1 st1) (hb : XD c X b st1 d2 st2) (h1 : d1.v? = some u) (h2 : d2.v? = some w) (hs : L2.scal u w = true) (ht : (!decide (u = w)) = t) : XT c X (.Compare a [.NotEq] [b] pos) st t st2 := xt_cmp ha hb op_ne (o_neS h1 h2 hs ht) (nomark _)
theorem xd_eqS {u w : V} (ha : XD c X a st d1 st1) (hb : XD c X b st1 d2 st2) (h1 : d1.v? = some u) (h2 : d2.v? = some w) (hs : L2.scal u w = true) (ht : decide (u = w) = t) : XD c X (.Compare a [.Eq] [b] pos) st (.bl t) st2 := xd_cmp ha hb op_eq (o_eqS h1 h2 hs ht) (nomark _)
theorem xd_neS {u w : V} (ha : XD c X a st d1 st1) (hb : XD c X b st1 d2 st2) (h1 : d1.v? = some u) (h2 : d2.v? = some w) (hs : L2.scal u w = true) (ht : (!decide (u = w)) = t) : XD c X (.Compare a [.NotEq] [b] pos) st (.bl t) st2 := xd_cmp ha hb op_ne (o_neS h1 h2 hs ht) (nomark _)
theorem dec_I {i j : Int} : decide (V.int i = V.int j) = decide (i = j) := by
  by_cases h : i = j
  · subst h; simp
  · have : ¬ V.int i = V.int j := fun z => h (by injection z)
    rw [decide_eq_false h, decide_eq_false this]
theorem xt_eqI (ha : XD c X a st (.int i) st1) (hb : XD c X b st1 (.int j) st2) (ht : decide (i = j) = t) : XT c X (.Compare a [.Eq] [b] pos) st t st2 := xt_eqS ha hb rfl rfl rfl (dec_I.trans ht)
theorem xt_neI (ha : XD c X a st (.int i) st1) (hb : XD c X b st1 (.int j) st2) (ht : (!decide (i = j)) = t) : XT c X (.Compare a [.NotEq] [b] pos) st t st2 := xt_neS ha hb rfl rfl rfl ((congrArg not dec_I).trans ht)
theorem xd_eqI (ha : XD c X a st (.int i) st1) (hb : XD c X b st1 (.int j) st2) : XD c X (.Compare a [.Eq] [b] pos) st (.bl (decide (i = j))) st2 := xd_eqS ha hb rfl rfl rfl dec_I

/-! ### built-ins by their names -/
theorem xd_len {p : Pos} (h : XD c X e st d st1) (hd : d = .lst ds ∨ d = .ro ds ∨ d = .tup ds) (hK : X.K = c.K) (hm : X.mg "len" = none) (hg : Gl X "len" := by rfl) (he : starEach (e :: []) X.env = (false, eval e X.env) :: starEach [] X.env := by rfl) (hpl : (backTo pos (starEach [] X.env)).any (·.1) = false := by rfl) :
    XD c X (.Call (.Name "len" p) [e] [] pos) st (.int (ds.length : Int)) st1 := by
  have q := o_len (c := c) hd
  rw [← hK] at q
  exact xd_callB (xa_cons h xa_nil he) call_len_seq q hm PySem.boot_len hg (by decide) (by decide) he hpl
theorem xd_lenS {x : Str} {p : Pos} (h : XD c X e st (.str x) st1) (hz : x.length ≤ 100000) (hm : X.mg "len" = none) (hg : Gl X "len" := by rfl) (he : starEach (e :: []) X.env = (false, eval e X.env) :: starEach [] X.env := by rfl) (hpl : (backTo pos (starEach [] X.env)).any (·.1) = false := by rfl) :
    XD c X (.Call (.Name "len" p) [e] [] pos) st (.int (x.length : Int)) st1 := xd_callB (xa_cons h xa_nil he) call_len_str (o_lenS hz) hm PySem.boot_len hg (by decide) (by decide) he hpl
theorem xd_intI {p : Pos} (h : XD c X e st (.int i) st1) (hm : X.mg "int" = none) (hg : Gl X "int" := by rfl) (he : starEach (e :: []) X.env = (false, eval e X.env) :: starEach [] X.env := by rfl) (hpl : (backTo pos (starEach [] X.env)).any (·.1) = false := by rfl) :
    XD c X (.Call (.Name "int" p) [e] [] pos) st (.int i) st1 := xd_callTy (xa_cons h xa_nil he) call_int1 o_int1 hm (by decide +kernel) hg (by decide) (by decide) he hpl
theorem xd_intB {p : Pos} (h : XD c X e st (.bl t) st1) (hm : X.mg "int" = none) (hg : Gl X "int" := by rfl) (he : starEach (e :: []) X.env = (false, eval e X.env) :: starEach [] X.env := by rfl) (hpl : (backTo pos (starEach [] X.env)).any (·.1) = false := by rfl) :
    XD c X (.Call (.Name "int" p) [e] [] pos) st (.int (if t then 1 else 0)) st1 := xd_callTy (xa_cons h xa_nil he) call_int1 o_intB hm (by decide +kernel) hg (by decide) (by decide) he hpl
theorem xd_abs {p : Pos} (h : XD c X e st (.int i) st1) (hm : X.mg "abs" = none) (hg : Gl X "abs" := by rfl) (he : starEach (e :: []) X.env = (false, eval e X.env) :: starEach [] X.env := by rfl) (hpl : (backTo pos (starEach [] X.env)).any (·.1) = false := by rfl) :
    XD c X (.Call (.Name "abs" p) [e] [] pos) st (.int (i.natAbs : Int)) st1 := by
  have q := xd_callB (pos := pos) (p := p) (x := "abs") (xa_cons h xa_nil he) call_abs o_abs hm (by decide +kernel) hg (by decide) (by decide) he hpl
  have e1 : (if i < 0 then -i else i) = (i.natAbs : Int) := by split <;> omega
  rw [e1] at q
  exact q
theorem xd_tuple {p : Pos} (h : XD c X e st d st1) (hd : d = .lst ds ∨ d = .tup ds) (hK : X.K = c.K) (hm : X.mg "tuple" = none) (hg : Gl X "tuple" := by rfl) (he : starEach (e :: []) X.env = (false, eval e X.env) :: starEach [] X.env := by rfl) (hpl : (backTo pos (starEach [] X.env)).any (·.1) = false := by rfl) :
    XD c X (.Call (.Name "tuple" p) [e] [] pos) st (.tup ds) st1 := by
  have q := o_tuple (c := c) hd
  rw [← hK] at q
  exact xd_callTy (xa_cons h xa_nil he) call_tuple_of q hm (by decide +kernel) hg (by decide) (by decide) he hpl
theorem xd_list {p : Pos} (h : XD c X e st d st1) (hd : d = .lst ds ∨ d = .ro ds ∨ d = .tup ds) (hK : X.K = c.K) (hm : X.mg "list" = none) (hg : Gl X "list" := by rfl) (he : starEach (e :: []) X.env = (false, eval e X.env) :: starEach [] X.env := by rfl) (hpl : (backTo pos (starEach [] X.env)).any (·.1) = false := by rfl) :
    XD c X (.Call (.Name "list" p) [e] [] pos) st (.lst ds) st1 := by
  have q := o_list (c := c) hd
  rw [← hK] at q
  exact xd_callTy (xa_cons h xa_nil he) call_list_of q hm (by decide +kernel) hg (by decide) (by decide) he hpl
/-- items -/
theorem xd_ixT {m : Nat} (ha : XD c X a st (.tup ds) st1) (hb : XD c X b st1 (.int i) st2) (hn : i = m) (hd : ds[m]? = some d) (hK : X.K = c.K) (hs : PlainIx b := by exact fun _ _ => rfl) : XD c X (.Subscript a b pos) st d st2 := by
  have q := o_ixT (c := c) hn hd
  rw [← hK] at q
  exact xd_ix ha hb ix_tup q hs
theorem xd_ixL {m : Nat} (ha : XD c X a st (.lst ds) st1) (hb : XD c X b st1 (.int i) st2) (hn : i = m) (hd : ds[m]? = some d) (hK : X.K = c.K) (hs : PlainIx b := by exact fun _ _ => rfl) : XD c X (.Subscript a b pos) st d st2 := by
  have q := o_ixL (c := c) hn hd
  rw [← hK] at q
  exact xd_ix ha hb ix_list q hs
theorem xd_ixR {m : Nat} (ha : XD c X a st (.ro ds) st1) (hb : XD c X b st1 (.int i) st2) (hn : i = m) (hd : ds[m]? = some d) (hK : X.K = c.K) (hs : PlainIx b := by exact fun _ _ => rfl) : XD c X (.Subscript a b pos) st d st2 := by
  have q := o_ixR (c := c) hn hd
  rw [← hK] at q
  exact xd_ix ha hb ix_list q hs
theorem xd_ixS {x : Str} {m q : Nat} (ha : XD c X a st (.str x) st1) (hb : XD c X b st1 (.int i) st2) (hl : x.length ≤ 100000) (hn : i = m) (hd : x.cps.toList[m]? = some q) (hs : PlainIx b := by exact fun _ _ => rfl) : XD c X (.Subscript a b pos) st (.str ⟨#[q]⟩) st2 := xd_ix ha hb ix_str (o_ixS hl hn hd) hs

/-! ### one's own list, by its name -/
/-- x[e], an item -/
theorem xd_ixO (k : Nat) {s : Sv} {x : Str} {p1 : Pos} {m : Nat} (hb : XD c X b st (.int i) st1) (hk : st[k]? = some (some s)) (hk1 : st1[k]? = some (some s)) (hs : s.Has xs) (hn : i = m) (hd : xs[m]? = some d) (hN : X.N[k]? = some x := by rfl)
    (hv : Vis X.env.scope x := by first | exact Or.inl rfl | exact Or.inr (Or.inl rfl) | exact Or.inr (Or.inr rfl)) (hdb : (x == ("__debug__" : Str)) = false := by decide) (hcd : (x == ("__classdict__" : Str)) = false := by decide) (hp : PlainIx b := by exact fun _ _ => rfl) :
    XD c X (.Subscript (.Name x p1) b pos) st d st1 :=
  ⟨pe_weak (pe_ix ix_list (pe_var hN hv hdb hcd) hb.pe hp) fun σ H Q ⟨G, E, kk⟩ => by
    obtain ⟨a, ws0, z1, _⟩ := E.at hk hs
    refine ⟨_, z1, G, E, fun w G1 H1 g1 E1 r1 => ?_⟩
    obtain ⟨a', ws, y1, y2, y3, y4, _⟩ := E1.at hk1 hs
    rw [z1] at y1
    cases y1
    cases r1
    obtain ⟨u, q1, q2⟩ := y4.get hd
    exact ⟨a, ws, i, u, rfl, rfl, .inl (.inl y3), by rw [hn]; exact atI_nat q1, kk u G1 H1 g1 E1 q2⟩⟩
/-- tuple(x) -/
theorem xd_tupleO (k : Nat) {s : Sv} {x : Str} {p p1 : Pos} (hk : st[k]? = some (some s)) (hs : s.Has xs) (hm : X.mg "tuple" = none) (hg : Gl X "tuple" := by rfl) (hN : X.N[k]? = some x := by rfl)
    (hv : Vis X.env.scope x := by first | exact Or.inl rfl | exact Or.inr (Or.inl rfl) | exact Or.inr (Or.inr rfl)) (hdb : (x == ("__debug__" : Str)) = false := by decide) (hcd : (x == ("__classdict__" : Str)) = false := by decide)
    (he : starEach (.Name x p1 :: []) X.env = (false, eval (.Name x p1) X.env) :: starEach [] X.env := by rfl) (hpl : (backTo pos (starEach [] X.env)).any (·.1) = false := by rfl) :
    XD c X (.Call (.Name "tuple" p) [.Name x p1] [] pos) st (.tup xs) st :=
  ⟨pe_weak (pe_callTy call_tuple_of hg hm (by decide +kernel) (pa_cons (pe_var hN hv hdb hcd) pa_nil he) (by decide) (by decide) he hpl) fun σ H Q ⟨G, E, kk⟩ => by
    obtain ⟨a, ws, z1, z2, z3, z4, _⟩ := E.at hk hs
    exact ⟨_, z1, a, ws, rfl, .inl ⟨.inl (.inl z3), fun p hp => kk _ _ _ (Gw.new E.ex hp).gr (E.g1 (Gw.new E.ex hp)) (.tup (SqT.of upd_same) (z4.ex (Ex.new (E.ex.none hp))))⟩⟩⟩
/-- x[e1] = e2 -/
theorem xp_setI (k : Nat) {s : Sv} {x : Str} {p1 p2 ppos : Pos} {m : Nat} (he : XD c X e st d st1) (hb : XD c X b st1 (.int i) st2) (hk1 : st1[k]? = some (some s)) (hk2 : st2[k]? = some (some s)) (hs : s.Has xs) (hn : i = m) (hm : m < xs.length) (hN : X.N[k]? = some x := by rfl)
    (hv : Vis X.env.scope x := by first | exact Or.inl rfl | exact Or.inr (Or.inl rfl) | exact Or.inr (Or.inr rfl)) (hdb : (x == ("__debug__" : Str)) = false := by decide) (hcd : (x == ("__classdict__" : Str)) = false := by decide)
    (ha : ∀ v, assign (.Subscript (.Name x p1) b p2) X.env v = (do
      let ov ← holding [v] (eval (.Name x p1) X.env)
      let iv ← holding [v, ov] (eval b X.env)
      standAt p2
      holding [v, ov, iv] (setItem ov iv v)
      release [v, ov, iv] []) := by intro _; rfl)
    (hs1 : swapsWithSole [.Subscript (.Name x p1) b p2] e ppos.line X.env = pure false := by rfl) (hw : swappedStores [.Subscript (.Name x p1) b p2] e X.env = pure none := by rfl)
    (h1 : (assignEach [.Subscript (.Name x p1) b p2] X.env).map (·.2) = [assign (.Subscript (.Name x p1) b p2) X.env] := by rfl) : XP c X (.Assign [.Subscript (.Name x p1) b p2] e ppos) st (.nx (st2.set k (some (s.with (xs.set m d))))) :=
  ⟨ps_weak (ps_asg he.pe (pg_sub (pe_var hN hv hdb hcd) hb.pe set_list ha) hs1 hw h1) fun D σ H ⟨G, E, kk⟩ => ⟨G, E, fun w G1 H1 g1 E1 r1 => by
    obtain ⟨a, ws0, z1, _⟩ := E1.at hk1 hs
    refine ⟨_, z1, G1, E1, fun u G2 H2 g2 E2 r2 => ?_⟩
    obtain ⟨a', ws, y1, y2, y3, y4, _⟩ := E2.at hk2 hs
    rw [z1] at y1
    cases y1
    cases r2
    refine ⟨a, ws, i, m, rfl, rfl, y3, ?_, ?_⟩
    · have : m < ws.length := by rw [← y4.length]; exact hm
      unfold ixN
      rw [hn, if_pos (by omega), if_pos (by omega)]; simp
    · obtain ⟨g3, e3⟩ := gr_upd (a := a) (o := .lst (ws.set m w)) E2.ex y2 (by rw [y3]; simp)
      obtain ⟨E4, g4⟩ := E2.mut hk2 hs z1 g3 e3 y2 upd_same (Reps.set (r1.ex g2.ex) m y4)
      exact kk _ _ _ ((g1.trans g2).trans g4) E4⟩⟩
end Dv
set_option autoImplicit true
set_option maxRecDepth 100000
namespace Dv
open PySem PySem.Spec PyProof.Rows L2

variable {c : Ctx} {X : Cx} {st st1 st2 st3 st' : Store} {a b e e2 e3 tg iter : Expr} {es : List Expr} {d d1 d2 d3 d' : Dt} {ds xs ys zs fs gs : List Dt} {pos : Pos} {G G' H H' : Hp} {σ σ' : L2.St} {v : V} {n : Nat} {body : List Stmt} {o : Out} {i j : Int} {t : Bool}

/-- a power of two plain numbers -/
theorem xd_pow (ha : XD c X a st (.int i) st1) (hb : XD c X b st1 (.int j) st2) (h : 0 ≤ j) (h1 : j ≤ 1000000) (h2 : i.natAbs < 2 ^ 64) : XD c X (.BinOp a .Pow b pos) st (.int (i ^ j.toNat)) st2 := xd_bin ha hb op_pow (o_I (g := fun i j => i ^ j.toNat) ⟨h, h1, h2⟩)
/-- a, b, c = x, y, z -/
theorem xp_par3 (i j l : Nat) {x y z : Str} {ea eb ec : Expr} {px py pz pt : Pos} {kt k2 pt2} (hN : X.N.Nodup) (hc : X.calm = true) (ha : XA c X [ea, eb, ec] st [d1, d2, d3] st1) (hij : i ≠ j) (hil : i ≠ l) (hjl : j ≠ l) (hi : X.N[i]? = some x := by rfl) (hj : X.N[j]? = some y := by rfl) (hl : X.N[l]? = some z := by rfl)
    (hx : X.env.scope.names.lookup x = some .local := by rfl) (hy : X.env.scope.names.lookup y = some .local := by rfl) (hz : X.env.scope.names.lookup z = some .local := by rfl)
    (hw : swappedStores [.Tuple [.Name x px, .Name y py, .Name z pz] kt pt] (.Tuple [ea, eb, ec] k2 pt2) X.env = pure (some [x, y, z]) := by rfl)
    (hs : swapsWithSole [.Tuple [.Name x px, .Name y py, .Name z pz] kt pt] (.Tuple [ea, eb, ec] k2 pt2) pos.line X.env = pure false := by rfl) :
    XP c X (.Assign [.Tuple [.Name x px, .Name y py, .Name z pz] kt pt] (.Tuple [ea, eb, ec] k2 pt2) pos) st (.nx (((st1.set i (some (.fr d1))).set j (some (.fr d2))).set l (some (.fr d3)))) :=
  ⟨ps_weak (ps_par3 hc hN hi hj hl hij hil hjl hx hy hz ha.pa hw hs) fun D σ H ⟨G, E, k⟩ => ⟨G, E, fun vs G1 H1 g1 E1 r1 => by
    cases r1 with
    | cons r r1 =>
      cases r1 with
      | cons r' r1 =>
        cases r1 with
        | cons r'' r1 =>
          cases r1
          exact ⟨_, _, _, rfl, k _ G1 H1 (g1.weakO fun p h => own_setFr (own_setFr (own_setFr h))) (((E1.setFr r i).setFr r' j).setFr r'' l)⟩⟩⟩

/-! ### len of an own class -/
section
variable {CX : CXT} {k : Nat} {f C : Addr} {fd : FuncData} {ps : List Str} {E : XK} {R : List Dt → Dt → Prop} {ns : List Str}
theorem call_len_own {sp : Sp} (F : FnOk X.prog X.w X.K X.mg X.base CX k f fd ps sp) (hr : Room (k + 1) X.A) (M : OwnOp X.K C "__len__" f) (hb : Binds X.K fd ps []) (hx : Passes CX X E) :
    CallR X (.builtin "len") (fun xs H Q => ∃ p dx gs, xs = [.ref p] ∧ H p = some (.ins C dx gs) ∧ sp xs H (fun v H' => ∃ n : Int, v = .int n ∧ 0 ≤ n ∧ n < 2 ^ 63 ∧ Q (.int n) H') E) := by
  intro pins s σ H xs us Q I r h
  obtain ⟨p, dx, gs, rfl, hp, hsp⟩ := h
  obtain ⟨mA, J, _⟩ := ins_get I.hok hp
  obtain ⟨od, J, _⟩ := J.look
  obtain ⟨m, hF⟩ := I.fr
  cases r with
  | cons r0 r1 =>
    cases r1
    cases r0
    refine PySem.W.len_K hF I.ok.mod.kin J M.at_ M.fn (thn (run_in1 (vs := [.ref p]) (us := [.ref p]) F hr hb hx I (.cons rfl .nil) hsp) fun u s' z => ?_)
    obtain ⟨w, H1, I1, r, n, rfl, q1, q2, q3⟩ := z
    obtain ⟨t, rfl⟩ := r
    exact ⟨⟨q1, q2⟩, .int n, H1, I1.un Un.refl I1.hok, ⟨_, rfl⟩, q3⟩
theorem xd_lenO {p : Pos} {m : Int} (h : XD c X e st (.obj n fs) st1) (hT : c.T n = some (C, ns)) (F : FnOk X.prog X.w X.K X.mg X.base CX k f fd ps (spD c.K c.T R)) (hr : Room (k + 1) X.A) (M : OwnOp X.K C "__len__" f) (hb : Binds X.K fd ps []) (hx : Passes CX X E)
    (hR : R [.obj n fs] (.int m)) (h0 : 0 ≤ m) (h1 : m < 2 ^ 63) (hm : X.mg "len" = none) (hg : Gl X "len" := by rfl) (he : starEach (e :: []) X.env = (false, eval e X.env) :: starEach [] X.env := by rfl) (hpl : (backTo pos (starEach [] X.env)).any (·.1) = false := by rfl) :
    XD c X (.Call (.Name "len" p) [e] [] pos) st (.int m) st1 := by
  refine xd_callB (xa_cons h xa_nil he) (call_len_own (E := E) F hr M hb hx) (fun G H vs Q ex r kk => ?_) hm PySem.boot_len hg (by decide) (by decide) he hpl
  cases r with
  | cons r0 r1 =>
    cases r1
    obtain ⟨C1, ns1, q, dx, ws, rfl, q1, q2, q3, q4⟩ := id r0.obj_inv
    rw [hT] at q1
    cases q1
    refine ⟨q, dx, _, rfl, ex _ _ q2, G, [.obj n fs], _, ex, .cons r0 .nil, hR, fun v G' H' g e' r' => ?_⟩
    cases r'
    exact ⟨m, rfl, h0, h1, kk _ G' H' (gw_of g e') .int⟩
end

/-! ### == of tuples of tuples of own instances (where it is true) -/
/-- two data that a relation of places holds of -/
def RD (c : Ctx) (D : Eqv) (d1 d2 : Dt) : Prop := ∀ (G H : Hp) (x y : V), Ex G H → Rep c.K c.T G d1 x → Rep c.K c.T G d2 y → D x y H
/-- the own instances that the class's == says to be equal -/
def OwnR (c : Ctx) (n : Nat) (R : List Dt → Dt → Prop) (a b : Addr) (H : Hp) : Prop := ∃ G fs gs, Ex G H ∧ Rep c.K c.T G (.obj n fs) (.ref a) ∧ Rep c.K c.T G (.obj n gs) (.ref b) ∧ R [.obj n fs, .obj n gs] (.bl true)
section
variable {CX : CXT} {k : Nat} {f C : Addr} {fd : FuncData} {ps : List Str} {E : XK} {R : List Dt → Dt → Prop} {ns : List Str} {D : Eqv}
theorem own_spEq {P : Program} {w : World} {K : PySem.W.Frag} {mg : Str → Option Value} {base : Heap} (F : FnOk P w K mg base CX k f fd ps (spD c.K c.T R)) : FnOk P w K mg base CX k f fd ps (spEq (OwnR c n R)) :=
  F.imp fun vs H Q E ⟨a, b, e1, ⟨G, fs, gs, ex, r1, r2, hR⟩, kk⟩ => ⟨G, [.obj n fs, .obj n gs], .bl true, ex, by rw [e1]; exact .cons r1 (.cons r2 .nil), hR, fun v G' H' g e' r' => by
    cases r'
    exact kk H' (gw_of g e').hx⟩
theorem own_eqG (F : FnOk X.prog X.w X.K X.mg X.base CX k f fd ps (spD c.K c.T R)) (M : OwnOp X.K C "__eq__" f) (hb : Binds X.K fd ps []) (hx : Passes CX X E) : EqG X k (DIns C (OwnR c n R)) := eqG_ins (own_spEq F) M.at_ M.fn hb hx
theorem own_mon : Mon (DIns C (OwnR c n R)) := mon_ins fun a b H H' e ⟨G, fs, gs, ex, r⟩ => ⟨G, fs, gs, ex.trans e, r⟩
theorem rd_own (hT : c.T n = some (C, ns)) (hR : R [.obj n fs, .obj n gs] (.bl true)) : RD c (DIns C (OwnR c n R)) (.obj n fs) (.obj n gs) := fun G H x y ex r1 r2 => by
  obtain ⟨C1, ns1, q, dx, ws, rfl, q1, q2, q3, q4⟩ := id r1.obj_inv
  rw [hT] at q1
  cases q1
  obtain ⟨C1, ns1, q', dx', ws', rfl, q1, q2', q3', q4'⟩ := id r2.obj_inv
  rw [hT] at q1
  cases q1
  exact ⟨q, q', dx, dx', _, _, rfl, rfl, ex _ _ q2, ex _ _ q2', G, fs, gs, ex, r1, r2, hR⟩
theorem rd_tup (hl : xs.length = ys.length) (h : ∀ (i : Nat) d e, xs[i]? = some d → ys[i]? = some e → RD c D d e) : RD c (DTup c.K D) (.tup xs) (.tup ys) := fun G H x y ex r1 r2 => by
  obtain ⟨a, vs, rfl, s1, t1⟩ := r1.tup_inv
  obtain ⟨b, ws, rfl, s2, t2⟩ := r2.tup_inv
  refine ⟨a, b, vs, ws, rfl, rfl, ex.st s1, ex.st s2, by rw [← t1.length, ← t2.length]; exact hl, fun i u w h1 h2 => ?_⟩
  obtain ⟨d, q1, q2⟩ := t1.getV h1
  obtain ⟨e, p1, p2⟩ := t2.getV h2
  exact h i d e q1 p1 G H u w ex q2 p2
theorem o_eqG (h : RD c D d1 d2) : Op2 c d1 d2 (.bl true) (rEqG D) := fun G H x y Q ex r1 r2 kk =>
  ⟨h G H x y ex r1 r2, fun H' e => kk _ G H' ⟨Ex.refl G, e, ex.trans e, fun _ _ h => .inl h⟩ .bl⟩
theorem xd_eqG {m : Nat} (ha : XD c X a st d1 st1) (hb : XD c X b st1 d2 st2) (h : RcG X m D) (hr : Room m X.A) (hd : RD c D d1 d2) : XD c X (.Compare a [.Eq] [b] pos) st (.bl true) st2 := xd_cmp ha hb (op_eqG h hr) (o_eqG hd) (nomark _)
end

/-! ### defs and classes by their names, as bundles -/
/-- the def x of the module keeps the promise R -/
structure DF (P : Program) (w : World) (K : PySem.W.Frag) (T : Ct) (mg : Str → Option Value) (base : Heap) (x : Str) (k : Nat) (R : List Dt → Dt → Prop) : Prop where
  ex : ∃ f fd ps, FnOk P w K mg base CX0 k f fd ps (spD K T R) ∧ mg x = some (.ref f) ∧ PySem.W.keepIn K (.ref f) = true ∧ Binds K fd ps []
theorem xd_df {x : Str} {k : Nat} {R : List Dt → Dt → Prop} {p : Pos} (F : DF X.prog X.w X.K c.T X.mg X.base x k R) (hK : X.K = c.K) (hr : Room k X.A) (h : XA c X (e :: es) st ds st1) (hR : R ds d) (hg : Gl X x := by rfl) (hdb : (x == ("__debug__" : Str)) = false := by decide) (he : starEach (e :: es) X.env = (false, eval e X.env) :: starEach es X.env := by rfl) (hpl : (backTo pos (starEach es X.env)).any (·.1) = false := by rfl) :
    XD c X (.Call (.Name x p) (e :: es) [] pos) st d st1 := by
  obtain ⟨f, fd, ps, F, hm, hk, hb⟩ := F.ex
  rw [hK] at F
  exact xd_call (dds := []) (dvs := []) (dus := []) (E := fun _ _ _ => False) (by rw [hK]; exact F) hr hm hk hb .nil (fun G => .nil) pass0 h (by rw [List.append_nil]; exact hR) hg hdb he hpl
theorem xd_df0 {x : Str} {k : Nat} {R : List Dt → Dt → Prop} {p : Pos} (F : DF X.prog X.w X.K c.T X.mg X.base x k R) (hK : X.K = c.K) (hr : Room k X.A) (hR : R [] d) (hg : Gl X x := by rfl) (hdb : (x == ("__debug__" : Str)) = false := by decide) :
    XD c X (.Call (.Name x p) [] [] pos) st d st := by
  obtain ⟨f, fd, ps, F, hm, hk, hb⟩ := F.ex
  rw [hK] at F
  exact xd_call0 (E := fun _ _ _ => False) (by rw [hK]; exact F) hr hm hk hb pass0 hR hg hdb
/-- the class number n: its place, its fields, its name in the module -/
structure CF (K : PySem.W.Frag) (T : Ct) (mg : Str → Option Value) (x : Str) (n : Nat) (C : Addr) (ns : List Str) : Prop where
  at_ : T n = some (C, ns)
  cl : Cls K C
  nm : mg x = some (.ref C)
/-- its method m keeps the promise R -/
structure MF (P : Program) (w : World) (K : PySem.W.Frag) (T : Ct) (mg : Str → Option Value) (base : Heap) (C : Addr) (m : Str) (k : Nat) (R : List Dt → Dt → Prop) : Prop where
  ex : ∃ f fd ps, FnOk P w K mg base CX0 k f fd ps (spD K T R) ∧ Meth K C m f ∧ Binds K fd ps []
theorem xd_mf {m : Str} {apos : Pos} {pl : Sem Bool} {k : Nat} {R : List Dt → Dt → Prop} {x : Str} {C : Addr} {ns : List Str} (ho : XD c X b st (.obj n fs) st1) (Q : CF X.K c.T X.mg x n C ns) (F : MF X.prog X.w X.K c.T X.mg X.base C m k R) (hK : X.K = c.K) (hr : Room k X.A)
    (h : XA c X (e :: es) st1 ds st2) (hR : R (.obj n fs :: ds) d) (hno : ns.contains m = false := by decide +kernel)
    (hst : starEach (e :: es) X.env = (false, eval e X.env) :: starEach es X.env := by rfl) (hpl : (backTo pos (starEach es X.env)).any (·.1) = false := by rfl)
    (ht : eval (.Call (.Attribute b m apos) (e :: es) [] pos) X.env = (do
      let ov ← eval b X.env
      standAt apos.atName
      let (f, first) ← holding [ov] (getMethod ov m pl)
      callWith pos f first (backTo pos (starEach (e :: es) X.env)) (backToKw pos (keywordEach [] X.env))) := by rfl) :
    XD c X (.Call (.Attribute b m apos) (e :: es) [] pos) st d st2 := by
  obtain ⟨f, fd, ps, F, hm, hb⟩ := F.ex
  rw [hK] at F
  exact xd_meth (E := fun _ _ _ => False) ho Q.at_ Q.cl hm (by rw [hK]; exact F) hr hb pass0 h hR hno hst hpl ht
theorem xd_mf0 {m : Str} {apos : Pos} {pl : Sem Bool} {k : Nat} {R : List Dt → Dt → Prop} {x : Str} {C : Addr} {ns : List Str} (ho : XD c X b st (.obj n fs) st1) (Q : CF X.K c.T X.mg x n C ns) (F : MF X.prog X.w X.K c.T X.mg X.base C m k R) (hK : X.K = c.K) (hr : Room k X.A)
    (hR : R [.obj n fs] d) (hno : ns.contains m = false := by decide +kernel)
    (ht : eval (.Call (.Attribute b m apos) [] [] pos) X.env = (do
      let ov ← eval b X.env
      standAt apos.atName
      let (f, first) ← holding [ov] (getMethod ov m pl)
      callWith pos f first (backTo pos (starEach [] X.env)) (backToKw pos (keywordEach [] X.env))) := by rfl) :
    XD c X (.Call (.Attribute b m apos) [] [] pos) st d st1 := by
  obtain ⟨f, fd, ps, F, hm, hb⟩ := F.ex
  rw [hK] at F
  exact xd_meth0 (E := fun _ _ _ => False) ho Q.at_ Q.cl hm (by rw [hK]; exact F) hr hb pass0 hR hno ht
/-- len(o) of an own class -/
theorem xd_lenF {k : Nat} {R : List Dt → Dt → Prop} {x : Str} {C : Addr} {ns : List Str} {p : Pos} {m : Int} (h : XD c X e st (.obj n fs) st1) (Q : CF X.K c.T X.mg x n C ns) (F : MF X.prog X.w X.K c.T X.mg X.base C "__len__" k R) (hK : X.K = c.K) (hr : Room (k + 1) X.A)
    (hR : R [.obj n fs] (.int m)) (h0 : 0 ≤ m) (h1 : m < 2 ^ 63) (hm : X.mg "len" = none) (hg : Gl X "len" := by rfl) (he : starEach (e :: []) X.env = (false, eval e X.env) :: starEach [] X.env := by rfl) (hpl : (backTo pos (starEach [] X.env)).any (·.1) = false := by rfl) :
    XD c X (.Call (.Name "len" p) [e] [] pos) st (.int m) st1 := by
  obtain ⟨f, fd, ps, F, hf, hb⟩ := F.ex
  rw [hK] at F
  exact xd_lenO (E := fun _ _ _ => False) h Q.at_ (by rw [hK]; exact F) hr ⟨hf.at_, hf.fn⟩ hb pass0 hR h0 h1 hm hg he hpl
/-- a + b, a * b .. of an own class -/
theorem xd_opF {op : Operator} {k : Nat} {R : List Dt → Dt → Prop} {x : Str} {C : Addr} {ns : List Str} (ha : XD c X a st (.obj n fs) st1) (hb1 : XD c X b st1 (.obj n gs) st2) (Q : CF X.K c.T X.mg x n C ns) (F : MF X.prog X.w X.K c.T X.mg X.base C (PySem.dunder op.info.2) k R) (hK : X.K = c.K) (hr : Room k X.A) (hs : PySem.W.selfFirst X.K C = true)
    (hR : R [.obj n fs, .obj n gs] d) : XD c X (.BinOp a op b pos) st d st2 := by
  obtain ⟨f, fd, ps, F, hf, hb⟩ := F.ex
  rw [hK] at F
  refine xd_bin ha hb1 (op_own (E := fun _ _ _ => False) (sp := spD c.K c.T R) (by rw [hK]; exact F) hr ⟨hf.at_, hf.fn⟩ hs hb pass0) (o_own Q.at_ hR)
/-- a == b of an own class -/
theorem xd_eqF {k : Nat} {R : List Dt → Dt → Prop} {x : Str} {C : Addr} {ns : List Str} (ha : XD c X a st (.obj n fs) st1) (hb1 : XD c X b st1 (.obj n gs) st2) (Q : CF X.K c.T X.mg x n C ns) (F : MF X.prog X.w X.K c.T X.mg X.base C "__eq__" k R) (hK : X.K = c.K) (hr : Room k X.A)
    (hR : R [.obj n fs, .obj n gs] d) : XD c X (.Compare a [.Eq] [b] pos) st d st2 := by
  obtain ⟨f, fd, ps, F, hf, hb⟩ := F.ex
  rw [hK] at F
  refine xd_cmp ha hb1 (op_ownEq (E := fun _ _ _ => False) (sp := spD c.K c.T R) (by rw [hK]; exact F) hr ⟨hf.at_, hf.fn⟩ hb pass0) (o_ownEq (X := X) Q.at_ hR) (nomark _)
/-- a != b of a class that has an own == only -/
theorem xd_neF {k : Nat} {R : List Dt → Dt → Prop} {x : Str} {C : Addr} {ns : List Str} (ha : XD c X a st (.obj n fs) st1) (hb1 : XD c X b st1 (.obj n gs) st2) (Q : CF X.K c.T X.mg x n C ns) (F : MF X.prog X.w X.K c.T X.mg X.base C "__eq__" k R) (hK : X.K = c.K) (hr : Room (k + 1) X.A)
    (hne : PySem.W.findIn X.K (.ref C) "__ne__" = some (some (.builtin "object.__ne__"))) (hob : PySem.W.mroIn X.K C (.type "object") = some true)
    (hR : R [.obj n fs, .obj n gs] (.bl t)) : XD c X (.Compare a [.NotEq] [b] pos) st (.bl (!t)) st2 := by
  obtain ⟨f, fd, ps, F, hf, hb⟩ := F.ex
  rw [hK] at F
  refine xd_cmp ha hb1 (op_ownNe (E := fun _ _ _ => False) (sp := spD c.K c.T R) (by rw [hK]; exact F) hr ⟨hf.at_, hf.fn, hne, hob⟩ hb pass0) (o_ownNe (X := X) Q.at_ hR) (nomark _)
/-- the class makes objects: the promise of its __init__, with the defaults of the last arguments -/
structure IF' (P : Program) (w : World) (K : PySem.W.Frag) (T : Ct) (mg : Str → Option Value) (base : Heap) (n : Nat) (C : Addr) (dds : List Dt) (k : Nat) (Rf : List Dt → List Dt → Prop) : Prop where
  ex : ∃ f fd ps dvs dus, FnOk P w K mg base CX0 k f fd ps (spI K T n Rf) ∧ Mk K C f ∧ Binds K fd ps dus ∧ Vals dvs dus ∧ ∀ G, Reps K T G dds dvs
theorem xd_mk {k : Nat} {Rf : List Dt → List Dt → Prop} {x : Str} {C : Addr} {ns : List Str} {p : Pos} {dds : List Dt} (Q : CF X.K c.T X.mg x n C ns) (F : IF' X.prog X.w X.K c.T X.mg X.base n C dds k Rf) (hK : X.K = c.K) (hr : Room (k + 1) X.A)
    (h : XA c X (e :: es) st ds st1) (hR : Rf (ds ++ dds) fs) (hg : Gl X x := by rfl) (hdb : (x == ("__debug__" : Str)) = false := by decide) (he : starEach (e :: es) X.env = (false, eval e X.env) :: starEach es X.env := by rfl) (hpl : (backTo pos (starEach es X.env)).any (·.1) = false := by rfl) :
    XD c X (.Call (.Name x p) (e :: es) [] pos) st (.obj n fs) st1 := by
  obtain ⟨f, fd, ps, dvs, dus, F, hf, hb, hv, hd⟩ := F.ex
  rw [hK] at F
  exact xd_make (E := fun _ _ _ => False) Q.at_ hf (by rw [hK]; exact F) hr Q.nm hb hv (fun G => by rw [← hK]; exact hd G) pass0 h hR hg hdb he hpl
/-- o.f -/
theorem xd_ff (i : Nat) {x : Str} {C : Addr} {ns : List Str} {f : Str} (h : XD c X e st (.obj n fs) st1) (Q : CF X.K c.T X.mg x n C ns) (hK : X.K = c.K) (hna : NoAttr X.K C f) (hd : fs[i]? = some d := by rfl) (hi : ns.findIdx? (· == f) = some i := by decide +kernel)
    (hb : attributeBase e f X.env (eval e X.env) = eval e X.env := by rfl) : XD c X (.Attribute e f pos) st d st1 := xd_fld h hK Q.at_ Q.cl hna hi hd hb
/-- for, its number of turns named -/
theorem xp_forN (S : Nat → Store) (m : Nat) (hm : ds.length = m) (hi : XI c X tg iter st ds (S 0)) (hb : ∀ (i : Nat) d, ds[i]? = some d → Turns c X tg body d (S i) (S (i + 1))) (hc : X.calm = true := by rfl) (hp : PassesOwn (model X.prog X.w) X.A X.env X.xe := by exact PassesOwn.never)
    (hf : ∀ x, foldedSetIterable iter X.env x = pure x := by intro _; rfl) : XP c X (.For tg iter body [] pos) st (.nx (S m)) := by
  rw [← hm]; exact xp_for S hi hb hc hp hf
theorem Turns.nx {s s1 s' t : Store} (hg : XG c X tg d s t) (h : XS c X body t (.nx s1)) (e : s1 = s') : Turns c X tg body d s s' := ⟨t, hg, .inl (e ▸ h)⟩
theorem Turns.ct {s s1 s' t : Store} (hg : XG c X tg d s t) (h : XS c X body t (.ct s1)) (e : s1 = s') : Turns c X tg body d s s' := ⟨t, hg, .inr (e ▸ h)⟩
theorem log2_small {j : Int} (h : 1 ≤ j) (h' : j < 2 ^ 64) : j.natAbs.log2 < 9000 := by
  have : j.natAbs.log2 < 64 := (Nat.log2_lt (by omega)).mpr (by omega)
  omega
theorem XS.to {sts : List Stmt} {s1 s2 : Store} (h : XS c X sts st (.nx s1)) (e : s1 = s2) : XS c X sts st (.nx s2) := e ▸ h
theorem XP.to {s : Stmt} {s1 s2 : Store} (h : XP c X s st (.nx s1)) (e : s1 = s2) : XP c X s st (.nx s2) := e ▸ h
/-- gcd(a, b), imported from math -/
theorem xd_gcd {ea eb : Expr} {p : Pos} (h : XA c X [ea, eb] st [.int i, .int j] st1) (hm : X.mg "gcd" = some (.builtin "math.gcd")) (hg : Gl X "gcd" := by rfl) (he : starEach (ea :: [eb]) X.env = (false, eval ea X.env) :: starEach [eb] X.env := by rfl) (hpl : (backTo pos (starEach [eb] X.env)).any (·.1) = false := by rfl) :
    XD c X (.Call (.Name "gcd" p) [ea, eb] [] pos) st (.int ((Nat.gcd i.natAbs j.natAbs : Nat) : Int)) st1 :=
  ⟨pe_weak (pe_callBfun cr_gcd hg hm h.pa (by decide) he hpl) fun σ H Q ⟨G, E, k⟩ => ⟨G, E, fun vs G1 H1 g1 E1 r1 => o_gcd (c := c) G1 H1 vs Q E1.ex r1 fun v G3 H3 g3 r3 => k v G3 H3 (g1.trans g3.gr) (E1.g1 g3) r3⟩⟩
/-- isinstance(e, a built-in type) -/
theorem xd_isTy {y : Str} {tn id : String} {p p2 : Pos} (h : XD c X e st d st1) (ht : HasTy c d (.type tn)) (hK : X.K = c.K) (hm : X.mg "isinstance" = none) (hy : X.mg y = none) (hb : bootBuiltins y = some (.type id)) (hk : PySem.W.kitOne X.K (.type tn) (.type id) = some t) (hgy : Gl X y := by rfl) (hny : y ≠ "__name__" := by decide) (hdb : (y == ("__debug__" : Str)) = false := by decide) (hg : Gl X "isinstance" := by rfl)
    (he : starEach (e :: [.Name y p2]) X.env = (false, eval e X.env) :: starEach [.Name y p2] X.env := by rfl) (he2 : starEach (.Name y p2 :: []) X.env = (false, eval (.Name y p2) X.env) :: starEach [] X.env := by rfl) (hpl : (backTo pos (starEach [.Name y p2] X.env)).any (·.1) = false := by rfl) :
    XD c X (.Call (.Name "isinstance" p) [e, .Name y p2] [] pos) st (.bl t) st1 :=
  xd_isi (x := y) (u := .type id) (cv := .ty id) h (pe_bltn hgy hy hb rfl hny hdb) (.ty _) ht hk hK hm hg he he2 hpl
/-- isinstance(e, its own class) -/
theorem xd_isOwn {y : Str} {C : Addr} {ns : List Str} {p p2 : Pos} (h : XD c X e st (.obj n fs) st1) (Q : CF X.K c.T X.mg y n C ns) (hX : ClsX X.K C) (hK : X.K = c.K) (hm : X.mg "isinstance" = none) (hgy : Gl X y := by rfl) (hdb : (y == ("__debug__" : Str)) = false := by decide) (hg : Gl X "isinstance" := by rfl)
    (he : starEach (e :: [.Name y p2]) X.env = (false, eval e X.env) :: starEach [.Name y p2] X.env := by rfl) (he2 : starEach (.Name y p2 :: []) X.env = (false, eval (.Name y p2) X.env) :: starEach [] X.env := by rfl) (hpl : (backTo pos (starEach [.Name y p2] X.env)).any (·.1) = false := by rfl) :
    XD c X (.Call (.Name "isinstance" p) [e, .Name y p2] [] pos) st (.bl true) st1 :=
  xd_isi (x := y) (u := .ref C) (cv := .ref C) h (pe_glob hgy Q.nm rfl hdb) (.own _) (.obj Q.at_ (by rw [← hK]; exact hX)) (by simp [PySem.W.kitOne]) hK hm hg he he2 hpl
end Dv
set_option autoImplicit false
set_option maxRecDepth 100000
namespace Dv
open PySem PySem.Spec PyProof.Rows L2
section
variable {c : Ctx} {X : Cx} {st st1 st2 st3 st' : Store} {a b e e2 e3 iter elt : Expr} {es : List Expr} {d d1 d2 d3 d' : Dt} {ds xs ys zs fs gs vs : List Dt} {pos : Pos} {v : V} {n : Nat} {body : List Stmt} {o : Out} {i j : Int} {t : Bool}
theorem collect_some : ∀ vs : List Dt, Dv.collect (vs.map some) = vs
  | [] => rfl
  | v :: vs => by show v :: Dv.collect (vs.map some) = _; rw [collect_some vs]
theorem set_none {s : Store} {k : Nat} (h : s[k]? = some none) (x : Option Sv) : (s.set k x).set k none = s := by
  rw [List.set_set]
  apply List.ext_getElem?
  intro i
  by_cases q : k = i
  · subst q
    rw [List.getElem?_set_self (by exact (List.getElem?_eq_some_iff.mp h).1), h]
  · rw [List.getElem?_set_ne q]
/-- [elt for x in iter], the store as it was -/
theorem xl_map1 (jx : Nat) {x : Str} {p : Pos} {scope : Scope} (vs : List Dt) (hN : X.N.Nodup) (hi : XI c X (.Name x p) iter st ds st1) (hlen : vs.length = ds.length) (hsz : ds.length ≤ 100000) (hn : st1[jx]? = some none)
    (hb : ∀ (i : Nat) d v, ds[i]? = some d → vs[i]? = some v → ∀ sh H C cl fp, XD c (BlkC X sh H scope C cl fp) elt (st1.set jx (some (.fr d))) v (st1.set jx (some (.fr d))))
    (hx : X.N[jx]? = some x := by rfl) (hloc : Loc (relabel scope X.env) x := by first | exact Or.inl rfl | exact Or.inr rfl) (hlocf : (scope.names.lookup x == some .cell) = true ∨ (relabel scope X.env).names.lookup x = some .local := by first | exact Or.inl rfl | exact Or.inr rfl) (ok : BlkOk X.N X.env.scope scope [(x, jx)] := by exact blkOk_by (by first | rfl | decide +kernel))
    (hc : X.calm = true := by rfl) (hs : ∀ x, foldedSetIterable iter X.env x = pure x := by intro _; rfl) :
    XL c X (.ListComp elt [⟨.Name x p, iter, [], 0⟩] scope pos) st vs st1 := by
  have q := xl_lc (c := c) (X := X) (elt := elt) (pos := pos) (g := gName jx) (ow := [(x, jx)]) (fun _ => st1) (vs.map some) hN hi (by rw [List.length_map, hlen]) hsz (fun i _ q hq => by
      rw [List.mem_singleton.mp hq]; exact hn) (fun i d r h1 h2 => by
      rw [List.getElem?_map] at h2
      cases hv : vs[i]? with
      | none => rw [hv] at h2; cases h2
      | some v =>
        rw [hv] at h2
        cases h2
        exact ⟨_, true, _, tgt_name, .nil, .inr ⟨rfl, v, _, rfl, (set_none hn _).symm, hb i d v h1 hv⟩⟩) (fun s H C cl fp => pg_name (X := BlkC X s H scope C cl fp) hN hx hloc hlocf) (by decide) ok hc hs
  rw [collect_some] at q
  exact q
/-- [elt for x, y in iter] -/
theorem xl_map2 (j1 j2 : Nat) {x y : Str} {p p1 p2 : Pos} {kk : Nat} {scope : Scope} (vs : List Dt) (hN : X.N.Nodup) (hK : X.K = c.K) (hcm : X.calm = true) (hi : XI c X (.Tuple [.Name x p1, .Name y p2] kk p) iter st ds st1) (hlen : vs.length = ds.length) (hsz : ds.length ≤ 100000) (hj : j1 ≠ j2) (hn1 : st1[j1]? = some none) (hn2 : st1[j2]? = some none)
    (hb : ∀ (i : Nat) d v, ds[i]? = some d → vs[i]? = some v → ∃ u w, d = .tup [u, w] ∧ ∀ sh H C cl fp, XD c (BlkC X sh H scope C cl fp) elt ((st1.set j1 (some (.fr u))).set j2 (some (.fr w))) v ((st1.set j1 (some (.fr u))).set j2 (some (.fr w))))
    (hx : X.N[j1]? = some x := by rfl) (hy : X.N[j2]? = some y := by rfl) (hlx : Loc (relabel scope X.env) x := by first | exact Or.inl rfl | exact Or.inr rfl) (hlxf : (scope.names.lookup x == some .cell) = true ∨ (relabel scope X.env).names.lookup x = some .local := by first | exact Or.inl rfl | exact Or.inr rfl) (hly : Loc (relabel scope X.env) y := by first | exact Or.inl rfl | exact Or.inr rfl) (hlyf : (scope.names.lookup y == some .cell) = true ∨ (relabel scope X.env).names.lookup y = some .local := by first | exact Or.inl rfl | exact Or.inr rfl) (ok : BlkOk X.N X.env.scope scope [(x, j1), (y, j2)] := by exact blkOk_by (by first | rfl | decide +kernel))
    (hs : ∀ x, foldedSetIterable iter X.env x = pure x := by intro _; rfl) (hst : ∀ env, (assignEach [.Name x p1, .Name y p2] env).map (·.2) = [assign (.Name x p1) env, assign (.Name y p2) env] := by intro _; rfl) :
    XL c X (.ListComp elt [⟨.Tuple [.Name x p1, .Name y p2] kk p, iter, [], 0⟩] scope pos) st vs st1 := by
  have q := xl_lc (c := c) (X := X) (elt := elt) (pos := pos) (g := gTup X.K 2 (gCons (gName j1) (gCons (gName j2) gNil))) (ow := [(x, j1), (y, j2)]) (fun _ => st1) (vs.map some) hN hi (by rw [List.length_map, hlen]) hsz (fun i _ q hq => by
      rcases List.mem_cons.mp hq with h | h
      · rw [h]; exact hn1
      · rw [List.mem_singleton.mp h]; exact hn2) (fun i d r h1 h2 => by
      rw [List.getElem?_map] at h2
      cases hv : vs[i]? with
      | none => rw [hv] at h2; cases h2
      | some v =>
        rw [hv] at h2
        cases h2
        obtain ⟨u, w, rfl, hxd⟩ := hb i d v h1 hv
        refine ⟨_, true, _, tgt_pair hK.symm hj, .nil, .inr ⟨rfl, v, _, rfl, ?_, hxd⟩⟩
        show st1 = ((((st1.set j1 (some (.fr u))).set j2 (some (.fr w))).set j2 none).set j1 none)
        rw [set_none (by rw [List.getElem?_set_ne hj]; exact hn2), set_none hn1]) (fun s H C cl fp => pg_tup hcm (pgs_cons (pg_name (X := BlkC X s H scope C cl fp) hN hx hlx hlxf) (pgs_cons (pg_name (X := BlkC X s H scope C cl fp) hN hy hly hlyf) pgs_nil rfl) rfl) rfl rfl) (by decide) ok hcm hs
  rw [collect_some] at q
  exact q
/-- list * number -/
theorem xd_rep {k : Int} (ha : XD c X a st (.lst ds) st1) (hb : XD c X b st1 (.int k) st2) (h0 : 0 ≤ k) (h1 : k < 2 ^ 62) (hz : ds.length * k.toNat ≤ 100000) : XD c X (.BinOp a .Mult b pos) st (.lst (List.replicate k.toNat ds).flatten) st2 := xd_bin ha hb op_rep (o_rep (by omega) (by omega) hz)
/-- [elt for x in iter], the store as it was -/
theorem xp_map1 (k : Nat) (own? : Bool) (jx : Nat) {x y : Str} {py spos : Pos} {p : Pos} {scope : Scope} (vs : List Dt) (hN : X.N.Nodup) (hi : XI c X (.Name x p) iter st ds st1) (hlen : vs.length = ds.length) (hsz : ds.length ≤ 100000) (hn : st1[jx]? = some none)
    (hb : ∀ (i : Nat) d v, ds[i]? = some d → vs[i]? = some v → ∀ sh H C cl fp, XD c (BlkC X sh H scope C cl fp) elt (st1.set jx (some (.fr d))) v (st1.set jx (some (.fr d))))
    (hx : X.N[jx]? = some x := by rfl) (hloc : Loc (relabel scope X.env) x := by first | exact Or.inl rfl | exact Or.inr rfl) (hlocf : (scope.names.lookup x == some .cell) = true ∨ (relabel scope X.env).names.lookup x = some .local := by first | exact Or.inl rfl | exact Or.inr rfl) (ok : BlkOk X.N X.env.scope scope [(x, jx)] := by exact blkOk_by (by first | rfl | decide +kernel))
    (hy0 : X.N[k]? = some y := by rfl) (hyl : X.env.scope.names.lookup y = some .local := by rfl) (hsw : swapsWith (.ListComp elt [⟨.Name x p, iter, [], 0⟩] scope pos) (some (.Name y py)) spos.line X.env = pure true := by exact sw_true rfl rfl rfl (by first | rfl | decide +kernel))
    (hc : X.calm = true := by rfl) (hs : ∀ x, foldedSetIterable iter X.env x = pure x := by intro _; rfl) :
    XP c X (.Assign [.Name y py] (.ListComp elt [⟨.Name x p, iter, [], 0⟩] scope pos) spos) st (.nx (st1.set k (some (if own? = true then .ow vs else .fr (.lst vs))))) := by
  have q := xp_setLc (c := c) (X := X) (py := py) (spos := spos) (y := y) k (elt := elt) (pos := pos) (g := gName jx) (ow := [(x, jx)]) (fun _ => st1) (vs.map some) own? hN hi (by rw [List.length_map, hlen]) hsz (fun i _ q hq => by
      rw [List.mem_singleton.mp hq]; exact hn) (fun i d r h1 h2 => by
      rw [List.getElem?_map] at h2
      cases hv : vs[i]? with
      | none => rw [hv] at h2; cases h2
      | some v =>
        rw [hv] at h2
        cases h2
        exact ⟨_, true, _, tgt_name, .nil, .inr ⟨rfl, v, _, rfl, (set_none hn _).symm, hb i d v h1 hv⟩⟩) (fun s H C cl fp => pg_name (X := BlkC X s H scope C cl fp) hN hx hloc hlocf) (by decide) ok hy0 hyl hsw hc hs
  rw [collect_some] at q
  exact q
/-- [elt for x, y in iter] -/
theorem xp_map2 (k : Nat) (own? : Bool) (j1 j2 : Nat) {x y z : Str} {py spos : Pos} {p p1 p2 : Pos} {kk : Nat} {scope : Scope} (vs : List Dt) (hN : X.N.Nodup) (hK : X.K = c.K) (hcm : X.calm = true) (hi : XI c X (.Tuple [.Name x p1, .Name y p2] kk p) iter st ds st1) (hlen : vs.length = ds.length) (hsz : ds.length ≤ 100000) (hj : j1 ≠ j2) (hn1 : st1[j1]? = some none) (hn2 : st1[j2]? = some none)
    (hb : ∀ (i : Nat) d v, ds[i]? = some d → vs[i]? = some v → ∃ u w, d = .tup [u, w] ∧ ∀ sh H C cl fp, XD c (BlkC X sh H scope C cl fp) elt ((st1.set j1 (some (.fr u))).set j2 (some (.fr w))) v ((st1.set j1 (some (.fr u))).set j2 (some (.fr w))))
    (hx : X.N[j1]? = some x := by rfl) (hy : X.N[j2]? = some y := by rfl) (hlx : Loc (relabel scope X.env) x := by first | exact Or.inl rfl | exact Or.inr rfl) (hlxf : (scope.names.lookup x == some .cell) = true ∨ (relabel scope X.env).names.lookup x = some .local := by first | exact Or.inl rfl | exact Or.inr rfl) (hly : Loc (relabel scope X.env) y := by first | exact Or.inl rfl | exact Or.inr rfl) (hlyf : (scope.names.lookup y == some .cell) = true ∨ (relabel scope X.env).names.lookup y = some .local := by first | exact Or.inl rfl | exact Or.inr rfl) (ok : BlkOk X.N X.env.scope scope [(x, j1), (y, j2)] := by exact blkOk_by (by first | rfl | decide +kernel))
    (hy0 : X.N[k]? = some z := by rfl) (hyl : X.env.scope.names.lookup z = some .local := by rfl) (hsw : swapsWith (.ListComp elt [⟨.Tuple [.Name x p1, .Name y p2] kk p, iter, [], 0⟩] scope pos) (some (.Name z py)) spos.line X.env = pure true := by exact sw_true rfl rfl rfl (by first | rfl | decide +kernel))
    (hs : ∀ x, foldedSetIterable iter X.env x = pure x := by intro _; rfl) (hst : ∀ env, (assignEach [.Name x p1, .Name y p2] env).map (·.2) = [assign (.Name x p1) env, assign (.Name y p2) env] := by intro _; rfl) :
    XP c X (.Assign [.Name z py] (.ListComp elt [⟨.Tuple [.Name x p1, .Name y p2] kk p, iter, [], 0⟩] scope pos) spos) st (.nx (st1.set k (some (if own? = true then .ow vs else .fr (.lst vs))))) := by
  have q := xp_setLc (c := c) (X := X) (py := py) (spos := spos) (y := z) k (elt := elt) (pos := pos) (g := gTup X.K 2 (gCons (gName j1) (gCons (gName j2) gNil))) (ow := [(x, j1), (y, j2)]) (fun _ => st1) (vs.map some) own? hN hi (by rw [List.length_map, hlen]) hsz (fun i _ q hq => by
      rcases List.mem_cons.mp hq with h | h
      · rw [h]; exact hn1
      · rw [List.mem_singleton.mp h]; exact hn2) (fun i d r h1 h2 => by
      rw [List.getElem?_map] at h2
      cases hv : vs[i]? with
      | none => rw [hv] at h2; cases h2
      | some v =>
        rw [hv] at h2
        cases h2
        obtain ⟨u, w, rfl, hxd⟩ := hb i d v h1 hv
        refine ⟨_, true, _, tgt_pair hK.symm hj, .nil, .inr ⟨rfl, v, _, rfl, ?_, hxd⟩⟩
        show st1 = ((((st1.set j1 (some (.fr u))).set j2 (some (.fr w))).set j2 none).set j1 none)
        rw [set_none (by rw [List.getElem?_set_ne hj]; exact hn2), set_none hn1]) (fun s H C cl fp => pg_tup hcm (pgs_cons (pg_name (X := BlkC X s H scope C cl fp) hN hx hlx hlxf) (pgs_cons (pg_name (X := BlkC X s H scope C cl fp) hN hy hly hlyf) pgs_nil rfl) rfl) rfl rfl) (by decide) ok hy0 hyl hsw hcm hs
  rw [collect_some] at q
  exact q
/-- an operation that makes a new list -/
def Op2L (c : Ctx) (d1 d2 : Dt) (xs : List Dt) (r : R2) : Prop := ∀ (G H : Hp) (x y : V) (Q : VK), Ex G H → Rep c.K c.T G d1 x → Rep c.K c.T G d2 y → (∀ p vs, H p = none → Reps c.K c.T G xs vs → Q (.ref p) (upd H p (.lst vs))) → r x y H Q
theorem xl_bin {op : Operator} {r : R2} (ha : XD c X a st d1 st1) (hb : XD c X b st1 d2 st2) (ho : OpR X (binaryOp op) r) (hv : Op2L c d1 d2 xs r) : XL c X (.BinOp a op b pos) st xs st2 :=
  ⟨pe_weak (pe_op ho ha.pe hb.pe) fun σ H Q ⟨G, E, k⟩ => ⟨G, E, fun x G1 H1 g1 E1 r1 => ⟨G1, E1, fun y G2 H2 g2 E2 r2 =>
    hv G2 H2 x y Q E2.ex (r1.ex g2.ex) r2 fun p vs hp rr => by
      obtain ⟨E3, g3⟩ := E2.lay (o := .lst vs) hp
      exact k p vs G2 _ ((g1.trans g2).trans g3) E3 (E2.notOwn hp) ((g1.trans g2).none hp) (E2.ex.none hp) upd_same rr⟩⟩⟩
theorem xl_rep {k : Int} (ha : XD c X a st (.lst ds) st1) (hb : XD c X b st1 (.int k) st2) (h0 : 0 ≤ k) (h1 : k < 2 ^ 62) (hz : ds.length * k.toNat ≤ 100000) : XL c X (.BinOp a .Mult b pos) st (List.replicate k.toNat ds).flatten st2 :=
  xl_bin ha hb op_rep fun G H x y Q e r1 r2 kk => by
    obtain ⟨a, vs, rfl, h, r⟩ := r1.lst_inv
    cases r2
    exact ⟨a, k, vs, rfl, rfl, e _ _ h, by omega, by omega, by rw [← r.length]; exact Nat.le_trans hz (by decide), fun p hp => kk p _ hp (Reps.replicate _ r)⟩
theorem xl_cat (ha : XD c X a st (.lst ds) st1) (hb : XD c X b st1 (.lst xs) st2) (hz : ds.length + xs.length ≤ 100000) : XL c X (.BinOp a .Add b pos) st (ds ++ xs) st2 :=
  xl_bin ha hb op_cat fun G H x y Q e r1 r2 kk => by
    obtain ⟨a, vs, rfl, h, r⟩ := r1.lst_inv
    obtain ⟨b, ws, rfl, h2, r2⟩ := r2.lst_inv
    exact ⟨a, b, vs, ws, rfl, rfl, e _ _ h, e _ _ h2, by rw [← r.length, ← r2.length]; exact Nat.le_trans hz (by decide), fun p hp => kk p _ hp (r.app r2)⟩
end
end Dv
set_option autoImplicit false
set_option maxRecDepth 100000
namespace Dv
open PySem PySem.Spec PyProof.Rows L2
/-! ### plain data, compared with itself -/
structure Pl (k : Nat) (d : Dt) (p : PyData) : Prop where
  py : d.py = some p
  lay : p.canLay0 = true
  dep : p.depth ≤ k
  self : PyData.eqv p p = true
structure PlL (k : Nat) (ds : List Dt) (ps : List PyData) : Prop where
  py : Dt.pys ds = some ps
  lay : PyData.canLayAll0 ps = true
  dep : PyData.depthAll ps ≤ k
  self : PyData.eqvAll ps ps = true
theorem pl_int {i : Int} {k : Nat} : Pl k (.int i) (.int i) := ⟨rfl, by rw [PyData.canLay0.eq_3], by rw [PyData.depth.eq_6]; omega, by rw [PyData.eqv.eq_5]; simp⟩
theorem pl_non {k : Nat} : Pl k .non .none := ⟨rfl, by rw [PyData.canLay0.eq_1], by rw [PyData.depth.eq_4]; omega, by rw [PyData.eqv.eq_1]⟩
theorem pl_bl {b : Bool} {k : Nat} : Pl k (.bl b) (.bool b) := ⟨rfl, by rw [PyData.canLay0.eq_2], by rw [PyData.depth.eq_5]; omega, by rw [PyData.eqv.eq_2]; simp⟩
theorem pll_nil {k : Nat} : PlL k [] [] := ⟨rfl, rfl, by rw [PyData.depthAll.eq_1]; omega, by rw [PyData.eqvAll.eq_1]⟩
theorem pll_cons {k : Nat} {d : Dt} {p : PyData} {ds : List Dt} {ps : List PyData} (h : Pl k d p) (t : PlL k ds ps) : PlL k (d :: ds) (p :: ps) where
  py := by unfold Dt.pys; rw [h.py, t.py]
  lay := by show (p.canLay0 && PyData.canLayAll0 ps) = true; rw [h.lay, t.lay]; rfl
  dep := by rw [PyData.depthAll.eq_2]; exact Nat.max_le.mpr ⟨h.dep, t.dep⟩
  self := by rw [PyData.eqvAll.eq_2, h.self, t.self]; rfl
theorem pl_tup {k : Nat} {ds : List Dt} {ps : List PyData} (h : PlL k ds ps) : Pl (k + 1) (.tup ds) (.tuple ps) where
  py := by unfold Dt.py; rw [h.py]; rfl
  lay := by rw [PyData.canLay0.eq_6]; exact h.lay
  dep := by rw [PyData.depth.eq_2]; exact Nat.succ_le_succ h.dep
  self := by rw [PyData.eqv.eq_8]; exact h.self
theorem pl_lst {k : Nat} {ds : List Dt} {ps : List PyData} (h : PlL k ds ps) : Pl (k + 1) (.lst ds) (.list ps) where
  py := by unfold Dt.py; rw [h.py]; rfl
  lay := by rw [PyData.canLay0.eq_5]; exact h.lay
  dep := by rw [PyData.depth.eq_1]; exact Nat.succ_le_succ h.dep
  self := by rw [PyData.eqv.eq_7]; exact h.self
theorem pll_map {α : Type} {k : Nat} {F : α → Dt} {G : α → PyData} (h : ∀ i, Pl k (F i) (G i)) : ∀ l : List α, PlL k (l.map F) (l.map G)
  | [] => pll_nil
  | a :: l => pll_cons (h a) (pll_map h l)
theorem Pl.shaped {k : Nat} {d : Dt} {p : PyData} (h : Pl k d p) (hk : k ≤ 64) : SeqAt.shaped p = true := by
  show (p.canLay0 && decide (p.depth ≤ 64)) = true
  rw [h.lay, decide_eq_true (Nat.le_trans h.dep hk)]; rfl
section
variable {c : Ctx} {X : Cx} {st st1 st2 st3 st' : Store} {a b e e2 e3 iter elt : Expr} {es : List Expr} {d d1 d2 d3 d' : Dt} {ds xs ys zs fs gs vs : List Dt} {pos : Pos} {v : V} {n k m : Nat} {p q : PyData} {body : List Stmt} {o : Out} {i j : Int} {t : Bool}
/-- a != b where both are the same plain data -/
theorem xt_neP (ha : XD c X a st d st1) (hb : XD c X b st1 d st2) (h : Pl k d p) (hk : k ≤ 64) (hK : X.K = c.K) (hr : Room m X.A) : XT c X (.Compare a [.NotEq] [b] pos) st false st2 := by
  have q := o_neD (c := c) h.py h.py (h.shaped hk) (h.shaped hk)
  rw [h.self, ← hK] at q
  exact xt_cmp ha hb (op_neD (by have := hr.un; omega)) q (nomark _)
theorem xt_inP {qs : List PyData} (ha : XD c X a st d1 st1) (hb : XD c X b st1 d2 st2) (h1 : Pl k d1 p) (h2 : Pl k d2 (.list qs)) (hk : k ≤ 64) (ht : (qs.any fun z => PyData.eqv z p) = t) (hK : X.K = c.K) (hr : Room m X.A) (hm : behindInMarks .In b = false := by rfl) : XT c X (.Compare a [.In] [b] pos) st t st2 := by
  have q := o_inD (c := c) h1.py h2.py (h1.shaped hk) (h2.shaped hk)
  rw [ht, ← hK] at q
  exact xt_cmp ha hb (op_inD (by have := hr.un; omega)) q hm
/-- a != b of a class that has an own == only, as a test -/
theorem xt_neF {R : List Dt → Dt → Prop} {x : Str} {C : Addr} {ns : List Str} (ha : XD c X a st (.obj n fs) st1) (hb1 : XD c X b st1 (.obj n gs) st2) (Q : CF X.K c.T X.mg x n C ns) (F : MF X.prog X.w X.K c.T X.mg X.base C "__eq__" k R) (hK : X.K = c.K) (hr : Room (k + 1) X.A)
    (hne : PySem.W.findIn X.K (.ref C) "__ne__" = some (some (.builtin "object.__ne__"))) (hob : PySem.W.mroIn X.K C (.type "object") = some true)
    (hR : R [.obj n fs, .obj n gs] (.bl t)) : XT c X (.Compare a [.NotEq] [b] pos) st (!t) st2 := by
  obtain ⟨f, fd, ps, F, hf, hb⟩ := F.ex
  rw [hK] at F
  refine xt_cmp ha hb1 (op_ownNe (E := fun _ _ _ => False) (sp := spD c.K c.T R) (by rw [hK]; exact F) hr ⟨hf.at_, hf.fn, hne, hob⟩ hb pass0) (o_ownNe (X := X) Q.at_ hR) (nomark _)
theorem xt_eqF {R : List Dt → Dt → Prop} {x : Str} {C : Addr} {ns : List Str} (ha : XD c X a st (.obj n fs) st1) (hb1 : XD c X b st1 (.obj n gs) st2) (Q : CF X.K c.T X.mg x n C ns) (F : MF X.prog X.w X.K c.T X.mg X.base C "__eq__" k R) (hK : X.K = c.K) (hr : Room k X.A)
    (hR : R [.obj n fs, .obj n gs] (.bl t)) : XT c X (.Compare a [.Eq] [b] pos) st t st2 := by
  obtain ⟨f, fd, ps, F, hf, hb⟩ := F.ex
  rw [hK] at F
  refine xt_cmp ha hb1 (op_ownEq (E := fun _ _ _ => False) (sp := spD c.K c.T R) (by rw [hK]; exact F) hr ⟨hf.at_, hf.fn⟩ hb pass0) (o_ownEq (X := X) Q.at_ hR) (nomark _)
end
end Dv
set_option autoImplicit false
set_option maxRecDepth 100000
namespace Dv
open PySem PySem.Spec PyProof.Rows L2
section
variable {c : Ctx} {X : Cx} {st st1 st2 st3 st' : Store} {a b e e2 e3 tg iter elt : Expr} {es : List Expr} {d d1 d2 d3 d' : Dt} {ds xs ys zs fs gs vs : List Dt} {pos : Pos} {v : V} {n k m : Nat} {p q : PyData} {body : List Stmt} {o : Out} {i j : Int} {t : Bool} {G G' H H' : Hp} {σ σ' : L2.St}
/-! ### -x of an own class -/
def rOwn1 (C : Addr) (sp : Sp) (E : XK) : V → Hp → VK → Prop := fun x H Q => (∃ p dx gs, x = .ref p ∧ H p = some (.ins C dx gs)) ∧ sp [x] H Q E
theorem un_own {CX : CXT} {f C : Addr} {fd : FuncData} {ps : List Str} {E : XK} {sp : Sp} (F : FnOk X.prog X.w X.K X.mg X.base CX k f fd ps sp) (hr : Room k X.A) (M : OwnOp X.K C "__neg__" f) (hb : Binds X.K fd ps []) (hx : Passes CX X E) :
    UnR X (unaryOp .USub) (rOwn1 C sp E) := by
  intro pins s σ H x v Q I rx h
  obtain ⟨⟨p, dx, gs, rfl, hp⟩, hsp⟩ := h
  cases rx
  obtain ⟨mA, J, _⟩ := ins_get I.hok hp
  obtain ⟨od, J, _⟩ := J.look
  have ht : PySem.W.typeIn X.K (.ref f) = some (.type "function") := by
    have := M.fn
    simpa [PySem.W.isFn] using this
  unfold unaryOp
  refine wpAny_holding ?_
  show wpAny (model X.prog X.w) X.A (callSpecial? (.ref p) (Str.ofString "__neg__") >>= _) (EP X pins σ Q) X.xe s
  refine wpAny_bind (PySem.W.special_fn (args := []) I.kIn J M.at_ ht ?_)
  exact thn (run_fn (dvs := []) (vs := [.ref p]) (us := [.ref p]) F hr hb .nil hx I (.cons rfl .nil) hsp) fun u s' z => wpAny_pure z
theorem xd_negF {R : List Dt → Dt → Prop} {x : Str} {C : Addr} {ns : List Str} (ha : XD c X a st (.obj n fs) st1) (Q : CF X.K c.T X.mg x n C ns) (F : MF X.prog X.w X.K c.T X.mg X.base C "__neg__" k R) (hK : X.K = c.K) (hr : Room k X.A)
    (hR : R [.obj n fs] d) : XD c X (.UnaryOp .USub a pos) st d st1 := by
  obtain ⟨f, fd, ps, F, hf, hb⟩ := F.ex
  rw [hK] at F
  refine xd_un ha (un_own (E := fun _ _ _ => False) (sp := spD c.K c.T R) (by rw [hK]; exact F) hr ⟨hf.at_, hf.fn⟩ hb pass0) fun G H x Q' ex r1 kk => ?_
  obtain ⟨C1, ns1, q, dx, ws, rfl, q1, q2, q3, q4⟩ := id r1.obj_inv
  rw [Q.at_] at q1
  cases q1
  exact ⟨⟨q, dx, _, rfl, ex _ _ q2⟩, G, [.obj n fs], d, ex, .cons r1 .nil, hR, fun v G' H' g e' r' => kk v G' H' (gw_of g e') r'⟩

/-! ### slices of lists -/
theorem sIx_hi {m : Nat} (h : 0 ≤ j) (l : Nat) : HT.sIx l m (some j) = min j.toNat l := by
  show (if j < 0 then _ else _) = _
  rw [if_neg (by omega)]
theorem xd_cutHi (ha : XD c X a st (.lst ds) st1) (hb : XD c X b st1 (.int j) st2) (hj : 0 ≤ j) (hK : X.K = c.K) {p2 : Pos} : XD c X (.Subscript a (.Slice none (some b) none p2) pos) st (.lst (ds.take j.toNat)) st2 :=
  ⟨pe_weak (pe_slice sl_list ha.pe po_none (po_some hb.pe)) fun σ H Q ⟨G, E, kk⟩ => ⟨G, E, fun x G1 H1 g1 E1 r1 => ⟨G1, E1, fun y G2 H2 g2 E2 r2 => by
    obtain ⟨a', vs, rfl, hl, r⟩ := r1.lst_inv
    cases r2
    refine ⟨j, rfl, a', vs, rfl, .inl (.inl (E2.ex _ _ (g2.ex _ _ hl))), fun p hp => ?_⟩
    have e : cutV vs none (some j) = vs.take j.toNat := by
      show List.take (HT.sIx vs.length vs.length (some j) - 0) (List.drop 0 vs) = _
      rw [sIx_hi hj, List.drop_zero, Nat.sub_zero]
      by_cases q : j.toNat ≤ vs.length
      · rw [Nat.min_eq_left q]
      · rw [Nat.min_eq_right (by omega), List.take_of_length_le (Nat.le_refl _), List.take_of_length_le (by omega)]
    rw [e]
    exact kk _ _ _ ((g1.trans g2).trans (Gw.new E2.ex hp).gr) (E2.g1 (Gw.new E2.ex hp)) (.lst upd_same ((Reps.take _ (r.ex g2.ex)).ex (Ex.new (E2.ex.none hp))))⟩⟩⟩
theorem xd_cutLo (ha : XD c X a st (.lst ds) st1) (hb : XD c X b st1 (.int j) st2) (hj : 0 ≤ j) (hK : X.K = c.K) {p2 : Pos} : XD c X (.Subscript a (.Slice (some b) none none p2) pos) st (.lst (ds.drop j.toNat)) st2 :=
  ⟨pe_weak (pe_slice sl_list ha.pe (po_some hb.pe) po_none) fun σ H Q ⟨G, E, kk⟩ => ⟨G, E, fun x G1 H1 g1 E1 r1 => ⟨G1, E1, fun y G2 H2 g2 E2 r2 => by
    obtain ⟨a', vs, rfl, hl, r⟩ := r1.lst_inv
    cases r2
    refine ⟨j, rfl, a', vs, rfl, .inl (.inl (E2.ex _ _ (g2.ex _ _ hl))), fun p hp => ?_⟩
    have e : cutV vs (some j) none = vs.drop j.toNat := by
      show List.take (vs.length - HT.sIx vs.length 0 (some j)) (List.drop (HT.sIx vs.length 0 (some j)) vs) = _
      rw [sIx_hi hj, List.take_of_length_le (by rw [List.length_drop]; omega)]
      by_cases q : j.toNat ≤ vs.length
      · rw [Nat.min_eq_left q]
      · rw [Nat.min_eq_right (by omega), List.drop_eq_nil_of_le (Nat.le_refl _), List.drop_eq_nil_of_le (by omega)]
    rw [e]
    exact kk _ _ _ ((g1.trans g2).trans (Gw.new E2.ex hp).gr) (E2.g1 (Gw.new E2.ex hp)) (.lst upd_same ((Reps.drop _ (r.ex g2.ex)).ex (Ex.new (E2.ex.none hp))))⟩⟩⟩
/-- xs + ys, a value -/
theorem xd_cat (ha : XD c X a st (.lst ds) st1) (hb : XD c X b st1 (.lst xs) st2) (hz : ds.length + xs.length ≤ 100000) : XD c X (.BinOp a .Add b pos) st (.lst (ds ++ xs)) st2 := xd_bin ha hb op_cat (o_cat hz)

/-! ### the last item -/
theorem xd_ixLast (ha : XD c X a st d1 st1) (hd1 : d1 = .lst ds ∨ d1 = .tup ds) (hb : XD c X b st1 (.int (-1)) st2) (hd : ds[ds.length - 1]? = some d) (hK : X.K = c.K) (hs : PlainIx b := by exact fun _ _ => rfl) : XD c X (.Subscript a b pos) st d st2 := by
  have hl : 0 < ds.length := by
    cases ds with
    | nil => cases hd
    | cons _ _ => simp
  have at1 : ∀ {vs : List V} {v : V}, vs.length = ds.length → vs[ds.length - 1]? = some v → atI vs (-1) = some v := fun {vs v} e h => by
    unfold atI ixN
    rw [e]
    rw [if_neg (by omega), if_pos (by omega)]
    show vs[((-1 : Int) + (ds.length : Int)).toNat]? = some v
    rw [show ((-1 : Int) + (ds.length : Int)).toNat = ds.length - 1 from by omega]; exact h
  rcases hd1 with rfl | rfl
  · refine xd_ix (r := rIxL X.K) ha hb ix_list (fun G H x y Q ex r1 r2 kk => ?_) hs
    obtain ⟨a', vs, rfl, hl', r⟩ := r1.lst_inv
    cases r2
    obtain ⟨v, h1, h2⟩ := r.get hd
    exact ⟨a', vs, _, v, rfl, rfl, .inl (.inl (ex _ _ hl')), at1 r.length.symm h1, kv_same kk ex h2⟩
  · refine xd_ix (r := rIxT X.K) ha hb ix_tup (fun G H x y Q ex r1 r2 kk => ?_) hs
    obtain ⟨a', vs, rfl, hl', r⟩ := r1.tup_inv
    cases r2
    obtain ⟨v, h1, h2⟩ := r.get hd
    exact ⟨a', vs, _, v, rfl, rfl, by rw [hK]; exact ex.st hl', at1 r.length.symm h1, kv_same kk ex h2⟩

/-! ### enumerate -/
def enumD (ds : List Dt) : List Dt := ds.mapIdx fun i d => .tup [.int i, d]
theorem yld_enum {a : Addr} {vs : List V} {G0 : Hp} {K : PySem.W.Frag} (hK : c.K = K) (h : SqL K G0 a vs) (r : Reps c.K c.T G0 ds vs) : Yld c (Ite K a) G0 (enumD ds) where
  go := fun i G H e1 e2 hi => by
    unfold enumD at hi
    rw [List.length_mapIdx] at hi
    exact ⟨vs, vs[i]'(by rw [← r.length]; exact hi), (e1.trans e2).sl h, List.getElem?_eq_getElem _⟩
  stop := fun i G H e1 e2 hi => by
    unfold enumD at hi
    rw [List.length_mapIdx] at hi
    exact ⟨vs, (e1.trans e2).sl h, by rw [← r.length]; exact hi⟩
  yl := fun i G H x H' e1 e2 hi y => by
    obtain ⟨T, v, rfl, hT, rfl, hv⟩ := y
    obtain ⟨d, h1, h2⟩ := r.getV (hv vs ((e1.trans e2).sl h))
    refine ⟨_, .tup [.int i, d], Gw.new e2 hT, ?_, .tup (SqT.of upd_same) (.cons .int (.cons ((h2.ex e1).ex (Ex.new (e2.none hT))) .nil))⟩
    unfold enumD
    rw [List.getElem?_mapIdx, h1]; rfl
theorem xi_enum {p pos tpos : Pos} {elts : List Expr} {kk : Nat} (h : XD c X e st (.lst ds) st1) (hK : X.K = c.K) (hm : X.mg "enumerate" = none) (hg : Gl X "enumerate" := by rfl) (hs : starEach [e] X.env = [(false, eval e X.env)] := by rfl) (he : starEach (e :: []) X.env = (false, eval e X.env) :: starEach [] X.env := by rfl) :
    XI c X (.Tuple elts kk tpos) (.Call (.Name "enumerate" p) [e] [] pos) st (enumD ds) st1 :=
  ⟨pi_weak (pi_enum hg hm (pa_cons h.pe pa_nil he) hs) fun σ H R ⟨G, E, k⟩ => ⟨G, E, fun v G1 H1 g1 E1 r1 => by
    obtain ⟨a, vs, rfl, hl, r⟩ := r1.lst_inv
    exact ⟨a, vs, rfl, .inl (.inl (E1.ex _ _ hl)), k _ G1 H1 g1 E1 (yld_enum hK.symm (.inl (.inl hl)) r)⟩⟩⟩

/-! ### [*xs, e] -/
theorem xa_star {p1 : Pos} (h : XD c X e st d st1) (hd : d = .lst ds ∨ d = .tup ds) (h2 : XA c X es st1 xs st2) (hK : X.K = c.K) (hs : starEach (.Starred e p1 :: es) X.env = (true, eval e X.env) :: starEach es X.env := by rfl) : XA c X (.Starred e p1 :: es) st (ds ++ xs) st2 :=
  ⟨pa_weak (StX.pa_star h.pe h2.pa hs) fun σ H Q ⟨G, E, k⟩ => ⟨G, E, fun v G1 H1 g1 E1 r1 => by
    rcases hd with rfl | rfl
    · obtain ⟨a, vs, rfl, hl, r⟩ := r1.lst_inv
      exact ⟨a, vs, rfl, .inr (.inl (.inl (E1.ex _ _ hl))), G1, E1, fun ws G2 H2 g2 E2 r2 => k _ G2 H2 (g1.trans g2) E2 ((r.ex g2.ex).app r2)⟩
    · obtain ⟨a, vs, rfl, hl, r⟩ := r1.tup_inv
      exact ⟨a, vs, rfl, .inl (by rw [hK]; exact E1.ex.st hl), G1, E1, fun ws G2 H2 g2 E2 r2 => k _ G2 H2 (g1.trans g2) E2 ((r.ex g2.ex).app r2)⟩⟩⟩
/-! ### a whole number (not) in a list or tuple of whole numbers -/
theorem ints_inv {K : PySem.W.Frag} {T : Ct} : ∀ {ns : List Int} {vs : List V}, Reps K T G (ns.map .int) vs → vs = ns.map V.int
  | [], _, h => by cases h; rfl
  | n :: ns, _, h => by
    cases h with
    | cons r rs => cases r; rw [ints_inv rs]; rfl
theorem inV_ints (i : Int) : ∀ ns : List Int, inV (.int i) (ns.map V.int) = decide (i ∈ ns)
  | [] => rfl
  | n :: ns => by
    show (eqV (.int n) (.int i) || inV (.int i) (ns.map V.int)) = _
    rw [inV_ints i ns]
    show ((n == i) || decide (i ∈ ns)) = _
    by_cases h : n = i
    · subst h; simp
    · have h' : ¬ i = n := fun z => h z.symm
      rw [beq_false_of_ne h]; simp [h']
theorem xt_notinI {ns : List Int} (ha : XD c X a st (.int i) st1) (hb : XD c X b st1 d st2) (hd : d = .lst (ns.map .int) ∨ d = .tup (ns.map .int)) (ht : (!decide (i ∈ ns)) = t) (hK : X.K = c.K) (hm : behindInMarks .NotIn b = false := by rfl) : XT c X (.Compare a [.NotIn] [b] pos) st t st2 := by
  refine xt_cmp (r := rIn X.K true) ha hb op_notIn_seq (fun G H x y Q ex r1 r2 kk => ?_) hm
  cases r1
  have fl : (ns.map V.int).all flatV = true := by rw [List.all_map]; exact List.all_eq_true.mpr fun _ _ => rfl
  have main : Q (.bl (!inV (.int i) (ns.map V.int))) H := by
    rw [inV_ints, ht]; exact kv_same kk ex .bl
  rcases hd with rfl | rfl
  · obtain ⟨a', vs, rfl, hl, r⟩ := r2.lst_inv
    rw [ints_inv r] at hl
    exact ⟨a', _, rfl, .inl (.inl (.inl (ex _ _ hl))), rfl, fl, main⟩
  · obtain ⟨a', vs, rfl, hl, r⟩ := r2.tup_inv
    rw [ints_inv r] at hl
    exact ⟨a', _, rfl, .inr (by rw [hK]; exact ex.st hl), rfl, fl, main⟩
/-! ### all([..]) of truth values -/
theorem bls_inv {K : PySem.W.Frag} {T : Ct} : ∀ {bs : List Bool} {vs : List V}, Reps K T G (bs.map .bl) vs → vs = bs.map V.bl
  | [], _, h => by cases h; rfl
  | n :: ns, _, h => by
    cases h with
    | cons r rs => cases r; rw [bls_inv rs]; rfl
theorem xd_all {bs : List Bool} {p : Pos} (h : XD c X e st (.lst (bs.map .bl)) st1) (ht : bs.all id = t) (hc : X.calm = true) (hm : X.mg "all" = none) (hg : Gl X "all" := by rfl) (he : starEach (e :: []) X.env = (false, eval e X.env) :: starEach [] X.env := by rfl) (hpl : (backTo pos (starEach [] X.env)).any (·.1) = false := by rfl) :
    XD c X (.Call (.Name "all" p) [e] [] pos) st (.bl t) st1 :=
  xd_callB (xa_cons h xa_nil he) (cr_all hc) (fun G H vs Q ex r kk => by
    cases r with
    | cons r0 r1 =>
      cases r1
      obtain ⟨a, ws, rfl, hl, r⟩ := r0.lst_inv
      rw [bls_inv r] at hl
      exact ⟨a, bs, rfl, .inl (.inl (ex _ _ hl)), by rw [ht]; exact kv_same kk ex .bl⟩) hm (by decide +kernel) hg (by decide) (by decide) he hpl
end
end Dv
set_option autoImplicit false
set_option maxRecDepth 100000
namespace Dv
open PySem PySem.Spec PyProof.Rows L2
section
variable {c : Ctx} {X : Cx} {st st1 st2 s : Store} {e : Expr} {d : Dt} {sts : List Stmt} {pos : Pos} {o : Out} {t : Bool} {G G' H H' : Hp} {σ σ' : L2.St}
/-- what is known of a name is dropped -/
theorem En.drop (E : En c.K c.T c.pa G H σ st) (k : Nat) : En c.K c.T c.pa G H σ (st.set k none) where
  ex := E.ex
  sl := fun i s h => by
    rcases set_cases h with ⟨_, q, _⟩ | ⟨_, h⟩
    · cases q
    · exact E.sl i s h
  ds := fun i j s t a h1 h2 => by
    rcases set_cases h1 with ⟨_, q, _⟩ | ⟨_, h1⟩
    · cases q
    · rcases set_cases h2 with ⟨_, q, _⟩ | ⟨_, h2⟩
      · cases q
      · exact E.ds i j s t a h1 h2
  len := by rw [List.length_set]; exact E.len
theorem own_drop {k : Nat} {p : Addr} (h : own σ (st.set k none) p) : own σ st p := by
  obtain ⟨i, s, h1, h2, h3⟩ := h
  rcases set_cases h1 with ⟨_, q, _⟩ | ⟨_, h1⟩
  · cases q
  · exact ⟨i, s, h1, h2, h3⟩
theorem XS.drop (k : Nat) (h : XS c X sts st (.nx s)) : XS c X sts st (.nx (s.set k none)) :=
  ⟨pss_weak h.pss fun D σ H ⟨G, E, kk⟩ => ⟨G, E, fun σ1 G1 H1 g1 E1 => kk σ1 G1 H1 (g1.weakO fun p h => own_drop h) (E1.drop k)⟩⟩
theorem XP.drop {s1 : Stmt} (k : Nat) (h : XP c X s1 st (.nx s)) : XP c X s1 st (.nx (s.set k none)) :=
  ⟨ps_weak h.ps fun D σ H ⟨G, E, kk⟩ => ⟨G, E, fun σ1 G1 H1 g1 E1 => kk σ1 G1 H1 (g1.weakO fun p h => own_drop h) (E1.drop k)⟩⟩
/-- e is None -/
theorem xt_isN {p2 : Pos} {j : Nat} (h : XD c X e st d st1) (ht : (match d with | .non => true | _ => false) = t) : XT c X (.Compare e [.Is] [.Constant .none j p2] pos) st t st1 := by
  refine xt_cmp h xd_non op_isN (fun G H x y Q ex r1 r2 kk => ?_) (nomark _)
  cases r2
  refine ⟨rfl, ?_⟩
  have e1 : decide (x = V.non) = t := by
    rw [← ht]
    cases r1 <;> simp
  rw [e1]
  exact kv_same kk ex .bl
/-- a == b where both are the same plain data -/
theorem xd_eqP {a b : Expr} {k m : Nat} {p : PyData} (ha : XD c X a st d st1) (hb : XD c X b st1 d st2) (h : Pl k d p) (hk : k ≤ 64) (hK : X.K = c.K) (hr : Room m X.A) : XD c X (.Compare a [.Eq] [b] pos) st (.bl true) st2 := by
  have q := o_eqD (c := c) h.py h.py (h.shaped hk) (h.shaped hk)
  rw [h.self, ← hK] at q
  exact xd_cmp ha hb (op_eqD (by have := hr.un; omega)) q (nomark _)
theorem XD.to {d' : Dt} (h : XD c X e st d st1) (q : d = d') : XD c X e st d' st1 := q ▸ h
end
end Dv
set_option autoImplicit false
set_option maxRecDepth 100000
namespace Dv
open PySem PySem.Spec PyProof.Rows L2
/-! ### a def that hands out a new list of the caller's own -/
def spL (K : PySem.W.Frag) (T : Ct) (R : List Dt → List Dt → Prop) : Sp := fun vs H Q _ => ∃ G ds xs, Ex G H ∧ Reps K T G ds vs ∧ R ds xs ∧
  ∀ p ws G' H', Gr G H G' H' (fun _ => False) (fun _ => False) → Ex G' H' → H p = none → G' p = none → H' p = some (.lst ws) → Reps K T G' xs ws → Q (.ref p) H'
section
variable {c : Ctx} {X : Cx} {st st1 st2 s : Store} {e : Expr} {es : List Expr} {d : Dt} {ds xs : List Dt} {sts rest : List Stmt} {s1 : Stmt} {pos : Pos} {o : Out} {t : Bool} {G G' H H' : Hp} {σ σ' : L2.St}
def tRL (c : Ctx) (st : Store) (xs : List Dt) : TS := fun D σ H => ∃ G, En c.K c.T c.pa G H σ st ∧
  ∀ p ws G' H', Gr G H G' H' (own σ st) (fun _ => False) → Ex G' H' → H p = none → G' p = none → H' p = some (.lst ws) → Reps c.K c.T G' xs ws → D.rt (.ref p) H'
/-- a block that ends by handing out a new list -/
structure XR (c : Ctx) (X : Cx) (sts : List Stmt) (st : Store) (xs : List Dt) : Prop where
  pss : PSs X sts (tRL c st xs)
theorem xr_ret (h : XL c X e st xs st1) : XR c X (.Return (some e) pos :: rest) st xs :=
  ⟨pss_weak (pss_cons (ps_ret h.pe) pss_never') fun D σ H ⟨G, E, kk⟩ => ⟨G, E, fun p vs G1 H1 g1 E1 no hp hn hl r => kk p vs G1 H1 (g1.weakO fun _ h => h.elim) E1.ex hp hn hl r⟩⟩
theorem xr_cons (h1 : XP c X s1 st (.nx st1)) (h2 : XR c X rest st1 xs) : XR c X (s1 :: rest) st xs :=
  ⟨pss_weak (pss_cons h1.ps h2.pss) fun D σ H ⟨G, E, kk⟩ => ⟨G, E, fun σ1 G1 H1 g1 E1 => ⟨G1, E1, fun p ws G2 H2 g2 ex hp hn hl r => kk p ws G2 H2 (g1.trans g2) ex (g1.none hp) hn hl r⟩⟩⟩
end
/-- A DEF that hands out a new list -/
theorem okL {P : Program} {w : World} {K : PySem.W.Frag} {T : Ct} {mg : Str → Option Value} {base : Heap} {x qual : Str} {sd : Stmt} {f : Addr} {fd : FuncData} {N ps : List Str} {k : Nat} {R : List Dt → List Dt → Prop} (F : Fun K x qual sd f fd) (S : FnScope N ps (defScope sd)) (hl : ∀ ds r, R ds r → ds.length = ps.length)
    (body : ∀ (cdv : Value) (A : Around) (outer : List Env) (s : Shared) (H : Hp) (E : XK) (pa : Nat → Addr) (ds xs : List Dt), Room k (A.deeper (envOfC qual (defScope sd) s.heap.objs.size f cdv)) → R ds xs →
      XR ⟨K, T, pa⟩ (bX P w K mg base N qual sd f cdv A outer s H E) (defBody sd) (st0 N ds) xs) : FnOk P w K mg base CX0 (k + 1) f fd ps (spL K T R) := by
  refine F.ok S (fun vs H Q E h => ?_) (fun cdv A outer s H vs Q E hr h => ?_)
  · obtain ⟨G, ds, r, e, rs, hR, _⟩ := h
    rw [← rs.length]; exact hl ds r hR
  · obtain ⟨G, ds, xs, e, rs, hR, kk⟩ := h
    exact ⟨_, (body cdv A outer s H E (fun _ => 0) ds xs hr hR).pss, G, En.start e rs, fun p ws G' H' g ex hp hn hl r => kk p ws G' H' (g.fromO fun p h => own_start h) ex hp hn hl r⟩
/-- the def x of the module hands out a new list -/
structure DL (P : Program) (w : World) (K : PySem.W.Frag) (T : Ct) (mg : Str → Option Value) (base : Heap) (x : Str) (k : Nat) (R : List Dt → List Dt → Prop) : Prop where
  ex : ∃ f fd ps, FnOk P w K mg base CX0 k f fd ps (spL K T R) ∧ mg x = some (.ref f) ∧ PySem.W.keepIn K (.ref f) = true ∧ Binds K fd ps []
section
variable {c : Ctx} {X : Cx} {st st1 st2 s : Store} {e : Expr} {es : List Expr} {d : Dt} {ds xs : List Dt} {pos : Pos}
theorem xl_dl {x : Str} {k : Nat} {R : List Dt → List Dt → Prop} {p : Pos} (F : DL X.prog X.w X.K c.T X.mg X.base x k R) (hK : X.K = c.K) (hr : Room k X.A) (h : XA c X (e :: es) st ds st1) (hR : R ds xs) (hg : Gl X x := by rfl) (hdb : (x == ("__debug__" : Str)) = false := by decide) (he : starEach (e :: es) X.env = (false, eval e X.env) :: starEach es X.env := by rfl) (hpl : (backTo pos (starEach es X.env)).any (·.1) = false := by rfl) :
    XL c X (.Call (.Name x p) (e :: es) [] pos) st xs st1 := by
  obtain ⟨f, fd, ps, F, hm, hk, hb⟩ := F.ex
  have F' : FnOk X.prog X.w X.K X.mg X.base CX0 k f fd ps (spL c.K c.T R) := by rw [hK] at F ⊢; exact F
  have q := pe_call (p := p) (E := fun _ _ _ => False) F' hr hg hm hk hb .nil pass0 h.pa hdb he hpl
  exact ⟨pe_weak q fun σ H Q ⟨G, E, kk⟩ => ⟨G, E, fun vs G1 H1 g1 E1 r1 => ⟨G1, ds, xs, E1.ex, by rw [List.append_nil]; exact r1, hR, fun p ws G2 H2 g2 e2 hp hn hl r =>
    kk p ws G2 H2 (g1.trans (gw_of g2 e2).gr) (E1.g1 (gw_of g2 e2)) (E1.notOwn hp) (g1.none hp) hn hl r⟩⟩⟩
/-! ### slices of the script -/
theorem xd_cutHiR {a b : Expr} {j : Int} (ha : XD c X a st (.ro ds) st1) (hb : XD c X b st1 (.int j) st2) (hj : 0 ≤ j) (hK : X.K = c.K) {p2 : Pos} : XD c X (.Subscript a (.Slice none (some b) none p2) pos) st (.lst (ds.take j.toNat)) st2 :=
  ⟨pe_weak (pe_slice sl_list ha.pe po_none (po_some hb.pe)) fun σ H Q ⟨G, E, kk⟩ => ⟨G, E, fun x G1 H1 g1 E1 r1 => ⟨G1, E1, fun y G2 H2 g2 E2 r2 => by
    obtain ⟨a', vs, rfl, hl, r⟩ := r1.ro_inv
    cases r2
    refine ⟨j, rfl, a', vs, rfl, by rw [hK]; exact E2.ex.sl (g2.ex.sl hl), fun p hp => ?_⟩
    have e : cutV vs none (some j) = vs.take j.toNat := by
      show List.take (HT.sIx vs.length vs.length (some j) - 0) (List.drop 0 vs) = _
      rw [sIx_hi hj, List.drop_zero, Nat.sub_zero]
      by_cases q : j.toNat ≤ vs.length
      · rw [Nat.min_eq_left q]
      · rw [Nat.min_eq_right (by omega), List.take_of_length_le (Nat.le_refl _), List.take_of_length_le (by omega)]
    rw [e]
    exact kk _ _ _ ((g1.trans g2).trans (Gw.new E2.ex hp).gr) (E2.g1 (Gw.new E2.ex hp)) (.lst upd_same ((Reps.take _ (r.ex g2.ex)).ex (Ex.new (E2.ex.none hp))))⟩⟩⟩
end
/-- the def x of the module changes the list that it gets first -/
structure DM (P : Program) (w : World) (K : PySem.W.Frag) (T : Ct) (mg : Str → Option Value) (base : Heap) (x : Str) (k : Nat) (R : List Dt → List Dt → Dt → List Dt → Prop) : Prop where
  ex : ∃ f fd ps, FnOk P w K mg base CX0 k f fd ps (spM K T R) ∧ mg x = some (.ref f) ∧ PySem.W.keepIn K (.ref f) = true ∧ Binds K fd ps []
theorem xd_dm (i : Nat) {c : Ctx} {X : Cx} {st st1 : Store} {es : List Expr} {d : Dt} {ds xs ys : List Dt} {pos : Pos} {s : Sv} {x y : Str} {k : Nat} {R : List Dt → List Dt → Dt → List Dt → Prop} {p py : Pos} (F : DM X.prog X.w X.K c.T X.mg X.base x k R) (hK : X.K = c.K) (hr : Room k X.A) (h : XA c X es st ds st1) (hi : st[i]? = some (some s)) (hi1 : st1[i]? = some (some s)) (hs : s.Has xs) (hR : R xs ds d ys) (hg : Gl X x := by rfl) (hdb : (x == ("__debug__" : Str)) = false := by decide)
    (hN : X.N[i]? = some y := by rfl) (hv : Vis X.env.scope y := by first | exact Or.inl rfl | exact Or.inr (Or.inl rfl) | exact Or.inr (Or.inr rfl)) (hd : (y == ("__debug__" : Str)) = false := by decide) (hcd : (y == ("__classdict__" : Str)) = false := by decide)
    (he : starEach (.Name y py :: es) X.env = (false, eval (.Name y py) X.env) :: starEach es X.env := by rfl) (hpl : (backTo pos (starEach es X.env)).any (·.1) = false := by rfl) :
    XD c X (.Call (.Name x p) (.Name y py :: es) [] pos) st d (st1.set i (some (s.with ys))) := by
  obtain ⟨f, fd, ps, F, hm, hk, hb⟩ := F.ex
  have F' : FnOk X.prog X.w X.K X.mg X.base CX0 k f fd ps (spM c.K c.T R) := by rw [hK] at F ⊢; exact F
  exact xd_callM i (E := fun _ _ _ => False) F' hr hm hk hb pass0 h hi hi1 hs hR hg hdb hN hv hd hcd he hpl
end Dv
set_option autoImplicit false
set_option maxRecDepth 100000
namespace Dv
open PySem PySem.Spec PyProof.Rows L2
/-! ### texts by their signs -/
def sx (l : List Nat) : Str := ⟨l.toArray⟩
theorem sx_len (l : List Nat) : (sx l).length = l.length := by show l.toArray.size = _; simp
theorem sx_app (a b : List Nat) : sx a ++ sx b = sx (a ++ b) := by
  show (⟨a.toArray ++ b.toArray⟩ : Str) = ⟨(a ++ b).toArray⟩
  simp
theorem sx_inj {a b : List Nat} (h : sx a = sx b) : a = b := by
  have := congrArg (fun z : Str => z.cps.toList) h
  simpa [sx] using this
section
variable {c : Ctx} {X : Cx} {st st1 st2 : Store} {a b e tg : Expr} {pos : Pos} {l m : List Nat} {i j : Int} {t : Bool}
theorem xd_addX (ha : XD c X a st (.str (sx l)) st1) (hb : XD c X b st1 (.str (sx m)) st2) (hz : l.length + m.length ≤ 100000) : XD c X (.BinOp a .Add b pos) st (.str (sx (l ++ m))) st2 := by
  have q := xd_bin (pos := pos) ha hb op_add_str (o_str (by rw [sx_len, sx_len]; exact hz))
  rw [sx_app] at q
  exact q
theorem xd_ixX {k q : Nat} (ha : XD c X a st (.str (sx l)) st1) (hb : XD c X b st1 (.int i) st2) (hl : l.length ≤ 100000) (hn : i = k) (hd : l[k]? = some q) (hs : PlainIx b := by exact fun _ _ => rfl) : XD c X (.Subscript a b pos) st (.str (sx [q])) st2 :=
  xd_ixS ha hb (by rw [sx_len]; exact hl) hn (by show l.toArray.toList[k]? = _; exact hd) hs
theorem xd_lenX {p : Pos} (h : XD c X e st (.str (sx l)) st1) (hz : l.length ≤ 100000) (hm : X.mg "len" = none) (hg : Gl X "len" := by rfl) (he : starEach (e :: []) X.env = (false, eval e X.env) :: starEach [] X.env := by rfl) (hpl : (backTo pos (starEach [] X.env)).any (·.1) = false := by rfl) :
    XD c X (.Call (.Name "len" p) [e] [] pos) st (.int (l.length : Int)) st1 := by
  have q := xd_lenS (p := p) h (by rw [sx_len]; exact hz) hm hg he hpl
  rw [sx_len] at q
  exact q
theorem xd_cutHiX (ha : XD c X a st (.str (sx l)) st1) (hb : XD c X b st1 (.int j) st2) (hj : 0 ≤ j) (hz : l.length ≤ 100000) {p2 : Pos} : XD c X (.Subscript a (.Slice none (some b) none p2) pos) st (.str (sx (l.take j.toNat))) st2 :=
  ⟨pe_weak (pe_slice sl_str ha.pe po_none (po_some hb.pe)) fun σ H Q ⟨G, E, kk⟩ => ⟨G, E, fun x G1 H1 g1 E1 r1 => ⟨G1, E1, fun y G2 H2 g2 E2 r2 => by
    cases r1
    cases r2
    refine ⟨j, rfl, sx l, rfl, by rw [sx_len]; exact Nat.le_trans hz (by decide), ?_⟩
    have e : cutS (sx l) none (some j) = sx (l.take j.toNat) := by
      show (⟨(List.take (HT.sIx (sx l).length (sx l).length (some j) - 0) (List.drop 0 l.toArray.toList)).toArray⟩ : Str) = ⟨(l.take j.toNat).toArray⟩
      rw [sIx_hi hj, sx_len, List.drop_zero, Nat.sub_zero]
      by_cases q : j.toNat ≤ l.length
      · rw [Nat.min_eq_left q]
      · rw [Nat.min_eq_right (by omega), List.take_of_length_le (Nat.le_refl _), List.take_of_length_le (by omega)]
    rw [e]
    exact kk _ _ _ (g1.trans g2) E2 .str⟩⟩⟩
theorem xd_cutLoX (ha : XD c X a st (.str (sx l)) st1) (hb : XD c X b st1 (.int j) st2) (hj : 0 ≤ j) (hz : l.length ≤ 100000) {p2 : Pos} : XD c X (.Subscript a (.Slice (some b) none none p2) pos) st (.str (sx (l.drop j.toNat))) st2 :=
  ⟨pe_weak (pe_slice sl_str ha.pe (po_some hb.pe) po_none) fun σ H Q ⟨G, E, kk⟩ => ⟨G, E, fun x G1 H1 g1 E1 r1 => ⟨G1, E1, fun y G2 H2 g2 E2 r2 => by
    cases r1
    cases r2
    refine ⟨j, rfl, sx l, rfl, by rw [sx_len]; exact Nat.le_trans hz (by decide), ?_⟩
    have e : cutS (sx l) (some j) none = sx (l.drop j.toNat) := by
      show (⟨(List.take ((sx l).length - HT.sIx (sx l).length 0 (some j)) (List.drop (HT.sIx (sx l).length 0 (some j)) l.toArray.toList)).toArray⟩ : Str) = ⟨(l.drop j.toNat).toArray⟩
      rw [sIx_hi hj, sx_len, List.take_of_length_le (by rw [List.length_drop]; show l.length - _ ≤ l.length - _; exact Nat.le_refl _)]
      by_cases q : j.toNat ≤ l.length
      · rw [Nat.min_eq_left q]
      · rw [Nat.min_eq_right (by omega), List.drop_eq_nil_of_le (Nat.le_refl _), List.drop_eq_nil_of_le (by omega)]
    rw [e]
    exact kk _ _ _ (g1.trans g2) E2 .str⟩⟩⟩
/-- for sign in text -/
theorem xi_strX (h : XD c X e st (.str (sx l)) st1) : XI c X tg e st (l.map fun q => .str (sx [q])) st1 := by
  have q := xi_str (tg := tg) h
  exact q
end
end Dv
set_option autoImplicit true
set_option maxRecDepth 100000
namespace Dv
open PySem PySem.Spec PyProof.Rows L2

/-! ### what is raised: the class, and what it says of itself -/
structure Xn where
  C : Addr
  at_ : Option (Str × Dt) := none
def ExR (K : PySem.W.Frag) (T : Ct) (G : Hp) (x : Xn) (cls : Value) (d : Option Addr) : Prop := cls = .ref x.C ∧ match x.at_ with
  | none => d = none
  | some (f, v) => ∃ dd vv, d = some dd ∧ G dd = some (.xd [(f, vv)]) ∧ Rep K T G v vv
theorem ExR.ex {K : PySem.W.Frag} {T : Ct} {G G' : Hp} {x : Xn} {cls : Value} {d : Option Addr} (e : Ex G G') (h : ExR K T G x cls d) : ExR K T G' x cls d := by
  obtain ⟨h1, h2⟩ := h
  refine ⟨h1, ?_⟩
  cases q : x.at_ with
  | none => rw [q] at h2; exact h2
  | some p =>
    obtain ⟨f, v⟩ := p
    rw [q] at h2
    obtain ⟨dd, vv, e1, e2, e3⟩ := h2
    exact ⟨dd, vv, e1, e _ _ e2, e3.ex e⟩

variable {c : Ctx} {X : Cx} {st st1 st2 st3 st' : Store} {a b e : Expr} {es : List Expr} {d d1 d2 d' : Dt} {ds xs ys : List Dt} {pos : Pos} {G G' H H' : Hp} {σ σ' : L2.St} {W : WX} {x : Xn} {s : Stmt} {rest : List Stmt} {o : Out}

/-- an expression that raises -/
def tX (c : Ctx) (W : WX) (st : Store) (x : Xn) (st' : Store) : L2.St → Hp → Prop := fun σ H => ∃ G, En c.K c.T c.pa G H σ st ∧
  ∀ G' H' cls d, Gr G H G' H' (own σ st) (own σ st') → En c.K c.T c.pa G' H' σ st' → ExR c.K c.T G' x cls d → W cls d σ H'
structure XX (c : Ctx) (X : Cx) (W : WX) (e : Expr) (st : Store) (x : Xn) (st' : Store) : Prop where
  pe : PE X e (fun σ H _ => tX c W st x st' σ H)
structure XAX (c : Ctx) (X : Cx) (W : WX) (es : List Expr) (st : Store) (x : Xn) (st' : Store) : Prop where
  pa : PA X es (fun σ H _ => tX c W st x st' σ H)
/-- a statement, a block that raises -/
def tXS (c : Ctx) (W : WX) (st : Store) (x : Xn) (st' : Store) : L2.St → Hp → Prop := fun σ H => ∃ G, En c.K c.T c.pa G H σ st ∧
  ∀ σ' G' H' cls d, Gr G H G' H' (own σ st) (own σ' st') → En c.K c.T c.pa G' H' σ' st' → ExR c.K c.T G' x cls d → W cls d σ' H'
structure XPX (c : Ctx) (X : Cx) (W : WX) (s : Stmt) (st : Store) (x : Xn) (st' : Store) : Prop where
  ps : PS X s (fun _ σ H => tXS c W st x st' σ H)
structure XSX (c : Ctx) (X : Cx) (W : WX) (s : List Stmt) (st : Store) (x : Xn) (st' : Store) : Prop where
  pss : PSs X s (fun _ σ H => tXS c W st x st' σ H)
theorem tXS.from (h : ∃ G, En c.K c.T c.pa G H σ st ∧ ∀ σ' G' H' cls d, Gr G H G' H' (own σ st) (own σ' st') → En c.K c.T c.pa G' H' σ' st' → ExR c.K c.T G' x cls d → W cls d σ' H') : tXS c W st x st' σ H := h

theorem xsx_cons (h1 : XP c X s st (.nx st1)) (h2 : XSX c X W rest st1 x st') : XSX c X W (s :: rest) st x st' :=
  ⟨pss_weak (pss_cons h1.ps h2.pss) fun D σ H ⟨G, E, k⟩ => ⟨G, E, fun σ1 G1 H1 g1 E1 => ⟨G1, E1, fun σ2 G2 H2 cls d g2 E2 r => k σ2 G2 H2 cls d (g1.trans g2) E2 r⟩⟩⟩
theorem xsx_here (h1 : XPX c X W s st x st') : XSX c X W (s :: rest) st x st' :=
  ⟨pss_weak (pss_cons h1.ps pss_never') fun D σ H ⟨G, E, k⟩ => ⟨G, E, k⟩⟩
theorem xpx_if {t : Expr} {tb : Bool} {A B : List Stmt} (h : XT c X t st tb st1) (h1 : tb = true → XSX c X W A st1 x st') (h2 : tb = false → XSX c X W B st1 x st') : XPX c X W (.If t A B pos) st x st' := by
  cases tb with
  | true => exact ⟨ps_weak (ps_if h.pt (h1 rfl).pss pss_never') fun D σ H ⟨G, E, k⟩ => ⟨G, E, fun G1 H1 g1 E1 => by refine L2.iteT ?_; exact ⟨G1, E1, fun σ2 G2 H2 cls d g2 E2 r => k σ2 G2 H2 cls d (g1.trans g2) E2 r⟩⟩⟩
  | false => exact ⟨ps_weak (ps_if h.pt pss_never' (h2 rfl).pss) fun D σ H ⟨G, E, k⟩ => ⟨G, E, fun G1 H1 g1 E1 => by refine L2.iteF ?_; exact ⟨G1, E1, fun σ2 G2 H2 cls d g2 E2 r => k σ2 G2 H2 cls d (g1.trans g2) E2 r⟩⟩⟩
theorem xpx_ret (h : XX c X W e st x st') : XPX c X W (.Return (some e) pos) st x st' :=
  ⟨ps_weak (ps_ret h.pe) fun D σ H ⟨G, E, k⟩ => ⟨G, E, fun G' H' cls d g E' r => k σ G' H' cls d g E' r⟩⟩
theorem xpx_expr (h : XX c X W e st x st') (hs : swapsWith e none pos.line X.env = pure false := by rfl) : XPX c X W (.Expr e pos) st x st' :=
  ⟨ps_weak (ps_expr h.pe hs) fun D σ H ⟨G, E, k⟩ => ⟨G, E, fun G' H' cls d g E' r => k σ G' H' cls d g E' r⟩⟩
theorem xpx_set (i : Nat) {y : Str} {pos' : Pos} (hN : X.N.Nodup) (he : XX c X W e st x st') (hi : X.N[i]? = some y := by rfl) (hx : Loc X.env.scope y := by first | exact Or.inl rfl | exact Or.inr rfl) (hs : swapsWith e (some (.Name y pos')) pos.line X.env = pure false := by rfl)
    (hf : X.fn y = true ∨ X.env.scope.names.lookup y = some .local := by first | exact .inl rfl | exact .inr rfl | assumption) : XPX c X W (.Assign [.Name y pos'] e pos) st x st' :=
  ⟨ps_weak (ps_set hN hi hx he.pe hs hf) fun D σ H ⟨G, E, k⟩ => ⟨G, E, fun G' H' cls d g E' r => k σ G' H' cls d g E' r⟩⟩

/-! ### raising itself: an own class without __init__ -/
structure Rz (K : PySem.W.Frag) (mg : Str → Option Value) (x : Str) (C : Addr) : Prop where
  nm : mg x = some (.ref C)
  ex : PySem.W.excIn K C [.type "ValueError", .type "Exception", .type "BaseException", .type "object"] "ValueError.__new__" = true
  kp : PySem.W.keepIn K (.ref C) = true
  sb : PySem.W.subIn K (.ref C) (.type "BaseException") = some true
  ty : PySem.W.typeIn K (.ref C) = some (.type "type")
theorem xpx_raise {y m : Str} {C : Addr} {j : Nat} {p p2 p3 : Pos} (R : Rz X.K X.mg y C) (hc : X.calm = true) (tk : Takes X W) (hg : Gl X y := by rfl) (hdb : (y == ("__debug__" : Str)) = false := by decide) :
    XPX c X W (.Raise (some (.Call (.Name y p) [.Constant (.str m) j p2] [] pos)) none p3) st ⟨C, none⟩ st :=
  ⟨ps_weak (ps_raise hc tk (pmk_own PySem.F.excBase_ValueError R.ex R.nm R.kp (raises_own R.sb R.ty) hg hdb)) fun D σ H ⟨G, E, k⟩ => k σ G H _ _ Gr.refl E ⟨rfl, rfl⟩⟩

/-! ### calls that raise -/
def spX (K : PySem.W.Frag) (T : Ct) (R : List Dt → Xn → Prop) : Sp := fun vs H _ E => ∃ G ds x, Ex G H ∧ Reps K T G ds vs ∧ R ds x ∧
  ∀ cls d G' H', Gr G H G' H' (fun _ => False) (fun _ => False) → Ex G' H' → ExR K T G' x cls d → E cls d H'
theorem okX' {P : Program} {w : World} {K : PySem.W.Frag} {T : Ct} {mg : Str → Option Value} {base : Heap} {y qual : Str} {sd : Stmt} {f : Addr} {fd : FuncData} {N ps : List Str} {k : Nat} {R : List Dt → Xn → Prop} (F : Fun K y qual sd f fd) (S : FnScope N ps (defScope sd)) (hl : ∀ ds x, R ds x → ds.length = ps.length)
    (body : ∀ (cdv : Value) (A : Around) (outer : List Env) (s : Shared) (H : Hp) (E : XK) (pa : Nat → Addr) (ds : List Dt) (x : Xn), Room k (A.deeper (envOfC qual (defScope sd) s.heap.objs.size f cdv)) → R ds x →
      ∃ st', XSX ⟨K, T, pa⟩ (cxOf (L2.CX P w) P w K mg base N qual (defScope sd) f cdv A outer s H E) (fun cls d _ H => E cls d H) (defBody sd) (st0 N ds) x st') : FnOk P w K mg base (L2.CX P w) (k + 1) f fd ps (spX K T R) := by
  refine F.okX S (fun vs H Q E h => ?_) (fun cdv A outer s H vs Q E hr h => ?_)
  · obtain ⟨G, ds, x, e, rs, hR, _⟩ := h
    rw [← rs.length]; exact hl ds x hR
  · obtain ⟨G, ds, x, e, rs, hR, kk⟩ := h
    obtain ⟨st', hb⟩ := body cdv A outer s H E (fun _ => 0) ds x hr hR
    refine ⟨_, hb.pss, G, En.start e rs, fun σ' G' H' cls d g E' r => ?_⟩
    exact kk cls d G' H' ((g.weakO (fun p h => h.elim)).fromO fun p h => own_start h) E'.ex r
theorem sp_x {K : PySem.W.Frag} {T : Ct} {pa : Nat → Addr} {R : List Dt → Xn → Prop} {vs : List V} {Q : VK} (E : En K T pa G H σ st) (r : Reps K T G ds vs) (hR : R ds x)
    (k : ∀ G' H' cls d, Gr G H G' H' (own σ st) (own σ st) → En K T pa G' H' σ st → ExR K T G' x cls d → W cls d σ H') : spX K T R vs H Q (WE W σ) :=
  ⟨G, ds, x, E.ex, r, hR, fun cls d G' H' g e' q => by
    have w := gw_of g e'
    exact k G' H' cls d w.gr (E.g1 w) q⟩
/-- a def by its name, one that raises -/
structure DX (P : Program) (w : World) (K : PySem.W.Frag) (T : Ct) (mg : Str → Option Value) (base : Heap) (x : Str) (k : Nat) (R : List Dt → Xn → Prop) : Prop where
  ex : ∃ f fd ps, FnOk P w K mg base (L2.CX P w) k f fd ps (spX K T R) ∧ mg x = some (.ref f) ∧ PySem.W.keepIn K (.ref f) = true ∧ Binds K fd ps []
structure MX (P : Program) (w : World) (K : PySem.W.Frag) (T : Ct) (mg : Str → Option Value) (base : Heap) (C : Addr) (m : Str) (k : Nat) (R : List Dt → Xn → Prop) : Prop where
  ex : ∃ f fd ps, FnOk P w K mg base (L2.CX P w) k f fd ps (spX K T R) ∧ Meth K C m f ∧ Binds K fd ps []
theorem xx_dx {y : Str} {k : Nat} {R : List Dt → Xn → Prop} {p : Pos} (F : DX X.prog X.w X.K c.T X.mg X.base y k R) (hK : X.K = c.K) (tk : Takes X W) (hr : Room k X.A) (h : XA c X (e :: es) st ds st1) (hR : R ds x) (hg : Gl X y := by rfl) (hdb : (y == ("__debug__" : Str)) = false := by decide) (he : starEach (e :: es) X.env = (false, eval e X.env) :: starEach es X.env := by rfl) (hpl : (backTo pos (starEach es X.env)).any (·.1) = false := by rfl) :
    XX c X W (.Call (.Name y p) (e :: es) [] pos) st x st1 := by
  obtain ⟨f, fd, ps, F, hm, hk, hb⟩ := F.ex
  rw [hK] at F
  exact ⟨pe_weak (pe_callS (by rw [hK]; exact F) hr hg hm hk hb (fun σ => passAt tk σ) h.pa hdb he hpl) fun σ H Q ⟨G, E, k⟩ => ⟨G, E, fun vs G1 H1 g1 E1 r1 =>
    sp_x E1 r1 hR fun G' H' cls d g E' q => k G' H' cls d (g1.trans g) E' q⟩⟩
/-- a + b by the class's own method, one that raises -/
theorem xx_bin {n k : Nat} {fs gs : List Dt} {op : Operator} {R : List Dt → Xn → Prop} {y : Str} {C : Addr} {ns : List Str} (ha : XD c X a st (.obj n fs) st1) (hb1 : XD c X b st1 (.obj n gs) st2) (Q : CF X.K c.T X.mg y n C ns) (hc : PySem.W.selfFirst X.K C = true)
    (F : MX X.prog X.w X.K c.T X.mg X.base C (PySem.dunder op.info.2) k R) (hK : X.K = c.K) (tk : Takes X W) (hr : Room k X.A) (hR : R [.obj n fs, .obj n gs] x) :
    XX c X W (.BinOp a op b pos) st x st2 := by
  obtain ⟨f, fd, ps, F, M, hb⟩ := F.ex
  rw [hK] at F
  refine ⟨⟨fun pins s σ H Q' I h => ?_⟩⟩
  obtain ⟨G, E, kk⟩ := h
  refine wpAny_BinOp (binT ha.pe hb1.pe (R := fun u v H2 => ∃ G2, Gr G H G2 H2 (own σ st) (own σ st2) ∧ En c.K c.T c.pa G2 H2 σ st2 ∧ Rep c.K c.T G2 (.obj n fs) u ∧ Rep c.K c.T G2 (.obj n gs) v) I
    ⟨G, E, fun u G1 H1 g1 E1 r1 => ⟨G1, E1, fun v G2 H2 g2 E2 r2 => ⟨G2, g1.trans g2, E2, r1.ex g2.ex, r2⟩⟩⟩ fun v u s2 vx vy H2 I2 rx ry ⟨G2, g2, E2, r1, r2⟩ => ?_)
  have rs : Reps c.K c.T G2 [.obj n fs, .obj n gs] [vx, vy] := .cons r1 (.cons r2 .nil)
  obtain ⟨C1, ns1, p, dx, vs1, rfl, t1, hp, _, _⟩ := r1.obj_inv
  obtain ⟨C2, ns2, q, dy, vs2, rfl, t2, hq, _, _⟩ := r2.obj_inv
  have eT := Q.at_
  rw [t1] at eT
  cases eT
  rw [t1] at t2
  cases t2
  cases rx
  cases ry
  obtain ⟨mA, J, _⟩ := ins_get I2.hok (E2.ex _ _ hp)
  obtain ⟨mB, J', _⟩ := ins_get I2.hok (E2.ex _ _ hq)
  obtain ⟨od, J, _⟩ := J.look
  obtain ⟨od', J', _⟩ := J'.look
  obtain ⟨m, hF⟩ := I2.fr
  refine PySem.W.binop_K hF I2.ok.mod.kin J J'.type hc M.at_ M.fn (thn (run_fnS (us := [.ref p, .ref q]) (vs := [.ref p, .ref q]) (E := WE W) (by rw [hK]; exact F) hr hb (passAt tk σ) I2 (.cons rfl (.cons rfl .nil)) ?_) fun u s' z => back_of z)
  exact sp_x E2 rs hR fun G' H' cls d g E' z => kk G' H' cls d (g2.trans g) E' z
/-- o.m(e), one that raises -/
theorem xx_mx {n k : Nat} {fs : List Dt} {m : Str} {apos : Pos} {pl : Sem Bool} {R : List Dt → Xn → Prop} {y : Str} {C : Addr} {ns : List Str} (ho : XD c X b st (.obj n fs) st1) (Q : CF X.K c.T X.mg y n C ns) (F : MX X.prog X.w X.K c.T X.mg X.base C m k R) (hK : X.K = c.K) (tk : Takes X W) (hr : Room k X.A)
    (h : XA c X (e :: es) st1 ds st2) (hR : R (.obj n fs :: ds) x) (hno : ns.contains m = false := by decide +kernel) (hst : starEach (e :: es) X.env = (false, eval e X.env) :: starEach es X.env := by rfl) (hpl : (backTo pos (starEach es X.env)).any (·.1) = false := by rfl)
    (ht : eval (.Call (.Attribute b m apos) (e :: es) [] pos) X.env = (do
      let ov ← eval b X.env
      standAt apos.atName
      let (f, first) ← holding [ov] (getMethod ov m pl)
      callWith pos f first (backTo pos (starEach (e :: es) X.env)) (backToKw pos (keywordEach [] X.env))) := by rfl) :
    XX c X W (.Call (.Attribute b m apos) (e :: es) [] pos) st x st2 := by
  obtain ⟨f, fd, ps, F, M, hb⟩ := F.ex
  rw [hK] at F
  refine ⟨⟨fun pins s σ H Q' I h' => ?_⟩⟩
  obtain ⟨G, E, kk⟩ := h'
  refine PySem.W.methodCall_KW (pl := pl) (thn (ho.pe.run pins s σ H (fun u H1 => ∃ G1, Gr G H G1 H1 (own σ st) (own σ st1) ∧ En c.K c.T c.pa G1 H1 σ st1 ∧ Rep c.K c.T G1 (.obj n fs) u) I ⟨G, E, fun u G1 H1 g1 E1 r1 => ⟨G1, g1, E1, r1⟩⟩) fun u s1 ⟨xv, H1, I1, rx, G1, g1, E1, r1⟩ => ?_) ht
  obtain ⟨C1, ns1, p, dx, vs1, rfl, t1, hp, _, _⟩ := id r1.obj_inv
  have eT := Q.at_
  rw [t1] at eT
  cases eT
  obtain rfl : u = Value.ref p := rx
  refine getmeth_ok I1 (E1.ex _ _ hp) Q.cl M (lookup_notin hno) ?_
  refine PySem.W.callWith_K (first := [.ref p]) (h₀ := X.base) I.ok.mod.kin M.kp (thn (h.pa.run pos pins s1 σ H1 (fun vs H2 => ∃ G2, Gr G H G2 H2 (own σ st) (own σ st2) ∧ En c.K c.T c.pa G2 H2 σ st2 ∧ Reps c.K c.T G2 (.obj n fs :: ds) (.ref p :: vs)) I1 ⟨G1, E1, fun vs G2 H2 g2 E2 r2 => ⟨G2, g1.trans g2, E2, .cons (r1.ex g2.ex) r2⟩⟩) fun us s2 ⟨vs, H2, I2, r, G2, g2, E2, rs⟩ => ⟨I2.kIn, ?_⟩) hst hpl
  refine run_fnS (us := .ref p :: us) (vs := .ref p :: vs) (E := WE W) (by rw [hK]; exact F) hr hb (passAt tk σ) I2 (.cons rfl r) ?_
  exact sp_x E2 rs hR fun G' H' cls d g E' z => kk G' H' cls d (g2.trans g) E' z

/-! ### try: its body raises, the clause takes it -/
theorem xp_try {y : Str} {x : Xn} {cv : Value} {body suite : List Stmt} {b0 : Stmt} {np p1 : Pos} (hs : X.stack = X.env :: X.outer) (hf : X.env.frame = some X.env.locals) (hc : Names X y cv) (hK : X.K = c.K) (hm : PySem.W.exmOne X.K (.ref x.C) cv = some true)
    (hb : ∀ (W : WX) (pn : List (Addr × Obj)) (xe : Value → Shared → Prop), Takes (X.tr pn xe) W → PassesOwn (model X.prog X.w) X.A X.env xe → XSX c (X.tr pn xe) W body st x st1)
    (hsu : ∀ (a : Addr) (pn : List (Addr × Obj)), XS c (X.suite a pn) (b0 :: suite) st1 o) :
    XP c X (.Try body [.ExceptHandler (some (.Name y np)) none (b0 :: suite) p1] [] [] pos) st o :=
  ⟨ps_weak (ps_try_only (Wout := fun _ _ _ _ => False) (tb := fun W _ σ H => tXS c W st x st1 σ H) (ts := fun _ _ _ => tO c st1 o) hs hf hc takes0 (fun W pn xe tk pw => (hb W pn xe tk pw).pss) (fun a oe cls d pn _ _ => (hsu a ((a, oe) :: pn)).pss)) fun D σ H ⟨G, E, k⟩ =>
    ⟨G, E, fun σ' G' H' cls d g E' r => by
      obtain ⟨rfl, _⟩ := r
      exact ⟨true, hm, fun _ a ha => ⟨G', E', k.from g⟩, fun z => nomatch z⟩⟩⟩
/-- nothing is raised -/
theorem xp_tryN {body : List Stmt} {h0 : ExceptHandler} {hs : List ExceptHandler} (h : XS c X.nox body st o) : XP c X (.Try body (h0 :: hs) [] [] pos) st o := ⟨ps_try_thru0 h.pss⟩
end Dv
set_option autoImplicit true
set_option maxRecDepth 100000
/-! len(set(text)): a text of unlike ascii signs -/
namespace DvS
open PySem PySem.Spec PyProof.Rows PySem.Froz SS
theorem sub_str_set : isSubtype (.type "str") (.type "set") = pure false := by rw [isSubtype_type]; kernel_rfl
theorem sub_str_frozenset : isSubtype (.type "str") (.type "frozenset") = pure false := by rw [isSubtype_type]; kernel_rfl
section
variable {prog : Program} {w : World} {A : Around} {E : Value → Shared → Prop} {s : Shared}
theorem runD_ok {P : Program} : ∀ (cs : List Nat) (tk : Tok) (D : SD) (l : List Str), TxOk P w D l → TxOk P w (runD w cs tk D) ((cs.map sing).reverse ++ l)
  | [], _, _, _, h => h
  | c :: r, tk, D, l, h => by
    have := runD_ok (P := P) r (tk + 2) _ _ (add_ok (k := sing c) tk h)
    rw [List.map_cons, List.reverse_cons, List.append_assoc]
    exact this
set_option maxHeartbeats 3200000 in
theorem call_set_str {x : Str} {u : Tok} {Q : Value → Shared → Prop}
    (hh : A.handled = none) (ha : x.cps.all (· < 128) = true) (hd : x.cps.toList.Nodup) (hz : x.cps.toList.length < 1000)
    (h : ∀ (h' : Heap) (tk : Nat) (D : SD), h'.get? s.heap.objs.size = some (sObj "set" D) → D.2.2.fits D.1.size = true → D.1.size = x.cps.toList.length →
      (∀ b o, b < s.heap.objs.size → s.heap.get? b = some o → h'.get? b = some o) → Q (.ref s.heap.objs.size) { s with heap := h', toks := tk }) :
    wpAny (model prog w) A (call (.type "set") [.str x u]) Q E s := by
  obtain ⟨c, tl, hmro⟩ := PySem.F.called_set.mro
  have hmade := PySem.F.called_set.made
  have hsub := PySem.F.called_set.sub
  refine wpAny_call (codeAny_of_tree ?_)
  show wpAny _ _ (callAny (.type "set") _) _ _ _
  refine wpAny_pure ⟨Code.quiet_builtin _ (by decide +kernel), codeAny_builtin PySem.F.entry_type_call ?_⟩
  rw [Around.under_plain (weight_type_call_type "set" [.str x u] []) rfl]
  have h1 := PySem.F.called_set.notType
  have h2 := PySem.F.called_set.canCreate
  have hct := PySem.F.typeCall_set_1 (.str x u)
  repeat (any_goals (first | assumption | wp_step))

  refine codeAny_mono (code_set_new_1 (.str x u) (E := E) (Q₁ := fun obj s₁ => ∃ led : Bool, obj = .ref s.heap.objs.size ∧ s₁ = { s with heap := s.heap.push { cls := .type "set", dict := none, data := .set #[] 0 (.fresh 0 0 led) } }) fun led => ⟨led, rfl, rfl⟩) fun r s₁ hr => ?_
  cases r with
  | error e => exact hr
  | ok fl =>
    cases fl with
    | ret obj =>
      obtain ⟨led, rfl, rfl⟩ := hr
      have hS : (s.heap.push { cls := .type "set", dict := none, data := .set #[] 0 (.fresh 0 0 led) }).get? s.heap.objs.size = some { cls := .type "set", dict := none, data := .set #[] 0 (.fresh 0 0 led) } := Heap.get?_push_size _ rfl
      have hT : Shared.TypeIs { s with heap := s.heap.push { cls := .type "set", dict := none, data := .set #[] 0 (.fresh 0 0 led) } } (.ref s.heap.objs.size) "set" := ⟨_, hS, rfl⟩
      have hli := PySem.F.called_set.init.lookup
      have hbi := PySem.F.called_set.init.bind (.ref s.heap.objs.size)
      repeat (any_goals (first | assumption | wp_step))

      refine codeAny_mono (codeAny_call_builtin (R := wants (fun r s₂ => r = .none ∧ ∃ h' tk D, s₂ = { s with heap := h', toks := tk } ∧
          h'.get? s.heap.objs.size = some (sObj "set" D) ∧ D.2.2.fits D.1.size = true ∧ D.1.size = x.cps.toList.length ∧
          (∀ b o, b < s.heap.objs.size → s.heap.get? b = some o → h'.get? b = some o)) E) PySem.F.called_set.init.plain PySem.F.entry_set_init (check_set_init_1 hT ?_)) fun r₂ s₂ hr₂ => ?_
      · have hsls := sub_str_set
        have hslf := sub_str_frozenset
        have hne : (Value.type "str" == Value.type "dict") = false := by decide
        unfold Builtin.«set.__init__» noKeywords Builtin.Frozenset.updateFrom
        generalize hPI : pyIter = PI
        wp_walk
        subst hPI
        refine wpAny_pyIter_ascii ha ?_
        refine wpAny_bind (wpAny_runValue ?_)
        have hne2 : s.heap.objs.size ≠ (s.heap.push { cls := .type "set", dict := none, data := .set #[] 0 (.fresh 0 0 led) }).objs.size := by rw [Heap.size_push]; omega
        have g1 : ((s.heap.push { cls := .type "set", dict := none, data := .set #[] 0 (.fresh 0 0 led) }).push (itObj x u 0)).get? s.heap.objs.size = some (sObj "set" (#[], 0, .fresh 0 0 led)) := Heap.get?_push_of_some _ hS
        have g2 : ((s.heap.push { cls := .type "set", dict := none, data := .set #[] 0 (.fresh 0 0 led) }).push (itObj x u 0)).get? (s.heap.push { cls := .type "set", dict := none, data := .set #[] 0 (.fresh 0 0 led) }).objs.size = some (itObj x u 0) := Heap.get?_push_size _ rfl
        have k0 : TxOk prog w (#[], 0, SetTable.fresh 0 0 led) [] := TxOk.nil (by cases led <;> rfl)
        refine code_update (a := s.heap.objs.size) (u := u) hne2 (by simp [hh]) x.cps.toList 0 (#[], 0, .fresh 0 0 led) [] _ rfl g1 g2 k0 (fun c _ => by simp) hd (by show 0 + x.cps.toList.length < scanBound; unfold scanBound; omega) ?_
        have kk := runD_ok (P := prog) x.cps.toList s.toks (#[], 0, SetTable.fresh 0 0 led) [] k0
        generalize hX : runD w x.cps.toList s.toks (#[], 0, SetTable.fresh 0 0 led) = X at kk
        show wpAny _ _ _ _ _ _
        refine wpAny_pure ?_
        show wpAny _ _ (ret Value.none) _ _ _
        refine wpAny_pure ⟨rfl, _, _, X, rfl, ?_, kk.fit, by rw [kk.sz]; simp, fun b o hb e => ?_⟩
        · refine Heap.get?_push_of_some _ (Heap.get?_push_of_some _ ?_)
          show (two _ _ _ _ _).get? _ = _
          unfold two
          refine PySem.Heap.get?_update_of_ne _ hne2.symm ?_
          have g3 := get_upd (sObj "set" X) g1 rfl
          rw [← hX] at g3 ⊢
          exact g3
        · refine Heap.get?_push_of_some _ (Heap.get?_push_of_some _ ?_)
          show (two _ _ _ _ _).get? _ = _
          unfold two
          have n1 : b ≠ s.heap.objs.size := Nat.ne_of_lt hb
          have n2 : b ≠ (s.heap.push { cls := .type "set", dict := none, data := .set #[] 0 (.fresh 0 0 led) }).objs.size := by rw [Heap.size_push]; omega
          refine PySem.Heap.get?_update_of_ne _ (Ne.symm n2) (PySem.Heap.get?_update_of_ne _ (Ne.symm n1) ?_)
          exact Heap.get?_push_of_some _ (Heap.get?_push_of_some _ e)
      · cases r₂ with
        | error e => exact hr₂
        | ok fl₂ =>
          cases fl₂ with
          | ret r =>
            obtain ⟨rfl, h', tk, D, rfl, q1, q2, q3, hk'⟩ := hr₂
            repeat (any_goals (first | assumption | wp_step))
            exact h _ _ _ q1 q2 q3 hk'
          | _ => exact hr₂.elim
    | _ => exact hr.elim
end
end DvS
namespace Dv
open PySem PySem.Spec PyProof.Rows L2
variable {c : Ctx} {X : Cx} {st st1 st2 st3 st' : Store} {a b e : Expr} {es : List Expr} {d d1 d2 d' : Dt} {ds xs ys : List Dt} {pos : Pos}
def tLenSetX (ta : TE) : TE := fun σ H Q => ta σ H fun x H1 => ∃ z : Str, x = .str z ∧ z.cps.all (· < 128) = true ∧ z.cps.toList.Nodup ∧ z.cps.toList.length < 1000 ∧ Q (.int z.cps.toList.length) H1
theorem pe_lenSetX {a : Expr} {ta : TE} {p p2 q pos : Pos} (hc : X.calm = true) (hg : Gl X "len") (hm : X.mg "len" = none) (hg2 : Gl X "set") (hm2 : X.mg "set" = none) (ha : PE X a ta)
    (na : starEach [a] X.env = (false, eval a X.env) :: starEach [] X.env := by rfl) : PE X (.Call (.Name "len" p) [.Call (.Name "set" p2) [a] [] q] [] pos) (tLenSetX ta) := by
  refine ⟨fun pins s σ H Q I h => ?_⟩
  refine Call_ (ld_blt I hg hm boot_len ?_)
  refine PyProof.Rows.callWith_builtin1 (PyProof.Rows.args_cons ?_ rfl) rfl rfl
  refine Call_ (ld_blt I hg2 hm2 boot_set ?_)
  refine PyProof.Rows.callWith_type1 (PyProof.Rows.args_cons (thn (ha.run pins s σ H _ I h) fun v s1 ⟨x, H1, I1, r1, q1⟩ => PyProof.Rows.args_nil ?_) na) na rfl
  obtain ⟨z, rfl, h1, h2, h3, q1⟩ := q1
  obtain ⟨u, rfl⟩ := r1
  refine DvS.call_set_str (I1.ok.hd hc) h1 h2 h3 fun h' tk D g1 g2 g3 hk => ?_
  refine PyProof.Rows.args_nil ?_
  have I2 : L2.Inv X pins σ H1 { s1 with heap := h', toks := tk } := I1.kept fun b o e => hk b o (Heap.lt_size e) e
  refine call_len_set g1 ⟨rfl, rfl, rfl⟩ rfl g2 (by rw [g3]; omega) ⟨.int z.cps.toList.length, H1, I2.tok _, ⟨_, by rw [g3]⟩, q1⟩
theorem xd_lenSet {l : List Nat} {p p2 q : Pos} (h : XD c X a st (.str (sx l)) st1) (hd : l.Nodup) (hz : l.length < 1000) (hl : ∀ x ∈ l, x < 128) (hc : X.calm = true) (hm : X.mg "len" = none) (hm2 : X.mg "set" = none) (hg : Gl X "len" := by rfl) (hg2 : Gl X "set" := by rfl)
    (na : starEach [a] X.env = (false, eval a X.env) :: starEach [] X.env := by rfl) : XD c X (.Call (.Name "len" p) [.Call (.Name "set" p2) [a] [] q] [] pos) st (.int (l.length : Int)) st1 :=
  ⟨pe_weak (pe_lenSetX hc hg hm hg2 hm2 h.pe na) fun σ H Q ⟨G, E, k⟩ => ⟨G, E, fun v G1 H1 g1 E1 r1 => by
    cases r1
    exact ⟨sx l, rfl, by simpa [sx] using hl, hd, hz, k _ G1 H1 g1 E1 .int⟩⟩⟩
end Dv
set_option autoImplicit true
set_option maxRecDepth 100000
set_option maxHeartbeats 4000000
/-! tuple * 0, tuple * 1 -/
namespace Dv
open PySem PySem.Spec PyProof.Rows L2
theorem tuple_mul0 (l : Addr) (items : Array Value) (n : Nat) (dd : Option Addr) (sl : Array (Option Value)) (u : Tok) (c1 : items.isEmpty = false) :
    Meets (Builtin.«tuple.__mul__» ⟨[.ref l, .int 0 u], []⟩) (fun _ R s => s.heap.get? l = some { cls := .type "tuple", dict := dd, data := .seq items n, slots := sl } ∧
      R (.ok (.ret (Value.ref s.heap.objs.size))) { s with heap := s.heap.push { cls := Value.type "tuple", data := Data.seq #[] } }) :=
  .of_wp fun prog w A R s h => by
    obtain ⟨hp, g, d, tk, os⟩ := s
    obtain ⟨hl, h⟩ := h
    have f1 := AutoSeq1.idx_int
    have e1 : (items.isEmpty || (0 : Int) == 1) = false := by rw [c1]; rfl
    wp_walk using wpAny_loadPart' hl
    repeat (first
      | (refine wpAny_ite_false (decide_eq_false (by rw [e1]; exact Bool.false_ne_true)) ?_; wp_walk using wpAny_loadPart' hl)
      | (refine wpAny_ite_true (decide_eq_true (by decide)) ?_; wp_walk using wpAny_loadPart' hl)
      | (refine wpAny_ite_false (decide_eq_false (by decide)) ?_; wp_walk using wpAny_loadPart' hl))
    exact ⟨_, rfl, h⟩
theorem tuple_mul1 (l : Addr) (items : Array Value) (n : Nat) (dd : Option Addr) (sl : Array (Option Value)) (u : Tok) :
    Meets (Builtin.«tuple.__mul__» ⟨[.ref l, .int 1 u], []⟩) (fun _ R s => s.heap.get? l = some { cls := .type "tuple", dict := dd, data := .seq items n, slots := sl } ∧
      R (.ok (.ret (Value.ref l))) s) :=
  .of_wp fun prog w A R s h => by
    obtain ⟨hp, g, d, tk, os⟩ := s
    obtain ⟨hl, h⟩ := h
    have f1 := AutoSeq1.idx_int
    have e1 : (items.isEmpty || (1 : Int) == 1) = true := by cases items.isEmpty <;> rfl
    wp_walk using wpAny_loadPart' hl
    exact ⟨_, rfl, h⟩
def rRepA (K : PySem.W.Frag) : R2 := fun x y H Q => ∃ l k xs, x = .ref l ∧ y = .int k ∧ SqT K H l xs ∧ xs ≠ [] ∧ 0 ≤ k ∧ k ≤ 1000 ∧ xs.length ≤ 1000 ∧ (k = 1 → Q (.ref l) H) ∧ (k ≠ 1 → ∀ p, H p = none → Q (.ref p) (upd H p (.tup (List.replicate k.toNat xs).flatten)))
variable {c : Ctx} {X : Cx} {st st1 st2 st3 st' : Store} {a b e : Expr} {es : List Expr} {d d1 d2 d' : Dt} {ds xs ys : List Dt} {pos : Pos}
theorem op_repA : OpR X (binaryOp .Mult) (rRepA X.K) := by
  intro pins s σ H x y v u Q I rx ry h
  obtain ⟨l, k, xs, rfl, rfl, hT, hne, h1, h2, hz, q1, q2⟩ := h
  by_cases hk : 2 ≤ k
  · exact op_repT pins s σ H _ _ v u Q I rx ry ⟨l, k, xs, rfl, rfl, hT, hne, hk, h2, hz, q2 (by omega)⟩
  cases rx
  obtain ⟨t, rfl⟩ := ry
  obtain ⟨its, r, ⟨⟨cls, dd, data, sl⟩, ho, hc, n, hd⟩, hs⟩ := I.tuple hT
  simp only at hc hd
  subst hc hd
  have hle : its.length = xs.length := r.length.symm
  have hn : its ≠ [] := fun e => hne (by
    rw [e] at hle
    exact List.eq_nil_of_length_eq_zero hle.symm)
  have hi : its.toArray.isEmpty = false := by
    cases its with
    | nil => exact absurd rfl hn
    | cons a b => rfl
  by_cases k1 : k = 1
  · subst k1
    refine wpAny_binaryOp_repeat_ref (T := "tuple") (U := "int") (by decide) ⟨_, ho, rfl⟩ (fun s' => typeIs_int s' 1 t) noFill_tuple_mul F.fills_int_mul F.slot_int_rmul repeat_tuple F.slot_int_index.lookup
      (call_meets F.slot_int_rmul (typeIs_int s 1 t) F.entry_int_rmul (F.args_int_rmul_2 _ _) (int_rmul_tuple 1 t l its.toArray n dd sl)
        ⟨ho, rfl, ⟨_, ho, rfl⟩, call_meets F.slot_tuple_mul ⟨_, ho, rfl⟩ F.entry_tuple_mul (F.args_tuple_mul_2 _ _) (tuple_mul1 l its.toArray n dd sl t) ⟨ho, ?_⟩⟩)
    exact ⟨.ref l, H, I, rfl, q1 rfl⟩
  · have k0 : k = 0 := by omega
    subst k0
    refine wpAny_binaryOp_repeat_ref (T := "tuple") (U := "int") (by decide) ⟨_, ho, rfl⟩ (fun s' => typeIs_int s' 0 t) noFill_tuple_mul F.fills_int_mul F.slot_int_rmul repeat_tuple F.slot_int_index.lookup
      (call_meets F.slot_int_rmul (typeIs_int s 0 t) F.entry_int_rmul (F.args_int_rmul_2 _ _) (int_rmul_tuple 0 t l its.toArray n dd sl)
        ⟨ho, rfl, ⟨_, ho, rfl⟩, call_meets F.slot_tuple_mul ⟨_, ho, rfl⟩ F.entry_tuple_mul (F.args_tuple_mul_2 _ _) (tuple_mul0 l its.toArray n dd sl t hi) ⟨ho, ?_⟩⟩)
    refine ⟨.ref s.heap.objs.size, _, I.laid (t' := s.toks) (o := .tup (List.replicate (0 : Int).toNat xs).flatten) (fun b ob q => Heap.get?_push_of_some _ q) (Nat.le_refl _) ?_, rfl, q2 (by decide) _ (I.hok.fresh (Nat.le_refl _))⟩
    exact ⟨Nat.zero_le _, [], .nil, IsTup.new _ _⟩
theorem xd_trep {k : Int} (ha : XD c X a st (.tup ds) st1) (hb : XD c X b st1 (.int k) st2) (hK : X.K = c.K) (h0 : ds ≠ []) (h1 : 0 ≤ k) (h2 : k ≤ 1000) (h3 : ds.length ≤ 1000) : XD c X (.BinOp a .Mult b pos) st (.tup (List.replicate k.toNat ds).flatten) st2 :=
  xd_bin ha hb op_repA fun G H x y Q e r1 r2 kk => by
    obtain ⟨l, vs, rfl, h, r⟩ := r1.tup_inv
    cases r2
    refine ⟨l, k, vs, rfl, rfl, by rw [hK]; exact e.st h, fun z => h0 (by rw [z] at r; exact List.eq_nil_of_length_eq_zero r.length), h1, h2, by rw [← r.length]; exact h3, fun hk => ?_, fun _ p hp => ?_⟩
    · subst hk
      exact kk _ G H (Gw.refl e) (.tup h (by show Reps _ _ _ (List.replicate 1 ds).flatten vs; rw [List.replicate_one, List.flatten_cons, List.flatten_nil, List.append_nil]; exact r))
    · exact kk _ _ _ (Gw.new e hp) (.tup (SqT.of upd_same) ((r.replicate k.toNat).ex (Gw.new (o := .tup _) e hp).ex))
theorem xd_tcat (ha : XD c X a st (.tup ds) st1) (hb : XD c X b st1 (.tup xs) st2) (hK : X.K = c.K) (hz : ds.length + xs.length ≤ 100000) : XD c X (.BinOp a .Add b pos) st (.tup (ds ++ xs)) st2 :=
  xd_bin ha hb op_catA fun G H x y Q e r1 r2 kk => by
    obtain ⟨l, vs, rfl, h, r⟩ := r1.tup_inv
    obtain ⟨l2, vs2, rfl, h2, r2⟩ := r2.tup_inv
    refine ⟨l, l2, vs, vs2, rfl, rfl, by rw [hK]; exact e.st h, by rw [hK]; exact e.st h2, by rw [← r.length, ← r2.length]; exact Nat.le_trans hz (by decide), fun z => ?_, fun _ z => ?_, fun _ _ p hp => ?_⟩
    · subst z
      cases r
      exact kk _ G H (Gw.refl e) (.tup h2 r2)
    · subst z
      cases r2
      exact kk _ G H (Gw.refl e) (.tup h (by rw [List.append_nil]; exact r))
    · exact kk _ _ _ (Gw.new e hp) (.tup (SqT.of upd_same) ((r.app r2).ex (Gw.new (o := .tup _) e hp).ex))

/-! ### two comparisons in a row -/
theorem xd_chain {op op' : CmpOp} {r r' : R2} {c3 : Expr} {d3 : Dt} {t u : Bool} (ha : XD c X a st d1 st) (hb : XD c X b st d2 st) (hc : XD c X c3 st d3 st) (ho : OpR X (compareOp op) r) (ho' : OpR X (compareOp op') r') (h1 : Op2 c d1 d2 (.bl t) r) (h2 : Op2 c d2 d3 (.bl u) r') (hm : lastMarks [op, op'] [b, c3] = false := by rfl) : XD c X (.Compare a [op, op'] [b, c3] pos) st (.bl (t && u)) st :=
  ⟨pe_weak (pe_chain ho ho' ha.pe hb.pe hc.pe (hm := hm)) fun σ H Q ⟨G, E, k⟩ => ⟨G, E, fun x G1 H1 g1 E1 r1 => ⟨G1, E1, fun y G2 H2 g2 E2 r2 => h1 G2 H2 x y _ E2.ex (r1.ex g2.ex) r2 fun v G3 H3 g3 r3 => by
    cases r3
    refine ⟨t, rfl, ?_⟩
    cases t with
    | true =>
      refine L2.iteT ?_
      exact ⟨G3, E2.g1 g3, fun z G4 H4 g4 E4 r4 => h2 G4 H4 y z Q E4.ex (r2.ex (g3.ex.trans g4.ex)) r4 fun v G5 H5 g5 r5 => k v G5 H5 ((((g1.trans g2).trans g3.gr).trans g4).trans g5.gr) (E4.g1 g5) (by cases r5; exact .bl)⟩
    | false =>
      refine L2.iteF ?_
      exact k _ G3 H3 ((g1.trans g2).trans g3.gr) (E2.g1 g3) .bl⟩⟩⟩
theorem xd_leleI {i j m : Int} {c3 : Expr} (ha : XD c X a st (.int i) st) (hb : XD c X b st (.int j) st) (hc : XD c X c3 st (.int m) st) (hm : lastMarks [.LtE, .LtE] [b, c3] = false := by rfl) : XD c X (.Compare a [.LtE, .LtE] [b, c3] pos) st (.bl (decide (i ≤ j) && decide (j ≤ m))) st :=
  xd_chain ha hb hc op_le op_le (o_B0 (g := fun i j => decide (i ≤ j))) (o_B0 (g := fun i j => decide (i ≤ j))) hm
theorem lt_one {q r : Nat} : decide ([q] < [r]) = decide (q < r) := by
  by_cases h : q < r
  · rw [decide_eq_true h, decide_eq_true (List.cons_lt_cons_iff.mpr (.inl h))]
  · rw [decide_eq_false h, decide_eq_false fun z => (List.cons_lt_cons_iff.mp z).elim h fun y => absurd y.2 (by simp)]
theorem o_leX {l m : List Nat} : Op2 c (.str (sx l)) (.str (sx m)) (.bl (!decide (m < l))) (fun x y H Q => ∃ i j, x = .str i ∧ y = .str j ∧ Q (.bl (!decide (j.cps.toList < i.cps.toList))) H) := fun G H x y Q e r1 r2 k => by
  cases r1; cases r2
  exact ⟨sx l, sx m, rfl, rfl, kv_same k e .bl⟩
theorem xd_leleX {q r u : Nat} {c3 : Expr} (ha : XD c X a st (.str (sx [r])) st) (hb : XD c X b st (.str (sx [q])) st) (hc : XD c X c3 st (.str (sx [u])) st) (hm : lastMarks [.LtE, .LtE] [b, c3] = false := by rfl) : XD c X (.Compare a [.LtE, .LtE] [b, c3] pos) st (.bl (decide (r ≤ q) && decide (q ≤ u))) st := by
  have h := xd_chain (pos := pos) ha hb hc op_le_str op_le_str o_leX o_leX hm
  have e : ∀ i j : Nat, (!decide ([i] < [j])) = decide (j ≤ i) := fun i j => by
    rw [lt_one]
    by_cases z : i < j
    · rw [decide_eq_true z, decide_eq_false (by omega)]; rfl
    · rw [decide_eq_false z, decide_eq_true (by omega)]; rfl
  rw [e, e] at h
  exact h

/-! ### a sign in a text -/
theorem xt_notinX {q : Nat} {l : List Nat} {t : Bool} (ha : XD c X a st (.str (sx [q])) st1) (hb : XD c X b st1 (.str (sx l)) st2) (ht : (!decide (q ∈ l)) = t) (hm : behindInMarks .NotIn b = false := by rfl) : XT c X (.Compare a [.NotIn] [b] pos) st t st2 :=
  xt_cmp ha hb op_notIn_sign (fun G H x y Q e r1 r2 k => by
    cases r1; cases r2
    refine ⟨q, sx l, rfl, rfl, ?_⟩
    have := kv_same k e (.bl (b := t))
    rw [← ht] at this
    exact this) hm
theorem xd_inX {q : Nat} {l : List Nat} (ha : XD c X a st (.str (sx [q])) st1) (hb : XD c X b st1 (.str (sx l)) st2) (hm : behindInMarks .In b = false := by rfl) : XD c X (.Compare a [.In] [b] pos) st (.bl (decide (q ∈ l))) st2 :=
  xd_cmp ha hb op_in_sign (fun G H x y Q e r1 r2 k => by
    cases r1; cases r2
    exact ⟨q, sx l, rfl, rfl, kv_same k e .bl⟩) hm
end Dv
set_option autoImplicit true
set_option maxRecDepth 100000
set_option maxHeartbeats 4000000
/-! the first place of a sign in a text -/
namespace DvS
open PySem PySem.Spec PySem.StrLaws Builtin Builtin.Str
theorem occ_full (s sub : Str) (hi : Nat) : ∀ (l : List Nat) (st : Array Nat × Nat), st.fst.size = 1 → (forIn l st (occBody s sub hi 1)).run.fst = st.fst
  | [], st, h => rfl
  | a :: l, st, h => by
    rw [List.forIn_cons]
    unfold occBody
    rw [if_neg fun z => by have := z.1.1.1; omega]
    exact occ_full s sub hi l _ h
theorem occ_hit (s sub : Str) (hi k : Nat) (post : List Nat) (hk : k + sub.length ≤ hi ∧ subAt s sub k = true) : ∀ (pre : List Nat) (free : Nat), free ≤ k → (∀ i ∈ pre, ¬ (i + sub.length ≤ hi ∧ subAt s sub i = true)) →
    (forIn (pre ++ k :: post) ((#[] : Array Nat), free) (occBody s sub hi 1)).run.fst = #[k]
  | [], free, hf, _ => by
    rw [List.nil_append, List.forIn_cons]
    unfold occBody
    rw [if_pos ⟨⟨⟨by simp, hf⟩, hk.1⟩, hk.2⟩]
    exact occ_full s sub hi post _ rfl
  | a :: pre, free, hf, hp => by
    rw [List.cons_append, List.forIn_cons]
    unfold occBody
    rw [if_neg fun z => hp a (List.mem_cons_self ..) ⟨z.1.2, z.2⟩]
    exact occ_hit s sub hi k post hk pre free hf fun i hi => hp i (List.mem_cons_of_mem _ hi)
theorem find_sign (x : Str) (c k : Nat) (hk : x.cps.toList[k]? = some c) (hn : ∀ j, j < k → x.cps.toList[j]? ≠ some c) : PySem.Txt.find x ⟨#[c]⟩ = (k : Int) := by
  have hl : k < x.length := by
    obtain ⟨h, _⟩ := List.getElem?_eq_some_iff.mp hk
    simpa [Str.length] using h
  have e : List.range' 0 (x.length + 1 - 0) = List.range' 0 k ++ k :: List.range' (k + 1) (x.length - k) := by
    have e1 : x.length + 1 - 0 = k + (1 + (x.length - k)) := by omega
    rw [e1, ← List.range'_append_1, Nat.zero_add, ← List.range'_append_1]; rfl
  have h : occurrences x ⟨#[c]⟩ 0 x.length 1 = [k] := by
    rw [occ_eq, e, occ_hit x ⟨#[c]⟩ x.length k _ ((subAt_one x c k).mpr hk) (List.range' 0 k) 0 (Nat.zero_le _) fun i hi z => hn i (by simp [List.mem_range'] at hi; omega) ((subAt_one x c i).mp z)]
  unfold Txt.find
  rw [h]
end DvS
namespace Dv
open PySem PySem.Spec PyProof.Rows L2
variable {c : Ctx} {X : Cx} {st st1 st2 st3 st' : Store} {a b e : Expr} {es : List Expr} {d d1 d2 d' : Dt} {ds xs ys : List Dt} {pos apos : Pos}
theorem idx_first {l : List Nat} {q : Nat} : q ∈ l → l[l.idxOf q]? = some q ∧ ∀ j, j < l.idxOf q → l[j]? ≠ some q := by
  intro h
  have hl := List.idxOf_lt_length_of_mem h
  refine ⟨by rw [List.getElem?_eq_getElem hl, List.getElem_idxOf], fun j hj z => ?_⟩
  obtain ⟨h1, h2⟩ := List.getElem?_eq_some_iff.mp z
  have := List.not_of_lt_findIdx (p := (· == q)) (xs := l) (by exact hj)
  simp [h2] at this
theorem xd_findX {l : List Nat} {q : Nat} (ha : XD c X a st (.str (sx l)) st1) (hb : XD c X b st1 (.str (sx [q])) st2) (hq : q ∈ l)
    (hbase : attributeBase a "find" X.env (eval a X.env) = eval a X.env := by rfl)
    (hfew : ((backTo pos (starEach (b :: []) X.env)).all (fun x => !x.1) && (backToKw pos (keywordEach [] X.env)).all (fun x => x.1.isSome)
      && decide ((b :: ([] : List Expr)).length + ([] : List Keyword).length + (if ([] : List Keyword).isEmpty then 0 else 1) < 30)) = true := by rfl)
    (hline : (apos.endLine == pos.line) = true := by rfl) (hs : starEach (b :: []) X.env = (false, eval b X.env) :: starEach [] X.env := by rfl) (hplain : (backTo pos (starEach [] X.env)).any (·.1) = false := by rfl) :
    XD c X (.Call (.Attribute a "find" apos) [b] [] pos) st (.int ((l.idxOf q : Nat) : Int)) st2 :=
  ⟨pe_weak (pe_bm PySem.F.plainAttrs_str PySem.F.slot_str_find PySem.F.type_str_find mt_find ha.pe (pa_cons hb.pe pa_nil hs) hbase hfew hline hs hplain) fun σ H Q ⟨G, E, k⟩ => ⟨G, E, fun x G1 H1 g1 E1 r1 => by
    cases r1
    refine ⟨rfl, G1, E1, fun y G2 H2 g2 E2 r2 => ?_⟩
    cases r2
    refine ⟨sx l, sx [q], rfl, rfl, ?_⟩
    rw [show Txt.find (sx l) (sx [q]) = ((l.idxOf q : Nat) : Int) from DvS.find_sign (sx l) q _ (idx_first hq).1 (idx_first hq).2]
    exact k _ G2 H2 (g1.trans g2) E2 .int⟩⟩
end Dv
set_option autoImplicit true
set_option maxRecDepth 100000
set_option maxHeartbeats 4000000
/-! == and != of tuples, with both answers -/
namespace DvE
open PySem PySem.Spec PyProof.Rows GQ
section
variable {prog : Program} {w : World} {A : Around} {R : Result → Shared → Prop}
theorem tuple_eqB (l b : Addr) (items items2 : Array Value) (n n2 : Nat) (dd dd2 : Option Addr) (sl sl2 : Array (Option Value)) (I : Nat → Shared → Prop) (f : Nat → Bool)
    (turn : ∀ i (h1 : i < items.size) (h2 : i < items2.size) s, I i s → wpAny (model prog w) A.in1 (eqBool items[i] items2[i]) (fun r s' => r = f i ∧ I (i + 1) s') (fun e s' => R (.error e) s') s)
    (finF : ∀ i s, i < items.size → i < items2.size → f i = false → I (i + 1) s → R (.ok (.ret (.bool false))) s)
    (finT : ∀ i s, (∀ j, j < items.size → j < items2.size → f j = true) → I i s → R (.ok (.ret (.bool (items.size == items2.size)))) s) {s : Shared} (hl1 : s.heap.get? l = some { cls := .type "tuple", dict := dd, data := .seq items n, slots := sl }) (hb1 : s.heap.get? b = some { cls := .type "tuple", dict := dd2, data := .seq items2 n2, slots := sl2 }) (h : I 0 s) :
    wpAny (model prog w) A.in1 (Builtin.«tuple.__eq__» ⟨[.ref l, .ref b], []⟩) (FinOf prog w A R) (fun e s' => R (.error e) s') s := by
  have f2 := AutoSeq1.sub_tuple_tuple
  have hZ : (items.toList.zip items2.toList).length = min items.size items2.size := by simp
  have h0 := h
  obtain ⟨hp, g, d, tk, os⟩ := s
  wp_walk using wpAny_loadPart' hl1, wpAny_loadPart' hb1, wpAny_forIn_list _ (fun rest b s' => b.1 = none ∧ ∃ i, rest = (items.toList.zip items2.toList).drop i ∧ (∀ j, j < i → j < items.size → j < items2.size → f j = true) ∧ I i s') _
  case turn =>
    rintro ⟨y, x⟩ rest b s' ⟨hb', i, hz, hi, hI⟩
    have hlt : i < (items.toList.zip items2.toList).length := by
      rcases Nat.lt_or_ge i (items.toList.zip items2.toList).length with h' | h'
      · exact h'
      · rw [List.drop_of_length_le h'] at hz; cases hz
    have h1 : i < items.size := by omega
    have h2 : i < items2.size := by omega
    rw [List.drop_eq_getElem_cons hlt] at hz
    injection hz with hyx hrest
    have hy : y = items[i] := by have := congrArg Prod.fst hyx; simpa using this
    have hx : x = items2[i] := by have := congrArg Prod.snd hyx; simpa using this
    subst hy hx
    refine wpAny_bind (wpAny_mono (turn i h1 h2 s' hI) (fun r s2 q2 => ?_) fun _ _ x => x)
    obtain ⟨hr, q2⟩ := q2
    subst hr
    cases hf : f i with
    | true =>
      wp_walk
      exact ⟨rfl, i + 1, hrest, fun j hj g1 g2 => by
        by_cases q : j = i
        · subst q; exact hf
        · exact hi j (by omega) g1 g2, q2⟩
    | false =>
      have hR := finF i s2 h1 h2 hf q2
      wp_walk
      exact hR
  case fin =>
    rintro ⟨b1, b2⟩ s' ⟨hb', i, hz, hi, hI⟩
    simp only at hb'
    subst hb'
    have hge : min items.size items2.size ≤ i := by
      rcases Nat.lt_or_ge i (items.toList.zip items2.toList).length with h' | h'
      · rw [List.drop_eq_getElem_cons h'] at hz; cases hz
      · exact hZ ▸ h'
    have hR := finT i s' (fun j g1 g2 => hi j (by omega) g1 g2) hI
    wp_walk
    exact hR
  case h =>
    exact ⟨rfl, 0, rfl, fun j hj => absurd hj (Nat.not_lt_zero _), h0⟩
theorem tuple_neB (l b : Addr) (items items2 : Array Value) (n n2 : Nat) (dd dd2 : Option Addr) (sl sl2 : Array (Option Value)) (I : Nat → Shared → Prop) (f : Nat → Bool)
    (turn : ∀ i (h1 : i < items.size) (h2 : i < items2.size) s, I i s → wpAny (model prog w) A.in1 (eqBool items[i] items2[i]) (fun r s' => r = f i ∧ I (i + 1) s') (fun e s' => R (.error e) s') s)
    (finF : ∀ i s, i < items.size → i < items2.size → f i = false → I (i + 1) s → R (.ok (.ret (.bool true))) s)
    (finT : ∀ i s, (∀ j, j < items.size → j < items2.size → f j = true) → I i s → R (.ok (.ret (.bool (items.size != items2.size)))) s) {s : Shared} (hl1 : s.heap.get? l = some { cls := .type "tuple", dict := dd, data := .seq items n, slots := sl }) (hb1 : s.heap.get? b = some { cls := .type "tuple", dict := dd2, data := .seq items2 n2, slots := sl2 }) (h : I 0 s) :
    wpAny (model prog w) A.in1 (Builtin.«tuple.__ne__» ⟨[.ref l, .ref b], []⟩) (FinOf prog w A R) (fun e s' => R (.error e) s') s := by
  have f2 := AutoSeq1.sub_tuple_tuple
  have hZ : (items.toList.zip items2.toList).length = min items.size items2.size := by simp
  have h0 := h
  obtain ⟨hp, g, d, tk, os⟩ := s
  wp_walk using wpAny_loadPart' hl1, wpAny_loadPart' hb1, wpAny_forIn_list _ (fun rest b s' => b.1 = none ∧ ∃ i, rest = (items.toList.zip items2.toList).drop i ∧ (∀ j, j < i → j < items.size → j < items2.size → f j = true) ∧ I i s') _
  case turn =>
    rintro ⟨y, x⟩ rest b s' ⟨hb', i, hz, hi, hI⟩
    have hlt : i < (items.toList.zip items2.toList).length := by
      rcases Nat.lt_or_ge i (items.toList.zip items2.toList).length with h' | h'
      · exact h'
      · rw [List.drop_of_length_le h'] at hz; cases hz
    have h1 : i < items.size := by omega
    have h2 : i < items2.size := by omega
    rw [List.drop_eq_getElem_cons hlt] at hz
    injection hz with hyx hrest
    have hy : y = items[i] := by have := congrArg Prod.fst hyx; simpa using this
    have hx : x = items2[i] := by have := congrArg Prod.snd hyx; simpa using this
    subst hy hx
    refine wpAny_bind (wpAny_mono (turn i h1 h2 s' hI) (fun r s2 q2 => ?_) fun _ _ x => x)
    obtain ⟨hr, q2⟩ := q2
    subst hr
    cases hf : f i with
    | true =>
      wp_walk
      exact ⟨rfl, i + 1, hrest, fun j hj g1 g2 => by
        by_cases q : j = i
        · subst q; exact hf
        · exact hi j (by omega) g1 g2, q2⟩
    | false =>
      have hR := finF i s2 h1 h2 hf q2
      wp_walk
      exact hR
  case fin =>
    rintro ⟨b1, b2⟩ s' ⟨hb', i, hz, hi, hI⟩
    simp only at hb'
    subst hb'
    have hge : min items.size items2.size ≤ i := by
      rcases Nat.lt_or_ge i (items.toList.zip items2.toList).length with h' | h'
      · rw [List.drop_eq_getElem_cons h'] at hz; cases hz
      · exact hZ ▸ h'
    have hR := finT i s' (fun j g1 g2 => hi j (by omega) g1 g2) hI
    wp_walk
    exact hR
  case h =>
    exact ⟨rfl, 0, rfl, fun j hj => absurd hj (Nat.not_lt_zero _), h0⟩
end
end DvE
namespace Dv
open PySem PySem.Spec PyProof.Rows L2
abbrev Eqb := Bool → V → V → Hp → Prop
def MonB (D : Eqb) : Prop := ∀ r x y H H', L2.Ext H H' → D r x y H → D r x y H'
def EqB (X : Cx) (n : Nat) (D : Eqb) : Prop :=
  ∀ (A : Around) (pins : List (Addr × Obj)) (s : Shared) (σ : L2.St) (H : Hp) (x y : V) (u v : Value) (r : Bool), Sub X n A → Inv X pins σ H s → RelV x u → RelV y v → D r x y H →
    wpAny (model X.prog X.w) A (eqBool u v) (fun q s' => q = r ∧ ∃ H', Inv X pins σ H' s' ∧ L2.Ext H H') X.xe s
def RcB (X : Cx) (n : Nat) (op : CmpOp) (g : Bool → Bool) (D : Eqb) : Prop :=
  ∀ (A : Around) (pins : List (Addr × Obj)) (s : Shared) (σ : L2.St) (H : Hp) (x y : V) (u v : Value) (r : Bool), Sub X n A → Inv X pins σ H s → RelV x u → RelV y v → D r x y H →
    wpAny (model X.prog X.w) A (richCompare op u v) (fun q s' => q = .bool (g r) ∧ ∃ H', Inv X pins σ H' s' ∧ L2.Ext H H') X.xe s
section
variable {X : Cx} {n m : Nat} {D D' : Eqb}
def DTupB (K : PySem.W.Frag) (D : Eqb) : Eqb := fun r x y H => ∃ a b xs ys, x = .ref a ∧ y = .ref b ∧ SqT K H a xs ∧ SqT K H b ys ∧ ∃ f : Nat → Bool, (∀ (i : Nat) x y, xs[i]? = some x → ys[i]? = some y → D (f i) x y H) ∧
  (r = true ↔ xs.length = ys.length ∧ ∀ i, i < xs.length → i < ys.length → f i = true)
theorem turnB (hD : MonB D) (h : EqB X n D) {A : Around} (sb : Sub X (n + 1) A) {pins : List (Addr × Obj)} {σ : L2.St} {H : Hp} {xs ys : List V} {its its2 : List Value} {f : Nat → Bool} (p : ∀ (i : Nat) x y, xs[i]? = some x → ys[i]? = some y → D (f i) x y H) (r : Vals xs its) (r2 : Vals ys its2)
    (i : Nat) (h1 : i < its.toArray.size) (h2 : i < its2.toArray.size) (s' : Shared) (l : LoopI X pins σ H s') :
    wpAny (model X.prog X.w) A.in1 (eqBool its.toArray[i] its2.toArray[i]) (fun r s2 => r = f i ∧ LoopI X pins σ H s2) X.xe s' := by
  obtain ⟨H1, I1, e1⟩ := l
  have g1 : its[i]? = some its.toArray[i] := by
    have h1' : i < its.length := by simpa using h1
    rw [List.getElem?_eq_getElem h1'] <;> simp
  have g2 : its2[i]? = some its2.toArray[i] := by
    have h2' : i < its2.length := by simpa using h2
    rw [List.getElem?_eq_getElem h2'] <;> simp
  have k1 : i < xs.length := by rw [r.length]; simpa using h1
  have k2 : i < ys.length := by rw [r2.length]; simpa using h2
  obtain ⟨u, hu, ru⟩ := r.get (List.getElem?_eq_getElem k1)
  obtain ⟨v, hv, rv⟩ := r2.get (List.getElem?_eq_getElem k2)
  rw [g1] at hu
  rw [g2] at hv
  rw [Option.some.inj hu, Option.some.inj hv]
  refine wpAny_mono (h A.in1 pins s' σ H1 _ _ u v _ sb.in1 I1 ru rv (hD _ _ _ _ _ e1 (p i _ _ (List.getElem?_eq_getElem k1) (List.getElem?_eq_getElem k2)))) (fun r s2 q => ?_) fun _ _ x => x
  obtain ⟨hr, H2, I2, e2⟩ := q
  exact ⟨hr, H2, I2, e1.trans e2⟩
theorem rcB_tupEq (hD : MonB D) (h : EqB X n D) : RcB X (n + 1) .Eq id (DTupB X.K D) := by
  intro A pins s σ H x y u v r sb I rx ry d
  obtain ⟨a, b, xs, ys, rfl, rfl, ha, hb, f, p, hr⟩ := d
  cases rx
  cases ry
  obtain ⟨its, q, e, z⟩ := I.tuple ha
  obtain ⟨its2, q2, e2, z2⟩ := I.tuple hb
  have l1 : its.toArray.size = xs.length := by rw [List.size_toArray, ← q.length]
  have l2 : its2.toArray.size = ys.length := by rw [List.size_toArray, ← q2.length]
  obtain ⟨⟨cls, dd, data, sl⟩, ho, hc, n1, hd⟩ := id e
  obtain ⟨⟨cls2, dd2, data2, sl2⟩, ho2, hc2, n2, hd2⟩ := id e2
  simp only at hc hd hc2 hd2
  subst hc hd hc2 hd2
  refine wpAny_richCompare_same_room (op := .Eq) ⟨_, ho, rfl⟩ ⟨_, ho2, rfl⟩ F.slot_tuple_eq (GQ.call_here F.slot_tuple_eq ⟨_, ho, rfl⟩ F.entry_tuple_eq (F.args_tuple_eq_2 _ _) ?_) sb.room.units0
  refine DvE.tuple_eqB (R := wants (fun v s' => v ≠ .notImplemented ∧ (v = .bool (id r) ∧ ∃ H', Inv X pins σ H' s' ∧ L2.Ext H H')) X.xe) a b its.toArray its2.toArray n1 n2 dd dd2 sl sl2 (fun _ s' => LoopI X pins σ H s') f (fun i h1 h2 s' q' => turnB hD h sb p q q2 i h1 h2 s' q') (fun i s' h1 h2 hf q' => ⟨(fun x => nomatch x), ?_, q'⟩) (fun i s' hT q' => ⟨(fun x => nomatch x), ?_, q'⟩) ho ho2 ⟨H, I, Ext.rfl'⟩
  · have : r ≠ true := fun z => by
      have := (hr.mp z).2 i (by omega) (by omega)
      rw [hf] at this; cases this
    cases r with
    | true => exact absurd rfl this
    | false => rfl
  · rw [l1, l2]
    cases r with
    | true => rw [(hr.mp rfl).1]; simp
    | false =>
      have : xs.length ≠ ys.length := fun z => by
        have := hr.mpr ⟨z, fun i g1 g2 => hT i (by omega) (by omega)⟩
        cases this
      show Value.bool _ = Value.bool false
      congr 1
      simpa using this
theorem rcB_tupNe (hD : MonB D) (h : EqB X n D) : RcB X (n + 1) .NotEq not (DTupB X.K D) := by
  intro A pins s σ H x y u v r sb I rx ry d
  obtain ⟨a, b, xs, ys, rfl, rfl, ha, hb, f, p, hr⟩ := d
  cases rx
  cases ry
  obtain ⟨its, q, e, z⟩ := I.tuple ha
  obtain ⟨its2, q2, e2, z2⟩ := I.tuple hb
  have l1 : its.toArray.size = xs.length := by rw [List.size_toArray, ← q.length]
  have l2 : its2.toArray.size = ys.length := by rw [List.size_toArray, ← q2.length]
  obtain ⟨⟨cls, dd, data, sl⟩, ho, hc, n1, hd⟩ := id e
  obtain ⟨⟨cls2, dd2, data2, sl2⟩, ho2, hc2, n2, hd2⟩ := id e2
  simp only at hc hd hc2 hd2
  subst hc hd hc2 hd2
  refine wpAny_richCompare_same_room (op := .NotEq) ⟨_, ho, rfl⟩ ⟨_, ho2, rfl⟩ F.slot_tuple_ne (GQ.call_here F.slot_tuple_ne ⟨_, ho, rfl⟩ F.entry_tuple_ne (F.args_tuple_ne_2 _ _) ?_) sb.room.units0
  refine DvE.tuple_neB (R := wants (fun v s' => v ≠ .notImplemented ∧ (v = .bool (!r) ∧ ∃ H', Inv X pins σ H' s' ∧ L2.Ext H H')) X.xe) a b its.toArray its2.toArray n1 n2 dd dd2 sl sl2 (fun _ s' => LoopI X pins σ H s') f (fun i h1 h2 s' q' => turnB hD h sb p q q2 i h1 h2 s' q') (fun i s' h1 h2 hf q' => ⟨(fun x => nomatch x), ?_, q'⟩) (fun i s' hT q' => ⟨(fun x => nomatch x), ?_, q'⟩) ho ho2 ⟨H, I, Ext.rfl'⟩
  · have : r ≠ true := fun z => by
      have := (hr.mp z).2 i (by omega) (by omega)
      rw [hf] at this; cases this
    cases r with
    | true => exact absurd rfl this
    | false => rfl
  · rw [l1, l2]
    cases r with
    | true => rw [(hr.mp rfl).1]; simp
    | false =>
      have : xs.length ≠ ys.length := fun z => by
        have := hr.mpr ⟨z, fun i g1 g2 => hT i (by omega) (by omega)⟩
        cases this
      show Value.bool _ = Value.bool true
      congr 1
      simpa using this
/-- own instances -/
def DInsB (C : Addr) (R : Bool → Addr → Addr → Hp → Prop) : Eqb := fun r x y H => ∃ a b dx dy fs gs, x = .ref a ∧ y = .ref b ∧ H a = some (.ins C dx fs) ∧ H b = some (.ins C dy gs) ∧ R r a b H ∧ (a = b → r = true)
def spEqB (R : Bool → Addr → Addr → Hp → Prop) : Sp := fun vs H Q _ => ∃ a b r, vs = [.ref a, .ref b] ∧ R r a b H ∧ ∀ H', L2.Ext H H' → Q (.bl r) H'
theorem eqB_ins {CX : CXT} {C f : Addr} {fd : FuncData} {ps : List Str} {R : Bool → Addr → Addr → Hp → Prop} {E : XK} (F : FnOk X.prog X.w X.K X.mg X.base CX n f fd ps (spEqB R))
    (hs : PySem.W.findIn X.K (.ref C) "__eq__" = some (some (.ref f))) (hf : PySem.W.isFn X.K (.ref f) = true) (hb : Binds X.K fd ps []) (hx : Passes CX X E) : EqB X n (DInsB C R) := by
  intro A pins s σ H x y u v r sb I rx ry d
  obtain ⟨a, b, dx, dy, fs, gs, rfl, rfl, ha, hb', hr, hs'⟩ := d
  cases rx
  cases ry
  by_cases hab : a = b
  · subst hab
    have := hs' rfl
    subst this
    exact SeqAt.EqAt.same (A := A) (s := s) (.ref a) X.prog X.w X.xe _ ⟨rfl, H, I, Ext.rfl'⟩
  obtain ⟨mA, J, _⟩ := ins_get I.hok ha
  obtain ⟨mB, J', _⟩ := ins_get I.hok hb'
  obtain ⟨od, J, _⟩ := J.look
  obtain ⟨od', J', _⟩ := J'.look
  obtain ⟨m, hF⟩ := I.fr
  refine GQ.eqBool_refG hab ?_
  refine PySem.W.cmp_K (op := .Eq) (tb := .ref C) sb.room.units0 hF I.ok.mod.kin J J'.type (by simp [PySem.W.notFirst]) hs hf ?_
  have hsp : spEqB R [.ref a, .ref b] H (fun v H' => v = .bl r ∧ L2.Ext H H') E → True := fun _ => trivial
  have hsp : spEqB R [.ref a, .ref b] H (fun v H' => ∃ r', R r' a b H ∧ v = .bl r' ∧ L2.Ext H H') E := ⟨a, b, r, rfl, hr, fun H' e => ⟨r, hr, rfl, e⟩⟩
  have hsp : spEqB (fun r' a b H => R r' a b H ∧ r' = r) [.ref a, .ref b] H (fun v H' => v = .bl r ∧ L2.Ext H H') E := ⟨a, b, r, rfl, ⟨hr, rfl⟩, fun H' e => ⟨rfl, e⟩⟩
  have hsp : spEqB R [.ref a, .ref b] H (fun v H' => v = .bl r ∧ L2.Ext H H') E := ⟨a, b, r, rfl, hr, fun H' e => ⟨rfl, e⟩⟩
  have e0 : Env0 X.prog X.w X.K X.mg X.base A X.stack s H := by
    have e := I.env0
    exact ⟨by rw [sb.fr]; exact e.frames, e.mod, e.bs, e.bsz, e.funs, e.frf, e.hok, e.bare⟩
  have hl := F.len _ _ _ _ hsp
  have r2 : Vals [V.ref a, V.ref b] [Value.ref a, Value.ref b] := .cons rfl (.cons rfl .nil)
  refine wpAny_call (codeAny_mono (F.run A X.stack s H ⟨[.ref a, .ref b], []⟩ [.ref a, .ref b] [.ref a, .ref b] _ E sb.room e0 (by
    have := hb s [.ref a, .ref b] I.kIn (by simpa using hl)
    simpa using this) r2 hsp) fun r s' hq => ?_)
  cases r with
  | error e => exact hx pins σ H s e s' I hq
  | ok fl =>
    cases fl with
    | ret w =>
      obtain ⟨z, H', I', rz, ez, ex⟩ := I.after hq
      subst ez
      cases rz
      exact ⟨_, rfl, rfl, H', I', ex⟩
    | next => exact False.elim hq
    | brk => exact False.elim hq
    | cont => exact False.elim hq
def rEqB (g : Bool → Bool) (D : Eqb) : R2 := fun x y H Q => ∃ r, D r x y H ∧ ∀ H', L2.Ext H H' → Q (.bl (g r)) H'
theorem op_eqB (h : RcB X n .Eq id D) (hr : Room n X.A) : OpR X (compareOp .Eq) (rEqB id D) := by
  intro pins s σ H x y v u Q I rx ry hq
  obtain ⟨r, d, q⟩ := hq
  show wpAny (model X.prog X.w) X.A (richCompare .Eq v u) (EP X pins σ Q) X.xe s
  refine wpAny_mono (h X.A pins s σ H x y v u r ⟨hr, rfl⟩ I rx ry d) (fun r' s' z => ?_) fun _ _ x => x
  obtain ⟨hr', H', I', e⟩ := z
  subst hr'
  exact ⟨.bl (id r), H', I', rfl, q H' e⟩
theorem op_neB (h : RcB X n .NotEq not D) (hr : Room n X.A) : OpR X (compareOp .NotEq) (rEqB not D) := by
  intro pins s σ H x y v u Q I rx ry hq
  obtain ⟨r, d, q⟩ := hq
  show wpAny (model X.prog X.w) X.A (richCompare .NotEq v u) (EP X pins σ Q) X.xe s
  refine wpAny_mono (h X.A pins s σ H x y v u r ⟨hr, rfl⟩ I rx ry d) (fun r' s' z => ?_) fun _ _ x => x
  obtain ⟨hr', H', I', e⟩ := z
  subst hr'
  exact ⟨.bl (!r), H', I', rfl, q H' e⟩
end
end Dv
set_option autoImplicit true
set_option maxRecDepth 100000
set_option maxHeartbeats 4000000
namespace Dv
open PySem PySem.Spec PyProof.Rows L2
variable {c : Ctx} {X : Cx} {st st1 st2 st3 st' : Store} {a b e : Expr} {es : List Expr} {d d1 d2 d' : Dt} {ds xs ys fs gs : List Dt} {pos : Pos} {n m k : Nat} {D : Eqb} {r t : Bool} {G G' H H' : Hp}
theorem mon_tupB {K : PySem.W.Frag} (hD : MonB D) : MonB (DTupB K D) := fun r x y H H' e d => by
  obtain ⟨a, b, xs, ys, hx, hy, h1, h2, f, p, hr⟩ := d
  exact ⟨a, b, xs, ys, hx, hy, L2.SqT.ext h1 e, L2.SqT.ext h2 e, f, fun i x y q1 q2 => hD _ _ _ _ _ e (p i x y q1 q2), hr⟩
theorem mon_insB {C : Addr} {R : Bool → Addr → Addr → Hp → Prop} (hR : ∀ r a b H H', L2.Ext H H' → R r a b H → R r a b H') : MonB (DInsB C R) := fun r x y H H' e d => by
  obtain ⟨a, b, dx, dy, fs, gs, hx, hy, h1, h2, q, z⟩ := d
  exact ⟨a, b, dx, dy, fs, gs, hx, hy, e _ _ h1, e _ _ h2, hR r a b H H' e q, z⟩
def ReflB (D : Eqb) : Prop := ∀ r x H, D r x x H → r = true
theorem refl_insB {C : Addr} {R : Bool → Addr → Addr → Hp → Prop} : ReflB (DInsB C R) := fun r x H d => by
  obtain ⟨a, b, dx, dy, fs, gs, hx, hy, h1, h2, q, z⟩ := d
  rw [hx] at hy
  cases hy
  exact z rfl
theorem eqB_tup (hD : MonB D) (h : EqB X n D) (hR : ReflB D) : EqB X (n + 1) (DTupB X.K D) := by
  intro A pins s σ H x y u v r sb I rx ry d
  obtain ⟨a, b, xs, ys, rfl, rfl, h1, h2, f, p, hr⟩ := id d
  cases rx
  cases ry
  by_cases hab : a = b
  · subst hab
    have e : xs = ys := sqk_inj (κ := .t) I h1 h2
    subst e
    have : r = true := hr.mpr ⟨rfl, fun i g1 g2 => hR _ _ _ (p i _ _ (List.getElem?_eq_getElem g1) (List.getElem?_eq_getElem g1))⟩
    subst this
    exact SeqAt.EqAt.same (A := A) (s := s) (.ref a) X.prog X.w X.xe _ ⟨rfl, H, I, Ext.rfl'⟩
  · refine GQ.eqBool_refG hab (wpAny_mono (rcB_tupEq hD h A pins s σ H (.ref a) (.ref b) _ _ r sb I rfl rfl d) (fun r' s' q => ?_) fun _ _ x => x)
    obtain ⟨hr', q⟩ := q
    exact ⟨r, hr', rfl, q⟩
/-! ### on data -/
def RDB (c : Ctx) (D : Eqb) (r : Bool) (d1 d2 : Dt) : Prop := ∀ (G H : Hp) (x y : V), Ex G H → Rep c.K c.T G d1 x → Rep c.K c.T G d2 y → D r x y H
def OwnRB (c : Ctx) (n : Nat) (R : List Dt → Dt → Prop) (r : Bool) (a b : Addr) (H : Hp) : Prop := ∃ G fs gs, Ex G H ∧ Rep c.K c.T G (.obj n fs) (.ref a) ∧ Rep c.K c.T G (.obj n gs) (.ref b) ∧ R [.obj n fs, .obj n gs] (.bl r)
theorem own_spEqB {P : Program} {w : World} {K : PySem.W.Frag} {mg : Str → Option Value} {base : Heap} {CX : CXT} {k : Nat} {f : Addr} {fd : FuncData} {ps : List Str} {R : List Dt → Dt → Prop} (F : FnOk P w K mg base CX k f fd ps (spD c.K c.T R)) : FnOk P w K mg base CX k f fd ps (spEqB (OwnRB c n R)) :=
  F.imp fun vs H Q E ⟨a, b, r, e1, ⟨G, fs, gs, ex, r1, r2, hR⟩, kk⟩ => ⟨G, [.obj n fs, .obj n gs], .bl r, ex, by rw [e1]; exact .cons r1 (.cons r2 .nil), hR, fun v G' H' g e' r' => by
    cases r'
    exact kk H' (gw_of g e').hx⟩
abbrev DOwn (c : Ctx) (C : Addr) (n : Nat) (R : List Dt → Dt → Prop) : Eqb := DInsB C (OwnRB c n R)
theorem own_monB {C : Addr} {R : List Dt → Dt → Prop} : MonB (DOwn c C n R) := mon_insB fun r a b H H' e ⟨G, fs, gs, ex, q⟩ => ⟨G, fs, gs, ex.trans e, q⟩
theorem own_eqB {C : Addr} {R : List Dt → Dt → Prop} (F : MF X.prog X.w X.K c.T X.mg X.base C "__eq__" k R) (hK : X.K = c.K) : EqB X k (DOwn c C n R) := by
  obtain ⟨f, fd, ps, F, hf, hb⟩ := F.ex
  rw [hK] at F
  exact eqB_ins (E := fun _ _ _ => False) (by rw [hK]; exact own_spEqB F) hf.at_ hf.fn hb pass0
theorem reps_scal {K : PySem.W.Frag} {T : Ct} {G : Hp} : ∀ {fs gs : List Dt} {vs : List V}, fs.all Dt.scal = true → gs.all Dt.scal = true → Reps K T G fs vs → Reps K T G gs vs → fs = gs
  | [], [], _, _, _, _, _ => rfl
  | [], _ :: _, _, _, _, h1, h2 => by cases h1; cases h2
  | _ :: _, [], _, _, _, h1, h2 => by cases h2; cases h1
  | f :: fs, g :: gs, _, a1, a2, h1, h2 => by
    cases h1 with
    | cons r1 t1 =>
      cases h2 with
      | cons r2 t2 =>
        simp only [List.all_cons, Bool.and_eq_true] at a1 a2
        rw [reps_scal a1.2 a2.2 t1 t2]
        congr 1
        cases r1 <;> cases r2 <;> first | rfl | (cases a1.1) | (cases a2.1)
theorem rdb_own {C : Addr} {R : List Dt → Dt → Prop} {ns : List Str} (hT : c.T n = some (C, ns)) (hR : R [.obj n fs, .obj n gs] (.bl r)) (hs : r = true ∨ (fs.all Dt.scal = true ∧ gs.all Dt.scal = true ∧ fs ≠ gs)) : RDB c (DOwn c C n R) r (.obj n fs) (.obj n gs) := fun G H x y ex r1 r2 => by
  obtain ⟨C1, ns1, q, dx, ws, rfl, q1, q2, q3, q4⟩ := id r1.obj_inv
  rw [hT] at q1
  cases q1
  obtain ⟨C1, ns1, q', dx', ws', rfl, q1, q2', q3', q4'⟩ := id r2.obj_inv
  rw [hT] at q1
  cases q1
  refine ⟨q, q', dx, dx', _, _, rfl, rfl, ex _ _ q2, ex _ _ q2', ⟨G, fs, gs, ex, r1, r2, hR⟩, fun z => ?_⟩
  rcases hs with hs | ⟨s1, s2, hn⟩
  · exact hs
  · subst z
    rw [q2] at q2'
    have e1 : ns.zip ws = ns.zip ws' := by
      injection q2' with q2'
      injection q2'
    have e2 : ws = ws' := by
      have := congrArg (List.map Prod.snd) e1
      rwa [List.map_snd_zip (by omega), List.map_snd_zip (by omega)] at this
    subst e2
    exact absurd (reps_scal s1 s2 q4 q4') hn
theorem rdb_tup (f : Nat → Bool) (h : ∀ (i : Nat) d e, xs[i]? = some d → ys[i]? = some e → RDB c D (f i) d e) (hr : r = true ↔ xs.length = ys.length ∧ ∀ i, i < xs.length → i < ys.length → f i = true) : RDB c (DTupB c.K D) r (.tup xs) (.tup ys) := fun G H x y ex r1 r2 => by
  obtain ⟨a, vs, rfl, s1, t1⟩ := r1.tup_inv
  obtain ⟨b, ws, rfl, s2, t2⟩ := r2.tup_inv
  refine ⟨a, b, vs, ws, rfl, rfl, ex.st s1, ex.st s2, f, fun i u w h1 h2 => ?_, by rw [← t1.length, ← t2.length]; exact hr⟩
  obtain ⟨d, q1, q2⟩ := t1.getV h1
  obtain ⟨e, p1, p2⟩ := t2.getV h2
  exact h i d e q1 p1 G H u w ex q2 p2
theorem rdb_tup1 (hl : xs.length = ys.length) (h : ∀ (i : Nat) d e, xs[i]? = some d → ys[i]? = some e → RDB c D true d e) : RDB c (DTupB c.K D) true (.tup xs) (.tup ys) := rdb_tup (fun _ => true) h ⟨fun _ => ⟨hl, fun _ _ _ => rfl⟩, fun _ => rfl⟩
theorem o_eqB {g : Bool → Bool} (h : RDB c D r d1 d2) : Op2 c d1 d2 (.bl (g r)) (rEqB g D) := fun G H x y Q ex r1 r2 kk =>
  ⟨r, h G H x y ex r1 r2, fun H' e => kk _ G H' ⟨Ex.refl G, e, ex.trans e, fun _ _ h => .inl h⟩ .bl⟩
theorem xd_eqB (ha : XD c X a st d1 st1) (hb : XD c X b st1 d2 st2) (h : RcB X m .Eq id D) (hr : Room m X.A) (hd : RDB c D r d1 d2) (hm : behindInMarks .Eq b = false := by exact nomark _) : XD c X (.Compare a [.Eq] [b] pos) st (.bl r) st2 := xd_cmp ha hb (op_eqB h hr) (o_eqB (g := id) hd) hm
theorem xt_eqB (ha : XD c X a st d1 st1) (hb : XD c X b st1 d2 st2) (h : RcB X m .Eq id D) (hr : Room m X.A) (hd : RDB c D r d1 d2) (hm : behindInMarks .Eq b = false := by exact nomark _) : XT c X (.Compare a [.Eq] [b] pos) st r st2 := xt_cmp ha hb (op_eqB h hr) (o_eqB (g := id) hd) hm
theorem xt_neB (ha : XD c X a st d1 st1) (hb : XD c X b st1 d2 st2) (h : RcB X m .NotEq not D) (hr : Room m X.A) (hd : RDB c D r d1 d2) (hm : behindInMarks .NotEq b = false := by exact nomark _) : XT c X (.Compare a [.NotEq] [b] pos) st (!r) st2 := xt_cmp ha hb (op_neB h hr) (o_eqB (g := not) hd) hm
end Dv
set_option autoImplicit true
set_option maxRecDepth 100000
set_option maxHeartbeats 4000000
namespace Dv
open PySem PySem.Spec PyProof.Rows L2
variable {c : Ctx} {X : Cx} {st st1 st2 st3 st' : Store} {a b e : Expr} {es : List Expr} {d d1 d2 d' : Dt} {ds xs ys fs gs : List Dt} {pos : Pos} {n m k : Nat} {r t : Bool} {G G' H H' : Hp}
def tRevX (te : TE) : TE := fun σ H Q => te σ H fun x H1 => ∃ z : Str, x = .str z ∧ z.length ≤ 100000 ∧ Q (.str ⟨z.cps.toList.reverse.toArray⟩) H1
theorem rev_all (l : List Nat) : (List.range l.length).map (fun k => l.toArray.getD (l.length - 1 - k) 0) = l.reverse := by
  apply List.ext_getElem?
  intro i
  rw [List.getElem?_map]
  by_cases h : i < l.length
  · rw [List.getElem?_range h, List.getElem?_reverse h]
    simp
    rw [List.getElem?_eq_getElem (by omega)]; simp
  · rw [List.getElem?_eq_none (by simpa using h), List.getElem?_eq_none (by simpa using h)]; rfl
theorem pe_revX {e : Expr} {te : TE} {k : Nat} {p1 p2 p3 pos : Pos} (he : PE X e te) : PE X (.Subscript e (.Slice none none (some (.UnaryOp .USub (.Constant (.int 1) k p1) p2)) p3) pos) (tRevX te) := by
  refine ⟨fun pins s σ H Q I h => ?_⟩
  refine Subscript_ (thn (he.run pins s σ H _ I h) fun v s1 ⟨x, H1, I1, r1, q1⟩ => ?_)
  obtain ⟨z, ex, hz, q⟩ := q1
  subst ex
  obtain ⟨tk, rfl⟩ := r1
  have hst : PO X (some (.UnaryOp .USub (.Constant (.int 1) k p1) p2)) (tPart (tUn (rU fun i => .int (-i)) (tC (.int 1)))) := po_some (pe_un un_neg pe_int)
  refine wpAny_Slice (thn (po_none.run pins s1 σ H1 (fun o H2 => o = none ∧ H2 = H1) I1 ⟨rfl, rfl⟩) fun vl s2 ⟨l, H2, I2, pl, el, e2⟩ => ?_)
  subst el e2
  refine thn (po_none.run pins s2 σ H2 (fun o H3 => o = none ∧ H3 = H2) I2 ⟨rfl, rfl⟩) fun vu s3 ⟨u, H3, I3, pu, eu, e3⟩ => ?_
  subst eu e3
  refine thn (hst.run pins s3 σ H3 (fun o H4 => o = some (-1) ∧ H4 = H3) I3 ⟨1, rfl, -1, rfl, rfl, rfl⟩) fun vs s4 ⟨o, H4, I4, ps, eo, e4⟩ => ?_
  subst eo e4
  have I5 : Inv X pins σ H4 { s4 with heap := s4.heap.push { cls := .type "slice", data := .fields #[vl, vu, vs] } } := I4.kept (t' := s4.toks) fun b ob q => Heap.get?_push_of_some _ q
  show wpAny (model X.prog X.w) X.A (subscriptTail e (.Slice none none (some (.UnaryOp .USub (.Constant (.int 1) k p1) p2)) p3) (.str z tk) (.ref s4.heap.objs.size)) (EP X pins σ Q) X.xe { s4 with heap := s4.heap.push { cls := .type "slice", data := .fields #[vl, vu, vs] } }
  cases pl
  cases pu
  cases ps with
  | int _ u2 =>
    refine tail_any (ops := [.str z tk, .ref s4.heap.objs.size]) (typeIs_str _ _ _) (PySem.F.slot_str_getitem.lookup) ?_ (by with_unfolding_all rfl)
    refine wpAny_getItem_str_slice (l := none) (u := none) (st := some (-1, u2)) ⟨_, Heap.get?_push_size _ rfl, rfl, rfl⟩ rfl ?_
    have e1 : ((slicePicked z none none (some (-1, u2))).filterMap (z.cps[·]?)) = z.cps.toList.reverse := by
      have e2 : slicePicked z none none (some (-1, u2)) = (List.range z.length).map fun k => z.length - 1 - k := picked_rev z.length
      rw [e2, filterMap_get _ _ (fun i hi => by
        obtain ⟨k, hk, rfl⟩ := List.mem_map.mp hi
        have hk := List.mem_range.mp hk
        have : z.length = z.cps.size := rfl
        omega), List.map_map]
      have := rev_all z.cps.toList
      rw [Array.toArray_toList, Array.length_toList] at this
      exact this
    unfold sliceMade
    rw [if_neg (by show ¬ ((-1 : Int) == 1 && _) = true; simp), e1]
    refine ⟨?_, .str ⟨z.cps.toList.reverse.toArray⟩, H4, I5.tok _, ⟨_, rfl⟩, q⟩
    have : z.length = z.cps.size := rfl
    show z.cps.toList.reverse.toArray.size ≤ sizeLine
    rw [List.size_toArray, List.length_reverse, Array.length_toList, sizeLine_eq]; omega
theorem xd_revX {l : List Nat} {k : Nat} {p1 p2 p3 : Pos} (h : XD c X e st (.str (sx l)) st1) (hz : l.length ≤ 100000) : XD c X (.Subscript e (.Slice none none (some (.UnaryOp .USub (.Constant (.int 1) k p1) p2)) p3) pos) st (.str (sx l.reverse)) st1 :=
  ⟨pe_weak (pe_revX h.pe) fun σ H Q ⟨G, E, k⟩ => ⟨G, E, fun v G1 H1 g1 E1 r1 => by
    cases r1
    exact ⟨sx l, rfl, by rw [sx_len]; exact hz, k _ G1 H1 g1 E1 .str⟩⟩⟩
/-- [elt for x in iter] where a turn changes what the names hold -/
theorem xl_mapS {elt iter : Expr} (jx : Nat) {x : Str} {p : Pos} {scope : Scope} (S : Nat → Store) (vs : List Dt) (hN : X.N.Nodup) (hi : XI c X (.Name x p) iter st ds (S 0)) (hlen : vs.length = ds.length) (hsz : ds.length ≤ 100000) (hn : ∀ i, i ≤ ds.length → (S i)[jx]? = some none)
    (hb : ∀ (i : Nat) d v, ds[i]? = some d → vs[i]? = some v → ∃ s2 : Store, s2.set jx none = S (i + 1) ∧ ∀ sh H C cl fp, XD c (BlkC X sh H scope C cl fp) elt ((S i).set jx (some (.fr d))) v s2)
    (hx : X.N[jx]? = some x := by rfl) (hloc : Loc (relabel scope X.env) x := by first | exact Or.inl rfl | exact Or.inr rfl) (hlocf : (scope.names.lookup x == some .cell) = true ∨ (relabel scope X.env).names.lookup x = some .local := by first | exact Or.inl rfl | exact Or.inr rfl) (ok : BlkOk X.N X.env.scope scope [(x, jx)] := by exact blkOk_by (by first | rfl | decide +kernel))
    (hc : X.calm = true := by rfl) (hs : ∀ x, foldedSetIterable iter X.env x = pure x := by intro _; rfl) :
    XL c X (.ListComp elt [⟨.Name x p, iter, [], 0⟩] scope pos) st vs (S ds.length) := by
  have q := xl_lc (c := c) (X := X) (elt := elt) (pos := pos) (g := gName jx) (ow := [(x, jx)]) S (vs.map some) hN hi (by rw [List.length_map, hlen]) hsz (fun i h q hq => by
      rw [List.mem_singleton.mp hq]; exact hn i h) (fun i d r h1 h2 => by
      rw [List.getElem?_map] at h2
      cases hv : vs[i]? with
      | none => rw [hv] at h2; cases h2
      | some v =>
        rw [hv] at h2
        cases h2
        obtain ⟨s2, e2, hb2⟩ := hb i d v h1 hv
        exact ⟨_, true, _, tgt_name, .nil, .inr ⟨rfl, v, s2, rfl, e2.symm, hb2⟩⟩) (fun s H C cl fp => pg_name (X := BlkC X s H scope C cl fp) hN hx hloc hlocf) (by decide) ok hc hs
  rw [collect_some] at q
  exact q
/-- != of an own instance and a tuple, by the class's own == -/
def rNeX (K : PySem.W.Frag) (C : Addr) (sp : Sp) (E : XK) : R2 := fun x y H Q => (∃ p dx gs, x = .ref p ∧ H p = some (.ins C dx gs)) ∧ (∃ q xs, y = .ref q ∧ SqT K H q xs) ∧ sp [x, y] H (fun v H' => ∃ t, v = .bl t ∧ Q (.bl (!t)) H') E
theorem op_neX {CX : CXT} {f C : Addr} {fd : FuncData} {ps : List Str} {E : XK} {sp : Sp} (F : FnOk X.prog X.w X.K X.mg X.base CX k f fd ps sp) (hr : Room (k + 1) X.A) (M : EqNe X.K C f) (hnt : PySem.W.notFirst X.K C (.type "tuple") = true) (hb : Binds X.K fd ps []) (hx : Passes CX X E) :
    OpR X (compareOp .NotEq) (rNeX X.K C sp E) := by
  intro pins s σ H x y vx vy Q I rx ry h
  obtain ⟨⟨p, dx, gs, rfl, hp⟩, ⟨q, xs, rfl, hq⟩, hsp⟩ := h
  cases rx
  cases ry
  obtain ⟨mA, J, _⟩ := ins_get I.hok hp
  obtain ⟨od, J, _⟩ := J.look
  obtain ⟨its, r, ht, hz⟩ := I.tuple hq
  obtain ⟨o, ho, hc, _⟩ := id ht
  have hl : PySem.W.Looks (model X.prog X.w) s.heap (typeOf (.ref q)) (.type "tuple") := fun A Q E s' k qq => wpAny_typeOf_ref (k _ _ ho) (by rw [hc]; exact qq)
  show wpAny (model X.prog X.w) X.A (richCompare .NotEq (.ref p) (.ref q)) (EP X pins σ Q) X.xe s
  refine ne_rich (K := X.K) (by have := hr.un; omega) I.kIn J M.ob M.eq M.fn M.ne hl hnt (thn (run_in1 (vs := [.ref p, .ref q]) (us := [.ref p, .ref q]) F hr hb hx I (.cons rfl (.cons rfl .nil)) hsp) fun u s' z => ?_)
  obtain ⟨w, H1, I1, r, t, rfl, q1⟩ := z
  cases r
  exact ⟨t, rfl, .bl (!t), H1, I1, rfl, q1⟩
theorem xd_neX {R : List Dt → Dt → Prop} {x : Str} {C : Addr} {ns : List Str} (ha : XD c X a st (.obj n fs) st1) (hb1 : XD c X b st1 (.tup xs) st2) (Q : CF X.K c.T X.mg x n C ns) (F : MF X.prog X.w X.K c.T X.mg X.base C "__eq__" k R) (hK : X.K = c.K) (hr : Room (k + 1) X.A)
    (hne : PySem.W.findIn X.K (.ref C) "__ne__" = some (some (.builtin "object.__ne__"))) (hob : PySem.W.mroIn X.K C (.type "object") = some true) (hnt : PySem.W.notFirst X.K C (.type "tuple") = true)
    (hR : R [.obj n fs, .tup xs] (.bl t)) : XD c X (.Compare a [.NotEq] [b] pos) st (.bl (!t)) st2 := by
  obtain ⟨f, fd, ps, F, hf, hb⟩ := F.ex
  rw [hK] at F
  refine xd_cmp ha hb1 (op_neX (E := fun _ _ _ => False) (sp := spD c.K c.T R) (by rw [hK]; exact F) hr ⟨hf.at_, hf.fn, hne, hob⟩ hnt hb pass0) (fun G H x y Q' ex r1 r2 kk => ?_) (nomark _)
  obtain ⟨C1, ns1, p, dx, vs1, rfl, t1, hp, _, _⟩ := id r1.obj_inv
  have eT := Q.at_
  rw [t1] at eT
  cases eT
  obtain ⟨q, vs, rfl, s2, _⟩ := id r2.tup_inv
  refine ⟨⟨p, dx, _, rfl, ex _ _ hp⟩, ⟨q, vs, rfl, by rw [hK]; exact ex.st s2⟩, G, _, _, ex, .cons r1 (.cons r2 .nil), hR, fun v G' H' g e' r' => ?_⟩
  cases r'
  exact ⟨t, rfl, kk _ G' H' (gw_of g e') .bl⟩
end Dv
set_option autoImplicit false
namespace Mq
/-- the common divisor with the sign of the denominator -/
def cm (n d : Int) : Int := if d < 0 then -((Nat.gcd n.natAbs d.natAbs : Nat) : Int) else ((Nat.gcd n.natAbs d.natAbs : Nat) : Int)
theorem cm_eq (n d : Int) (h : d ≠ 0) : cm n d = d.sign * (Int.gcd d n : Int) := by
  unfold cm
  have e : (Int.gcd d n : Int) = ((Nat.gcd n.natAbs d.natAbs : Nat) : Int) := by
    show ((Nat.gcd d.natAbs n.natAbs : Nat) : Int) = _
    rw [Nat.gcd_comm]
  rw [e]
  split
  · rw [Int.sign_eq_neg_one_of_neg (by assumption)]; omega
  · rw [Int.sign_eq_one_of_pos (by omega)]; omega
theorem gcd_pos {n d : Int} (h : d ≠ 0) : 0 < (Int.gcd d n : Int) := by
  have : 0 < Int.gcd d n := Int.gcd_pos_of_ne_zero_left n h
  omega
theorem cm_ne {n d : Int} (h : d ≠ 0) : cm n d ≠ 0 := by
  rw [cm_eq n d h]
  have := gcd_pos (n := n) h
  have s : d.sign ≠ 0 := by
    intro z; exact h (Int.sign_eq_zero_iff_zero.mp z)
  exact Int.mul_ne_zero s (by omega)
theorem cm_le {n d : Int} (h : d ≠ 0) : (cm n d).natAbs ≤ d.natAbs := by
  unfold cm
  have q : Nat.gcd n.natAbs d.natAbs ≤ d.natAbs := Nat.gcd_le_right _ (by omega)
  split <;> omega
theorem cm_dvd_d (n d : Int) : cm n d ∣ d := by
  have q : ((Nat.gcd n.natAbs d.natAbs : Nat) : Int) ∣ d := by
    exact Int.ofNat_dvd_left.mpr (Nat.gcd_dvd_right _ _)
  unfold cm
  split
  · exact Int.neg_dvd.mpr q
  · exact q
theorem cm_dvd_n (n d : Int) : cm n d ∣ n := by
  have q : ((Nat.gcd n.natAbs d.natAbs : Nat) : Int) ∣ n := by
    exact Int.ofNat_dvd_left.mpr (Nat.gcd_dvd_left _ _)
  unfold cm
  split
  · exact Int.neg_dvd.mpr q
  · exact q
theorem cm_num {n d : Int} (h : d ≠ 0) : n.fdiv (cm n d) = (Rat.divInt n d).num := by
  rw [Rat.num_divInt]
  have g := gcd_pos (n := n) h
  have hdn : (Int.gcd d n : Int) ∣ n := Int.gcd_dvd_right d n
  rw [cm_eq n d h]
  by_cases hd : d < 0
  · rw [Int.sign_eq_neg_one_of_neg hd]
    obtain ⟨k, hk⟩ := hdn
    have g' : (Int.gcd d n : Int) ≠ 0 := by omega
    generalize (Int.gcd d n : Int) = gg at *
    subst hk
    have e1 : (-1 : Int) * (gg * k) = gg * (-k) := by rw [Int.mul_neg]; omega
    rw [e1, Int.mul_ediv_cancel_left _ g']
    have e2 : gg * k = (-1 * gg) * (-k) := by rw [Int.mul_neg, Int.neg_mul, Int.neg_mul]; simp
    rw [e2, Int.mul_fdiv_cancel_left _ (by omega)]
  · rw [Int.sign_eq_one_of_pos (by omega), Int.one_mul, Int.one_mul]
    rw [Int.fdiv_eq_ediv_of_nonneg _ (by omega)]
theorem cm_den {n d : Int} (h : d ≠ 0) : d.fdiv (cm n d) = ((Rat.divInt n d).den : Int) := by
  rw [Rat.den_divInt, if_neg h]
  have g := gcd_pos (n := n) h
  have hdn : (Int.gcd d n : Int) ∣ d := Int.gcd_dvd_left d n
  rw [cm_eq n d h, Int.natCast_ediv]
  by_cases hd : d < 0
  · rw [Int.sign_eq_neg_one_of_neg hd]
    have e : ((d.natAbs : Nat) : Int) = -d := by omega
    rw [e]
    obtain ⟨k, hk⟩ := hdn
    have g' : (Int.gcd d n : Int) ≠ 0 := by omega
    generalize (Int.gcd d n : Int) = gg at *
    subst hk
    have e1 : -(gg * k) = gg * (-k) := by rw [Int.mul_neg]
    rw [e1, Int.mul_ediv_cancel_left _ g']
    have e2 : gg * k = (-1 * gg) * (-k) := by rw [Int.mul_neg, Int.neg_mul, Int.neg_mul]; simp
    rw [e2, Int.mul_fdiv_cancel_left _ (by omega)]
  · rw [Int.sign_eq_one_of_pos (by omega), Int.one_mul]
    have e : ((d.natAbs : Nat) : Int) = d := by omega
    rw [e, Int.fdiv_eq_ediv_of_nonneg _ (by omega)]

theorem den_ne (q : Rat) : (q.den : Int) ≠ 0 := by have := q.den_nz; omega
theorem add_q (a b : Rat) : Rat.divInt (a.num * b.den + b.num * a.den) (a.den * b.den) = a + b := by
  rw [← Rat.divInt_add_divInt _ _ (den_ne a) (den_ne b), Rat.num_divInt_den, Rat.num_divInt_den]
theorem sub_q (a b : Rat) : Rat.divInt (a.num * b.den - b.num * a.den) (a.den * b.den) = a - b := by
  rw [← Rat.divInt_sub_divInt _ _ (den_ne a) (den_ne b), Rat.num_divInt_den, Rat.num_divInt_den]
theorem mul_q (a b : Rat) : Rat.divInt (a.num * b.num) (a.den * b.den) = a * b := by
  rw [← Rat.divInt_mul_divInt, Rat.num_divInt_den, Rat.num_divInt_den]
theorem self_q (a : Rat) : Rat.divInt a.num a.den = a := Rat.num_divInt_den a

/-! ### sizes -/
/-- numerator and denominator of at most k bits -/
def Sz (k : Nat) (q : Rat) : Prop := q.num.natAbs < 2 ^ k ∧ q.den < 2 ^ k
theorem Sz.mono {k m : Nat} {q : Rat} (h : Sz k q) (l : k ≤ m) : Sz m q := by
  have := Nat.pow_le_pow_right (show 0 < 2 by decide) l
  exact ⟨by have := h.1; omega, by have := h.2; omega⟩
theorem divInt_sz {n d : Int} {k : Nat} (hd : d ≠ 0) (h1 : n.natAbs < 2 ^ k) (h2 : d.natAbs < 2 ^ k) : Sz k (Rat.divInt n d) := by
  have g := gcd_pos (n := n) hd
  constructor
  · rw [Rat.num_divInt, Int.natAbs_ediv_of_dvd (Int.dvd_trans (Int.gcd_dvd_right d n) (Int.dvd_mul_left _ _)), Int.natAbs_mul]
    refine Nat.lt_of_le_of_lt (Nat.div_le_self _ _) ?_
    have : d.sign.natAbs ≤ 1 := by
      rcases Int.lt_trichotomy d 0 with q | q | q
      · rw [Int.sign_eq_neg_one_of_neg q]; decide
      · exact absurd q hd
      · rw [Int.sign_eq_one_of_pos q]; decide
    have e : d.sign.natAbs * n.natAbs ≤ 1 * n.natAbs := Nat.mul_le_mul_right _ this
    omega
  · rw [Rat.den_divInt, if_neg hd]
    exact Nat.lt_of_le_of_lt (Nat.div_le_self _ _) h2
theorem nat_mul_lt {a b j k : Nat} (ha : a < 2 ^ j) (hb : b < 2 ^ k) : a * b < 2 ^ (j + k) := by
  rw [Nat.pow_add]
  exact Nat.mul_lt_mul'' ha hb
theorem Sz.mul {j k : Nat} {a b : Rat} (ha : Sz j a) (hb : Sz k b) : Sz (j + k) (a * b) := by
  rw [← mul_q]
  refine divInt_sz (Int.mul_ne_zero (den_ne a) (den_ne b)) ?_ ?_
  · rw [Int.natAbs_mul]; exact nat_mul_lt ha.1 hb.1
  · rw [Int.natAbs_mul]; exact nat_mul_lt ha.2 hb.2
theorem Sz.lin {j k : Nat} {a b : Rat} (ha : Sz j a) (hb : Sz k b) : (a.num * b.den).natAbs < 2 ^ (j + k) ∧ (b.num * a.den).natAbs < 2 ^ (j + k) ∧ ((a.den : Int) * b.den).natAbs < 2 ^ (j + k) := by
  refine ⟨?_, ?_, ?_⟩
  · rw [Int.natAbs_mul]; exact nat_mul_lt ha.1 hb.2
  · rw [Int.natAbs_mul, Nat.mul_comm]; exact nat_mul_lt ha.2 hb.1
  · rw [Int.natAbs_mul]; exact nat_mul_lt ha.2 hb.2
theorem Sz.add {j k : Nat} {a b : Rat} (ha : Sz j a) (hb : Sz k b) : Sz (j + k + 1) (a + b) := by
  obtain ⟨h1, h2, h3⟩ := Sz.lin ha hb
  rw [← add_q]
  have : 2 ^ (j + k + 1) = 2 ^ (j + k) * 2 := Nat.pow_succ ..
  exact divInt_sz (Int.mul_ne_zero (den_ne a) (den_ne b)) (by omega) (by omega)
theorem Sz.sub {j k : Nat} {a b : Rat} (ha : Sz j a) (hb : Sz k b) : Sz (j + k + 1) (a - b) := by
  obtain ⟨h1, h2, h3⟩ := Sz.lin ha hb
  rw [← sub_q]
  have : 2 ^ (j + k + 1) = 2 ^ (j + k) * 2 := Nat.pow_succ ..
  exact divInt_sz (Int.mul_ne_zero (den_ne a) (den_ne b)) (by omega) (by omega)
theorem Sz.zero {k : Nat} (h : 1 ≤ k) : Sz k 0 := by
  have := Nat.pow_le_pow_right (show 0 < 2 by decide) h
  exact ⟨by show 0 < _; omega, by show 1 < _; omega⟩
theorem Sz.one {k : Nat} (h : 1 ≤ k) : Sz k 1 := by
  have := Nat.pow_le_pow_right (show 0 < 2 by decide) h
  exact ⟨by show 1 < _; omega, by show 1 < _; omega⟩
theorem log2_lt {j : Int} {k : Nat} (h : j ≠ 0) (hj : j.natAbs < 2 ^ k) (hk : k ≤ 9000) : j.natAbs.log2 < 9000 := by
  have := (Nat.log2_lt (n := j.natAbs) (k := k) (by omega)).mpr hj
  omega

/-! ### Euclid's steps -/
def euS (p : Nat × Nat) : Nat × Nat := (p.2, p.1 % p.2)
def eu (p : Nat × Nat) : Nat → Nat × Nat
  | 0 => p
  | i + 1 => euS (eu p i)
theorem eu_shift (p : Nat × Nat) (i : Nat) : eu (euS p) i = eu p (i + 1) := by
  induction i with
  | zero => rfl
  | succ i ih => show euS (eu (euS p) i) = euS (eu p (i + 1)); rw [ih]
theorem eu_gcd (p : Nat × Nat) (i : Nat) : Nat.gcd (eu p i).1 (eu p i).2 = Nat.gcd p.1 p.2 := by
  induction i with
  | zero => rfl
  | succ i ih =>
    show Nat.gcd (eu p i).2 ((eu p i).1 % (eu p i).2) = _
    rw [← ih, Nat.gcd_comm (eu p i).1 (eu p i).2, Nat.gcd_comm (eu p i).2 ((eu p i).1 % (eu p i).2)]
    exact (Nat.gcd_rec _ _).symm
theorem eu_stop : ∀ (y x : Nat), ∃ n, (∀ i, i < n → (eu (x, y) i).2 ≠ 0) ∧ (eu (x, y) n).2 = 0 := by
  intro y
  induction y using Nat.strongRecOn with
  | _ y ih =>
    intro x
    by_cases h : y = 0
    · exact ⟨0, fun i hi => absurd hi (Nat.not_lt_zero i), h⟩
    · obtain ⟨n, h1, h2⟩ := ih (x % y) (Nat.mod_lt _ (by omega)) y
      refine ⟨n + 1, fun i hi => ?_, ?_⟩
      · cases i with
        | zero => exact h
        | succ i => rw [← eu_shift]; exact h1 i (by omega)
      · rw [← eu_shift]; exact h2
end Mq
set_option autoImplicit false
set_option maxRecDepth 100000
set_option maxHeartbeats 4000000
namespace My
open PySem PySem.Spec PyProof.Rows L2 Dv
def topS (i : Nat) : Stmt := PySem.Challenge.pw_wordweight_k10_weights_of_machines.main.body.getD i (.Pass ⟨0, 0, 0, 0⟩)
abbrev sState : Stmt := topS 30
abbrev sTake : Stmt := topS 31
def dInts (ns : List Int) : List Dt := ns.map .int
theorem bits64 {i : Int} (h : -2 ^ 64 < i) (h' : i < 2 ^ 64) : Builtin.Int.intBits i ≤ 64 := intBits_le_64 h h'
def slot (g : Nat → Dt) : Nat → Option Sv
  | 0 => none
  | i + 1 => some (.fr (g i))
theorem rng_get {n i : Nat} {d : Dt} (h : ((List.range n).map fun (i : Nat) => Dt.int i)[i]? = some d) : i < n ∧ d = .int i := by
  rw [List.getElem?_map] at h
  by_cases q : i < n
  · rw [List.getElem?_range q] at h; cases h; exact ⟨q, rfl⟩
  · rw [List.getElem?_eq_none (by simpa using q)] at h; cases h
/-! ### the law's own numbers -/
def seedL (ns : List Int) (s : Int) : Nat → Int
  | 0 => s
  | i + 1 => seedL ns s i * 1000003 + ((ns.getD i 0).natAbs : Int)
def totL (ns : List Int) (t : Int) : Nat → Int
  | 0 => t
  | i + 1 => (totL ns t i * 48271 + ns.getD i 0) % 2147483647
theorem totL_lt (ns : List Int) : ∀ i, 0 ≤ totL ns 1 i ∧ totL ns 1 i < 2147483647
  | 0 => by show (0 : Int) ≤ 1 ∧ (1 : Int) < 2147483647; decide
  | i + 1 => ⟨Int.emod_nonneg _ (by decide), Int.emod_lt_of_pos _ (by decide)⟩
theorem seedL_nn (ns : List Int) : ∀ i, 0 ≤ seedL ns 0 i
  | 0 => Int.le_refl 0
  | i + 1 => by have := seedL_nn ns i; show 0 ≤ seedL ns 0 i * 1000003 + _; omega
/-- what the state may be -/
structure StOk (s t : Int) : Prop where
  s0 : 0 ≤ s
  t0 : 0 ≤ t
  t1 : t < 2147483647
def stOf (ns : List Int) : Int × Int := (seedL (ns.take 63) 0 (ns.take 63).length, totL (ns.take 63) 1 (ns.take 63).length)
theorem stOf_ok (ns : List Int) : StOk (stOf ns).1 (stOf ns).2 := ⟨seedL_nn _ _, (totL_lt _ _).1, (totL_lt _ _).2⟩
section
variable {P : Program} {w : World} {K : PySem.W.Frag} {T : Ct} {mg : Str → Option Value} {base : Heap} {f : Addr} {fd : FuncData}
def RState (ds xs : List Dt) : Prop := ∃ ns : List Int, ds = [.ro (dInts ns)] ∧ xs = [.int (stOf ns).1, .int (stOf ns).2]
abbrev nState : List Str := ["script", "seed", "total_v", "cell"]
theorem scState : FnScope nState ["script"] (defScope sState) := ⟨rfl, rfl, rfl, by decide +kernel, rfl, by decide +kernel, by decide +kernel⟩
theorem ok_state (F : Fun K "_law_state" "_law_state" sState f fd) (hint : mg "int" = none) (habs : mg "abs" = none) : FnOk P w K mg base CX0 1 f fd ["script"] (spL K T RState) := by
  refine okL F scState (fun ds r h => by obtain ⟨_, rfl, _⟩ := h; rfl) fun cdv A outer s H E pa ds xs hr hR => ?_
  obtain ⟨ns, rfl, rfl⟩ := hR
  let m := ns.take 63
  let S : Nat → Store := fun i => [some (.fr (.ro (dInts ns))), some (.fr (.int (seedL m 0 i))), some (.fr (.int (totL m 1 i))), slot (fun i => .int (m.getD i 0)) i]
  have et : (dInts ns).take 63 = dInts m := by unfold dInts; rw [← List.map_take]
  refine xr_cons (xp_set 1 scState.nd xd_int) (xr_cons (XP.to (s2 := S 0) (xp_set 2 scState.nd xd_int) rfl)
    (xr_cons (XP.to (s2 := S m.length) (xp_forN S m.length (by rw [et]; exact List.length_map ..) (xi_list (ds := (dInts ns).take 63) rfl (xd_cutHiR (xd_var 0) xd_int (by decide) rfl)) ?_) rfl)
    (xr_ret (xl_lst (xa_cons (xd_var 1) (xa_cons (xd_var 2) xa_nil)) (by simp)))))
  intro i d hd
  rw [et] at hd
  unfold dInts at hd
  rw [List.getElem?_map] at hd
  cases e : m[i]? with
  | none => rw [e] at hd; cases hd
  | some v =>
    rw [e] at hd
    cases hd
    have ev : m.getD i 0 = v := by rw [List.getD_eq_getElem?_getD, e]; rfl
    refine Turns.nx (xg_name 3 scState.nd) (xs_cons (xp_set 1 scState.nd (xd_add (xd_mul (xd_var 1) xd_int (IntMulOk.of_right (bits64 (by decide) (by decide)))) (xd_abs (xd_var 3) habs)))
      (xs_one (xp_set 2 scState.nd (xd_mod (xd_intI (xd_add (xd_mul (xd_var 2) xd_int (IntMulOk.of_right (bits64 (by decide) (by decide)))) (xd_var 3)) hint) xd_int (by decide))))) ?_
    show _ = [_, some (Sv.fr (.int (seedL m 0 i * 1000003 + ((m.getD i 0).natAbs : Int)))), some (Sv.fr (.int ((totL m 1 i * 48271 + m.getD i 0) % 2147483647))), some (Sv.fr (.int (m.getD i 0)))]
    rw [ev]; rfl
/-- one number below m, and the state behind -/
def takeV (s t m : Int) : Int := if 0 < s then s % m else ((t * 48271 + 11) % 2147483647).fdiv 7 % m
def takeS (s t m : Int) : Int × Int := if 0 < s then (s.fdiv m, t) else (s, (t * 48271 + 11) % 2147483647)
theorem take_ok {s t m : Int} (h : StOk s t) (hm : 0 < m) : StOk (takeS s t m).1 (takeS s t m).2 := by
  unfold takeS
  split
  · exact ⟨by rw [Int.fdiv_eq_ediv_of_nonneg _ (by omega)]; exact Int.ediv_nonneg h.s0 (by omega), h.t0, h.t1⟩
  · exact ⟨h.s0, Int.emod_nonneg _ (by decide), Int.emod_lt_of_pos _ (by decide)⟩
theorem take_lt {s t m : Int} (hm : 0 < m) : 0 ≤ takeV s t m ∧ takeV s t m < m := by
  unfold takeV
  split
  · exact ⟨Int.emod_nonneg _ (by omega), Int.emod_lt_of_pos _ hm⟩
  · exact ⟨Int.emod_nonneg _ (by omega), Int.emod_lt_of_pos _ hm⟩
def RTake (xs ds : List Dt) (r : Dt) (ys : List Dt) : Prop := ∃ (s t m : Int), xs = [.int s, .int t] ∧ ds = [.int m] ∧ StOk s t ∧ 0 < m ∧ m < 2 ^ 60 ∧ r = .int (takeV s t m) ∧ ys = [.int (takeS s t m).1, .int (takeS s t m).2]
abbrev nTake : List Str := ["state", "m", "value"]
theorem scTake : FnScope nTake ["state", "m"] (defScope sTake) := ⟨rfl, rfl, rfl, by decide +kernel, rfl, by decide +kernel, by decide +kernel⟩
theorem ok_take (F : Fun K "_law_take" "_law_take" sTake f fd) (hint : mg "int" = none) : FnOk P w K mg base CX0 1 f fd ["state", "m"] (spM K T RTake) := by
  refine okM F scTake (fun xs ds r ys h => by obtain ⟨_, _, _, _, rfl, _⟩ := h; rfl) fun cdv A outer s' H E pa xs ds r ys hr hR => ?_
  obtain ⟨s, t, m, rfl, rfl, ok, hm, hm2, rfl, rfl⟩ := hR
  by_cases hs : 0 < s
  · have e1 : takeV s t m = s % m := if_pos hs
    have e2 : takeS s t m = (s.fdiv m, t) := if_pos hs
    rw [e1, e2]
    exact ⟨_, xs_ret (xp_if (tb := true) (xt_gt (xd_ixO 0 (m := 0) (s := .pr 0 [.int s, .int t]) xd_int rfl rfl .pr rfl rfl) xd_int (decide_eq_true hs))
      (fun _ => xs_cons (xp_set 2 scTake.nd (xd_mod (xd_intI (xd_ixO 0 (m := 0) (s := .pr 0 [.int s, .int t]) xd_int rfl rfl .pr rfl rfl) hint) (xd_var 1) hm))
        (xs_cons (xp_setI 0 (m := 0) (s := .pr 0 [.int s, .int t]) (xd_fdiv (xd_ixO 0 (m := 0) (s := .pr 0 [.int s, .int t]) xd_int rfl rfl .pr rfl rfl) (xd_var 1) (by omega) (log2_small (by omega) (by omega))) xd_int rfl rfl .pr rfl (by simp))
        (xs_one (xp_ret (xd_var 2))))) (fun z => nomatch z)), rfl⟩
  · have e1 : takeV s t m = ((t * 48271 + 11) % 2147483647).fdiv 7 % m := if_neg hs
    have e2 : takeS s t m = (s, (t * 48271 + 11) % 2147483647) := if_neg hs
    rw [e1, e2]
    exact ⟨_, xs_cons (xp_if (tb := false) (xt_gt (xd_ixO 0 (m := 0) (s := .pr 0 [.int s, .int t]) xd_int rfl rfl .pr rfl rfl) xd_int (decide_eq_false hs)) (fun z => nomatch z) (fun _ => xs_nil))
      (xs_cons (xp_setI 0 (m := 1) (s := .pr 0 [.int s, .int t]) (xd_mod (xd_intI (xd_add (xd_mul (xd_ixO 0 (m := 1) (s := .pr 0 [.int s, .int t]) xd_int rfl rfl .pr rfl rfl) xd_int (IntMulOk.of_right (bits64 (by decide) (by decide)))) xd_int) hint) xd_int (by decide)) xd_int rfl rfl .pr rfl (by simp))
      (xs_one (xp_ret (xd_mod (xd_intI (xd_fdiv (xd_ixO 0 (m := 1) (s := .pr 0 [.int s, .int ((t * 48271 + 11) % 2147483647)]) xd_int rfl rfl .pr rfl rfl) xd_int (by decide) (by decide)) hint) (xd_var 1) hm)))), rfl⟩
end
end My
set_option autoImplicit false
set_option maxRecDepth 100000
set_option maxHeartbeats 4000000
namespace My
open PySem PySem.Spec PyProof.Rows L2 Dv
section
variable {P : Program} {w : World} {K : PySem.W.Frag} {T : Ct} {mg : Str → Option Value} {base : Heap} {f : Addr} {fd : FuncData}
abbrev sLetters : Stmt := topS 35
abbrev sWord : Stmt := topS 36
/-- the law's draws: the state, the signs left, the signs found -/
structure LS where
  s : Int
  t : Int
  sg : List Nat
  fd : List Nat
def LS.step (q : LS) : LS :=
  let v := (takeV q.s q.t q.sg.length).toNat
  ⟨(takeS q.s q.t q.sg.length).1, (takeS q.s q.t q.sg.length).2, q.sg.take v ++ q.sg.drop (v + 1), q.fd ++ [q.sg.getD v 0]⟩
def LS.run (q : LS) : Nat → LS
  | 0 => q
  | i + 1 => (q.run i).step
def marks0 : List Nat := [97, 98, 99, 120, 122]
structure LS.Ok (q : LS) (i : Nat) : Prop where
  st : StOk q.s q.t
  len : q.sg.length + i = 5
  fl : q.fd.length = i
theorem LS.step_ok {q : LS} {i : Nat} (h : q.Ok i) (hi : i < 5) : q.step.Ok (i + 1) := by
  have hp : (0 : Int) < q.sg.length := by have := h.len; omega
  obtain ⟨v0, v1⟩ := take_lt (s := q.s) (t := q.t) hp
  refine ⟨take_ok h.st hp, ?_, ?_⟩
  · show (q.sg.take _ ++ q.sg.drop _).length + (i + 1) = 5
    rw [List.length_append, List.length_take, List.length_drop]
    have := h.len
    omega
  · show (q.fd ++ [_]).length = i + 1
    rw [List.length_append, h.fl]; rfl
theorem LS.run_ok {q : LS} (h : q.Ok 0) : ∀ i, i ≤ 5 → (q.run i).Ok i
  | 0, _ => h
  | i + 1, hi => LS.step_ok (LS.run_ok h i (by omega)) (by omega)
def letQ (s t most : Int) : LS := ⟨(takeS s t most).1, (takeS s t most).2, marks0, []⟩
def letN (s t most : Int) : Nat := (1 + takeV s t most).toNat
def RLetters (xs ds : List Dt) (r : Dt) (ys : List Dt) : Prop := ∃ (s t most : Int), xs = [.int s, .int t] ∧ ds = [.int most] ∧ StOk s t ∧ 0 < most ∧ most ≤ 5 ∧ r = .str (sx ((letQ s t most).run (letN s t most)).fd) ∧ ys = [.int ((letQ s t most).run (letN s t most)).s, .int ((letQ s t most).run (letN s t most)).t]
abbrev nLetters : List Str := ["state", "most", "marks", "found", "k", "at"]
theorem scLetters : FnScope nLetters ["state", "most"] (defScope sLetters) := ⟨rfl, rfl, rfl, by decide +kernel, rfl, by decide +kernel, by decide +kernel⟩
theorem ok_letters (F : Fun K "_law_letters" "_law_letters" sLetters f fd) (Tk : DM P w K T mg base "_law_take" 1 RTake) (hran : mg "range" = none) (hlen : mg "len" = none) : FnOk P w K mg base CX0 2 f fd ["state", "most"] (spM K T RLetters) := by
  refine okM F scLetters (fun xs ds r ys h => by obtain ⟨_, _, _, _, rfl, _⟩ := h; rfl) fun cdv A outer s' H E pa xs ds r ys hr hR => ?_
  obtain ⟨s, t, most, rfl, rfl, ok, hm, hm2, rfl, rfl⟩ := hR
  obtain ⟨v0, v1⟩ := take_lt (s := s) (t := t) hm
  have q0 : (letQ s t most).Ok 0 := ⟨take_ok ok hm, rfl, rfl⟩
  have hN : letN s t most ≤ 5 := by unfold letN; omega
  let S : Nat → Store := fun i => [some (.pr 0 [.int ((letQ s t most).run i).s, .int ((letQ s t most).run i).t]), some (.fr (.int most)), some (.fr (.str (sx ((letQ s t most).run i).sg))), some (.fr (.str (sx ((letQ s t most).run i).fd))), slot (fun i => .int i) i, slot (fun i => .int (takeV ((letQ s t most).run i).s ((letQ s t most).run i).t ((letQ s t most).run i).sg.length)) i]
  refine ⟨_, xs_cons (xp_set 2 scLetters.nd xd_str) (xs_cons (xp_set 3 scLetters.nd xd_str)
    (xs_cons (XP.to (s2 := S (letN s t most)) (xp_forN S (letN s t most) (by rw [List.length_map, List.length_range]; rfl) (xi_range1 (n := 1 + takeV s t most) (xd_add xd_int (xd_dm 0 (s := .pr 0 [.int s, .int t]) Tk rfl hr (xa_cons (xd_var 1) xa_nil) rfl rfl .pr ⟨s, t, most, rfl, rfl, ok, hm, by omega, rfl, rfl⟩)) (by omega) (by omega) hran) ?_) rfl)
    (xs_one (xp_ret (xd_var 3))))), rfl⟩
  intro i d hd
  obtain ⟨hi, rfl⟩ := rng_get (n := letN s t most) hd
  have qi := LS.run_ok q0 i (by omega)
  generalize hq : (letQ s t most).run i = q at qi
  have hp : (0 : Int) < q.sg.length := by have := qi.len; omega
  obtain ⟨u0, u1⟩ := take_lt (s := q.s) (t := q.t) hp
  have hml : q.sg.length ≤ 5 := by have := qi.len; omega
  have hfl : q.fd.length ≤ 5 := by have := qi.fl; omega
  have hv : (takeV q.s q.t q.sg.length).toNat < q.sg.length := by omega
  have eS : S i = [some (.pr 0 [.int q.s, .int q.t]), some (.fr (.int most)), some (.fr (.str (sx q.sg))), some (.fr (.str (sx q.fd))), slot (fun i => .int i) i, slot (fun i => .int (takeV ((letQ s t most).run i).s ((letQ s t most).run i).t ((letQ s t most).run i).sg.length)) i] := by
    show [_, _, _, _, _, _] = _
    rw [hq]
  rw [eS]
  refine Turns.nx (xg_name 4 scLetters.nd) (xs_cons (xp_set 5 scLetters.nd (xd_dm 0 (s := .pr 0 [.int q.s, .int q.t]) Tk rfl hr (xa_cons (xd_lenX (xd_var 2) (by omega) hlen) xa_nil) rfl rfl .pr ⟨q.s, q.t, q.sg.length, rfl, rfl, qi.st, hp, by omega, rfl, rfl⟩))
    (xs_cons (xp_set 3 scLetters.nd (xd_addX (xd_var 3) (xd_ixX (k := (takeV q.s q.t q.sg.length).toNat) (q := q.sg.getD (takeV q.s q.t q.sg.length).toNat 0) (xd_var 2) (xd_var 5) (by omega) (by omega) (by rw [List.getD_eq_getElem?_getD, List.getElem?_eq_getElem hv]; rfl)) (by simp; omega)))
    (xs_one (xp_set 2 scLetters.nd (xd_addX (xd_cutHiX (xd_var 2) (xd_var 5) u0 (by omega)) (xd_cutLoX (xd_var 2) (xd_add (xd_var 5) xd_int) (by omega) (by omega)) (by rw [List.length_take, List.length_drop]; omega)))))) ?_
  have e1 : (letQ s t most).run (i + 1) = q.step := by show ((letQ s t most).run i).step = _; rw [hq]
  show _ = [some (Sv.pr 0 [.int ((letQ s t most).run (i + 1)).s, .int ((letQ s t most).run (i + 1)).t]), _, some (Sv.fr (.str (sx ((letQ s t most).run (i + 1)).sg))), some (Sv.fr (.str (sx ((letQ s t most).run (i + 1)).fd))), some (Sv.fr (.int i)), some (Sv.fr (.int (takeV ((letQ s t most).run i).s ((letQ s t most).run i).t ((letQ s t most).run i).sg.length)))]
  rw [e1, hq]
  show _ = [some (Sv.pr 0 [.int (takeS q.s q.t q.sg.length).1, .int (takeS q.s q.t q.sg.length).2]), _, some (Sv.fr (.str (sx (q.sg.take (takeV q.s q.t q.sg.length).toNat ++ q.sg.drop ((takeV q.s q.t q.sg.length).toNat + 1))))), _, _, _]
  rw [show (takeV q.s q.t q.sg.length).toNat + 1 = (takeV q.s q.t q.sg.length + 1).toNat from by omega]; rfl
end
end My
set_option autoImplicit false
set_option maxRecDepth 100000
set_option maxHeartbeats 4000000
namespace My
open PySem PySem.Spec PyProof.Rows L2 Dv
section
variable {P : Program} {w : World} {K : PySem.W.Frag} {T : Ct} {mg : Str → Option Value} {base : Heap} {f : Addr} {fd : FuncData}
/-- a word drawn sign by sign: the state, the word so far -/
structure WS where
  s : Int
  t : Int
  wd : List Nat
def WS.step (l : List Nat) (q : WS) : WS := ⟨(takeS q.s q.t l.length).1, (takeS q.s q.t l.length).2, q.wd ++ [l.getD (takeV q.s q.t l.length).toNat 0]⟩
def WS.run (l : List Nat) (q : WS) : Nat → WS
  | 0 => q
  | i + 1 => (WS.run l q i).step l
structure WS.Ok (l : List Nat) (q : WS) (i : Nat) : Prop where
  st : StOk q.s q.t
  len : q.wd.length = i
  mem : ∀ x ∈ q.wd, x ∈ l
theorem WS.step_ok {l : List Nat} {q : WS} {i : Nat} (hl : 0 < l.length) (h : q.Ok l i) : (q.step l).Ok l (i + 1) := by
  have hp : (0 : Int) < l.length := by omega
  obtain ⟨v0, v1⟩ := take_lt (s := q.s) (t := q.t) hp
  refine ⟨take_ok h.st hp, ?_, fun x hx => ?_⟩
  · show (q.wd ++ [_]).length = i + 1
    rw [List.length_append, h.len]; rfl
  · rcases List.mem_append.mp hx with g | g
    · exact h.mem x g
    · rw [List.mem_singleton.mp g, List.getD_eq_getElem?_getD, List.getElem?_eq_getElem (show (takeV q.s q.t l.length).toNat < l.length by omega)]
      exact List.getElem_mem _
theorem WS.run_ok {l : List Nat} {q : WS} (hl : 0 < l.length) (h : q.Ok l 0) : ∀ i, (WS.run l q i).Ok l i
  | 0 => h
  | i + 1 => WS.step_ok hl (WS.run_ok hl h i)
def worQ (s t most : Int) : WS := ⟨(takeS s t (most + 1)).1, (takeS s t (most + 1)).2, []⟩
def worN (s t most : Int) : Nat := (takeV s t (most + 1)).toNat
def RWord (xs ds : List Dt) (r : Dt) (ys : List Dt) : Prop := ∃ (s t most : Int) (l : List Nat), xs = [.int s, .int t] ∧ ds = [.str (sx l), .int most] ∧ StOk s t ∧ 0 ≤ most ∧ most ≤ 1000 ∧ 0 < l.length ∧ l.length ≤ 100 ∧ r = .str (sx (WS.run l (worQ s t most) (worN s t most)).wd) ∧ ys = [.int (WS.run l (worQ s t most) (worN s t most)).s, .int (WS.run l (worQ s t most) (worN s t most)).t]
abbrev nWord : List Str := ["state", "letters", "most", "word", "k"]
theorem scWord : FnScope nWord ["state", "letters", "most"] (defScope sWord) := ⟨rfl, rfl, rfl, by decide +kernel, rfl, by decide +kernel, by decide +kernel⟩
theorem ok_word (F : Fun K "_law_word" "_law_word" sWord f fd) (Tk : DM P w K T mg base "_law_take" 1 RTake) (hran : mg "range" = none) (hlen : mg "len" = none) : FnOk P w K mg base CX0 2 f fd ["state", "letters", "most"] (spM K T RWord) := by
  refine okM F scWord (fun xs ds r ys h => by obtain ⟨_, _, _, _, _, rfl, _⟩ := h; rfl) fun cdv A outer s' H E pa xs ds r ys hr hR => ?_
  obtain ⟨s, t, most, l, rfl, rfl, ok, hm, hm2, hl, hl2, rfl, rfl⟩ := hR
  have hm1 : 0 < most + 1 := by omega
  obtain ⟨v0, v1⟩ := take_lt (s := s) (t := t) hm1
  have q0 : (worQ s t most).Ok l 0 := ⟨take_ok ok hm1, rfl, fun x hx => nomatch hx⟩
  have hN : worN s t most ≤ 1000 := by unfold worN; omega
  let S : Nat → Store := fun i => [some (.pr 0 [.int (WS.run l (worQ s t most) i).s, .int (WS.run l (worQ s t most) i).t]), some (.fr (.str (sx l))), some (.fr (.int most)), some (.fr (.str (sx (WS.run l (worQ s t most) i).wd))), slot (fun i => .int i) i]
  refine ⟨_, xs_cons (xp_set 3 scWord.nd xd_str)
    (xs_cons (XP.to (s2 := S (worN s t most)) (xp_forN S (worN s t most) (by rw [List.length_map, List.length_range]; rfl) (xi_range1 (n := takeV s t (most + 1)) (xd_dm 0 (s := .pr 0 [.int s, .int t]) Tk rfl hr (xa_cons (xd_add (xd_var 2) xd_int) xa_nil) rfl rfl .pr ⟨s, t, most + 1, rfl, rfl, ok, hm1, by omega, rfl, rfl⟩) (by omega) (by omega) hran) ?_) rfl)
    (xs_one (xp_ret (xd_var 3)))), rfl⟩
  intro i d hd
  obtain ⟨hi, rfl⟩ := rng_get (n := worN s t most) hd
  have qi := WS.run_ok hl q0 i
  generalize hq : WS.run l (worQ s t most) i = q at qi
  have hp : (0 : Int) < l.length := by omega
  obtain ⟨u0, u1⟩ := take_lt (s := q.s) (t := q.t) hp
  have hv : (takeV q.s q.t l.length).toNat < l.length := by omega
  have hw := qi.len
  have eS : S i = [some (.pr 0 [.int q.s, .int q.t]), some (.fr (.str (sx l))), some (.fr (.int most)), some (.fr (.str (sx q.wd))), slot (fun i => .int i) i] := by
    show [_, _, _, _, _] = _
    rw [hq]
  rw [eS]
  refine Turns.nx (xg_name 4 scWord.nd) (xs_one (xp_set 3 scWord.nd (xd_addX (xd_var 3) (xd_ixX (k := (takeV q.s q.t l.length).toNat) (q := l.getD (takeV q.s q.t l.length).toNat 0) (xd_var 1) (xd_dm 0 (s := .pr 0 [.int q.s, .int q.t]) Tk rfl hr (xa_cons (xd_lenX (xd_var 1) (by omega) hlen) xa_nil) rfl rfl .pr ⟨q.s, q.t, l.length, rfl, rfl, qi.st, hp, by omega, rfl, rfl⟩) (by omega) (by omega) (by rw [List.getD_eq_getElem?_getD, List.getElem?_eq_getElem hv]; rfl)) (by simp; omega)))) ?_
  have e1 : WS.run l (worQ s t most) (i + 1) = q.step l := by show (WS.run l (worQ s t most) i).step l = _; rw [hq]
  show _ = [some (Sv.pr 0 [.int (WS.run l (worQ s t most) (i + 1)).s, .int (WS.run l (worQ s t most) (i + 1)).t]), _, _, some (Sv.fr (.str (sx (WS.run l (worQ s t most) (i + 1)).wd))), some (Sv.fr (.int i))]
  rw [e1]; rfl
end
end My
set_option autoImplicit true
set_option maxRecDepth 100000
set_option maxHeartbeats 4000000
namespace Dv
open PySem PySem.Spec PyProof.Rows L2
variable {c : Ctx} {X : Cx} {st st1 st2 st3 st' : Store} {a b e : Expr} {es : List Expr} {d d1 d2 d' : Dt} {ds xs ys fs gs : List Dt} {pos : Pos} {n m k : Nat} {r t : Bool} {G G' H H' : Hp}
theorem zip_take_len : ∀ (ns : List Str) (vs : List V), (ns.take vs.length).zip vs = ns.zip vs
  | [], vs => by simp
  | n :: ns, [] => by simp
  | n :: ns, v :: vs => by
    show (n, v) :: (ns.take vs.length).zip vs = (n, v) :: ns.zip vs
    rw [zip_take_len ns vs]
theorem lookup_zip_take {ns : List Str} {vs : List V} {f : Str} {v : V} {i k : Nat} (hi : ns.findIdx? (· == f) = some i) (hv : vs[i]? = some v) (hk : vs.length = k) : ((ns.take k).zip vs).lookup f = some v := by
  have e : (ns.take k).zip vs = ns.zip vs := by
    subst hk
    exact zip_take_len ns vs
  rw [e]
  exact lookup_zip hi hv
/-- a field of the instance that is being made -/
theorem xd_fldB {x f : Str} {C : Addr} {ns : List Str} {p1 : Pos} (i : Nat) (h0 : st[0]? = some (some (.bo n fs))) (hK : X.K = c.K) (hT : c.T n = some (C, ns)) (hc : Cls X.K C) (hna : NoAttr X.K C f) (hi : ns.findIdx? (· == f) = some i) (hd : fs[i]? = some d)
    (hN : X.N[0]? = some x := by rfl) (hv : Vis X.env.scope x := by first | exact Or.inl rfl | exact Or.inr (Or.inl rfl) | exact Or.inr (Or.inr rfl)) (hdb : (x == ("__debug__" : Str)) = false := by decide)
    (hcd : (x == ("__classdict__" : Str)) = false := by decide) (hb : attributeBase (.Name x p1) f X.env (eval (.Name x p1) X.env) = eval (.Name x p1) X.env := by rfl) : XD c X (.Attribute (.Name x p1) f pos) st d st := by
  refine ⟨pe_weak (pe_fld (pe_var hN hv hdb hcd) hb) fun σ H Q ⟨G, E, k⟩ => ?_⟩
  obtain ⟨v, h1, C', ns', dx, vs, t, rfl, n0, l, r⟩ := E.sl 0 _ h0
  rw [hT] at t
  cases t
  obtain ⟨v, g1, g2⟩ := r.get hd
  exact ⟨_, h1, c.pa 0, C, dx, _, v, rfl, l, hc, hna, lookup_zip_take hi g1 r.length.symm, k v G H Gr.refl E g2⟩
theorem xt_chain {op op' : CmpOp} {r r' : R2} {c3 : Expr} {d3 : Dt} {t u : Bool} (ha : XD c X a st d1 st) (hb : XD c X b st d2 st) (hc : XD c X c3 st d3 st) (ho : OpR X (compareOp op) r) (ho' : OpR X (compareOp op') r') (h1 : Op2 c d1 d2 (.bl t) r) (h2 : Op2 c d2 d3 (.bl u) r') (hm : lastMarks [op, op'] [b, c3] = false := by rfl) : XT c X (.Compare a [op, op'] [b, c3] pos) st (t && u) st :=
  ⟨pt_weak (pt_chain ho ho' ha.pe hb.pe hc.pe (hm := hm)) fun σ H Q ⟨G, E, k⟩ => ⟨G, E, fun x G1 H1 g1 E1 r1 => ⟨G1, E1, fun y G2 H2 g2 E2 r2 => h1 G2 H2 x y _ E2.ex (r1.ex g2.ex) r2 fun v G3 H3 g3 r3 => by
    cases r3
    refine ⟨t, rfl, ?_⟩
    cases t with
    | true =>
      refine L2.iteT ?_
      exact ⟨G3, E2.g1 g3, fun z G4 H4 g4 E4 r4 => h2 G4 H4 y z _ E4.ex (r2.ex (g3.ex.trans g4.ex)) r4 fun v G5 H5 g5 r5 => by
        cases r5
        exact ⟨u, rfl, k G5 H5 ((((g1.trans g2).trans g3.gr).trans g4).trans g5.gr) (E4.g1 g5)⟩⟩
    | false =>
      refine L2.iteF ?_
      exact ⟨false, rfl, k G3 H3 ((g1.trans g2).trans g3.gr) (E2.g1 g3)⟩⟩⟩⟩
theorem xt_leleI {i j m : Int} {c3 : Expr} (ha : XD c X a st (.int i) st) (hb : XD c X b st (.int j) st) (hc : XD c X c3 st (.int m) st) (ht : (decide (i ≤ j) && decide (j ≤ m)) = t) (hm : lastMarks [.LtE, .LtE] [b, c3] = false := by rfl) : XT c X (.Compare a [.LtE, .LtE] [b, c3] pos) st t st := by
  rw [← ht]
  exact xt_chain ha hb hc op_le op_le (o_B0 (g := fun i j => decide (i ≤ j))) (o_B0 (g := fun i j => decide (i ≤ j))) hm
theorem XL.to {S : Nat → Store} {m m' : Nat} (h : XL c X e st xs (S m)) (q : m = m') : XL c X e st xs (S m') := q ▸ h
/-- name = [elt for x in iter] where a turn changes what the names hold; m: the number of turns -/
theorem xp_mapS {elt iter : Expr} (k : Nat) (own? : Bool) (jx : Nat) {x y : Str} {py spos : Pos} {p : Pos} {scope : Scope} {m : Nat} (S : Nat → Store) (vs : List Dt) (hm : ds.length = m) (hN : X.N.Nodup) (hi : XI c X (.Name x p) iter st ds (S 0)) (hlen : vs.length = ds.length) (hsz : ds.length ≤ 100000) (hn : ∀ i, i ≤ ds.length → (S i)[jx]? = some none)
    (hb : ∀ (i : Nat) d v, ds[i]? = some d → vs[i]? = some v → ∃ s2 : Store, s2.set jx none = S (i + 1) ∧ ∀ sh H C cl fp, XD c (BlkC X sh H scope C cl fp) elt ((S i).set jx (some (.fr d))) v s2)
    (hx : X.N[jx]? = some x := by rfl) (hloc : Loc (relabel scope X.env) x := by first | exact Or.inl rfl | exact Or.inr rfl) (hlocf : (scope.names.lookup x == some .cell) = true ∨ (relabel scope X.env).names.lookup x = some .local := by first | exact Or.inl rfl | exact Or.inr rfl) (ok : BlkOk X.N X.env.scope scope [(x, jx)] := by exact blkOk_by (by first | rfl | decide +kernel))
    (hy0 : X.N[k]? = some y := by rfl) (hyl : X.env.scope.names.lookup y = some .local := by rfl) (hsw : swapsWith (.ListComp elt [⟨.Name x p, iter, [], 0⟩] scope pos) (some (.Name y py)) spos.line X.env = pure true := by exact sw_true rfl rfl rfl (by first | rfl | decide +kernel))
    (hc : X.calm = true := by rfl) (hs : ∀ x, foldedSetIterable iter X.env x = pure x := by intro _; rfl) :
    XP c X (.Assign [.Name y py] (.ListComp elt [⟨.Name x p, iter, [], 0⟩] scope pos) spos) st (.nx ((S m).set k (some (if own? = true then .ow vs else .fr (.lst vs))))) := by
  subst hm
  have q := xp_setLc (c := c) (X := X) (py := py) (spos := spos) (y := y) k (elt := elt) (pos := pos) (g := gName jx) (ow := [(x, jx)]) S (vs.map some) own? hN hi (by rw [List.length_map, hlen]) hsz (fun i h q hq => by
      rw [List.mem_singleton.mp hq]; exact hn i h) (fun i d r h1 h2 => by
      rw [List.getElem?_map] at h2
      cases hv : vs[i]? with
      | none => rw [hv] at h2; cases h2
      | some v =>
        rw [hv] at h2
        cases h2
        obtain ⟨s2, e2, hb2⟩ := hb i d v h1 hv
        exact ⟨_, true, _, tgt_name, .nil, .inr ⟨rfl, v, s2, rfl, e2.symm, hb2⟩⟩) (fun s H C cl fp => pg_name (X := BlkC X s H scope C cl fp) hN hx hloc hlocf) (by decide) ok hy0 hyl hsw hc hs
  rw [collect_some] at q
  exact q
end Dv
set_option autoImplicit false
set_option maxRecDepth 100000
set_option maxHeartbeats 4000000
set_option exponentiation.threshold 100000
namespace My
open PySem PySem.Spec PyProof.Rows L2 Dv Mq
section
variable {P : Program} {w : World} {K : PySem.W.Frag} {T : Ct} {mg : Str → Option Value} {base : Heap} {f : Addr} {fd : FuncData}
abbrev sGcd : Stmt := topS 26
abbrev sFrac : Stmt := topS 27
abbrev sAdd : Stmt := topS 28
abbrev sMul : Stmt := topS 29
abbrev sItem : Stmt := topS 34
/-- the law's own rational, a pair -/
def dP (q : Rat) : Dt := .tup [.int q.num, .int q.den]
def RGcd (ds : List Dt) (r : Dt) : Prop := ∃ (a b : Int), ds = [.int a, .int b] ∧ r = .int ((Nat.gcd a.natAbs b.natAbs : Nat) : Int)
theorem scGcd : FnScope ["a", "b"] ["a", "b"] (defScope sGcd) := ⟨rfl, rfl, rfl, by decide +kernel, rfl, by decide +kernel, by decide +kernel⟩
theorem ok_gcd (F : Fun K "_law_gcd" "_law_gcd" sGcd f fd) (hint : mg "int" = none) (habs : mg "abs" = none) : FnOk P w K mg base CX0 1 f fd ["a", "b"] (spD K T RGcd) := by
  refine okD F scGcd (fun ds r h => by obtain ⟨_, _, rfl, _⟩ := h; rfl) fun cdv A outer s H E pa ds r hr hR => ?_
  obtain ⟨a, b, rfl, rfl⟩ := hR
  obtain ⟨n, h1, h2⟩ := eu_stop b.natAbs a.natAbs
  let p : Nat × Nat := (a.natAbs, b.natAbs)
  have e : Nat.gcd a.natAbs b.natAbs = (eu p n).1 := by
    have := eu_gcd p n
    rw [h2, Nat.gcd_zero_right] at this
    exact this.symm
  rw [e]
  have h1 : ∀ i, i < n → (eu p i).2 ≠ 0 := h1
  have h2 : (eu p n).2 = 0 := h2
  let S : Nat → Store := fun i => [some (.fr (.int ((eu p i).1 : Nat))), some (.fr (.int ((eu p i).2 : Nat)))]
  refine ⟨_, xs_cons (xp_set 0 scGcd.nd (xd_abs (xd_var 0) habs)) (xs_cons (xp_set 1 scGcd.nd (xd_abs (xd_var 1) habs))
    (xs_cons (xp_while (st1 := S n) S S n (fun i hi => ⟨xt_neI (xd_var 1) xd_int ?_, .inl ?_⟩) (xt_neI (xd_var 1) xd_int ?_)) (xs_one (xp_ret (xd_var 0))))), .inl ⟨_, rfl⟩⟩
  · have := h1 i hi
    show (!decide (((eu p i).2 : Int) = 0)) = true
    rw [decide_eq_false (by omega)]; rfl
  · refine XS.to (xs_one (xp_par 0 1 scGcd.nd rfl (xa_cons (xd_var 1) (xa_cons (xd_mod (xd_intI (xd_var 0) hint) (xd_var 1) (by have := h1 i hi; omega)) xa_nil)) (by decide))) rfl
  · show (!decide (((eu p n).2 : Int) = 0)) = false
    rw [decide_eq_true (by rw [h2]; rfl)]; rfl
def RFrac (ds : List Dt) (r : Dt) : Prop := ∃ (n d : Int), ds = [.int n, .int d] ∧ d ≠ 0 ∧ d.natAbs.log2 < 9000 ∧ r = dP (Rat.divInt n d)
theorem scFrac : FnScope ["n", "d", "g"] ["n", "d"] (defScope sFrac) := ⟨rfl, rfl, rfl, by decide +kernel, rfl, by decide +kernel, by decide +kernel⟩
theorem cm_small {n d : Int} (h : d ≠ 0) (hs : d.natAbs.log2 < 9000) : (cm n d).natAbs.log2 < 9000 := by
  have h1 := cm_le (n := n) h
  have h2 := cm_ne (n := n) h
  exact (Nat.log2_lt (by omega)).mpr (Nat.lt_of_le_of_lt h1 ((Nat.log2_lt (by omega)).mp hs))
theorem ok_frac (F : Fun K "_law_frac" "_law_frac" sFrac f fd) (Dg : DF P w K T mg base "_law_gcd" 1 RGcd) : FnOk P w K mg base CX0 2 f fd ["n", "d"] (spD K T RFrac) := by
  refine okD F scFrac (fun ds r h => by obtain ⟨_, _, rfl, _⟩ := h; rfl) fun cdv A outer s H E pa ds r hr hR => ?_
  obtain ⟨n, d, rfl, hd, hs, rfl⟩ := hR
  by_cases hn : d < 0
  · have e0 : Rat.divInt n d = Rat.divInt (-n) (-d) := (Rat.divInt_eq_divInt_iff hd (by omega)).mpr (by rw [Int.mul_neg, Int.neg_mul])
    have hd' : -d ≠ 0 := by omega
    have hs' : (-d).natAbs.log2 < 9000 := by rw [Int.natAbs_neg]; exact hs
    have e : dP (Rat.divInt n d) = .tup [.int ((-n).fdiv (cm (-n) (-d))), .int ((-d).fdiv (cm (-n) (-d)))] := by
      rw [e0]; unfold dP; rw [cm_num hd', cm_den hd']
    have hc := cm_ne (n := -n) hd'
    have hl := cm_small (n := -n) hd' hs'
    have e2 : cm (-n) (-d) = ((Nat.gcd (-n).natAbs (-d).natAbs : Nat) : Int) := if_neg (by omega)
    rw [e]
    rw [e2] at hc hl ⊢
    exact ⟨_, xs_cons (xp_if (xt_lt (xd_var 1) xd_int (decide_eq_true hn)) (fun _ => xs_one (xp_par 0 1 scFrac.nd rfl (xa_cons (xd_neg (xd_var 0)) (xa_cons (xd_neg (xd_var 1)) xa_nil)) (by decide))) (fun z => nomatch z))
      (xs_cons (xp_set 2 scFrac.nd (xd_df Dg rfl hr (xa_cons (xd_var 0) (xa_cons (xd_var 1) xa_nil)) ⟨-n, -d, rfl, rfl⟩))
      (xs_one (xp_ret (xd_tup (xa_cons (xd_fdiv (xd_var 0) (xd_var 2) hc hl) (xa_cons (xd_fdiv (xd_var 1) (xd_var 2) hc hl) xa_nil)) (by simp))))), .inl ⟨_, rfl⟩⟩
  · have e : dP (Rat.divInt n d) = .tup [.int (n.fdiv (cm n d)), .int (d.fdiv (cm n d))] := by
      unfold dP; rw [cm_num hd, cm_den hd]
    have hc := cm_ne (n := n) hd
    have hl := cm_small (n := n) hd hs
    have e2 : cm n d = ((Nat.gcd n.natAbs d.natAbs : Nat) : Int) := if_neg hn
    rw [e]
    rw [e2] at hc hl ⊢
    exact ⟨_, xs_cons (xp_if (xt_lt (xd_var 1) xd_int (decide_eq_false hn)) (fun z => nomatch z) (fun _ => xs_nil))
      (xs_cons (xp_set 2 scFrac.nd (xd_df Dg rfl hr (xa_cons (xd_var 0) (xa_cons (xd_var 1) xa_nil)) ⟨n, d, rfl, rfl⟩))
      (xs_one (xp_ret (xd_tup (xa_cons (xd_fdiv (xd_var 0) (xd_var 2) hc hl) (xa_cons (xd_fdiv (xd_var 1) (xd_var 2) hc hl) xa_nil)) (by simp))))), .inl ⟨_, rfl⟩⟩
def RAdd (ds : List Dt) (r : Dt) : Prop := ∃ (a b : Rat), ds = [dP a, dP b] ∧ Sz 4000 a ∧ Sz 4000 b ∧ r = dP (a + b)
def RMul (ds : List Dt) (r : Dt) : Prop := ∃ (a b : Rat), ds = [dP a, dP b] ∧ Sz 4000 a ∧ Sz 4000 b ∧ r = dP (a * b)
theorem ibits {i : Int} {k : Nat} (h : i.natAbs < 2 ^ k) (hk : k ≤ 2 ^ 20) : Builtin.Int.intBits i ≤ 2 ^ 20 := Nat.le_trans (PyProof.Rows.intBits_le h) hk
theorem mulOk {i j : Int} {k m : Nat} (h : i.natAbs < 2 ^ k) (h' : j.natAbs < 2 ^ m) (hk : k ≤ 2 ^ 20 := by decide) (hm : m ≤ 2 ^ 20 := by decide) : IntMulOk i j := IntMulOk.of_bits (ibits h hk) (ibits h' hm)
theorem den_abs (q : Rat) : ((q.den : Int)).natAbs = q.den := rfl
theorem scAdd : FnScope ["a", "b"] ["a", "b"] (defScope sAdd) := ⟨rfl, rfl, rfl, by decide +kernel, rfl, by decide +kernel, by decide +kernel⟩
theorem scMul : FnScope ["a", "b"] ["a", "b"] (defScope sMul) := ⟨rfl, rfl, rfl, by decide +kernel, rfl, by decide +kernel, by decide +kernel⟩
theorem ok_add (F : Fun K "_law_add" "_law_add" sAdd f fd) (Dr : DF P w K T mg base "_law_frac" 2 RFrac) : FnOk P w K mg base CX0 3 f fd ["a", "b"] (spD K T RAdd) := by
  refine okD F scAdd (fun ds r h => by obtain ⟨_, _, rfl, _⟩ := h; rfl) fun cdv A outer s H E pa ds r hr hR => ?_
  obtain ⟨a, b, rfl, ha, hb, rfl⟩ := hR
  have hd : (a.den : Int) * b.den ≠ 0 := Int.mul_ne_zero (den_ne a) (den_ne b)
  have hl : ((a.den : Int) * b.den).natAbs.log2 < 9000 := log2_lt hd (ha.lin hb).2.2 (by decide)
  rw [← add_q]
  exact ⟨_, xs_one (xp_ret (xd_df Dr rfl hr (xa_cons
    (xd_add (xd_mul (xd_ixT (xd_var 0) xd_int (m := 0) rfl rfl rfl) (xd_ixT (xd_var 1) xd_int (m := 1) rfl rfl rfl) (mulOk ha.1 hb.2)) (xd_mul (xd_ixT (xd_var 1) xd_int (m := 0) rfl rfl rfl) (xd_ixT (xd_var 0) xd_int (m := 1) rfl rfl rfl) (mulOk hb.1 ha.2)))
    (xa_cons (xd_mul (xd_ixT (xd_var 0) xd_int (m := 1) rfl rfl rfl) (xd_ixT (xd_var 1) xd_int (m := 1) rfl rfl rfl) (mulOk ha.2 hb.2)) xa_nil)) ⟨_, _, rfl, hd, hl, rfl⟩)), .inl ⟨_, rfl⟩⟩
theorem ok_mul (F : Fun K "_law_mul" "_law_mul" sMul f fd) (Dr : DF P w K T mg base "_law_frac" 2 RFrac) : FnOk P w K mg base CX0 3 f fd ["a", "b"] (spD K T RMul) := by
  refine okD F scMul (fun ds r h => by obtain ⟨_, _, rfl, _⟩ := h; rfl) fun cdv A outer s H E pa ds r hr hR => ?_
  obtain ⟨a, b, rfl, ha, hb, rfl⟩ := hR
  have hd : (a.den : Int) * b.den ≠ 0 := Int.mul_ne_zero (den_ne a) (den_ne b)
  have hl : ((a.den : Int) * b.den).natAbs.log2 < 9000 := log2_lt hd (ha.lin hb).2.2 (by decide)
  rw [← mul_q]
  exact ⟨_, xs_one (xp_ret (xd_df Dr rfl hr (xa_cons
    (xd_mul (xd_ixT (xd_var 0) xd_int (m := 0) rfl rfl rfl) (xd_ixT (xd_var 1) xd_int (m := 0) rfl rfl rfl) (mulOk ha.1 hb.1))
    (xa_cons (xd_mul (xd_ixT (xd_var 0) xd_int (m := 1) rfl rfl rfl) (xd_ixT (xd_var 1) xd_int (m := 1) rfl rfl rfl) (mulOk ha.2 hb.2)) xa_nil)) ⟨_, _, rfl, hd, hl, rfl⟩)), .inl ⟨_, rfl⟩⟩
/-! ### the items that the law draws -/
def tk (q : Int × Int) (m : Int) : Int := takeV q.1 q.2 m
def tn (q : Int × Int) (m : Int) : Int × Int := takeS q.1 q.2 m
def SOk (q : Int × Int) : Prop := StOk q.1 q.2
theorem tn_ok {q : Int × Int} {m : Int} (h : SOk q) (hm : 0 < m) : SOk (tn q m) := take_ok h hm
theorem tk_lt {q : Int × Int} {m : Int} (hm : 0 < m) : 0 ≤ tk q m ∧ tk q m < m := take_lt hm
def dSt (q : Int × Int) : List Dt := [.int q.1, .int q.2]
def itQ (q : Int × Int) : Rat := if tk (tn q 5) 6 = 0 then Rat.divInt (tk q 5 - 2) 2 else ((tk q 5 - 2 : Int) : Rat)
def itS (q : Int × Int) : Int × Int := tn (tn q 5) 6
theorem itS_ok {q : Int × Int} (h : SOk q) : SOk (itS q) := tn_ok (tn_ok h (by decide)) (by decide)
theorem itQ_sz (q : Int × Int) : Sz 2 (itQ q) := by
  obtain ⟨h1, h2⟩ := tk_lt (q := q) (m := 5) (by decide)
  unfold itQ
  split
  · exact divInt_sz (by decide) (by omega) (by decide)
  · refine ⟨?_, ?_⟩
    · rw [Rat.num_intCast]; omega
    · rw [Rat.den_intCast]; decide
def RItem (xs ds : List Dt) (r : Dt) (ys : List Dt) : Prop := ∃ q : Int × Int, SOk q ∧ xs = dSt q ∧ ds = [] ∧ r = dP (itQ q) ∧ ys = dSt (itS q)
theorem scItem : FnScope ["state", "n"] ["state"] (defScope sItem) := ⟨rfl, rfl, rfl, by decide +kernel, rfl, by decide +kernel, by decide +kernel⟩
theorem take_R (q : Int × Int) (m : Int) (h : SOk q) (hm : 0 < m) (hm2 : m < 2 ^ 60) : RTake (dSt q) [.int m] (.int (tk q m)) (dSt (tn q m)) := ⟨q.1, q.2, m, rfl, rfl, h, hm, hm2, rfl, rfl⟩
theorem ok_item (F : Fun K "_law_item" "_law_item" sItem f fd) (Tk : DM P w K T mg base "_law_take" 1 RTake) (Df : DF P w K T mg base "_law_frac" 2 RFrac) : FnOk P w K mg base CX0 3 f fd ["state"] (spM K T RItem) := by
  refine okM F scItem (fun xs ds r ys h => by obtain ⟨_, _, _, rfl, _⟩ := h; rfl) fun cdv A outer s' H E pa xs ds r ys hr hR => ?_
  obtain ⟨q, hq, rfl, rfl, rfl, rfl⟩ := hR
  by_cases hz : tk (tn q 5) 6 = 0
  · have e : itQ q = Rat.divInt (tk q 5 - 2) 2 := if_pos hz
    rw [e]
    exact ⟨_, xs_cons (xp_set 1 scItem.nd (xd_sub (xd_dm 0 (s := .pr 0 (dSt q)) Tk rfl (hr.mono (by decide)) (xa_cons xd_int xa_nil) rfl rfl .pr (take_R q 5 hq (by decide) (by decide))) xd_int))
      (xs_ret (xp_if (tb := true) (xt_eqI (xd_dm 0 (s := .pr 0 (dSt (tn q 5))) Tk rfl (hr.mono (by decide)) (xa_cons xd_int xa_nil) rfl rfl .pr (take_R (tn q 5) 6 (tn_ok hq (by decide)) (by decide) (by decide))) xd_int (decide_eq_true hz))
        (fun _ => xs_one (xp_ret (xd_df Df rfl hr (xa_cons (xd_var 1) (xa_cons xd_int xa_nil)) ⟨_, _, rfl, by decide, by decide, rfl⟩))) (fun z => nomatch z))), rfl⟩
  · have e : itQ q = ((tk q 5 - 2 : Int) : Rat) := if_neg hz
    have e1 : dP ((tk q 5 - 2 : Int) : Rat) = .tup [.int (tk q 5 - 2), .int 1] := by unfold dP; rw [Rat.num_intCast, Rat.den_intCast]; rfl
    rw [e, e1]
    exact ⟨_, xs_cons (xp_set 1 scItem.nd (xd_sub (xd_dm 0 (s := .pr 0 (dSt q)) Tk rfl (hr.mono (by decide)) (xa_cons xd_int xa_nil) rfl rfl .pr (take_R q 5 hq (by decide) (by decide))) xd_int))
      (xs_cons (xp_if (tb := false) (xt_eqI (xd_dm 0 (s := .pr 0 (dSt (tn q 5))) Tk rfl (hr.mono (by decide)) (xa_cons xd_int xa_nil) rfl rfl .pr (take_R (tn q 5) 6 (tn_ok hq (by decide)) (by decide) (by decide))) xd_int (decide_eq_false hz)) (fun z => nomatch z) (fun _ => xs_nil))
      (xs_one (xp_ret (xd_tup (xa_cons (xd_var 1) (xa_cons xd_int xa_nil)) (by simp))))), rfl⟩
end
end My
set_option autoImplicit false
set_option maxRecDepth 100000
set_option maxHeartbeats 4000000
set_option exponentiation.threshold 100000
namespace My
open PySem PySem.Spec PyProof.Rows L2 Dv Mq
abbrev cRat : Stmt := topS 11
abbrev cMat : Stmt := topS 18
def dR (q : Rat) : Dt := .obj 0 [.int q.num, .int q.den]
def dV (r : List Rat) : Dt := .tup (r.map dR)
def dL (r : List Rat) : Dt := .lst (r.map dR)
def dM (m : List (List Rat)) (w : Int) : Dt := .obj 1 [.tup (m.map dV), .int w]
/-- what is known of the module: its two classes, and which built-in names it leaves alone -/
structure Md (K : PySem.W.Frag) (T : Ct) (mg : Str → Option Value) (CR CM : Addr) : Prop where
  R : CF K T mg "Ratio" 0 CR ["n", "d"]
  M : CF K T mg "Matrix" 1 CM ["rows", "width"]
  Rn : NoAttr K CR "n"
  Rd : NoAttr K CR "d"
  Mr : NoAttr K CM "rows"
  Mw : NoAttr K CM "width"
  RX : ClsX K CR
  MX : ClsX K CM
  Rf : PySem.W.selfFirst K CR = true
  Mf : PySem.W.selfFirst K CM = true
  gcd : mg "gcd" = some (.builtin "math.gcd")
  isi : mg "isinstance" = none
  len : mg "len" = none
  tup : mg "tuple" = none
  zip : mg "zip" = none
  ran : mg "range" = none
  int : mg "int" = none
  bool : mg "bool" = none
section
variable {P : Program} {w : World} {K : PySem.W.Frag} {T : Ct} {mg : Str → Option Value} {base : Heap} {f CR CM : Addr} {fd : FuncData}
/-! ### Ratio -/
def RIn (ds fs : List Dt) : Prop := ∃ (n d : Int), ds = [.int n, .int d] ∧ d ≠ 0 ∧ d.natAbs.log2 < 9000 ∧ fs = [.int (Rat.divInt n d).num, .int (Rat.divInt n d).den]
abbrev sRI : Stmt := inClass cRat 0
theorem scRI : FnScope ["self", "n", "d", "common"] ["self", "n", "d"] (defScope sRI) := ⟨rfl, rfl, rfl, by decide +kernel, rfl, by decide +kernel, by decide +kernel⟩
theorem ok_RI {dvs : List V} (F : FunD K "__init__" "Ratio.__init__" (defArgs sRI) (defBody sRI) (defScope sRI) dvs [] f fd) (D : Md K T mg CR CM) : FnOk P w K mg base CX0 1 f fd ["self", "n", "d"] (spI K T 0 RIn) := by
  refine okID F scRI D.R.at_ (fun ds fs h => by obtain ⟨_, _, rfl, _⟩ := h; rfl) (fun ds fs h => by obtain ⟨_, _, _, _, _, rfl⟩ := h; rfl) fun cdv A outer s H E pa ds fs hr hR => ?_
  obtain ⟨n, d, rfl, hd, hs, rfl⟩ := hR
  have hc := cm_ne (n := n) hd
  have hl := cm_small (n := n) hd hs
  rw [← cm_num hd, ← cm_den hd]
  have nd : (["n", "d"] : List Str).Nodup := by decide +kernel
  by_cases hn : d < 0
  · have e2 : cm n d = -((Nat.gcd n.natAbs d.natAbs : Nat) : Int) := if_pos hn
    rw [e2] at hc hl ⊢
    exact ⟨_, xs_cons (xp_if (xt_eqI (xd_var 2) xd_int (decide_eq_false hd)) (fun z => nomatch z) (fun _ => xs_nil))
      (xs_cons (xp_set 3 scRI.nd (xd_gcd (xa_cons (xd_var 1) (xa_cons (xd_var 2) xa_nil)) D.gcd))
      (xs_cons (xp_if (xt_lt (xd_var 2) xd_int (decide_eq_true hn)) (fun _ => xs_one (xp_set 3 scRI.nd (xd_neg (xd_var 3)))) (fun z => nomatch z))
      (xs_cons (xp_fldset (xd_fdiv (xd_var 1) (xd_var 3) hc hl) D.R.at_ nd D.R.cl D.Rn rfl rfl)
      (xs_one (xp_fldset (xd_fdiv (xd_var 2) (xd_var 3) hc hl) D.R.at_ nd D.R.cl D.Rd rfl rfl))))), rfl⟩
  · have e2 : cm n d = ((Nat.gcd n.natAbs d.natAbs : Nat) : Int) := if_neg hn
    rw [e2] at hc hl ⊢
    exact ⟨_, xs_cons (xp_if (xt_eqI (xd_var 2) xd_int (decide_eq_false hd)) (fun z => nomatch z) (fun _ => xs_nil))
      (xs_cons (xp_set 3 scRI.nd (xd_gcd (xa_cons (xd_var 1) (xa_cons (xd_var 2) xa_nil)) D.gcd))
      (xs_cons (xp_if (xt_lt (xd_var 2) xd_int (decide_eq_false hn)) (fun z => nomatch z) (fun _ => xs_nil))
      (xs_cons (xp_fldset (xd_fdiv (xd_var 1) (xd_var 3) hc hl) D.R.at_ nd D.R.cl D.Rn rfl rfl)
      (xs_one (xp_fldset (xd_fdiv (xd_var 2) (xd_var 3) hc hl) D.R.at_ nd D.R.cl D.Rd rfl rfl))))), rfl⟩

def RA2 (g : Rat → Rat → Rat) (ds : List Dt) (r : Dt) : Prop := ∃ (a b : Rat), ds = [dR a, dR b] ∧ Sz 4000 a ∧ Sz 4000 b ∧ r = dR (g a b)
abbrev sRA : Stmt := inClass cRat 1
abbrev sRS : Stmt := inClass cRat 2
abbrev sRM : Stmt := inClass cRat 3
abbrev sRE : Stmt := inClass cRat 5
abbrev sRZ : Stmt := inClass cRat 14
theorem scRA : FnScope ["self", "other"] ["self", "other"] (defScope sRA) := ⟨rfl, rfl, rfl, by decide +kernel, rfl, by decide +kernel, by decide +kernel⟩
theorem scRS : FnScope ["self", "other"] ["self", "other"] (defScope sRS) := ⟨rfl, rfl, rfl, by decide +kernel, rfl, by decide +kernel, by decide +kernel⟩
theorem scRM : FnScope ["self", "other"] ["self", "other"] (defScope sRM) := ⟨rfl, rfl, rfl, by decide +kernel, rfl, by decide +kernel, by decide +kernel⟩
theorem scRE : FnScope ["self", "other"] ["self", "other"] (defScope sRE) := ⟨rfl, rfl, rfl, by decide +kernel, rfl, by decide +kernel, by decide +kernel⟩
theorem scRZ : FnScope ["self"] ["self"] (defScope sRZ) := ⟨rfl, rfl, rfl, by decide +kernel, rfl, by decide +kernel, by decide +kernel⟩
theorem rin {n d : Int} (h : d ≠ 0) (hl : d.natAbs.log2 < 9000) : RIn [.int n, .int d] [.int (Rat.divInt n d).num, .int (Rat.divInt n d).den] := ⟨n, d, rfl, h, hl, rfl⟩
abbrev Mk0 (P : Program) (w : World) (K : PySem.W.Frag) (T : Ct) (mg : Str → Option Value) (base : Heap) (CR : Addr) := IF' P w K T mg base 0 CR [] 1 RIn
theorem ok_RA (F : Fun K "__add__" "Ratio.__add__" sRA f fd) (D : Md K T mg CR CM) (I : IF' P w K T mg base 0 CR [] 1 RIn) : FnOk P w K mg base CX0 3 f fd ["self", "other"] (spD K T (RA2 (· + ·))) := by
  refine okD F scRA (fun ds r h => by obtain ⟨_, _, rfl, _⟩ := h; rfl) fun cdv A outer s H E pa ds r hr hR => ?_
  obtain ⟨a, b, rfl, ha, hb, er⟩ := hR
  have hd : (a.den : Int) * b.den ≠ 0 := Int.mul_ne_zero (den_ne a) (den_ne b)
  have hl : ((a.den : Int) * b.den).natAbs.log2 < 9000 := log2_lt hd (ha.lin hb).2.2 (by decide)
  have er := er.trans (congrArg dR (add_q a b).symm)
  subst er
  exact ⟨_, xs_one (xp_ret (xd_mk D.R I rfl hr (xa_cons
    (xd_add (xd_mul (xd_ff 0 (xd_var 0) D.R rfl D.Rn) (xd_ff 1 (xd_var 1) D.R rfl D.Rd) (mulOk ha.1 hb.2)) (xd_mul (xd_ff 0 (xd_var 1) D.R rfl D.Rn) (xd_ff 1 (xd_var 0) D.R rfl D.Rd) (mulOk hb.1 ha.2)))
    (xa_cons (xd_mul (xd_ff 1 (xd_var 0) D.R rfl D.Rd) (xd_ff 1 (xd_var 1) D.R rfl D.Rd) (mulOk ha.2 hb.2)) xa_nil)) (rin hd hl))), .inl ⟨_, rfl⟩⟩
theorem ok_RS (F : Fun K "__sub__" "Ratio.__sub__" sRS f fd) (D : Md K T mg CR CM) (I : IF' P w K T mg base 0 CR [] 1 RIn) : FnOk P w K mg base CX0 3 f fd ["self", "other"] (spD K T (RA2 (· - ·))) := by
  refine okD F scRS (fun ds r h => by obtain ⟨_, _, rfl, _⟩ := h; rfl) fun cdv A outer s H E pa ds r hr hR => ?_
  obtain ⟨a, b, rfl, ha, hb, er⟩ := hR
  have hd : (a.den : Int) * b.den ≠ 0 := Int.mul_ne_zero (den_ne a) (den_ne b)
  have hl : ((a.den : Int) * b.den).natAbs.log2 < 9000 := log2_lt hd (ha.lin hb).2.2 (by decide)
  have er := er.trans (congrArg dR (sub_q a b).symm)
  subst er
  exact ⟨_, xs_one (xp_ret (xd_mk D.R I rfl hr (xa_cons
    (xd_sub (xd_mul (xd_ff 0 (xd_var 0) D.R rfl D.Rn) (xd_ff 1 (xd_var 1) D.R rfl D.Rd) (mulOk ha.1 hb.2)) (xd_mul (xd_ff 0 (xd_var 1) D.R rfl D.Rn) (xd_ff 1 (xd_var 0) D.R rfl D.Rd) (mulOk hb.1 ha.2)))
    (xa_cons (xd_mul (xd_ff 1 (xd_var 0) D.R rfl D.Rd) (xd_ff 1 (xd_var 1) D.R rfl D.Rd) (mulOk ha.2 hb.2)) xa_nil)) (rin hd hl))), .inl ⟨_, rfl⟩⟩
theorem ok_RM (F : Fun K "__mul__" "Ratio.__mul__" sRM f fd) (D : Md K T mg CR CM) (I : IF' P w K T mg base 0 CR [] 1 RIn) : FnOk P w K mg base CX0 3 f fd ["self", "other"] (spD K T (RA2 (· * ·))) := by
  refine okD F scRM (fun ds r h => by obtain ⟨_, _, rfl, _⟩ := h; rfl) fun cdv A outer s H E pa ds r hr hR => ?_
  obtain ⟨a, b, rfl, ha, hb, er⟩ := hR
  have hd : (a.den : Int) * b.den ≠ 0 := Int.mul_ne_zero (den_ne a) (den_ne b)
  have hl : ((a.den : Int) * b.den).natAbs.log2 < 9000 := log2_lt hd (ha.lin hb).2.2 (by decide)
  have er := er.trans (congrArg dR (mul_q a b).symm)
  subst er
  exact ⟨_, xs_one (xp_ret (xd_mk D.R I rfl hr (xa_cons
    (xd_mul (xd_ff 0 (xd_var 0) D.R rfl D.Rn) (xd_ff 0 (xd_var 1) D.R rfl D.Rn) (mulOk ha.1 hb.1))
    (xa_cons (xd_mul (xd_ff 1 (xd_var 0) D.R rfl D.Rd) (xd_ff 1 (xd_var 1) D.R rfl D.Rd) (mulOk ha.2 hb.2)) xa_nil)) (rin hd hl))), .inl ⟨_, rfl⟩⟩
/-- equal numbers only: nothing else is compared here -/
def RREq (ds : List Dt) (r : Dt) : Prop := ∃ (a b : Rat), ds = [dR a, dR b] ∧ r = .bl (decide (a = b))
theorem rat_ext {a b : Rat} : decide (a = b) = (decide (a.num = b.num) && decide ((a.den : Int) = b.den)) := by
  by_cases h : a = b
  · subst h; simp
  · rw [decide_eq_false h]
    by_cases h1 : a.num = b.num
    · by_cases h2 : (a.den : Int) = b.den
      · exact absurd (Rat.ext h1 (by omega)) h
      · rw [decide_eq_false h2, Bool.and_false]
    · rw [decide_eq_false h1, Bool.false_and]
theorem ok_RE (F : Fun K "__eq__" "Ratio.__eq__" sRE f fd) (D : Md K T mg CR CM) : FnOk P w K mg base CX0 1 f fd ["self", "other"] (spD K T RREq) := by
  refine okD F scRE (fun ds r h => by obtain ⟨_, _, rfl, _⟩ := h; rfl) fun cdv A outer s H E pa ds r hr hR => ?_
  obtain ⟨a, b, rfl, rfl⟩ := hR
  rw [rat_ext]
  exact ⟨_, xs_one (xp_ret (xd_and (xd_isOwn (xd_var 1) D.R D.RX rfl D.isi) fun _ => xd_and (xd_eqI (xd_ff 0 (xd_var 0) D.R rfl D.Rn) (xd_ff 0 (xd_var 1) D.R rfl D.Rn)) fun _ => xd_one (xd_eqI (xd_ff 1 (xd_var 0) D.R rfl D.Rd) (xd_ff 1 (xd_var 1) D.R rfl D.Rd)))), .inl ⟨_, rfl⟩⟩
def RZe (ds : List Dt) (r : Dt) : Prop := ∃ (a : Rat), ds = [dR a] ∧ r = .bl (decide (a.num = 0))
theorem ok_RZ (F : Fun K "is_zero" "Ratio.is_zero" sRZ f fd) (D : Md K T mg CR CM) : FnOk P w K mg base CX0 1 f fd ["self"] (spD K T RZe) := by
  refine okD F scRZ (fun ds r h => by obtain ⟨_, rfl, _⟩ := h; rfl) fun cdv A outer s H E pa ds r hr hR => ?_
  obtain ⟨a, rfl, rfl⟩ := hR
  exact ⟨_, xs_one (xp_ret (xd_eqI (xd_ff 0 (xd_var 0) D.R rfl D.Rn) xd_int)), .inl ⟨_, rfl⟩⟩
def RC0 (q : Rat) (ds : List Dt) (r : Dt) : Prop := ds = [] ∧ r = dR q
abbrev sZero : Stmt := topS 12
abbrev sOne : Stmt := topS 13
theorem scZero : FnScope [] [] (defScope sZero) := ⟨rfl, rfl, rfl, by decide +kernel, rfl, by decide +kernel, by decide +kernel⟩
theorem scOne : FnScope [] [] (defScope sOne) := ⟨rfl, rfl, rfl, by decide +kernel, rfl, by decide +kernel, by decide +kernel⟩
theorem ok_zero (F : Fun K "zero" "zero" sZero f fd) (D : Md K T mg CR CM) (I : IF' P w K T mg base 0 CR [.int 1] 1 RIn) : FnOk P w K mg base CX0 3 f fd [] (spD K T (RC0 0)) := by
  refine okD F scZero (fun ds r h => by obtain ⟨rfl, _⟩ := h; rfl) fun cdv A outer s H E pa ds r hr hR => ?_
  obtain ⟨rfl, rfl⟩ := hR
  exact ⟨_, xs_one (xp_ret (xd_mk D.R I rfl hr (xa_cons xd_int xa_nil) (rin (n := 0) (d := 1) (by decide) (by decide)))), .inl ⟨_, rfl⟩⟩
theorem ok_one (F : Fun K "one" "one" sOne f fd) (D : Md K T mg CR CM) (I : IF' P w K T mg base 0 CR [.int 1] 1 RIn) : FnOk P w K mg base CX0 3 f fd [] (spD K T (RC0 1)) := by
  refine okD F scOne (fun ds r h => by obtain ⟨rfl, _⟩ := h; rfl) fun cdv A outer s H E pa ds r hr hR => ?_
  obtain ⟨rfl, rfl⟩ := hR
  exact ⟨_, xs_one (xp_ret (xd_mk D.R I rfl hr (xa_cons xd_int xa_nil) (rin (n := 1) (d := 1) (by decide) (by decide)))), .inl ⟨_, rfl⟩⟩
end
end My
set_option autoImplicit false
set_option maxRecDepth 100000
set_option maxHeartbeats 4000000
set_option exponentiation.threshold 100000
namespace My
open PySem PySem.Spec PyProof.Rows L2 Dv Mq
/-! ### vectors and matrices by functions -/
def rg (n : Nat) (F : Nat → Dt) : List Dt := (List.range n).map F
def dVc (n : Nat) (f : Nat → Rat) : Dt := .tup (rg n fun j => dR (f j))
def dLc (n : Nat) (f : Nat → Rat) : Dt := .lst (rg n fun j => dR (f j))
def dMx (h n : Nat) (g : Nat → Nat → Rat) : Dt := .obj 1 [.tup (rg h fun i => dVc n (g i)), .int n]
def sumTo (f : Nat → Rat) : Nat → Rat
  | 0 => 0
  | n + 1 => sumTo f n + f n
theorem rg_len (n : Nat) (F : Nat → Dt) : (rg n F).length = n := by unfold rg; simp
theorem rg_ext {n : Nat} {F G : Nat → Dt} (h : ∀ j, j < n → F j = G j) : rg n F = rg n G := by
  unfold rg
  exact List.map_congr_left fun j hj => h j (List.mem_range.mp hj)
theorem rg_get {w i : Nat} {g : Nat → Dt} {d : Dt} (h : (rg w g)[i]? = some d) : i < w ∧ d = g i := by
  unfold rg at h
  rw [List.getElem?_map] at h
  by_cases q : i < w
  · rw [List.getElem?_range q] at h; cases h; exact ⟨q, rfl⟩
  · rw [List.getElem?_eq_none (by simpa using q)] at h; cases h
theorem rg_at {w i : Nat} {g : Nat → Dt} (h : i < w) : (rg w g)[i]? = some (g i) := by
  unfold rg
  rw [List.getElem?_map, List.getElem?_range h]; rfl
theorem rg_zip {n : Nat} {F G : Nat → Dt} : List.zipWith (fun x y => Dt.tup [x, y]) (rg n F) (rg n G) = rg n fun i => .tup [F i, G i] := by
  unfold rg
  rw [List.zipWith_map_left, List.zipWith_map_right, List.zipWith_self]
theorem rep_one (n : Nat) (d : Dt) : (List.replicate (n : Int).toNat [d]).flatten = rg n fun _ => d := by
  have e : (n : Int).toNat = n := by omega
  rw [e, List.flatten_replicate_singleton]
  unfold rg
  rw [List.map_const', List.length_range]
theorem rg_snoc (n : Nat) (F : Nat → Dt) : rg n F ++ [F n] = rg (n + 1) F := by
  unfold rg
  rw [List.range_succ, List.map_append]; rfl
theorem sumTo_ext {f g : Nat → Rat} : ∀ {n : Nat}, (∀ i, i < n → f i = g i) → sumTo f n = sumTo g n
  | 0, _ => rfl
  | n + 1, h => by show sumTo f n + f n = sumTo g n + g n; rw [sumTo_ext (fun i hi => h i (by omega)), h n (by omega)]
theorem sz_sum {b : Nat} {f : Nat → Rat} (h : ∀ i, Sz b (f i)) : ∀ n, Sz (n * (b + 1) + 1) (sumTo f n)
  | 0 => Sz.zero (by omega)
  | n + 1 => by
    have q := (sz_sum h n).add (h n)
    exact q.mono (by rw [Nat.add_mul]; omega)
theorem vc_ext {n : Nat} {f g : Nat → Rat} (h : ∀ j, j < n → f j = g j) : dVc n f = dVc n g := by
  unfold dVc; rw [rg_ext fun j hj => by rw [h j hj]]
theorem mx_ext {h n : Nat} {f g : Nat → Nat → Rat} (e : ∀ i j, i < h → j < n → f i j = g i j) : dMx h n f = dMx h n g := by
  unfold dMx; rw [rg_ext fun i hi => vc_ext fun j hj => e i j hi hj]
section
variable {P : Program} {w : World} {K : PySem.W.Frag} {T : Ct} {mg : Str → Option Value} {base : Heap} {f CR CM : Addr} {fd : FuncData}
/-! ### combine -/
abbrev sComb : Stmt := topS 17
def RComb (ds : List Dt) (r : Dt) : Prop := ∃ (h n : Nat) (g : Nat → Nat → Rat) (y : Nat → Rat), ds = [.tup (rg h fun i => dVc n (g i)), .int n, dVc h y] ∧ h ≤ 8 ∧ n ≤ 8 ∧ (∀ i j, Sz 100 (g i j)) ∧ (∀ i, Sz 100 (y i)) ∧
  r = dVc n fun j => sumTo (fun t => y t * g t j) h
abbrev nComb : List Str := ["rows", "width", "weights", "found", "row", "weight", "x", "y"]
theorem scComb : FnScope nComb ["rows", "width", "weights"] (defScope sComb) := ⟨rfl, rfl, rfl, by decide +kernel, rfl, by decide +kernel, by decide +kernel⟩
/-- the facts of Ratio's own defs -/
structure RF (P : Program) (w : World) (K : PySem.W.Frag) (T : Ct) (mg : Str → Option Value) (base : Heap) (CR : Addr) : Prop where
  i2 : IF' P w K T mg base 0 CR [] 1 RIn
  i1 : IF' P w K T mg base 0 CR [.int 1] 1 RIn
  add : MF P w K T mg base CR "__add__" 3 (RA2 (· + ·))
  sub : MF P w K T mg base CR "__sub__" 3 (RA2 (· - ·))
  mul : MF P w K T mg base CR "__mul__" 3 (RA2 (· * ·))
  eq : MF P w K T mg base CR "__eq__" 1 RREq
  isz : MF P w K T mg base CR "is_zero" 1 RZe
  zero : DF P w K T mg base "zero" 3 (RC0 0)
  one : DF P w K T mg base "one" 3 (RC0 1)
theorem ok_comb (F : Fun K "combine" "combine" sComb f fd) (D : Md K T mg CR CM) (R : RF P w K T mg base CR) : FnOk P w K mg base CX0 6 f fd ["rows", "width", "weights"] (spD K T RComb) := by
  refine okD F scComb (fun ds r h => by obtain ⟨_, _, _, _, rfl, _⟩ := h; rfl) fun cdv A outer s H E pa ds r hr hR => ?_
  obtain ⟨h, n, g, y, rfl, hh, hn, hg, hy, rfl⟩ := hR
  have hr3 : Room 3 _ := hr.mono (by decide)
  have hr1 : Room 1 _ := hr.mono (by decide)
  have hsz : ∀ i, i ≤ 8 → ∀ j, Sz 2000 (sumTo (fun t => y t * g t j) i) := fun i hi j => (sz_sum (b := 200) (fun t => (hy t).mul (hg t j)) i).mono (by omega)
  let ac : Nat → Nat → Rat := fun i j => sumTo (fun t => y t * g t j) i
  let S : Nat → Store := fun i => [some (.fr (.tup (rg h fun i => dVc n (g i)))), some (.fr (.int n)), some (.fr (dVc h y)), some (.fr (dLc n (ac i))), slot (fun i => dVc n (g i)) i, slot (fun i => dR (y i)) i, none, none]
  refine ⟨_, xs_cons (XP.to (s2 := S 0) (xp_set 3 scComb.nd (xd_rep (xd_lst (xa_cons (xd_df0 R.zero rfl hr3 ⟨rfl, rfl⟩) xa_nil) (by simp)) (xd_var 1) (by omega) (by omega) (by simp; omega))) (by rw [rep_one]; rfl))
    (xs_cons (XP.to (xp_forN S h (by rw [rg_zip, rg_len]) (xi_zip (κ1 := .t) (κ2 := .t) (xs := rg h fun i => dVc n (g i)) (ys := rg h fun i => dR (y i)) (xa_cons (xd_var 0) (xa_cons (xd_var 2) xa_nil)) .t .t rfl D.zip) ?_) rfl)
    (xs_one (xp_ret (xd_tuple (xd_var 3) (.inl rfl) rfl D.tup)))), .inl ⟨_, rfl⟩⟩
  intro i d hd
  rw [rg_zip] at hd
  obtain ⟨hi, rfl⟩ := rg_get hd
  have tg : XG ⟨K, T, pa⟩ (bX P w K mg base nComb "combine" sComb f cdv A outer s H E) (.Tuple [.Name "row" ⟨86, 8, 86, 11⟩, .Name "weight" ⟨86, 13, 86, 19⟩] 1 ⟨86, 8, 86, 19⟩) (.tup [dVc n (g i), dR (y i)]) (S i) (((S i).set 4 (some (.fr (dVc n (g i))))).set 5 (some (.fr (dR (y i))))) :=
    xg_tup (n := 2) rfl rfl (xgs_cons (xg_name 4 scComb.nd) (xgs_cons (xg_name 5 scComb.nd) xgs_nil)) rfl
  by_cases hz : (y i).num = 0
  · have z : y i = 0 := Rat.num_eq_zero.mp hz
    refine Turns.nx (xg_tup (n := 2) rfl rfl (xgs_cons (xg_name 4 scComb.nd) (xgs_cons (xg_name 5 scComb.nd) xgs_nil)) rfl)
      (xs_one (xp_if (xt_not (xt_val (xd_mf0 (xd_var 5) D.R R.isz rfl hr1 ⟨y i, rfl, rfl⟩))) (fun q => ?_) (fun _ => xs_nil))) ?_
    · rw [decide_eq_true hz] at q; cases q
    · have e : dLc n (ac (i + 1)) = dLc n (ac i) := by
        unfold dLc
        rw [rg_ext fun j hj => ?_]
        show dR (sumTo (fun t => y t * g t j) i + y i * g i j) = _
        rw [z, Rat.zero_mul, Rat.add_zero]
      show _ = [_, _, _, some (Sv.fr (dLc n (ac (i + 1)))), _, _, _, _]
      rw [e]; rfl
  · refine Turns.nx (xg_tup (n := 2) rfl rfl (xgs_cons (xg_name 4 scComb.nd) (xgs_cons (xg_name 5 scComb.nd) xgs_nil)) rfl)
      (xs_one (xp_if (xt_not (xt_val (xd_mf0 (xd_var 5) D.R R.isz rfl hr1 ⟨y i, rfl, rfl⟩))) (fun _ => xs_one (xp_map2 3 false 6 7 (rg n fun j => dR (ac (i + 1) j)) scComb.nd rfl rfl
        (xi_zip (κ1 := .l) (κ2 := .t) (xs := rg n fun j => dR (ac i j)) (ys := rg n fun j => dR (g i j)) (xa_cons (xd_var 3) (xa_cons (xd_var 4) xa_nil)) .l .t rfl D.zip) (by rw [rg_zip, rg_len, rg_len]) (by rw [rg_zip, rg_len]; omega) (by decide) rfl rfl ?_)) (fun q => ?_))) rfl
    · intro j d v h1 h2
      rw [rg_zip] at h1
      obtain ⟨hj, rfl⟩ := rg_get h1
      obtain ⟨_, rfl⟩ := rg_get h2
      refine ⟨_, _, rfl, fun sh H C cl fp => ?_⟩
      by_cases q0 : (g i j).num = 0
      · refine XD.to (xd_if (xt_eqI (xd_ff 0 (xd_var 7) D.R rfl D.Rn) xd_int (decide_eq_true q0)) (fun _ => xd_var 6) (fun z => nomatch z)) ?_
        show dR (ac i j) = dR (ac i j + y i * g i j)
        rw [Rat.num_eq_zero.mp q0, Rat.mul_zero, Rat.add_zero]
      · exact xd_if (xt_eqI (xd_ff 0 (xd_var 7) D.R rfl D.Rn) xd_int (decide_eq_false q0)) (fun z => nomatch z) (fun _ => xd_opF (op := .Add) (xd_var 6) (xd_opF (op := .Mult) (xd_var 5) (xd_var 7) D.R R.mul rfl hr3 D.Rf ⟨y i, g i j, rfl, (hy i).mono (by decide), (hg i j).mono (by decide), rfl⟩) D.R R.add rfl hr3 D.Rf ⟨ac i j, y i * g i j, rfl, (hsz i (by omega) j).mono (by decide), ((hy i).mul (hg i j)).mono (by decide), rfl⟩)
    · rw [decide_eq_false hz] at q; cases q
end
end My
set_option autoImplicit false
set_option maxRecDepth 100000
set_option maxHeartbeats 4000000
set_option exponentiation.threshold 100000
namespace My
open PySem PySem.Spec PyProof.Rows L2 Dv Mq
section
variable {P : Program} {w : World} {K : PySem.W.Frag} {T : Ct} {mg : Str → Option Value} {base : Heap} {f CR CM : Addr} {fd : FuncData}
abbrev sMI : Stmt := inClass cMat 0
abbrev sML : Stmt := inClass cMat 1
abbrev sME : Stmt := inClass cMat 3
abbrev sMA : Stmt := inClass cMat 4
abbrev sMS : Stmt := inClass cMat 5
abbrev sMM : Stmt := inClass cMat 6
abbrev sMT : Stmt := inClass cMat 7
abbrev sMC : Stmt := inClass cMat 9
abbrev sMB : Stmt := inClass cMat 10
/-- a list of rows, each a list or a tuple of items -/
def RMI (ds fs : List Dt) : Prop := ∃ (h n : Nat) (F : Nat → Dt) (xs : Nat → List Dt), ds = [.lst (rg h F), .int n] ∧ h ≤ 8 ∧ (∀ i, i < h → F i = .lst (xs i) ∨ F i = .tup (xs i)) ∧ fs = [.tup (rg h fun i => .tup (xs i)), .int n]
theorem scMI : FnScope ["self", "rows", "width", "row"] ["self", "rows", "width"] (defScope sMI) := ⟨rfl, rfl, rfl, by decide +kernel, rfl, by decide +kernel, by decide +kernel⟩
theorem ok_MI (F : Fun K "__init__" "Matrix.__init__" sMI f fd) (D : Md K T mg CR CM) : FnOk P w K mg base CX0 1 f fd ["self", "rows", "width"] (spI K T 1 RMI) := by
  refine okI F scMI D.M.at_ (fun ds fs h => by obtain ⟨_, _, _, _, rfl, _⟩ := h; rfl) (fun ds fs h => by obtain ⟨_, _, _, _, _, _, _, rfl⟩ := h; rfl) fun cdv A outer s H E pa ds fs hr hR => ?_
  obtain ⟨h, n, F, xs, rfl, hh, hF, rfl⟩ := hR
  have nd : (["rows", "width"] : List Str).Nodup := by decide +kernel
  refine ⟨_, xs_cons (xp_fldset (xd_tuple (xd_xl (xl_map1 3 (rg h fun i => .tup (xs i)) scMI.nd (xi_list rfl (xd_var 1)) (by rw [rg_len, rg_len]) (by rw [rg_len]; omega) rfl ?_)) (.inl rfl) rfl D.tup) D.M.at_ nd D.M.cl D.Mr rfl rfl)
    (xs_one (xp_fldset (xd_var 2) D.M.at_ nd D.M.cl D.Mw rfl rfl)), rfl⟩
  intro i d v h1 h2 sh H C cl fp
  obtain ⟨hi, rfl⟩ := rg_get h1
  obtain ⟨_, rfl⟩ := rg_get h2
  exact xd_tuple (xd_var 3) (hF i hi) rfl D.tup
/-- the facts of Matrix's __init__ -/
abbrev MIn (P : Program) (w : World) (K : PySem.W.Frag) (T : Ct) (mg : Str → Option Value) (base : Heap) (CM : Addr) := IF' P w K T mg base 1 CM [] 1 RMI
def RLen (ds : List Dt) (r : Dt) : Prop := ∃ (h n : Nat) (g : Nat → Nat → Rat), ds = [dMx h n g] ∧ r = .int h
theorem scML : FnScope ["self"] ["self"] (defScope sML) := ⟨rfl, rfl, rfl, by decide +kernel, rfl, by decide +kernel, by decide +kernel⟩
theorem ok_ML (F : Fun K "__len__" "Matrix.__len__" sML f fd) (D : Md K T mg CR CM) : FnOk P w K mg base CX0 1 f fd ["self"] (spD K T RLen) := by
  refine okD F scML (fun ds r h => by obtain ⟨_, _, _, rfl, _⟩ := h; rfl) fun cdv A outer s H E pa ds r hr hR => ?_
  obtain ⟨h, n, g, rfl, rfl⟩ := hR
  have e : (h : Int) = ((rg h fun i => dVc n (g i)).length : Int) := by rw [rg_len]
  rw [e]
  exact ⟨_, xs_one (xp_ret (xd_len (xd_ff 0 (xd_var 0) D.M rfl D.Mr) (.inr (.inr rfl)) rfl D.len)), .inl ⟨_, rfl⟩⟩
/-- equal matrices only -/
def RMEq (ds : List Dt) (r : Dt) : Prop := ∃ (h n : Nat) (g g' : Nat → Nat → Rat), ds = [dMx h n g, dMx h n g'] ∧ (∀ i j, i < h → j < n → g i j = g' i j) ∧ r = .bl true
theorem scME : FnScope ["self", "other"] ["self", "other"] (defScope sME) := ⟨rfl, rfl, rfl, by decide +kernel, rfl, by decide +kernel, by decide +kernel⟩
theorem ok_ME (F : Fun K "__eq__" "Matrix.__eq__" sME f fd) (D : Md K T mg CR CM) (R : RF P w K T mg base CR) : FnOk P w K mg base CX0 5 f fd ["self", "other"] (spD K T RMEq) := by
  refine okD F scME (fun ds r h => by obtain ⟨_, _, _, _, rfl, _⟩ := h; rfl) fun cdv A outer s H E pa ds r hr hR => ?_
  obtain ⟨h, n, g, g', rfl, hg, rfl⟩ := hR
  obtain ⟨fe, fde, pse, FE, ME, BE⟩ := R.eq.ex
  have e : Dt.bl true = .bl (true && (decide ((n : Int) = n) && true)) := by simp
  rw [e]
  refine ⟨_, xs_one (xp_ret (xd_and (xd_isOwn (xd_var 1) D.M D.MX rfl D.isi) fun _ => xd_and (xd_eqI (xd_ff 1 (xd_var 0) D.M rfl D.Mw) (xd_ff 1 (xd_var 1) D.M rfl D.Mw)) fun _ => xd_one
    (xd_eqG (m := 3) (D := DTup K (DTup K (DIns CR (OwnR ⟨K, T, pa⟩ 0 RREq)))) (xd_ff 0 (xd_var 0) D.M rfl D.Mr) (xd_ff 0 (xd_var 1) D.M rfl D.Mr) (rcG_tup (mon_tup own_mon) (eqG_tup own_mon (own_eqG (c := ⟨K, T, pa⟩) (E := fun _ _ _ => False) FE ⟨ME.at_, ME.fn⟩ BE pass0))) (hr.mono (by decide)) ?_))), .inl ⟨_, rfl⟩⟩
  refine rd_tup (c := ⟨K, T, pa⟩) (by rw [rg_len, rg_len]) fun i d e h1 h2 => ?_
  obtain ⟨hi, rfl⟩ := rg_get h1
  obtain ⟨_, rfl⟩ := rg_get h2
  refine rd_tup (c := ⟨K, T, pa⟩) (by rw [rg_len, rg_len]) fun j d e h1 h2 => ?_
  obtain ⟨hj, rfl⟩ := rg_get h1
  obtain ⟨_, rfl⟩ := rg_get h2
  exact rd_own D.R.at_ ⟨g i j, g' i j, rfl, by rw [decide_eq_true (hg i j hi hj)]⟩
def RM2 (o : Rat → Rat → Rat) (ds : List Dt) (r : Dt) : Prop := ∃ (h n : Nat) (f g : Nat → Nat → Rat), ds = [dMx h n f, dMx h n g] ∧ h ≤ 8 ∧ n ≤ 8 ∧ (∀ i j, Sz 100 (f i j)) ∧ (∀ i j, Sz 100 (g i j)) ∧ r = dMx h n fun i j => o (f i j) (g i j)
abbrev nMA : List Str := ["self", "other", "a", "b", "x", "y"]
theorem scMA : FnScope nMA ["self", "other"] (defScope sMA) := ⟨rfl, rfl, rfl, by decide +kernel, rfl, by decide +kernel, by decide +kernel⟩
theorem ok_MA (F : Fun K "__add__" "Matrix.__add__" sMA f fd) (D : Md K T mg CR CM) (R : RF P w K T mg base CR) (I : IF' P w K T mg base 1 CM [] 1 RMI) : FnOk P w K mg base CX0 4 f fd ["self", "other"] (spD K T (RM2 (· + ·))) := by
  refine okD F scMA (fun ds r h => by obtain ⟨_, _, _, _, rfl, _⟩ := h; rfl) fun cdv A outer s H E pa ds r hr hR => ?_
  obtain ⟨h, n, f, g, rfl, hh, hn, hf, hg, rfl⟩ := hR
  have hr2 : Room 2 _ := hr.mono (by decide)
  refine ⟨_, xs_one (xp_ret (xd_mk D.M I rfl hr2 (xa_cons (xd_xl (xl_map2 2 3 (rg h fun i => dLc n fun j => f i j + g i j) scMA.nd rfl rfl (xi_zip (κ1 := .t) (κ2 := .t) (xs := rg h fun i => dVc n (f i)) (ys := rg h fun i => dVc n (g i)) (xa_cons (xd_ff 0 (xd_var 0) D.M rfl D.Mr) (xa_cons (xd_ff 0 (xd_var 1) D.M rfl D.Mr) xa_nil)) .t .t rfl D.zip) (by rw [rg_zip, rg_len, rg_len]) (by rw [rg_zip, rg_len]; omega) (by decide) rfl rfl ?_)) (xa_cons (xd_ff 1 (xd_var 0) D.M rfl D.Mw) xa_nil)) ⟨h, n, _, _, rfl, hh, fun i _ => .inl rfl, rfl⟩)), .inl ⟨_, rfl⟩⟩
  intro i d v h1 h2
  rw [rg_zip] at h1
  obtain ⟨hi, rfl⟩ := rg_get h1
  obtain ⟨_, rfl⟩ := rg_get h2
  refine ⟨_, _, rfl, fun sh H C cl fp => xd_xl (xl_map2 4 5 (rg n fun j => dR (f i j + g i j)) scMA.nd rfl rfl (xi_zip (κ1 := .t) (κ2 := .t) (xs := rg n fun j => dR (f i j)) (ys := rg n fun j => dR (g i j)) (xa_cons (xd_var 2) (xa_cons (xd_var 3) xa_nil)) .t .t rfl D.zip) (by rw [rg_zip, rg_len, rg_len]) (by rw [rg_zip, rg_len]; omega) (by decide) rfl rfl ?_)⟩
  intro j d v h1 h2
  rw [rg_zip] at h1
  obtain ⟨hj, rfl⟩ := rg_get h1
  obtain ⟨_, rfl⟩ := rg_get h2
  exact ⟨_, _, rfl, fun sh H C cl fp => xd_opF (op := .Add) (xd_var 4) (xd_var 5) D.R R.add rfl hr D.Rf ⟨f i j, g i j, rfl, (hf i j).mono (by decide), (hg i j).mono (by decide), rfl⟩⟩
end
end My
set_option autoImplicit false
set_option maxRecDepth 100000
set_option maxHeartbeats 4000000
set_option exponentiation.threshold 100000
namespace My
open PySem PySem.Spec PyProof.Rows L2 Dv Mq
section
variable {P : Program} {w : World} {K : PySem.W.Frag} {T : Ct} {mg : Str → Option Value} {base : Heap} {f CR CM : Addr} {fd : FuncData}
abbrev nMS : List Str := ["self", "other", "a", "b", "x", "y"]
theorem scMS : FnScope nMS ["self", "other"] (defScope sMS) := ⟨rfl, rfl, rfl, by decide +kernel, rfl, by decide +kernel, by decide +kernel⟩
theorem ok_MS (F : Fun K "__sub__" "Matrix.__sub__" sMS f fd) (D : Md K T mg CR CM) (R : RF P w K T mg base CR) (I : IF' P w K T mg base 1 CM [] 1 RMI) : FnOk P w K mg base CX0 4 f fd ["self", "other"] (spD K T (RM2 (· - ·))) := by
  refine okD F scMS (fun ds r h => by obtain ⟨_, _, _, _, rfl, _⟩ := h; rfl) fun cdv A outer s H E pa ds r hr hR => ?_
  obtain ⟨h, n, f, g, rfl, hh, hn, hf, hg, rfl⟩ := hR
  have hr2 : Room 2 _ := hr.mono (by decide)
  refine ⟨_, xs_one (xp_ret (xd_mk D.M I rfl hr2 (xa_cons (xd_xl (xl_map2 2 3 (rg h fun i => dLc n fun j => f i j - g i j) scMS.nd rfl rfl (xi_zip (κ1 := .t) (κ2 := .t) (xs := rg h fun i => dVc n (f i)) (ys := rg h fun i => dVc n (g i)) (xa_cons (xd_ff 0 (xd_var 0) D.M rfl D.Mr) (xa_cons (xd_ff 0 (xd_var 1) D.M rfl D.Mr) xa_nil)) .t .t rfl D.zip) (by rw [rg_zip, rg_len, rg_len]) (by rw [rg_zip, rg_len]; omega) (by decide) rfl rfl ?_)) (xa_cons (xd_ff 1 (xd_var 0) D.M rfl D.Mw) xa_nil)) ⟨h, n, _, _, rfl, hh, fun i _ => .inl rfl, rfl⟩)), .inl ⟨_, rfl⟩⟩
  intro i d v h1 h2
  rw [rg_zip] at h1
  obtain ⟨hi, rfl⟩ := rg_get h1
  obtain ⟨_, rfl⟩ := rg_get h2
  refine ⟨_, _, rfl, fun sh H C cl fp => xd_xl (xl_map2 4 5 (rg n fun j => dR (f i j - g i j)) scMS.nd rfl rfl (xi_zip (κ1 := .t) (κ2 := .t) (xs := rg n fun j => dR (f i j)) (ys := rg n fun j => dR (g i j)) (xa_cons (xd_var 2) (xa_cons (xd_var 3) xa_nil)) .t .t rfl D.zip) (by rw [rg_zip, rg_len, rg_len]) (by rw [rg_zip, rg_len]; omega) (by decide) rfl rfl ?_)⟩
  intro j d v h1 h2
  rw [rg_zip] at h1
  obtain ⟨hj, rfl⟩ := rg_get h1
  obtain ⟨_, rfl⟩ := rg_get h2
  exact ⟨_, _, rfl, fun sh H C cl fp => xd_opF (op := .Sub) (xd_var 4) (xd_var 5) D.R R.sub rfl hr D.Rf ⟨f i j, g i j, rfl, (hf i j).mono (by decide), (hg i j).mono (by decide), rfl⟩⟩

/-- a row times the matrix -/
def RBef (ds : List Dt) (r : Dt) : Prop := ∃ (h n : Nat) (g : Nat → Nat → Rat) (y : Nat → Rat), ds = [dMx h n g, dVc h y] ∧ h ≤ 8 ∧ n ≤ 8 ∧ (∀ i j, Sz 100 (g i j)) ∧ (∀ i, Sz 100 (y i)) ∧ r = dVc n fun j => sumTo (fun t => y t * g t j) h
theorem scMB : FnScope ["self", "row"] ["self", "row"] (defScope sMB) := ⟨rfl, rfl, rfl, by decide +kernel, rfl, by decide +kernel, by decide +kernel⟩
theorem ok_MB (F : Fun K "before" "Matrix.before" sMB f fd) (D : Md K T mg CR CM) (C : DF P w K T mg base "combine" 6 RComb) : FnOk P w K mg base CX0 7 f fd ["self", "row"] (spD K T RBef) := by
  refine okD F scMB (fun ds r h => by obtain ⟨_, _, _, _, rfl, _⟩ := h; rfl) fun cdv A outer s H E pa ds r hr hR => ?_
  obtain ⟨h, n, g, y, rfl, hh, hn, hg, hy, rfl⟩ := hR
  exact ⟨_, xs_one (xp_ret (xd_df C rfl hr (xa_cons (xd_ff 0 (xd_var 0) D.M rfl D.Mr) (xa_cons (xd_ff 1 (xd_var 0) D.M rfl D.Mw) (xa_cons (xd_var 1) xa_nil))) ⟨h, n, g, y, rfl, hh, hn, hg, hy, rfl⟩)), .inl ⟨_, rfl⟩⟩
def RMM (ds : List Dt) (r : Dt) : Prop := ∃ (h m n : Nat) (f g : Nat → Nat → Rat), ds = [dMx h m f, dMx m n g] ∧ h ≤ 8 ∧ m ≤ 8 ∧ n ≤ 8 ∧ (∀ i j, Sz 100 (f i j)) ∧ (∀ i j, Sz 100 (g i j)) ∧ r = dMx h n fun i j => sumTo (fun t => f i t * g t j) m
theorem scMM : FnScope ["self", "other", "row"] ["self", "other"] (defScope sMM) := ⟨rfl, rfl, rfl, by decide +kernel, rfl, by decide +kernel, by decide +kernel⟩
theorem ok_MM (F : Fun K "__mul__" "Matrix.__mul__" sMM f fd) (D : Md K T mg CR CM) (B : MF P w K T mg base CM "before" 7 RBef) (I : IF' P w K T mg base 1 CM [] 1 RMI) : FnOk P w K mg base CX0 8 f fd ["self", "other"] (spD K T RMM) := by
  refine okD F scMM (fun ds r h => by obtain ⟨_, _, _, _, _, rfl, _⟩ := h; rfl) fun cdv A outer s H E pa ds r hr hR => ?_
  obtain ⟨h, m, n, f, g, rfl, hh, hm, hn, hf, hg, rfl⟩ := hR
  refine ⟨_, xs_one (xp_ret (xd_mk D.M I rfl (hr.mono (by decide)) (xa_cons (xd_xl (xl_map1 2 (rg h fun i => dVc n fun j => sumTo (fun t => f i t * g t j) m) scMM.nd (xi_tup rfl (xd_ff 0 (xd_var 0) D.M rfl D.Mr)) (by rw [rg_len, rg_len]) (by rw [rg_len]; omega) rfl ?_)) (xa_cons (xd_ff 1 (xd_var 1) D.M rfl D.Mw) xa_nil)) ⟨h, n, _, _, rfl, hh, fun i _ => .inr rfl, rfl⟩)), .inl ⟨_, rfl⟩⟩
  intro i d v h1 h2 sh H C cl fp
  obtain ⟨hi, rfl⟩ := rg_get h1
  obtain ⟨_, rfl⟩ := rg_get h2
  exact xd_mf (xd_var 1) D.M B rfl hr (xa_cons (xd_var 2) xa_nil) ⟨m, n, g, f i, rfl, hm, hn, hg, hf i, rfl⟩
def RMC (ds : List Dt) (r : Dt) : Prop := ∃ (h n : Nat) (g : Nat → Nat → Rat) (q : Rat), ds = [dMx h n g, dR q] ∧ h ≤ 8 ∧ n ≤ 8 ∧ (∀ i j, Sz 100 (g i j)) ∧ Sz 100 q ∧ r = dMx h n fun i j => g i j * q
theorem scMC : FnScope ["self", "r", "row", "item"] ["self", "r"] (defScope sMC) := ⟨rfl, rfl, rfl, by decide +kernel, rfl, by decide +kernel, by decide +kernel⟩
theorem ok_MC (F : Fun K "scaled" "Matrix.scaled" sMC f fd) (D : Md K T mg CR CM) (R : RF P w K T mg base CR) (I : IF' P w K T mg base 1 CM [] 1 RMI) : FnOk P w K mg base CX0 4 f fd ["self", "r"] (spD K T RMC) := by
  refine okD F scMC (fun ds r h => by obtain ⟨_, _, _, _, rfl, _⟩ := h; rfl) fun cdv A outer s H E pa ds r hr hR => ?_
  obtain ⟨h, n, g, q, rfl, hh, hn, hg, hq, rfl⟩ := hR
  refine ⟨_, xs_one (xp_ret (xd_mk D.M I rfl (hr.mono (by decide)) (xa_cons (xd_xl (xl_map1 2 (rg h fun i => dLc n fun j => g i j * q) scMC.nd (xi_tup rfl (xd_ff 0 (xd_var 0) D.M rfl D.Mr)) (by rw [rg_len, rg_len]) (by rw [rg_len]; omega) rfl ?_)) (xa_cons (xd_ff 1 (xd_var 0) D.M rfl D.Mw) xa_nil)) ⟨h, n, _, _, rfl, hh, fun i _ => .inl rfl, rfl⟩)), .inl ⟨_, rfl⟩⟩
  intro i d v h1 h2 sh H C cl fp
  obtain ⟨hi, rfl⟩ := rg_get h1
  obtain ⟨_, rfl⟩ := rg_get h2
  refine xd_xl (xl_map1 3 (rg n fun j => dR (g i j * q)) scMC.nd (xi_tup rfl (xd_var 2)) (by rw [rg_len, rg_len]) (by rw [rg_len]; omega) rfl ?_)
  intro j d v h1 h2 sh H C cl fp
  obtain ⟨hj, rfl⟩ := rg_get h1
  obtain ⟨_, rfl⟩ := rg_get h2
  exact xd_opF (op := .Mult) (xd_var 3) (xd_var 1) D.R R.mul rfl hr D.Rf ⟨g i j, q, rfl, (hg i j).mono (by decide), hq.mono (by decide), rfl⟩
/-! ### _placed, identity, nothing -/
end
end My
set_option autoImplicit true
set_option maxRecDepth 100000
set_option maxHeartbeats 4000000
/-! an own error that says why: class Refused, its __init__ stores the one word that it is given -/
namespace DvR
open PySem PySem.W PySem.Calls PyProof.Rows PySem.HandSPX
def ia (p1 p2 : Pos) : Arguments := { posonlyargs := [], args := [{ arg := "self", annotation := none, pos := p1 }, { arg := "reason", annotation := none, pos := p2 }], vararg := none, kwonlyargs := [], kw_defaults := [], kwarg := none, defaults := [] }
def ib (q1 q2 q3 q4 : Pos) : List Stmt := [.Assign [.Attribute (.Name "self" q1) "reason" q2] (.Name "reason" q3) q4]
def is : Scope := { kind := .function, names := [(PySem.Str.ofString "self", .local), (PySem.Str.ofString "reason", .local)], isGenerator := false, isCoroutine := false, more := [] }
/-- the class at C, its __init__ at fI -/
structure Rfd (K : Frag) (mg : Str → Option Value) (C fI : Addr) : Prop where
  nm : mg "Refused" = some (.ref C)
  cl : ∃ a q N bs bm sn sub ab col dd k0 k1 k2 k3 k5, K.lookup C = some (excClassObj a q C N bs bm true sn sub ab col dd k0 k1 k2 k3 k5 "ValueError.__new__") ∧ refsVE bm = true
  sa : findIn K (.ref C) "__setattr__" = some (some (.builtin "object.__setattr__"))
  ga : findIn K (.ref C) "__getattribute__" = some (some (.builtin "BaseException.__getattribute__"))
  gg : findIn K (.ref C) "__getattr__" = some none
  na : findIn K (.ref C) "reason" = some none
  ii : findIn K (.ref C) "__init__" = some (some (.ref fI))
  ti : typeIn K (.ref fI) = some (.type "function")
  kp : keepIn K (.ref C) = true
  sb : subIn K (.ref C) (.type "BaseException") = some true
  ty : typeIn K (.ref C) = some (.type "type")
  hd : hasDictIn K C = true
  fn : ∃ (oc : Value) (od : Option Addr) (doc pm : Value) (an : Option Addr) (cdv ct kV : Value) (osl : Array (Option Value)) (p1 p2 q1 q2 q3 q4 : Pos),
    K.lookup fI = some ⟨oc, od, .func (fnOf "__init__" "Refused.__init__" (ia p1 p2) (ib q1 q2 q3 q4) is .none kV doc pm an cdv ct), osl⟩ ∧ codeIn K cdv "Refused.__init__" = true
theorem local_at {M : Model} {s : Shared} {name : Str} {scope : Scope} {L a : Addr} {cd : Value} {m : Str → Option Value} {x : Str} {pos : Pos} {v : Value} {Q : Value → Shared → Prop} {A : Around} {E : Value → Shared → Prop} (hn : s.heap.Ns L m) (hv : m x = some v) (h : Q v s)
    (hk : scope.kind = .function := by rfl) (hl : (envOfC name scope L a cd).kindOf x = some .local := by rfl) (hd : (x == ("__debug__" : Str)) = false := by decide) :
    wpAny M A (eval (.Name x pos) (envOfC name scope L a cd)) Q E s := wpAny_Name (wpAny_loadName_local hk hl hn hv h) hd
/-- behind __init__ -/
structure Born (h h' : Heap) (x C dx t1 : Addr) (v : Value) : Prop where
  kp : ∀ b o, b ≠ x → h.get? b = some o → h'.get? b = some o
  ob : h'.get? x = some { cls := .ref C, dict := some dx, data := .fields #[.ref t1, .none, .none, .none, .bool false, .none] }
  hi : h.objs.size ≤ dx
  ne : dx ≠ x
  ns : h'.Ns1 dx (fun y => if y = "reason" then some v else none)
/-- the error made -/
structure Err (h h' : Heap) (e C d : Addr) (v : Value) : Prop where
  kp : ∀ b o, h.get? b = some o → h'.get? b = some o
  nw : h.objs.size ≤ e
  ob : ∃ oe vs, h'.get? e = some oe ∧ oe.cls = .ref C ∧ oe.dict = some d ∧ oe.data = .fields vs ∧ vs[1]? = some .none
  hi : h.objs.size ≤ d
  ne : d ≠ e
  ns : h'.Ns1 d (fun y => if y = "reason" then some v else none)
section
variable {prog : Program} {w : World} {A : Around} {E : Value → Shared → Prop} {R : Result → Shared → Prop} {s : Shared} {K : Frag} {mg : Str → Option Value} {C fI : Addr}
theorem born (T : Rfd K mg C fI) {x t0 : Addr} {v : Value} (X : K.In s.heap) (hlim : s.heap.NoLimit) (hx : s.heap.get? x = some (excO C t0)) (hroom : A.depth < recursionLimit)
    (hq : ∀ h' tk dx, Born s.heap h' x C dx t0 v → R (.ok (.ret .none)) { s with heap := h', toks := tk }) :
    codeAny (model prog w) A (.call (.ref fI) ⟨[.ref x, v], []⟩) R s := by
  obtain ⟨oc, od, doc, pm, an, cdv, ct, kV, osl, p1, p2, q1, q2, q3, q4, ho, hcd⟩ := T.fn
  obtain ⟨a, q, N, bs, bm, sn, sub, ab, col, dd, k0, k1, k2, k3, k5, hC, hbm⟩ := T.cl
  have hcl : clsIn K C = some { name := a, bases := bs, mro := .ref C :: bm, ns := N, qualname := q, hasDict := true, slotNames := sn, subclasses := sub, abstract := ab, collection := col, hasDel := false } := by unfold clsIn; rw [hC] <;> rfl
  refine Att.call_fn (binds := [("self", .ref x), ("reason", v)]) X hlim ho hcd hroom (BindsTo.of_eq (by with_unfolding_all rfl)) (by with_unfolding_all rfl) (fun s₁ IC => ?_) rfl rfl rfl
  obtain ⟨h₁, tk₁, rfl⟩ := IC.toInCall.same
  have k : ∀ b o, s.heap.get? b = some o → h₁.get? b = some o := IC.toInCall.keep
  have hn := IC.toInCall.ns
  have X₁ : K.In h₁ := X.keeps k
  have hx₁ := k _ _ hx
  show wpAny _ _ (execs _ _) _ _ _
  refine wpAny_execs_cons (plainObj_wpAny_Assign_Attribute ?_)
  refine local_at (v := v) hn (by first | rfl | with_unfolding_all rfl | kernel_rfl) (local_at (v := .ref x) hn (by first | rfl | with_unfolding_all rfl | kernel_rfl) ?_)
  refine set_plain X₁ (ox := excO C t0) (od := none) ⟨hx₁, rfl, rfl, trivial⟩ T.sa ?_
  refine exc_osa X₁ hx₁ hcl (show refsVE (.ref C :: bm) = true from hbm) rfl T.na (fun h₃ tk₃ dx k₃ dn dne hx₃ hn₃ => ?_)
  show wpAny _ _ (execs _ _) _ _ _
  have z : s.heap.objs.size < h₁.objs.size := hn.lt
  exact wpAny_execs_nil (hq h₃ tk₃ dx ⟨fun b o hb e => k₃ b o hb (k b o e), hx₃, Nat.le_of_lt (Nat.lt_of_lt_of_le z dn), dne, hn₃⟩)
theorem made (T : Rfd K mg C fI) {v : Value} (X : K.In s.heap) (hlim : s.heap.NoLimit) (hroom : A.depth + 1 < recursionLimit)
    (hq : ∀ h' tk e d, Err s.heap h' e C d v → R (.ok (.ret (.ref e))) { s with heap := h', toks := tk }) :
    codeAny (model prog w) A (.call (.ref C) ⟨[v], []⟩) R s := by
  obtain ⟨a, q, N, bs, bm, sn, sub, ab, col, dd, k0, k1, k2, k3, k5, hC, hbm⟩ := T.cl
  obtain ⟨hp, g, dr, tk, os⟩ := s
  have k : ∀ b o, hp.get? b = some o → ((hp.push (kdv_tup [v])).push (excO C hp.objs.size)).get? b = some o := fun b o e => Heap.get?_push_of_some _ (Heap.get?_push_of_some _ e)
  have hget : ((hp.push (kdv_tup [v])).push (excO C hp.objs.size)).get? (hp.objs.size + 1) = some (excO C hp.objs.size) := by heap_get
  refine call_own F.excBase_ValueError (fun X => refsVE_contains X bm hbm) (X _ _ hC) (looks_findIn X T.ii) (fun self => bind_fn X self T.ti) (by rw [sizeLine_eq]; exact (by decide : 1 ≤ 16777216)) ?_
  refine born (s := ⟨(hp.push (kdv_tup [v])).push (excO C hp.objs.size), g, dr, tk, os⟩) T (X.keeps k) (hlim.keeps k) hget ?_ fun h' tk' dx ⟨k', hx, dn, dne, hns⟩ => ?_
  · show A.depth + 1 < recursionLimit
    exact hroom
  · have old : ∀ b o, hp.get? b = some o → h'.get? b = some o := fun b o e => k' b o (Nat.ne_of_lt (Nat.lt_succ_of_lt (Heap.lt_size e))) (k b o e)
    have z : hp.objs.size + 1 + 1 ≤ dx := by
      first
        | (simpa only [Heap.size_push] using dn)
        | exact dn
        | (have q := dn; rw [Heap.size_push, Heap.size_push] at q; exact q)
    exact ⟨rfl, hq h' tk' (hp.objs.size + 1) dx ⟨old, Nat.le_succ _, ⟨_, _, hx, rfl, rfl, rfl, rfl⟩, Nat.le_trans (Nat.le_trans (Nat.le_succ _) (Nat.le_succ _)) z, dne, hns⟩⟩
end
end DvR
namespace Dv
open PySem PySem.Spec PyProof.Rows L2
theorem rel_reason {v : V} {v' : Value} (r : RelV v v') (f : Str) : RelO (List.lookup f [(("reason" : Str), v)]) (if f = "reason" then some v' else none) := by
  by_cases hw : f = "reason"
  · subst hw
    rw [if_pos rfl, show List.lookup ("reason" : Str) [(("reason" : Str), v)] = some v by simp [List.lookup]]
    exact r
  · rw [if_neg hw, show List.lookup f [(("reason" : Str), v)] = none by simp [List.lookup, show (f == ("reason" : Str)) = false by simpa using hw]]
    trivial
variable {c : Ctx} {X : Cx} {st st1 st2 st3 st' : Store} {a b e : Expr} {es : List Expr} {d d1 d2 d' : Dt} {ds xs ys : List Dt} {pos : Pos} {G G' H H' : Hp} {σ σ' : L2.St} {W : WX} {x : Xn} {s : Stmt} {rest : List Stmt} {o : Out} {C fI : Addr}
def tMkR (C : Addr) (ta : TA) : L2.St → Hp → XK → Prop := fun σ H Q => ta σ H fun vs H1 => ∃ v, vs = [v] ∧ ∀ d, H1 d = none → Q (.ref C) (some d) (upd H1 d (.xd [(("reason" : Str), v)]))
theorem pmk_R {ta : TA} {p pos : Pos} {k : Nat} (T : DvR.Rfd X.K X.mg C fI) (hr : Room k X.A) (ha : PA X [a] ta) (hg : Gl X "Refused" := by rfl)
    (he : starEach (a :: []) X.env = (false, eval a X.env) :: starEach [] X.env := by rfl) (hpl : (backTo pos (starEach [] X.env)).any (·.1) = false := by rfl) :
    PMk X (.Call (.Name "Refused" p) [a] [] pos) (tMkR C ta) := by
  intro pins s σ H Q I h
  refine wpAny_Call_Name_kw (ld_glob I hg T.nm ?_)
  refine PySem.W.callWith_K (h₀ := X.base) I.ok.mod.kin T.kp (thn (ha.run pos pins s σ H _ I h) fun us s1 hh => ?_) he hpl
  obtain ⟨vs, H1, I1, r1, v, ev, q1⟩ := hh
  subst ev
  refine ⟨I1.kIn, ?_⟩
  cases r1 with
  | cons rv rn =>
    rename_i v' us'
    cases rn
    show wpAny _ _ (call (.ref C) [v']) _ _ _
    have hlim := I1.nolimit
    obtain ⟨hp, g, dr, tk, os⟩ := s1
    refine wpAny_call (DvR.made T I1.kIn hlim (by have := hr.dp; omega) fun h' tk' e d M => ?_)
    show MkP X pins σ Q (.ref e) ⟨h', g, dr, tk', os⟩
    obtain ⟨oe, fv, hoe, hc, hd, hdat, h1⟩ := M.ob
    have hns := M.ns
    obtain ⟨G', g1, g2⟩ := restrict h' fun b => decide (b ≠ e)
    have gk : ∀ b, b ≠ e → G'.get? b = h'.get? b := fun b hb => g1 b (decide_eq_true hb)
    have ge : G'.get? e = none := g2 e (by simp)
    have old : ∀ b o, hp.get? b = some o → G'.get? b = some o := fun b o q => (gk b (Nat.ne_of_lt (Nat.lt_of_lt_of_le (Heap.lt_size q) M.nw))).trans (M.kp b o q)
    have ob : ObjOk X.prog X.w (upd H1 d (.xd [(("reason" : Str), v)])) G' d (.xd [(("reason" : Str), v)]) :=
      ⟨_, hns.at (fun o q => (gk d M.ne).trans q), fun f => rel_reason rv f⟩
    have J : Inv X pins σ (upd H1 d (.xd [(("reason" : Str), v)])) ⟨G', g, dr, tk', os⟩ := I1.laid (t' := tk') old M.hi ob
    refine ⟨e, oe, fv, ⟨G', g, dr, tk', os⟩, _, .ref C, some d, rfl, J, fun b o q => ?_, ge, hoe, ⟨hc, hd⟩, hdat, h1, ?_, rfl, I1.bare, raises_own T.sb T.ty, q1 d (I1.hok.fresh M.hi)⟩
    · by_cases hb : b = e
      · have q' : G'.get? b = some o := q
        rw [hb, ge] at q'; cases q'
      · exact (gk b hb).symm.trans q
    · rw [upd_ne (Ne.symm M.ne)]
      exact I1.hok.fresh M.nw
/-- raise Refused(a) -/
theorem xpx_raiseR {p p3 : Pos} {k : Nat} (T : DvR.Rfd X.K X.mg C fI) (hc : X.calm = true) (hr : Room k X.A) (tk : Takes X W) (ha : XA c X [a] st [d] st1) (hg : Gl X "Refused" := by rfl)
    (he : starEach (a :: []) X.env = (false, eval a X.env) :: starEach [] X.env := by rfl) (hpl : (backTo pos (starEach [] X.env)).any (·.1) = false := by rfl) :
    XPX c X W (.Raise (some (.Call (.Name "Refused" p) [a] [] pos)) none p3) st ⟨C, some ("reason", d)⟩ st1 :=
  ⟨ps_weak (ps_raise hc tk (pmk_R T hr ha.pa hg he hpl)) fun D σ H ⟨G, E, k⟩ => ⟨G, E, fun vs G1 H1 g1 E1 r1 => by
    cases r1 with
    | @cons _ vv _ _ r r1 =>
      cases r1
      refine ⟨vv, rfl, fun dd hd => ?_⟩
      have w := Gw.new (o := .xd [(("reason" : Str), vv)]) E1.ex hd
      exact k σ _ _ _ _ (g1.trans w.gr) (E1.g1 w) ⟨rfl, dd, _, rfl, upd_same, r.ex w.ex⟩⟩⟩
/-- bad.reason -/
def tRsn (C : Addr) (a : Addr) (cls : Value) (d : Option Addr) (te : TE) : TE := fun σ H Q => te σ H fun x H1 => x = .ref a ∧ cls = .ref C ∧ ∃ (dd : Addr) (v : V), d = some dd ∧ H1 dd = some (.xd [(("reason" : Str), v)]) ∧ Q v H1
theorem pe_rsn {a : Addr} {oe : Obj} {cls : Value} {d : Option Addr} {pn : List (Addr × Obj)} {e : Expr} {te : TE} {pos : Pos} (T : DvR.Rfd X.K X.mg C fI) (hz : Zc cls d oe) (hf : ∃ vs, oe.data = .fields vs) (he : PE (X.suite a ((a, oe) :: pn)) e te)
    (hb : attributeBase e "reason" X.env (eval e X.env) = eval e X.env := by rfl) :
    PE (X.suite a ((a, oe) :: pn)) (.Attribute e "reason" pos) (tRsn C a cls d te) := by
  refine ⟨fun pins s σ H Q I h => ?_⟩
  refine attr_of hb (thn (he.run pins s σ H _ I h) fun u s1 hh => ?_)
  obtain ⟨x, H1, I1, rx, ex, ec, dd, v, ed, ea, q⟩ := hh
  subst ex
  obtain rfl : u = Value.ref a := rx
  subst ec
  subst ed
  obtain ⟨ha, _⟩ := I1.pin (a, oe) (List.mem_append_left _ List.mem_cons_self)
  obtain ⟨vs, hd⟩ := hf
  have hx : ObjOk X.prog X.w H1 s1.heap dd (.xd [(("reason" : Str), v)]) := I1.hok dd _ ea
  obtain ⟨mA, hns, hr⟩ := hx
  obtain ⟨od, ho, hl⟩ := lookIn_ns hns
  have l : List.lookup ("reason" : Str) [(("reason" : Str), v)] = some v := by simp [List.lookup]
  obtain ⟨u, hu, ru⟩ := RelO.some_of (v := v) (o := mA "reason") (by rw [← l]; exact hr "reason")
  have J : PySem.W.InstAt s1.heap a oe C (some od) := ⟨ha, hz.1, by unfold PySem.W.notCls; rw [hd] <;> rfl, by rw [hz.2]; exact ho⟩
  exact HandSPX.exc_get I1.kIn J T.ga T.gg T.sb (PySem.W.findObj_own T.hd T.na rfl (by rw [hl, hu])) (handed_of ru) ⟨v, H1, I1.tok _, ru, q⟩
theorem xd_rsn (i : Nat) {y : Str} {a : Addr} {oe : Obj} {dd : Option Addr} {pn : List (Addr × Obj)} {p : Pos} (T : DvR.Rfd X.K X.mg C fI) (hz : Zc (.ref C) dd oe) (hf : ∃ vs, oe.data = .fields vs) (hi : st[i]? = some (some (.ex a dd (some ("reason", d)))) := by rfl)
    (hN : X.N[i]? = some y := by rfl) (hv : Vis X.env.scope y := by first | exact Or.inl rfl | exact Or.inr (Or.inl rfl) | exact Or.inr (Or.inr rfl)) (hdb : (y == ("__debug__" : Str)) = false := by decide)
    (hcd : (y == ("__classdict__" : Str)) = false := by decide) (hb : attributeBase (.Name y p) "reason" X.env (eval (.Name y p) X.env) = eval (.Name y p) X.env := by rfl) :
    XD c (X.suite a ((a, oe) :: pn)) (.Attribute (.Name y p) "reason" pos) st d st :=
  ⟨pe_weak (pe_rsn T hz hf (pe_var hN hv hdb hcd) hb) fun σ H Q ⟨G, E, k⟩ => by
    obtain ⟨v, h1, rfl, q, vv, rfl, h2, h3⟩ := E.sl i _ hi
    exact ⟨_, h1, rfl, rfl, q, vv, rfl, E.ex _ _ h2, k _ G H Gr.refl E h3⟩⟩
end Dv
set_option autoImplicit true
set_option maxRecDepth 100000
set_option maxHeartbeats 4000000
namespace Dv
open PySem PySem.Spec PyProof.Rows L2
variable {c : Ctx} {X : Cx} {st st1 st2 st3 st' : Store} {a b e tg iter : Expr} {es : List Expr} {d d1 d2 d' : Dt} {ds xs ys : List Dt} {pos : Pos} {G G' H H' : Hp} {σ σ' : L2.St} {W : WX} {x : Xn} {s : Stmt} {rest body : List Stmt} {o : Out} {C fI : Addr}
/-! ### isinstance of an exception that a suite holds -/
structure ExcI (K : PySem.W.Frag) (D : Addr) : Prop where
  ic : (PySem.W.clsIn K D).isSome = true
  hg : PySem.W.findIn K (.ref D) "__getattribute__" = some (some (.builtin "BaseException.__getattribute__"))
  hk : PySem.W.findIn K (.ref D) "__getattr__" = some none
  hs : PySem.W.subIn K (.ref D) (.type "BaseException") = some true
  ha : PySem.W.findIn K (.ref D) "__class__" = some (some (.builtin "object.__class__"))
  hn : PySem.W.specialIn K (.builtin "object.__class__") "__get__" = some (some (.builtin "getset_descriptor.__get__"))
  ht : PySem.W.takesIn K (.builtin "object.__class__") = some true
  hm : PySem.W.mroIn K D (.type "object") = some true
def rIsX (K : PySem.W.Frag) (D a : Addr) (dd : Option Addr) : List V → Hp → VK → Prop := fun xs H Q => ∃ (c : V) (cv : Value) (b : Bool), xs = [.ref a, c] ∧ (∀ u, RelV c u → u = cv) ∧ PySem.W.kitOne K (.ref D) cv = some b ∧
  (dd = none ∨ ∃ p f v, dd = some p ∧ H p = some (.xd [(f, v)])) ∧ Q (.bl b) H
theorem call_isX {a D : Addr} {oe : Obj} {pn : List (Addr × Obj)} {dd : Option Addr} (C : ExcI X.K D) (hz : Zc (.ref D) dd oe) (hf : ∃ vs, oe.data = .fields vs) : CallR (X.suite a ((a, oe) :: pn)) (.builtin "isinstance") (rIsX X.K D a dd) := by
  intro pins s σ H xs us Q I r h
  obtain ⟨c, cv, b, rfl, hcv, hk, hd, q⟩ := h
  cases r with
  | cons ra r =>
    cases r with
    | cons rc r =>
      cases r
      cases ra
      have ec := hcv _ rc
      subst ec
      obtain ⟨ha, _⟩ := I.pin (a, oe) (List.mem_append_left _ List.mem_cons_self)
      obtain ⟨vs, hdat⟩ := hf
      have J : ∃ od, PySem.W.InstAt s.heap a oe D od := by
        rcases hd with rfl | ⟨p, f, v, rfl, hp⟩
        · exact ⟨none, ha, hz.1, by unfold PySem.W.notCls; rw [hdat] <;> rfl, by rw [hz.2]; trivial⟩
        · have hx : ObjOk X.prog X.w H s.heap p (.xd [(f, v)]) := I.hok p _ hp
          obtain ⟨mA, hns, hr⟩ := hx
          obtain ⟨od, ho, hl⟩ := lookIn_ns hns
          exact ⟨some od, ha, hz.1, by unfold PySem.W.notCls; rw [hdat] <;> rfl, by rw [hz.2]; exact ho⟩
      obtain ⟨od, J⟩ := J
      exact PySem.W.kia_one (PySem.W.kitx_exc C.ic C.hg C.hk C.hs C.ha C.hn C.ht C.hm) I.kIn J hk (fun z => nomatch z) fun tk => ⟨.bl b, H, I.tok _, rfl, q⟩
theorem xd_isE (i : Nat) {y z : Str} {a D Cz : Addr} {oe : Obj} {dd : Option Addr} {q : Option (Str × Dt)} {pn : List (Addr × Obj)} {r : Bool} {p p1 p2 : Pos} (C : ExcI X.K D) (hz : Zc (.ref D) dd oe) (hf : ∃ vs, oe.data = .fields vs) (hzn : X.mg z = some (.ref Cz)) (hk : PySem.W.kitOne X.K (.ref D) (.ref Cz) = some r) (hm : X.mg "isinstance" = none)
    (hi : st[i]? = some (some (.ex a dd q)) := by rfl) (hN : X.N[i]? = some y := by rfl) (hv : Vis X.env.scope y := by first | exact Or.inl rfl | exact Or.inr (Or.inl rfl) | exact Or.inr (Or.inr rfl)) (hdb : (y == ("__debug__" : Str)) = false := by decide)
    (hcd : (y == ("__classdict__" : Str)) = false := by decide) (hg : Gl X "isinstance" := by rfl) (hgz : Gl X z := by rfl) (hdz : (z == ("__debug__" : Str)) = false := by decide)
    (he : starEach (.Name y p1 :: [.Name z p2]) X.env = (false, eval (.Name y p1) X.env) :: starEach [.Name z p2] X.env := by rfl) (he2 : starEach (.Name z p2 :: []) X.env = (false, eval (.Name z p2) X.env) :: starEach [] X.env := by rfl) (hpl : (backTo pos (starEach [.Name z p2] X.env)).any (·.1) = false := by rfl) :
    XD c (X.suite a ((a, oe) :: pn)) (.Call (.Name "isinstance" p) [.Name y p1, .Name z p2] [] pos) st (.bl r) st :=
  ⟨pe_weak (pe_callB (call_isX C hz hf) hg hm (by decide +kernel) (pa_cons (pe_var hN hv hdb hcd) (pa_cons (pe_glob (v := .ref Cz) hgz hzn rfl hdz) pa_nil he2) he) (by decide) (by decide) he hpl) fun σ H Q ⟨G, E, k⟩ => by
    obtain ⟨v, h1, h2⟩ := E.sl i _ hi
    obtain ⟨rfl, h2⟩ := h2
    refine ⟨_, h1, _, _, r, rfl, fun u ru => ru, hk, ?_, k _ G H Gr.refl E .bl⟩
    cases q with
    | none => exact .inl h2
    | some q =>
      obtain ⟨p, vv, e1, e2, _⟩ := h2
      exact .inr ⟨p, _, vv, e1, E.ex _ _ e2⟩⟩
/-! ### try .. except X as n -/
def Out.drop (i : Nat) : Out → Out
  | .nx s => .nx (s.set i none)
  | .bk s => .bk (s.set i none)
  | .ct s => .ct (s.set i none)
  | .rt d s => .rt d (s.set i none)
  | .rl xs => .rl xs
  | .rq ds j s => .rq ds j (s.set i none)
theorem En.setNone (E : En c.K c.T c.pa G H σ st) (i : Nat) : En c.K c.T c.pa G H (σ.set i none) (st.set i none) where
  ex := E.ex
  sl := fun j s h => by
    rcases set_cases h with ⟨rfl, e, z⟩ | ⟨n, h⟩
    · cases e
    · obtain ⟨w, h1, h2⟩ := E.sl j s h
      exact ⟨w, by rw [List.getElem?_set_ne (Ne.symm n)]; exact h1, h2⟩
  ds := fun j k s t p h1 h2 o1 o2 h3 h4 => by
    rcases set_cases h1 with ⟨rfl, e, z⟩ | ⟨n, h1⟩
    · cases e
    · rcases set_cases h2 with ⟨rfl, e, z⟩ | ⟨n', h2⟩
      · cases e
      · rw [List.getElem?_set_ne (Ne.symm n)] at h3
        rw [List.getElem?_set_ne (Ne.symm n')] at h4
        exact E.ds j k s t p h1 h2 o1 o2 h3 h4
  len := by rw [List.length_set, List.length_set, E.len]
theorem own_setNone {i : Nat} {p : Addr} (h : own (σ.set i none) (st.set i none) p) : own σ st p := by
  obtain ⟨j, s, h1, h2, h3⟩ := h
  rcases set_cases h1 with ⟨rfl, e, z⟩ | ⟨n, h1⟩
  · cases e
  · rw [List.getElem?_set_ne (Ne.symm n)] at h3
    exact ⟨j, s, h1, h2, h3⟩
theorem En.setEx {a : Addr} {dd : Option Addr} {q : Option (Str × Dt)} (E : En c.K c.T c.pa G H σ st) (h : match q with | none => dd = none | some (f, d) => ∃ p vv, dd = some p ∧ G p = some (.xd [(f, vv)]) ∧ Rep c.K c.T G d vv) (i : Nat) : En c.K c.T c.pa G H (σ.set i (some (.ref a))) (st.set i (some (.ex a dd q))) where
  ex := E.ex
  sl := fun j s hj => by
    rcases set_cases hj with ⟨rfl, e, z⟩ | ⟨n, hj⟩
    · cases e
      exact ⟨.ref a, by rw [List.getElem?_set_self (by rw [E.len]; exact z)], rfl, h⟩
    · obtain ⟨w, h1, h2⟩ := E.sl j s hj
      exact ⟨w, by rw [List.getElem?_set_ne (Ne.symm n)]; exact h1, h2⟩
  ds := fun j k s t p h1 h2 o1 o2 h3 h4 => by
    rcases set_cases h1 with ⟨rfl, e, z⟩ | ⟨n, h1⟩
    · cases e; cases o1
    · rcases set_cases h2 with ⟨rfl, e, z⟩ | ⟨n', h2⟩
      · cases e; cases o2
      · rw [List.getElem?_set_ne (Ne.symm n)] at h3
        rw [List.getElem?_set_ne (Ne.symm n')] at h4
        exact E.ds j k s t p h1 h2 o1 o2 h3 h4
  len := by rw [List.length_set, List.length_set, E.len]
theorem own_setEx {i : Nat} {a : Addr} {dd : Option Addr} {q : Option (Str × Dt)} {p : Addr} (h : own (σ.set i (some (.ref a))) (st.set i (some (.ex a dd q))) p) : own σ st p := by
  obtain ⟨j, s, h1, h2, h3⟩ := h
  rcases set_cases h1 with ⟨rfl, e, z⟩ | ⟨n, h1⟩
  · cases e; cases h2
  · rw [List.getElem?_set_ne (Ne.symm n)] at h3
    exact ⟨j, s, h1, h2, h3⟩
theorem OutK.drop {D : Ends} {O : Addr → Prop} (i : Nat) (k : OutK c D G H O (o.drop i)) : OutK c { nx := fun σ' H' => D.nx (σ'.set i none) H', rt := D.rt, bk := fun σ' H' => D.bk (σ'.set i none) H', ct := fun σ' H' => D.ct (σ'.set i none) H' } G H O o := by
  cases o with
  | nx s => exact fun σ' G' H' g E => k _ G' H' (g.weakO fun p h => own_setNone h) (E.setNone i)
  | bk s => exact fun σ' G' H' g E => k _ G' H' (g.weakO fun p h => own_setNone h) (E.setNone i)
  | ct s => exact fun σ' G' H' g E => k _ G' H' (g.weakO fun p h => own_setNone h) (E.setNone i)
  | rt d s => exact fun v σ' G' H' g E r => k v σ' G' H' (g.weakO fun p h => own_drop h) (E.drop i) r
  | rl xs => exact k
  | rq ds j s => exact fun t b vs σ' G' H' g E r1 r2 r3 r4 r5 => k t b vs σ' G' H' (g.weakO fun p h => own_drop h) (E.drop i) r1 r2 r3 (fun z => r4 (own_drop z)) r5
theorem xp_tryAs (i : Nat) {y n : Str} {x : Xn} {cv : Value} {body suite : List Stmt} {b0 : Stmt} {np p1 : Pos} (hN : X.N.Nodup) (hc : Names X y cv) (hm : PySem.W.exmOne X.K (.ref x.C) cv = some true)
    (hb : ∀ (W : WX) (pn : List (Addr × Obj)) (xe : Value → Shared → Prop), Takes (X.tr pn xe) W → PassesOwn (model X.prog X.w) X.A X.env xe → XSX c (X.tr pn xe) W body st x st1)
    {o1 : Addr → Option Addr → Out} (hsu : ∀ (a : Addr) (oe : Obj) (dd : Option Addr) (pn : List (Addr × Obj)), Zc (.ref x.C) dd oe → (∃ vs, oe.data = .fields vs) → XS c (X.suite a ((a, oe) :: pn)) (b0 :: suite) (st1.set i (some (.ex a dd x.at_))) (o1 a dd))
    (ho : ∀ a dd, (o1 a dd).drop i = o := by intro _ _; rfl)
    (hs : X.stack = X.env :: X.outer := by rfl) (hf : X.env.frame = some X.env.locals := by rfl) (hi : X.N[i]? = some n := by rfl) (hln : X.env.kindOf n = some .local := by rfl) :
    XP c X (.Try body [.ExceptHandler (some (.Name y np)) (some n) (b0 :: suite) p1] [] [] pos) st o :=
  ⟨ps_weak (ps_try_as (i := i) (Wout := fun _ _ _ _ => False) (tb := fun W _ σ H => tXS c W st x st1 σ H) (ts := fun a cls dd => fun D σ H => cls = .ref x.C ∧ tO c (st1.set i (some (.ex a dd x.at_))) (o1 a dd) D σ H) hs hf hN hi hln hc takes0 (fun W pn xe tk pw => (hb W pn xe tk pw).pss) (fun a oe cls dd pn hz hfl => by
      by_cases hcl : cls = .ref x.C
      · subst hcl
        exact pss_weak (hsu a oe dd pn hz hfl).pss fun D σ H h => h.2
      · exact pss_weak pss_never' fun D σ H h => hcl h.1)) fun D σ H ⟨G, E, k⟩ =>
    ⟨G, E, fun σ' G' H' cls dd g E' r => by
      obtain ⟨rfl, r2⟩ := r
      refine ⟨true, hm, fun _ a ha => ⟨rfl, G', E'.setEx r2 i, ?_⟩, fun z => nomatch z⟩
      rw [← ho a dd] at k
      exact OutK.drop i (OutK.from k (g.weakO fun p h => own_setEx h))⟩⟩
/-! ### what raises on the way -/
theorem pa_never {es : List Expr} : PA X es (fun _ _ _ => False) := ⟨fun _ _ _ _ _ _ _ h => h.elim⟩
/-- f(e, ..), e raises -/
theorem xx_arg {y : Str} {k : Nat} {R : List Dt → Dt → Prop} {p : Pos} (F : DF X.prog X.w X.K c.T X.mg X.base y k R) (hr : Room k X.A) (h : XX c X W e st x st1) (hg : Gl X y := by rfl) (hdb : (y == ("__debug__" : Str)) = false := by decide) (he : starEach (e :: es) X.env = (false, eval e X.env) :: starEach es X.env := by rfl) (hpl : (backTo pos (starEach es X.env)).any (·.1) = false := by rfl) :
    XX c X W (.Call (.Name y p) (e :: es) [] pos) st x st1 := by
  obtain ⟨f, fd, ps, F, hm, hk, hb⟩ := F.ex
  exact ⟨pe_weak (pe_call (E := fun _ _ _ => False) F hr hg hm hk hb .nil pass0 (pa_cons h.pe pa_never he) hdb he hpl) fun σ H Q h => h⟩
/-- e.m(..), e raises -/
theorem xx_recv {m : Str} {apos : Pos} {pl : Sem Bool} (h : XX c X W b st x st1)
    (ht : eval (.Call (.Attribute b m apos) (e :: es) [] pos) X.env = (do
      let ov ← eval b X.env
      standAt apos.atName
      let (f, first) ← holding [ov] (getMethod ov m pl)
      callWith pos f first (backTo pos (starEach (e :: es) X.env)) (backToKw pos (keywordEach [] X.env))) := by rfl) :
    XX c X W (.Call (.Attribute b m apos) (e :: es) [] pos) st x st1 :=
  ⟨⟨fun pins s σ H Q' I h' => PySem.W.methodCall_KW (pl := pl) (thn (h.pe.run pins s σ H (fun _ _ => False) I h') fun u s1 z => by
    obtain ⟨_, _, _, _, f⟩ := z
    exact f.elim) ht⟩⟩
/-- a[e], e raises -/
theorem xx_ix {r : R2} (ha : XD c X a st d st1) (hb : XX c X W b st1 x st2) (ho : IxR X r) (hs : PlainIx b) : XX c X W (.Subscript a b pos) st x st2 :=
  ⟨pe_weak (pe_ix ho ha.pe hb.pe hs) fun σ H Q ⟨G, E, k⟩ => ⟨G, E, fun y G1 H1 g1 E1 r1 => ⟨G1, E1, fun G2 H2 cls dd g2 E2 r2 => k G2 H2 cls dd (g1.trans g2) E2 r2⟩⟩⟩
def tAnyX (c : Ctx) (X : Cx) (W : WX) (body : List Stmt) : TS := fun D σ H => (∃ st o, XS c X body st o ∧ tO c st o D σ H) ∨ ∃ st x st', XSX c X W body st x st' ∧ tXS c W st x st' σ H
theorem pss_anyX : PSs X body (tAnyX c X W body) := ⟨fun pins s σ H D I q => by
  rcases q with ⟨st, o, h, q⟩ | ⟨st, x, st', h, q⟩
  · exact h.pss.run pins s σ H D I q
  · exact h.pss.run pins s σ H D I q⟩
/-- a loop whose turn m raises -/
theorem xpx_for (S : Nat → Store) (m : Nat) (hm : ds[m]? = some d) (hi : XI c X tg iter st ds (S 0)) (hb : ∀ i d, i < m → ds[i]? = some d → Turns c X tg body d (S i) (S (i + 1))) (hl : ∃ t, XG c X tg d (S m) t ∧ XSX c X W body t x st1) (hc : X.calm = true := by rfl) (hp : PassesOwn (model X.prog X.w) X.A X.env X.xe := by exact PassesOwn.leaving)
    (hs : ∀ x, foldedSetIterable iter X.env x = pure x := by intro _; rfl) : XPX c X W (.For tg iter body [] pos) st x st1 :=
  ⟨ps_weak (ps_for hp hc hi.pi (pg_any (c := c)) (pss_anyX (c := c) (W := W)) hs) fun D σ0 H0 ⟨G, E, k⟩ => ⟨G, E, fun J G1 H1 g1 E1 y => by
    have ml : m < ds.length := (List.getElem?_eq_some_iff.mp hm).1
    refine ⟨fun i n σ H => n = m - i ∧ i ≤ m ∧ ∃ G', Gr G1 H1 G' H (own σ0 (S 0)) (own σ (S i)) ∧ En c.K c.T c.pa G' H σ (S i), ⟨_, rfl, Nat.zero_le _, G1, Gr.refl, E1⟩, ?_⟩
    rintro i n σ H ⟨rfl, hi, G', g', E'⟩
    by_cases hlt : i < m
    · refine .inr ⟨y.go i G' H g'.ex E'.ex (by omega), fun σ2 H2 => ∃ G2, Gr G1 H1 G2 H2 (own σ0 (S 0)) (own σ2 (S (i + 1))) ∧ En c.K c.T c.pa G2 H2 σ2 (S (i + 1)), fun σ2 H2 q => ⟨m - (i + 1), by omega, rfl, hlt, q⟩, fun x H2 yl => ?_⟩
      obtain ⟨G2, d, w, hd, rd⟩ := y.yl i G' H x H2 g'.ex E'.ex (by omega) yl
      obtain ⟨t, hg, hx⟩ := hb i d hlt hd
      refine ⟨d, S i, t, hg, G2, E'.g1 w, rd, fun σ3 G3 H3 g3 E3 => ?_⟩
      have g4 := (g'.trans w.gr).trans g3
      rcases hx with hx | hx
      · exact .inl ⟨t, _, hx, G3, E3, fun σ5 G5 H5 g5 E5 => ⟨G5, g4.trans g5, E5⟩⟩
      · exact .inl ⟨t, _, hx, G3, E3, fun σ5 G5 H5 g5 E5 => ⟨G5, g4.trans g5, E5⟩⟩
    · have e : i = m := by omega
      subst e
      refine .inr ⟨y.go i G' H g'.ex E'.ex ml, fun _ _ => False, fun _ _ q => q.elim, fun x H2 yl => ?_⟩
      obtain ⟨G2, d', w, hd, rd⟩ := y.yl i G' H x H2 g'.ex E'.ex ml yl
      rw [hm] at hd
      cases hd
      obtain ⟨t, hg, hx⟩ := hl
      refine ⟨d, S i, t, hg, G2, E'.g1 w, rd, fun σ3 G3 H3 g3 E3 => ?_⟩
      have g4 := g1.trans ((g'.trans w.gr).trans g3)
      exact .inr ⟨t, _, _, hx, G3, E3, fun σ5 G5 H5 cls dd g5 E5 r5 => k σ5 G5 H5 cls dd (g4.trans g5) E5 r5⟩⟩⟩
end Dv
set_option autoImplicit true
set_option maxRecDepth 100000
set_option maxHeartbeats 4000000
/-! reversed(text) -/
namespace DvV
open PySem PySem.Spec PyProof.Rows
def rsObj (x : Str) (t : Tok) (i : Int) : Obj := { cls := .type "reversed", data := .fields #[.str x t, rawInt i] }
def IsRs (h : Heap) (a : Addr) (x : Str) (t : Tok) (i : Int) : Prop := ∃ o, h.get? a = some o ∧ o.cls = .type "reversed" ∧ o.data = .fields #[.str x t, rawInt i]
theorem norev_str : typeLookup (.type "str") "__reversed__" = pure none := by kernel_rfl
section
variable {prog : Program} {w : World} {A : Around} {E : Value → Shared → Prop} {s : Shared} {it : Addr} {x : Str} {t : Tok} {i : Int}
theorem IsRs.typeIs (h : IsRs s.heap it x t i) : s.TypeIs (.ref it) "reversed" := by
  obtain ⟨o, h1, h2, _⟩ := h
  exact ⟨o, h1, h2⟩
theorem code_reversed_str {Q₁ : Value → Shared → Prop} (hz : x.length ≤ 100000) (h : Q₁ (.ref s.heap.objs.size) { s with heap := s.heap.push (rsObj x t ((x.length : Int) - 1)), toks := s.toks + 1 + 1 }) :
    codeAny (model prog w) A (.call (.builtin "reversed.__new__") ⟨[.type "reversed", .str x t], []⟩) (wants Q₁ E) s := by
  have hT : ∀ s : Shared, s.TypeIs (.str x t) "str" := fun s => typeIs_str s x t
  refine codeAny_of_tree ?_
  refine wpAny_bind (wpAny_of_eq (F.newCall_reversed_1 (.str x t)) (wpAny_pure ⟨plainId_quiet F.plain_reversed_new _, codeAny_builtin F.entry_reversed_new ?_⟩))
  rw [Around.under_plainId F.plain_reversed_new _]
  refine wpAny_bind (wpAny_of_eq (newClass_reversed (.str x t)) ?_)
  refine wpAny_bind (wpAny_of_eq (Eq.refl (Builtin.SmallTypes.refuseKeywords "reversed" (Value.type "reversed") ⟨[.type "reversed", .str x t], []⟩)) ?_)
  refine wpAny_bind (wpAny_of_eq (Eq.refl (checkCount "reversed" 1 1 ([.str x t] : List Value).length)) ?_)
  refine wpAny_bind (wpAny_specialOf (hT _) norev_str ?_)
  refine wpAny_bind ?_
  refine wpAny_bind (wpAny_isInstance (hT _) F.sub_str_dict ?_)
  rw [if_neg Bool.false_ne_true]
  refine wpAny_bind (wpAny_specialOf (hT _) F.slot_str_getitem.lookup ?_)
  refine wpAny_pure ?_
  rw [if_neg (by decide)]
  refine wpAny_bind (PyProof.Rows.len_str (by omega) ?_)
  refine wpAny_bind (wpAny_pure ?_)
  show wpAny _ _ (do let o ← Builtin.SmallTypes.newRecord (Value.type "reversed") [.str x t, rawInt ((x.length : Int) - 1)]; ret o) _ _ _
  refine wpAny_bind ?_
  unfold Builtin.SmallTypes.newRecord
  refine wpAny_newObj_type ?_ ?_
  · exact wpAny_pure h
  · unfold sizeOk; first | (rw [sizeLine_eq]; decide) | (simp [sizeLine_eq]) | trivial
theorem call_reversed_str {Q : Value → Shared → Prop} (hz : x.length ≤ 100000) (h : Q (.ref s.heap.objs.size) { s with heap := s.heap.push (rsObj x t ((x.length : Int) - 1)), toks := s.toks + 1 + 1 }) :
    wpAny (model prog w) A (call (.type "reversed") [.str x t]) Q E s :=
  callType_codes RT.called_rt (F.typeCall_reversed_1 (.str x t)) F.entry_object_init
    (code_reversed_str (Q₁ := fun obj s₁ => s₁.TypeIs obj "reversed" ∧ Q obj s₁) hz ⟨⟨rsObj x t ((x.length : Int) - 1), Heap.get?_push_size s.1 rfl, rfl⟩, h⟩)
    fun obj s₁ h₁ => ⟨h₁.1, F.args_object_init_2 obj (.str x t),
      object_init_meets RT.called_rt.init.lookup RT.called_rt.made (of_decide_eq_true rfl) prog w A.in1 (wants (fun r s₂ => r = .none ∧ Q obj s₂) E) s₁ ⟨h₁.1, rfl, h₁.2⟩⟩
theorem iter_rs {Q : Value → Shared → Prop} (hit : IsRs s.heap it x t i) (h : Q (.ref it) s) : wpAny (model prog w) A (pyIter (.ref it)) Q E s :=
  wpAny_pyIter_slot hit.typeIs RT.slot_rt_iter (wpAny_call_entry RT.slot_rt_iter hit.typeIs RT.entry_rt_iter (wpAny_pure ⟨.ref it, rfl, "reversed", .builtin "reversed.__next__", hit.typeIs, RT.slot_rt_next.lookup, h⟩) (RT.args_rt_iter (.ref it)))
theorem next_rs_item {k c : Nat} {Q : Option Value → Shared → Prop} (hit : IsRs s.heap it x t k) (hx : x.cps[k]? = some c) (hz : x.length ≤ 100000)
    (hQ : ∀ h' tk, IsRs h' it x t ((k : Int) - 1) → Heap.SameBut it s.heap h' → Q (some (.str ⟨#[c]⟩ (s.toks + 1))) { s with heap := h', toks := tk }) :
    wpAny (model prog w) A (pyNext (.ref it)) Q E s := by
  obtain ⟨o, ho, hc, hd⟩ := id hit
  have hk : k < x.length := by
    obtain ⟨h, _⟩ := Array.getElem?_eq_some_iff.mp hx
    exact h
  refine wpAny_bind (wpAny_attempt (wpAny_callSpecial?_slot hit.typeIs RT.slot_rt_next (wpAny_call_entry RT.slot_rt_next hit.typeIs RT.entry_rt_next ?_ (RT.args_rt_next (.ref it)))))
  refine wpAny_bind (wpAny_of_eq rfl ?_)
  refine wpAny_bind (wpAny_field ho hd rfl (wpAny_bind (wpAny_field ho hd rfl ?_)))
  show wpAny _ _ (if (k : Int) < 0 then _ else _) _ _ _
  rw [if_neg (by omega)]
  refine wpAny_bind (wpAny_specialOf (typeIs_str s x t) F.slot_str_getitem.lookup ?_)
  rw [if_neg (by decide)]
  refine wpAny_bind (wpAny_mkInt (wpAny_bind (wpAny_attempt ?_)))
  refine PyProof.Rows.getItem_str (c := c) ?_ ?_ ?_
  · rw [decide_eq_false (by omega), decide_eq_false (by omega)]; rfl
  · rw [seqIndex_of (by omega) (by omega)]
    exact hx
  refine wpAny_bind (wpAny_field ho hd rfl (wpAny_bind (wpAny_setField ho hd (by simp) (wpAny_pure ⟨_, rfl, wpAny_pure ?_⟩))))
  refine hQ _ _ ⟨_, Heap.get?_update_self _ ho (Obj.isFreed_of_fields (Obj.data_mapFields hd _)), (Obj.cls_mapFields o _).trans hc, ?_⟩ (Heap.SameBut.update s.heap it _)
  rw [Obj.data_mapFields hd]; rfl
theorem next_rs_end {Q : Option Value → Shared → Prop} (hh : A.handled = none) (hit : IsRs s.heap it x t (-1)) (hQ : ∀ h', Heap.ExtBut it s.heap h' → Q none { s with heap := h' }) :
    wpAny (model prog w) A (pyNext (.ref it)) Q E s := by
  obtain ⟨o, ho, hc, hd⟩ := id hit
  refine wpAny_bind (wpAny_attempt (wpAny_callSpecial?_slot hit.typeIs RT.slot_rt_next (wpAny_call_entry RT.slot_rt_next hit.typeIs RT.entry_rt_next ?_ (RT.args_rt_next (.ref it)))))
  refine wpAny_bind (wpAny_of_eq rfl ?_)
  refine wpAny_bind (wpAny_field ho hd rfl (wpAny_bind (wpAny_field ho hd rfl ?_)))
  show wpAny _ _ (if (-1 : Int) < 0 then _ else _) _ _ _
  rw [if_pos (by decide)]
  refine wpAny_bind (wpAny_rule (wpAny_bind ?_))
  have ho2 := Heap.get?_update_self (Obj.mapFields fun x => x.setIfInBounds 1 (rawInt (-1))) ho (Obj.isFreed_of_fields (Obj.data_mapFields hd fun x => x.setIfInBounds 1 (rawInt (-1))))
  refine wpAny_bind (wpAny_setField ho hd (by simp) ?_)
  refine wpAny_setField ho2 (Obj.data_mapFields hd _) (by simp) ?_
  refine wpAny_bind ?_
  unfold Builtin.SmallTypes.stopIteration
  refine wpAny_bind ?_
  refine wpAny_bind (wpAny_newObj_type ?_ ?_)
  · refine wpAny_bind (wpAny_of_eq (Eq.refl (firstArgMember (.type "StopIteration") [])) ?_)
    refine wpAny_newObj_type ?_ ?_
    · unfold raiseNew
      refine wpAny_bind (wpAny_handled ?_)
      have h0 : A.in1.handled = none := hh
      rw [h0]
      refine wpAny_throw ?_
      refine wpAny_bind (wpAny_isInstance ⟨_, Heap.get?_push_size _ rfl, rfl⟩ isSubtype_stop ?_)
      refine wpAny_pure (hQ _ ?_)
      intro b o hb e
      refine Heap.get?_push_of_some _ (Heap.get?_push_of_some _ ?_)
      exact Heap.get?_update_of_ne _ (Ne.symm hb) (Heap.get?_update_of_ne _ (Ne.symm hb) e)
    · simp only [List.size_toArray]
      exact sizeOk_excFields _ _ _ _ _ _ _ _
  · show (0 : Nat) ≤ sizeLine
    exact Nat.zero_le _
end
end DvV
namespace Dv
open PySem PySem.Spec PyProof.Rows L2 DvV
/-- the signs from the last one to the first -/
def Itrs (x : Str) : It := ⟨fun i _ => i < x.cps.size, fun i H v H' => H' = H ∧ ∃ c, x.cps[x.cps.size - 1 - i]? = some c ∧ v = .str ⟨#[c]⟩, fun i _ => x.cps.size ≤ i⟩
theorem turn_rs {P : Program} {w : World} {K : PySem.W.Frag} {tg : Expr} {x : Str} {t : Tok} (hz : x.length ≤ 100000) (it : Addr) : Turn P w K tg (Itrs x) [it] it (fun i h => i ≤ x.cps.size ∧ IsRs h it x t ((x.cps.size : Int) - 1 - i)) where
  mem := List.mem_singleton.mpr rfl
  obj := fun i h st b hb => by
    rw [List.mem_singleton.mp hb]
    obtain ⟨_, o, h1, h2, h3⟩ := st
    exact ⟨o, h1, fun v z => by rw [h3] at z; cases z⟩
  keep := fun i h h' st k => by
    obtain ⟨hi, o, h1, h2, h3⟩ := st
    exact ⟨hi, o, k it (List.mem_singleton.mpr rfl) o h1, h2, h3⟩
  item := fun X hP hw hK hc i pins s σ H E I hf st hg => by
    subst hP hw hK
    obtain ⟨f0, f1, f2, f3, f4, f5⟩ := hf it (List.mem_singleton.mpr rfl)
    obtain ⟨hi, hit⟩ := st
    have hg' : i < x.cps.size := hg
    have e1 : (x.cps.size : Int) - 1 - i = ((x.cps.size - 1 - i : Nat) : Int) := by omega
    rw [e1] at hit
    have hx : x.cps[x.cps.size - 1 - i]? = some (x.cps[x.cps.size - 1 - i]'(by omega)) := Array.getElem?_eq_getElem _
    refine next_rs_item hit hx hz fun h' tk st' sb => ?_
    have I1 := I.turned (t' := tk) (fun b o hb e => (sb.2 b hb).trans e) f0 f1 f3 f4 f5
    obtain ⟨o, g1, g2, g3⟩ := id st'
    refine ⟨_, rfl, L2.go_of g1 g2 g3 (by decide) ?_⟩
    exact ⟨.str _, H, I1, ⟨_, rfl⟩, ⟨rfl, _, hx, rfl⟩, ⟨hg', by rw [show (x.cps.size : Int) - 1 - ((i + 1 : Nat) : Int) = ((x.cps.size - 1 - i : Nat) : Int) - 1 by omega]; exact st'⟩, fun b hb => by rw [List.mem_singleton.mp hb]; exact f0⟩
  done := fun X hP hw hK hc i pins s σ H E I hf st hg => by
    subst hP hw hK
    obtain ⟨f0, f1, f2, f3, f4, f5⟩ := hf it (List.mem_singleton.mpr rfl)
    obtain ⟨hi, hit⟩ := st
    have hg' : x.cps.size ≤ i := hg
    have e1 : (x.cps.size : Int) - 1 - i = -1 := by omega
    rw [e1] at hit
    exact next_rs_end (I.ok.hd hc) hit fun h' eb => ⟨rfl, I.turned (fun b o hb e => eb b o hb e) f0 f1 f3 f4 f5⟩
  self := fun A i s Q E st h => iter_rs st.2 h
variable {c : Ctx} {X : Cx} {st st1 : Store} {e tg : Expr} {pos : Pos} {l : List Nat}
theorem xi_revX {p : Pos} (h : XD c X e st (.str (sx l)) st1) (hz : l.length ≤ 100000) (hm : X.mg "reversed" = none) (hg : Gl X "reversed" := by rfl) (hs : starEach [e] X.env = (false, eval e X.env) :: starEach [] X.env := by rfl) : XI c X tg (.Call (.Name "reversed" p) [e] [] pos) st (l.reverse.map fun q => .str (sx [q])) st1 := by
  refine ⟨⟨fun pins s σ H R I h' => ?_⟩⟩
  obtain ⟨G, E, k⟩ := h'
  refine PyProof.Rows.Call_ (L2.ld_blt I hg hm PyProof.Rows.boot_reversed (PyProof.Rows.callWith_type1 (PyProof.Rows.args_cons (L2.thn (h.pe.run pins s σ H (fun v H1 => ∃ G1, v = .str (sx l) ∧ Gr G H G1 H1 (own σ st) (own σ st1) ∧ En c.K c.T c.pa G1 H1 σ st1) I ⟨G, E, fun v G1 H1 g1 E1 r1 => by cases r1; exact ⟨G1, rfl, g1, E1⟩⟩) fun u s1 ⟨v, H1, I1, r1, G1, ev, g1, E1⟩ => PyProof.Rows.args_nil ?_) hs) hs rfl))
  subst ev
  obtain ⟨t, rfl⟩ := r1
  have hl : (sx l).length ≤ 100000 := by rw [sx_len]; exact hz
  refine call_reversed_str hl ?_
  have e0 : ((sx l).length : Int) - 1 = ((sx l).cps.size : Int) - 1 - ((0 : Nat) : Int) := by show ((sx l).cps.size : Int) - 1 = _; omega
  refine iter_rs (i := ((sx l).length : Int) - 1) ⟨_, Heap.get?_push_size _ rfl, rfl, rfl⟩ ?_
  refine pi_one I1 (rsObj (sx l) t (((sx l).length : Int) - 1)) (turn_rs (t := t) hl s1.heap.objs.size) ⟨Nat.zero_le _, ?_⟩ ?_
  · rw [← e0]; exact ⟨_, Heap.get?_push_size _ rfl, rfl, rfl⟩
  · have sz : (sx l).cps.size = l.length := by have := sx_len (l := l); exact this
    refine k _ G1 H1 g1 E1 ⟨fun i G H _ _ hi => ?_, fun i G H _ _ hi => ?_, fun i G H y H' _ e2 hi q => ?_⟩
    · show i < (sx l).cps.size
      rw [sz]; simpa using hi
    · show (sx l).cps.size ≤ i
      rw [sz]; simpa using hi
    · obtain ⟨rfl, q, h1, rfl⟩ := q
      refine ⟨G, _, Gw.refl e2, ?_, .str⟩
      have hi' : i < l.length := by simpa using hi
      rw [List.getElem?_map, List.getElem?_reverse hi']
      rw [sz] at h1
      have h2 : l[l.length - 1 - i]? = some q := by simpa [sx] using h1
      rw [h2]; rfl
end Dv
set_option autoImplicit true
set_option maxRecDepth 100000
set_option maxHeartbeats 4000000
namespace Dv
open PySem PySem.Spec PyProof.Rows L2
variable {c : Ctx} {X : Cx} {st st1 st2 st' : Store} {b e : Expr} {es : List Expr} {d : Dt} {ds xs : List Dt} {pos : Pos} {G G' H H' : Hp} {σ : L2.St} {W : WX} {l : List Nat}
/-! ### list(text), xs[::-1] -/
def rListX : List V → Hp → VK → Prop := fun xs H Q => ∃ z : Str, xs = [.str z] ∧ z.length ≤ 100000 ∧ ∀ p, H p = none → Q (.ref p) (upd H p (.lst (z.cps.toList.map fun q => .str ⟨#[q]⟩)))
theorem call_listX (hc : X.calm = true) : CallR X (.type "list") rListX := by
  intro pins s σ H xs us Q I r h
  obtain ⟨z, rfl, hz, q⟩ := h
  cases r with
  | cons r0 r1 =>
    cases r1
    obtain ⟨t, rfl⟩ := r0
    have hz' : z.cps.size ≤ 100000 := hz
    refine call_list_str (I.ok.hd hc) z t (fun h' tk acc n k ho hi => ?_) (by rw [sizeLine_eq]; omega)
    refine ⟨.ref s.heap.objs.size, _, I.laid (t' := tk) (o := .lst (z.cps.toList.map fun q => .str ⟨#[q]⟩)) k (Nat.le_refl _) ?_, rfl, q _ (I.hok.fresh (Nat.le_refl _))⟩
    refine ⟨by rw [List.length_map, sizeLine_eq, Array.length_toList]; omega, acc.toList, n, ?_, by rw [Array.toArray_toList]; exact ho⟩
    obtain ⟨h1, h2⟩ := hi
    have key : ∀ (a : List Nat) (vs : List Value), a.length = vs.length → (∀ (j : Nat) v, vs[j]? = some v → ∃ c u, a[j]? = some c ∧ v = .str ⟨#[c]⟩ u) → Vals (a.map fun q => V.str ⟨#[q]⟩) vs := by
      intro a
      induction a with
      | nil =>
        intro vs hl _
        cases vs with
        | nil => exact .nil
        | cons v vs => cases hl
      | cons q a ih =>
        intro vs hl hv
        cases vs with
        | nil => cases hl
        | cons v vs =>
          obtain ⟨c, u, e1, e2⟩ := hv 0 v rfl
          have e1 : q = c := Option.some.inj e1
          subst e1 e2
          exact .cons ⟨u, rfl⟩ (ih vs (by simpa using hl) fun j v hj => hv (j + 1) v hj)
    refine key _ _ (by rw [Array.length_toList, Array.length_toList]; exact h1.symm) fun j v hj => ?_
    obtain ⟨c, u, e1, e2⟩ := h2 j v (by simpa using hj)
    exact ⟨c, u, by simpa using e1, e2⟩
theorem reps_signs {K : PySem.W.Frag} {T : Ct} (G : Hp) : ∀ a : List Nat, Reps K T G (a.map fun q => .str (sx [q])) (a.map fun q => .str ⟨#[q]⟩)
  | [] => .nil
  | _ :: a => .cons .str (reps_signs G a)
theorem xd_listX {p : Pos} (h : XD c X e st (.str (sx l)) st1) (hz : l.length ≤ 100000) (hc : X.calm = true) (hm : X.mg "list" = none) (hg : Gl X "list" := by rfl) (he : starEach (e :: []) X.env = (false, eval e X.env) :: starEach [] X.env := by rfl) (hpl : (backTo pos (starEach [] X.env)).any (·.1) = false := by rfl) :
    XD c X (.Call (.Name "list" p) [e] [] pos) st (.lst (l.map fun q => .str (sx [q]))) st1 :=
  xd_callTy (xa_cons h xa_nil he) (call_listX hc) (fun G H vs Q ex r kk => by
    cases r with
    | cons r0 r1 =>
      cases r1
      cases r0
      refine ⟨sx l, rfl, by rw [sx_len]; exact hz, fun p hp => kk _ _ _ (Gw.new ex hp) (.lst upd_same ?_)⟩
      have e1 : (sx l).cps.toList = l := by simp [sx]
      rw [e1]
      exact reps_signs _ l) hm (by decide +kernel) hg (by decide) (by decide) he hpl
theorem Reps.rev {K : PySem.W.Frag} {T : Ct} : ∀ {ds : List Dt} {vs : List V}, Reps K T G ds vs → Reps K T G ds.reverse vs.reverse
  | _, _, .nil => .nil
  | _, _, .cons r t => by rw [List.reverse_cons, List.reverse_cons]; exact (Reps.rev t).app (.cons r .nil)
theorem xd_revL {k : Nat} {p1 p2 p3 : Pos} (h : XD c X e st (.lst ds) st1) (hK : X.K = c.K) : XD c X (.Subscript e (.Slice none none (some (.UnaryOp .USub (.Constant (.int 1) k p1) p2)) p3) pos) st (.lst ds.reverse) st1 :=
  ⟨pe_weak (pe_revL h.pe) fun σ H Q ⟨G, E, k⟩ => ⟨G, E, fun v G1 H1 g1 E1 r1 => by
    obtain ⟨a, vs, rfl, hl, r⟩ := r1.lst_inv
    refine ⟨a, vs, rfl, .inl (.inl (E1.ex _ _ hl)), fun p hp => ?_⟩
    exact k _ _ _ (g1.trans (Gw.new E1.ex hp).gr) (E1.g1 (Gw.new E1.ex hp)) (.lst upd_same (r.rev.ex (Gw.new (o := .lst vs.reverse) E1.ex hp).ex))⟩⟩
/-! ### an instance called -/
theorem run_inst {CX : CXT} {k : Nat} {f C p dx : Addr} {fd : FuncData} {ps : List Str} {sp : Sp} {E : XK} {pins : List (Addr × Obj)} {s : Shared} {Q : VK} {us : List Value} {vs : List V} {gs : List (Str × V)} (F : FnOk X.prog X.w X.K X.mg X.base CX k f fd ps sp) (hr : Room k X.A) (hb : Binds X.K fd ps []) (hx : PassesAt CX X σ E) (M : Meth X.K C "__call__" f) (ht : PySem.W.typeIn X.K (.ref f) = some (.type "function"))
    (hl : ∃ o fd', X.K.lookup f = some o ∧ o.data = .func fd') (I : L2.Inv X pins σ H s) (hp : H p = some (.ins C dx gs)) (r : Vals vs us) (h : sp (.ref p :: vs) H Q E) : wpAny (model X.prog X.w) X.A (call (.ref p) us) (EP X pins σ Q) X.xe s := by
  have ho : ObjOk X.prog X.w H s.heap p (.ins C dx gs) := I.hok p _ hp
  obtain ⟨_, _, _, ho, _⟩ := ho
  obtain ⟨mA, J, _⟩ := ins_get I.hok hp
  obtain ⟨od, J, _⟩ := J.look
  obtain ⟨o, fd', l1, l2⟩ := hl
  have hf : s.heap.get? f = some o := I.kIn _ _ l1
  refine wpAny_call (codeAny_of_tree ?_)
  show wpAny _ _ (callAny (.ref p) ⟨us, []⟩) _ _ _
  refine wpAny_bind (wpAny_load ho ?_)
  show wpAny _ _ (callAny.viaDunder (.ref p) ⟨us, []⟩) _ _ _
  refine wpAny_bind (wpAny_bind (J.type.here ((PySem.W.looks_findIn I.kIn M.at_).here ?_)))
  refine wpAny_bind ((PySem.W.bind_fn I.kIn (.ref p) ht).here ?_)
  refine wpAny_bind (wpAny_bind (wpAny_load hf ?_))
  rw [l2]
  refine wpAny_pure ?_
  show wpAny _ _ (if true = true then _ else _) _ _ _
  rw [if_pos rfl]
  refine wpAny_pure ⟨rfl, ?_⟩
  have r2 : Vals (.ref p :: vs) (.ref p :: us) := .cons rfl r
  have hlen := F.len _ _ _ _ h
  have b := hb s (.ref p :: us) I.kIn (by rw [List.append_nil, ← r2.length]; exact hlen)
  rw [List.append_nil] at b
  refine codeAny_mono (F.run X.A X.stack s H ⟨.ref p :: us, []⟩ (.ref p :: us) (.ref p :: vs) Q E hr I.env0 b r2 h) fun r s' hq => ?_
  cases r with
  | error e => exact hx pins H s e s' I hq
  | ok fl =>
    cases fl with
    | ret v => exact I.after hq
    | _ => exact hq.elim
/-- a class's own __call__ -/
structure MCF (P : Program) (w : World) (K : PySem.W.Frag) (T : Ct) (mg : Str → Option Value) (base : Heap) (C : Addr) (k : Nat) (R : List Dt → Dt → Prop) : Prop where
  ex : ∃ f fd ps, FnOk P w K mg base CX0 k f fd ps (spD K T R) ∧ Meth K C "__call__" f ∧ Binds K fd ps [] ∧ PySem.W.typeIn K (.ref f) = some (.type "function") ∧ ∃ o fd', K.lookup f = some o ∧ o.data = .func fd'
theorem xd_inst {n k : Nat} {fs : List Dt} {R : List Dt → Dt → Prop} {y : Str} {C : Addr} {ns : List Str} (h0 : XD c X b st (.obj n fs) st1) (Q : CF X.K c.T X.mg y n C ns) (F : MCF X.prog X.w X.K c.T X.mg X.base C k R) (hK : X.K = c.K) (hr : Room k X.A) (h : XA c X (e :: es) st1 ds st2) (hR : R (.obj n fs :: ds) d)
    (he : starEach (e :: es) X.env = (false, eval e X.env) :: starEach es X.env := by rfl) (hpl : (backTo pos (starEach es X.env)).any (·.1) = false := by rfl)
    (ht : eval (.Call b (e :: es) [] pos) X.env = (do let f ← eval b X.env; callWith pos f [] (backTo pos (starEach (e :: es) X.env)) (backToKw pos (keywordEach [] X.env))) := by rfl) :
    XD c X (.Call b (e :: es) [] pos) st d st2 := by
  obtain ⟨f, fd, ps, F, M, hb, hty, hl⟩ := F.ex
  rw [hK] at F
  refine ⟨⟨fun pins s σ H Q' I h' => ?_⟩⟩
  obtain ⟨G, E, kk⟩ := h'
  refine PyProof.Rows.Call_ (thn (h0.pe.run pins s σ H (fun u H1 => ∃ G1, Gr G H G1 H1 (own σ st) (own σ st1) ∧ En c.K c.T c.pa G1 H1 σ st1 ∧ Rep c.K c.T G1 (.obj n fs) u) I ⟨G, E, fun u G1 H1 g1 E1 r1 => ⟨G1, g1, E1, r1⟩⟩) fun u s1 ⟨xv, H1, I1, rx, G1, g1, E1, r1⟩ => ?_) ht
  obtain ⟨C1, ns1, p, dx, vs1, rfl, t1, hp, _, _⟩ := id r1.obj_inv
  have eT := Q.at_
  rw [t1] at eT
  cases eT
  obtain rfl : u = Value.ref p := rx
  unfold callWith
  refine wpAny_bind (wpAny_holding ?_)
  rw [he]
  refine Calls.evalArgs_plain ?_
  have hrun := h.pa.run pos pins s1 σ H1 (fun vs H2 => ∃ G2, Gr G H G2 H2 (own σ st) (own σ st2) ∧ En c.K c.T c.pa G2 H2 σ st2 ∧ Reps c.K c.T G2 (.obj n fs :: ds) (.ref p :: vs) ∧ Ex G1 G2) I1 ⟨G1, E1, fun vs G2 H2 g2 E2 r2 => ⟨G2, g1.trans g2, E2, .cons (r1.ex g2.ex) r2, g2.ex⟩⟩
  rw [he] at hrun
  refine thn hrun fun us s2 ⟨vs, H2, I2, r, G2, g2, E2, rs, e12⟩ => ?_
  have hp2 := E2.ex _ _ (e12 _ _ hp)
  have ho : ObjOk X.prog X.w H2 s2.heap p (.ins C dx (ns.zip vs1)) := I2.hok p _ hp2
  obtain ⟨_, _, _, ho, _⟩ := ho
  refine wpAny_bind (wpAny_standAt ?_)
  refine wpAny_bind (wpAny_bind (wpAny_load ho ?_))
  refine wpAny_pure ?_
  refine wpAny_bind (PyProof.Rows.wpAny_operate' ?_)
  refine wpAny_mono (run_inst (E := fun _ _ _ => False) (vs := vs) (Q := Q') (by rw [hK]; exact F) hr hb (fun _ _ _ _ _ I => pass0 _ _ _ _ _ _ I) M hty hl I2 hp2 r ?_) (fun v s3 hv => wpAny_bind (wpAny_holding (wpAny_point (wpAny_pure hv)))) (fun _ _ z => z)
  exact ⟨G2, _, d, E2.ex, rs, hR, fun v G3 H3 g3 e3 r3 => by
    have w := gw_of g3 e3
    exact kk v G3 H3 (g2.trans w.gr) (E2.g1 w) r3⟩
end Dv
set_option autoImplicit true
set_option maxRecDepth 100000
set_option maxHeartbeats 4000000
namespace Dv
open PySem PySem.Spec PyProof.Rows L2
variable {c : Ctx} {X : Cx} {st st1 st2 st' : Store} {b e : Expr} {es : List Expr} {d : Dt} {ds xs : List Dt} {pos : Pos} {G G' H H' : Hp} {σ : L2.St} {W : WX} {x : Xn} {n : Nat} {C : Addr} {ns : List Str}
/-! ### an instance whose __init__ raises -/
def spIX (K : PySem.W.Frag) (T : Ct) (n : Nat) (R : List Dt → Xn → Prop) : Sp := fun vs H _ E => ∃ y vs' G C ns dx ds e, vs = .ref y :: vs' ∧ T n = some (C, ns) ∧ Ex G H ∧ G y = none ∧ H y = some (.ins C dx []) ∧ Reps K T G ds vs' ∧ R ds e ∧
  ∀ cls d G' H', Gr G H G' H' (· = y) (fun _ => False) → Ex G' H' → ExR K T G' e cls d → E cls d H'
theorem okIX {P : Program} {w : World} {K : PySem.W.Frag} {T : Ct} {mg : Str → Option Value} {base : Heap} {y qual : Str} {sd : Stmt} {f : Addr} {fd : FuncData} {N ps : List Str} {k : Nat} {R : List Dt → Xn → Prop} (F : Fun K y qual sd f fd) (S : FnScope N ps (defScope sd)) (hT : T n = some (C, ns)) (hl : ∀ ds x, R ds x → ds.length + 1 = ps.length)
    (body : ∀ (cdv : Value) (A : Around) (outer : List Env) (s : Shared) (H : Hp) (E : XK) (pa : Nat → Addr) (ds : List Dt) (x : Xn), Room k (A.deeper (envOfC qual (defScope sd) s.heap.objs.size f cdv)) → R ds x →
      ∃ st', XSX ⟨K, T, pa⟩ (cxOf (L2.CX P w) P w K mg base N qual (defScope sd) f cdv A outer s H E) (fun cls d _ H => E cls d H) (defBody sd) (st0I N n ds) x st') : FnOk P w K mg base (L2.CX P w) (k + 1) f fd ps (spIX K T n R) := by
  refine F.okX S (fun vs H Q E h => ?_) (fun cdv A outer s H vs Q E hr h => ?_)
  · obtain ⟨y, vs', G, C', ns', dx, ds, e, rfl, hT', ex, hn, hl', r, hR, kk⟩ := h
    rw [List.length_cons, ← r.length]; exact hl ds e hR
  · obtain ⟨y, vs', G, C', ns', dx, ds, e, rfl, hT', ex, hn, hl', r, hR, kk⟩ := h
    rw [hT] at hT'
    cases hT'
    obtain ⟨st', hb⟩ := body cdv A outer s H E (fun _ => y) ds e hr hR
    refine ⟨_, hb.pss, G, En.startI (c := ⟨K, T, fun _ => y⟩) (pa := fun _ => y) hT ex hn hl' r, fun σ' G' H' cls d g E' q => kk cls d G' H' ?_ E'.ex q⟩
    exact ⟨g.ex, fun p o q => (g.nw p o q).imp id (Or.imp id fun z => own_startI (pa := fun _ => y) z), fun p o q nq => g.fr p o q fun z => nq (own_startI (pa := fun _ => y) z), g.al, fun p q => q.elim⟩
theorem run_makeX {CX : CXT} {k : Nat} {f : Addr} {fd : FuncData} {ps : List Str} {sp : Sp} {E : XK} {pins : List (Addr × Obj)} {s : Shared} {Q : VK} {us : List Value} {vs : List V} (M : Mk X.K C f) (F : FnOk X.prog X.w X.K X.mg X.base CX k f fd ps sp) (hr : Room (k + 1) X.A) (hb : Binds X.K fd ps []) (hx : PassesAt CX X σ E) (I : L2.Inv X pins σ H s) (r : Vals vs us)
    (h : ∀ y dx, H y = none → H dx = none → dx ≠ y → sp (.ref y :: vs) (upd (upd H dx (.own y)) y (.ins C dx [])) (fun _ _ => False) E) : wpAny (model X.prog X.w) X.A (call (.ref C) us) (EP X pins σ Q) X.xe s := by
  have hq := h (s.heap.objs.size + 1) s.heap.objs.size (I.hok.fresh (Nat.le_succ _)) (I.hok.fresh (Nat.le_refl _)) (Nat.ne_of_lt (Nat.lt_succ_self _))
  have I2 := Inv.made (C := C) I
  have r2 : Vals (.ref (s.heap.objs.size + 1) :: vs) (.ref (s.heap.objs.size + 1) :: us) := .cons rfl r
  have hlen := F.len _ _ _ _ hq
  have b := hb ⟨(s.heap.push PySem.W.emptyDict).push (PySem.W.instObj C s.heap.objs.size), s.gens, s.drawn, s.toks, s.os⟩ (.ref (s.heap.objs.size + 1) :: us) I2.kIn (by rw [List.append_nil, ← r2.length]; exact hlen)
  rw [List.append_nil] at b
  refine wpAny_call (make_map I.kIn M.makes M.init (beq_iff_eq.mp M.fn) (codeAny_mono (F.run (X.A.under (.builtin "type.__call__" ⟨.ref C :: us, []⟩)) X.stack _ _ ⟨.ref (s.heap.objs.size + 1) :: us, []⟩ _ _ (fun _ _ => False) E (Room.make hr C us []) (Env0.make I2.env0 C us []) b r2 hq) fun r s' hq' => ?_))
  cases r with
  | error e => exact hx pins _ _ e s' I2 hq'
  | ok fl =>
    cases fl with
    | ret v =>
      obtain ⟨_, _, _, _, _, _, _, z⟩ := hq'
      exact z.elim
    | _ => exact hq'.elim
/-- a class by its name, whose __init__ raises -/
structure IX (P : Program) (w : World) (K : PySem.W.Frag) (T : Ct) (mg : Str → Option Value) (base : Heap) (n : Nat) (C : Addr) (k : Nat) (R : List Dt → Xn → Prop) : Prop where
  ex : ∃ f fd ps, FnOk P w K mg base (L2.CX P w) k f fd ps (spIX K T n R) ∧ Mk K C f ∧ Binds K fd ps []
theorem xx_mk {k : Nat} {R : List Dt → Xn → Prop} {y : Str} {p : Pos} (Q : CF X.K c.T X.mg y n C ns) (F : IX X.prog X.w X.K c.T X.mg X.base n C k R) (hK : X.K = c.K) (tk : Takes X W) (hr : Room (k + 1) X.A) (h : XA c X (e :: es) st ds st1) (hR : R ds x) (hg : Gl X y := by rfl) (hdb : (y == ("__debug__" : Str)) = false := by decide)
    (he : starEach (e :: es) X.env = (false, eval e X.env) :: starEach es X.env := by rfl) (hpl : (backTo pos (starEach es X.env)).any (·.1) = false := by rfl) : XX c X W (.Call (.Name y p) (e :: es) [] pos) st x st1 := by
  obtain ⟨f, fd, ps, F, M, hb⟩ := F.ex
  rw [hK] at F
  refine ⟨⟨fun pins s σ H Q' I h' => ?_⟩⟩
  obtain ⟨G, E, kk⟩ := h'
  refine wpAny_Call_Name_kw (ld_glob I hg Q.nm ?_ hdb)
  refine PySem.W.callWith_K (h₀ := X.base) I.ok.mod.kin M.kp (thn (h.pa.run pos pins s σ H (fun vs H1 => ∃ G1, Gr G H G1 H1 (own σ st) (own σ st1) ∧ En c.K c.T c.pa G1 H1 σ st1 ∧ Reps c.K c.T G1 ds vs) I ⟨G, E, fun vs G1 H1 g1 E1 r1 => ⟨G1, g1, E1, r1⟩⟩) fun us s1 ⟨vs, H1, I1, r, G1, g1, E1, rs⟩ => ⟨I1.kIn, ?_⟩) he hpl
  refine run_makeX (E := WE W σ) M (by rw [hK]; exact F) hr hb (passAt tk σ) I1 r fun y dx hy hdx hne => ?_
  have e0 : Ex H1 (upd (upd H1 dx (.own y)) y (.ins C dx [])) := fun p o h => by rw [upd_ne (ne_of_none h hy), upd_ne (ne_of_none h hdx)]; exact h
  refine ⟨y, vs, G1, C, ns, dx, ds, x, rfl, Q.at_, E1.ex.trans e0, E1.ex.none hy, upd_same, rs, hR, fun cls d G' H' g e' q => ?_⟩
  have gw : Gw G1 H1 G' H' := ⟨g.ex, fun p o h => g.fr p o (e0 p o h) (ne_of_none h hy), e', fun p o h => by
    rcases g.nw p o h with z | z | z
    · exact .inl z
    · exact .inr (e0.none z)
    · exact .inr (by rw [show p = y from z]; exact hy)⟩
  exact kk G' H' cls d (g1.trans gw.gr) (E1.g1 gw) q
end Dv
set_option autoImplicit true
set_option maxRecDepth 100000
set_option maxHeartbeats 4000000
namespace Dv
open PySem PySem.Spec PyProof.Rows L2
variable {c : Ctx} {X : Cx} {st st1 st2 st' : Store} {a b e : Expr} {es : List Expr} {d : Dt} {ds xs : List Dt} {pos : Pos} {G G' H H' : Hp} {σ : L2.St} {j : Int}
/-- t[j:] of a tuple, j from 1 on -/
theorem xd_cutLoT (ha : XD c X a st (.tup ds) st1) (hb : XD c X b st1 (.int j) st2) (hj : 0 < j) (hl : 0 < ds.length) (hK : X.K = c.K) {p2 : Pos} : XD c X (.Subscript a (.Slice (some b) none none p2) pos) st (.tup (ds.drop j.toNat)) st2 :=
  ⟨pe_weak (pe_slice sl_tup ha.pe (po_some hb.pe) po_none) fun σ H Q ⟨G, E, kk⟩ => ⟨G, E, fun x G1 H1 g1 E1 r1 => ⟨G1, E1, fun y G2 H2 g2 E2 r2 => by
    obtain ⟨a', vs, rfl, hq, r⟩ := r1.tup_inv
    cases r2
    have hlv : 0 < vs.length := by rw [← r.length]; exact hl
    refine ⟨j, rfl, a', vs, rfl, by rw [hK]; exact E2.ex.st (g2.ex.st hq), fun z => ?_, fun p hp => ?_⟩
    · have z1 := z.1
      rw [sIx_hi (by omega)] at z1
      omega
    · have e : cutV vs (some j) none = vs.drop j.toNat := by
        show List.take (vs.length - HT.sIx vs.length 0 (some j)) (List.drop (HT.sIx vs.length 0 (some j)) vs) = _
        rw [sIx_hi (by omega), List.take_of_length_le (by rw [List.length_drop]; omega)]
        by_cases q : j.toNat ≤ vs.length
        · rw [Nat.min_eq_left q]
        · rw [Nat.min_eq_right (by omega), List.drop_eq_nil_of_le (Nat.le_refl _), List.drop_eq_nil_of_le (by omega)]
      rw [e]
      exact kk _ _ _ ((g1.trans g2).trans (Gw.new E2.ex hp).gr) (E2.g1 (Gw.new E2.ex hp)) (.tup (SqT.of upd_same) ((Reps.drop _ (r.ex g2.ex)).ex (Ex.new (E2.ex.none hp))))⟩⟩⟩
/-- and, its first operand true, the rest may change what is known -/
theorem xd_andT {rest : List Expr} {u : Bool} (h : XD c X a st (.bl true) st1) (h2 : XD c X (.BoolOp .And (b :: rest) pos) st1 (.bl u) st2) : XD c X (.BoolOp .And (a :: b :: rest) pos) st (.bl u) st2 :=
  ⟨pe_weak (pe_and h.pe h2.pe) fun σ H Q ⟨G, E, k⟩ => ⟨G, E, fun v G1 H1 g1 E1 r1 => by cases r1; exact ⟨true, rfl, by refine L2.iteT ?_; exact ⟨G1, E1, fun v G2 H2 g2 E2 r2 => k v G2 H2 (g1.trans g2) E2 r2⟩⟩⟩⟩
end Dv
set_option autoImplicit true
set_option maxRecDepth 100000
set_option maxHeartbeats 4000000
namespace Dv
open PySem PySem.Spec PyProof.Rows L2
variable {c : Ctx} {X : Cx} {st st1 st2 st' : Store} {a b e : Expr} {es : List Expr} {d : Dt} {ds xs : List Dt} {pos : Pos} {G G' H H' : Hp} {σ : L2.St} {j : Int} {t : Bool}
/-- t[:j] of a tuple, j below its length -/
theorem xd_cutHiT (ha : XD c X a st (.tup ds) st1) (hb : XD c X b st1 (.int j) st2) (hj : 0 ≤ j) (hl : j < ds.length) (hK : X.K = c.K) {p2 : Pos} : XD c X (.Subscript a (.Slice none (some b) none p2) pos) st (.tup (ds.take j.toNat)) st2 :=
  ⟨pe_weak (pe_slice sl_tup ha.pe po_none (po_some hb.pe)) fun σ H Q ⟨G, E, kk⟩ => ⟨G, E, fun x G1 H1 g1 E1 r1 => ⟨G1, E1, fun y G2 H2 g2 E2 r2 => by
    obtain ⟨a', vs, rfl, hq, r⟩ := r1.tup_inv
    cases r2
    have hlv : ds.length = vs.length := r.length
    refine ⟨j, rfl, a', vs, rfl, by rw [hK]; exact E2.ex.st (g2.ex.st hq), fun z => ?_, fun p hp => ?_⟩
    · have z2 := z.2
      rw [sIx_hi (by omega)] at z2
      omega
    · have e : cutV vs none (some j) = vs.take j.toNat := by
        show List.take (HT.sIx vs.length vs.length (some j) - 0) (List.drop 0 vs) = _
        rw [sIx_hi (by omega), List.drop_zero, Nat.min_eq_left (by omega)]; rfl
      rw [e]
      exact kk _ _ _ ((g1.trans g2).trans (Gw.new E2.ex hp).gr) (E2.g1 (Gw.new E2.ex hp)) (.tup (SqT.of upd_same) ((Reps.take _ (r.ex g2.ex)).ex (Ex.new (E2.ex.none hp))))⟩⟩⟩
/-- e is not None -/
theorem xt_notN {p2 : Pos} {j : Nat} (h : XD c X e st d st1) (ht : (match d with | .non => false | _ => true) = t) : XT c X (.Compare e [.IsNot] [.Constant .none j p2] pos) st t st1 := by
  refine xt_cmp h xd_non op_notN (fun G H x y Q ex r1 r2 kk => ?_) (nomark _)
  cases r2
  refine ⟨rfl, ?_⟩
  have e1 : (!decide (x = V.non)) = t := by
    rw [← ht]
    cases r1 <;> simp
  rw [e1]
  exact kv_same kk ex .bl
end Dv
set_option autoImplicit false
set_option maxRecDepth 100000
set_option maxHeartbeats 4000000
namespace Dv
open PySem PySem.Spec PyProof.Rows L2
/-! ### an own __iter__ that hands out iter of a tuple that a field holds -/
/-- what stands where the iterator is made -/
def itX (it a : Addr) : HO := .ext fun h => h.IsTupleIter it a 0
section
variable {c : Ctx} {X : Cx} {st st1 : Store} {e tg : PySem.Expr} {d : Dt} {ds ys fs : List Dt}
theorem itX_ok {P : Program} {w : World} {H : Hp} {h : Heap} {it a : Addr} (z : h.IsTupleIter it a 0) : ObjOk P w H h it (itX it a) := by
  obtain ⟨o, h1, h2, h3⟩ := z
  show ObjOk P w H h it (HO.ext _)
  simp only [ObjOk]
  refine ⟨⟨o, h1, h2, h3⟩, ⟨o, h1⟩, fun g1 g2 p q => ?_⟩
  obtain ⟨o', p1, p2, p3⟩ := p
  exact ⟨o', q _ p1, p2, p3⟩
theorem itX_get {P : Program} {w : World} {H : Hp} {h : Heap} {it a : Addr} (z : ObjOk P w H h it (itX it a)) : h.IsTupleIter it a 0 := by
  have z : ObjOk P w H h it (HO.ext fun h => h.IsTupleIter it a 0) := z
  simp only [ObjOk] at z
  exact z.1
theorem cr_iterT : CallR X (.builtin "iter") (fun xs H Q => ∃ a, xs = [.ref a] ∧ (∃ ws, SqT X.K H a ws) ∧ ∀ it, X.base.objs.size ≤ it → H it = none → Q (.ref it) (upd H it (itX it a))) := by
  intro pins s σ H xs us Q I r h
  obtain ⟨a, rfl, ⟨ws, hq⟩, k⟩ := h
  cases r with
  | cons r0 r1 =>
    cases r1
    cases r0
    obtain ⟨its, rv, p, hz⟩ := I.tuple hq
    refine Calls.call_function_entry (b := Builtin.iter) (by decide) (by decide) W.kdk_entry_iter (W.kdk_args_iter (.ref a)) ?_
    show wpAny _ _ (do
      let l ← someArgs "iter" 1 2 { pos := [Value.ref a] }
      _) _ _ _
    refine wpAny_bind (wpAny_of_eq (Eq.refl (someArgs "iter" 1 2 { pos := [Value.ref a] })) ?_)
    show wpAny _ _ (do
      let l ← pyIter (.ref a)
      ret l) _ _ _
    refine wpAny_bind (wpAny_pyIter_tuple p (wpAny_pure ⟨_, rfl, ?_⟩))
    exact ⟨.ref s.heap.objs.size, _, I.laid (t' := s.toks) (o := itX s.heap.objs.size a) (fun b ob q => Heap.get?_push_of_some _ q) (Nat.le_refl _) (itX_ok ⟨_, Heap.get?_push_size s.1 rfl, rfl, rfl⟩), rfl, k _ I.env0.bsz (I.hok.fresh (Nat.le_refl _))⟩
/-- the contract: the items of the field -/
def spIt (base : Heap) (K : PySem.W.Frag) (T : Ct) (n i : Nat) : Sp := fun vs H Q _ => ∃ G fs ys, Ex G H ∧ Reps K T G [.obj n fs] vs ∧ fs[i]? = some (.tup ys) ∧ ∀ it a, base.objs.size ≤ it → H it = none → (∃ ws, SqT K G a ws ∧ Reps K T G ys ws) → Q (.ref it) (upd H it (itX it a))
theorem ok_it {P : Program} {w : World} {K : PySem.W.Frag} {T : Ct} {mg : Str → Option Value} {base : Heap} {qual : Str} {sd : Stmt} {f : Addr} {fd : FuncData} {n i : Nat} {C : Addr} {ns : List Str} {fld : Str} {p1 p2 p3 p4 p5 : PySem.Pos} (F : Fun K "__iter__" qual sd f fd) (S : FnScope ["self"] ["self"] (defScope sd))
    (hB : defBody sd = [.Return (some (.Call (.Name "iter" p1) [.Attribute (.Name "self" p2) fld p3] [] p4)) p5]) (hT : T n = some (C, ns)) (hc : Cls K C) (hna : NoAttr K C fld) (hi : ns.findIdx? (· == fld) = some i) (hmi : mg "iter" = none)
    (hg : ∀ cdv A outer s H E, Gl (bX P w K mg base ["self"] qual sd f cdv A outer s H E) "iter") (hv : ∀ cdv A outer s H E, Vis (bX P w K mg base ["self"] qual sd f cdv A outer s H E).env.scope "self")
    (hb : ∀ cdv A outer s H E, attributeBase (.Name "self" p2) fld (bX P w K mg base ["self"] qual sd f cdv A outer s H E).env (eval (.Name "self" p2) (bX P w K mg base ["self"] qual sd f cdv A outer s H E).env) = eval (.Name "self" p2) (bX P w K mg base ["self"] qual sd f cdv A outer s H E).env)
    (hs : ∀ cdv A outer s H E, starEach [.Attribute (.Name "self" p2) fld p3] (bX P w K mg base ["self"] qual sd f cdv A outer s H E).env = (false, eval (.Attribute (.Name "self" p2) fld p3) (bX P w K mg base ["self"] qual sd f cdv A outer s H E).env) :: starEach [] (bX P w K mg base ["self"] qual sd f cdv A outer s H E).env)
    (hp : ∀ cdv A outer s H E, (backTo p4 (starEach [] (bX P w K mg base ["self"] qual sd f cdv A outer s H E).env)).any (·.1) = false) : FnOk P w K mg base CX0 1 f fd ["self"] (spIt base K T n i) := by
  refine F.ok S (fun vs H Q E h => ?_) (fun cdv A outer s H vs Q E hr h => ?_)
  · obtain ⟨G, fs, ys, e, rs, _, _⟩ := h
    rw [← rs.length]; rfl
  · obtain ⟨G, fs, ys, e, rs, hf, kk⟩ := h
    rw [hB]
    refine ⟨_, pss_one (ps_ret (pe_callB (X := bX P w K mg base ["self"] qual sd f cdv A outer s H E) cr_iterT (hg ..) hmi PyProof.Rows.boot_iter (pa_cons (pe_fld (pe_var (i := 0) rfl (hv ..)) (hb ..)) pa_nil (hs ..)) (by decide) (by decide) (hs ..) (hp ..))), ?_⟩
    cases rs with
    | cons r0 r1 =>
      cases r1
      obtain ⟨C1, ns1, q, dx, ws, rfl, q1, q2, q3, q4⟩ := id r0.obj_inv
      rw [hT] at q1
      cases q1
      obtain ⟨v, h1, h2⟩ := q4.get hf
      obtain ⟨a, vs', rfl, t1, t2⟩ := h2.tup_inv
      refine ⟨.ref q, rfl, q, C, dx, _, .ref a, rfl, e _ _ q2, hc, hna, lookup_zip hi h1, ?_⟩
      refine ⟨a, rfl, ⟨vs', e.st t1⟩, fun it hb hit => ?_⟩
      exact kk it a hb hit ⟨vs', t1, t2⟩
/-- the ground made as long as the heap is -/
def padH (b : Heap) (m : Nat) : Heap := { b with objs := b.objs ++ Array.replicate (m - b.objs.size) { cls := .none, data := .freed } }
theorem pad_get (b : Heap) (m : Nat) (a : Addr) : (padH b m).get? a = b.get? a := by
  unfold Heap.get? padH
  show (match (b.objs ++ Array.replicate (m - b.objs.size) ({ cls := .none, data := .freed } : Obj))[a]? with
    | some { cls := _, dict := _, data := Data.freed, slots := _ } => none
    | o => o) = _
  by_cases q : a < b.objs.size
  · rw [Array.getElem?_append_left q]; rfl
  · have e2 : b.objs[a]? = none := Array.getElem?_eq_none (Nat.le_of_not_lt q)
    rw [Array.getElem?_append_right (Nat.le_of_not_lt q), e2, Array.getElem?_replicate]
    by_cases q2 : a - b.objs.size < m - b.objs.size
    · rw [if_pos q2]
    · rw [if_neg q2]
theorem pad_size {b : Heap} {m : Nat} (h : b.objs.size ≤ m) : (padH b m).objs.size = m := by
  unfold padH
  show (b.objs ++ Array.replicate _ _).size = m
  rw [Array.size_append, Array.size_replicate]
  omega
theorem ns_pad {b : Heap} {m : Nat} {a : Addr} {f : Str → Option Value} (h : b.Ns a f) : (padH b m).Ns a f := by
  obtain ⟨o, es, ep, h1, h2⟩ := h
  exact ⟨o, es, ep, by rw [pad_get]; exact h1, h2⟩
theorem funs_pad {h b : Heap} {m : Nat} : ∀ {l : List Env}, h.FunFrames b l → h.FunFrames (padH b m) l
  | [], _ => by simp only [Heap.FunFrames]
  | e :: l, z => by
    simp only [Heap.FunFrames] at z ⊢
    obtain ⟨z1, ⟨L, o, z2, z3, z4⟩, z5⟩ := z
    exact ⟨z1, ⟨L, o, z2, by rw [pad_get]; exact z3, z4⟩, funs_pad z5⟩
theorem env0_pad {P : Program} {w : World} {K : PySem.W.Frag} {mg : Str → Option Value} {base : Heap} {A : Around} {outer : List Env} {s : Shared} {H : Hp} (e : Env0 P w K mg base A outer s H) : Env0 P w K mg (padH base s.heap.objs.size) A outer s H where
  frames := e.frames
  mod := {
    kin := fun a o h => by rw [pad_get]; exact e.mod.kin a o h
    glob := ns_pad e.mod.glob
    blt := by
      obtain ⟨mb, h1, h2⟩ := e.mod.blt
      exact ⟨mb, ns_pad h1, h2⟩
    nolimit := by
      obtain ⟨mc, h1, h2⟩ := e.mod.nolimit
      exact ⟨mc, ns_pad h1, h2⟩ }
  bs := fun b o h => e.bs b o (by rw [pad_get] at h; exact h)
  bsz := by rw [pad_size e.bsz]; exact Nat.le_refl _
  funs := funs_pad e.funs
  frf := e.frf
  hok := e.hok
  bare := e.bare
theorem pi_own {CX : CXT} {k : Nat} {f C : Addr} {fd : FuncData} {E : XK} {sp : Heap → Sp} {te : TE} (hl : PE X e te) (F : ∀ base, FnOk X.prog X.w X.K X.mg base CX k f fd ["self"] (sp base)) (hr : Room k X.A) (M : OwnOp X.K C "__iter__" f) (hb : Binds X.K fd ["self"] []) (hx : Passes CX X E) :
    PI X tg e (fun σ H R => te σ H fun x H1 => ∃ p dx gs, x = .ref p ∧ H1 p = some (.ins C dx gs) ∧ ∀ base, sp base [x] H1 (fun v H2 => ∃ it a, v = .ref it ∧ base.objs.size ≤ it ∧ H1 it = none ∧ H2 = upd H1 it (itX it a) ∧ (∃ ws, SqT X.K H1 a ws) ∧ R (Itt X.K a) H1) E) :=
  ⟨fun pins s σ H R I h => thn (hl.run pins s σ H _ I h) fun v s1 x => by
    obtain ⟨xv, H1, I1, r1, p, dx, gs, rfl, hp, hsp⟩ := x
    cases r1
    obtain ⟨mA, J, _⟩ := ins_get I1.hok hp
    obtain ⟨od, J, _⟩ := J.look
    obtain ⟨m, hF⟩ := I1.fr
    have b := hb s1 [.ref p] I1.kIn rfl
    rw [List.append_nil] at b
    refine PySem.W.owit_iter hF I1.ok.mod.kin J M.at_ M.fn (wpAny_call (codeAny_mono ((F (padH X.base s1.heap.objs.size)).run X.A X.stack s1 H1 ⟨[.ref p], []⟩ [.ref p] [.ref p] _ E hr (env0_pad I1.env0) b (.cons rfl .nil) (hsp _)) fun r s' hq => ?_))
    cases r with
    | error e => exact hx pins σ H1 s1 e s' I1 hq
    | ok fl =>
      cases fl with
      | next => exact False.elim hq
      | brk => exact False.elim hq
      | cont => exact False.elim hq
      | ret u =>
        obtain ⟨w, H2, os, bare, un, hok, rel, it, a, rfl, hsz, hn, rfl, hq2, hR⟩ := hq
        rw [pad_size I1.env0.bsz] at hsz
        cases rel
        have z := itX_get (hok it _ upd_same)
        have un' : Un (frs X.stack) [] H1 H1 s1.heap s'.heap := ⟨un.keep, un.slot, fun b o _ h _ => h, un.there, fun _ _ h => h, fun _ _ _ h => h, fun b ps h => ⟨#[], by simpa using h⟩⟩
        have hok' : HOk X.prog X.w H1 s'.heap := fun b o hb' => by
          have ne : ∀ d x, H1 d = some x → d ≠ it := fun d x hd q => by rw [q, hn] at hd; cases hd
          have up : ∀ d x, (upd H1 it (itX it a)) d = some x → d ≠ it → H1 d = some x := fun d x hd q => by rw [upd_ne q] at hd; exact hd
          have := hok b o (by rw [upd_ne (ne b o hb')]; exact hb')
          refine this.stay (fun _ _ _ h => h) (fun d hd => up d _ hd fun q => ?_) (fun d xs hd => up d _ hd fun q => ?_)
          · rw [q, upd_same] at hd; cases hd
          · rw [q, upd_same] at hd; cases hd
        obtain ⟨v', H', I', _, rfl⟩ := I1.after (u := .ref it) (Q := fun _ H' => H' = H1) ⟨.ref it, H1, os, bare, un', hok', rfl, rfl⟩
        exact wpAny_specialOf (Heap.IsTupleIter.typeIs z) PySem.F.slot_tuple_iterator_next.lookup ⟨it, [it], fun i h => h.IsTupleIter it a i, Itt X.K a, _, rfl, I', turn_tuple a it, z, fun b hb => by
          rw [List.mem_singleton.mp hb]
          exact I1.fpOk hsz hn, hR⟩⟩
/-- the __iter__ of an own class hands out the items of its field i -/
structure ItF (P : Program) (w : World) (K : PySem.W.Frag) (T : Ct) (mg : Str → Option Value) (C : Addr) (n i : Nat) : Prop where
  ex : ∃ f fd, (∀ base, FnOk P w K mg base CX0 1 f fd ["self"] (spIt base K T n i)) ∧ OwnOp K C "__iter__" f ∧ Binds K fd ["self"] []
theorem xi_own {n i : Nat} {x : Str} {C : Addr} {ns : List Str} (h : XD c X e st (.obj n fs) st1) (Q : CF X.K c.T X.mg x n C ns) (F : ItF X.prog X.w X.K c.T X.mg C n i) (hK : X.K = c.K) (hr : Room 1 X.A) (hf : fs[i]? = some (.tup ys)) : XI c X tg e st ys st1 := by
  obtain ⟨f, fd, F, M, hb⟩ := F.ex
  rw [hK] at F
  refine ⟨pi_weak (pi_own (E := fun _ _ _ => False) h.pe (by rw [hK]; exact F) hr M hb pass0) fun σ H R ⟨G, E, k⟩ => ⟨G, E, fun v G1 H1 g1 E1 r1 => ?_⟩⟩
  obtain ⟨C1, ns1, q, dx, ws, rfl, q1, q2, q3, q4⟩ := id r1.obj_inv
  rw [Q.at_] at q1
  cases q1
  refine ⟨q, dx, _, rfl, E1.ex _ _ q2, fun base => ⟨G1, fs, ys, E1.ex, .cons r1 .nil, hf, fun it a hb hn hw => ?_⟩⟩
  obtain ⟨ws', t1, t2⟩ := hw
  refine ⟨it, a, rfl, hb, hn, rfl, ⟨ws', by rw [hK]; exact E1.ex.st t1⟩, k _ G1 H1 g1 E1 ?_⟩
  rw [hK]
  exact yld_tup rfl t1 t2
end
end Dv
set_option autoImplicit false
set_option maxRecDepth 100000
set_option maxHeartbeats 4000000
/-! the data layer read forward: after an expression, what follows. One rule a construct, to be used by refine. -/
namespace Dv
open PySem PySem.Spec PyProof.Rows L2
section
variable {c : Ctx} {X : Cx} {st st1 st2 st3 : Store} {a b e e2 tg iter elt t : Expr} {es : List Expr} {d d1 d2 d3 d' : Dt} {ds xs ys zs fs gs vs : List Dt} {pos : Pos} {i j : Int} {body rest orelse A B : List Stmt} {s : Stmt} {o : Out} {n k m : Nat} {l l' : List Nat}
def WE (c : Ctx) (X : Cx) (e : Expr) (st : Store) (Q : Dt → Store → Prop) : Prop := ∃ d st', XD c X e st d st' ∧ Q d st'
def WT (c : Ctx) (X : Cx) (e : Expr) (st : Store) (Q : Bool → Store → Prop) : Prop := ∃ r st', XT c X e st r st' ∧ Q r st'
def WW (c : Ctx) (X : Cx) (e : Expr) (st : Store) (Q : Bool → Store → Prop) : Prop := ∃ r st', XW c X e st r st' ∧ Q r st'
def WA (c : Ctx) (X : Cx) (es : List Expr) (st : Store) (Q : List Dt → Store → Prop) : Prop := ∃ ds st', XA c X es st ds st' ∧ Q ds st'
def WL (c : Ctx) (X : Cx) (e : Expr) (st : Store) (Q : List Dt → Store → Prop) : Prop := ∃ xs st', XL c X e st xs st' ∧ Q xs st'
def WI (c : Ctx) (X : Cx) (tg iter : Expr) (st : Store) (Q : List Dt → Store → Prop) : Prop := ∃ ds st', XI c X tg iter st ds st' ∧ Q ds st'
def WG (c : Ctx) (X : Cx) (tg : Expr) (d : Dt) (st : Store) (Q : Store → Prop) : Prop := ∃ st', XG c X tg d st st' ∧ Q st'
def WGs (c : Ctx) (X : Cx) (tgs : List Expr) (ds : List Dt) (st : Store) (Q : Store → Prop) : Prop := ∃ st', XGs c X tgs ds st st' ∧ Q st'
def WP (c : Ctx) (X : Cx) (s : Stmt) (st : Store) (Q : Out → Prop) : Prop := ∃ o, XP c X s st o ∧ Q o
def WS (c : Ctx) (X : Cx) (ss : List Stmt) (st : Store) (Q : Out → Prop) : Prop := ∃ o, XS c X ss st o ∧ Q o
/-- behind a statement -/
def Aft (c : Ctx) (X : Cx) (rest : List Stmt) (Q : Out → Prop) : Out → Prop
  | .nx s => WS c X rest s Q
  | o => Q o
theorem aft_nx {Q : Out → Prop} (h : WS c X rest st Q) : Aft c X rest Q (.nx st) := h
theorem aft_rt {Q : Out → Prop} (h : Q (.rt d st)) : Aft c X rest Q (.rt d st) := h
theorem aft_rl {Q : Out → Prop} (h : Q (.rl xs)) : Aft c X rest Q (.rl xs) := h
theorem aft_rq {j : Nat} {Q : Out → Prop} (h : Q (.rq ds j st)) : Aft c X rest Q (.rq ds j st) := h
theorem aft_bk {Q : Out → Prop} (h : Q (.bk st)) : Aft c X rest Q (.bk st) := h
theorem aft_ct {Q : Out → Prop} (h : Q (.ct st)) : Aft c X rest Q (.ct st) := h
/-- a truth value known, or both ways -/
def IfK (r : Bool) (P1 P2 : Prop) : Prop := (r = true → P1) ∧ (r = false → P2)
theorem ifk_T {r : Bool} {P1 P2 : Prop} (h : r = true) (k : P1) : IfK r P1 P2 := ⟨fun _ => k, fun z => by rw [h] at z; cases z⟩
theorem ifk_F {r : Bool} {P1 P2 : Prop} (h : r = false) (k : P2) : IfK r P1 P2 := ⟨fun z => (by rw [h] at z; cases z), fun _ => k⟩
theorem ifk_S {r : Bool} {P1 P2 : Prop} (k1 : r = true → P1) (k2 : r = false → P2) : IfK r P1 P2 := ⟨k1, k2⟩
theorem ifk_and {r u : Bool} {P1 P2 : Prop} (h : IfK r (IfK u P1 P2) P2) : IfK (r && u) P1 P2 := by
  cases r
  · exact ⟨fun z => (nomatch z), fun _ => h.2 rfl⟩
  · exact h.1 rfl
theorem ifk_or {r u : Bool} {P1 P2 : Prop} (h : IfK r P1 (IfK u P1 P2)) : IfK (r || u) P1 P2 := by
  cases r
  · exact h.2 rfl
  · exact ⟨fun _ => h.1 rfl, fun z => nomatch z⟩
theorem ifk_not {r : Bool} {P1 P2 : Prop} (h : IfK r P2 P1) : IfK (!r) P1 P2 := by
  cases r
  · exact ⟨fun _ => h.2 rfl, fun z => nomatch z⟩
  · exact ⟨fun z => (nomatch z), fun _ => h.1 rfl⟩

/-! ### statements -/
theorem ws_nil {Q : Out → Prop} (h : Q (.nx st)) : WS c X [] st Q := ⟨_, xs_nil, h⟩
theorem ws_of {Q : Out → Prop} (h : WP c X s st (Aft c X rest Q)) : WS c X (s :: rest) st Q := by
  obtain ⟨o, h1, h2⟩ := h
  cases o with
  | nx s1 => obtain ⟨o2, h3, h4⟩ := h2; exact ⟨o2, xs_cons h1 h3, h4⟩
  | rt d s1 => exact ⟨_, xs_ret h1, h2⟩
  | bk s1 => exact ⟨_, xs_bk h1, h2⟩
  | ct s1 => exact ⟨_, xs_ct h1, h2⟩
  | rl xs => exact ⟨_, xs_rl h1, h2⟩
  | rq ds j s1 => exact ⟨_, xs_rq h1, h2⟩
theorem ws_set (i : Nat) {x : Str} {pos' : Pos} {Q : Out → Prop} (hN : X.N.Nodup) (h : WE c X e st fun d st1 => WS c X rest (st1.set i (some (.fr d))) Q) (hi : X.N[i]? = some x := by rfl) (hx : Loc X.env.scope x := by first | exact Or.inl rfl | exact Or.inr rfl) (hs : swapsWith e (some (.Name x pos')) pos.line X.env = pure false := by rfl)
    (hf : X.fn x = true ∨ X.env.scope.names.lookup x = some .local := by first | exact .inl rfl | exact .inr rfl | assumption) : WS c X (.Assign [.Name x pos'] e pos :: rest) st Q := by
  obtain ⟨d, st1, h1, o, h2, h3⟩ := h
  exact ⟨o, xs_cons (xp_set i hN h1 hi hx hs hf) h2, h3⟩
theorem ws_setOw (i : Nat) {x : Str} {pos' : Pos} {Q : Out → Prop} (hN : X.N.Nodup) (h : WL c X e st fun xs st1 => WS c X rest (st1.set i (some (.ow xs))) Q) (hi : X.N[i]? = some x := by rfl) (hx : Loc X.env.scope x := by first | exact Or.inl rfl | exact Or.inr rfl) (hs : swapsWith e (some (.Name x pos')) pos.line X.env = pure false := by rfl)
    (hf : X.fn x = true ∨ X.env.scope.names.lookup x = some .local := by first | exact .inl rfl | exact .inr rfl | assumption) : WS c X (.Assign [.Name x pos'] e pos :: rest) st Q := by
  obtain ⟨xs, st1, h1, o, h2, h3⟩ := h
  exact ⟨o, xs_cons (xp_setOw i hN h1 hi hx hs hf) h2, h3⟩
theorem ws_asg {Q : Out → Prop} (h : WE c X e st fun d st1 => WG c X tg d st1 fun st2 => WS c X rest st2 Q) (hs : swapsWithSole [tg] e pos.line X.env = pure false := by rfl) (hw : swappedStores [tg] e X.env = pure none := by rfl)
    (h1 : (assignEach [tg] X.env).map (·.2) = [assign tg X.env] := by rfl) : WS c X (.Assign [tg] e pos :: rest) st Q := by
  obtain ⟨d, st1, q1, st2, q2, o, q3, q4⟩ := h
  exact ⟨o, xs_cons (xp_asg q1 q2 hs hw h1) q3, q4⟩
theorem wg_name (i : Nat) {x : Str} {Q : Store → Prop} (hN : X.N.Nodup) (h : Q (st.set i (some (.fr d)))) (hi : X.N[i]? = some x := by rfl) (hx : Loc X.env.scope x := by first | exact Or.inl rfl | exact Or.inr rfl) (hf : X.fn x = true ∨ X.env.scope.names.lookup x = some .local := by first | exact .inl rfl | exact .inr rfl | assumption) :
    WG c X (.Name x pos) d st Q := ⟨_, xg_name i hN hi hx hf, h⟩
theorem wg_tup {k : Nat} {n : Nat} {Q : Store → Prop} (hK : X.K = c.K) (hc : X.calm = true) (h : WGs c X es ds st Q) (hl : ds.length = n := by rfl)
    (hn : (assignEach es X.env).length = n := by rfl) (hst : (assignEach es X.env).findIdx? (·.1) = none := by rfl) : WG c X (.Tuple es k pos) (.tup ds) st Q := by
  obtain ⟨s1, h1, h2⟩ := h
  exact ⟨s1, xg_tup hK hc h1 hl hn hst, h2⟩
theorem wgs_nil {Q : Store → Prop} (h : Q st) : WGs c X [] [] st Q := ⟨_, xgs_nil, h⟩
theorem wgs_cons {Q : Store → Prop} (h : WG c X e d st fun st1 => WGs c X es ds st1 Q) (hs : (assignEach (e :: es) X.env).map (·.2) = assign e X.env :: (assignEach es X.env).map (·.2) := by rfl) : WGs c X (e :: es) (d :: ds) st Q := by
  obtain ⟨s1, h1, s2, h2, h3⟩ := h
  exact ⟨s2, xgs_cons h1 h2 hs, h3⟩
/-- a, b = x, y -/
theorem ws_par (i j : Nat) {x y : Str} {px py pt : Pos} {kt k2 pt2} {Q : Out → Prop} (hN : X.N.Nodup) (hc : X.calm = true) (h : WA c X [a, b] st fun ds st1 => ∃ d1 d2, ds = [d1, d2] ∧ WS c X rest ((st1.set i (some (.fr d1))).set j (some (.fr d2))) Q) (hij : i ≠ j := by decide) (hi : X.N[i]? = some x := by rfl) (hj : X.N[j]? = some y := by rfl)
    (hx : X.env.scope.names.lookup x = some .local := by rfl) (hy : X.env.scope.names.lookup y = some .local := by rfl)
    (hw : swappedStores [.Tuple [.Name x px, .Name y py] kt pt] (.Tuple [a, b] k2 pt2) X.env = pure (some [x, y]) := by rfl)
    (hs : swapsWithSole [.Tuple [.Name x px, .Name y py] kt pt] (.Tuple [a, b] k2 pt2) pos.line X.env = pure false := by rfl) :
    WS c X (.Assign [.Tuple [.Name x px, .Name y py] kt pt] (.Tuple [a, b] k2 pt2) pos :: rest) st Q := by
  obtain ⟨ds, st1, h1, d1, d2, rfl, o, h2, h3⟩ := h
  exact ⟨o, xs_cons (xp_par i j hN hc h1 hij hi hj hx hy hw hs) h2, h3⟩
theorem ws_par3 (i j k : Nat) {x y z : Str} {ea eb ec : Expr} {px py pz pt : Pos} {kt k2 pt2} {Q : Out → Prop} (hN : X.N.Nodup) (hc : X.calm = true) (h : WA c X [ea, eb, ec] st fun ds st1 => ∃ d1 d2 d3, ds = [d1, d2, d3] ∧ WS c X rest (((st1.set i (some (.fr d1))).set j (some (.fr d2))).set k (some (.fr d3))) Q) (hij : i ≠ j := by decide) (hik : i ≠ k := by decide) (hjk : j ≠ k := by decide) (hi : X.N[i]? = some x := by rfl) (hj : X.N[j]? = some y := by rfl) (hk : X.N[k]? = some z := by rfl)
    (hx : X.env.scope.names.lookup x = some .local := by rfl) (hy : X.env.scope.names.lookup y = some .local := by rfl) (hz : X.env.scope.names.lookup z = some .local := by rfl)
    (hw : swappedStores [.Tuple [.Name x px, .Name y py, .Name z pz] kt pt] (.Tuple [ea, eb, ec] k2 pt2) X.env = pure (some [x, y, z]) := by rfl)
    (hs : swapsWithSole [.Tuple [.Name x px, .Name y py, .Name z pz] kt pt] (.Tuple [ea, eb, ec] k2 pt2) pos.line X.env = pure false := by rfl) :
    WS c X (.Assign [.Tuple [.Name x px, .Name y py, .Name z pz] kt pt] (.Tuple [ea, eb, ec] k2 pt2) pos :: rest) st Q := by
  obtain ⟨ds, st1, h1, d1, d2, d3, rfl, o, h2, h3⟩ := h
  exact ⟨o, xs_cons (xp_par3 i j k hN hc h1 hij hik hjk hi hj hk hx hy hz hw hs) h2, h3⟩
theorem ws_if {Q : Out → Prop} (h : WT c X t st fun r st1 => IfK r (WS c X A st1 (Aft c X rest Q)) (WS c X B st1 (Aft c X rest Q))) : WS c X (.If t A B pos :: rest) st Q := by
  obtain ⟨r, st1, h1, h2, h3⟩ := h
  refine ws_of ?_
  cases r with
  | true => obtain ⟨o, q1, q2⟩ := h2 rfl; exact ⟨o, xp_if h1 (fun _ => q1) (fun z => nomatch z), q2⟩
  | false => obtain ⟨o, q1, q2⟩ := h3 rfl; exact ⟨o, xp_if h1 (fun z => nomatch z) (fun _ => q1), q2⟩
theorem ws_ret {Q : Out → Prop} (h : WE c X e st fun d st1 => Q (.rt d st1)) : WS c X (.Return (some e) pos :: rest) st Q := by
  obtain ⟨d, st1, h1, h2⟩ := h
  exact ⟨_, xs_ret (xp_ret h1), h2⟩
theorem ws_retN {Q : Out → Prop} (h : Q (.rt .non st)) : WS c X (.Return none pos :: rest) st Q := ⟨_, xs_ret xp_retN, h⟩
/-- a def hands out the list that it made, or a new one -/
theorem ws_retO (i : Nat) {x : Str} {p1 : Pos} {Q : Out → Prop} (hi : st[i]? = some (some (.ow xs))) (h : Q (.rl xs)) (hN : X.N[i]? = some x := by rfl) (hv : Vis X.env.scope x := by first | exact Or.inl rfl | exact Or.inr (Or.inl rfl) | exact Or.inr (Or.inr rfl)) (hd : (x == ("__debug__" : Str)) = false := by decide) (hcd : (x == ("__classdict__" : Str)) = false := by decide) : WS c X (.Return (some (.Name x p1)) pos :: rest) st Q := by
  refine ⟨.rl xs, xs_rl ⟨ps_weak (ps_ret (pe_var hN hv hd hcd)) fun D σ H ⟨G, E, k⟩ => ?_⟩, h⟩
  obtain ⟨a, vs, z1, z2, z3, z4, z5, z6⟩ := E.at hi .ow
  exact ⟨_, z1, k a vs G H (Gr.refl.weakO fun p q => q.elim) E.ex (.inr ⟨i, _, hi, rfl, z1⟩) z2 z3 z4⟩
theorem ws_retL {Q : Out → Prop} (h : WL c X e st fun xs _ => Q (.rl xs)) : WS c X (.Return (some e) pos :: rest) st Q := by
  obtain ⟨xs, st1, h1, h2⟩ := h
  exact ⟨.rl xs, xs_rl ⟨ps_weak (ps_ret h1.pe) fun D σ H ⟨G, E, k⟩ => ⟨G, E, fun p vs G' H' g' E' n1 n2 n3 n4 r => k p vs G' H' (g'.weakO fun p q => q.elim) E'.ex (.inl n2) n3 n4 r⟩⟩, h2⟩
theorem ws_expr {Q : Out → Prop} (h : WE c X e st fun d st1 => WS c X rest st1 Q) (hs : swapsWith e none pos.line X.env = pure false := by rfl) : WS c X (.Expr e pos :: rest) st Q := by
  obtain ⟨d, st1, h1, o, h2, h3⟩ := h
  exact ⟨o, xs_cons (xp_expr h1 hs) h2, h3⟩
theorem ws_pass {Q : Out → Prop} (h : WS c X rest st Q) : WS c X (.Pass pos :: rest) st Q := by
  obtain ⟨o, h2, h3⟩ := h
  exact ⟨o, xs_cons xp_pass h2, h3⟩
theorem ws_break {Q : Out → Prop} (h : Q (.bk st)) : WS c X (.Break pos :: rest) st Q := ⟨_, xs_bk xp_break, h⟩
theorem ws_continue {Q : Out → Prop} (h : Q (.ct st)) : WS c X (.Continue pos :: rest) st Q := ⟨_, xs_ct xp_continue, h⟩
theorem ws_freeze (i : Nat) {Q : Out → Prop} (hi : st[i]? = some (some (.ow xs))) (h : WS c X rest (st.set i (some (.fr (.lst xs)))) Q) : WS c X rest st Q := by
  obtain ⟨o, h2, h3⟩ := h
  exact ⟨o, xs_freeze i hi h2, h3⟩
theorem ws_eq {Q : Out → Prop} (e : st = st1) (h : WS c X rest st1 Q) : WS c X rest st Q := e ▸ h
/-- one turn of a loop ends so -/
abbrev Tn (s : Store) (o : Out) : Prop := o = .nx s ∨ o = .ct s
theorem ws_for (S : Nat → Store) (m : Nat) {Q : Out → Prop} (h : WI c X tg iter st fun ds st1 => st1 = S 0 ∧ ds.length = m ∧ (∀ i d, ds[i]? = some d → WG c X tg d (S i) fun s => WS c X body s (Tn (S (i + 1)))) ∧ WS c X rest (S m) Q) (hc : X.calm = true := by rfl) (hp : PassesOwn (model X.prog X.w) X.A X.env X.xe := by exact PassesOwn.never)
    (hs : ∀ x, foldedSetIterable iter X.env x = pure x := by intro _; rfl) : WS c X (.For tg iter body [] pos :: rest) st Q := by
  obtain ⟨ds, st1, h1, rfl, rfl, h2, o, h3, h4⟩ := h
  refine ⟨o, xs_cons (xp_for S h1 (fun i d hd => ?_) hc hp hs) h3, h4⟩
  obtain ⟨s1, q1, o1, q2, q3 | q3⟩ := h2 i d hd
  · subst q3; exact ⟨s1, q1, .inl q2⟩
  · subst q3; exact ⟨s1, q1, .inr q2⟩
/-- the last turn of a loop that is left on the way -/
def Lv (Q : Out → Prop) : Out → Prop
  | .rt d s => Q (.rt d s)
  | .bk s => Q (.nx s)
  | _ => False
theorem ws_forX (S : Nat → Store) (m : Nat) (d : Dt) {Q : Out → Prop} (h : WI c X tg iter st fun ds st1 => st1 = S 0 ∧ ds[m]? = some d ∧ (∀ i d, i < m → ds[i]? = some d → WG c X tg d (S i) fun s => WS c X body s (Tn (S (i + 1)))) ∧ WG c X tg d (S m) fun s => WS c X body s (Lv (Aft c X rest Q))) (hc : X.calm = true := by rfl) (hp : PassesOwn (model X.prog X.w) X.A X.env X.xe := by exact PassesOwn.never)
    (hs : ∀ x, foldedSetIterable iter X.env x = pure x := by intro _; rfl) : WS c X (.For tg iter body [] pos :: rest) st Q := by
  obtain ⟨ds, st1, h1, rfl, hm, h2, s1, h3, o, h4, h5⟩ := h
  refine ws_of ?_
  have turns : ∀ i d, i < m → ds[i]? = some d → Turns c X tg body d (S i) (S (i + 1)) := fun i d hi hd => by
    obtain ⟨s1, q1, o1, q2, q3 | q3⟩ := h2 i d hi hd
    · subst q3; exact ⟨s1, q1, .inl q2⟩
    · subst q3; exact ⟨s1, q1, .inr q2⟩
  cases o with
  | nx s => exact h5.elim
  | ct s => exact h5.elim
  | rl xs => exact h5.elim
  | rq ds j s => exact h5.elim
  | rt r s => exact ⟨_, xp_forX S m hm h1 turns ⟨s1, h3, .inl ⟨r, s, rfl, h4⟩⟩ hc hp hs, h5⟩
  | bk s => exact ⟨_, xp_forX S m hm h1 turns ⟨s1, h3, .inr ⟨s, rfl, h4⟩⟩ hc hp hs, h5⟩
theorem ws_while (S : Nat → Store) (m : Nat) {Q : Out → Prop} (h0 : st = S 0) (hb : ∀ i, i < m → WT c X t (S i) fun r st1 => r = true ∧ WS c X body st1 (Tn (S (i + 1)))) (he : WT c X t (S m) fun r st1 => r = false ∧ WS c X rest st1 Q) (hp : PassesOwn (model X.prog X.w) X.A X.env X.xe := by exact PassesOwn.never) :
    WS c X (.While t body [] pos :: rest) st Q := by
  subst h0
  obtain ⟨r, st1, h1, rfl, o, h2, h3⟩ := he
  have hb' : ∀ i, i < m → ∃ s1, XT c X t (S i) true s1 ∧ (XS c X body s1 (.nx (S (i + 1))) ∨ XS c X body s1 (.ct (S (i + 1)))) := fun i hi => by
    obtain ⟨r, s1, q1, rfl, o, q2, q3 | q3⟩ := hb i hi
    · subst q3; exact ⟨s1, q1, .inl q2⟩
    · subst q3; exact ⟨s1, q1, .inr q2⟩
  refine ⟨o, xs_cons (xp_while S (fun i => if h : i < m then (hb' i h).choose else []) m (fun i hi => ?_) h1 hp) h2, h3⟩
  have q := (hb' i hi).choose_spec
  simp only [dif_pos hi]
  exact q
theorem ws_append (i : Nat) {s : Sv} {x : Str} {p1 apos cpos p2 : Pos} {Q : Out → Prop} (hi : st[i]? = some (some s)) (hK : X.K = c.K) (h : WE c X e st fun d st1 => ∃ xs, st1[i]? = some (some s) ∧ s.Has xs ∧ xs.length < 100000 ∧ WS c X rest (st1.set i (some (s.with (xs ++ [d])))) Q) (hN : X.N[i]? = some x := by rfl) (hv : Vis X.env.scope x := by first | exact Or.inl rfl | exact Or.inr (Or.inl rfl) | exact Or.inr (Or.inr rfl)) (hd : (x == ("__debug__" : Str)) = false := by decide)
    (hcd : (x == ("__classdict__" : Str)) = false := by decide) (hline : (apos.endLine == cpos.line) = true := by rfl) (hb : attributeBase (.Name x p1) "append" X.env (eval (.Name x p1) X.env) = eval (.Name x p1) X.env := by rfl)
    (hfew : ((backTo cpos (starEach (e :: []) X.env)).all (fun x => !x.1) && (backToKw cpos (keywordEach [] X.env)).all (fun x => x.1.isSome)
      && decide ((e :: []).length + ([] : List Keyword).length + (if ([] : List Keyword).isEmpty then 0 else 1) < 30)) = true := by rfl) (hst : starEach (e :: []) X.env = (false, eval e X.env) :: starEach [] X.env := by rfl) (hsw : swapsWith (.Call (.Attribute (.Name x p1) "append" apos) [e] [] cpos) none p2.line X.env = pure false := by rfl) :
    WS c X (.Expr (.Call (.Attribute (.Name x p1) "append" apos) [e] [] cpos) p2 :: rest) st Q := by
  obtain ⟨d, st1, h1, xs, h3, h4, h5, o, h6, h7⟩ := h
  exact ⟨o, xs_cons (xp_append i h1 hK hi h3 h4 h5 hN hv hd hcd hline hb hfew hst hsw) h6, h7⟩
/-- x[e1] = e2 -/
theorem ws_setI (k : Nat) {s : Sv} {x : Str} {p1 p2 ppos : Pos} {Q : Out → Prop} (hk0 : st[k]? = some (some s)) (h : WE c X e st fun d st1 => WE c X b st1 fun di st2 => ∃ (xs : List Dt) (m : Nat), di = .int m ∧ st1[k]? = some (some s) ∧ st2[k]? = some (some s) ∧ s.Has xs ∧ m < xs.length ∧ WS c X rest (st2.set k (some (s.with (xs.set m d)))) Q) (hN : X.N[k]? = some x := by rfl)
    (hv : Vis X.env.scope x := by first | exact Or.inl rfl | exact Or.inr (Or.inl rfl) | exact Or.inr (Or.inr rfl)) (hdb : (x == ("__debug__" : Str)) = false := by decide) (hcd : (x == ("__classdict__" : Str)) = false := by decide)
    (ha : ∀ v, assign (.Subscript (.Name x p1) b p2) X.env v = (do
      let ov ← holding [v] (eval (.Name x p1) X.env)
      let iv ← holding [v, ov] (eval b X.env)
      standAt p2
      holding [v, ov, iv] (setItem ov iv v)
      release [v, ov, iv] []) := by intro _; rfl)
    (hs1 : swapsWithSole [.Subscript (.Name x p1) b p2] e ppos.line X.env = pure false := by rfl) (hw : swappedStores [.Subscript (.Name x p1) b p2] e X.env = pure none := by rfl)
    (h1 : (assignEach [.Subscript (.Name x p1) b p2] X.env).map (·.2) = [assign (.Subscript (.Name x p1) b p2) X.env] := by rfl) : WS c X (.Assign [.Subscript (.Name x p1) b p2] e ppos :: rest) st Q := by
  obtain ⟨d, st1, q1, di, st2, q2, xs, m, rfl, q3, q4, q5, q6, o, q7, q8⟩ := h
  exact ⟨o, xs_cons (xp_setI k q1 q2 q3 q4 q5 rfl q6 hN hv hdb hcd ha hs1 hw h1) q7, q8⟩
/-- in an __init__: self.f = e -/
theorem ws_fld {n : Nat} {C : Addr} {ns : List Str} {f y : Str} {p1 p2 ppos : Pos} {Q : Out → Prop} (hT : c.T n = some (C, ns)) (hnd : ns.Nodup) (hcl : Cls X.K C) (hna : NoAttr X.K C f) (h : WE c X e st fun d st1 => ∃ fs, st1[0]? = some (some (.bo n fs)) ∧ ns[fs.length]? = some f ∧ fs.length < 1000 ∧ WS c X rest (st1.set 0 (some (.bo n (fs ++ [d])))) Q)
    (hN : X.N[0]? = some y := by rfl) (hv : Vis X.env.scope y := by first | exact Or.inl rfl | exact Or.inr (Or.inl rfl) | exact Or.inr (Or.inr rfl)) (hd : (y == ("__debug__" : Str)) = false := by decide) (hcd : (y == ("__classdict__" : Str)) = false := by decide)
    (hs : swapsWith e (some (.Attribute (.Name y p1) f p2)) ppos.line X.env = pure false := by rfl) : WS c X (.Assign [.Attribute (.Name y p1) f p2] e ppos :: rest) st Q := by
  obtain ⟨d, st1, h1, fs, h2, h3, h4, o, h5, h6⟩ := h
  exact ⟨o, xs_cons (xp_fldset h1 hT hnd hcl hna h2 h3 h4 hN hv hd hcd hs) h5, h6⟩

/-! ### expressions -/
theorem we_int {Q : Dt → Store → Prop} {i : Int} {j} (h : Q (.int i) st) : WE c X (.Constant (.int i) j pos) st Q := ⟨_, _, xd_int, h⟩
theorem we_bl {Q : Dt → Store → Prop} {r : Bool} {j} (h : Q (.bl r) st) : WE c X (.Constant (.bool r) j pos) st Q := ⟨_, _, xd_bl, h⟩
theorem we_non {Q : Dt → Store → Prop} {j} (h : Q .non st) : WE c X (.Constant .none j pos) st Q := ⟨_, _, xd_non, h⟩
theorem we_str {Q : Dt → Store → Prop} (l : List Nat) {x : Str} {j} (h : Q (.str (sx l)) st) (e : x = sx l := by rfl) : WE c X (.Constant (.str x) j pos) st Q := by subst e; exact ⟨_, _, xd_str, h⟩
theorem we_var (i : Nat) {x : Str} {Q : Dt → Store → Prop} (hs : st[i]? = some (some (.fr d))) (h : Q d st) (hN : X.N[i]? = some x := by rfl) (hv : Vis X.env.scope x := by first | exact Or.inl rfl | exact Or.inr (Or.inl rfl) | exact Or.inr (Or.inr rfl)) (hd : (x == ("__debug__" : Str)) = false := by decide)
    (hcd : (x == ("__classdict__" : Str)) = false := by decide) : WE c X (.Name x pos) st Q := ⟨_, _, xd_var i hs hN hv hd hcd, h⟩
theorem we_is {Q : Dt → Store → Prop} (h : XD c X e st d st1) (k : Q d st1) : WE c X e st Q := ⟨_, _, h, k⟩
theorem wt_is {Q : Bool → Store → Prop} {r : Bool} (h : XT c X e st r st1) (k : Q r st1) : WT c X e st Q := ⟨_, _, h, k⟩
theorem wl_is {Q : List Dt → Store → Prop} (h : XL c X e st xs st1) (k : Q xs st1) : WL c X e st Q := ⟨_, _, h, k⟩
theorem wi_is {Q : List Dt → Store → Prop} (h : XI c X tg iter st ds st1) (k : Q ds st1) : WI c X tg iter st Q := ⟨_, _, h, k⟩
theorem we_mono {Q Q' : Dt → Store → Prop} (h : WE c X e st Q) (k : ∀ d s, Q d s → Q' d s) : WE c X e st Q' := by obtain ⟨d, s, h1, h2⟩ := h; exact ⟨d, s, h1, k d s h2⟩
/-- an operator between data -/
def BinR (c : Ctx) (X : Cx) (op : Operator) (d1 d2 : Dt) (Q : Dt → Prop) : Prop := ∃ d, (∀ a b st st1 st2 pos, XD c X a st d1 st1 → XD c X b st1 d2 st2 → XD c X (.BinOp a op b pos) st d st2) ∧ Q d
theorem we_bin {op : Operator} {Q : Dt → Store → Prop} (h : WE c X a st fun d1 st1 => WE c X b st1 fun d2 st2 => BinR c X op d1 d2 fun d => Q d st2) : WE c X (.BinOp a op b pos) st Q := by
  obtain ⟨d1, st1, h1, d2, st2, h2, d, h3, h4⟩ := h
  exact ⟨d, st2, h3 _ _ _ _ _ _ h1 h2, h4⟩
theorem br_add {Q : Dt → Prop} (h : Q (.int (i + j))) : BinR c X .Add (.int i) (.int j) Q := ⟨_, fun _ _ _ _ _ _ h1 h2 => xd_add h1 h2, h⟩
theorem br_sub {Q : Dt → Prop} (h : Q (.int (i - j))) : BinR c X .Sub (.int i) (.int j) Q := ⟨_, fun _ _ _ _ _ _ h1 h2 => xd_sub h1 h2, h⟩
theorem br_mul {Q : Dt → Prop} (k : IntMulOk i j) (h : Q (.int (i * j))) : BinR c X .Mult (.int i) (.int j) Q := ⟨_, fun _ _ _ _ _ _ h1 h2 => xd_mul h1 h2 k, h⟩
theorem br_mod {Q : Dt → Prop} (k : 0 < j) (h : Q (.int (i % j))) : BinR c X .Mod (.int i) (.int j) Q := ⟨_, fun _ _ _ _ _ _ h1 h2 => xd_mod h1 h2 k, h⟩
theorem br_fdiv {Q : Dt → Prop} (k : j ≠ 0) (k2 : j.natAbs.log2 < 9000) (h : Q (.int (i.fdiv j))) : BinR c X .FloorDiv (.int i) (.int j) Q := ⟨_, fun _ _ _ _ _ _ h1 h2 => xd_fdiv h1 h2 k k2, h⟩
theorem br_pow {Q : Dt → Prop} (k : 0 ≤ j) (k1 : j ≤ 1000000) (k2 : i.natAbs < 2 ^ 64) (h : Q (.int (i ^ j.toNat))) : BinR c X .Pow (.int i) (.int j) Q := ⟨_, fun _ _ _ _ _ _ h1 h2 => xd_pow h1 h2 k k1 k2, h⟩
theorem br_addX {Q : Dt → Prop} (k : l.length + l'.length ≤ 100000) (h : Q (.str (sx (l ++ l')))) : BinR c X .Add (.str (sx l)) (.str (sx l')) Q := ⟨_, fun _ _ _ _ _ _ h1 h2 => xd_addX h1 h2 k, h⟩
theorem br_cat {Q : Dt → Prop} (k : xs.length + ys.length ≤ 100000) (h : Q (.lst (xs ++ ys))) : BinR c X .Add (.lst xs) (.lst ys) Q := ⟨_, fun _ _ _ _ _ _ h1 h2 => xd_cat h1 h2 k, h⟩
theorem br_rep {Q : Dt → Prop} (k0 : 0 ≤ i) (k1 : i < 2 ^ 62) (k2 : xs.length * i.toNat ≤ 100000) (h : Q (.lst (List.replicate i.toNat xs).flatten)) : BinR c X .Mult (.lst xs) (.int i) Q := ⟨_, fun _ _ _ _ _ _ h1 h2 => xd_rep h1 h2 k0 k1 k2, h⟩
theorem br_own {op : Operator} {k n : Nat} {R : List Dt → Dt → Prop} {x : Str} {C : Addr} {ns : List Str} {Q : Dt → Prop} (q : CF X.K c.T X.mg x n C ns) (F : MF X.prog X.w X.K c.T X.mg X.base C (PySem.dunder op.info.2) k R) (hK : X.K = c.K) (hr : Room k X.A) (hs : PySem.W.selfFirst X.K C = true)
    (hR : R [.obj n fs, .obj n gs] d) (h : Q d) : BinR c X op (.obj n fs) (.obj n gs) Q := ⟨_, fun _ _ _ _ _ _ h1 h2 => xd_opF h1 h2 q F hK hr hs hR, h⟩
theorem we_neg {Q : Dt → Store → Prop} (h : WE c X a st fun d1 st1 => ∃ i, d1 = .int i ∧ Q (.int (-i)) st1) : WE c X (.UnaryOp .USub a pos) st Q := by
  obtain ⟨d1, st1, h1, i, rfl, h2⟩ := h
  exact ⟨_, _, xd_neg h1, h2⟩
theorem we_not {Q : Dt → Store → Prop} (h : WE c X a st fun d1 st1 => ∃ r, d1 = .bl r ∧ Q (.bl (!r)) st1) : WE c X (.UnaryOp .Not a pos) st Q := by
  obtain ⟨d1, st1, h1, i, rfl, h2⟩ := h
  exact ⟨_, _, xd_not h1, h2⟩
/-- a comparison between data, as a value and as a test -/
def CmpR (c : Ctx) (X : Cx) (op : CmpOp) (d1 d2 : Dt) (Q : Bool → Prop) : Prop := ∃ r, (∀ a b st st1 st2 pos, behindInMarks op b = false → XD c X a st d1 st1 → XD c X b st1 d2 st2 → XD c X (.Compare a [op] [b] pos) st (.bl r) st2 ∧ XT c X (.Compare a [op] [b] pos) st r st2) ∧ Q r
theorem we_cmp {op : CmpOp} {Q : Dt → Store → Prop} (h : WE c X a st fun d1 st1 => WE c X b st1 fun d2 st2 => CmpR c X op d1 d2 fun r => Q (.bl r) st2) (hm : behindInMarks op b = false := by first | rfl | exact nomark _) : WE c X (.Compare a [op] [b] pos) st Q := by
  obtain ⟨d1, st1, h1, d2, st2, h2, r, h3, h4⟩ := h
  exact ⟨_, st2, (h3 _ _ _ _ _ _ hm h1 h2).1, h4⟩
theorem wt_cmp {op : CmpOp} {Q : Bool → Store → Prop} (h : WE c X a st fun d1 st1 => WE c X b st1 fun d2 st2 => CmpR c X op d1 d2 fun r => Q r st2) (hm : behindInMarks op b = false := by first | rfl | exact nomark _) : WT c X (.Compare a [op] [b] pos) st Q := by
  obtain ⟨d1, st1, h1, d2, st2, h2, r, h3, h4⟩ := h
  exact ⟨_, st2, (h3 _ _ _ _ _ _ hm h1 h2).2, h4⟩
theorem cr_of {op : CmpOp} {R : R2} {r : Bool} {Q : Bool → Prop} (ho : OpR X (compareOp op) R) (hv : Op2 c d1 d2 (.bl r) R) (h : Q r) : CmpR c X op d1 d2 Q := ⟨r, fun _ _ _ _ _ _ hm h1 h2 => ⟨xd_cmp h1 h2 ho hv hm, xt_cmp h1 h2 ho hv hm⟩, h⟩
theorem cr_lt {Q : Bool → Prop} (h : Q (decide (i < j))) : CmpR c X .Lt (.int i) (.int j) Q := cr_of op_lt o_B0 h
theorem cr_le {Q : Bool → Prop} (h : Q (decide (i ≤ j))) : CmpR c X .LtE (.int i) (.int j) Q := cr_of op_le o_B0 h
theorem cr_gt {Q : Bool → Prop} (h : Q (decide (j < i))) : CmpR c X .Gt (.int i) (.int j) Q := cr_of op_gt o_B0 h
theorem cr_ge {Q : Bool → Prop} (h : Q (decide (j ≤ i))) : CmpR c X .GtE (.int i) (.int j) Q := cr_of op_ge o_B0 h
theorem cr_eqI {Q : Bool → Prop} (h : Q (decide (i = j))) : CmpR c X .Eq (.int i) (.int j) Q := cr_of op_eq (o_eqS rfl rfl rfl dec_I) h
theorem cr_neI {Q : Bool → Prop} (h : Q (!decide (i = j))) : CmpR c X .NotEq (.int i) (.int j) Q := cr_of op_ne (o_neS rfl rfl rfl (by rw [dec_I])) h
theorem dec_sx : decide (V.str (sx l) = V.str (sx l')) = decide (l = l') := by
  by_cases h : l = l'
  · subst h; rw [decide_eq_true rfl, decide_eq_true rfl]
  · rw [decide_eq_false h, decide_eq_false fun z => h (sx_inj (by injection z))]
theorem cr_eqX {Q : Bool → Prop} (h : Q (decide (l = l'))) : CmpR c X .Eq (.str (sx l)) (.str (sx l')) Q := cr_of op_eq (o_eqS rfl rfl rfl dec_sx) h
theorem cr_neX {Q : Bool → Prop} (h : Q (!decide (l = l'))) : CmpR c X .NotEq (.str (sx l)) (.str (sx l')) Q := cr_of op_ne (o_neS rfl rfl rfl (by rw [dec_sx])) h
theorem dec_bl {r u : Bool} : decide (V.bl r = V.bl u) = decide (r = u) := by cases r <;> cases u <;> rfl
theorem cr_eqB {r u : Bool} {Q : Bool → Prop} (h : Q (decide (r = u))) : CmpR c X .Eq (.bl r) (.bl u) Q := cr_of op_eq (o_eqS rfl rfl rfl dec_bl) h
theorem cr_neB {r u : Bool} {Q : Bool → Prop} (h : Q (!decide (r = u))) : CmpR c X .NotEq (.bl r) (.bl u) Q := cr_of op_ne (o_neS rfl rfl rfl (by rw [dec_bl])) h
/-- tests -/
theorem wt_val {Q : Bool → Store → Prop} (h : WE c X e st fun d st1 => ∃ r, d = .bl r ∧ Q r st1) (he : ∀ whole, isTrue e X.env whole = (do let v ← whole; standAt e.pos; holding [v] (truthy v)) := by intro _; rfl) : WT c X e st Q := by
  obtain ⟨d, st1, h1, r, rfl, h2⟩ := h
  exact ⟨r, st1, xt_val h1 he, h2⟩
theorem wt_not {Q : Bool → Store → Prop} (h : WT c X a st fun r st1 => Q (!r) st1) : WT c X (.UnaryOp .Not a pos) st Q := by
  obtain ⟨r, st1, h1, h2⟩ := h
  exact ⟨_, _, xt_not h1, h2⟩
theorem wt_of {Q : Bool → Store → Prop} (h : WW c X e st Q) : WT c X e st Q := by
  obtain ⟨r, st1, h1, h2⟩ := h
  exact ⟨_, _, xw_pt h1, h2⟩
theorem ww_and {es : List Expr} {Q : Bool → Store → Prop} (h : WT c X a st fun r st1 => IfK r (WW c X (.BoolOp .And (b :: es) pos) st1 Q) (Q false st1)) : WW c X (.BoolOp .And (a :: b :: es) pos) st Q := by
  obtain ⟨r, st1, h1, h2, h3⟩ := h
  cases r with
  | true => obtain ⟨u, st2, q1, q2⟩ := h2 rfl; exact ⟨u, st2, xw_andT h1 q1, q2⟩
  | false => exact ⟨_, _, xw_andF h1, h3 rfl⟩
theorem ww_or {es : List Expr} {Q : Bool → Store → Prop} (h : WT c X a st fun r st1 => IfK r (Q true st1) (WW c X (.BoolOp .Or (b :: es) pos) st1 Q)) : WW c X (.BoolOp .Or (a :: b :: es) pos) st Q := by
  obtain ⟨r, st1, h1, h2, h3⟩ := h
  cases r with
  | true => exact ⟨_, _, xw_orT h1, h2 rfl⟩
  | false => obtain ⟨u, st2, q1, q2⟩ := h3 rfl; exact ⟨u, st2, xw_orF h1 q1, q2⟩
theorem ww_and1 {Q : Bool → Store → Prop} (h : WT c X a st Q) : WW c X (.BoolOp .And [a] pos) st Q := by
  obtain ⟨r, st1, h1, h2⟩ := h; exact ⟨_, _, xw_and1 h1, h2⟩
theorem ww_or1 {Q : Bool → Store → Prop} (h : WT c X a st Q) : WW c X (.BoolOp .Or [a] pos) st Q := by
  obtain ⟨r, st1, h1, h2⟩ := h; exact ⟨_, _, xw_or1 h1, h2⟩
theorem we_one {op} {Q : Dt → Store → Prop} (h : WE c X a st Q) : WE c X (.BoolOp op [a] pos) st Q := by
  obtain ⟨d, st1, h1, h2⟩ := h; exact ⟨_, _, xd_one h1, h2⟩
theorem xd_andV {es : List Expr} (h : XD c X a st (.bl true) st1) (h2 : XD c X (.BoolOp .And (b :: es) pos) st1 d st2) : XD c X (.BoolOp .And (a :: b :: es) pos) st d st2 :=
  ⟨pe_weak (pe_and h.pe h2.pe) fun σ H Q ⟨G, E, k⟩ => ⟨G, E, fun v G1 H1 g1 E1 r1 => by cases r1; exact ⟨true, rfl, by refine L2.iteT ?_; exact ⟨G1, E1, fun v G2 H2 g2 E2 r2 => k v G2 H2 (g1.trans g2) E2 r2⟩⟩⟩⟩
theorem xd_andW {es : List Expr} (h : XD c X a st (.bl false) st1) : XD c X (.BoolOp .And (a :: b :: es) pos) st (.bl false) st1 :=
  ⟨pe_weak (pe_and h.pe pe_never) fun σ H Q ⟨G, E, k⟩ => ⟨G, E, fun v G1 H1 g1 E1 r1 => by cases r1; exact ⟨false, rfl, by refine L2.iteF ?_; exact k _ G1 H1 g1 E1 .bl⟩⟩⟩
theorem xd_orV {es : List Expr} (h : XD c X a st (.bl false) st1) (h2 : XD c X (.BoolOp .Or (b :: es) pos) st1 d st2) : XD c X (.BoolOp .Or (a :: b :: es) pos) st d st2 :=
  ⟨pe_weak (pe_or h.pe h2.pe) fun σ H Q ⟨G, E, k⟩ => ⟨G, E, fun v G1 H1 g1 E1 r1 => by cases r1; exact ⟨false, rfl, by refine L2.iteF ?_; exact ⟨G1, E1, fun v G2 H2 g2 E2 r2 => k v G2 H2 (g1.trans g2) E2 r2⟩⟩⟩⟩
theorem xd_orW {es : List Expr} (h : XD c X a st (.bl true) st1) : XD c X (.BoolOp .Or (a :: b :: es) pos) st (.bl true) st1 :=
  ⟨pe_weak (pe_or h.pe pe_never) fun σ H Q ⟨G, E, k⟩ => ⟨G, E, fun v G1 H1 g1 E1 r1 => by cases r1; exact ⟨true, rfl, by refine L2.iteT ?_; exact k _ G1 H1 g1 E1 .bl⟩⟩⟩
theorem we_and {es : List Expr} {Q : Dt → Store → Prop} (h : WE c X a st fun d st1 => ∃ r, d = .bl r ∧ IfK r (WE c X (.BoolOp .And (b :: es) pos) st1 Q) (Q (.bl false) st1)) : WE c X (.BoolOp .And (a :: b :: es) pos) st Q := by
  obtain ⟨d, st1, h1, r, rfl, h2, h3⟩ := h
  cases r with
  | true => obtain ⟨u, st2, q1, q2⟩ := h2 rfl; exact ⟨u, st2, xd_andV h1 q1, q2⟩
  | false => exact ⟨_, _, xd_andW h1, h3 rfl⟩
theorem we_or {es : List Expr} {Q : Dt → Store → Prop} (h : WE c X a st fun d st1 => ∃ r, d = .bl r ∧ IfK r (Q (.bl true) st1) (WE c X (.BoolOp .Or (b :: es) pos) st1 Q)) : WE c X (.BoolOp .Or (a :: b :: es) pos) st Q := by
  obtain ⟨d, st1, h1, r, rfl, h2, h3⟩ := h
  cases r with
  | true => exact ⟨_, _, xd_orW h1, h2 rfl⟩
  | false => obtain ⟨u, st2, q1, q2⟩ := h3 rfl; exact ⟨u, st2, xd_orV h1 q1, q2⟩
theorem we_if {Q : Dt → Store → Prop} (h : WT c X t st fun r st1 => IfK r (WE c X a st1 Q) (WE c X b st1 Q)) : WE c X (.IfExp t a b pos) st Q := by
  obtain ⟨r, st1, h1, h2, h3⟩ := h
  cases r with
  | true => obtain ⟨d, st2, q1, q2⟩ := h2 rfl; exact ⟨d, st2, xd_if h1 (fun _ => q1) (fun z => nomatch z), q2⟩
  | false => obtain ⟨d, st2, q1, q2⟩ := h3 rfl; exact ⟨d, st2, xd_if h1 (fun z => nomatch z) (fun _ => q1), q2⟩
theorem wa_nil {Q : List Dt → Store → Prop} (h : Q [] st) : WA c X [] st Q := ⟨_, _, xa_nil, h⟩
theorem wa_cons {Q : List Dt → Store → Prop} (h : WE c X e st fun d st1 => WA c X es st1 fun ds st2 => Q (d :: ds) st2) (hs : starEach (e :: es) X.env = (false, eval e X.env) :: starEach es X.env := by rfl) : WA c X (e :: es) st Q := by
  obtain ⟨d, st1, h1, ds, st2, h2, h3⟩ := h
  exact ⟨_, _, xa_cons h1 h2 hs, h3⟩
theorem wa_star {p1 : Pos} {Q : List Dt → Store → Prop} (hK : X.K = c.K) (h : WE c X e st fun d st1 => ∃ ds, (d = .lst ds ∨ d = .tup ds) ∧ WA c X es st1 fun xs st2 => Q (ds ++ xs) st2) (hs : starEach (.Starred e p1 :: es) X.env = (true, eval e X.env) :: starEach es X.env := by rfl) : WA c X (.Starred e p1 :: es) st Q := by
  obtain ⟨d, st1, h1, ds, hd, xs, st2, h2, h3⟩ := h
  exact ⟨_, _, xa_star h1 hd h2 hK hs, h3⟩
theorem we_tup {x1} {Q : Dt → Store → Prop} (h : WA c X es st fun ds st1 => ds.length ≤ 100000 ∧ Q (.tup ds) st1) : WE c X (.Tuple es x1 pos) st Q := by
  obtain ⟨ds, st1, h1, h2, h3⟩ := h
  exact ⟨_, _, xd_tup h1 h2, h3⟩
theorem we_lst {Q : Dt → Store → Prop} (h : WA c X es st fun ds st1 => ds.length ≤ 100000 ∧ Q (.lst ds) st1) : WE c X (.List es pos) st Q := by
  obtain ⟨ds, st1, h1, h2, h3⟩ := h
  exact ⟨_, _, xd_lst h1 h2, h3⟩
theorem wl_lst {Q : List Dt → Store → Prop} (h : WA c X es st fun ds st1 => ds.length ≤ 100000 ∧ Q ds st1) : WL c X (.List es pos) st Q := by
  obtain ⟨ds, st1, h1, h2, h3⟩ := h
  exact ⟨_, _, xl_lst h1 h2, h3⟩
theorem we_xl {Q : Dt → Store → Prop} (h : WL c X e st fun xs st1 => Q (.lst xs) st1) : WE c X e st Q := by
  obtain ⟨xs, st1, h1, h2⟩ := h
  exact ⟨_, _, xd_xl h1, h2⟩
/-- items -/
def IxR (c : Ctx) (X : Cx) (d1 d2 : Dt) (Q : Dt → Prop) : Prop := ∃ d, (∀ a b st st1 st2 pos, PlainIx b → XD c X a st d1 st1 → XD c X b st1 d2 st2 → XD c X (.Subscript a b pos) st d st2) ∧ Q d
theorem we_ix {Q : Dt → Store → Prop} (h : WE c X a st fun d1 st1 => WE c X b st1 fun d2 st2 => Dv.IxR c X d1 d2 fun d => Q d st2) (hs : PlainIx b := by exact fun _ _ => rfl) : WE c X (.Subscript a b pos) st Q := by
  obtain ⟨d1, st1, h1, d2, st2, h2, d, h3, h4⟩ := h
  exact ⟨_, _, h3 _ _ _ _ _ _ hs h1 h2, h4⟩
theorem ix_t {m : Nat} {Q : Dt → Prop} (hK : X.K = c.K) (hn : i = m) (hd : ds[m]? = some d) (h : Q d) : Dv.IxR c X (.tup ds) (.int i) Q := ⟨_, fun _ _ _ _ _ _ hs h1 h2 => xd_ixT h1 h2 hn hd hK hs, h⟩
theorem ix_l {m : Nat} {Q : Dt → Prop} (hK : X.K = c.K) (hn : i = m) (hd : ds[m]? = some d) (h : Q d) : Dv.IxR c X (.lst ds) (.int i) Q := ⟨_, fun _ _ _ _ _ _ hs h1 h2 => xd_ixL h1 h2 hn hd hK hs, h⟩
theorem ix_x {m q : Nat} {Q : Dt → Prop} (hl : l.length ≤ 100000) (hn : i = m) (hd : l[m]? = some q) (h : Q (.str (sx [q]))) : Dv.IxR c X (.str (sx l)) (.int i) Q := ⟨_, fun _ _ _ _ _ _ hs h1 h2 => xd_ixX h1 h2 hl hn hd hs, h⟩
/-- x[e] of one's own list -/
theorem we_ixO (k : Nat) {s : Sv} {x : Str} {p1 : Pos} {Q : Dt → Store → Prop} (hk0 : st[k]? = some (some s)) (h : WE c X b st fun di st1 => ∃ (m : Nat) (d : Dt) (xs : List Dt), st1[k]? = some (some s) ∧ s.Has xs ∧ di = .int m ∧ xs[m]? = some d ∧ Q d st1) (hN : X.N[k]? = some x := by rfl)
    (hv : Vis X.env.scope x := by first | exact Or.inl rfl | exact Or.inr (Or.inl rfl) | exact Or.inr (Or.inr rfl)) (hdb : (x == ("__debug__" : Str)) = false := by decide) (hcd : (x == ("__classdict__" : Str)) = false := by decide) (hp : PlainIx b := by exact fun _ _ => rfl) : WE c X (.Subscript (.Name x p1) b pos) st Q := by
  obtain ⟨di, st1, h1, m, d, xs, h3, h4, rfl, h6, h7⟩ := h
  exact ⟨_, _, xd_ixO k h1 hk0 h3 h4 rfl h6 hN hv hdb hcd hp, h7⟩
/-- slices -/
def CutR (c : Ctx) (X : Cx) (lo : Bool) (d1 d2 : Dt) (Q : Dt → Prop) : Prop := ∃ d, (∀ a b st st1 st2 pos p2, XD c X a st d1 st1 → XD c X b st1 d2 st2 → XD c X (.Subscript a (if lo = true then .Slice (some b) none none p2 else .Slice none (some b) none p2) pos) st d st2) ∧ Q d
theorem we_cutHi {Q : Dt → Store → Prop} {p2 : Pos} (h : WE c X a st fun d1 st1 => WE c X b st1 fun d2 st2 => CutR c X false d1 d2 fun d => Q d st2) : WE c X (.Subscript a (.Slice none (some b) none p2) pos) st Q := by
  obtain ⟨d1, st1, h1, d2, st2, h2, d, h3, h4⟩ := h
  exact ⟨_, _, h3 _ _ _ _ _ _ _ h1 h2, h4⟩
theorem we_cutLo {Q : Dt → Store → Prop} {p2 : Pos} (h : WE c X a st fun d1 st1 => WE c X b st1 fun d2 st2 => CutR c X true d1 d2 fun d => Q d st2) : WE c X (.Subscript a (.Slice (some b) none none p2) pos) st Q := by
  obtain ⟨d1, st1, h1, d2, st2, h2, d, h3, h4⟩ := h
  exact ⟨_, _, h3 _ _ _ _ _ _ _ h1 h2, h4⟩
theorem cut_hiX {Q : Dt → Prop} (hj : 0 ≤ j) (hz : l.length ≤ 100000) (h : Q (.str (sx (l.take j.toNat)))) : CutR c X false (.str (sx l)) (.int j) Q := ⟨_, fun _ _ _ _ _ _ _ h1 h2 => xd_cutHiX h1 h2 hj hz, h⟩
theorem cut_loX {Q : Dt → Prop} (hj : 0 ≤ j) (hz : l.length ≤ 100000) (h : Q (.str (sx (l.drop j.toNat)))) : CutR c X true (.str (sx l)) (.int j) Q := ⟨_, fun _ _ _ _ _ _ _ h1 h2 => xd_cutLoX h1 h2 hj hz, h⟩
theorem cut_hiL {Q : Dt → Prop} (hK : X.K = c.K) (hj : 0 ≤ j) (h : Q (.lst (ds.take j.toNat))) : CutR c X false (.lst ds) (.int j) Q := ⟨_, fun _ _ _ _ _ _ _ h1 h2 => xd_cutHi h1 h2 hj hK, h⟩
theorem cut_loL {Q : Dt → Prop} (hK : X.K = c.K) (hj : 0 ≤ j) (h : Q (.lst (ds.drop j.toNat))) : CutR c X true (.lst ds) (.int j) Q := ⟨_, fun _ _ _ _ _ _ _ h1 h2 => xd_cutLo h1 h2 hj hK, h⟩
theorem cut_hiT {Q : Dt → Prop} (hK : X.K = c.K) (hj : 0 ≤ j) (hl : j < ds.length) (h : Q (.tup (ds.take j.toNat))) : CutR c X false (.tup ds) (.int j) Q := ⟨_, fun _ _ _ _ _ _ _ h1 h2 => xd_cutHiT h1 h2 hj hl hK, h⟩
theorem cut_loT {Q : Dt → Prop} (hK : X.K = c.K) (hj : 0 < j) (hl : 0 < ds.length) (h : Q (.tup (ds.drop j.toNat))) : CutR c X true (.tup ds) (.int j) Q := ⟨_, fun _ _ _ _ _ _ _ h1 h2 => xd_cutLoT h1 h2 hj hl hK, h⟩
end
end Dv
set_option autoImplicit false
set_option maxRecDepth 100000
set_option maxHeartbeats 4000000
namespace Dv
open PySem PySem.Spec PyProof.Rows L2
/-! ### a row of data by its places -/
def rg (n : Nat) (F : Nat → Dt) : List Dt := (List.range n).map F
theorem map_get {α : Type} {l : List α} {F : α → Dt} {i : Nat} {d : Dt} (h : (l.map F)[i]? = some d) : ∃ x, l[i]? = some x ∧ d = F x := by
  rw [List.getElem?_map] at h
  cases e : l[i]? with
  | none => rw [e] at h; cases h
  | some x => rw [e] at h; cases h; exact ⟨x, rfl, rfl⟩
theorem rg_len (n : Nat) (F : Nat → Dt) : (rg n F).length = n := by unfold rg; simp
theorem rg_ext {n : Nat} {F G : Nat → Dt} (h : ∀ j, j < n → F j = G j) : rg n F = rg n G := by
  unfold rg
  exact List.map_congr_left fun j hj => h j (List.mem_range.mp hj)
theorem rg_get {w i : Nat} {g : Nat → Dt} {d : Dt} (h : (rg w g)[i]? = some d) : i < w ∧ d = g i := by
  unfold rg at h
  rw [List.getElem?_map] at h
  by_cases q : i < w
  · rw [List.getElem?_range q] at h; cases h; exact ⟨q, rfl⟩
  · rw [List.getElem?_eq_none (by simpa using q)] at h; cases h
theorem rg_at {w i : Nat} {g : Nat → Dt} (h : i < w) : (rg w g)[i]? = some (g i) := by
  unfold rg
  rw [List.getElem?_map, List.getElem?_range h]; rfl
theorem rg_zip {n : Nat} {F G : Nat → Dt} : List.zipWith (fun x y => Dt.tup [x, y]) (rg n F) (rg n G) = rg n fun i => .tup [F i, G i] := by
  unfold rg
  rw [List.zipWith_map_left, List.zipWith_map_right, List.zipWith_self]
theorem rg_one (n : Nat) (d : Dt) : (List.replicate n [d]).flatten = rg n fun _ => d := by
  rw [List.flatten_replicate_singleton]
  unfold rg
  rw [List.map_const', List.length_range]
theorem rg_snoc (n : Nat) (F : Nat → Dt) : rg n F ++ [F n] = rg (n + 1) F := by
  unfold rg
  rw [List.range_succ, List.map_append]; rfl
theorem rg_succ (n : Nat) (F : Nat → Dt) : rg (n + 1) F = F 0 :: rg n fun i => F (i + 1) := by
  unfold rg
  rw [List.range_succ_eq_map, List.map_cons, List.map_map]; rfl
theorem rg_list (ds : List Dt) : ds = rg ds.length fun i => ds.getD i .non := by
  apply List.ext_getElem?
  intro i
  by_cases h : i < ds.length
  · rw [rg_at h, List.getElem?_eq_getElem h, List.getD_eq_getElem?_getD, List.getElem?_eq_getElem h]; rfl
  · rw [List.getElem?_eq_none (by omega), List.getElem?_eq_none (by rw [rg_len]; omega)]
theorem rg_map {α : Type} (l : List α) (F : α → Dt) (x0 : α) : l.map F = rg l.length fun i => F (l.getD i x0) := by
  apply List.ext_getElem?
  intro i
  rw [List.getElem?_map]
  by_cases h : i < l.length
  · rw [rg_at h, List.getElem?_eq_getElem h, List.getD_eq_getElem?_getD, List.getElem?_eq_getElem h]; rfl
  · rw [List.getElem?_eq_none (by omega), List.getElem?_eq_none (by rw [rg_len]; omega)]; rfl
theorem rg_app (m n : Nat) (F G : Nat → Dt) : rg m F ++ rg n G = rg (m + n) fun i => if i < m then F i else G (i - m) := by
  apply List.ext_getElem?
  intro i
  by_cases h : i < m
  · rw [List.getElem?_append_left (by rw [rg_len]; exact h), rg_at h, rg_at (by omega), if_pos h]
  · rw [List.getElem?_append_right (by rw [rg_len]; omega), rg_len]
    by_cases h2 : i < m + n
    · rw [rg_at (by omega), rg_at h2, if_neg h]
    · rw [List.getElem?_eq_none (by rw [rg_len]; omega), List.getElem?_eq_none (by rw [rg_len]; omega)]
theorem rg_take {n m : Nat} {F : Nat → Dt} (h : m ≤ n) : (rg n F).take m = rg m F := by
  unfold rg
  rw [← List.map_take, List.take_range, Nat.min_eq_left h]
section
variable {c : Ctx} {X : Cx} {st st1 st2 st3 : Store} {a b e e2 tg iter elt t : Expr} {es : List Expr} {d d1 d2 d3 d' : Dt} {ds xs ys zs fs gs vs : List Dt} {pos : Pos} {i j : Int} {body rest orelse A B : List Stmt} {s : Stmt} {o : Out} {n k m : Nat} {l l' : List Nat}

/-! ### calls by names -/
theorem we_df {x : Str} {k : Nat} {R : List Dt → Dt → Prop} {p : Pos} {Q : Dt → Store → Prop} (F : DF X.prog X.w X.K c.T X.mg X.base x k R) (hK : X.K = c.K) (hr : Room k X.A) (h : WA c X (e :: es) st fun ds st1 => ∃ d, R ds d ∧ Q d st1) (hg : Gl X x := by rfl) (hdb : (x == ("__debug__" : Str)) = false := by decide) (he : starEach (e :: es) X.env = (false, eval e X.env) :: starEach es X.env := by rfl) (hpl : (backTo pos (starEach es X.env)).any (·.1) = false := by rfl) :
    WE c X (.Call (.Name x p) (e :: es) [] pos) st Q := by
  obtain ⟨ds, st1, h1, d, h2, h3⟩ := h
  exact ⟨_, _, xd_df F hK hr h1 h2 hg hdb he hpl, h3⟩
theorem we_df0 {x : Str} {k : Nat} {R : List Dt → Dt → Prop} {p : Pos} {Q : Dt → Store → Prop} (F : DF X.prog X.w X.K c.T X.mg X.base x k R) (hK : X.K = c.K) (hr : Room k X.A) (hR : R [] d) (h : Q d st) (hg : Gl X x := by rfl) (hdb : (x == ("__debug__" : Str)) = false := by decide) :
    WE c X (.Call (.Name x p) [] [] pos) st Q := ⟨_, _, xd_df0 F hK hr hR hg hdb, h⟩
/-- a def that changes the list in slot i -/
theorem we_dm (i : Nat) {s : Sv} {x y : Str} {k : Nat} {R : List Dt → List Dt → Dt → List Dt → Prop} {p py : Pos} {Q : Dt → Store → Prop} (hi : st[i]? = some (some s)) (F : DM X.prog X.w X.K c.T X.mg X.base x k R) (hK : X.K = c.K) (hr : Room k X.A) (h : WA c X es st fun ds st1 => ∃ xs d ys, st1[i]? = some (some s) ∧ s.Has xs ∧ R xs ds d ys ∧ Q d (st1.set i (some (s.with ys)))) (hg : Gl X x := by rfl) (hdb : (x == ("__debug__" : Str)) = false := by decide)
    (hN : X.N[i]? = some y := by rfl) (hv : Vis X.env.scope y := by first | exact Or.inl rfl | exact Or.inr (Or.inl rfl) | exact Or.inr (Or.inr rfl)) (hd : (y == ("__debug__" : Str)) = false := by decide) (hcd : (y == ("__classdict__" : Str)) = false := by decide)
    (he : starEach (.Name y py :: es) X.env = (false, eval (.Name y py) X.env) :: starEach es X.env := by rfl) (hpl : (backTo pos (starEach es X.env)).any (·.1) = false := by rfl) :
    WE c X (.Call (.Name x p) (.Name y py :: es) [] pos) st Q := by
  obtain ⟨ds, st1, h1, xs, d, ys, h3, h4, h5, h6⟩ := h
  exact ⟨_, _, xd_dm i F hK hr h1 hi h3 h4 h5 hg hdb hN hv hd hcd he hpl, h6⟩
/-- a def that hands out a new list -/
theorem wl_dl {x : Str} {k : Nat} {R : List Dt → List Dt → Prop} {p : Pos} {Q : List Dt → Store → Prop} (F : DL X.prog X.w X.K c.T X.mg X.base x k R) (hK : X.K = c.K) (hr : Room k X.A) (h : WA c X (e :: es) st fun ds st1 => ∃ xs, R ds xs ∧ Q xs st1) (hg : Gl X x := by rfl) (hdb : (x == ("__debug__" : Str)) = false := by decide) (he : starEach (e :: es) X.env = (false, eval e X.env) :: starEach es X.env := by rfl) (hpl : (backTo pos (starEach es X.env)).any (·.1) = false := by rfl) :
    WL c X (.Call (.Name x p) (e :: es) [] pos) st Q := by
  obtain ⟨ds, st1, h1, xs, h2, h3⟩ := h
  exact ⟨_, _, xl_dl F hK hr h1 h2 hg hdb he hpl, h3⟩
theorem we_mf {m : Str} {apos : Pos} {pl : Sem Bool} {n k : Nat} {R : List Dt → Dt → Prop} {x : Str} {C : Addr} {ns : List Str} {Q : Dt → Store → Prop} (q : CF X.K c.T X.mg x n C ns) (F : MF X.prog X.w X.K c.T X.mg X.base C m k R) (hK : X.K = c.K) (hr : Room k X.A)
    (h : WE c X b st fun d0 st1 => ∃ fs, d0 = .obj n fs ∧ WA c X (e :: es) st1 fun ds st2 => ∃ d, R (.obj n fs :: ds) d ∧ Q d st2) (hno : ns.contains m = false := by decide +kernel)
    (hst : starEach (e :: es) X.env = (false, eval e X.env) :: starEach es X.env := by rfl) (hpl : (backTo pos (starEach es X.env)).any (·.1) = false := by rfl)
    (ht : eval (.Call (.Attribute b m apos) (e :: es) [] pos) X.env = (do
      let ov ← eval b X.env
      standAt apos.atName
      let (f, first) ← holding [ov] (getMethod ov m pl)
      callWith pos f first (backTo pos (starEach (e :: es) X.env)) (backToKw pos (keywordEach [] X.env))) := by rfl) :
    WE c X (.Call (.Attribute b m apos) (e :: es) [] pos) st Q := by
  obtain ⟨d0, st1, h1, fs, rfl, ds, st2, h2, d, h3, h4⟩ := h
  exact ⟨_, _, xd_mf h1 q F hK hr h2 h3 hno hst hpl ht, h4⟩
theorem we_mf0 {m : Str} {apos : Pos} {pl : Sem Bool} {n k : Nat} {R : List Dt → Dt → Prop} {x : Str} {C : Addr} {ns : List Str} {Q : Dt → Store → Prop} (q : CF X.K c.T X.mg x n C ns) (F : MF X.prog X.w X.K c.T X.mg X.base C m k R) (hK : X.K = c.K) (hr : Room k X.A)
    (h : WE c X b st fun d0 st1 => ∃ fs d, d0 = .obj n fs ∧ R [.obj n fs] d ∧ Q d st1) (hno : ns.contains m = false := by decide +kernel)
    (ht : eval (.Call (.Attribute b m apos) [] [] pos) X.env = (do
      let ov ← eval b X.env
      standAt apos.atName
      let (f, first) ← holding [ov] (getMethod ov m pl)
      callWith pos f first (backTo pos (starEach [] X.env)) (backToKw pos (keywordEach [] X.env))) := by rfl) :
    WE c X (.Call (.Attribute b m apos) [] [] pos) st Q := by
  obtain ⟨d0, st1, h1, fs, d, rfl, h3, h4⟩ := h
  exact ⟨_, _, xd_mf0 h1 q F hK hr h3 hno ht, h4⟩
theorem we_mk {n k : Nat} {Rf : List Dt → List Dt → Prop} {x : Str} {C : Addr} {ns : List Str} {p : Pos} {dds : List Dt} {Q : Dt → Store → Prop} (q : CF X.K c.T X.mg x n C ns) (F : IF' X.prog X.w X.K c.T X.mg X.base n C dds k Rf) (hK : X.K = c.K) (hr : Room (k + 1) X.A)
    (h : WA c X (e :: es) st fun ds st1 => ∃ fs, Rf (ds ++ dds) fs ∧ Q (.obj n fs) st1) (hg : Gl X x := by rfl) (hdb : (x == ("__debug__" : Str)) = false := by decide) (he : starEach (e :: es) X.env = (false, eval e X.env) :: starEach es X.env := by rfl) (hpl : (backTo pos (starEach es X.env)).any (·.1) = false := by rfl) :
    WE c X (.Call (.Name x p) (e :: es) [] pos) st Q := by
  obtain ⟨ds, st1, h1, fs, h2, h3⟩ := h
  exact ⟨_, _, xd_mk q F hK hr h1 h2 hg hdb he hpl, h3⟩
theorem we_ff (i : Nat) {n : Nat} {x : Str} {C : Addr} {ns : List Str} {f : Str} {Q : Dt → Store → Prop} (q : CF X.K c.T X.mg x n C ns) (hK : X.K = c.K) (hna : NoAttr X.K C f) (h : WE c X e st fun d0 st1 => ∃ fs d, d0 = .obj n fs ∧ fs[i]? = some d ∧ Q d st1) (hi : ns.findIdx? (· == f) = some i := by decide +kernel)
    (hb : attributeBase e f X.env (eval e X.env) = eval e X.env := by rfl) : WE c X (.Attribute e f pos) st Q := by
  obtain ⟨d0, st1, h1, fs, d, rfl, h2, h3⟩ := h
  exact ⟨_, _, xd_ff i h1 q hK hna h2 hi hb, h3⟩
theorem we_lenF {n k : Nat} {R : List Dt → Dt → Prop} {x : Str} {C : Addr} {ns : List Str} {p : Pos} {Q : Dt → Store → Prop} (q : CF X.K c.T X.mg x n C ns) (F : MF X.prog X.w X.K c.T X.mg X.base C "__len__" k R) (hK : X.K = c.K) (hr : Room (k + 1) X.A) (hm : X.mg "len" = none)
    (h : WE c X e st fun d0 st1 => ∃ fs m, d0 = .obj n fs ∧ R [.obj n fs] (.int m) ∧ 0 ≤ m ∧ m < 2 ^ 63 ∧ Q (.int m) st1) (hg : Gl X "len" := by rfl) (he : starEach (e :: []) X.env = (false, eval e X.env) :: starEach [] X.env := by rfl) (hpl : (backTo pos (starEach [] X.env)).any (·.1) = false := by rfl) :
    WE c X (.Call (.Name "len" p) [e] [] pos) st Q := by
  obtain ⟨d0, st1, h1, fs, m, rfl, h2, h3, h4, h5⟩ := h
  exact ⟨_, _, xd_lenF h1 q F hK hr h2 h3 h4 hm hg he hpl, h5⟩
theorem cr_eqF {n k : Nat} {R : List Dt → Dt → Prop} {x : Str} {C : Addr} {ns : List Str} {r : Bool} {Q : Bool → Prop} (q : CF X.K c.T X.mg x n C ns) (F : MF X.prog X.w X.K c.T X.mg X.base C "__eq__" k R) (hK : X.K = c.K) (hr : Room k X.A)
    (hR : R [.obj n fs, .obj n gs] (.bl r)) (h : Q r) : CmpR c X .Eq (.obj n fs) (.obj n gs) Q := ⟨r, fun _ _ _ _ _ _ _ h1 h2 => ⟨xd_eqF h1 h2 q F hK hr hR, xt_eqF h1 h2 q F hK hr hR⟩, h⟩
theorem cr_neF {n k : Nat} {R : List Dt → Dt → Prop} {x : Str} {C : Addr} {ns : List Str} {r : Bool} {Q : Bool → Prop} (q : CF X.K c.T X.mg x n C ns) (F : MF X.prog X.w X.K c.T X.mg X.base C "__eq__" k R) (hK : X.K = c.K) (hr : Room (k + 1) X.A)
    (hne : PySem.W.findIn X.K (.ref C) "__ne__" = some (some (.builtin "object.__ne__"))) (hob : PySem.W.mroIn X.K C (.type "object") = some true)
    (hR : R [.obj n fs, .obj n gs] (.bl r)) (h : Q (!r)) : CmpR c X .NotEq (.obj n fs) (.obj n gs) Q := ⟨!r, fun _ _ _ _ _ _ _ h1 h2 => ⟨xd_neF h1 h2 q F hK hr hne hob hR, xt_neF h1 h2 q F hK hr hne hob hR⟩, h⟩

/-! ### built-ins -/
def LenR (d : Dt) (Q : Dt → Prop) : Prop := (∃ ds, (d = .lst ds ∨ d = .ro ds ∨ d = .tup ds) ∧ Q (.int (ds.length : Int))) ∨ ∃ l, d = .str (sx l) ∧ l.length ≤ 100000 ∧ Q (.int (l.length : Int))
theorem len_l {Q : Dt → Prop} (h : Q (.int (ds.length : Int))) : LenR (.lst ds) Q := .inl ⟨ds, .inl rfl, h⟩
theorem len_r {Q : Dt → Prop} (h : Q (.int (ds.length : Int))) : LenR (.ro ds) Q := .inl ⟨ds, .inr (.inl rfl), h⟩
theorem len_t {Q : Dt → Prop} (h : Q (.int (ds.length : Int))) : LenR (.tup ds) Q := .inl ⟨ds, .inr (.inr rfl), h⟩
theorem len_x {Q : Dt → Prop} (hz : l.length ≤ 100000) (h : Q (.int (l.length : Int))) : LenR (.str (sx l)) Q := .inr ⟨l, rfl, hz, h⟩
theorem we_len {p : Pos} {Q : Dt → Store → Prop} (hK : X.K = c.K) (hm : X.mg "len" = none) (h : WE c X e st fun d st1 => LenR d fun r => Q r st1) (hg : Gl X "len" := by rfl) (he : starEach (e :: []) X.env = (false, eval e X.env) :: starEach [] X.env := by rfl) (hpl : (backTo pos (starEach [] X.env)).any (·.1) = false := by rfl) :
    WE c X (.Call (.Name "len" p) [e] [] pos) st Q := by
  obtain ⟨d, st1, h1, ⟨ds, h2, h3⟩ | ⟨l, rfl, h2, h3⟩⟩ := h
  · exact ⟨_, _, xd_len h1 h2 hK hm hg he hpl, h3⟩
  · exact ⟨_, _, xd_lenX h1 h2 hm hg he hpl, h3⟩
theorem we_intc {p : Pos} {Q : Dt → Store → Prop} (hm : X.mg "int" = none) (h : WE c X e st fun d st1 => ∃ i, d = .int i ∧ Q (.int i) st1) (hg : Gl X "int" := by rfl) (he : starEach (e :: []) X.env = (false, eval e X.env) :: starEach [] X.env := by rfl) (hpl : (backTo pos (starEach [] X.env)).any (·.1) = false := by rfl) :
    WE c X (.Call (.Name "int" p) [e] [] pos) st Q := by
  obtain ⟨d, st1, h1, i, rfl, h2⟩ := h
  exact ⟨_, _, xd_intI h1 hm hg he hpl, h2⟩
theorem we_abs {p : Pos} {Q : Dt → Store → Prop} (hm : X.mg "abs" = none) (h : WE c X e st fun d st1 => ∃ i, d = .int i ∧ Q (.int (i.natAbs : Int)) st1) (hg : Gl X "abs" := by rfl) (he : starEach (e :: []) X.env = (false, eval e X.env) :: starEach [] X.env := by rfl) (hpl : (backTo pos (starEach [] X.env)).any (·.1) = false := by rfl) :
    WE c X (.Call (.Name "abs" p) [e] [] pos) st Q := by
  obtain ⟨d, st1, h1, i, rfl, h2⟩ := h
  exact ⟨_, _, xd_abs h1 hm hg he hpl, h2⟩
theorem we_tuple {p : Pos} {Q : Dt → Store → Prop} (hK : X.K = c.K) (hm : X.mg "tuple" = none) (h : WE c X e st fun d st1 => ∃ ds, (d = .lst ds ∨ d = .tup ds) ∧ Q (.tup ds) st1) (hg : Gl X "tuple" := by rfl) (he : starEach (e :: []) X.env = (false, eval e X.env) :: starEach [] X.env := by rfl) (hpl : (backTo pos (starEach [] X.env)).any (·.1) = false := by rfl) :
    WE c X (.Call (.Name "tuple" p) [e] [] pos) st Q := by
  obtain ⟨d, st1, h1, ds, h2, h3⟩ := h
  exact ⟨_, _, xd_tuple h1 h2 hK hm hg he hpl, h3⟩
theorem we_tupleO (k : Nat) {s : Sv} {x : Str} {p p1 : Pos} {Q : Dt → Store → Prop} (hk : st[k]? = some (some s)) (hm : X.mg "tuple" = none) (hs : s.Has xs) (h : Q (.tup xs) st) (hg : Gl X "tuple" := by rfl) (hN : X.N[k]? = some x := by rfl)
    (hv : Vis X.env.scope x := by first | exact Or.inl rfl | exact Or.inr (Or.inl rfl) | exact Or.inr (Or.inr rfl)) (hdb : (x == ("__debug__" : Str)) = false := by decide) (hcd : (x == ("__classdict__" : Str)) = false := by decide)
    (he : starEach (.Name x p1 :: []) X.env = (false, eval (.Name x p1) X.env) :: starEach [] X.env := by rfl) (hpl : (backTo pos (starEach [] X.env)).any (·.1) = false := by rfl) :
    WE c X (.Call (.Name "tuple" p) [.Name x p1] [] pos) st Q := ⟨_, _, xd_tupleO k hk hs hm hg hN hv hdb hcd he hpl, h⟩
theorem we_list {p : Pos} {Q : Dt → Store → Prop} (hK : X.K = c.K) (hm : X.mg "list" = none) (h : WE c X e st fun d st1 => ∃ ds, (d = .lst ds ∨ d = .ro ds ∨ d = .tup ds) ∧ Q (.lst ds) st1) (hg : Gl X "list" := by rfl) (he : starEach (e :: []) X.env = (false, eval e X.env) :: starEach [] X.env := by rfl) (hpl : (backTo pos (starEach [] X.env)).any (·.1) = false := by rfl) :
    WE c X (.Call (.Name "list" p) [e] [] pos) st Q := by
  obtain ⟨d, st1, h1, ds, h2, h3⟩ := h
  exact ⟨_, _, xd_list h1 h2 hK hm hg he hpl, h3⟩
theorem we_gcd {ea eb : Expr} {p : Pos} {Q : Dt → Store → Prop} (hm : X.mg "gcd" = some (.builtin "math.gcd")) (h : WA c X [ea, eb] st fun ds st1 => ∃ i j : Int, ds = [.int i, .int j] ∧ Q (.int ((Nat.gcd i.natAbs j.natAbs : Nat) : Int)) st1) (hg : Gl X "gcd" := by rfl) (he : starEach (ea :: [eb]) X.env = (false, eval ea X.env) :: starEach [eb] X.env := by rfl) (hpl : (backTo pos (starEach [eb] X.env)).any (·.1) = false := by rfl) :
    WE c X (.Call (.Name "gcd" p) [ea, eb] [] pos) st Q := by
  obtain ⟨ds, st1, h1, i, j, rfl, h2⟩ := h
  exact ⟨_, _, xd_gcd h1 hm hg he hpl, h2⟩
theorem we_isTy {y : Str} {id : String} {p p2 : Pos} {Q : Dt → Store → Prop} (hK : X.K = c.K) (hm : X.mg "isinstance" = none) (hy : X.mg y = none) (h : WE c X e st fun d st1 => ∃ (tn : String) (r : Bool), HasTy c d (.type tn) ∧ PySem.W.kitOne X.K (.type tn) (.type id) = some r ∧ Q (.bl r) st1) (hb : bootBuiltins y = some (.type id) := by first | rfl | decide +kernel) (hgy : Gl X y := by rfl) (hny : y ≠ "__name__" := by decide) (hdb : (y == ("__debug__" : Str)) = false := by decide) (hg : Gl X "isinstance" := by rfl)
    (he : starEach (e :: [.Name y p2]) X.env = (false, eval e X.env) :: starEach [.Name y p2] X.env := by rfl) (he2 : starEach (.Name y p2 :: []) X.env = (false, eval (.Name y p2) X.env) :: starEach [] X.env := by rfl) (hpl : (backTo pos (starEach [.Name y p2] X.env)).any (·.1) = false := by rfl) :
    WE c X (.Call (.Name "isinstance" p) [e, .Name y p2] [] pos) st Q := by
  obtain ⟨d, st1, h1, tn, r, h2, h3, h4⟩ := h
  exact ⟨_, _, xd_isTy h1 h2 hK hm hy hb h3 hgy hny hdb hg he he2 hpl, h4⟩
theorem we_isOwn {y : Str} {n : Nat} {C : Addr} {ns : List Str} {p p2 : Pos} {Q : Dt → Store → Prop} (q : CF X.K c.T X.mg y n C ns) (hX : ClsX X.K C) (hK : X.K = c.K) (hm : X.mg "isinstance" = none) (h : WE c X e st fun d st1 => ∃ fs, d = .obj n fs ∧ Q (.bl true) st1) (hgy : Gl X y := by rfl) (hdb : (y == ("__debug__" : Str)) = false := by decide) (hg : Gl X "isinstance" := by rfl)
    (he : starEach (e :: [.Name y p2]) X.env = (false, eval e X.env) :: starEach [.Name y p2] X.env := by rfl) (he2 : starEach (.Name y p2 :: []) X.env = (false, eval (.Name y p2) X.env) :: starEach [] X.env := by rfl) (hpl : (backTo pos (starEach [.Name y p2] X.env)).any (·.1) = false := by rfl) :
    WE c X (.Call (.Name "isinstance" p) [e, .Name y p2] [] pos) st Q := by
  obtain ⟨d, st1, h1, fs, rfl, h2⟩ := h
  exact ⟨_, _, xd_isOwn h1 q hX hK hm hgy hdb hg he he2 hpl, h2⟩
theorem we_all {bs : List Bool} {p : Pos} {Q : Dt → Store → Prop} (hc : X.calm = true) (hm : X.mg "all" = none) (h : WE c X e st fun d st1 => d = .lst (bs.map .bl) ∧ Q (.bl (bs.all id)) st1) (hg : Gl X "all" := by rfl) (he : starEach (e :: []) X.env = (false, eval e X.env) :: starEach [] X.env := by rfl) (hpl : (backTo pos (starEach [] X.env)).any (·.1) = false := by rfl) :
    WE c X (.Call (.Name "all" p) [e] [] pos) st Q := by
  obtain ⟨d, st1, h1, rfl, h2⟩ := h
  exact ⟨_, _, xd_all h1 rfl hc hm hg he hpl, h2⟩

/-! ### what is walked -/
def ItR (c : Ctx) (d : Dt) (Q : List Dt → Prop) : Prop := ∃ ds, (d = .lst ds ∨ d = .ro ds ∨ d = .tup ds ∨ ∃ l, d = .str (sx l) ∧ ds = l.map fun q => .str (sx [q])) ∧ Q ds
theorem it_l {Q : List Dt → Prop} (h : Q ds) : ItR c (.lst ds) Q := ⟨ds, .inl rfl, h⟩
theorem it_r {Q : List Dt → Prop} (h : Q ds) : ItR c (.ro ds) Q := ⟨ds, .inr (.inl rfl), h⟩
theorem it_t {Q : List Dt → Prop} (h : Q ds) : ItR c (.tup ds) Q := ⟨ds, .inr (.inr (.inl rfl)), h⟩
theorem it_x {Q : List Dt → Prop} (h : Q (l.map fun q => .str (sx [q]))) : ItR c (.str (sx l)) Q := ⟨_, .inr (.inr (.inr ⟨l, rfl, rfl⟩)), h⟩
theorem wi_val {Q : List Dt → Store → Prop} (hK : X.K = c.K) (h : WE c X e st fun d st1 => ItR c d fun ds => Q ds st1) : WI c X tg e st Q := by
  obtain ⟨d, st1, h1, ds, h2, h3⟩ := h
  rcases h2 with rfl | rfl | rfl | ⟨l, rfl, rfl⟩
  · exact ⟨_, _, xi_list hK h1, h3⟩
  · exact ⟨_, _, xi_ro hK h1, h3⟩
  · exact ⟨_, _, xi_tup hK h1, h3⟩
  · exact ⟨_, _, xi_strX h1, h3⟩
theorem wi_range1 {p : Pos} {Q : List Dt → Store → Prop} (hm : X.mg "range" = none) (h : WE c X a st fun d st1 => ∃ n : Nat, d = .int n ∧ n < 2 ^ 60 ∧ Q (rg n fun i => .int (i : Nat)) st1) (hg : Gl X "range" := by rfl) (hs : starEach [a] X.env = [(false, eval a X.env)] := by rfl) :
    WI c X tg (.Call (.Name "range" p) [a] [] pos) st Q := by
  obtain ⟨d, st1, h1, n, rfl, h2, h3⟩ := h
  exact ⟨_, _, xi_range1 h1 (by omega) (by omega) hm hg hs, h3⟩
theorem wi_range2 {p : Pos} {Q : List Dt → Store → Prop} (hm : X.mg "range" = none) (h : WA c X [a, b] st fun ds st1 => ∃ lo n : Int, ds = [.int lo, .int n] ∧ -(2 ^ 60) ≤ lo ∧ lo < 2 ^ 60 ∧ -(2 ^ 60) ≤ n ∧ n < 2 ^ 60 ∧ Q (rg (n - lo).toNat fun i => .int (lo + (i : Nat))) st1) (hg : Gl X "range" := by rfl) (hs : starEach [a, b] X.env = [(false, eval a X.env), (false, eval b X.env)] := by rfl) (hs2 : starEach [b] X.env = [(false, eval b X.env)] := by rfl) :
    WI c X tg (.Call (.Name "range" p) [a, b] [] pos) st Q := by
  obtain ⟨ds, st1, h1, lo, n, rfl, h2, h3, h4, h5, h6⟩ := h
  exact ⟨_, _, xi_range2 h1 (by omega) hm hg hs hs2, h6⟩
inductive SqL' : Dt → List Dt → Prop where
  | l {ws : List Dt} : SqL' (.lst ws) ws
  | r {ws : List Dt} : SqL' (.ro ws) ws
  | t {ws : List Dt} : SqL' (.tup ws) ws
theorem wi_zip {p tpos : Pos} {elts : List Expr} {kk : Nat} {Q : List Dt → Store → Prop} (hK : X.K = c.K) (hm : X.mg "zip" = none) (h : WA c X [a, b] st fun ds st1 => ∃ d1 d2 xs ys, ds = [d1, d2] ∧ SqL' d1 xs ∧ SqL' d2 ys ∧ Q (List.zipWith (fun x y => .tup [x, y]) xs ys) st1) (hg : Gl X "zip" := by rfl)
    (hs : starEach [a, b] X.env = (false, eval a X.env) :: starEach [b] X.env := by rfl) (hpl : (backTo pos (starEach [b] X.env)).any (·.1) = false := by rfl) :
    WI c X (.Tuple elts kk tpos) (.Call (.Name "zip" p) [a, b] [] pos) st Q := by
  obtain ⟨ds, st1, h1, d1, d2, xs, ys, rfl, h2, h3, h4⟩ := h
  cases h2 with
  | l => cases h3 with
    | l => exact ⟨_, _, xi_zip (κ1 := .l) (κ2 := .l) h1 .l .l hK hm hg hs hpl, h4⟩
    | r => exact ⟨_, _, xi_zip (κ1 := .l) (κ2 := .l) h1 .l .r hK hm hg hs hpl, h4⟩
    | t => exact ⟨_, _, xi_zip (κ1 := .l) (κ2 := .t) h1 .l .t hK hm hg hs hpl, h4⟩
  | r => cases h3 with
    | l => exact ⟨_, _, xi_zip (κ1 := .l) (κ2 := .l) h1 .r .l hK hm hg hs hpl, h4⟩
    | r => exact ⟨_, _, xi_zip (κ1 := .l) (κ2 := .l) h1 .r .r hK hm hg hs hpl, h4⟩
    | t => exact ⟨_, _, xi_zip (κ1 := .l) (κ2 := .t) h1 .r .t hK hm hg hs hpl, h4⟩
  | t => cases h3 with
    | l => exact ⟨_, _, xi_zip (κ1 := .t) (κ2 := .l) h1 .t .l hK hm hg hs hpl, h4⟩
    | r => exact ⟨_, _, xi_zip (κ1 := .t) (κ2 := .l) h1 .t .r hK hm hg hs hpl, h4⟩
    | t => exact ⟨_, _, xi_zip (κ1 := .t) (κ2 := .t) h1 .t .t hK hm hg hs hpl, h4⟩
theorem wi_enum {p tpos : Pos} {elts : List Expr} {kk : Nat} {Q : List Dt → Store → Prop} (hK : X.K = c.K) (hm : X.mg "enumerate" = none) (h : WE c X e st fun d st1 => ∃ ds, d = .lst ds ∧ Q (enumD ds) st1) (hg : Gl X "enumerate" := by rfl) (hs : starEach [e] X.env = [(false, eval e X.env)] := by rfl) (he : starEach (e :: []) X.env = (false, eval e X.env) :: starEach [] X.env := by rfl) :
    WI c X (.Tuple elts kk tpos) (.Call (.Name "enumerate" p) [e] [] pos) st Q := by
  obtain ⟨d, st1, h1, ds, rfl, h2⟩ := h
  exact ⟨_, _, xi_enum h1 hK hm hg hs he, h2⟩
theorem enumD_rg (n : Nat) (F : Nat → Dt) : enumD (rg n F) = rg n fun i => .tup [.int (i : Nat), F i] := by
  apply List.ext_getElem?
  intro i
  unfold enumD
  rw [List.getElem?_mapIdx]
  by_cases h : i < n
  · rw [rg_at h, rg_at h]; rfl
  · rw [List.getElem?_eq_none (by rw [rg_len]; omega), List.getElem?_eq_none (by rw [rg_len]; omega)]; rfl

/-! ### comprehensions -/
/-- what a turn of a comprehension gives, the store as it was -/
abbrev Gv (v : Dt) (s : Store) : Dt → Store → Prop := fun d s' => d = v ∧ s' = s
theorem wl_map1 (jx : Nat) (vs : List Dt) {x : Str} {p : Pos} {scope : Scope} {Q : List Dt → Store → Prop} (hN : X.N.Nodup)
    (h : WI c X (.Name x p) iter st fun ds st1 => vs.length = ds.length ∧ ds.length ≤ 100000 ∧ st1[jx]? = some none ∧ (∀ (i : Nat) d v, ds[i]? = some d → vs[i]? = some v → ∀ sh H C cl fp, WE c (BlkC X sh H scope C cl fp) elt (st1.set jx (some (.fr d))) (Gv v (st1.set jx (some (.fr d))))) ∧ Q vs st1)
    (hx : X.N[jx]? = some x := by rfl) (hloc : Loc (relabel scope X.env) x := by first | exact Or.inl rfl | exact Or.inr rfl) (hlocf : (scope.names.lookup x == some .cell) = true ∨ (relabel scope X.env).names.lookup x = some .local := by first | exact Or.inl rfl | exact Or.inr rfl) (ok : BlkOk X.N X.env.scope scope [(x, jx)] := by exact blkOk_by (by first | rfl | decide +kernel))
    (hc : X.calm = true := by rfl) (hs : ∀ x, foldedSetIterable iter X.env x = pure x := by intro _; rfl) :
    WL c X (.ListComp elt [⟨.Name x p, iter, [], 0⟩] scope pos) st Q := by
  obtain ⟨ds, st1, h1, h2, h3, h4, h5, h6⟩ := h
  refine ⟨_, _, xl_map1 jx vs hN h1 h2 h3 h4 (fun i d v q1 q2 sh H C cl fp => ?_) hx hloc hlocf ok hc hs, h6⟩
  obtain ⟨d', s', z1, rfl, rfl⟩ := h5 i d v q1 q2 sh H C cl fp
  exact z1
theorem wl_map2 (j1 j2 : Nat) (vs : List Dt) {x y : Str} {p p1 p2 : Pos} {kk : Nat} {scope : Scope} {Q : List Dt → Store → Prop} (hN : X.N.Nodup) (hK : X.K = c.K) (hcm : X.calm = true)
    (h : WI c X (.Tuple [.Name x p1, .Name y p2] kk p) iter st fun ds st1 => vs.length = ds.length ∧ ds.length ≤ 100000 ∧ st1[j1]? = some none ∧ st1[j2]? = some none ∧
      (∀ (i : Nat) d v, ds[i]? = some d → vs[i]? = some v → ∃ u w, d = .tup [u, w] ∧ ∀ sh H C cl fp, WE c (BlkC X sh H scope C cl fp) elt ((st1.set j1 (some (.fr u))).set j2 (some (.fr w))) (Gv v ((st1.set j1 (some (.fr u))).set j2 (some (.fr w))))) ∧ Q vs st1) (hj : j1 ≠ j2 := by decide)
    (hx : X.N[j1]? = some x := by rfl) (hy : X.N[j2]? = some y := by rfl) (hlx : Loc (relabel scope X.env) x := by first | exact Or.inl rfl | exact Or.inr rfl) (hlxf : (scope.names.lookup x == some .cell) = true ∨ (relabel scope X.env).names.lookup x = some .local := by first | exact Or.inl rfl | exact Or.inr rfl) (hly : Loc (relabel scope X.env) y := by first | exact Or.inl rfl | exact Or.inr rfl) (hlyf : (scope.names.lookup y == some .cell) = true ∨ (relabel scope X.env).names.lookup y = some .local := by first | exact Or.inl rfl | exact Or.inr rfl) (ok : BlkOk X.N X.env.scope scope [(x, j1), (y, j2)] := by exact blkOk_by (by first | rfl | decide +kernel))
    (hs : ∀ x, foldedSetIterable iter X.env x = pure x := by intro _; rfl) (hst : ∀ env, (assignEach [.Name x p1, .Name y p2] env).map (·.2) = [assign (.Name x p1) env, assign (.Name y p2) env] := by intro _; rfl) :
    WL c X (.ListComp elt [⟨.Tuple [.Name x p1, .Name y p2] kk p, iter, [], 0⟩] scope pos) st Q := by
  obtain ⟨ds, st1, h1, h2, h3, h4, h5, h6, h7⟩ := h
  refine ⟨_, _, xl_map2 j1 j2 vs hN hK hcm h1 h2 h3 hj h4 h5 (fun i d v q1 q2 => ?_) hx hy hlx hlxf hly hlyf ok hs hst, h7⟩
  obtain ⟨u, w, rfl, z⟩ := h6 i d v q1 q2
  refine ⟨u, w, rfl, fun sh H C cl fp => ?_⟩
  obtain ⟨d', s', z1, rfl, rfl⟩ := z sh H C cl fp
  exact z1
/-- name = [elt for x in iter] -/
theorem ws_map1 (k : Nat) (own? : Bool) (jx : Nat) (vs : List Dt) {x y : Str} {py spos : Pos} {p : Pos} {scope : Scope} {Q : Out → Prop} (hN : X.N.Nodup)
    (h : WI c X (.Name x p) iter st fun ds st1 => vs.length = ds.length ∧ ds.length ≤ 100000 ∧ st1[jx]? = some none ∧ (∀ (i : Nat) d v, ds[i]? = some d → vs[i]? = some v → ∀ sh H C cl fp, WE c (BlkC X sh H scope C cl fp) elt (st1.set jx (some (.fr d))) (Gv v (st1.set jx (some (.fr d))))) ∧ WS c X rest (st1.set k (some (if own? = true then .ow vs else .fr (.lst vs)))) Q)
    (hx : X.N[jx]? = some x := by rfl) (hloc : Loc (relabel scope X.env) x := by first | exact Or.inl rfl | exact Or.inr rfl) (hlocf : (scope.names.lookup x == some .cell) = true ∨ (relabel scope X.env).names.lookup x = some .local := by first | exact Or.inl rfl | exact Or.inr rfl) (ok : BlkOk X.N X.env.scope scope [(x, jx)] := by exact blkOk_by (by first | rfl | decide +kernel))
    (hy0 : X.N[k]? = some y := by rfl) (hyl : X.env.scope.names.lookup y = some .local := by rfl) (hsw : swapsWith (.ListComp elt [⟨.Name x p, iter, [], 0⟩] scope pos) (some (.Name y py)) spos.line X.env = pure true := by exact sw_true rfl rfl rfl (by first | rfl | decide +kernel))
    (hc : X.calm = true := by rfl) (hs : ∀ x, foldedSetIterable iter X.env x = pure x := by intro _; rfl) :
    WS c X (.Assign [.Name y py] (.ListComp elt [⟨.Name x p, iter, [], 0⟩] scope pos) spos :: rest) st Q := by
  obtain ⟨ds, st1, h1, h2, h3, h4, h5, o, h6, h7⟩ := h
  refine ⟨o, xs_cons (xp_map1 k own? jx vs hN h1 h2 h3 h4 (fun i d v q1 q2 sh H C cl fp => ?_) hx hloc hlocf ok hy0 hyl hsw hc hs) h6, h7⟩
  obtain ⟨d', s', z1, rfl, rfl⟩ := h5 i d v q1 q2 sh H C cl fp
  exact z1
theorem ws_map2 (k : Nat) (own? : Bool) (j1 j2 : Nat) (vs : List Dt) {x y z : Str} {py spos : Pos} {p p1 p2 : Pos} {kk : Nat} {scope : Scope} {Q : Out → Prop} (hN : X.N.Nodup) (hK : X.K = c.K) (hcm : X.calm = true)
    (h : WI c X (.Tuple [.Name x p1, .Name y p2] kk p) iter st fun ds st1 => vs.length = ds.length ∧ ds.length ≤ 100000 ∧ st1[j1]? = some none ∧ st1[j2]? = some none ∧
      (∀ (i : Nat) d v, ds[i]? = some d → vs[i]? = some v → ∃ u w, d = .tup [u, w] ∧ ∀ sh H C cl fp, WE c (BlkC X sh H scope C cl fp) elt ((st1.set j1 (some (.fr u))).set j2 (some (.fr w))) (Gv v ((st1.set j1 (some (.fr u))).set j2 (some (.fr w))))) ∧ WS c X rest (st1.set k (some (if own? = true then .ow vs else .fr (.lst vs)))) Q) (hj : j1 ≠ j2 := by decide)
    (hx : X.N[j1]? = some x := by rfl) (hy : X.N[j2]? = some y := by rfl) (hlx : Loc (relabel scope X.env) x := by first | exact Or.inl rfl | exact Or.inr rfl) (hlxf : (scope.names.lookup x == some .cell) = true ∨ (relabel scope X.env).names.lookup x = some .local := by first | exact Or.inl rfl | exact Or.inr rfl) (hly : Loc (relabel scope X.env) y := by first | exact Or.inl rfl | exact Or.inr rfl) (hlyf : (scope.names.lookup y == some .cell) = true ∨ (relabel scope X.env).names.lookup y = some .local := by first | exact Or.inl rfl | exact Or.inr rfl) (ok : BlkOk X.N X.env.scope scope [(x, j1), (y, j2)] := by exact blkOk_by (by first | rfl | decide +kernel))
    (hy0 : X.N[k]? = some z := by rfl) (hyl : X.env.scope.names.lookup z = some .local := by rfl) (hsw : swapsWith (.ListComp elt [⟨.Tuple [.Name x p1, .Name y p2] kk p, iter, [], 0⟩] scope pos) (some (.Name z py)) spos.line X.env = pure true := by exact sw_true rfl rfl rfl (by first | rfl | decide +kernel))
    (hs : ∀ x, foldedSetIterable iter X.env x = pure x := by intro _; rfl) (hst : ∀ env, (assignEach [.Name x p1, .Name y p2] env).map (·.2) = [assign (.Name x p1) env, assign (.Name y p2) env] := by intro _; rfl) :
    WS c X (.Assign [.Name z py] (.ListComp elt [⟨.Tuple [.Name x p1, .Name y p2] kk p, iter, [], 0⟩] scope pos) spos :: rest) st Q := by
  obtain ⟨ds, st1, h1, h2, h3, h4, h5, h6, o, h7, h8⟩ := h
  refine ⟨o, xs_cons (xp_map2 k own? j1 j2 vs hN hK hcm h1 h2 h3 hj h4 h5 (fun i d v q1 q2 => ?_) hx hy hlx hlxf hly hlyf ok hy0 hyl hsw hs hst) h7, h8⟩
  obtain ⟨u, w, rfl, z⟩ := h6 i d v q1 q2
  refine ⟨u, w, rfl, fun sh H C cl fp => ?_⟩
  obtain ⟨d', s', z1, rfl, rfl⟩ := z sh H C cl fp
  exact z1
end
end Dv
set_option autoImplicit false
set_option maxRecDepth 100000
set_option maxHeartbeats 4000000
namespace Dv
open PySem PySem.Spec PyProof.Rows L2
/-! ### defs from their bodies, read forward -/
def RtD (r : Dt) : Out → Prop
  | .rt d _ => d = r
  | .nx _ => .non = r
  | _ => False
def RtM (r : Dt) (ys : List Dt) : Out → Prop
  | .rt d st => d = r ∧ st[0]? = some (some (.pr 0 ys))
  | _ => False
def NxI (n : Nat) (fs : List Dt) : Out → Prop
  | .nx st => st[0]? = some (some (.bo n fs))
  | _ => False
section
variable {P : Program} {w : World} {K : PySem.W.Frag} {T : Ct} {mg : Str → Option Value} {base : Heap} {x qual : Str} {sd : Stmt} {f : Addr} {fd : FuncData} {N ps : List Str} {k n : Nat}
theorem okDw {R : List Dt → Dt → Prop} (F : Fun K x qual sd f fd) (S : FnScope N ps (defScope sd)) (hl : ∀ ds r, R ds r → ds.length = ps.length)
    (body : ∀ (cdv : Value) (A : Around) (outer : List Env) (s : Shared) (H : Hp) (E : XK) (pa : Nat → Addr) (ds : List Dt) (r : Dt), Room k (A.deeper (envOfC qual (defScope sd) s.heap.objs.size f cdv)) → R ds r →
      WS ⟨K, T, pa⟩ (bX P w K mg base N qual sd f cdv A outer s H E) (defBody sd) (st0 N ds) (RtD r)) : FnOk P w K mg base CX0 (k + 1) f fd ps (spD K T R) :=
  okD F S hl fun cdv A outer s H E pa ds r hr hR => by
    obtain ⟨o, h1, h2⟩ := body cdv A outer s H E pa ds r hr hR
    refine ⟨o, h1, ?_⟩
    cases o with
    | rt d st => cases h2; exact .inl ⟨st, rfl⟩
    | nx st => cases h2; exact .inr ⟨rfl, st, rfl⟩
    | bk st => exact h2.elim
    | ct st => exact h2.elim
    | rl xs => exact h2.elim
    | rq ds' j st => exact h2.elim
theorem okMw {R : List Dt → List Dt → Dt → List Dt → Prop} (F : Fun K x qual sd f fd) (S : FnScope N ps (defScope sd)) (hl : ∀ xs ds r ys, R xs ds r ys → ds.length + 1 = ps.length)
    (body : ∀ (cdv : Value) (A : Around) (outer : List Env) (s : Shared) (H : Hp) (E : XK) (pa : Nat → Addr) (xs ds : List Dt) (r : Dt) (ys : List Dt), Room k (A.deeper (envOfC qual (defScope sd) s.heap.objs.size f cdv)) → R xs ds r ys →
      WS ⟨K, T, pa⟩ (bX P w K mg base N qual sd f cdv A outer s H E) (defBody sd) (st0M N xs ds) (RtM r ys)) : FnOk P w K mg base CX0 (k + 1) f fd ps (spM K T R) :=
  okM F S hl fun cdv A outer s H E pa xs ds r ys hr hR => by
    obtain ⟨o, h1, h2⟩ := body cdv A outer s H E pa xs ds r ys hr hR
    cases o with
    | rt d st => obtain ⟨rfl, q⟩ := h2; exact ⟨st, h1, q⟩
    | nx st => exact h2.elim
    | bk st => exact h2.elim
    | ct st => exact h2.elim
    | rl xs => exact h2.elim
    | rq ds' j st => exact h2.elim
theorem okIw {C : Addr} {ns : List Str} {Rf : List Dt → List Dt → Prop} (F : Fun K x qual sd f fd) (S : FnScope N ps (defScope sd)) (hT : T n = some (C, ns)) (hl : ∀ ds fs, Rf ds fs → ds.length + 1 = ps.length) (hlenR : ∀ ds fs, Rf ds fs → fs.length = ns.length)
    (body : ∀ (cdv : Value) (A : Around) (outer : List Env) (s : Shared) (H : Hp) (E : XK) (pa : Nat → Addr) (ds fs : List Dt), Room k (A.deeper (envOfC qual (defScope sd) s.heap.objs.size f cdv)) → Rf ds fs →
      WS ⟨K, T, pa⟩ (bX P w K mg base N qual sd f cdv A outer s H E) (defBody sd) (st0I N n ds) (NxI n fs)) : FnOk P w K mg base CX0 (k + 1) f fd ps (spI K T n Rf) :=
  okI F S hT hl hlenR fun cdv A outer s H E pa ds fs hr hR => by
    obtain ⟨o, h1, h2⟩ := body cdv A outer s H E pa ds fs hr hR
    cases o with
    | nx st => exact ⟨st, h1, h2⟩
    | rt d st => exact h2.elim
    | bk st => exact h2.elim
    | ct st => exact h2.elim
    | rl xs => exact h2.elim
    | rq ds' j st => exact h2.elim
theorem okIDw {C : Addr} {ns : List Str} {Rf : List Dt → List Dt → Prop} {dvs : List V} {kws : List (Str × V)} (F : FunD K x qual (defArgs sd) (defBody sd) (defScope sd) dvs kws f fd) (S : FnScope N ps (defScope sd)) (hT : T n = some (C, ns)) (hl : ∀ ds fs, Rf ds fs → ds.length + 1 = ps.length) (hlenR : ∀ ds fs, Rf ds fs → fs.length = ns.length)
    (body : ∀ (cdv : Value) (A : Around) (outer : List Env) (s : Shared) (H : Hp) (E : XK) (pa : Nat → Addr) (ds fs : List Dt), Room k (A.deeper (envOfC qual (defScope sd) s.heap.objs.size f cdv)) → Rf ds fs →
      WS ⟨K, T, pa⟩ (bX P w K mg base N qual sd f cdv A outer s H E) (defBody sd) (st0I N n ds) (NxI n fs)) : FnOk P w K mg base CX0 (k + 1) f fd ps (spI K T n Rf) :=
  okID F S hT hl hlenR fun cdv A outer s H E pa ds fs hr hR => by
    obtain ⟨o, h1, h2⟩ := body cdv A outer s H E pa ds fs hr hR
    cases o with
    | nx st => exact ⟨st, h1, h2⟩
    | rt d st => exact h2.elim
    | bk st => exact h2.elim
    | ct st => exact h2.elim
    | rl xs => exact h2.elim
    | rq ds' j st => exact h2.elim
end
def RtL (xs : List Dt) : Out → Prop
  | .rl ys => ys = xs
  | _ => False
section
variable {P : Program} {w : World} {K : PySem.W.Frag} {T : Ct} {mg : Str → Option Value} {base : Heap} {x qual : Str} {sd : Stmt} {f : Addr} {fd : FuncData} {N ps : List Str} {k n : Nat}
/-- a def that hands out a list of the caller's own -/
theorem okLw {R : List Dt → List Dt → Prop} (F : Fun K x qual sd f fd) (S : FnScope N ps (defScope sd)) (hl : ∀ ds r, R ds r → ds.length = ps.length)
    (body : ∀ (cdv : Value) (A : Around) (outer : List Env) (s : Shared) (H : Hp) (E : XK) (pa : Nat → Addr) (ds xs : List Dt), Room k (A.deeper (envOfC qual (defScope sd) s.heap.objs.size f cdv)) → R ds xs →
      WS ⟨K, T, pa⟩ (bX P w K mg base N qual sd f cdv A outer s H E) (defBody sd) (st0 N ds) (RtL xs)) : FnOk P w K mg base CX0 (k + 1) f fd ps (spL K T R) := by
  refine F.ok S (fun vs H Q E h => ?_) (fun cdv A outer s H vs Q E hr h => ?_)
  · obtain ⟨G, ds, xs, e, rs, hR, _⟩ := h
    rw [← rs.length]; exact hl ds xs hR
  · obtain ⟨G, ds, xs, e, rs, hR, kk⟩ := h
    obtain ⟨o, hb, ho⟩ := body cdv A outer s H E (fun _ => 0) ds xs hr hR
    cases o with
    | rl ys =>
      cases ho
      exact ⟨_, hb.pss, G, En.start e rs, fun p ws G' H' g E' hp hn h1 r => kk p ws G' H' (g.fromO fun p h => own_start h) E' (hp.elim id fun z => (own_start z).elim) hn h1 r⟩
    | rt d st => exact ho.elim
    | rq ds' j st => exact ho.elim
    | nx st => exact ho.elim
    | bk st => exact ho.elim
    | ct st => exact ho.elim
end
end Dv
set_option autoImplicit false
set_option maxRecDepth 100000
set_option maxHeartbeats 4000000
set_option exponentiation.threshold 100000
/-! numbers, vectors, matrices as data; sums; sizes over a common denominator -/
namespace Dv
open PySem PySem.Spec PyProof.Rows L2 Mq
def slot (g : Nat → Dt) : Nat → Option Sv
  | 0 => none
  | i + 1 => some (.fr (g i))
theorem bits64 {i : Int} (h : -2 ^ 64 < i) (h' : i < 2 ^ 64) : Builtin.Int.intBits i ≤ 64 := intBits_le_64 h h'
def dR (q : Rat) : Dt := .obj 0 [.int q.num, .int q.den]
def dVc (n : Nat) (f : Nat → Rat) : Dt := .tup (rg n fun j => dR (f j))
def dLc (n : Nat) (f : Nat → Rat) : Dt := .lst (rg n fun j => dR (f j))
def dMx (h n : Nat) (g : Nat → Nat → Rat) : Dt := .obj 1 [.tup (rg h fun i => dVc n (g i)), .int n]
def dA (l : List Nat) : Dt := .obj 2 [.str (sx l)]
def dMs (L n : Nat) (M : Nat → Nat → Nat → Rat) : List Dt := rg L fun k => dMx n n (M k)
def dW (l : List Nat) (n : Nat) (r : Nat → Rat) (M : Nat → Nat → Nat → Rat) (cl : Nat → Rat) : Dt := .obj 3 [dA l, dVc n r, .tup (dMs l.length n M), dVc n cl]
theorem vc_ext {n : Nat} {f g : Nat → Rat} (h : ∀ j, j < n → f j = g j) : dVc n f = dVc n g := by
  unfold dVc; rw [rg_ext fun j hj => by rw [h j hj]]
theorem lc_ext {n : Nat} {f g : Nat → Rat} (h : ∀ j, j < n → f j = g j) : dLc n f = dLc n g := by
  unfold dLc; rw [rg_ext fun j hj => by rw [h j hj]]
theorem mx_ext {h n : Nat} {f g : Nat → Nat → Rat} (e : ∀ i j, i < h → j < n → f i j = g i j) : dMx h n f = dMx h n g := by
  unfold dMx; rw [rg_ext fun i hi => vc_ext fun j hj => e i j hi hj]
theorem dW_ext {l : List Nat} {n : Nat} {r r' c c' : Nat → Rat} {M M' : Nat → Nat → Nat → Rat} (h1 : ∀ j, j < n → r j = r' j) (h2 : ∀ k i j, k < l.length → i < n → j < n → M k i j = M' k i j) (h3 : ∀ j, j < n → c j = c' j) : dW l n r M c = dW l n r' M' c' := by
  unfold dW dMs
  rw [vc_ext h1, vc_ext h3, rg_ext fun k hk => mx_ext fun i j hi hj => h2 k i j hk hi hj]
/-! ### sums -/
def sumTo (f : Nat → Rat) : Nat → Rat
  | 0 => 0
  | n + 1 => sumTo f n + f n
def sumL : List Rat → Rat
  | [] => 0
  | q :: qs => q + sumL qs
theorem sumTo_ext {f g : Nat → Rat} : ∀ {n : Nat}, (∀ i, i < n → f i = g i) → sumTo f n = sumTo g n
  | 0, _ => rfl
  | n + 1, h => by show sumTo f n + f n = sumTo g n + g n; rw [sumTo_ext (fun i hi => h i (by omega)), h n (by omega)]
theorem sumTo_zero {f : Nat → Rat} : ∀ {n : Nat}, (∀ i, i < n → f i = 0) → sumTo f n = 0
  | 0, _ => rfl
  | n + 1, h => by show sumTo f n + f n = 0; rw [sumTo_zero fun i hi => h i (by omega), h n (by omega), Rat.add_zero]
theorem sumTo_add (f g : Nat → Rat) : ∀ n, sumTo (fun i => f i + g i) n = sumTo f n + sumTo g n
  | 0 => (Rat.add_zero 0).symm
  | n + 1 => by
    show sumTo (fun i => f i + g i) n + (f n + g n) = (sumTo f n + f n) + (sumTo g n + g n)
    rw [sumTo_add f g n, Rat.add_assoc, Rat.add_assoc, ← Rat.add_assoc (sumTo g n), Rat.add_comm (sumTo g n) (f n), Rat.add_assoc]
theorem sumTo_mul (a : Rat) (f : Nat → Rat) : ∀ n, sumTo (fun i => a * f i) n = a * sumTo f n
  | 0 => (Rat.mul_zero a).symm
  | n + 1 => by show sumTo (fun i => a * f i) n + a * f n = a * (sumTo f n + f n); rw [sumTo_mul a f n, Rat.mul_add]
theorem sumTo_mulr (a : Rat) (f : Nat → Rat) : ∀ n, sumTo (fun i => f i * a) n = sumTo f n * a
  | 0 => (Rat.zero_mul a).symm
  | n + 1 => by show sumTo (fun i => f i * a) n + f n * a = (sumTo f n + f n) * a; rw [sumTo_mulr a f n, Rat.add_mul]
theorem sumTo_swap (f : Nat → Nat → Rat) (m : Nat) : ∀ n, sumTo (fun i => sumTo (fun j => f i j) m) n = sumTo (fun j => sumTo (fun i => f i j) n) m
  | 0 => (sumTo_zero fun _ _ => rfl).symm
  | n + 1 => by
    show sumTo (fun i => sumTo (fun j => f i j) m) n + sumTo (fun j => f n j) m = sumTo (fun j => sumTo (fun i => f i j) n + f n j) m
    rw [sumTo_swap f m n, sumTo_add]
theorem sumTo_app (f : Nat → Rat) (m : Nat) : ∀ n, sumTo f (m + n) = sumTo f m + sumTo (fun i => f (m + i)) n
  | 0 => (Rat.add_zero _).symm
  | n + 1 => by
    show sumTo f (m + n) + f (m + n) = sumTo f m + (sumTo (fun i => f (m + i)) n + f (m + n))
    rw [sumTo_app f m n, Rat.add_assoc]
theorem sumTo_one {f : Nat → Rat} {k : Nat} : ∀ {n : Nat}, k < n → (∀ i, i < n → i ≠ k → f i = 0) → sumTo f n = f k
  | n + 1, hk, h => by
    by_cases q : k = n
    · subst q
      show sumTo f k + f k = f k
      rw [sumTo_zero fun i hi => h i (by omega) (by omega), Rat.zero_add]
    · show sumTo f n + f n = f k
      rw [sumTo_one (by omega) fun i hi ne => h i (by omega) ne, h n (by omega) (fun e => q e.symm), Rat.add_zero]
theorem sumL_app : ∀ a b : List Rat, sumL (a ++ b) = sumL a + sumL b
  | [], b => (Rat.zero_add _).symm
  | x :: a, b => by show x + sumL (a ++ b) = x + sumL a + sumL b; rw [sumL_app a b, Rat.add_assoc]
theorem sumL_rg (f : Nat → Rat) : ∀ n, sumL ((List.range n).map f) = sumTo f n
  | 0 => rfl
  | n + 1 => by rw [List.range_succ, List.map_append, sumL_app, sumL_rg f n]; show _ + (f n + 0) = _; rw [Rat.add_zero]; rfl
/-! ### numbers over one denominator -/
def Hd (D m : Nat) (q : Rat) : Prop := ∃ z : Int, z.natAbs ≤ m ∧ q = Rat.divInt z D
theorem Hd.mono {D m m' : Nat} {q : Rat} (h : Hd D m q) (l : m ≤ m') : Hd D m' q := let ⟨z, a, b⟩ := h; ⟨z, Nat.le_trans a l, b⟩
theorem Hd.zero {D m : Nat} : Hd D m 0 := ⟨0, Nat.zero_le _, (Rat.zero_divInt _).symm⟩
theorem Hd.mul {D D' m m' : Nat} {a b : Rat} (h0 : 0 < D) (h0' : 0 < D') (h : Hd D m a) (h' : Hd D' m' b) : Hd (D * D') (m * m') (a * b) := by
  obtain ⟨z, a1, rfl⟩ := h
  obtain ⟨z', b1, rfl⟩ := h'
  refine ⟨z * z', by rw [Int.natAbs_mul]; exact Nat.mul_le_mul a1 b1, ?_⟩
  rw [Rat.divInt_mul_divInt, Int.natCast_mul]
theorem Hd.add {D m m' : Nat} {a b : Rat} (h0 : 0 < D) (h : Hd D m a) (h' : Hd D m' b) : Hd D (m + m') (a + b) := by
  obtain ⟨z, a1, rfl⟩ := h
  obtain ⟨z', b1, rfl⟩ := h'
  have hd : (D : Int) ≠ 0 := by omega
  refine ⟨z + z', by omega, ?_⟩
  rw [Rat.divInt_add_divInt _ _ hd hd]
  refine (Rat.divInt_eq_divInt_iff (Int.mul_ne_zero hd hd) hd).mpr ?_
  rw [Int.add_mul, Int.add_mul, Int.mul_assoc, Int.mul_assoc]
theorem Hd.neg {D m : Nat} {a : Rat} (h : Hd D m a) : Hd D m (-a) := by
  obtain ⟨z, a1, rfl⟩ := h
  exact ⟨-z, by rw [Int.natAbs_neg]; exact a1, by rw [Rat.neg_divInt]⟩
theorem Hd.sum {D m : Nat} {f : Nat → Rat} : ∀ n, 0 < D → (∀ i, i < n → Hd D m (f i)) → Hd D (n * m) (sumTo f n)
  | 0, _, _ => Hd.zero
  | n + 1, h0, h => by
    have := (Hd.sum n h0 fun i hi => h i (by omega)).add h0 (h n (by omega))
    rw [Nat.add_mul, Nat.one_mul]
    exact this
theorem Hd.sumL {D m : Nat} : ∀ qs : List Rat, 0 < D → (∀ q ∈ qs, Hd D m q) → Hd D (qs.length * m) (sumL qs)
  | [], _, _ => Hd.zero
  | q :: qs, h0, h => by
    have := (h q List.mem_cons_self).add h0 (Hd.sumL qs h0 fun x hx => h x (List.mem_cons_of_mem _ hx))
    rw [List.length_cons, Nat.add_mul, Nat.one_mul, Nat.add_comm]
    exact this
theorem Hd.scale {D m : Nat} {q : Rat} (e : Nat) (h0 : 0 < D) (he : 0 < e) (h : Hd D m q) : Hd (D * e) (m * e) q := by
  obtain ⟨z, a1, rfl⟩ := h
  refine ⟨z * e, by rw [Int.natAbs_mul]; exact Nat.mul_le_mul a1 (Nat.le_refl _), ?_⟩
  rw [Int.natCast_mul]
  exact (Rat.divInt_eq_divInt_iff (by omega) (Int.mul_ne_zero (by omega) (by omega))).mpr (by rw [Int.mul_assoc, Int.mul_comm (D : Int) e])
theorem Hd.sz {D m k : Nat} {q : Rat} (h0 : 0 < D) (h : Hd D m q) (hm : m < 2 ^ k) (hD : D < 2 ^ k) : Sz k q := by
  obtain ⟨z, a1, rfl⟩ := h
  exact divInt_sz (by omega) (by omega) (by simpa using hD)
theorem hd_int {f : Int} {m : Nat} (h : f.natAbs ≤ m) : Hd 1 m (f : Rat) := ⟨f, h, by
  have := self_q (f : Rat)
  rw [Rat.num_intCast, Rat.den_intCast] at this
  exact this.symm⟩
/-- the numbers of a vector and a matrix over one denominator -/
def HV (D m n : Nat) (x : Nat → Rat) : Prop := ∀ i, i < n → Hd D m (x i)
def HM (D m h n : Nat) (g : Nat → Nat → Rat) : Prop := ∀ i j, i < h → j < n → Hd D m (g i j)
end Dv
set_option autoImplicit false
set_option maxRecDepth 100000
namespace Dv
open PySem PySem.Spec PyProof.Rows L2
/-! ### is and is not between truth values -/
section
variable {c : Ctx} {X : Cx} {st st1 st2 : Store} {a b : PySem.Expr} {pos : PySem.Pos} {t u r : Bool}
theorem o_isB : Op2 c (.bl t) (.bl u) (.bl (decide (t = u))) L2.rIsB := fun G H x y Q ex r1 r2 kk => by
  cases r1
  cases r2
  exact ⟨t, u, rfl, rfl, kv_same kk ex .bl⟩
theorem o_notB : Op2 c (.bl t) (.bl u) (.bl (!decide (t = u))) L2.rNotB := fun G H x y Q ex r1 r2 kk => by
  cases r1
  cases r2
  exact ⟨t, u, rfl, rfl, kv_same kk ex .bl⟩
theorem xd_isB (ha : XD c X a st (.bl t) st1) (hb : XD c X b st1 (.bl u) st2) (h : decide (t = u) = r) : XD c X (.Compare a [.Is] [b] pos) st (.bl r) st2 := by
  subst h; exact xd_cmp ha hb op_isBl o_isB (nomark _)
theorem xt_notB (ha : XD c X a st (.bl t) st1) (hb : XD c X b st1 (.bl u) st2) (h : (!decide (t = u)) = r) : XT c X (.Compare a [.IsNot] [b] pos) st r st2 := by
  subst h; exact xt_cmp ha hb op_notBl o_notB (nomark _)
end
end Dv
set_option autoImplicit false
set_option maxRecDepth 100000
namespace Dv
open PySem PySem.Spec PyProof.Rows L2
/-! ### the truth of a list or a tuple -/
section
variable {c : Ctx} {X : Cx} {st st1 : Store} {e : PySem.Expr} {d : Dt} {ds : List Dt} {t : Bool}
theorem reps_empty {K : PySem.W.Frag} {T : Ct} {G : Hp} : ∀ {ds : List Dt} {vs : List V}, Reps K T G ds vs → vs.isEmpty = ds.isEmpty
  | _, _, .nil => rfl
  | _, _, .cons _ _ => rfl
theorem xt_tru (hK : X.K = c.K) (h : XD c X e st d st1) (hd : d = .lst ds ∨ d = .tup ds) (ht : (!ds.isEmpty) = t)
    (he : ∀ whole, isTrue e X.env whole = (do let v ← whole; standAt e.pos; holding [v] (truthy v)) := by intro _; rfl) : XT c X e st t st1 :=
  ⟨pt_weak (pt_truth h.pe he) fun σ H Q ⟨G, E, k⟩ => ⟨G, E, fun x G1 H1 g1 E1 r1 => by
    refine ⟨t, ?_, k G1 H1 g1 E1⟩
    rw [← ht, hK]
    rcases hd with rfl | rfl
    · obtain ⟨a, vs, rfl, h1, h2⟩ := r1.lst_inv
      exact .inl ⟨vs, .inl (.inl (E1.ex _ _ h1)), by rw [reps_empty h2]⟩
    · obtain ⟨a, vs, rfl, h1, h2⟩ := r1.tup_inv
      exact .inr (.inl ⟨vs, E1.ex.st h1, by rw [reps_empty h2]⟩)⟩⟩
end
end Dv
set_option autoImplicit false
set_option maxRecDepth 100000
set_option maxHeartbeats 4000000
namespace Dv
open PySem PySem.Spec PyProof.Rows L2
section
variable {c : Ctx} {X : Cx} {st st1 st2 st3 : Store} {a b e e2 tg iter elt t : Expr} {es : List Expr} {d d1 d2 d3 d' : Dt} {ds xs ys zs fs gs vs : List Dt} {pos : Pos} {i j : Int} {body rest orelse A B : List Stmt} {s : Stmt} {o : Out} {n k m : Nat} {l l' : List Nat}
/-! ### own lists looked at -/
theorem we_view {Q : Dt → Store → Prop} (h : WE c X e (fz st) fun d _ => d.scal = true ∧ Q d st) : WE c X e st Q := by
  obtain ⟨d, st1, h1, h2, h3⟩ := h
  exact ⟨d, st, xd_view h1 h2, h3⟩
theorem wt_view {Q : Bool → Store → Prop} (h : WT c X e (fz st) fun r _ => Q r st) : WT c X e st Q := by
  obtain ⟨r, st1, h1, h2⟩ := h
  exact ⟨r, st, xt_view h1, h2⟩
theorem wt_tru {Q : Bool → Store → Prop} (hK : X.K = c.K) (h : WE c X e st fun d st1 => ∃ ds, (d = .lst ds ∨ d = .tup ds) ∧ Q (!ds.isEmpty) st1)
    (he : ∀ whole, isTrue e X.env whole = (do let v ← whole; standAt e.pos; holding [v] (truthy v)) := by intro _; rfl) : WT c X e st Q := by
  obtain ⟨d, st1, h1, ds, h2, h3⟩ := h
  exact ⟨_, _, xt_tru hK h1 h2 rfl he, h3⟩
/-! ### pop -/
theorem xd_popAt (i : Nat) {s : Sv} {x : Str} {p1 apos cpos : Pos} {q : Int} {m : Nat} (he : XD c X e st (.int q) st1) (hK : X.K = c.K) (hi : st[i]? = some (some s)) (hi1 : st1[i]? = some (some s)) (hs : s.Has xs) (hq0 : -(2 ^ 63) ≤ q) (hq1 : q < 2 ^ 63) (hq : seqIndex? q xs.length = some m) (hd0 : xs[m]? = some d) (hN : X.N[i]? = some x := by rfl) (hv : Vis X.env.scope x := by first | exact Or.inl rfl | exact Or.inr (Or.inl rfl) | exact Or.inr (Or.inr rfl)) (hd : (x == ("__debug__" : Str)) = false := by decide)
    (hcd : (x == ("__classdict__" : Str)) = false := by decide) (hline : (apos.endLine == cpos.line) = true := by rfl) (hb : attributeBase (.Name x p1) "pop" X.env (eval (.Name x p1) X.env) = eval (.Name x p1) X.env := by rfl)
    (hfew : ((backTo cpos (starEach (e :: []) X.env)).all (fun x => !x.1) && (backToKw cpos (keywordEach [] X.env)).all (fun x => x.1.isSome)
      && decide ((e :: []).length + ([] : List Keyword).length + (if ([] : List Keyword).isEmpty then 0 else 1) < 30)) = true := by rfl) (hst : starEach (e :: []) X.env = (false, eval e X.env) :: starEach [] X.env := by rfl) :
    XD c X (.Call (.Attribute (.Name x p1) "pop" apos) [e] [] cpos) st d (st1.set i (some (s.with (xs.eraseIdx m)))) :=
  ⟨pe_weak (pe_bm PySem.F.plainAttrs_list PySem.F.slot_list_pop PySem.F.type_list_pop mt_popAt (pe_var hN hv hd hcd) (pa_cons he.pe pa_nil hst) hb hfew hline hst) fun σ H Q ⟨G, E, k⟩ => by
    obtain ⟨a, vs, z1, z2, z3, z4, z5, z6⟩ := E.at hi hs
    refine ⟨_, z1, .inl ⟨rfl, vs, by rw [hK]; exact SqL.of z3⟩, G, E, fun v G1 H1 g1 E1 r1 => ?_⟩
    obtain ⟨a', ws, y1, y2, y3, y4, y5, y6⟩ := E1.at hi1 hs
    rw [z1] at y1
    cases y1
    cases r1
    obtain ⟨u, u1, u2⟩ := y4.get hd0
    refine ⟨a, ws, q, m, u, rfl, rfl, y3, hq0, hq1, by rw [← y4.length]; exact hq, u1, ?_⟩
    obtain ⟨g2, e2⟩ := gr_upd (a := a) (o := .lst (ws.eraseIdx m)) E1.ex y2 (by rw [y3]; simp)
    have rr : Reps c.K c.T G1 (xs.eraseIdx m) (ws.eraseIdx m) := by
      rw [List.eraseIdx_eq_take_drop_succ, List.eraseIdx_eq_take_drop_succ]
      exact (y4.take m).app (y4.drop (m + 1))
    obtain ⟨E3, g3⟩ := E1.mut hi1 hs z1 g2 e2 y2 upd_same rr
    exact k _ _ _ (g1.trans g3) E3 (u2.ex (Ex.refl _))⟩
theorem we_popAt (i : Nat) {s : Sv} {x : Str} {p1 apos cpos : Pos} {Q : Dt → Store → Prop} (hi : st[i]? = some (some s)) (hK : X.K = c.K) (h : WE c X e st fun d0 st1 => ∃ (q : Int) (m : Nat) (xs : List Dt) (d : Dt), d0 = .int q ∧ st1[i]? = some (some s) ∧ s.Has xs ∧ -(2 ^ 63) ≤ q ∧ q < 2 ^ 63 ∧ seqIndex? q xs.length = some m ∧ xs[m]? = some d ∧ Q d (st1.set i (some (s.with (xs.eraseIdx m))))) (hN : X.N[i]? = some x := by rfl) (hv : Vis X.env.scope x := by first | exact Or.inl rfl | exact Or.inr (Or.inl rfl) | exact Or.inr (Or.inr rfl)) (hd : (x == ("__debug__" : Str)) = false := by decide)
    (hcd : (x == ("__classdict__" : Str)) = false := by decide) (hline : (apos.endLine == cpos.line) = true := by rfl) (hb : attributeBase (.Name x p1) "pop" X.env (eval (.Name x p1) X.env) = eval (.Name x p1) X.env := by rfl)
    (hfew : ((backTo cpos (starEach (e :: []) X.env)).all (fun x => !x.1) && (backToKw cpos (keywordEach [] X.env)).all (fun x => x.1.isSome)
      && decide ((e :: []).length + ([] : List Keyword).length + (if ([] : List Keyword).isEmpty then 0 else 1) < 30)) = true := by rfl) (hst : starEach (e :: []) X.env = (false, eval e X.env) :: starEach [] X.env := by rfl) :
    WE c X (.Call (.Attribute (.Name x p1) "pop" apos) [e] [] cpos) st Q := by
  obtain ⟨d0, st1, h1, q, m, xs, d, rfl, h3, h4, h5, h6, h7, h8, h9⟩ := h
  exact ⟨_, _, xd_popAt i h1 hK hi h3 h4 h5 h6 h7 h8 hN hv hd hcd hline hb hfew hst, h9⟩
theorem xd_pop0 (i : Nat) {s : Sv} {x : Str} {p1 apos cpos : Pos} (hK : X.K = c.K) (hi : st[i]? = some (some s)) (hs : s.Has xs) (hd0 : xs[xs.length - 1]? = some d) (hN : X.N[i]? = some x := by rfl) (hv : Vis X.env.scope x := by first | exact Or.inl rfl | exact Or.inr (Or.inl rfl) | exact Or.inr (Or.inr rfl)) (hd : (x == ("__debug__" : Str)) = false := by decide)
    (hcd : (x == ("__classdict__" : Str)) = false := by decide) (hline : (apos.endLine == cpos.line) = true := by rfl) (hb : attributeBase (.Name x p1) "pop" X.env (eval (.Name x p1) X.env) = eval (.Name x p1) X.env := by rfl) :
    XD c X (.Call (.Attribute (.Name x p1) "pop" apos) [] [] cpos) st d (st.set i (some (s.with xs.dropLast))) :=
  ⟨pe_weak (pe_bm0 PySem.F.plainAttrs_list PySem.F.slot_list_pop PySem.F.type_list_pop mt_pop (pe_var hN hv hd hcd) hb hline) fun σ H Q ⟨G, E, k⟩ => by
    obtain ⟨a, vs, z1, z2, z3, z4, z5, z6⟩ := E.at hi hs
    obtain ⟨u, u1, u2⟩ := z4.get hd0
    refine ⟨_, z1, .inl ⟨rfl, vs, by rw [hK]; exact SqL.of z3⟩, a, vs, u, rfl, rfl, z3, by rw [← z4.length]; exact u1, ?_⟩
    obtain ⟨g2, e2⟩ := gr_upd (a := a) (o := .lst vs.dropLast) E.ex z2 (by rw [z3]; simp)
    have rr : Reps c.K c.T G xs.dropLast vs.dropLast := by
      rw [List.dropLast_eq_take, List.dropLast_eq_take, z4.length]
      exact z4.take _
    obtain ⟨E3, g3⟩ := E.mut hi hs z1 g2 e2 z2 upd_same rr
    exact k _ _ _ g3 E3 (u2.ex (Ex.refl _))⟩
theorem we_pop0 (i : Nat) {s : Sv} {x : Str} {p1 apos cpos : Pos} {Q : Dt → Store → Prop} (hi : st[i]? = some (some s)) (hK : X.K = c.K) (hs : s.Has xs) (hd0 : xs[xs.length - 1]? = some d) (h : Q d (st.set i (some (s.with xs.dropLast)))) (hN : X.N[i]? = some x := by rfl) (hv : Vis X.env.scope x := by first | exact Or.inl rfl | exact Or.inr (Or.inl rfl) | exact Or.inr (Or.inr rfl)) (hd : (x == ("__debug__" : Str)) = false := by decide)
    (hcd : (x == ("__classdict__" : Str)) = false := by decide) (hline : (apos.endLine == cpos.line) = true := by rfl) (hb : attributeBase (.Name x p1) "pop" X.env (eval (.Name x p1) X.env) = eval (.Name x p1) X.env := by rfl) :
    WE c X (.Call (.Attribute (.Name x p1) "pop" apos) [] [] cpos) st Q := ⟨_, _, xd_pop0 i hK hi hs hd0 hN hv hd hcd hline hb, h⟩
/-! ### sum, min, max of whole numbers -/
theorem o_sum {K : PySem.W.Frag} (hK : K = c.K) {ns : List Int} (h : d1 = .lst (ns.map .int)) : OpN c [d1] (.int ns.sum) (rSum K) := fun G H vs Q e r k => by
  subst h
  cases r with
  | cons r rs =>
    cases rs
    obtain ⟨a, ws, rfl, h1, h2⟩ := r.lst_inv
    have := ints_inv h2
    subst this
    exact ⟨a, ns, rfl, by rw [hK]; exact SqL.of (e a _ h1), kv_same k e .int⟩
theorem we_sum {p : Pos} {Q : Dt → Store → Prop} (hc : X.calm = true) (hK : X.K = c.K) (hm : X.mg "sum" = none) (h : WE c X e st fun d st1 => ∃ ns : List Int, d = .lst (ns.map .int) ∧ Q (.int ns.sum) st1) (hg : Gl X "sum" := by rfl) (he : starEach (e :: []) X.env = (false, eval e X.env) :: starEach [] X.env := by rfl) (hpl : (backTo pos (starEach [] X.env)).any (·.1) = false := by rfl) :
    WE c X (.Call (.Name "sum" p) [e] [] pos) st Q := by
  obtain ⟨d, st1, h1, ns, h2, h3⟩ := h
  exact ⟨_, _, xd_callB (xa_cons h1 xa_nil he) (cr_sum hc) (o_sum hK h2) hm (by first | rfl | decide +kernel) hg (by decide) (by decide) he hpl, h3⟩
theorem o_min2 : OpN c [.int i, .int j] (.int (min i j)) (fun xs H Q => ∃ i j, xs = [.int i, .int j] ∧ Q (.int (if j < i then j else i)) H) := fun G H vs Q e r k => by
  cases r with
  | cons r rs => cases rs with
    | cons r' rs' =>
      cases rs'; cases r; cases r'
      refine ⟨i, j, rfl, kv_same k e ?_⟩
      have : (if j < i then j else i) = min i j := by rw [Int.min_def]; split <;> split <;> omega
      rw [this]; exact .int
theorem o_max2 : OpN c [.int i, .int j] (.int (max i j)) (fun xs H Q => ∃ i j, xs = [.int i, .int j] ∧ Q (.int (if j > i then j else i)) H) := fun G H vs Q e r k => by
  cases r with
  | cons r rs => cases rs with
    | cons r' rs' =>
      cases rs'; cases r; cases r'
      refine ⟨i, j, rfl, kv_same k e ?_⟩
      have : (if j > i then j else i) = max i j := by rw [Int.max_def]; split <;> split <;> omega
      rw [this]; exact .int
theorem we_min2 {p : Pos} {Q : Dt → Store → Prop} (hc : X.calm = true) (hm : X.mg "min" = none) (h : WA c X [a, b] st fun ds st1 => ∃ i j : Int, ds = [.int i, .int j] ∧ Q (.int (min i j)) st1) (hg : Gl X "min" := by rfl) (he : starEach (a :: [b]) X.env = (false, eval a X.env) :: starEach [b] X.env := by rfl) (hpl : (backTo pos (starEach [b] X.env)).any (·.1) = false := by rfl) :
    WE c X (.Call (.Name "min" p) [a, b] [] pos) st Q := by
  obtain ⟨ds, st1, h1, i, j, rfl, h3⟩ := h
  exact ⟨_, _, xd_callB h1 (call_min2 hc) o_min2 hm (by first | rfl | decide +kernel) hg (by decide) (by decide) he hpl, h3⟩
theorem we_max2 {p : Pos} {Q : Dt → Store → Prop} (hc : X.calm = true) (hm : X.mg "max" = none) (h : WA c X [a, b] st fun ds st1 => ∃ i j : Int, ds = [.int i, .int j] ∧ Q (.int (max i j)) st1) (hg : Gl X "max" := by rfl) (he : starEach (a :: [b]) X.env = (false, eval a X.env) :: starEach [b] X.env := by rfl) (hpl : (backTo pos (starEach [b] X.env)).any (·.1) = false := by rfl) :
    WE c X (.Call (.Name "max" p) [a, b] [] pos) st Q := by
  obtain ⟨ds, st1, h1, i, j, rfl, h3⟩ := h
  exact ⟨_, _, xd_callB h1 (call_max2 hc) o_max2 hm (by first | rfl | decide +kernel) hg (by decide) (by decide) he hpl, h3⟩
/-! ### comprehensions with a test, and such whose turns change what the names hold -/
/-- a turn with a test: r is what it gives -/
abbrev Fv (c : Ctx) (X : Cx) (elt : Expr) (s : Store) (r : Option Dt) : Bool → Store → Prop := fun b s' => s' = s ∧ ((b = false ∧ r = none) ∨ (b = true ∧ ∃ v, r = some v ∧ WE c X elt s (Gv v s)))
theorem wl_map1F (jx : Nat) (rs : List (Option Dt)) {x : Str} {p : Pos} {scope : Scope} {Q : List Dt → Store → Prop} (hN : X.N.Nodup)
    (h : WI c X (.Name x p) iter st fun ds st1 => rs.length = ds.length ∧ ds.length ≤ 100000 ∧ st1[jx]? = some none ∧
      (∀ (i : Nat) d r, ds[i]? = some d → rs[i]? = some r → ∃ b, ((b = false ∧ r = none) ∨ (b = true ∧ ∃ v, r = some v ∧ ∀ sh H C cl fp, WE c (BlkC X sh H scope C cl fp) elt (st1.set jx (some (.fr d))) (Gv v (st1.set jx (some (.fr d)))))) ∧
        ∀ sh H C cl fp, WT c (BlkC X sh H scope C cl fp) t (st1.set jx (some (.fr d))) (fun b' s' => b' = b ∧ s' = st1.set jx (some (.fr d)))) ∧ Q (collect rs) st1)
    (hx : X.N[jx]? = some x := by rfl) (hloc : Loc (relabel scope X.env) x := by first | exact Or.inl rfl | exact Or.inr rfl) (hlocf : (scope.names.lookup x == some .cell) = true ∨ (relabel scope X.env).names.lookup x = some .local := by first | exact Or.inl rfl | exact Or.inr rfl) (ok : BlkOk X.N X.env.scope scope [(x, jx)] := by exact blkOk_by (by first | rfl | decide +kernel))
    (hc : X.calm = true := by rfl) (hs : ∀ x, foldedSetIterable iter X.env x = pure x := by intro _; rfl) :
    WL c X (.ListComp elt [⟨.Name x p, iter, [t], 0⟩] scope pos) st Q := by
  obtain ⟨ds, st1, h1, h2, h3, h4, h5, h6⟩ := h
  refine ⟨_, _, xl_lc (g := gName jx) (ow := [(x, jx)]) (fun _ => st1) rs hN h1 h2 h3 (fun i _ q hq => by rw [List.mem_singleton.mp hq]; exact h4) (fun i d r q1 q2 => ?_) (fun s H C cl fp => pg_name (X := BlkC X s H scope C cl fp) hN hx hloc hlocf) (by simp) ok hc hs, h6⟩
  obtain ⟨b, hb, ht⟩ := h5 i d r q1 q2
  refine ⟨st1.set jx (some (.fr d)), b, st1.set jx (some (.fr d)), tgt_name, .one fun sh H C cl fp => ?_, ?_⟩
  · obtain ⟨b', s', z1, rfl, rfl⟩ := ht sh H C cl fp
    exact z1
  · rcases hb with ⟨rfl, rfl⟩ | ⟨rfl, v, rfl, z⟩
    · exact .inl ⟨rfl, rfl, (set_none h4 (some (.fr d))).symm⟩
    · refine .inr ⟨rfl, v, st1.set jx (some (.fr d)), rfl, (set_none h4 _).symm, fun sh H C cl fp => ?_⟩
      obtain ⟨d', s', z1, rfl, rfl⟩ := z sh H C cl fp
      exact z1
theorem wl_map2F (j1 j2 : Nat) (rs : List (Option Dt)) {x y : Str} {p p1 p2 : Pos} {kk : Nat} {scope : Scope} {Q : List Dt → Store → Prop} (hN : X.N.Nodup) (hK : X.K = c.K) (hcm : X.calm = true)
    (h : WI c X (.Tuple [.Name x p1, .Name y p2] kk p) iter st fun ds st1 => rs.length = ds.length ∧ ds.length ≤ 100000 ∧ st1[j1]? = some none ∧ st1[j2]? = some none ∧
      (∀ (i : Nat) d r, ds[i]? = some d → rs[i]? = some r → ∃ u w b, d = .tup [u, w] ∧ ((b = false ∧ r = none) ∨ (b = true ∧ ∃ v, r = some v ∧ ∀ sh H C cl fp, WE c (BlkC X sh H scope C cl fp) elt ((st1.set j1 (some (.fr u))).set j2 (some (.fr w))) (Gv v ((st1.set j1 (some (.fr u))).set j2 (some (.fr w)))))) ∧
        ∀ sh H C cl fp, WT c (BlkC X sh H scope C cl fp) t ((st1.set j1 (some (.fr u))).set j2 (some (.fr w))) (fun b' s' => b' = b ∧ s' = (st1.set j1 (some (.fr u))).set j2 (some (.fr w)))) ∧ Q (collect rs) st1) (hj : j1 ≠ j2 := by decide)
    (hx : X.N[j1]? = some x := by rfl) (hy : X.N[j2]? = some y := by rfl) (hlx : Loc (relabel scope X.env) x := by first | exact Or.inl rfl | exact Or.inr rfl) (hlxf : (scope.names.lookup x == some .cell) = true ∨ (relabel scope X.env).names.lookup x = some .local := by first | exact Or.inl rfl | exact Or.inr rfl) (hly : Loc (relabel scope X.env) y := by first | exact Or.inl rfl | exact Or.inr rfl) (hlyf : (scope.names.lookup y == some .cell) = true ∨ (relabel scope X.env).names.lookup y = some .local := by first | exact Or.inl rfl | exact Or.inr rfl) (ok : BlkOk X.N X.env.scope scope [(x, j1), (y, j2)] := by exact blkOk_by (by first | rfl | decide +kernel))
    (hs : ∀ x, foldedSetIterable iter X.env x = pure x := by intro _; rfl) (hst : ∀ env, (assignEach [.Name x p1, .Name y p2] env).map (·.2) = [assign (.Name x p1) env, assign (.Name y p2) env] := by intro _; rfl) :
    WL c X (.ListComp elt [⟨.Tuple [.Name x p1, .Name y p2] kk p, iter, [t], 0⟩] scope pos) st Q := by
  obtain ⟨ds, st1, h1, h2, h3, h4, h5, h6, h7⟩ := h
  refine ⟨_, _, xl_lc (g := gTup X.K 2 (gCons (gName j1) (gCons (gName j2) gNil))) (ow := [(x, j1), (y, j2)]) (fun _ => st1) rs hN h1 h2 h3 (fun i _ q hq => by
      rcases List.mem_cons.mp hq with z | z
      · rw [z]; exact h4
      · rw [List.mem_singleton.mp z]; exact h5) (fun i d r q1 q2 => ?_) (fun s H C cl fp => pg_tup hcm (pgs_cons (pg_name (X := BlkC X s H scope C cl fp) hN hx hlx hlxf) (pgs_cons (pg_name (X := BlkC X s H scope C cl fp) hN hy hly hlyf) pgs_nil rfl) rfl) rfl rfl) (by simp) ok hcm hs, h7⟩
  obtain ⟨u, w, b, rfl, hb, ht⟩ := h6 i d r q1 q2
  have back : st1 = ((((st1.set j1 (some (.fr u))).set j2 (some (.fr w))).set j2 none).set j1 none) := by
    rw [set_none (by rw [List.getElem?_set_ne hj]; exact h5), set_none h4]
  refine ⟨(st1.set j1 (some (.fr u))).set j2 (some (.fr w)), b, (st1.set j1 (some (.fr u))).set j2 (some (.fr w)), tgt_pair hK.symm hj, .one fun sh H C cl fp => ?_, ?_⟩
  · obtain ⟨b', s', z1, rfl, rfl⟩ := ht sh H C cl fp
    exact z1
  · rcases hb with ⟨rfl, rfl⟩ | ⟨rfl, v, rfl, z⟩
    · exact .inl ⟨rfl, rfl, back⟩
    · refine .inr ⟨rfl, v, (st1.set j1 (some (.fr u))).set j2 (some (.fr w)), rfl, back, fun sh H C cl fp => ?_⟩
      obtain ⟨d', s', z1, rfl, rfl⟩ := z sh H C cl fp
      exact z1
theorem wl_mapS (jx m : Nat) (S : Nat → Store) (vs : List Dt) {x : Str} {p : Pos} {scope : Scope} {Q : List Dt → Store → Prop} (hN : X.N.Nodup)
    (h : WI c X (.Name x p) iter st fun ds st1 => st1 = S 0 ∧ vs.length = m ∧ ds.length = m ∧ m ≤ 100000 ∧ (∀ i, i ≤ m → (S i)[jx]? = some none) ∧ (∀ (i : Nat) d v, ds[i]? = some d → vs[i]? = some v → ∀ sh H C cl fp, WE c (BlkC X sh H scope C cl fp) elt ((S i).set jx (some (.fr d))) (Gv v ((S (i + 1)).set jx (some (.fr d))))) ∧ Q vs (S m))
    (hx : X.N[jx]? = some x := by rfl) (hloc : Loc (relabel scope X.env) x := by first | exact Or.inl rfl | exact Or.inr rfl) (hlocf : (scope.names.lookup x == some .cell) = true ∨ (relabel scope X.env).names.lookup x = some .local := by first | exact Or.inl rfl | exact Or.inr rfl) (ok : BlkOk X.N X.env.scope scope [(x, jx)] := by exact blkOk_by (by first | rfl | decide +kernel))
    (hc : X.calm = true := by rfl) (hs : ∀ x, foldedSetIterable iter X.env x = pure x := by intro _; rfl) :
    WL c X (.ListComp elt [⟨.Name x p, iter, [], 0⟩] scope pos) st Q := by
  obtain ⟨ds, st1, h1, rfl, h2, rfl, h3, h4, h5, h6⟩ := h
  refine ⟨_, _, xl_mapS jx S vs hN h1 h2 h3 h4 (fun i d v q1 q2 => ⟨(S (i + 1)).set jx (some (.fr d)), ?_, fun sh H C cl fp => ?_⟩) hx hloc hlocf ok hc hs, h6⟩
  · have hi : i < ds.length := by
      rcases Nat.lt_or_ge i ds.length with z | z
      · exact z
      · rw [List.getElem?_eq_none z] at q1; cases q1
    exact set_none (h4 (i + 1) hi) _
  · obtain ⟨d', s', z1, rfl, rfl⟩ := h5 i d v q1 q2 sh H C cl fp
    exact z1
theorem ws_mapS (k : Nat) (own? : Bool) (jx m : Nat) (S : Nat → Store) (vs : List Dt) {x y : Str} {py spos : Pos} {p : Pos} {scope : Scope} {Q : Out → Prop} (hN : X.N.Nodup)
    (h : WI c X (.Name x p) iter st fun ds st1 => st1 = S 0 ∧ vs.length = m ∧ ds.length = m ∧ m ≤ 100000 ∧ (∀ i, i ≤ m → (S i)[jx]? = some none) ∧ (∀ (i : Nat) d v, ds[i]? = some d → vs[i]? = some v → ∀ sh H C cl fp, WE c (BlkC X sh H scope C cl fp) elt ((S i).set jx (some (.fr d))) (Gv v ((S (i + 1)).set jx (some (.fr d))))) ∧ WS c X rest ((S m).set k (some (if own? = true then .ow vs else .fr (.lst vs)))) Q)
    (hx : X.N[jx]? = some x := by rfl) (hloc : Loc (relabel scope X.env) x := by first | exact Or.inl rfl | exact Or.inr rfl) (hlocf : (scope.names.lookup x == some .cell) = true ∨ (relabel scope X.env).names.lookup x = some .local := by first | exact Or.inl rfl | exact Or.inr rfl) (ok : BlkOk X.N X.env.scope scope [(x, jx)] := by exact blkOk_by (by first | rfl | decide +kernel))
    (hy0 : X.N[k]? = some y := by rfl) (hyl : X.env.scope.names.lookup y = some .local := by rfl) (hsw : swapsWith (.ListComp elt [⟨.Name x p, iter, [], 0⟩] scope pos) (some (.Name y py)) spos.line X.env = pure true := by exact sw_true rfl rfl rfl (by first | rfl | decide +kernel))
    (hc : X.calm = true := by rfl) (hs : ∀ x, foldedSetIterable iter X.env x = pure x := by intro _; rfl) :
    WS c X (.Assign [.Name y py] (.ListComp elt [⟨.Name x p, iter, [], 0⟩] scope pos) spos :: rest) st Q := by
  obtain ⟨ds, st1, h1, rfl, h2, rfl, h3, h4, h5, o, h6, h7⟩ := h
  refine ⟨o, xs_cons (xp_mapS k own? jx S vs rfl hN h1 h2 h3 h4 (fun i d v q1 q2 => ⟨(S (i + 1)).set jx (some (.fr d)), ?_, fun sh H C cl fp => ?_⟩) hx hloc hlocf ok hy0 hyl hsw hc hs) h6, h7⟩
  · have hi : i < ds.length := by
      rcases Nat.lt_or_ge i ds.length with z | z
      · exact z
      · rw [List.getElem?_eq_none z] at q1; cases q1
    exact set_none (h4 (i + 1) hi) _
  · obtain ⟨d', s', z1, rfl, rfl⟩ := h5 i d v q1 q2 sh H C cl fp
    exact z1
end
end Dv
namespace Dv
/-- what turns with a test give, by their places -/
def rgo (n : Nat) (F : Nat → Option Dt) : List (Option Dt) := (List.range n).map F
theorem rgo_len (n : Nat) (F : Nat → Option Dt) : (rgo n F).length = n := by unfold rgo; simp
theorem rgo_get {w i : Nat} {g : Nat → Option Dt} {d : Option Dt} (h : (rgo w g)[i]? = some d) : i < w ∧ d = g i := by
  unfold rgo at h
  rw [List.getElem?_map] at h
  by_cases q : i < w
  · rw [List.getElem?_range q] at h; cases h; exact ⟨q, rfl⟩
  · rw [List.getElem?_eq_none (by simpa using q)] at h; cases h
end Dv
set_option autoImplicit false
set_option maxRecDepth 100000
set_option maxHeartbeats 4000000
set_option exponentiation.threshold 100000
namespace Dv
open PySem PySem.Spec PyProof.Rows L2 Mq
/-! ### sums of what is not zero -/
def nzL (f : Nat → Option Rat) (n : Nat) : List Rat := (List.range n).filterMap f
theorem collect_one (o : Option Dt) : collect [o] = o.toList := by cases o <;> rfl
theorem nzL_succ (f : Nat → Option Rat) (n : Nat) : nzL f (n + 1) = nzL f n ++ (f n).toList := by
  unfold nzL
  rw [List.range_succ, List.filterMap_append]
  cases h : f n with
  | none => rw [List.filterMap_cons_none h]; rfl
  | some q => rw [List.filterMap_cons_some h]; rfl
theorem collect_nz (f : Nat → Option Rat) : ∀ n, collect (rgo n fun i => (f i).map dR) = (nzL f n).map dR
  | 0 => rfl
  | n + 1 => by
    have e : (rgo (n + 1) fun i => (f i).map dR) = (rgo n fun i => (f i).map dR) ++ [(f n).map dR] := by
      unfold rgo
      rw [List.range_succ, List.map_append]; rfl
    rw [e, collect_app, collect_nz f n, nzL_succ, List.map_append, collect_one]
    cases f n <;> rfl
theorem sumL_nz (f : Nat → Option Rat) : ∀ n, sumL (nzL f n) = sumTo (fun i => (f i).getD 0) n
  | 0 => rfl
  | n + 1 => by
    rw [nzL_succ, sumL_app, sumL_nz f n]
    show _ = sumTo _ n + (f n).getD 0
    cases f n with
    | none => rfl
    | some q => show _ + (q + 0) = _; rw [Rat.add_zero]; rfl
theorem nzL_len (f : Nat → Option Rat) (n : Nat) : (nzL f n).length ≤ n := by
  have := List.length_filterMap_le f (List.range n)
  rw [List.length_range] at this
  exact this
theorem nzL_mem {f : Nat → Option Rat} {n : Nat} {q : Rat} (h : q ∈ nzL f n) : ∃ i, i < n ∧ f i = some q := by
  obtain ⟨i, hi, e⟩ := List.mem_filterMap.mp h
  exact ⟨i, List.mem_range.mp hi, e⟩
theorem sumL_take {qs : List Rat} {i : Nat} {q : Rat} (h : qs[i]? = some q) : sumL (qs.take (i + 1)) = sumL (qs.take i) + q := by
  rw [List.take_succ, h, sumL_app]
  show _ + (q + 0) = _
  rw [Rat.add_zero]
/-- the sizes that a sum of products may have -/
structure Sq (n D1 m1 D2 m2 : Nat) : Prop where
  p1 : 0 < D1
  p2 : 0 < D2
  d : D1 * D2 < 2 ^ 3000
  m : n * (m1 * m2) < 2 ^ 3000
theorem pw (k : Nat) : 0 < 2 ^ k := Nat.pow_pos (by decide)
theorem Sq.at {n D1 m1 D2 m2 : Nat} (h : Sq n D1 m1 D2 m2) {i : Nat} (hi : i ≤ n) {q : Rat} (hq : Hd (D1 * D2) (i * (m1 * m2)) q) : Sz 3000 q :=
  Hd.sz (Nat.mul_pos h.p1 h.p2) hq (Nat.lt_of_le_of_lt (Nat.mul_le_mul_right _ hi) h.m) h.d
theorem Sq.prod {n D1 m1 D2 m2 : Nat} (h : Sq n D1 m1 D2 m2) (hn : 0 < n) {a b : Rat} (ha : Hd D1 m1 a) (hb : Hd D2 m2 b) : Sz 3000 (a * b) :=
  h.at (i := 1) hn (by rw [Nat.one_mul]; exact ha.mul h.p1 h.p2 hb)
theorem Sq.one {n D1 m1 D2 m2 : Nat} (h : Sq n D1 m1 D2 m2) (hn : 0 < n) {a b : Rat} (ha : Hd D1 m1 a) (hb : Hd D2 m2 b) (hz : a ≠ 0) (hz' : b ≠ 0) : Sz 3000 a ∧ Sz 3000 b := by
  have hD1 : D1 ≤ D1 * D2 := Nat.le_mul_of_pos_right _ h.p2
  have hD2 : D2 ≤ D1 * D2 := Nat.le_mul_of_pos_left _ h.p1
  have k1 : 0 < m1 := by
    rcases Nat.eq_zero_or_pos m1 with e | e
    · obtain ⟨z, a1, rfl⟩ := ha
      rw [e] at a1
      exact absurd (by rw [show z = 0 from by omega, Rat.zero_divInt]) hz
    · exact e
  have k2 : 0 < m2 := by
    rcases Nat.eq_zero_or_pos m2 with e | e
    · obtain ⟨z, a1, rfl⟩ := hb
      rw [e] at a1
      exact absurd (by rw [show z = 0 from by omega, Rat.zero_divInt]) hz'
    · exact e
  have m12 : m1 * m2 ≤ n * (m1 * m2) := Nat.le_mul_of_pos_left _ hn
  have hm1 : m1 ≤ m1 * m2 := Nat.le_mul_of_pos_right _ k2
  have hm2 : m2 ≤ m1 * m2 := Nat.le_mul_of_pos_left _ k1
  have hd := h.d
  have hm := h.m
  exact ⟨ha.sz h.p1 (by omega) (by omega), hb.sz h.p2 (by omega) (by omega)⟩
theorem num_zero {q : Rat} (h : q.num = 0) : q = 0 := Rat.num_eq_zero.mp h
theorem num_ne {q : Rat} (h : ¬q.num = 0) : q ≠ 0 := fun e => h (by rw [e]; rfl)
end Dv
set_option autoImplicit false
set_option maxRecDepth 100000
set_option maxHeartbeats 4000000
set_option exponentiation.threshold 100000
namespace My
open PySem PySem.Spec PyProof.Rows L2 Dv Mq
section
variable {P : Program} {w : World} {K : PySem.W.Frag} {T : Ct} {mg : Str → Option Value} {base : Heap} {f CR CM : Addr} {fd : FuncData}
abbrev sRN : Stmt := inClass cRat 4
abbrev sTotal : Stmt := topS 14
abbrev sDotP : Stmt := topS 16
def RRN (ds : List Dt) (r : Dt) : Prop := ∃ (a : Rat), ds = [dR a] ∧ Sz 4000 a ∧ r = dR (-a)
theorem scRN : FnScope ["self"] ["self"] (defScope sRN) := ⟨rfl, rfl, rfl, by decide +kernel, rfl, by decide +kernel, by decide +kernel⟩
theorem ok_RN (F : Fun K "__neg__" "Ratio.__neg__" sRN f fd) (D : Md K T mg CR CM) (I : IF' P w K T mg base 0 CR [] 1 RIn) : FnOk P w K mg base CX0 3 f fd ["self"] (spD K T RRN) := by
  refine okD F scRN (fun ds r h => by obtain ⟨_, rfl, _⟩ := h; rfl) fun cdv A outer s H E pa ds r hr hR => ?_
  obtain ⟨a, rfl, ha, er⟩ := hR
  have e : -a = Rat.divInt (-a.num) a.den := by rw [← Rat.neg_divInt, self_q]
  rw [e] at er
  subst er
  exact ⟨_, xs_one (xp_ret (xd_mk D.R I rfl hr (xa_cons (xd_neg (xd_ff 0 (xd_var 0) D.R rfl D.Rn)) (xa_cons (xd_ff 1 (xd_var 0) D.R rfl D.Rd) xa_nil)) (rin (den_ne a) (log2_lt (den_ne a) ha.2 (by decide))))), .inl ⟨_, rfl⟩⟩
def RTotal (ds : List Dt) (r : Dt) : Prop := ∃ (qs : List Rat), ds = [.lst (qs.map dR)] ∧ qs.length ≤ 8 ∧ (∀ q ∈ qs, Sz 200 q) ∧ r = dR (Dv.sumL qs)
theorem scTotal : FnScope ["numbers", "found", "number"] ["numbers"] (defScope sTotal) := ⟨rfl, rfl, rfl, by decide +kernel, rfl, by decide +kernel, by decide +kernel⟩
theorem sz_sumL {b : Nat} : ∀ qs : List Rat, (∀ q ∈ qs, Sz b q) → Sz (qs.length * (b + 1) + 1) (Dv.sumL qs)
  | [], _ => Sz.zero (by omega)
  | q :: qs, h => by
    have z := (h q (List.mem_cons_self ..)).add (sz_sumL qs fun x hx => h x (List.mem_cons_of_mem _ hx))
    exact z.mono (by rw [List.length_cons, Nat.add_mul]; omega)
theorem ok_total (F : Fun K "total" "total" sTotal f fd) (D : Md K T mg CR CM) (R : RF P w K T mg base CR) : FnOk P w K mg base CX0 4 f fd ["numbers"] (spD K T RTotal) := by
  refine okD F scTotal (fun ds r h => by obtain ⟨_, rfl, _⟩ := h; rfl) fun cdv A outer s H E pa ds r hr hR => ?_
  obtain ⟨qs, rfl, hn, hg, rfl⟩ := hR
  have e0 : Dv.sumL qs = Dv.sumL (qs.take qs.length) := by rw [List.take_length]
  rw [e0]
  let S : Nat → Store := fun i => [some (.fr (.lst (qs.map dR))), some (.fr (dR (Dv.sumL (qs.take i)))), slot (fun i => dR (qs.getD i 0)) i]
  refine ⟨_, xs_cons (XP.to (s2 := S 0) (xp_set 1 scTotal.nd (xd_df0 R.zero rfl hr ⟨rfl, rfl⟩)) rfl)
    (xs_cons (XP.to (s2 := S qs.length) (xp_forN S qs.length (List.length_map ..) (xi_list rfl (xd_var 0)) ?_) rfl) (xs_one (xp_ret (xd_var 1)))), .inl ⟨_, rfl⟩⟩
  intro i d hd
  obtain ⟨q, hq1, rfl⟩ := Dv.map_get hd
  have hi : i < qs.length := (List.getElem?_eq_some_iff.mp hq1).1
  have hs : Sz 4000 (Dv.sumL (qs.take i)) := (sz_sumL _ fun x hx => hg x (List.mem_of_mem_take hx)).mono (by rw [List.length_take]; omega)
  have hq := hg q (List.mem_of_getElem? hq1)
  have e : qs.getD i 0 = q := by rw [List.getD_eq_getElem?_getD, hq1]; rfl
  refine Turns.nx (xg_name 2 scTotal.nd) (xs_one (xp_set 1 scTotal.nd (xd_opF (op := .Add) (xd_var 1) (xd_var 2) D.R R.add rfl hr D.Rf ⟨_, _, rfl, hs, hq.mono (by decide), rfl⟩))) ?_
  show _ = [_, some (Sv.fr (dR (Dv.sumL (qs.take (i + 1))))), some (Sv.fr (dR (qs.getD i 0)))]
  rw [Dv.sumL_take hq1, e]; rfl
def RDotP (ds : List Dt) (r : Dt) : Prop := ∃ (n : Nat) (x y : Nat → Rat), ds = [dVc n x, dVc n y] ∧ n ≤ 8 ∧ (∀ i, Sz 100 (x i)) ∧ (∀ i, Sz 100 (y i)) ∧ r = dR (sumTo (fun t => x t * y t) n)
theorem scDotP : FnScope ["a", "b", "x", "y"] ["a", "b"] (defScope sDotP) := ⟨rfl, rfl, rfl, by decide +kernel, rfl, by decide +kernel, by decide +kernel⟩
theorem sumTo_dv (g : Nat → Rat) : ∀ n, sumTo g n = Dv.sumTo g n
  | 0 => rfl
  | n + 1 => by show sumTo g n + g n = Dv.sumTo g n + g n; rw [sumTo_dv g n]
theorem ok_dotP (F : Fun K "dot" "dot" sDotP f fd) (D : Md K T mg CR CM) (R : RF P w K T mg base CR) (Dt : DF P w K T mg base "total" 4 RTotal) : FnOk P w K mg base CX0 5 f fd ["a", "b"] (spD K T RDotP) := by
  refine okDw F scDotP (fun ds r h => by obtain ⟨_, _, _, rfl, _⟩ := h; rfl) fun cdv A outer s' H E pa ds r hr hR => ?_
  obtain ⟨n, x, y, rfl, hn, hx, hy, rfl⟩ := hR
  let q : Nat → Option Rat := fun i => if (x i).num = 0 ∨ (y i).num = 0 then none else some (x i * y i)
  have hz : ∀ i, (q i).getD 0 = x i * y i := fun i => by
    show (if _ then _ else _ : Option Rat).getD 0 = _
    split
    · rename_i h
      rcases h with h | h
      · rw [Rat.num_eq_zero.mp h, Rat.zero_mul]; rfl
      · rw [Rat.num_eq_zero.mp h, Rat.mul_zero]; rfl
    · rfl
  have e0 : sumTo (fun t => x t * y t) n = Dv.sumL (Dv.nzL q n) := by rw [sumTo_dv, Dv.sumL_nz]; exact Dv.sumTo_ext fun i _ => (hz i).symm
  refine ws_ret ?_
  refine we_df Dt rfl hr ?_
  refine wa_cons ?_
  refine we_xl ?_
  refine wl_map2F 2 3 (Dv.rgo n fun i => (q i).map dR) scDotP.nd rfl rfl ?_
  refine wi_zip rfl D.zip ?_
  refine wa_cons ?_
  refine we_var 0 rfl ?_
  refine wa_cons ?_
  refine we_var 1 rfl ?_
  refine wa_nil ?_
  refine ⟨_, _, _, _, rfl, by constructor, by constructor, ?_⟩
  rw [rg_zip]
  refine ⟨by rw [Dv.rgo_len, rg_len], by rw [rg_len]; omega, rfl, rfl, ?_, ?_⟩
  · intro i d r hg1 hg2
    obtain ⟨hi, rfl⟩ := rg_get hg1
    obtain ⟨_, rfl⟩ := Dv.rgo_get hg2
    refine ⟨_, _, (decide (¬((x i).num = 0 ∨ (y i).num = 0))), rfl, ?_, fun sh H C cl fp => ?_⟩
    · show _ ∨ _
      by_cases h : (x i).num = 0 ∨ (y i).num = 0
      · exact .inl ⟨decide_eq_false (not_not_intro h), by show Option.map dR (if _ then _ else _) = _; rw [if_pos h]; rfl⟩
      refine .inr ⟨decide_eq_true h, dR (x i * y i), by show Option.map dR (if _ then _ else _) = _; rw [if_neg h]; rfl, fun sh H C cl fp => ?_⟩
      refine we_bin ?_
      refine we_var 2 rfl ?_
      refine we_var 3 rfl ?_
      refine br_own D.R R.mul rfl (hr.mono (by decide)) D.Rf ⟨_, _, rfl, (hx i).mono (by decide), (hy i).mono (by decide), rfl⟩ ?_
      exact ⟨rfl, rfl⟩
    · refine wt_of ?_
      refine ww_and ?_
      refine wt_cmp ?_
      refine we_ff 0 D.R rfl D.Rn ?_
      refine we_var 2 rfl ?_
      refine ⟨_, _, rfl, rfl, ?_⟩
      refine we_int ?_
      refine cr_neI ?_
      refine ifk_S (fun h1 => ?_) (fun h1 => ?_)
      rotate_left
      · simp only [Bool.not_eq_false', decide_eq_true_eq] at h1
        exact ⟨(decide_eq_false (not_not_intro (.inl h1))).symm, rfl⟩
      simp only [Bool.not_eq_true', decide_eq_false_iff_not] at h1
      refine ww_and1 ?_
      refine wt_cmp ?_
      refine we_ff 0 D.R rfl D.Rn ?_
      refine we_var 3 rfl ?_
      refine ⟨_, _, rfl, rfl, ?_⟩
      refine we_int ?_
      refine cr_neI ?_
      exact ⟨by simp [h1], rfl⟩
  refine wa_nil ?_
  refine ⟨_, ⟨Dv.nzL q n, congrArg (fun z => [Dv.Dt.lst z]) (Dv.collect_nz q n), Nat.le_trans (Dv.nzL_len q n) hn, fun z hz' => ?_, rfl⟩, ?_⟩
  rotate_left
  · exact congrArg dR e0.symm
  · obtain ⟨i, hi, e⟩ := Dv.nzL_mem hz'
    have e : (if (x i).num = 0 ∨ (y i).num = 0 then none else some (x i * y i)) = some z := e
    split at e
    · cases e
    · cases e
      exact ((hx i).mul (hy i)).mono (by decide)
end
end My
set_option autoImplicit false
set_option maxRecDepth 100000
set_option maxHeartbeats 4000000
set_option exponentiation.threshold 100000
namespace My
open PySem PySem.Spec PyProof.Rows L2 Dv Mq
abbrev cAl : Stmt := topS 24
abbrev cMac : Stmt := topS 20
def dA (l : List Nat) : Dt := .obj 2 [.str (sx l)]
def dMs (L n : Nat) (M : Nat → Nat → Nat → Rat) : List Dt := rg L fun k => dMx n n (M k)
def dW (l : List Nat) (n : Nat) (r : Nat → Rat) (M : Nat → Nat → Nat → Rat) (cl : Nat → Rat) : Dt := .obj 3 [dA l, dVc n r, .tup (dMs l.length n M), dVc n cl]
/-- what is known of alphabets and machines -/
structure Wd (K : PySem.W.Frag) (T : Ct) (mg : Str → Option Value) (CA CW : Addr) : Prop where
  A : CF K T mg "Alphabet" 2 CA ["letters"]
  W : CF K T mg "Machine" 3 CW ["alphabet", "row", "matrices", "column"]
  Al : NoAttr K CA "letters"
  Wa : NoAttr K CW "alphabet"
  Wr : NoAttr K CW "row"
  Wm : NoAttr K CW "matrices"
  Wc : NoAttr K CW "column"
  AX : ClsX K CA
  WX : ClsX K CW
  Wf : PySem.W.selfFirst K CW = true
  all : mg "all" = none
  set : mg "set" = none
  str : mg "str" = none
section
variable {P : Program} {w : World} {K : PySem.W.Frag} {T : Ct} {mg : Str → Option Value} {base : Heap} {f CR CM CA CW : Addr} {fd : FuncData}
abbrev sAI : Stmt := inClass cAl 0
abbrev sAL : Stmt := inClass cAl 1
abbrev sAE : Stmt := inClass cAl 4
abbrev sAX : Stmt := inClass cAl 5
structure AlOk (l : List Nat) : Prop where
  lo : 1 ≤ l.length
  hi : l.length ≤ 4
  rng : ∀ x ∈ l, 97 ≤ x ∧ x ≤ 122
  nd : l.Nodup
def RAI (ds fs : List Dt) : Prop := ∃ l : List Nat, ds = [.str (sx l)] ∧ AlOk l ∧ fs = [.str (sx l)]
theorem scAI : FnScope ["self", "letters", "letter"] ["self", "letters"] (defScope sAI) := ⟨rfl, rfl, rfl, by decide +kernel, rfl, by decide +kernel, by decide +kernel⟩
theorem rg_bls (n : Nat) (b : Bool) : (rg n fun _ => Dt.bl b) = ((List.range n).map fun _ => b).map .bl := by unfold rg; rw [List.map_map]; rfl
theorem ok_AI (F : Fun K "__init__" "Alphabet.__init__" sAI f fd) (D : Md K T mg CR CM) (E : Wd K T mg CA CW) : FnOk P w K mg base CX0 1 f fd ["self", "letters"] (spI K T 2 RAI) := by
  refine okI F scAI E.A.at_ (fun ds fs h => by obtain ⟨_, rfl, _⟩ := h; rfl) (fun ds fs h => by obtain ⟨_, _, _, rfl⟩ := h; rfl) fun cdv A outer s H E' pa ds fs hr hR => ?_
  obtain ⟨l, rfl, hl, rfl⟩ := hR
  have h1 := hl.lo
  have h2 := hl.hi
  have nd : (["letters"] : List Str).Nodup := by decide +kernel
  refine ⟨_, xs_cons (xp_if (tb := false) (xw_pt (xw_orF (xt_not (t := true) (xt_val (xd_isTy (id := "str") (xd_var 1) .str rfl D.isi E.str (by decide +kernel) rfl)))
      (xw_or1 (xt_not (t := true) (xt_leleI (i := 1) (j := (l.length : Int)) (m := 4) xd_int (xd_lenX (xd_var 1) (by omega) D.len) xd_int (by rw [decide_eq_true (show (1 : Int) ≤ l.length by omega), decide_eq_true (show (l.length : Int) ≤ 4 by omega)]; rfl))))))
      (fun z => nomatch z) (fun _ => xs_nil))
    (xs_cons (xp_if (tb := false) (xt_not (t := true) (xt_val (xd_all (bs := (List.range l.length).map fun _ => true) (XD.to (xd_xl (xl_map1 2 (rg l.length fun _ => .bl true) scAI.nd (xi_strX (xd_var 1)) (by rw [rg_len, List.length_map]) (by rw [List.length_map]; omega) rfl fun i d v g1 g2 sh H C cl fp => by
      rw [List.getElem?_map] at g1
      obtain ⟨_, rfl⟩ := rg_get g2
      cases e : l[i]? with
      | none => rw [e] at g1; cases g1
      | some x =>
        rw [e] at g1
        cases g1
        obtain ⟨b1, b2⟩ := hl.rng x (List.mem_of_getElem? e)
        refine XD.to (xd_leleX (q := x) (r := 97) (u := 122) xd_str (xd_var 2) xd_str) ?_
        rw [decide_eq_true b1, decide_eq_true b2]; rfl)) (by rw [rg_bls])) (by simp) rfl E.all))) (fun z => nomatch z) (fun _ => xs_nil)) (xs_cons (xp_if (tb := false) (xt_lt (xd_lenSet (xd_var 1) hl.nd (by omega) (fun x hx => by have := hl.rng x hx; omega) rfl D.len E.set) (xd_lenX (xd_var 1) (by omega) D.len) (decide_eq_false (by omega))) (fun z => nomatch z) (fun _ => xs_nil)) (xs_one (xp_fldset (xd_var 1) E.A.at_ nd E.A.cl E.Al rfl rfl)))), rfl⟩
def RALen (ds : List Dt) (r : Dt) : Prop := ∃ l : List Nat, ds = [dA l] ∧ l.length ≤ 4 ∧ r = .int (l.length : Int)
theorem scAL : FnScope ["self"] ["self"] (defScope sAL) := ⟨rfl, rfl, rfl, by decide +kernel, rfl, by decide +kernel, by decide +kernel⟩
theorem ok_AL (F : Fun K "__len__" "Alphabet.__len__" sAL f fd) (D : Md K T mg CR CM) (E : Wd K T mg CA CW) : FnOk P w K mg base CX0 1 f fd ["self"] (spD K T RALen) := by
  refine okD F scAL (fun ds r h => by obtain ⟨_, rfl, _⟩ := h; rfl) fun cdv A outer s H E' pa ds r hr hR => ?_
  obtain ⟨l, rfl, h, rfl⟩ := hR
  exact ⟨_, xs_one (xp_ret (xd_lenX (xd_ff 0 (xd_var 0) E.A rfl E.Al) (by omega) D.len)), .inl ⟨_, rfl⟩⟩
def RAEq (ds : List Dt) (r : Dt) : Prop := ∃ l m : List Nat, ds = [dA l, dA m] ∧ r = .bl (decide (l = m))
theorem scAE : FnScope ["self", "other"] ["self", "other"] (defScope sAE) := ⟨rfl, rfl, rfl, by decide +kernel, rfl, by decide +kernel, by decide +kernel⟩
theorem dec_X {l m : List Nat} : decide (V.str (sx l) = V.str (sx m)) = decide (l = m) := by
  by_cases h : l = m
  · subst h; rw [decide_eq_true rfl, decide_eq_true rfl]
  · rw [decide_eq_false h, decide_eq_false fun z => h (sx_inj (by injection z))]
theorem ok_AE (F : Fun K "__eq__" "Alphabet.__eq__" sAE f fd) (D : Md K T mg CR CM) (E : Wd K T mg CA CW) : FnOk P w K mg base CX0 1 f fd ["self", "other"] (spD K T RAEq) := by
  refine okD F scAE (fun ds r h => by obtain ⟨_, _, rfl, _⟩ := h; rfl) fun cdv A outer s H E' pa ds r hr hR => ?_
  obtain ⟨l, m, rfl, rfl⟩ := hR
  exact ⟨_, xs_one (xp_ret (xd_and (t := true) (u := decide (l = m)) (xd_isOwn (xd_var 1) E.A E.AX rfl D.isi) fun _ => xd_one (xd_eqS (xd_ff 0 (xd_var 0) E.A rfl E.Al) (xd_ff 0 (xd_var 1) E.A rfl E.Al) rfl rfl rfl dec_X))), .inl ⟨_, rfl⟩⟩
def RAX (ds : List Dt) (r : Dt) : Prop := ∃ (l : List Nat) (q : Nat), ds = [dA l, .str (sx [q])] ∧ q ∈ l ∧ r = .int ((l.idxOf q : Nat) : Int)
theorem scAX : FnScope ["self", "letter"] ["self", "letter"] (defScope sAX) := ⟨rfl, rfl, rfl, by decide +kernel, rfl, by decide +kernel, by decide +kernel⟩
theorem ok_AX (F : Fun K "index" "Alphabet.index" sAX f fd) (D : Md K T mg CR CM) (E : Wd K T mg CA CW) : FnOk P w K mg base CX0 1 f fd ["self", "letter"] (spD K T RAX) := by
  refine okD F scAX (fun ds r h => by obtain ⟨_, _, rfl, _⟩ := h; rfl) fun cdv A outer s H E' pa ds r hr hR => ?_
  obtain ⟨l, q, rfl, hq, rfl⟩ := hR
  exact ⟨_, xs_cons (xp_if (tb := false) (xw_pt (xw_orF (xt_not (t := true) (xt_val (xd_isTy (id := "str") (xd_var 1) .str rfl D.isi E.str (by decide +kernel) rfl)))
      (xw_orF (xt_neI (xd_lenX (xd_var 1) (by simp) D.len) xd_int rfl) (xw_or1 (xt_notinX (xd_var 1) (xd_ff 0 (xd_var 0) E.A rfl E.Al) (by rw [decide_eq_true hq]; rfl)))))) (fun z => nomatch z) (fun _ => xs_nil))
    (xs_one (xp_ret (xd_findX (xd_ff 0 (xd_var 0) E.A rfl E.Al) (xd_var 1) hq))), .inl ⟨_, rfl⟩⟩
/-! ### machines -/
abbrev sIsSq : Stmt := topS 21
def RIsSq (ds : List Dt) (r : Dt) : Prop := ∃ (n : Nat) (g : Nat → Nat → Rat), ds = [dMx n n g, .int n] ∧ n ≤ 1000 ∧ r = .bl true
theorem scIsSq : FnScope ["matrix", "n"] ["matrix", "n"] (defScope sIsSq) := ⟨rfl, rfl, rfl, by decide +kernel, rfl, by decide +kernel, by decide +kernel⟩
theorem ok_isSq (F : Fun K "_is_square" "_is_square" sIsSq f fd) (D : Md K T mg CR CM) (L : MF P w K T mg base CM "__len__" 1 RLen) : FnOk P w K mg base CX0 3 f fd ["matrix", "n"] (spD K T RIsSq) := by
  refine okD F scIsSq (fun ds r h => by obtain ⟨_, _, rfl, _⟩ := h; rfl) fun cdv A outer s H E' pa ds r hr hR => ?_
  obtain ⟨n, g, rfl, hn, rfl⟩ := hR
  have e : (decide ((n : Int) = n) && decide ((n : Int) = n)) = true := by simp
  rw [← e]
  exact ⟨_, xs_one (xp_ret (xd_and (xd_eqI (xd_lenF (xd_var 0) D.M L rfl hr ⟨n, n, g, rfl, rfl⟩ (by omega) (by omega) D.len) (xd_var 1)) fun _ => xd_one (xd_eqI (xd_ff 1 (xd_var 0) D.M rfl D.Mw) (xd_var 1)))), .inl ⟨_, rfl⟩⟩
abbrev sWI : Stmt := inClass cMac 0
abbrev sWS : Stmt := inClass cMac 1
/-- a list or a tuple -/
def LT (d : Dt) (xs : List Dt) : Prop := d = .lst xs ∨ d = .tup xs
def RWI (ds fs : List Dt) : Prop := ∃ (l : List Nat) (n : Nat) (r : Nat → Rat) (M : Nat → Nat → Nat → Rat) (cl : Nat → Rat) (dr dm dc : Dt), ds = [dA l, dr, dm, dc] ∧ LT dr (rg n fun j => dR (r j)) ∧ LT dm (dMs l.length n M) ∧ LT dc (rg n fun j => dR (cl j)) ∧ n ≤ 8 ∧ l.length ≤ 4 ∧
  fs = [dA l, dVc n r, .tup (dMs l.length n M), dVc n cl]
abbrev nWI : List Str := ["self", "alphabet", "row", "matrices", "column", "matrix"]
theorem scWI : FnScope nWI ["self", "alphabet", "row", "matrices", "column"] (defScope sWI) := ⟨rfl, rfl, rfl, by decide +kernel, rfl, by decide +kernel, by decide +kernel⟩
theorem ok_WI (F : Fun K "__init__" "Machine.__init__" sWI f fd) (D : Md K T mg CR CM) (E : Wd K T mg CA CW) (AL : MF P w K T mg base CA "__len__" 1 RALen) (Q : DF P w K T mg base "_is_square" 3 RIsSq) : FnOk P w K mg base CX0 4 f fd ["self", "alphabet", "row", "matrices", "column"] (spI K T 3 RWI) := by
  refine okI F scWI E.W.at_ (fun ds fs h => by obtain ⟨_, _, _, _, _, _, _, _, rfl, _⟩ := h; rfl) (fun ds fs h => by obtain ⟨_, _, _, _, _, _, _, _, _, _, _, _, _, _, rfl⟩ := h; rfl) fun cdv A outer s H E' pa ds fs hr hR => ?_
  obtain ⟨l, n, r, M, cl, dr, dm, dc, rfl, hr1, hm1, hc1, hn, hl, rfl⟩ := hR
  have nd : (["alphabet", "row", "matrices", "column"] : List Str).Nodup := by decide +kernel
  have ll : ∀ g : Nat → Rat, ((rg n fun j => dR (g j)).length : Int) = (n : Int) := fun g => by rw [rg_len]
  refine ⟨_, xs_cons (xp_fldset (xd_var 1) E.W.at_ nd E.W.cl E.Wa rfl rfl) (xs_cons (xp_fldset (xd_tuple (xd_var 2) hr1 rfl D.tup) E.W.at_ nd E.W.cl E.Wr rfl rfl) (xs_cons (xp_fldset (xd_tuple (xd_var 3) hm1 rfl D.tup) E.W.at_ nd E.W.cl E.Wm rfl rfl) (xs_cons (xp_fldset (xd_tuple (xd_var 4) hc1 rfl D.tup) E.W.at_ nd E.W.cl E.Wc rfl rfl)
    (xs_cons (xp_if (tb := false) (xt_neI (xd_len (xd_fldB 1 rfl rfl E.W.at_ E.W.cl E.Wr rfl rfl) (.inr (.inr rfl)) rfl D.len) (xd_len (xd_fldB 3 rfl rfl E.W.at_ E.W.cl E.Wc rfl rfl) (.inr (.inr rfl)) rfl D.len) (by rw [ll, ll, decide_eq_true rfl]; rfl)) (fun z => nomatch z) (fun _ => xs_nil))
    (xs_cons (xp_if (tb := false) (xt_neI (xd_len (xd_fldB 2 rfl rfl E.W.at_ E.W.cl E.Wm rfl rfl) (.inr (.inr rfl)) rfl D.len) (xd_lenF (xd_var 1) E.A AL rfl (hr.mono (by decide)) ⟨l, rfl, hl, rfl⟩ (by omega) (by omega) D.len) (by unfold dMs; rw [rg_len, decide_eq_true rfl]; rfl)) (fun z => nomatch z) (fun _ => xs_nil))
    (xs_one (xp_if (tb := false) (xt_not (t := true) (xt_val (xd_all (bs := (List.range l.length).map fun _ => true) (XD.to (xd_xl (xl_map1 5 (rg l.length fun _ => .bl true) scWI.nd (xi_tup rfl (xd_fldB 2 rfl rfl E.W.at_ E.W.cl E.Wm rfl rfl)) (by unfold dMs; rw [rg_len, rg_len]) (by unfold dMs; rw [rg_len]; omega) rfl fun i d v g1 g2 sh H C cl' fp => by
      obtain ⟨_, rfl⟩ := rg_get g1
      obtain ⟨_, rfl⟩ := rg_get g2
      exact xd_df Q rfl hr (xa_cons (xd_var 5) (xa_cons (XD.to (xd_len (xd_fldB 1 rfl rfl E.W.at_ E.W.cl E.Wr rfl rfl) (.inr (.inr rfl)) rfl D.len) (by rw [ll])) xa_nil)) ⟨n, M i, rfl, by omega, rfl⟩)) (by rw [rg_bls])) (by simp) rfl E.all))) (fun z => nomatch z) (fun _ => xs_nil)))))))), rfl⟩
def RWS (ds : List Dt) (d : Dt) : Prop := ∃ (l : List Nat) (n : Nat) (r : Nat → Rat) (M : Nat → Nat → Nat → Rat) (cl : Nat → Rat), ds = [dW l n r M cl] ∧ d = .int (n : Int)
theorem scWS : FnScope ["self"] ["self"] (defScope sWS) := ⟨rfl, rfl, rfl, by decide +kernel, rfl, by decide +kernel, by decide +kernel⟩
theorem ok_WS (F : Fun K "size" "Machine.size" sWS f fd) (D : Md K T mg CR CM) (E : Wd K T mg CA CW) : FnOk P w K mg base CX0 1 f fd ["self"] (spD K T RWS) := by
  refine okD F scWS (fun ds r h => by obtain ⟨_, _, _, _, _, rfl, _⟩ := h; rfl) fun cdv A outer s H E' pa ds d hr hR => ?_
  obtain ⟨l, n, r, M, cl, rfl, rfl⟩ := hR
  exact ⟨_, xs_one (xp_ret (XD.to (xd_len (xd_ff 1 (xd_var 0) E.W rfl E.Wr) (.inr (.inr rfl)) rfl D.len) (by rw [rg_len]))), .inl ⟨_, rfl⟩⟩
end
end My
set_option autoImplicit false
set_option maxRecDepth 100000
set_option maxHeartbeats 4000000
set_option exponentiation.threshold 100000
namespace My
open PySem PySem.Spec PyProof.Rows L2 Dv Mq
section
variable {P : Program} {w : World} {K : PySem.W.Frag} {T : Ct} {mg : Str → Option Value} {base : Heap} {f CR CM CA CW : Addr} {fd : FuncData}
abbrev sWW : Stmt := inClass cMac 3
abbrev sWC : Stmt := inClass cMac 4
abbrev sWR : Stmt := inClass cMac 5
abbrev sWM : Stmt := inClass cMac 7
/-- the row, multiplied by the matrix of a letter; by those of a word -/
def stepR (l : List Nat) (n : Nat) (M : Nat → Nat → Nat → Rat) (y : Nat → Rat) (q : Nat) : Nat → Rat := fun j => sumTo (fun t => y t * M (l.idxOf q) t j) n
def rowR (l : List Nat) (n : Nat) (M : Nat → Nat → Nat → Rat) (y : Nat → Rat) (wd : List Nat) : Nat → Rat := wd.foldl (stepR l n M) y
theorem rowR_take {l : List Nat} {n : Nat} {M : Nat → Nat → Nat → Rat} {y : Nat → Rat} {wd : List Nat} {i q : Nat} (h : wd[i]? = some q) : rowR l n M y (wd.take (i + 1)) = stepR l n M (rowR l n M y (wd.take i)) q := by
  unfold rowR
  rw [List.take_succ, h, List.foldl_append]; rfl
def wtR (l : List Nat) (n : Nat) (r : Nat → Rat) (M : Nat → Nat → Nat → Rat) (cl : Nat → Rat) (wd : List Nat) : Rat := sumTo (fun t => rowR l n M r wd t * cl t) n
def RWM (ds : List Dt) (d : Dt) : Prop := ∃ (l : List Nat) (n : Nat) (r : Nat → Rat) (M : Nat → Nat → Nat → Rat) (cl : Nat → Rat) (q : Nat), ds = [dW l n r M cl, .str (sx [q])] ∧ q ∈ l ∧ d = dMx n n (M (l.idxOf q))
theorem scWM : FnScope ["self", "a"] ["self", "a"] (defScope sWM) := ⟨rfl, rfl, rfl, by decide +kernel, rfl, by decide +kernel, by decide +kernel⟩
theorem ok_WM (F : Fun K "_matrix" "Machine._matrix" sWM f fd) (E : Wd K T mg CA CW) (AX : MF P w K T mg base CA "index" 1 RAX) : FnOk P w K mg base CX0 2 f fd ["self", "a"] (spD K T RWM) := by
  refine okD F scWM (fun ds r h => by obtain ⟨_, _, _, _, _, _, rfl, _⟩ := h; rfl) fun cdv A outer s H E' pa ds d hr hR => ?_
  obtain ⟨l, n, r, M, cl, q, rfl, hq, rfl⟩ := hR
  exact ⟨_, xs_one (xp_ret (xd_ixT (xd_ff 2 (xd_var 0) E.W rfl E.Wm) (xd_mf (xd_ff 0 (xd_var 0) E.W rfl E.Wa) E.A AX rfl hr (xa_cons (xd_var 1) xa_nil) ⟨l, q, rfl, hq, rfl⟩) (m := l.idxOf q) rfl (rg_at (List.idxOf_lt_length_of_mem hq)) rfl)), .inl ⟨_, rfl⟩⟩
def RWR (ds : List Dt) (d : Dt) : Prop := ∃ (l : List Nat) (n : Nat) (r : Nat → Rat) (M : Nat → Nat → Nat → Rat) (cl : Nat → Rat) (wd : List Nat), ds = [dW l n r M cl, .str (sx wd)] ∧ (∀ q ∈ wd, q ∈ l) ∧ n ≤ 8 ∧ (∀ k i j, Sz 100 (M k i j)) ∧ (∀ k j, Sz 100 (rowR l n M r (wd.take k) j)) ∧ d = dVc n (rowR l n M r wd)
theorem scWR : FnScope ["self", "word", "found", "a"] ["self", "word"] (defScope sWR) := ⟨rfl, rfl, rfl, by decide +kernel, rfl, by decide +kernel, by decide +kernel⟩
theorem ok_WR (F : Fun K "row_after" "Machine.row_after" sWR f fd) (D : Md K T mg CR CM) (E : Wd K T mg CA CW) (Mt : MF P w K T mg base CW "_matrix" 2 RWM) (B : MF P w K T mg base CM "before" 7 RBef) : FnOk P w K mg base CX0 8 f fd ["self", "word"] (spD K T RWR) := by
  refine okD F scWR (fun ds r h => by obtain ⟨_, _, _, _, _, _, rfl, _⟩ := h; rfl) fun cdv A outer s H E' pa ds d hr hR => ?_
  obtain ⟨l, n, r, M, cl, wd, rfl, hw, hn, hM, hz, rfl⟩ := hR
  let S : Nat → Store := fun i => [some (.fr (dW l n r M cl)), some (.fr (.str (sx wd))), some (.fr (dVc n (rowR l n M r (wd.take i)))), slot (fun i => .str (sx [wd.getD i 0])) i]
  have e0 : dVc n (rowR l n M r wd) = dVc n (rowR l n M r (wd.take wd.length)) := by rw [List.take_length]
  rw [e0]
  refine ⟨_, xs_cons (XP.to (s2 := S 0) (xp_set 2 scWR.nd (xd_ff 1 (xd_var 0) E.W rfl E.Wr)) rfl)
    (xs_cons (XP.to (s2 := S wd.length) (xp_forN S wd.length (List.length_map ..) (xi_strX (xd_var 1)) ?_) rfl) (xs_one (xp_ret (xd_var 2)))), .inl ⟨_, rfl⟩⟩
  intro i d hd
  rw [List.getElem?_map] at hd
  cases e : wd[i]? with
  | none => rw [e] at hd; cases hd
  | some q =>
    rw [e] at hd
    cases hd
    have eq : wd.getD i 0 = q := by rw [List.getD_eq_getElem?_getD, e]; rfl
    have hq : q ∈ l := hw q (List.mem_of_getElem? e)
    refine Turns.nx (xg_name 3 scWR.nd) (xs_one (xp_set 2 scWR.nd (xd_mf (xd_mf (xd_var 0) E.W Mt rfl (hr.mono (by decide)) (xa_cons (xd_var 3) xa_nil) ⟨l, n, r, M, cl, q, rfl, hq, rfl⟩) D.M B rfl hr (xa_cons (xd_var 2) xa_nil) ⟨n, n, M (l.idxOf q), rowR l n M r (wd.take i), rfl, hn, hn, hM _, hz i, rfl⟩))) ?_
    show _ = [_, _, some (Sv.fr (dVc n (rowR l n M r (wd.take (i + 1))))), some (Sv.fr (.str (sx [wd.getD i 0])))]
    rw [rowR_take e, eq]; rfl
def RWW (ds : List Dt) (d : Dt) : Prop := ∃ (l : List Nat) (n : Nat) (r : Nat → Rat) (M : Nat → Nat → Nat → Rat) (cl : Nat → Rat) (wd : List Nat), ds = [dW l n r M cl, .str (sx wd)] ∧ (∀ q ∈ wd, q ∈ l) ∧ n ≤ 8 ∧ (∀ k i j, Sz 100 (M k i j)) ∧ (∀ k j, Sz 100 (rowR l n M r (wd.take k) j)) ∧ (∀ j, Sz 100 (cl j)) ∧ d = dR (wtR l n r M cl wd)
theorem scWW : FnScope ["self", "word"] ["self", "word"] (defScope sWW) := ⟨rfl, rfl, rfl, by decide +kernel, rfl, by decide +kernel, by decide +kernel⟩
theorem scWC : FnScope ["self", "word"] ["self", "word"] (defScope sWC) := ⟨rfl, rfl, rfl, by decide +kernel, rfl, by decide +kernel, by decide +kernel⟩
theorem ok_WW (F : Fun K "weight" "Machine.weight" sWW f fd) (E : Wd K T mg CA CW) (R : MF P w K T mg base CW "row_after" 8 RWR) (Dp : DF P w K T mg base "dot" 5 RDotP) : FnOk P w K mg base CX0 9 f fd ["self", "word"] (spD K T RWW) := by
  refine okD F scWW (fun ds r h => by obtain ⟨_, _, _, _, _, _, rfl, _⟩ := h; rfl) fun cdv A outer s H E' pa ds d hr hR => ?_
  obtain ⟨l, n, r, M, cl, wd, rfl, hw, hn, hM, hz, hc, rfl⟩ := hR
  have hz' : ∀ j, Sz 100 (rowR l n M r wd j) := fun j => by have := hz wd.length j; rwa [List.take_length] at this
  exact ⟨_, xs_one (xp_ret (xd_df Dp rfl (hr.mono (by decide)) (xa_cons (xd_mf (xd_var 0) E.W R rfl hr (xa_cons (xd_var 1) xa_nil) ⟨l, n, r, M, cl, wd, rfl, hw, hn, hM, hz, rfl⟩) (xa_cons (xd_ff 3 (xd_var 0) E.W rfl E.Wc) xa_nil)) ⟨n, _, _, rfl, hn, hz', hc, rfl⟩)), .inl ⟨_, rfl⟩⟩
/-! ### sums -/
abbrev sDiag : Stmt := topS 22
abbrev sWA : Stmt := inClass cMac 8
abbrev sWSu : Stmt := inClass cMac 9
abbrev sWN : Stmt := inClass cMac 10
abbrev sWSc : Stmt := inClass cMac 11
abbrev sWT : Stmt := inClass cMac 12
def apV (n : Nat) (x y : Nat → Rat) : Nat → Rat := fun i => if i < n then x i else y (i - n)
def diM (m : Nat) (f g : Nat → Nat → Rat) : Nat → Nat → Rat := fun i j => if i < m then (if j < m then f i j else 0) else (if j < m then 0 else g (i - m) (j - m))
theorem rg_app (a b : Nat) (F : Nat → Dt) : rg a F ++ (rg b fun i => F (a + i)) = rg (a + b) F := by
  unfold rg
  rw [List.range_add, List.map_append, List.map_map]; rfl
theorem rg_ap (m n : Nat) (x y : Nat → Rat) : (rg m fun j => dR (x j)) ++ (rg n fun j => dR (y j)) = rg (m + n) fun j => dR (apV m x y j) := by
  rw [← rg_app]
  congr 1
  · exact rg_ext fun j hj => by unfold apV; rw [if_pos hj]
  · exact rg_ext fun j hj => by unfold apV; rw [if_neg (by omega), Nat.add_sub_cancel_left]
theorem rep_z (n : Nat) : (List.replicate (n : Int).toNat [dR 0]).flatten = rg n fun _ => dR 0 := rep_one n (dR 0)
def RDiag (ds : List Dt) (d : Dt) : Prop := ∃ (m n : Nat) (f g : Nat → Nat → Rat), ds = [dMx m m f, dMx n n g] ∧ m + n ≤ 8 ∧ d = dMx (m + n) (m + n) (diM m f g)
abbrev nDiag : List Str := ["m", "n", "above", "row", "below"]
theorem scDiag : FnScope nDiag ["m", "n"] (defScope sDiag) := ⟨rfl, rfl, rfl, by decide +kernel, rfl, by decide +kernel, by decide +kernel⟩
theorem ok_diag (F : Fun K "_diagonal" "_diagonal" sDiag f fd) (D : Md K T mg CR CM) (R : RF P w K T mg base CR) (I : IF' P w K T mg base 1 CM [] 1 RMI) : FnOk P w K mg base CX0 4 f fd ["m", "n"] (spD K T RDiag) := by
  refine okD F scDiag (fun ds r h => by obtain ⟨_, _, _, _, rfl, _⟩ := h; rfl) fun cdv A outer s H E' pa ds d hr hR => ?_
  obtain ⟨m, n, f, g, rfl, hmn, rfl⟩ := hR
  have ze : ∀ k : Nat, k ≤ 8 → (0 : Int) ≤ k ∧ (k : Int) ≤ 1000 := fun k h => ⟨by omega, by omega⟩
  refine ⟨_, xs_cons (xp_map1 2 false 3 (rg m fun i => .tup (rg (m + n) fun j => dR (diM m f g i j))) scDiag.nd (xi_tup rfl (xd_ff 0 (xd_var 0) D.M rfl D.Mr)) (by rw [rg_len, rg_len]) (by rw [rg_len]; omega) rfl ?_)
    (xs_cons (xp_map1 4 false 3 (rg n fun i => .tup (rg (m + n) fun j => dR (diM m f g (m + i) j))) scDiag.nd (xi_tup rfl (xd_ff 0 (xd_var 1) D.M rfl D.Mr)) (by rw [rg_len, rg_len]) (by rw [rg_len]; omega) rfl ?_)
    (xs_one (xp_ret (xd_mk D.M I rfl (hr.mono (by decide)) (xa_cons (xd_cat (xd_var 2) (xd_var 4) (by rw [rg_len, rg_len]; omega)) (xa_cons (xd_add (xd_ff 1 (xd_var 0) D.M rfl D.Mw) (xd_ff 1 (xd_var 1) D.M rfl D.Mw)) xa_nil)) ⟨m + n, m + n, fun i => .tup (rg (m + n) fun j => dR (diM m f g i j)), fun i => rg (m + n) fun j => dR (diM m f g i j), ?_, hmn, fun i _ => .inr rfl, rfl⟩)))), .inl ⟨_, rfl⟩⟩
  · intro i d v h1 h2 sh H C cl fp
    obtain ⟨hi, rfl⟩ := rg_get h1
    obtain ⟨_, rfl⟩ := rg_get h2
    refine XD.to (xd_tcat (xd_var 3) (xd_trep (xd_tup (xa_cons (xd_df0 R.zero rfl (hr.mono (by decide)) ⟨rfl, rfl⟩) xa_nil) (by simp)) (xd_ff 1 (xd_var 1) D.M rfl D.Mw) rfl (by simp) (by omega) (by omega) (by simp)) rfl (by rw [rg_len, rep_z, rg_len]; omega)) ?_
    rw [rep_z, rg_ap m n (f i) (fun _ => 0)]
    refine congrArg Dt.tup (rg_ext fun j hj => congrArg dR ?_)
    unfold apV diM
    rw [if_pos hi]
  · intro i d v h1 h2 sh H C cl fp
    obtain ⟨hi, rfl⟩ := rg_get h1
    obtain ⟨_, rfl⟩ := rg_get h2
    refine XD.to (xd_tcat (xd_trep (xd_tup (xa_cons (xd_df0 R.zero rfl (hr.mono (by decide)) ⟨rfl, rfl⟩) xa_nil) (by simp)) (xd_ff 1 (xd_var 0) D.M rfl D.Mw) rfl (by simp) (by omega) (by omega) (by simp)) (xd_var 3) rfl (by rw [rep_z, rg_len, rg_len]; omega)) ?_
    rw [rep_z, rg_ap m n (fun _ => 0) (g i)]
    refine congrArg Dt.tup (rg_ext fun j hj => congrArg dR ?_)
    unfold apV diM
    rw [if_neg (show ¬ m + i < m by omega), Nat.add_sub_cancel_left]
  · rw [rg_app m n fun i => Dt.tup (rg (m + n) fun j => dR (diM m f g i j))]
    rfl
/-- the sum's matrices -/
def diMs (m : Nat) (M M' : Nat → Nat → Nat → Rat) : Nat → Nat → Nat → Rat := fun k => diM m (M k) (M' k)
def RWA (ds : List Dt) (d : Dt) : Prop := ∃ (l : List Nat) (m n : Nat) (r r' : Nat → Rat) (M M' : Nat → Nat → Nat → Rat) (cl cl' : Nat → Rat), ds = [dW l m r M cl, dW l n r' M' cl'] ∧ m + n ≤ 8 ∧ l.length ≤ 4 ∧ d = dW l (m + n) (apV m r r') (diMs m M M') (apV m cl cl')
abbrev nWA : List Str := ["self", "other", "matrices", "m", "n"]
theorem scWA : FnScope nWA ["self", "other"] (defScope sWA) := ⟨rfl, rfl, rfl, by decide +kernel, rfl, by decide +kernel, by decide +kernel⟩
/-- Alphabet's own ==, with what != wants -/
structure AF (P : Program) (w : World) (K : PySem.W.Frag) (T : Ct) (mg : Str → Option Value) (base : Heap) (CA : Addr) : Prop where
  eq : MF P w K T mg base CA "__eq__" 1 RAEq
  ne : PySem.W.findIn K (.ref CA) "__ne__" = some (some (.builtin "object.__ne__"))
  ob : PySem.W.mroIn K CA (.type "object") = some true
theorem ok_WA (F : Fun K "__add__" "Machine.__add__" sWA f fd) (D : Md K T mg CR CM) (E : Wd K T mg CA CW) (A' : AF P w K T mg base CA) (Dg : DF P w K T mg base "_diagonal" 4 RDiag) (I : IF' P w K T mg base 3 CW [] 4 RWI) : FnOk P w K mg base CX0 6 f fd ["self", "other"] (spD K T RWA) := by
  refine okD F scWA (fun ds r h => by obtain ⟨_, _, _, _, _, _, _, _, _, rfl, _⟩ := h; rfl) fun cdv A outer s H E' pa ds d hr hR => ?_
  obtain ⟨l, m, n, r, r', M, M', cl, cl', rfl, hmn, hl, rfl⟩ := hR
  refine ⟨_, xs_cons (xp_if (tb := false) (xt_neF (t := true) (xd_ff 0 (xd_var 0) E.W rfl E.Wa) (xd_ff 0 (xd_var 1) E.W rfl E.Wa) E.A A'.eq rfl (hr.mono (by decide)) A'.ne A'.ob ⟨l, l, rfl, by rw [decide_eq_true rfl]⟩) (fun z => nomatch z) (fun _ => xs_nil))
    (xs_cons (xp_map2 2 false 3 4 (dMs l.length (m + n) (diMs m M M')) scWA.nd rfl rfl (xi_zip (κ1 := .t) (κ2 := .t) (xs := dMs l.length m M) (ys := dMs l.length n M') (xa_cons (xd_ff 2 (xd_var 0) E.W rfl E.Wm) (xa_cons (xd_ff 2 (xd_var 1) E.W rfl E.Wm) xa_nil)) .t .t rfl D.zip) (by unfold dMs; rw [rg_zip, rg_len, rg_len]) (by unfold dMs; rw [rg_zip, rg_len]; omega) (by decide) rfl rfl ?_)
    (xs_one (xp_ret (xd_mk E.W I rfl hr (xa_cons (xd_ff 0 (xd_var 0) E.W rfl E.Wa) (xa_cons (xd_tcat (xd_ff 1 (xd_var 0) E.W rfl E.Wr) (xd_ff 1 (xd_var 1) E.W rfl E.Wr) rfl (by rw [rg_len, rg_len]; omega)) (xa_cons (xd_var 2) (xa_cons (xd_tcat (xd_ff 3 (xd_var 0) E.W rfl E.Wc) (xd_ff 3 (xd_var 1) E.W rfl E.Wc) rfl (by rw [rg_len, rg_len]; omega)) xa_nil))))
      ⟨l, m + n, apV m r r', diMs m M M', apV m cl cl', _, _, _, rfl, .inr (congrArg Dt.tup (rg_ap m n r r')), .inl rfl, .inr (congrArg Dt.tup (rg_ap m n cl cl')), hmn, hl, rfl⟩)))), .inl ⟨_, rfl⟩⟩
  intro i d v h1 h2
  unfold dMs at h1 h2
  rw [rg_zip] at h1
  obtain ⟨hi, rfl⟩ := rg_get h1
  obtain ⟨_, rfl⟩ := rg_get h2
  exact ⟨_, _, rfl, fun sh H C cl fp => xd_df Dg rfl (hr.mono (by decide)) (xa_cons (xd_var 3) (xa_cons (xd_var 4) xa_nil)) ⟨m, n, M i, M' i, rfl, hmn, rfl⟩⟩
def RWSc (ds : List Dt) (d : Dt) : Prop := ∃ (l : List Nat) (n : Nat) (r : Nat → Rat) (M : Nat → Nat → Nat → Rat) (cl : Nat → Rat) (q : Rat), ds = [dW l n r M cl, dR q] ∧ n ≤ 8 ∧ l.length ≤ 4 ∧ (∀ j, Sz 100 (r j)) ∧ Sz 100 q ∧ d = dW l n (fun j => r j * q) M cl
theorem scWSc : FnScope ["self", "q", "item"] ["self", "q"] (defScope sWSc) := ⟨rfl, rfl, rfl, by decide +kernel, rfl, by decide +kernel, by decide +kernel⟩
theorem ok_WSc (F : Fun K "scaled" "Machine.scaled" sWSc f fd) (D : Md K T mg CR CM) (E : Wd K T mg CA CW) (R : RF P w K T mg base CR) (I : IF' P w K T mg base 3 CW [] 4 RWI) : FnOk P w K mg base CX0 6 f fd ["self", "q"] (spD K T RWSc) := by
  refine okD F scWSc (fun ds r h => by obtain ⟨_, _, _, _, _, _, rfl, _⟩ := h; rfl) fun cdv A outer s H E' pa ds d hr hR => ?_
  obtain ⟨l, n, r, M, cl, q, rfl, hn, hl, hr', hq, rfl⟩ := hR
  refine ⟨_, xs_one (xp_ret (xd_mk E.W I rfl hr (xa_cons (xd_ff 0 (xd_var 0) E.W rfl E.Wa) (xa_cons (xd_xl (xl_map1 2 (rg n fun j => dR (r j * q)) scWSc.nd (xi_tup rfl (xd_ff 1 (xd_var 0) E.W rfl E.Wr)) (by rw [rg_len, rg_len]) (by rw [rg_len]; omega) rfl ?_)) (xa_cons (xd_ff 2 (xd_var 0) E.W rfl E.Wm) (xa_cons (xd_ff 3 (xd_var 0) E.W rfl E.Wc) xa_nil))))
    ⟨l, n, fun j => r j * q, M, cl, _, _, _, rfl, .inl rfl, .inr rfl, .inr rfl, hn, hl, rfl⟩)), .inl ⟨_, rfl⟩⟩
  intro i d v h1 h2 sh H C cl fp
  obtain ⟨hi, rfl⟩ := rg_get h1
  obtain ⟨_, rfl⟩ := rg_get h2
  exact xd_opF (op := .Mult) (xd_var 2) (xd_var 1) D.R R.mul rfl (hr.mono (by decide)) D.Rf ⟨_, _, rfl, (hr' i).mono (by decide), hq.mono (by decide), rfl⟩
def RWN (ds : List Dt) (d : Dt) : Prop := ∃ (l : List Nat) (n : Nat) (r : Nat → Rat) (M : Nat → Nat → Nat → Rat) (cl : Nat → Rat), ds = [dW l n r M cl] ∧ n ≤ 8 ∧ l.length ≤ 4 ∧ (∀ j, Sz 100 (r j)) ∧ d = dW l n (fun j => r j * (-1)) M cl
theorem sz_neg {k : Nat} {q : Rat} (h : Sz k q) : Sz k (-q) := ⟨by rw [Rat.neg_num]; have := h.1; omega, by rw [Rat.neg_den]; exact h.2⟩
theorem scWN : FnScope ["self"] ["self"] (defScope sWN) := ⟨rfl, rfl, rfl, by decide +kernel, rfl, by decide +kernel, by decide +kernel⟩
theorem ok_WN (F : Fun K "__neg__" "Machine.__neg__" sWN f fd) (D : Md K T mg CR CM) (E : Wd K T mg CA CW) (R : RF P w K T mg base CR) (N : MF P w K T mg base CR "__neg__" 3 RRN) (Sc : MF P w K T mg base CW "scaled" 6 RWSc) : FnOk P w K mg base CX0 7 f fd ["self"] (spD K T RWN) := by
  refine okD F scWN (fun ds r h => by obtain ⟨_, _, _, _, _, rfl, _⟩ := h; rfl) fun cdv A outer s H E' pa ds d hr hR => ?_
  obtain ⟨l, n, r, M, cl, rfl, hn, hl, hr', rfl⟩ := hR
  exact ⟨_, xs_one (xp_ret (xd_mf (xd_var 0) E.W Sc rfl hr (xa_cons (xd_negF (xd_df0 R.one rfl (hr.mono (by decide)) ⟨rfl, rfl⟩) D.R N rfl (hr.mono (by decide)) ⟨1, rfl, Sz.one (by decide), rfl⟩) xa_nil) ⟨l, n, r, M, cl, -1, rfl, hn, hl, hr', sz_neg (Sz.one (by decide)), rfl⟩)), .inl ⟨_, rfl⟩⟩
def RWSu (ds : List Dt) (d : Dt) : Prop := ∃ (l : List Nat) (m n : Nat) (r r' : Nat → Rat) (M M' : Nat → Nat → Nat → Rat) (cl cl' : Nat → Rat), ds = [dW l m r M cl, dW l n r' M' cl'] ∧ m + n ≤ 8 ∧ l.length ≤ 4 ∧ (∀ j, Sz 100 (r' j)) ∧ d = dW l (m + n) (apV m r fun j => r' j * (-1)) (diMs m M M') (apV m cl cl')
theorem scWSu : FnScope ["self", "other"] ["self", "other"] (defScope sWSu) := ⟨rfl, rfl, rfl, by decide +kernel, rfl, by decide +kernel, by decide +kernel⟩
theorem ok_WSu (F : Fun K "__sub__" "Machine.__sub__" sWSu f fd) (E : Wd K T mg CA CW) (Ad : MF P w K T mg base CW "__add__" 6 RWA) (N : MF P w K T mg base CW "__neg__" 7 RWN) : FnOk P w K mg base CX0 8 f fd ["self", "other"] (spD K T RWSu) := by
  refine okD F scWSu (fun ds r h => by obtain ⟨_, _, _, _, _, _, _, _, _, rfl, _⟩ := h; rfl) fun cdv A outer s H E' pa ds d hr hR => ?_
  obtain ⟨l, m, n, r, r', M, M', cl, cl', rfl, hmn, hl, hr', rfl⟩ := hR
  exact ⟨_, xs_one (xp_ret (xd_opF (op := .Add) (xd_var 0) (xd_negF (xd_var 1) E.W N rfl hr ⟨l, n, r', M', cl', rfl, by omega, hl, hr', rfl⟩) E.W Ad rfl (hr.mono (by decide)) E.Wf ⟨l, m, n, r, _, M, M', cl, cl', rfl, hmn, hl, rfl⟩)), .inl ⟨_, rfl⟩⟩
end
end My
set_option autoImplicit false
set_option maxRecDepth 100000
set_option maxHeartbeats 4000000
set_option exponentiation.threshold 100000
namespace My
open PySem PySem.Spec PyProof.Rows L2 Dv Mq
section
variable {P : Program} {w : World} {K : PySem.W.Frag} {T : Ct} {mg : Str → Option Value} {base : Heap} {f CR CM CA CW CX' : Addr} {fd : FuncData}
abbrev sSquare : Stmt := topS 37
abbrev sPlan : Stmt := topS 38
def itN (q : Int × Int) : Nat → Int × Int
  | 0 => q
  | k + 1 => itS (itN q k)
def itV (q : Int × Int) (k : Nat) : Rat := itQ (itN q k)
theorem itN_ok {q : Int × Int} (h : SOk q) : ∀ k, SOk (itN q k)
  | 0 => h
  | k + 1 => itS_ok (itN_ok h k)
theorem itN_add (q : Int × Int) (a : Nat) : ∀ b, itN (itN q a) b = itN q (a + b)
  | 0 => rfl
  | b + 1 => by show itS (itN (itN q a) b) = itS (itN q (a + b)); rw [itN_add q a b]
def dPl (n : Nat) (x : Nat → Rat) : Dt := .lst (rg n fun j => dP (x j))
def dPls (n : Nat) (g : Nat → Nat → Rat) : Dt := .lst (rg n fun i => dPl n (g i))
def RSquare (xs ds : List Dt) (r : Dt) (ys : List Dt) : Prop := ∃ (q : Int × Int) (n : Nat), SOk q ∧ xs = dSt q ∧ ds = [.int n] ∧ n ≤ 8 ∧ r = dPls n (fun i j => itV q (i * n + j)) ∧ ys = dSt (itN q (n * n))
abbrev nSquare : List Str := ["state", "n", "rows", "i", "j"]
theorem scSquare : FnScope nSquare ["state", "n"] (defScope sSquare) := ⟨rfl, rfl, rfl, by decide +kernel, rfl, by decide +kernel, by decide +kernel⟩
theorem rg_snoc' (n : Nat) (F : Nat → Dt) : rg n F ++ [F n] = rg (n + 1) F := rg_snoc n F
theorem ok_square (F : Fun K "_law_square" "_law_square" sSquare f fd) (D : Md K T mg CR CM) (It : DM P w K T mg base "_law_item" 3 RItem) : FnOk P w K mg base CX0 4 f fd ["state", "n"] (spM K T RSquare) := by
  refine okM F scSquare (fun xs ds r ys h => by obtain ⟨_, _, _, _, rfl, _⟩ := h; rfl) fun cdv A outer s' H E pa xs ds r ys hr hR => ?_
  obtain ⟨q, n, hq, rfl, rfl, hn, rfl, rfl⟩ := hR
  let S : Nat → Store := fun i => [some (.pr 0 (dSt (itN q (i * n)))), some (.fr (.int n)), some (.ow (rg i fun a => dPl n fun j => itV q (a * n + j))), slot (fun i => .int i) i, none]
  refine ⟨_, xs_cons (XP.to (s2 := S 0) (xp_setOw 2 scSquare.nd (xl_lst xa_nil (by decide))) (by show _ = [some (Sv.pr 0 (dSt (itN q (0 * n)))), _, _, _, _]; rw [Nat.zero_mul]; rfl))
    (xs_cons (XP.to (s2 := S n) (xp_forN S n (by simp) (xi_range1 (n := (n : Int)) (xd_var 1) (by omega) (by omega) D.ran) ?_) rfl)
    (xs_freeze 2 rfl (xs_one (xp_ret (xd_var 2))))), rfl⟩
  intro i d hd
  obtain ⟨hi, rfl⟩ := rng_get (n := n) (by simpa using hd)
  let S2 : Nat → Store := fun j => [some (.pr 0 (dSt (itN q (i * n + j)))), some (.fr (.int n)), some (.ow (rg i fun a => dPl n fun j => itV q (a * n + j))), some (.fr (.int i)), none]
  refine Turns.nx (xg_name 3 scSquare.nd) (xs_one (xp_append 2 (s := .ow (rg i fun a => dPl n fun j => itV q (a * n + j))) (xd_xl (xl_mapS 4 S2 (rg n fun j => dP (itV q (i * n + j))) scSquare.nd (xi_range1 (n := (n : Int)) (xd_var 1) (by omega) (by omega) D.ran) (by simp [rg]) (by simp; omega) (fun _ _ => rfl) ?_)) rfl rfl rfl .ow (by rw [rg_len]; omega))) ?_
  · intro j d v h1 h2
    obtain ⟨hj, rfl⟩ := rng_get (n := n) (by simpa using h1)
    obtain ⟨_, rfl⟩ := rg_get h2
    exact ⟨_, rfl, fun sh H C cl fp => xd_dm 0 (s := .pr 0 (dSt (itN q (i * n + j)))) It rfl hr xa_nil rfl rfl .pr ⟨itN q (i * n + j), itN_ok hq _, rfl, rfl, rfl, rfl⟩⟩
  · have e1 : ((List.range ((n : Int)).toNat).map fun (i : Nat) => Dt.int i).length = n := by simp
    have e2 : (i + 1) * n = i * n + n := by rw [Nat.add_mul, Nat.one_mul]
    have e3 : S (i + 1) = (S2 n).set 2 (some (Sv.ow ((rg i fun a => dPl n fun j => itV q (a * n + j)) ++ [dPl n fun j => itV q (i * n + j)]))) := by
      show [some (Sv.pr 0 (dSt (itN q ((i + 1) * n)))), _, some (Sv.ow (rg (i + 1) fun a => dPl n fun j => itV q (a * n + j))), some (Sv.fr (.int i)), _] = [some (Sv.pr 0 (dSt (itN q (i * n + n)))), _, _, _, _]
      rw [e2, ← rg_snoc]
    rw [e3]
    show (S2 _).set 2 _ = _
    rw [e1]; rfl
def planN (q : Int × Int) (most : Int) : Nat := (tk q (most + 1)).toNat
def planQ (q : Int × Int) (most : Int) : Int × Int := tn q (most + 1)
structure Pn where
  n : Nat
  r : Nat → Rat
  M : Nat → Nat → Nat → Rat
  c : Nat → Rat
def planP (q : Int × Int) (most : Int) (L : Nat) : Pn :=
  ⟨planN q most, itV (planQ q most), fun k i j => itV (itN (planQ q most) (planN q most + k * (planN q most * planN q most))) (i * planN q most + j), itV (itN (planQ q most) (planN q most + L * (planN q most * planN q most)))⟩
def planS (q : Int × Int) (most : Int) (L : Nat) : Int × Int := itN (itN (planQ q most) (planN q most + L * (planN q most * planN q most))) (planN q most)
def dPlan (l : List Nat) (p : Pn) : Dt := .tup [.str (sx l), dPl p.n p.r, .lst (rg l.length fun k => dPls p.n (p.M k)), dPl p.n p.c]
structure PnOk (p : Pn) (most : Nat) : Prop where
  n : p.n ≤ most
  r : ∀ j, ∃ q, p.r j = itQ q
  M : ∀ k i j, ∃ q, p.M k i j = itQ q
  c : ∀ j, ∃ q, p.c j = itQ q
theorem plan_ok {q : Int × Int} {most : Nat} {L : Nat} : PnOk (planP q most L) most := ⟨by
  obtain ⟨h1, h2⟩ := tk_lt (q := q) (m := (most : Int) + 1) (by omega)
  show planN q most ≤ most
  unfold planN; omega, fun j => ⟨_, rfl⟩, fun k i j => ⟨_, rfl⟩, fun j => ⟨_, rfl⟩⟩
theorem planS_ok {q : Int × Int} {most : Int} {L : Nat} (h : SOk q) (hm : 0 ≤ most) : SOk (planS q most L) := itN_ok (itN_ok (tn_ok h (by omega)) _) _
def RPlan (xs ds : List Dt) (r : Dt) (ys : List Dt) : Prop := ∃ (q : Int × Int) (l : List Nat) (most : Nat), SOk q ∧ xs = dSt q ∧ ds = [.str (sx l), .int most] ∧ most ≤ 7 ∧ l.length ≤ 4 ∧ r = dPlan l (planP q most l.length) ∧ ys = dSt (planS q most l.length)
abbrev nPlan : List Str := ["state", "letters", "most", "n", "row", "k", "squares", "mark"]
theorem scPlan : FnScope nPlan ["state", "letters", "most"] (defScope sPlan) := ⟨rfl, rfl, rfl, by decide +kernel, rfl, by decide +kernel, by decide +kernel⟩
theorem rng_len' (n : Nat) : ((List.range ((n : Int)).toNat).map fun (i : Nat) => Dt.int i).length = n := by simp
theorem ok_plan (F : Fun K "_law_plan" "_law_plan" sPlan f fd) (D : Md K T mg CR CM) (Tk : DM P w K T mg base "_law_take" 1 RTake) (It : DM P w K T mg base "_law_item" 3 RItem) (Sq : DM P w K T mg base "_law_square" 4 RSquare) : FnOk P w K mg base CX0 5 f fd ["state", "letters", "most"] (spM K T RPlan) := by
  refine okM F scPlan (fun xs ds r ys h => by obtain ⟨_, _, _, _, _, rfl, _⟩ := h; rfl) fun cdv A outer s' H E pa xs ds r ys hr hR => ?_
  obtain ⟨q, l, most, hq, rfl, rfl, hm, hl, rfl, rfl⟩ := hR
  have hn : planN q most ≤ most := (plan_ok (q := q) (most := most) (L := l.length)).n
  have ht : tk q ((most : Int) + 1) = (planN q most : Nat) := by
    obtain ⟨h1, h2⟩ := tk_lt (q := q) (m := (most : Int) + 1) (by omega)
    unfold planN; omega
  have hq1 : SOk (planQ q most) := tn_ok hq (by omega)
  unfold dPlan planP planS
  generalize hq' : planQ q most = q1 at hq1
  generalize hn' : planN q most = n at hn ht
  have tkR : RTake (dSt q) [.int ((most : Int) + 1)] (.int (n : Nat)) (dSt q1) := by
    have := take_R q ((most : Int) + 1) hq (by omega) (by omega)
    rw [ht] at this
    rw [← hq']
    exact this
  let m := n * n
  let Sa : Nat → Store := fun i => [some (.pr 0 (dSt (itN q1 i))), some (.fr (.str (sx l))), some (.fr (.int most)), some (.fr (.int n)), none, none, none, none]
  let Sb : Nat → Store := fun k => [some (.pr 0 (dSt (itN q1 (n + k * m)))), some (.fr (.str (sx l))), some (.fr (.int most)), some (.fr (.int n)), some (.fr (dPl n (itV q1))), none, none, none]
  let Sc : Nat → Store := fun i => [some (.pr 0 (dSt (itN (itN q1 (n + l.length * m)) i))), some (.fr (.str (sx l))), some (.fr (.int most)), some (.fr (.int n)), some (.fr (dPl n (itV q1))), none, some (.fr (.lst (rg l.length fun k => dPls n fun i j => itV (itN q1 (n + k * m)) (i * n + j)))), none]
  refine ⟨Sc n, xs_cons (XP.to (s2 := Sa 0) (xp_set 3 scPlan.nd (xd_dm 0 (s := .pr 0 (dSt q)) Tk rfl (hr.mono (by decide)) (xa_cons (xd_add (xd_var 2) xd_int) xa_nil) rfl rfl .pr tkR)) rfl)
    (xs_cons (XP.to (s2 := Sb 0) (xp_mapS 4 false 5 Sa (rg n fun j => dP (itV q1 j)) (rng_len' n) scPlan.nd (xi_range1 (n := (n : Int)) (xd_var 3) (by omega) (by omega) D.ran) (by simp [rg]) (by simp; omega) (fun _ _ => rfl) ?_) ?_)
    (xs_cons (XP.to (s2 := Sc 0) (xp_mapS 6 false 7 Sb (rg l.length fun k => dPls n fun i j => itV (itN q1 (n + k * m)) (i * n + j)) (List.length_map ..) scPlan.nd (xi_strX (xd_var 1)) (by rw [rg_len, List.length_map]) (by rw [List.length_map]; omega) (fun _ _ => rfl) ?_) rfl)
    (xs_one (xp_ret (xd_tup (xa_cons (xd_var 1) (xa_cons (xd_var 4) (xa_cons (xd_var 6) (xa_cons (xd_xl (XL.to (xl_mapS 5 Sc (rg n fun j => dP (itV (itN q1 (n + l.length * m)) j)) scPlan.nd (xi_range1 (n := (n : Int)) (xd_var 3) (by omega) (by omega) D.ran) (by simp [rg]) (by simp; omega) (fun _ _ => rfl) ?_) (rng_len' n))) xa_nil)))) (by simp)))))), rfl⟩
  · intro j d v h1 h2
    obtain ⟨hj, rfl⟩ := rng_get (n := n) (by simpa using h1)
    obtain ⟨_, rfl⟩ := rg_get h2
    exact ⟨_, rfl, fun sh H C cl fp => xd_dm 0 (s := .pr 0 (dSt (itN q1 j))) It rfl (hr.mono (by decide)) xa_nil rfl rfl .pr ⟨itN q1 j, itN_ok hq1 _, rfl, rfl, rfl, rfl⟩⟩
  · show _ = [some (Sv.pr 0 (dSt (itN q1 (n + 0 * m)))), _, _, _, _, _, _, _]
    rw [Nat.zero_mul]; rfl
  · intro k d v h1 h2
    obtain ⟨hk, rfl⟩ := rg_get h2
    refine ⟨_, ?_, fun sh H C cl fp => xd_dm 0 (s := .pr 0 (dSt (itN q1 (n + k * m)))) Sq rfl hr (xa_cons (xd_var 3) xa_nil) rfl rfl .pr ⟨itN q1 (n + k * m), n, itN_ok hq1 _, rfl, rfl, by omega, rfl, rfl⟩⟩
    show _ = [some (Sv.pr 0 (dSt (itN q1 (n + (k + 1) * m)))), _, _, _, _, _, _, _]
    rw [show n + (k + 1) * m = (n + k * m) + m from by rw [Nat.add_mul, Nat.one_mul, Nat.add_assoc], ← itN_add q1 (n + k * m) m]; rfl
  · intro j d v h1 h2
    obtain ⟨hj, rfl⟩ := rng_get (n := n) (by simpa using h1)
    obtain ⟨_, rfl⟩ := rg_get h2
    exact ⟨_, rfl, fun sh H C cl fp => xd_dm 0 (s := .pr 0 (dSt (itN (itN q1 (n + l.length * m)) j))) It rfl (hr.mono (by decide)) xa_nil rfl rfl .pr ⟨itN (itN q1 (n + l.length * m)) j, itN_ok (itN_ok hq1 _) _, rfl, rfl, rfl, rfl⟩⟩
end
end My
set_option autoImplicit false
set_option maxRecDepth 100000
set_option maxHeartbeats 4000000
set_option exponentiation.threshold 100000
namespace My
open PySem PySem.Spec PyProof.Rows L2 Dv Mq
section
variable {P : Program} {w : World} {K : PySem.W.Frag} {T : Ct} {mg : Str → Option Value} {base : Heap} {f CR CM CA CW CX' : Addr} {fd : FuncData}
abbrev sRatios : Stmt := topS 39
abbrev sLMach : Stmt := topS 40
abbrev sDot : Stmt := topS 41
abbrev sAfter : Stmt := topS 42
abbrev sWOf : Stmt := topS 44
abbrev sPair : Stmt := topS 32
theorem mkq {q : Rat} (h : Sz 100 q) : RIn [.int q.num, .int q.den] [.int q.num, .int q.den] := by
  have hl : ((q.den : Int)).natAbs.log2 < 9000 := log2_lt (den_ne q) h.2 (by decide)
  have r := rin (n := q.num) (den_ne q) hl
  rw [self_q] at r
  exact r
def RRatios (ds : List Dt) (r : Dt) : Prop := ∃ (n : Nat) (g : Nat → Rat), ds = [dPl n g] ∧ n ≤ 8 ∧ (∀ j, Sz 100 (g j)) ∧ r = .lst (rg n fun j => dR (g j))
theorem scRatios : FnScope ["items", "item"] ["items"] (defScope sRatios) := ⟨rfl, rfl, rfl, by decide +kernel, rfl, by decide +kernel, by decide +kernel⟩
theorem ok_ratios (F : Fun K "_law_ratios" "_law_ratios" sRatios f fd) (D : Md K T mg CR CM) (R : RF P w K T mg base CR) : FnOk P w K mg base CX0 3 f fd ["items"] (spD K T RRatios) := by
  refine okD F scRatios (fun ds r h => by obtain ⟨_, _, rfl, _⟩ := h; rfl) fun cdv A outer s H E pa ds r hr hR => ?_
  obtain ⟨n, g, rfl, hn, hg, rfl⟩ := hR
  refine ⟨_, xs_one (xp_ret (xd_xl (xl_map1 1 (rg n fun j => dR (g j)) scRatios.nd (xi_list (ds := rg n fun j => dP (g j)) rfl (xd_var 0)) (by rw [rg_len, rg_len]) (by rw [rg_len]; omega) rfl ?_))), .inl ⟨_, rfl⟩⟩
  intro j d v h1 h2 sh H C cl fp
  obtain ⟨hj, rfl⟩ := rg_get h1
  obtain ⟨_, rfl⟩ := rg_get h2
  exact xd_mk D.R R.i2 rfl hr (xa_cons (xd_ixT (m := 0) (xd_var 1) xd_int rfl rfl rfl) (xa_cons (xd_ixT (m := 1) (xd_var 1) xd_int rfl rfl rfl) xa_nil)) (mkq (hg j))
structure PnSz (p : Pn) : Prop where
  n : p.n ≤ 8
  r : ∀ j, Sz 100 (p.r j)
  M : ∀ k i j, Sz 100 (p.M k i j)
  c : ∀ j, Sz 100 (p.c j)
def dWp (l : List Nat) (p : Pn) : Dt := dW l p.n p.r p.M p.c
def RLMach (ds : List Dt) (r : Dt) : Prop := ∃ (l : List Nat) (p : Pn), ds = [dPlan l p] ∧ AlOk l ∧ PnSz p ∧ r = dWp l p
abbrev nLMach : List Str := ["plan", "letters", "row", "squares", "column", "matrices", "rows", "items"]
theorem scLMach : FnScope nLMach ["plan"] (defScope sLMach) := ⟨rfl, rfl, rfl, by decide +kernel, rfl, by decide +kernel, by decide +kernel⟩
theorem pl_len {n : Nat} {x : Nat → Rat} : (rg n fun j => dP (x j)).length = n := rg_len _ _
theorem ok_lmach (F : Fun K "_law_machine" "_law_machine" sLMach f fd) (D : Md K T mg CR CM) (E : Wd K T mg CA CW) (Ra : DF P w K T mg base "_law_ratios" 3 RRatios) (I : IF' P w K T mg base 1 CM [] 1 RMI) (AI : IF' P w K T mg base 2 CA [] 1 RAI) (WI : IF' P w K T mg base 3 CW [] 4 RWI) : FnOk P w K mg base CX0 6 f fd ["plan"] (spD K T RLMach) := by
  refine okD F scLMach (fun ds r h => by obtain ⟨_, _, rfl, _⟩ := h; rfl) fun cdv A outer s H E' pa ds r hr hR => ?_
  obtain ⟨l, p, rfl, hl, hp, rfl⟩ := hR
  have hn := hp.n
  have hl4 := hl.hi
  let S : Nat → Store := fun k => [some (.fr (dPlan l p)), some (.fr (.str (sx l))), some (.fr (dPl p.n p.r)), some (.fr (.lst (rg l.length fun k => dPls p.n (p.M k)))), some (.fr (dPl p.n p.c)), some (.ow (dMs k p.n p.M)), slot (fun k => dPls p.n (p.M k)) k, none]
  refine ⟨_, xs_cons (xp_asg (xd_var 0) (xg_tup (n := 4) rfl rfl (xgs_cons (xg_name 1 scLMach.nd) (xgs_cons (xg_name 2 scLMach.nd) (xgs_cons (xg_name 3 scLMach.nd) (xgs_cons (xg_name 4 scLMach.nd) xgs_nil)))) rfl))
    (xs_cons (XP.to (s2 := S 0) (xp_setOw 5 scLMach.nd (xl_lst xa_nil (by decide))) rfl)
    (xs_cons (XP.to (s2 := S l.length) (xp_forN S l.length (rg_len _ _) (xi_list rfl (xd_var 3)) ?_) rfl)
    (xs_freeze 5 rfl (xs_one (xp_ret (xd_mk E.W WI rfl hr (xa_cons (xd_mk E.A AI rfl (hr.mono (by decide)) (xa_cons (xd_var 1) xa_nil) ⟨l, rfl, hl, rfl⟩) (xa_cons (xd_df Ra rfl (hr.mono (by decide)) (xa_cons (xd_var 2) xa_nil) ⟨p.n, p.r, rfl, hn, hp.r, rfl⟩) (xa_cons (xd_var 5) (xa_cons (xd_df Ra rfl (hr.mono (by decide)) (xa_cons (xd_var 4) xa_nil) ⟨p.n, p.c, rfl, hn, hp.c, rfl⟩) xa_nil))))
      ⟨l, p.n, p.r, p.M, p.c, _, _, _, rfl, .inl rfl, .inl rfl, .inl rfl, hn, hl4, rfl⟩)))))), .inl ⟨_, rfl⟩⟩
  intro k d hd
  obtain ⟨hk, rfl⟩ := rg_get hd
  refine Turns.nx (xg_name 6 scLMach.nd) (xs_one (xp_append 5 (s := .ow (dMs k p.n p.M)) (xd_mk D.M I rfl (hr.mono (by decide)) (xa_cons (xd_xl (xl_map1 7 (rg p.n fun i => .lst (rg p.n fun j => dR (p.M k i j))) scLMach.nd (xi_list rfl (xd_var 6)) (by rw [rg_len, rg_len]) (by rw [rg_len]; omega) rfl ?_)) (xa_cons (xd_len (xd_var 2) (.inl rfl) rfl D.len) xa_nil)) (fs := [.tup (rg p.n fun i => .tup (rg p.n fun j => dR (p.M k i j))), .int p.n]) ⟨p.n, p.n, fun i => .lst (rg p.n fun j => dR (p.M k i j)), fun i => rg p.n fun j => dR (p.M k i j), by rw [pl_len]; rfl, hn, fun i _ => .inl rfl, rfl⟩) rfl rfl rfl .ow (by unfold dMs; rw [rg_len]; omega))) ?_
  · intro i d v h1 h2 sh H C cl fp
    obtain ⟨hi, rfl⟩ := rg_get h1
    obtain ⟨_, rfl⟩ := rg_get h2
    exact xd_df Ra rfl (hr.mono (by decide)) (xa_cons (xd_var 7) xa_nil) ⟨p.n, p.M k i, rfl, hn, hp.M k i, rfl⟩
  · show _ = [_, _, _, _, _, some (Sv.ow (dMs (k + 1) p.n p.M)), _, _]
    unfold dMs
    rw [← rg_snoc]; rfl
def RDot (ds : List Dt) (r : Dt) : Prop := ∃ (n : Nat) (x y : Nat → Rat), ds = [dPl n x, dPl n y] ∧ n ≤ 8 ∧ (∀ j, Sz 100 (x j)) ∧ (∀ j, Sz 100 (y j)) ∧ r = dP (sumTo (fun t => x t * y t) n)
theorem scDot : FnScope ["a", "b", "total_v", "k"] ["a", "b"] (defScope sDot) := ⟨rfl, rfl, rfl, by decide +kernel, rfl, by decide +kernel, by decide +kernel⟩
theorem ok_dot (F : Fun K "_law_dot" "_law_dot" sDot f fd) (D : Md K T mg CR CM) (Da : DF P w K T mg base "_law_add" 3 RAdd) (Dm : DF P w K T mg base "_law_mul" 3 RMul) : FnOk P w K mg base CX0 4 f fd ["a", "b"] (spD K T RDot) := by
  refine okD F scDot (fun ds r h => by obtain ⟨_, _, _, rfl, _⟩ := h; rfl) fun cdv A outer s H E pa ds r hr hR => ?_
  obtain ⟨n, x, y, rfl, hn, hx, hy, rfl⟩ := hR
  let S : Nat → Store := fun i => [some (.fr (dPl n x)), some (.fr (dPl n y)), some (.fr (dP (sumTo (fun t => x t * y t) i))), slot (fun i => .int i) i]
  refine ⟨_, xs_cons (XP.to (s2 := S 0) (xp_set 2 scDot.nd (xd_tup (xa_cons xd_int (xa_cons xd_int xa_nil)) (by simp))) rfl)
    (xs_cons (XP.to (s2 := S n) (xp_forN S n (by simp) (xi_range1 (n := (n : Int)) (XD.to (xd_len (xd_var 0) (.inl rfl) rfl D.len) (by rw [pl_len])) (by omega) (by omega) D.ran) ?_) rfl) (xs_one (xp_ret (xd_var 2)))), .inl ⟨_, rfl⟩⟩
  intro i d hd
  obtain ⟨hi, rfl⟩ := rng_get (n := n) (by simpa using hd)
  have hz : Sz 4000 (sumTo (fun t => x t * y t) i) := (sz_sum (b := 200) (fun t => (hx t).mul (hy t)) i).mono (by omega)
  exact Turns.nx (xg_name 3 scDot.nd) (xs_one (xp_set 2 scDot.nd (xd_df Da rfl hr (xa_cons (xd_var 2) (xa_cons (xd_df Dm rfl hr (xa_cons (xd_ixL (m := i) (xd_var 0) (xd_var 3) rfl (rg_at hi) rfl) (xa_cons (xd_ixL (m := i) (xd_var 1) (xd_var 3) rfl (rg_at hi) rfl) xa_nil)) ⟨x i, y i, rfl, (hx i).mono (by decide), (hy i).mono (by decide), rfl⟩) xa_nil)) ⟨_, _, rfl, hz, ((hx i).mul (hy i)).mono (by decide), rfl⟩))) rfl
def RAfter (ds : List Dt) (d : Dt) : Prop := ∃ (l : List Nat) (p : Pn) (wd : List Nat), ds = [dPlan l p, .str (sx wd)] ∧ (∀ q ∈ wd, q ∈ l) ∧ l.length ≤ 4 ∧ p.n ≤ 8 ∧ (∀ k i j, Sz 100 (p.M k i j)) ∧ (∀ k j, Sz 100 (rowR l p.n p.M p.r (wd.take k) j)) ∧ d = dPl p.n (rowR l p.n p.M p.r wd)
abbrev nAfter : List Str := ["plan", "word", "letters", "row", "squares", "column", "mark", "rows", "j", "i"]
theorem scAfter : FnScope nAfter ["plan", "word"] (defScope sAfter) := ⟨rfl, rfl, rfl, by decide +kernel, rfl, by decide +kernel, by decide +kernel⟩
theorem ok_after (F : Fun K "_law_after" "_law_after" sAfter f fd) (D : Md K T mg CR CM) (Dd : DF P w K T mg base "_law_dot" 4 RDot) : FnOk P w K mg base CX0 5 f fd ["plan", "word"] (spD K T RAfter) := by
  refine okD F scAfter (fun ds r h => by obtain ⟨_, _, _, rfl, _⟩ := h; rfl) fun cdv A outer s H E' pa ds d hr hR => ?_
  obtain ⟨l, p, wd, rfl, hw, hl4, hn, hM, hz, rfl⟩ := hR
  let y : Nat → Nat → Rat := fun i => rowR l p.n p.M p.r (wd.take i)
  let sq : Nat → Dt := fun i => dPls p.n (p.M (l.idxOf (wd.getD i 0)))
  let S : Nat → Store := fun i => [some (.fr (dPlan l p)), some (.fr (.str (sx wd))), some (.fr (.str (sx l))), some (.fr (dPl p.n (y i))), some (.fr (.lst (rg l.length fun k => dPls p.n (p.M k)))), some (.fr (dPl p.n p.c)), slot (fun i => .str (sx [wd.getD i 0])) i, slot sq i, none, none]
  have e0 : dPl p.n (rowR l p.n p.M p.r wd) = dPl p.n (y wd.length) := by show _ = dPl p.n (rowR l p.n p.M p.r (wd.take wd.length)); rw [List.take_length]
  rw [e0]
  refine ⟨_, xs_cons (XP.to (s2 := S 0) (xp_asg (xd_var 0) (xg_tup (n := 4) rfl rfl (xgs_cons (xg_name 2 scAfter.nd) (xgs_cons (xg_name 3 scAfter.nd) (xgs_cons (xg_name 4 scAfter.nd) (xgs_cons (xg_name 5 scAfter.nd) xgs_nil)))) rfl)) rfl)
    (xs_cons (XP.to (s2 := S wd.length) (xp_forN S wd.length (List.length_map ..) (xi_strX (xd_var 1)) ?_) rfl) (xs_one (xp_ret (xd_var 3)))), .inl ⟨_, rfl⟩⟩
  intro i d hd
  rw [List.getElem?_map] at hd
  cases e : wd[i]? with
  | none => rw [e] at hd; cases hd
  | some q =>
    rw [e] at hd
    cases hd
    have eq : wd.getD i 0 = q := by rw [List.getD_eq_getElem?_getD, e]; rfl
    have hq : q ∈ l := hw q (List.mem_of_getElem? e)
    have hk := List.idxOf_lt_length_of_mem hq
    refine Turns.nx (xg_name 6 scAfter.nd) (xs_cons (xp_set 7 scAfter.nd (xd_ixL (m := l.idxOf q) (xd_var 4) (xd_findX (xd_var 2) (xd_var 6) hq) rfl (rg_at hk) rfl))
      (xs_one (xp_set 3 scAfter.nd (xd_xl (xl_map1 8 (rg p.n fun j => dP (sumTo (fun t => y i t * p.M (l.idxOf q) t j) p.n)) scAfter.nd (xi_range1 (n := (p.n : Int)) (XD.to (xd_len (xd_var 3) (.inl rfl) rfl D.len) (by rw [pl_len])) (by omega) (by omega) D.ran) (by simp [rg]) (by simp; omega) rfl ?_))))) ?_
    · intro j d v h1 h2 sh H C cl fp
      obtain ⟨hj, rfl⟩ := rng_get (n := p.n) (by simpa using h1)
      obtain ⟨_, rfl⟩ := rg_get h2
      refine xd_df Dd rfl hr (xa_cons (xd_var 3) (xa_cons (xd_xl (xl_map1 9 (rg p.n fun t => dP (p.M (l.idxOf q) t j)) scAfter.nd (xi_range1 (n := (p.n : Int)) (XD.to (xd_len (xd_var 3) (.inl rfl) rfl D.len) (by rw [pl_len])) (by omega) (by omega) D.ran) (by simp [rg]) (by simp; omega) rfl ?_)) xa_nil)) ⟨p.n, y i, fun t => p.M (l.idxOf q) t j, rfl, hn, hz i, fun t => hM _ t j, rfl⟩
      intro t d v h1 h2 sh H C cl fp
      obtain ⟨ht, rfl⟩ := rng_get (n := p.n) (by simpa using h1)
      obtain ⟨_, rfl⟩ := rg_get h2
      exact xd_ixL (m := j) (xd_ixL (m := t) (xd_var 7) (xd_var 9) rfl (rg_at ht) rfl) (xd_var 8) rfl (rg_at hj) rfl
    · have e3 : y (i + 1) = stepR l p.n p.M (y i) q := rowR_take e
      show _ = [_, _, _, some (Sv.fr (dPl p.n (y (i + 1)))), _, _, some (Sv.fr (.str (sx [wd.getD i 0]))), some (Sv.fr (dPls p.n (p.M (l.idxOf (wd.getD i 0))))), _, _]
      rw [e3, eq]; rfl
def RWOf (ds : List Dt) (d : Dt) : Prop := ∃ (l : List Nat) (p : Pn) (wd : List Nat), ds = [dPlan l p, .str (sx wd)] ∧ (∀ q ∈ wd, q ∈ l) ∧ l.length ≤ 4 ∧ p.n ≤ 8 ∧ (∀ k i j, Sz 100 (p.M k i j)) ∧ (∀ k j, Sz 100 (rowR l p.n p.M p.r (wd.take k) j)) ∧ (∀ j, Sz 100 (p.c j)) ∧ d = dP (wtR l p.n p.r p.M p.c wd)
theorem scWOf : FnScope ["plan", "word"] ["plan", "word"] (defScope sWOf) := ⟨rfl, rfl, rfl, by decide +kernel, rfl, by decide +kernel, by decide +kernel⟩
theorem ok_wOf (F : Fun K "_law_weight_of" "_law_weight_of" sWOf f fd) (Dd : DF P w K T mg base "_law_dot" 4 RDot) (Af : DF P w K T mg base "_law_after" 5 RAfter) : FnOk P w K mg base CX0 6 f fd ["plan", "word"] (spD K T RWOf) := by
  refine okD F scWOf (fun ds r h => by obtain ⟨_, _, _, rfl, _⟩ := h; rfl) fun cdv A outer s H E' pa ds d hr hR => ?_
  obtain ⟨l, p, wd, rfl, hw, hl4, hn, hM, hz, hc, rfl⟩ := hR
  have hz' : ∀ j, Sz 100 (rowR l p.n p.M p.r wd j) := fun j => by have := hz wd.length j; rwa [List.take_length] at this
  exact ⟨_, xs_one (xp_ret (xd_df Dd rfl (hr.mono (by decide)) (xa_cons (xd_df Af rfl hr (xa_cons (xd_var 0) (xa_cons (xd_var 1) xa_nil)) ⟨l, p, wd, rfl, hw, hl4, hn, hM, hz, rfl⟩) (xa_cons (xd_ixT (m := 3) (xd_var 0) xd_int rfl rfl rfl) xa_nil)) ⟨p.n, _, p.c, rfl, hn, hz', hc, rfl⟩)), .inl ⟨_, rfl⟩⟩
def RPair (ds : List Dt) (r : Dt) : Prop := ∃ q : Rat, ds = [dR q] ∧ r = dP q
theorem scPair : FnScope ["value"] ["value"] (defScope sPair) := ⟨rfl, rfl, rfl, by decide +kernel, rfl, by decide +kernel, by decide +kernel⟩
theorem ok_pair (F : Fun K "_law_pair" "_law_pair" sPair f fd) (D : Md K T mg CR CM) (Dg : DF P w K T mg base "_law_gcd" 1 RGcd) : FnOk P w K mg base CX0 2 f fd ["value"] (spD K T RPair) := by
  refine okD F scPair (fun ds r h => by obtain ⟨_, rfl, _⟩ := h; rfl) fun cdv A outer s H E pa ds r hr hR => ?_
  obtain ⟨q, rfl, rfl⟩ := hR
  have h1 : ¬ ((q.den : Int) < 1) := by have := q.den_pos; omega
  have h2 : ((Nat.gcd q.num.natAbs ((q.den : Int)).natAbs : Nat) : Int) = 1 := by
    rw [den_abs]; have := q.reduced; unfold Nat.Coprime at this; rw [this]; rfl
  refine ⟨_, xs_cons (xp_if (tb := false) (xw_pt (xw_orF (xt_not (t := true) (xt_val (xd_isOwn (xd_var 0) D.R D.RX rfl D.isi))) (xw_orF (xt_val (t := false) (xd_isTy (id := "bool") (xd_ff 0 (xd_var 0) D.R rfl D.Rn) .int rfl D.isi D.bool (by decide +kernel) rfl)) (xw_or1 (xt_val (t := false) (xd_isTy (id := "bool") (xd_ff 1 (xd_var 0) D.R rfl D.Rd) .int rfl D.isi D.bool (by decide +kernel) rfl)))))) (fun z => nomatch z) (fun _ => xs_nil))
    (xs_cons (xp_if (tb := false) (xw_pt (xw_orF (xt_not (t := true) (xt_val (xd_isTy (id := "int") (xd_ff 0 (xd_var 0) D.R rfl D.Rn) .int rfl D.isi D.int (by decide +kernel) rfl))) (xw_orF (xt_not (t := true) (xt_val (xd_isTy (id := "int") (xd_ff 1 (xd_var 0) D.R rfl D.Rd) .int rfl D.isi D.int (by decide +kernel) rfl))) (xw_orF (xt_lt (xd_ff 1 (xd_var 0) D.R rfl D.Rd) xd_int (decide_eq_false h1)) (xw_or1 (xt_neI (xd_df Dg rfl hr (xa_cons (xd_ff 0 (xd_var 0) D.R rfl D.Rn) (xa_cons (xd_ff 1 (xd_var 0) D.R rfl D.Rd) xa_nil)) ⟨_, _, rfl, rfl⟩) xd_int (by rw [h2]; rfl))))))) (fun z => nomatch z) (fun _ => xs_nil))
    (xs_one (xp_ret (xd_tup (xa_cons (xd_ff 0 (xd_var 0) D.R rfl D.Rn) (xa_cons (xd_ff 1 (xd_var 0) D.R rfl D.Rd) xa_nil)) (by simp))))), .inl ⟨_, rfl⟩⟩
end
end My
set_option autoImplicit false
set_option maxRecDepth 100000
set_option maxHeartbeats 4000000
set_option exponentiation.threshold 100000
namespace My
open PySem PySem.Spec PyProof.Rows L2 Dv Mq
/-! ### numbers over one denominator -/
def Hd (D m : Nat) (q : Rat) : Prop := ∃ z : Int, z.natAbs ≤ m ∧ q = Rat.divInt z D
theorem Hd.mono {D m m' : Nat} {q : Rat} (h : Hd D m q) (l : m ≤ m') : Hd D m' q := let ⟨z, a, b⟩ := h; ⟨z, Nat.le_trans a l, b⟩
theorem Hd.zero {D m : Nat} : Hd D m 0 := ⟨0, Nat.zero_le _, (Rat.zero_divInt _).symm⟩
theorem Hd.mul {D D' m m' : Nat} {a b : Rat} (h0 : 0 < D) (h0' : 0 < D') (h : Hd D m a) (h' : Hd D' m' b) : Hd (D * D') (m * m') (a * b) := by
  obtain ⟨z, a1, rfl⟩ := h
  obtain ⟨z', b1, rfl⟩ := h'
  refine ⟨z * z', by rw [Int.natAbs_mul]; exact Nat.mul_le_mul a1 b1, ?_⟩
  rw [Rat.divInt_mul_divInt, Int.natCast_mul]
theorem Hd.add {D m m' : Nat} {a b : Rat} (h0 : 0 < D) (h : Hd D m a) (h' : Hd D m' b) : Hd D (m + m') (a + b) := by
  obtain ⟨z, a1, rfl⟩ := h
  obtain ⟨z', b1, rfl⟩ := h'
  have hd : (D : Int) ≠ 0 := by omega
  refine ⟨z + z', by omega, ?_⟩
  rw [Rat.divInt_add_divInt _ _ hd hd]
  refine (Rat.divInt_eq_divInt_iff (Int.mul_ne_zero hd hd) hd).mpr ?_
  rw [Int.add_mul, Int.add_mul, Int.mul_assoc, Int.mul_assoc]
theorem Hd.neg {D m : Nat} {a : Rat} (h : Hd D m a) : Hd D m (-a) := by
  obtain ⟨z, a1, rfl⟩ := h
  exact ⟨-z, by rw [Int.natAbs_neg]; exact a1, by rw [Rat.neg_divInt]⟩
theorem Hd.sum {D m : Nat} {f : Nat → Rat} (h0 : 0 < D) (h : ∀ i, Hd D m (f i)) : ∀ n, Hd D (n * m) (sumTo f n)
  | 0 => Hd.zero
  | n + 1 => by
    have := (Hd.sum h0 h n).add h0 (h n)
    rw [Nat.add_mul, Nat.one_mul]
    exact this
theorem Hd.sz {D m k : Nat} {q : Rat} (h0 : 0 < D) (h : Hd D m q) (hm : m < 2 ^ k) (hD : D < 2 ^ k) : Sz k q := by
  obtain ⟨z, a1, rfl⟩ := h
  exact divInt_sz (by omega) (by omega) (by simpa using hD)
theorem itQ_hd (q : Int × Int) : Hd 2 4 (itQ q) := by
  obtain ⟨h1, h2⟩ := tk_lt (q := q) (m := 5) (by decide)
  unfold itQ
  split
  · exact ⟨tk q 5 - 2, by omega, rfl⟩
  · refine ⟨2 * (tk q 5 - 2), by omega, ?_⟩
    have e : ((tk q 5 - 2 : Int) : Rat) = Rat.divInt (tk q 5 - 2) 1 := by
      have := self_q ((tk q 5 - 2 : Int) : Rat)
      rw [Rat.num_intCast, Rat.den_intCast] at this
      exact this.symm
    rw [e]
    exact (Rat.divInt_eq_divInt_iff (by decide) (by decide)).mpr (by rw [Int.mul_one, Int.mul_comm]; rfl)
theorem row_hd {l : List Nat} {n : Nat} {M : Nat → Nat → Nat → Rat} {E e : Nat} (h0 : 0 < E) (hM : ∀ k i j, Hd E e (M k i j)) : ∀ (wd : List Nat) {D m : Nat} {y : Nat → Rat}, 0 < D → (∀ j, Hd D m (y j)) → ∀ j, Hd (D * E ^ wd.length) (m * (e * n) ^ wd.length) (rowR l n M y wd j)
  | [], D, m, y, hD, hy, j => by
    show Hd (D * E ^ 0) (m * (e * n) ^ 0) (y j)
    rw [Nat.pow_zero, Nat.pow_zero, Nat.mul_one, Nat.mul_one]; exact hy j
  | q :: wd, D, m, y, hD, hy, j => by
    have h1 : ∀ j, Hd (D * E) (n * (m * e)) (stepR l n M y q j) := fun j => Hd.sum (Nat.mul_pos hD h0) (fun t => (hy t).mul hD h0 (hM _ t j)) n
    have h2 := row_hd (l := l) (n := n) h0 hM wd (Nat.mul_pos hD h0) h1 j
    rw [List.length_cons, Nat.pow_succ, Nat.pow_succ]
    have e1 : D * (E ^ wd.length * E) = D * E * E ^ wd.length := by rw [Nat.mul_assoc, Nat.mul_comm E]
    have e2 : m * ((e * n) ^ wd.length * (e * n)) = n * (m * e) * (e * n) ^ wd.length := by
      rw [Nat.mul_comm ((e * n) ^ wd.length), ← Nat.mul_assoc, Nat.mul_comm n (m * e), Nat.mul_assoc m e n]
    rw [e1, e2]
    exact h2
theorem row_sz {l : List Nat} {n : Nat} {M : Nat → Nat → Nat → Rat} {y : Nat → Rat} {wd : List Nat} {D m : Nat} (hM : ∀ k i j, Hd 2 4 (M k i j)) (hD : 0 < D) (hy : ∀ j, Hd D m (y j)) (hw : wd.length ≤ 4) (hn : n ≤ 8) (hD2 : D ≤ 1000) (hm : m ≤ 1000) : ∀ k j, Sz 100 (rowR l n M y (wd.take k) j) := fun k j => by
  have h := row_hd (l := l) (n := n) (by decide) hM (wd.take k) hD hy j
  have hk : (wd.take k).length ≤ 4 := by rw [List.length_take]; omega
  generalize (wd.take k).length = t at h hk
  have a1 : 2 ^ t ≤ 16 := Nat.pow_le_pow_right (show 0 < 2 by decide) hk
  have a2 : (4 * n) ^ t ≤ 32 ^ 4 := Nat.le_trans (Nat.pow_le_pow_left (show 4 * n ≤ 32 by omega) t) (Nat.pow_le_pow_right (by decide) hk)
  have a3 : 0 < 2 ^ t := Nat.pow_pos (by decide)
  refine Hd.sz (Nat.mul_pos hD a3) h (Nat.lt_of_le_of_lt (Nat.mul_le_mul hm a2) (by decide)) (Nat.lt_of_le_of_lt (Nat.mul_le_mul hD2 a1) (by decide))
/-! ### sums -/
theorem sumTo_split (f : Nat → Rat) (m : Nat) : ∀ n, sumTo f (m + n) = sumTo f m + sumTo (fun i => f (m + i)) n
  | 0 => by show sumTo f m = sumTo f m + 0; rw [Rat.add_zero]
  | n + 1 => by
    show sumTo f (m + n) + f (m + n) = sumTo f m + (sumTo (fun i => f (m + i)) n + f (m + n))
    rw [sumTo_split f m n, Rat.add_assoc]
theorem sumTo_mulR (f : Nat → Rat) (s : Rat) : ∀ n, sumTo (fun t => f t * s) n = sumTo f n * s
  | 0 => by show (0 : Rat) = 0 * s; rw [Rat.zero_mul]
  | n + 1 => by
    show sumTo (fun t => f t * s) n + f n * s = (sumTo f n + f n) * s
    rw [sumTo_mulR f s n, Rat.add_mul]
theorem sumTo_mulL (f : Nat → Rat) (s : Rat) (n : Nat) : sumTo (fun t => s * f t) n = s * sumTo f n := by
  rw [Rat.mul_comm, ← sumTo_mulR]
  exact sumTo_ext fun t _ => Rat.mul_comm _ _
theorem sumTo_zero (n : Nat) : sumTo (fun _ => (0 : Rat)) n = 0 := by
  induction n with
  | zero => rfl
  | succ n ih => show sumTo (fun _ => (0 : Rat)) n + 0 = 0; rw [ih, Rat.add_zero]
theorem sumTo_add (f g : Nat → Rat) : ∀ n, sumTo (fun t => f t + g t) n = sumTo f n + sumTo g n
  | 0 => by show (0 : Rat) = 0 + 0; rw [Rat.add_zero]
  | n + 1 => by
    show sumTo (fun t => f t + g t) n + (f n + g n) = (sumTo f n + f n) + (sumTo g n + g n)
    rw [sumTo_add f g n, Rat.add_assoc, Rat.add_assoc]
    congr 1
    rw [← Rat.add_assoc, ← Rat.add_assoc, Rat.add_comm (sumTo g n)]
theorem sumTo_swap (F : Nat → Nat → Rat) (m : Nat) : ∀ n, sumTo (fun i => sumTo (F i) m) n = sumTo (fun j => sumTo (fun i => F i j) n) m
  | 0 => by show (0 : Rat) = sumTo (fun _ => (0 : Rat)) m; rw [sumTo_zero]
  | n + 1 => by
    show sumTo (fun i => sumTo (F i) m) n + sumTo (F n) m = sumTo (fun j => sumTo (fun i => F i j) n + F n j) m
    rw [sumTo_swap F m n, ← sumTo_add]
/-! ### weights -/
theorem step_ap {l : List Nat} {m n : Nat} {M M' : Nat → Nat → Nat → Rat} {y y' : Nat → Rat} {q : Nat} : stepR l (m + n) (diMs m M M') (apV m y y') q = apV m (stepR l m M y q) (stepR l n M' y' q) := by
  funext j
  unfold stepR
  rw [sumTo_split]
  have e1 : sumTo (fun t => apV m y y' t * diMs m M M' (l.idxOf q) t j) m = sumTo (fun t => y t * (if j < m then M (l.idxOf q) t j else 0)) m := sumTo_ext fun t ht => by unfold apV diMs diM; rw [if_pos ht, if_pos ht]
  have e2 : sumTo (fun i => apV m y y' (m + i) * diMs m M M' (l.idxOf q) (m + i) j) n = sumTo (fun t => y' t * (if j < m then 0 else M' (l.idxOf q) t (j - m))) n := sumTo_ext fun t ht => by unfold apV diMs diM; rw [if_neg (show ¬ m + t < m by omega), if_neg (show ¬ m + t < m by omega), Nat.add_sub_cancel_left]
  rw [e1, e2]
  unfold apV
  by_cases h : j < m
  · rw [if_pos h]
    have e3 : sumTo (fun t => y' t * (if j < m then 0 else M' (l.idxOf q) t (j - m))) n = 0 := (sumTo_ext fun t _ => by rw [if_pos h, Rat.mul_zero]).trans (sumTo_zero n)
    rw [e3, Rat.add_zero]
    exact sumTo_ext fun t _ => by rw [if_pos h]
  · rw [if_neg h]
    have e3 : sumTo (fun t => y t * (if j < m then M (l.idxOf q) t j else 0)) m = 0 := (sumTo_ext fun t _ => by rw [if_neg h, Rat.mul_zero]).trans (sumTo_zero m)
    rw [e3, Rat.zero_add]
    exact sumTo_ext fun t _ => by rw [if_neg h]
theorem row_ap {l : List Nat} {m n : Nat} {M M' : Nat → Nat → Nat → Rat} : ∀ (wd : List Nat) {y y' : Nat → Rat}, rowR l (m + n) (diMs m M M') (apV m y y') wd = apV m (rowR l m M y wd) (rowR l n M' y' wd)
  | [], _, _ => rfl
  | q :: wd, y, y' => by
    show rowR l (m + n) (diMs m M M') (stepR l (m + n) (diMs m M M') (apV m y y') q) wd = _
    rw [step_ap, row_ap wd]; rfl
theorem wt_ap {l : List Nat} {m n : Nat} {M M' : Nat → Nat → Nat → Rat} {r r' c c' : Nat → Rat} {wd : List Nat} : wtR l (m + n) (apV m r r') (diMs m M M') (apV m c c') wd = wtR l m r M c wd + wtR l n r' M' c' wd := by
  unfold wtR
  rw [row_ap, sumTo_split]
  congr 1
  · exact sumTo_ext fun t ht => by unfold apV; rw [if_pos ht, if_pos ht]
  · exact sumTo_ext fun t ht => by unfold apV; rw [if_neg (show ¬ m + t < m by omega), if_neg (show ¬ m + t < m by omega), Nat.add_sub_cancel_left]
theorem step_sc {l : List Nat} {n : Nat} {M : Nat → Nat → Nat → Rat} {y : Nat → Rat} {q : Nat} {s : Rat} : stepR l n M (fun j => y j * s) q = fun j => stepR l n M y q j * s := by
  funext j
  unfold stepR
  rw [← sumTo_mulR]
  exact sumTo_ext fun t _ => by rw [Rat.mul_assoc, Rat.mul_comm s, ← Rat.mul_assoc]
theorem row_sc {l : List Nat} {n : Nat} {M : Nat → Nat → Nat → Rat} {s : Rat} : ∀ (wd : List Nat) {y : Nat → Rat}, rowR l n M (fun j => y j * s) wd = fun j => rowR l n M y wd j * s
  | [], _ => rfl
  | q :: wd, y => by
    show rowR l n M (stepR l n M (fun j => y j * s) q) wd = _
    rw [step_sc, row_sc wd]; rfl
theorem wt_sc {l : List Nat} {n : Nat} {M : Nat → Nat → Nat → Rat} {r c : Nat → Rat} {s : Rat} {wd : List Nat} : wtR l n (fun j => r j * s) M c wd = wtR l n r M c wd * s := by
  unfold wtR
  rw [row_sc, ← sumTo_mulR]
  exact sumTo_ext fun t _ => by rw [Rat.mul_assoc, Rat.mul_comm s, ← Rat.mul_assoc]
theorem wt_tr_aux {l : List Nat} {n : Nat} {M : Nat → Nat → Nat → Rat} : ∀ (wd : List Nat) (y c : Nat → Rat), sumTo (fun t => rowR l n M y wd t * c t) n = sumTo (fun t => y t * rowR l n (fun k i j => M k j i) c wd.reverse t) n
  | [], _, _ => rfl
  | q :: wd, y, c => by
    show sumTo (fun t => rowR l n M (stepR l n M y q) wd t * c t) n = _
    rw [wt_tr_aux wd (stepR l n M y q) c, List.reverse_cons]
    have e : rowR l n (fun k i j => M k j i) c (wd.reverse ++ [q]) = stepR l n (fun k i j => M k j i) (rowR l n (fun k i j => M k j i) c wd.reverse) q := by
      unfold rowR; rw [List.foldl_append]; rfl
    rw [e]
    generalize rowR l n (fun k i j => M k j i) c wd.reverse = z
    unfold stepR
    have e1 : sumTo (fun t => sumTo (fun s => y s * M (l.idxOf q) s t) n * z t) n = sumTo (fun t => sumTo (fun s => y s * M (l.idxOf q) s t * z t) n) n := sumTo_ext fun t _ => (sumTo_mulR _ _ _).symm
    have e2 : sumTo (fun t => y t * sumTo (fun s => z s * M (l.idxOf q) t s) n) n = sumTo (fun t => sumTo (fun s => y t * (z s * M (l.idxOf q) t s)) n) n := sumTo_ext fun t _ => (sumTo_mulL _ _ _).symm
    rw [e1, e2, sumTo_swap]
    refine sumTo_ext fun t _ => sumTo_ext fun s _ => ?_
    rw [Rat.mul_assoc, Rat.mul_comm (z s)]
theorem wt_tr {l : List Nat} {n : Nat} {M : Nat → Nat → Nat → Rat} {r c : Nat → Rat} {wd : List Nat} : wtR l n c (fun k i j => M k j i) r wd.reverse = wtR l n r M c wd := by
  unfold wtR
  rw [wt_tr_aux wd r c]
  exact sumTo_ext fun t _ => Rat.mul_comm _ _
/-! ### the letters that the law draws -/
theorem LS.perm {q : LS} {i : Nat} (h : q.Ok i) (hi : i < 5) : (q.step.fd ++ q.step.sg).Perm (q.fd ++ q.sg) := by
  have hp : (0 : Int) < q.sg.length := by have := h.len; omega
  obtain ⟨v0, v1⟩ := take_lt (s := q.s) (t := q.t) hp
  show ((q.fd ++ [q.sg.getD (takeV q.s q.t q.sg.length).toNat 0]) ++ (q.sg.take (takeV q.s q.t q.sg.length).toNat ++ q.sg.drop ((takeV q.s q.t q.sg.length).toNat + 1))).Perm _
  generalize hv : (takeV q.s q.t q.sg.length).toNat = v
  have hv2 : v < q.sg.length := by omega
  have e : q.sg = q.sg.take v ++ q.sg.getD v 0 :: q.sg.drop (v + 1) := by
    have e1 : q.sg.drop v = q.sg.getD v 0 :: q.sg.drop (v + 1) := by
      rw [List.drop_eq_getElem_cons hv2, List.getD_eq_getElem?_getD, List.getElem?_eq_getElem hv2]; rfl
    rw [← e1, List.take_append_drop]
  rw [List.append_assoc]
  refine List.Perm.append_left q.fd ?_
  have p : ([q.sg.getD v 0] ++ (q.sg.take v ++ q.sg.drop (v + 1))).Perm (q.sg.take v ++ q.sg.getD v 0 :: q.sg.drop (v + 1)) := by rw [List.singleton_append]; exact List.perm_middle.symm
  rwa [← e] at p
theorem LS.run_perm {q : LS} (h : q.Ok 0) (he : (q.fd ++ q.sg).Perm marks0) : ∀ i, i ≤ 5 → ((q.run i).fd ++ (q.run i).sg).Perm marks0
  | 0, _ => he
  | i + 1, hi => (LS.perm (LS.run_ok h i (by omega)) (by omega)).trans (LS.run_perm h he i (by omega))
theorem letters_ok {s t most : Int} (h : StOk s t) (hm : 0 < most) (hm2 : most ≤ 4) : AlOk ((letQ s t most).run (letN s t most)).fd ∧ (∀ x ∈ ((letQ s t most).run (letN s t most)).fd, x ∈ marks0) ∧ (((letQ s t most).run (letN s t most)).fd.length : Int) ≤ most := by
  have q0 : (letQ s t most).Ok 0 := ⟨take_ok h hm, rfl, rfl⟩
  obtain ⟨v0, v1⟩ := take_lt (s := s) (t := t) hm
  have hN : letN s t most ≤ 5 := by unfold letN; omega
  have hN1 : 1 ≤ letN s t most := by unfold letN; omega
  have hN2 : (letN s t most : Int) ≤ most := by unfold letN; omega
  have ok := LS.run_ok q0 _ hN
  have pm := LS.run_perm q0 (List.Perm.refl _) _ hN
  have nd : ((letQ s t most).run (letN s t most)).fd.Nodup := (List.nodup_append.mp (pm.nodup_iff.mpr (by decide))).1
  have mem : ∀ x ∈ ((letQ s t most).run (letN s t most)).fd, x ∈ marks0 := fun x hx => pm.subset (List.mem_append_left _ hx)
  refine ⟨⟨by rw [ok.fl]; exact hN1, by rw [ok.fl]; omega, fun x hx => ?_, nd⟩, mem, by rw [ok.fl]; exact hN2⟩
  have := mem x hx
  unfold marks0 at this
  simp at this
  omega
end My
set_option autoImplicit false
set_option maxRecDepth 100000
set_option maxHeartbeats 4000000
set_option exponentiation.threshold 100000
namespace My
open PySem PySem.Spec PyProof.Rows L2 Dv Mq
section
variable {P : Program} {w : World} {K : PySem.W.Frag} {T : Ct} {mg : Str → Option Value} {base : Heap} {f CR CM CA CW CX' CF fI : Addr} {fd : FuncData}
abbrev sMX : Stmt := inClass cMat 8
/-- the matrix times a column -/
def RTim (ds : List Dt) (r : Dt) : Prop := ∃ (h n : Nat) (g : Nat → Nat → Rat) (x : Nat → Rat), ds = [dMx h n g, dVc n x] ∧ h ≤ 8 ∧ n ≤ 8 ∧ (∀ i j, Sz 100 (g i j)) ∧ (∀ i, Sz 100 (x i)) ∧ r = dVc h fun i => sumTo (fun t => g i t * x t) n
theorem scMX : FnScope ["self", "x", "row"] ["self", "x"] (defScope sMX) := ⟨rfl, rfl, rfl, by decide +kernel, rfl, by decide +kernel, by decide +kernel⟩
theorem ok_MX (F : Fun K "times" "Matrix.times" sMX f fd) (D : Md K T mg CR CM) (Dp : DF P w K T mg base "dot" 5 RDotP) : FnOk P w K mg base CX0 6 f fd ["self", "x"] (spD K T RTim) := by
  refine okD F scMX (fun ds r h => by obtain ⟨_, _, _, _, rfl, _⟩ := h; rfl) fun cdv A outer s H E pa ds r hr hR => ?_
  obtain ⟨h, n, g, x, rfl, hh, hn, hg, hx, rfl⟩ := hR
  refine ⟨_, xs_one (xp_ret (xd_tuple (xd_xl (xl_map1 2 (rg h fun i => dR (sumTo (fun t => g i t * x t) n)) scMX.nd (xi_tup rfl (xd_ff 0 (xd_var 0) D.M rfl D.Mr)) (by rw [rg_len, rg_len]) (by rw [rg_len]; omega) rfl ?_)) (.inl rfl) rfl D.tup)), .inl ⟨_, rfl⟩⟩
  intro i d v h1 h2 sh H C cl fp
  obtain ⟨hi, rfl⟩ := rg_get h1
  obtain ⟨_, rfl⟩ := rg_get h2
  exact xd_df Dp rfl hr (xa_cons (xd_var 2) (xa_cons (xd_var 1) xa_nil)) ⟨n, g i, x, rfl, hn, hg i, hx, rfl⟩
end
end My
set_option autoImplicit false
set_option maxRecDepth 100000
set_option maxHeartbeats 4000000
set_option exponentiation.threshold 100000
namespace My
open PySem PySem.Spec PyProof.Rows L2 Dv Mq
section
variable {P : Program} {w : World} {K : PySem.W.Frag} {T : Ct} {mg : Str → Option Value} {base : Heap} {f CR CM CA CW CX' CF fI : Addr} {fd : FuncData}
/-! ### the column before a word; a machine called -/
abbrev sWB : Stmt := inClass cMac 6
/-- a machine's matrices, transposed -/
def tM (M : Nat → Nat → Nat → Rat) : Nat → Nat → Nat → Rat := fun k i j => M k j i
def RWB (ds : List Dt) (d : Dt) : Prop := ∃ (l : List Nat) (n : Nat) (r : Nat → Rat) (M : Nat → Nat → Nat → Rat) (cl : Nat → Rat) (wd : List Nat), ds = [dW l n r M cl, .str (sx wd)] ∧ (∀ q ∈ wd, q ∈ l) ∧ wd.length ≤ 1000 ∧ n ≤ 8 ∧ (∀ k i j, Sz 100 (M k i j)) ∧ (∀ k j, Sz 100 (rowR l n (tM M) cl (wd.reverse.take k) j)) ∧ d = dVc n (rowR l n (tM M) cl wd.reverse)
theorem scWB : FnScope ["self", "word", "found", "a"] ["self", "word"] (defScope sWB) := ⟨rfl, rfl, rfl, by decide +kernel, rfl, by decide +kernel, by decide +kernel⟩
theorem mulV {n : Nat} {M : Nat → Nat → Nat → Rat} {l : List Nat} {y : Nat → Rat} {q : Nat} : (fun i => sumTo (fun t => M (l.idxOf q) i t * y t) n) = stepR l n (tM M) y q := by
  funext i
  exact sumTo_ext fun t _ => Rat.mul_comm _ _
theorem ok_WB (F : Fun K "column_before" "Machine.column_before" sWB f fd) (D : Md K T mg CR CM) (E : Wd K T mg CA CW) (hrev : mg "reversed" = none) (Mt : MF P w K T mg base CW "_matrix" 2 RWM) (B : MF P w K T mg base CM "times" 6 RTim) : FnOk P w K mg base CX0 7 f fd ["self", "word"] (spD K T RWB) := by
  refine okD F scWB (fun ds r h => by obtain ⟨_, _, _, _, _, _, rfl, _⟩ := h; rfl) fun cdv A outer s H E' pa ds d hr hR => ?_
  obtain ⟨l, n, r, M, cl, wd, rfl, hw, hlen, hn, hM, hz, rfl⟩ := hR
  let rv := wd.reverse
  let S : Nat → Store := fun i => [some (.fr (dW l n r M cl)), some (.fr (.str (sx wd))), some (.fr (dVc n (rowR l n (tM M) cl (rv.take i)))), slot (fun i => .str (sx [rv.getD i 0])) i]
  have e0 : dVc n (rowR l n (tM M) cl wd.reverse) = dVc n (rowR l n (tM M) cl (rv.take rv.length)) := by rw [List.take_length]
  rw [e0]
  refine ⟨_, xs_cons (XP.to (s2 := S 0) (xp_set 2 scWB.nd (xd_ff 3 (xd_var 0) E.W rfl E.Wc)) rfl)
    (xs_cons (XP.to (s2 := S rv.length) (xp_forN S rv.length (List.length_map ..) (xi_revX (xd_var 1) (by omega) hrev) ?_) rfl) (xs_one (xp_ret (xd_var 2)))), .inl ⟨_, rfl⟩⟩
  intro i d hd
  rw [List.getElem?_map] at hd
  cases e : rv[i]? with
  | none => rw [show wd.reverse[i]? = none from e] at hd; cases hd
  | some q =>
    rw [show wd.reverse[i]? = some q from e] at hd
    cases hd
    have eq : rv.getD i 0 = q := by rw [List.getD_eq_getElem?_getD, e]; rfl
    have hq : q ∈ l := hw q (List.mem_reverse.mp (List.mem_of_getElem? e))
    refine Turns.nx (xg_name 3 scWB.nd) (xs_one (xp_set 2 scWB.nd (xd_mf (xd_mf (xd_var 0) E.W Mt rfl (hr.mono (by decide)) (xa_cons (xd_var 3) xa_nil) ⟨l, n, r, M, cl, q, rfl, hq, rfl⟩) D.M B rfl hr (xa_cons (xd_var 2) xa_nil) ⟨n, n, M (l.idxOf q), rowR l n (tM M) cl (rv.take i), rfl, hn, hn, hM _, hz i, rfl⟩))) ?_
    show _ = [_, _, some (Sv.fr (dVc n (rowR l n (tM M) cl (rv.take (i + 1))))), some (Sv.fr (.str (sx [rv.getD i 0])))]
    rw [rowR_take e, eq, mulV]; rfl
theorem ok_WC (F : Fun K "__call__" "Machine.__call__" sWC f fd) (E : Wd K T mg CA CW) (Wt : MF P w K T mg base CW "weight" 9 RWW) : FnOk P w K mg base CX0 10 f fd ["self", "word"] (spD K T RWW) := by
  refine okD F scWC (fun ds r h => by obtain ⟨_, _, _, _, _, _, rfl, _⟩ := h; rfl) fun cdv A outer s H E' pa ds d hr hR => ?_
  obtain ⟨l, n, r, M, cl, wd, rfl, hx⟩ := hR
  exact ⟨_, xs_one (xp_ret (xd_mf (xd_var 0) E.W Wt rfl hr (xa_cons (xd_var 1) xa_nil) ⟨l, n, r, M, cl, wd, rfl, hx⟩)), .inl ⟨_, rfl⟩⟩
/-! ### a strange letter is refused -/
def rsL : Option (Str × Dt) := some ("reason", .str "letter")
def RAXX (C : Addr) (ds : List Dt) (x : Xn) : Prop := ∃ (l : List Nat) (q : Nat), ds = [dA l, .str (sx [q])] ∧ q ∉ l ∧ x = ⟨C, rsL⟩
theorem ok_AXX (F : Fun K "index" "Alphabet.index" sAX f fd) (D : Md K T mg CR CM) (E : Wd K T mg CA CW) (Rf : DvR.Rfd K mg CF fI) : FnOk P w K mg base (L2.CX P w) 2 f fd ["self", "letter"] (spX K T (RAXX CF)) := by
  refine okX' F scAX (fun ds r h => by obtain ⟨_, _, rfl, _⟩ := h; rfl) fun cdv A outer s H E' pa ds x hr hR => ?_
  obtain ⟨l, q, rfl, hq, rfl⟩ := hR
  exact ⟨_, xsx_here (xpx_if (tb := true) (xw_pt (xw_orF (xt_not (t := true) (xt_val (xd_isTy (id := "str") (xd_var 1) .str rfl D.isi E.str (by decide +kernel) rfl)))
      (xw_orF (xt_neI (xd_lenX (xd_var 1) (by simp) D.len) xd_int rfl) (xw_or1 (xt_notinX (t := true) (xd_var 1) (xd_ff 0 (xd_var 0) E.A rfl E.Al) (by rw [decide_eq_false hq]; rfl)))))) (fun _ => xsx_here (xpx_raiseR Rf rfl hr (takes_of rfl rfl rfl rfl) (xa_cons xd_str xa_nil))) (fun z => nomatch z))⟩
/-- a machine and a word that begins (or ends) with a strange letter -/
def RWMX (C : Addr) (ds : List Dt) (x : Xn) : Prop := ∃ (l : List Nat) (n : Nat) (r : Nat → Rat) (M : Nat → Nat → Nat → Rat) (cl : Nat → Rat) (q : Nat), ds = [dW l n r M cl, .str (sx [q])] ∧ q ∉ l ∧ x = ⟨C, rsL⟩
theorem ok_WMX (F : Fun K "_matrix" "Machine._matrix" sWM f fd) (E : Wd K T mg CA CW) (AXX : MX P w K T mg base CA "index" 2 (RAXX CF)) : FnOk P w K mg base (L2.CX P w) 3 f fd ["self", "a"] (spX K T (RWMX CF)) := by
  refine okX' F scWM (fun ds r h => by obtain ⟨_, _, _, _, _, _, rfl, _⟩ := h; rfl) fun cdv A outer s H E' pa ds x hr hR => ?_
  obtain ⟨l, n, r, M, cl, q, rfl, hq, rfl⟩ := hR
  exact ⟨_, xsx_here (xpx_ret (xx_ix (xd_ff 2 (xd_var 0) E.W rfl E.Wm) (xx_mx (xd_ff 0 (xd_var 0) E.W rfl E.Wa) E.A AXX rfl (takes_of rfl rfl rfl rfl) hr (xa_cons (xd_var 1) xa_nil) ⟨l, q, rfl, hq, rfl⟩) ix_tup (fun _ _ => rfl)))⟩
def RWRX (C : Addr) (ds : List Dt) (x : Xn) : Prop := ∃ (l : List Nat) (n : Nat) (r : Nat → Rat) (M : Nat → Nat → Nat → Rat) (cl : Nat → Rat) (q : Nat) (wd : List Nat), ds = [dW l n r M cl, .str (sx (q :: wd))] ∧ q ∉ l ∧ x = ⟨C, rsL⟩
theorem ok_WRX (F : Fun K "row_after" "Machine.row_after" sWR f fd) (E : Wd K T mg CA CW) (MX' : MX P w K T mg base CW "_matrix" 3 (RWMX CF)) : FnOk P w K mg base (L2.CX P w) 4 f fd ["self", "word"] (spX K T (RWRX CF)) := by
  refine okX' F scWR (fun ds r h => by obtain ⟨_, _, _, _, _, _, _, rfl, _⟩ := h; rfl) fun cdv A outer s H E' pa ds x hr hR => ?_
  obtain ⟨l, n, r, M, cl, q, wd, rfl, hq, rfl⟩ := hR
  let S : Nat → Store := fun i => [some (.fr (dW l n r M cl)), some (.fr (.str (sx (q :: wd)))), some (.fr (dVc n r)), none]
  exact ⟨_, xsx_cons (XP.to (s2 := S 0) (xp_set 2 scWR.nd (xd_ff 1 (xd_var 0) E.W rfl E.Wr)) rfl)
    (xsx_here (xpx_for S 0 (d := .str (sx [q])) rfl (xi_strX (xd_var 1)) (fun i d h => absurd h (Nat.not_lt_zero i)) ⟨_, xg_name 3 scWR.nd, xsx_here (xpx_set 2 scWR.nd (xx_recv (xx_mx (xd_var 0) E.W MX' rfl (takes_of rfl rfl rfl rfl) hr (xa_cons (xd_var 3) xa_nil) ⟨l, n, r, M, cl, q, rfl, hq, rfl⟩)))⟩))⟩
def RWBX (C : Addr) (ds : List Dt) (x : Xn) : Prop := ∃ (l : List Nat) (n : Nat) (r : Nat → Rat) (M : Nat → Nat → Nat → Rat) (cl : Nat → Rat) (q : Nat), ds = [dW l n r M cl, .str (sx [q])] ∧ q ∉ l ∧ x = ⟨C, rsL⟩
theorem ok_WBX (F : Fun K "column_before" "Machine.column_before" sWB f fd) (E : Wd K T mg CA CW) (hrev : mg "reversed" = none) (MX' : MX P w K T mg base CW "_matrix" 3 (RWMX CF)) : FnOk P w K mg base (L2.CX P w) 4 f fd ["self", "word"] (spX K T (RWBX CF)) := by
  refine okX' F scWB (fun ds r h => by obtain ⟨_, _, _, _, _, _, rfl, _⟩ := h; rfl) fun cdv A outer s H E' pa ds x hr hR => ?_
  obtain ⟨l, n, r, M, cl, q, rfl, hq, rfl⟩ := hR
  let S : Nat → Store := fun i => [some (.fr (dW l n r M cl)), some (.fr (.str (sx [q]))), some (.fr (dVc n cl)), none]
  exact ⟨_, xsx_cons (XP.to (s2 := S 0) (xp_set 2 scWB.nd (xd_ff 3 (xd_var 0) E.W rfl E.Wc)) rfl)
    (xsx_here (xpx_for S 0 (d := .str (sx [q])) rfl (xi_revX (l := [q]) (xd_var 1) (by simp) hrev) (fun i d h => absurd h (Nat.not_lt_zero i)) ⟨_, xg_name 3 scWB.nd, xsx_here (xpx_set 2 scWB.nd (xx_recv (xx_mx (xd_var 0) E.W MX' rfl (takes_of rfl rfl rfl rfl) hr (xa_cons (xd_var 3) xa_nil) ⟨l, n, r, M, cl, q, rfl, hq, rfl⟩)))⟩))⟩
theorem ok_WWX (F : Fun K "weight" "Machine.weight" sWW f fd) (E : Wd K T mg CA CW) (RX : MX P w K T mg base CW "row_after" 4 (RWRX CF)) (Dp : DF P w K T mg base "dot" 5 RDotP) : FnOk P w K mg base (L2.CX P w) 6 f fd ["self", "word"] (spX K T (RWRX CF)) := by
  refine okX' F scWW (fun ds r h => by obtain ⟨_, _, _, _, _, _, _, rfl, _⟩ := h; rfl) fun cdv A outer s H E' pa ds x hr hR => ?_
  obtain ⟨l, n, r, M, cl, q, wd, rfl, hq, rfl⟩ := hR
  exact ⟨_, xsx_here (xpx_ret (xx_arg Dp hr (xx_mx (xd_var 0) E.W RX rfl (takes_of rfl rfl rfl rfl) (hr.mono (by decide)) (xa_cons (xd_var 1) xa_nil) ⟨l, n, r, M, cl, q, wd, rfl, hq, rfl⟩)))⟩
end
end My
set_option autoImplicit false
set_option maxRecDepth 100000
set_option maxHeartbeats 4000000
set_option exponentiation.threshold 100000
namespace My
open PySem PySem.Spec PyProof.Rows L2 Dv Mq
section
variable {P : Program} {w : World} {K : PySem.W.Frag} {T : Ct} {mg : Str → Option Value} {base : Heap} {f CR CM CA CW CX' CF fI : Addr} {fd : FuncData}
/-! ### machines of wrong shape -/
def RIsSqG (ds : List Dt) (r : Dt) : Prop := ∃ (h m n : Nat) (g : Nat → Nat → Rat), ds = [dMx h m g, .int n] ∧ h ≤ 1000 ∧ r = .bl (decide (h = n) && decide (m = n))
theorem dec_nat {a b : Nat} : decide ((a : Int) = b) = decide (a = b) := by
  by_cases h : a = b
  · rw [decide_eq_true h, decide_eq_true (by omega)]
  · rw [decide_eq_false h, decide_eq_false (by omega)]
theorem ok_isSqG (F : Fun K "_is_square" "_is_square" sIsSq f fd) (D : Md K T mg CR CM) (L : MF P w K T mg base CM "__len__" 1 RLen) : FnOk P w K mg base CX0 3 f fd ["matrix", "n"] (spD K T RIsSqG) := by
  refine okD F scIsSq (fun ds r h => by obtain ⟨_, _, _, _, rfl, _⟩ := h; rfl) fun cdv A outer s H E' pa ds r hr hR => ?_
  obtain ⟨h, m, n, g, rfl, hh, rfl⟩ := hR
  exact ⟨_, xs_one (xp_ret (xd_and (t := decide (h = n)) (u := decide (m = n)) (XD.to (xd_eqI (xd_lenF (xd_var 0) D.M L rfl hr ⟨h, m, g, rfl, rfl⟩ (by omega) (by omega) D.len) (xd_var 1)) (by rw [dec_nat])) fun _ => xd_one (XD.to (xd_eqI (xd_ff 1 (xd_var 0) D.M rfl D.Mw) (xd_var 1)) (by rw [dec_nat])))), .inl ⟨_, rfl⟩⟩
structure Sh where
  h : Nat
  w : Nat
  g : Nat → Nat → Rat
def dSh (s : Sh) : Dt := dMx s.h s.w s.g
inductive RWIX (C : Addr) : List Dt → Xn → Prop where
  | len {l : List Nat} {xs ms cs : List Dt} : xs.length ≠ cs.length → RWIX C [dA l, .tup xs, .tup ms, .tup cs] ⟨C, none⟩
  | cnt {l : List Nat} {xs ms cs : List Dt} : xs.length = cs.length → l.length ≤ 4 → ms.length ≠ l.length → RWIX C [dA l, .tup xs, .tup ms, .tup cs] ⟨C, none⟩
  | sq {l : List Nat} {xs cs : List Dt} {ms : List Sh} : xs.length = cs.length → l.length ≤ 4 → ms.length = l.length → (∀ m ∈ ms, m.h ≤ 1000) → (∃ m ∈ ms, ¬ (m.h = xs.length ∧ m.w = xs.length)) → RWIX C [dA l, .tup xs, .tup (ms.map dSh), .tup cs] ⟨C, none⟩
theorem ok_WIX (F : Fun K "__init__" "Machine.__init__" sWI f fd) (D : Md K T mg CR CM) (E : Wd K T mg CA CW) (AL : MF P w K T mg base CA "__len__" 1 RALen) (Q : DF P w K T mg base "_is_square" 3 RIsSqG) (Z : Rz K mg "Malformed" CX') : FnOk P w K mg base (L2.CX P w) 4 f fd ["self", "alphabet", "row", "matrices", "column"] (spIX K T 3 (RWIX CX')) := by
  refine okIX F scWI E.W.at_ (fun ds x h => by cases h <;> rfl) fun cdv A outer s H E' pa ds x hr hR => ?_
  have nd : (["alphabet", "row", "matrices", "column"] : List Str).Nodup := by decide +kernel
  cases hR with
  | @len l xs ms cs h =>
    exact ⟨_, xsx_cons (xp_fldset (xd_var 1) E.W.at_ nd E.W.cl E.Wa rfl rfl) (xsx_cons (xp_fldset (xd_tuple (xd_var 2) (.inr rfl) rfl D.tup) E.W.at_ nd E.W.cl E.Wr rfl rfl) (xsx_cons (xp_fldset (xd_tuple (xd_var 3) (.inr rfl) rfl D.tup) E.W.at_ nd E.W.cl E.Wm rfl rfl) (xsx_cons (xp_fldset (xd_tuple (xd_var 4) (.inr rfl) rfl D.tup) E.W.at_ nd E.W.cl E.Wc rfl rfl)
      (xsx_here (xpx_if (tb := true) (xt_neI (xd_len (xd_fldB 1 rfl rfl E.W.at_ E.W.cl E.Wr rfl rfl) (.inr (.inr rfl)) rfl D.len) (xd_len (xd_fldB 3 rfl rfl E.W.at_ E.W.cl E.Wc rfl rfl) (.inr (.inr rfl)) rfl D.len) (by rw [decide_eq_false (by omega)]; rfl)) (fun _ => xsx_here (xpx_raise Z rfl (takes_of rfl rfl rfl rfl))) (fun z => nomatch z))))))⟩
  | @cnt l xs ms cs h hl hm =>
    exact ⟨_, xsx_cons (xp_fldset (xd_var 1) E.W.at_ nd E.W.cl E.Wa rfl rfl) (xsx_cons (xp_fldset (xd_tuple (xd_var 2) (.inr rfl) rfl D.tup) E.W.at_ nd E.W.cl E.Wr rfl rfl) (xsx_cons (xp_fldset (xd_tuple (xd_var 3) (.inr rfl) rfl D.tup) E.W.at_ nd E.W.cl E.Wm rfl rfl) (xsx_cons (xp_fldset (xd_tuple (xd_var 4) (.inr rfl) rfl D.tup) E.W.at_ nd E.W.cl E.Wc rfl rfl)
      (xsx_cons (xp_if (tb := false) (xt_neI (xd_len (xd_fldB 1 rfl rfl E.W.at_ E.W.cl E.Wr rfl rfl) (.inr (.inr rfl)) rfl D.len) (xd_len (xd_fldB 3 rfl rfl E.W.at_ E.W.cl E.Wc rfl rfl) (.inr (.inr rfl)) rfl D.len) (by rw [decide_eq_true (by omega)]; rfl)) (fun z => nomatch z) (fun _ => xs_nil))
      (xsx_here (xpx_if (tb := true) (xt_neI (xd_len (xd_fldB 2 rfl rfl E.W.at_ E.W.cl E.Wm rfl rfl) (.inr (.inr rfl)) rfl D.len) (xd_lenF (xd_var 1) E.A AL rfl (hr.mono (by decide)) ⟨l, rfl, hl, rfl⟩ (by omega) (by omega) D.len) (by rw [decide_eq_false (by omega)]; rfl)) (fun _ => xsx_here (xpx_raise Z rfl (takes_of rfl rfl rfl rfl))) (fun z => nomatch z)))))))⟩
  | @sq l xs cs ms h hl hm hh hb =>
    let bs : List Bool := ms.map fun m => decide (m.h = xs.length) && decide (m.w = xs.length)
    have hbs : bs.all id = false := by
      obtain ⟨m, h1, h2⟩ := hb
      rw [Bool.eq_false_iff]
      intro z
      have := List.all_eq_true.mp z _ (List.mem_map.mpr ⟨m, h1, rfl⟩)
      simp at this
      exact h2 this
    refine ⟨_, xsx_cons (xp_fldset (xd_var 1) E.W.at_ nd E.W.cl E.Wa rfl rfl) (xsx_cons (xp_fldset (xd_tuple (xd_var 2) (.inr rfl) rfl D.tup) E.W.at_ nd E.W.cl E.Wr rfl rfl) (xsx_cons (xp_fldset (xd_tuple (xd_var 3) (.inr rfl) rfl D.tup) E.W.at_ nd E.W.cl E.Wm rfl rfl) (xsx_cons (xp_fldset (xd_tuple (xd_var 4) (.inr rfl) rfl D.tup) E.W.at_ nd E.W.cl E.Wc rfl rfl)
      (xsx_cons (xp_if (tb := false) (xt_neI (xd_len (xd_fldB 1 rfl rfl E.W.at_ E.W.cl E.Wr rfl rfl) (.inr (.inr rfl)) rfl D.len) (xd_len (xd_fldB 3 rfl rfl E.W.at_ E.W.cl E.Wc rfl rfl) (.inr (.inr rfl)) rfl D.len) (by rw [decide_eq_true (by omega)]; rfl)) (fun z => nomatch z) (fun _ => xs_nil))
      (xsx_cons (xp_if (tb := false) (xt_neI (xd_len (xd_fldB 2 rfl rfl E.W.at_ E.W.cl E.Wm rfl rfl) (.inr (.inr rfl)) rfl D.len) (xd_lenF (xd_var 1) E.A AL rfl (hr.mono (by decide)) ⟨l, rfl, hl, rfl⟩ (by omega) (by omega) D.len) (by rw [List.length_map, decide_eq_true (by omega)]; rfl)) (fun z => nomatch z) (fun _ => xs_nil))
      (xsx_here (xpx_if (tb := true) (xt_not (t := false) (xt_val (xd_all (bs := bs) (XD.to (xd_xl (xl_map1 5 (ms.map fun m => .bl (decide (m.h = xs.length) && decide (m.w = xs.length))) scWI.nd (xi_tup rfl (xd_fldB 2 rfl rfl E.W.at_ E.W.cl E.Wm rfl rfl)) (by rw [List.length_map, List.length_map]) (by rw [List.length_map]; omega) rfl fun i d v g1 g2 sh H C cl' fp => ?_)) (by show _ = Dt.lst ((ms.map _).map .bl); rw [List.map_map]; rfl)) hbs rfl E.all))) (fun _ => xsx_here (xpx_raise Z rfl (takes_of rfl rfl rfl rfl))) (fun z => nomatch z))))))))⟩
    rw [List.getElem?_map] at g1 g2
    cases e : ms[i]? with
    | none => rw [e] at g1; cases g1
    | some m =>
      rw [e] at g1 g2
      cases g1
      cases g2
      exact xd_df Q rfl hr (xa_cons (xd_var 5) (xa_cons (xd_len (xd_fldB 1 rfl rfl E.W.at_ E.W.cl E.Wr rfl rfl) (.inr (.inr rfl)) rfl D.len) xa_nil)) ⟨m.h, m.w, xs.length, m.g, rfl, hh m (List.mem_of_getElem? e), rfl⟩
end
end My
set_option autoImplicit false
set_option maxRecDepth 100000
set_option maxHeartbeats 4000000
set_option exponentiation.threshold 100000
namespace My
open PySem PySem.Spec PyProof.Rows L2 Dv Mq
section
variable {P : Program} {w : World} {K : PySem.W.Frag} {T : Ct} {mg : Str → Option Value} {base : Heap} {f CR CM CA CW CX' CF CB fI : Addr} {fd : FuncData}
abbrev sPairs : Stmt := topS 33
abbrev sLBefore : Stmt := topS 43
abbrev sRefd : Stmt := topS 45
abbrev sLBad : Stmt := topS 46
theorem pl_dP {k : Nat} (q : Rat) : Pl (k + 1) (dP q) (.tuple [.int q.num, .int q.den]) := pl_tup (pll_cons pl_int (pll_cons pl_int pll_nil))
theorem pl_dPl {k n : Nat} (g : Nat → Rat) : Pl (k + 2) (dPl n g) (.list ((List.range n).map fun j => .tuple [.int (g j).num, .int (g j).den])) := pl_lst (pll_map (fun j => pl_dP (g j)) _)
def RPairs (ds : List Dt) (r : Dt) : Prop := ∃ (n : Nat) (g : Nat → Rat), ds = [dVc n g] ∧ n ≤ 8 ∧ r = dPl n g
theorem scPairs : FnScope ["values", "found", "value"] ["values"] (defScope sPairs) := ⟨rfl, rfl, rfl, by decide +kernel, rfl, by decide +kernel, by decide +kernel⟩
theorem ok_pairs (F : Fun K "_law_pairs" "_law_pairs" sPairs f fd) (D : Md K T mg CR CM) (Dp : DF P w K T mg base "_law_pair" 2 RPair) : FnOk P w K mg base CX0 3 f fd ["values"] (spD K T RPairs) := by
  refine okD F scPairs (fun ds r h => by obtain ⟨_, _, rfl, _⟩ := h; rfl) fun cdv A outer s H E pa ds r hr hR => ?_
  obtain ⟨n, g, rfl, hn, rfl⟩ := hR
  refine ⟨_, xs_cons (xp_if (tb := false) (xt_not (t := true) (xt_val (xd_isTy (id := "tuple") (xd_var 0) .tup rfl D.isi D.tup (by decide +kernel) rfl))) (fun z => nomatch z) (fun _ => xs_nil))
    (xs_cons (xp_map1 1 false 2 (rg n fun j => dP (g j)) scPairs.nd (xi_tup rfl (xd_var 0)) (by rw [rg_len, rg_len]) (by rw [rg_len]; omega) rfl ?_)
    (xs_cons (xp_if (tb := false) (xt_inP (k := 3) xd_non (xd_var 1) pl_non (pl_lst (pll_map (fun j => pl_dP (g j)) _)) (by decide) ?_ rfl hr) (fun z => nomatch z) (fun _ => xs_nil))
    (xs_one (xp_ret (xd_var 1))))), .inl ⟨_, rfl⟩⟩
  · intro j d v h1 h2 sh H C cl fp
    obtain ⟨hj, rfl⟩ := rg_get h1
    obtain ⟨_, rfl⟩ := rg_get h2
    exact xd_df Dp rfl hr (xa_cons (xd_var 2) xa_nil) ⟨g j, rfl, rfl⟩
  · rw [List.any_map]
    apply List.any_eq_false.mpr
    intro j _
    intro z
    have := PyData.eqv.eq_38 [.int (g j).num, .int (g j).den]
    rw [show ((fun z => PyData.eqv z .none) ∘ fun j => PyData.tuple [.int (g j).num, .int (g j).den]) j = PyData.eqv (.tuple [.int (g j).num, .int (g j).den]) .none from rfl, this] at z
    cases z
def RLBefore (ds : List Dt) (d : Dt) : Prop := ∃ (l : List Nat) (p : Pn) (wd : List Nat), ds = [dPlan l p, .str (sx wd)] ∧ (∀ q ∈ wd, q ∈ l) ∧ wd.length ≤ 1000 ∧ l.length ≤ 4 ∧ p.n ≤ 8 ∧ (∀ k i j, Sz 100 (p.M k i j)) ∧ (∀ k j, Sz 100 (rowR l p.n (tM p.M) p.c (wd.reverse.take k) j)) ∧ d = dPl p.n (rowR l p.n (tM p.M) p.c wd.reverse)
abbrev nLBefore : List Str := ["plan", "word", "letters", "row", "squares", "column", "mark", "rows", "items"]
theorem scLBefore : FnScope nLBefore ["plan", "word"] (defScope sLBefore) := ⟨rfl, rfl, rfl, by decide +kernel, rfl, by decide +kernel, by decide +kernel⟩
theorem ok_lbefore (F : Fun K "_law_before" "_law_before" sLBefore f fd) (D : Md K T mg CR CM) (hlist : mg "list" = none) (Dd : DF P w K T mg base "_law_dot" 4 RDot) : FnOk P w K mg base CX0 5 f fd ["plan", "word"] (spD K T RLBefore) := by
  refine okD F scLBefore (fun ds r h => by obtain ⟨_, _, _, rfl, _⟩ := h; rfl) fun cdv A outer s H E' pa ds d hr hR => ?_
  obtain ⟨l, p, wd, rfl, hw, hwl, hl4, hn, hM, hz, rfl⟩ := hR
  let rv := wd.reverse
  let y : Nat → Nat → Rat := fun i => rowR l p.n (tM p.M) p.c (rv.take i)
  let sq : Nat → Dt := fun i => dPls p.n (p.M (l.idxOf (rv.getD i 0)))
  let S : Nat → Store := fun i => [some (.fr (dPlan l p)), some (.fr (.str (sx wd))), some (.fr (.str (sx l))), some (.fr (dPl p.n p.r)), some (.fr (.lst (rg l.length fun k => dPls p.n (p.M k)))), some (.fr (dPl p.n (y i))), slot (fun i => .str (sx [rv.getD i 0])) i, slot sq i, none]
  have e0 : dPl p.n (rowR l p.n (tM p.M) p.c wd.reverse) = dPl p.n (y rv.length) := by show _ = dPl p.n (rowR l p.n (tM p.M) p.c (rv.take rv.length)); rw [List.take_length]
  rw [e0]
  have er : (wd.map fun q => Dt.str (sx [q])).reverse = rv.map fun q => Dt.str (sx [q]) := by rw [← List.map_reverse]
  refine ⟨_, xs_cons (XP.to (s2 := S 0) (xp_asg (xd_var 0) (xg_tup (n := 4) rfl rfl (xgs_cons (xg_name 2 scLBefore.nd) (xgs_cons (xg_name 3 scLBefore.nd) (xgs_cons (xg_name 4 scLBefore.nd) (xgs_cons (xg_name 5 scLBefore.nd) xgs_nil)))) rfl)) rfl)
    (xs_cons (XP.to (s2 := S rv.length) (xp_forN S rv.length (by rw [List.length_map]) (xi_list rfl (XD.to (xd_revL (xd_listX (xd_var 1) (by omega) rfl hlist) rfl) (congrArg Dt.lst er))) ?_) rfl) (xs_one (xp_ret (xd_var 5)))), .inl ⟨_, rfl⟩⟩
  intro i d hd
  rw [List.getElem?_map] at hd
  cases e : rv[i]? with
  | none => rw [e] at hd; cases hd
  | some q =>
    rw [e] at hd
    cases hd
    have eq : rv.getD i 0 = q := by rw [List.getD_eq_getElem?_getD, e]; rfl
    have hq : q ∈ l := hw q (List.mem_reverse.mp (List.mem_of_getElem? e))
    have hk := List.idxOf_lt_length_of_mem hq
    refine Turns.nx (xg_name 6 scLBefore.nd) (xs_cons (xp_set 7 scLBefore.nd (xd_ixL (m := l.idxOf q) (xd_var 4) (xd_findX (xd_var 2) (xd_var 6) hq) rfl (rg_at hk) rfl))
      (xs_one (xp_set 5 scLBefore.nd (xd_xl (xl_map1 8 (rg p.n fun i' => dP (sumTo (fun t => p.M (l.idxOf q) i' t * y i t) p.n)) scLBefore.nd (xi_list (ds := rg p.n fun i' => dPl p.n (p.M (l.idxOf q) i')) rfl (xd_var 7)) (by rw [rg_len, rg_len]) (by rw [rg_len]; omega) rfl ?_))))) ?_
    · intro j d v h1 h2 sh H C cl fp
      obtain ⟨hj, rfl⟩ := rg_get h1
      obtain ⟨_, rfl⟩ := rg_get h2
      exact xd_df Dd rfl hr (xa_cons (xd_var 8) (xa_cons (xd_var 5) xa_nil)) ⟨p.n, p.M (l.idxOf q) j, y i, rfl, hn, hM _ j, hz i, rfl⟩
    · have e3 : y (i + 1) = stepR l p.n (tM p.M) (y i) q := rowR_take e
      show _ = [_, _, _, _, _, some (Sv.fr (dPl p.n (y (i + 1)))), some (Sv.fr (.str (sx [rv.getD i 0]))), some (Sv.fr (dPls p.n (p.M (l.idxOf (rv.getD i 0))))), _]
      rw [e3, eq, ← mulV]; rfl
/-- what is known of the classes that are raised and caught -/
structure CatB (K : PySem.W.Frag) (mg : Str → Option Value) (C CB : Addr) : Prop where
  nm : mg "Fault" = some (.ref CB)
  ex : PySem.W.exmOne K (.ref C) (.ref CB) = some true
  ei : ExcI K C
  ki : PySem.W.kitOne K (.ref C) (.ref C) = some true
def RRefd (ds : List Dt) (r : Dt) : Prop := ∃ (l : List Nat) (n : Nat) (r' : Nat → Rat) (M : Nat → Nat → Nat → Rat) (c : Nat → Rat), ds = [dW l n r' M c] ∧ 113 ∉ l ∧ r = .bl true
abbrev nRefd : List Str := ["machine", "count", "turn", "bad"]
theorem scRefd : FnScope nRefd ["machine"] (defScope sRefd) := ⟨rfl, rfl, rfl, by decide +kernel, rfl, by decide +kernel, by decide +kernel⟩
theorem ok_refd (F : Fun K "_law_refused" "_law_refused" sRefd f fd) (D : Md K T mg CR CM) (E : Wd K T mg CA CW) (WX : MX P w K T mg base CW "weight" 6 (RWRX CF)) (RX : MX P w K T mg base CW "row_after" 4 (RWRX CF)) (BX : MX P w K T mg base CW "column_before" 4 (RWBX CF)) (Rf : DvR.Rfd K mg CF fI) (C : CatB K mg CF CB) : FnOk P w K mg base CX0 7 f fd ["machine"] (spD K T RRefd) := by
  refine okD F scRefd (fun ds r h => by obtain ⟨_, _, _, _, _, rfl, _⟩ := h; rfl) fun cdv A outer s H E' pa ds r hr hR => ?_
  obtain ⟨l, n, r', M, c, rfl, hq, rfl⟩ := hR
  have r4 : Room 4 _ := hr.mono (by decide)
  let S : Nat → Store := fun i => [some (.fr (dW l n r' M c)), some (.fr (.int (i : Nat))), slot (fun i => .int i) i, none]
  have hcat : Names (bX P w K mg base nRefd "_law_refused" sRefd f cdv A outer s H E') "Fault" (.ref CB) := ⟨rfl, by decide, .inl C.nm⟩
  refine ⟨_, xs_cons (XP.to (s2 := S 0) (xp_set 1 scRefd.nd xd_int) rfl)
    (xs_cons (xp_forN S 3 (by simp) (xi_range1 (n := (3 : Int)) xd_int (by decide) (by decide) D.ran) ?_)
    (xs_one (xp_ret (xd_eqI (xd_var 1) xd_int)))), .inl ⟨_, rfl⟩⟩
  intro i d hd
  obtain ⟨hi, rfl⟩ := rng_get (n := 3) (by simpa using hd)
  let St : Store := [some (.fr (dW l n r' M c)), some (.fr (.int (i : Nat))), some (.fr (.int (i : Nat))), none]
  refine Turns.nx (xg_name 2 scRefd.nd) (xs_one (xp_tryAs (x := ⟨CF, rsL⟩) (st := St) (st1 := St) (o := .nx (S (i + 1))) (o1 := fun a dd => .nx [some (.fr (dW l n r' M c)), some (.fr (.int ((i : Int) + 1))), some (.fr (.int (i : Nat))), some (.ex a dd rsL)]) 3 scRefd.nd hcat C.ex (fun W' pn xe tk pw => ?_) (fun a' oe dd pn hz hfl => ?_) (fun _ _ => rfl))) rfl
  · have wq : RWRX CF [dW l n r' M c, .str (sx [113])] ⟨CF, rsL⟩ := ⟨l, n, r', M, c, 113, [], rfl, hq, rfl⟩
    have wqq : RWRX CF [dW l n r' M c, .str (sx [113, 113])] ⟨CF, rsL⟩ := ⟨l, n, r', M, c, 113, [113], rfl, hq, rfl⟩
    have ci : i = 0 ∨ i = 1 ∨ i = 2 := by omega
    have T : ∀ k : Int, (i : Int) = k → decide ((i : Int) = k) = true := fun k h => decide_eq_true h
    have N : ∀ k : Int, (i : Int) ≠ k → decide ((i : Int) = k) = false := fun k h => decide_eq_false h
    rcases ci with h | h | h
    · exact xsx_here (xpx_if (tb := true) (xt_eqI (xd_var 2) xd_int (T 0 (by omega))) (fun _ => xsx_here (xpx_expr (xx_mx (xd_var 0) E.W WX rfl tk hr (xa_cons xd_str xa_nil) wq))) (fun z => nomatch z))
    · exact xsx_cons (xp_if (tb := false) (xt_eqI (xd_var 2) xd_int (N 0 (by omega))) (fun z => nomatch z) (fun _ => xs_nil)) (xsx_here (xpx_if (tb := true) (xt_eqI (xd_var 2) xd_int (T 1 (by omega))) (fun _ => xsx_here (xpx_expr (xx_mx (xd_var 0) E.W RX rfl tk r4 (xa_cons xd_str xa_nil) wqq))) (fun z => nomatch z)))
    · exact xsx_cons (xp_if (tb := false) (xt_eqI (xd_var 2) xd_int (N 0 (by omega))) (fun z => nomatch z) (fun _ => xs_nil)) (xsx_cons (xp_if (tb := false) (xt_eqI (xd_var 2) xd_int (N 1 (by omega))) (fun z => nomatch z) (fun _ => xs_nil)) (xsx_here (xpx_if (tb := true) (xt_eqI (xd_var 2) xd_int (T 2 (by omega))) (fun _ => xsx_here (xpx_expr (xx_mx (xd_var 0) E.W BX rfl tk r4 (xa_cons xd_str xa_nil) ⟨l, n, r', M, c, 113, rfl, hq, rfl⟩))) (fun z => nomatch z))))
  · exact xs_one (xp_if (tb := true) (xw_pt (xw_and (t := true) (u := true) (xt_val (xd_isE 3 C.ei hz hfl Rf.nm C.ki D.isi)) fun _ => xw_and1 (xt_eqS (xd_rsn 3 Rf hz hfl) xd_str rfl rfl rfl (decide_eq_true rfl)))) (fun _ => xs_one (xp_set 1 scRefd.nd (xd_add (xd_var 1) xd_int))) (fun z => nomatch z))
end
end My
set_option autoImplicit false
set_option maxRecDepth 100000
set_option maxHeartbeats 4000000
set_option exponentiation.threshold 100000
namespace My
open PySem PySem.Spec PyProof.Rows L2 Dv Mq
section
variable {P : Program} {w : World} {K : PySem.W.Frag} {T : Ct} {mg : Str → Option Value} {base : Heap} {f CR CM CA CW CX' CF CB fI : Addr} {fd : FuncData}
theorem divInt_1 (v : Int) : Rat.divInt v 1 = (v : Rat) := by
  have := self_q (v : Rat)
  rw [Rat.num_intCast, Rat.den_intCast] at this
  exact this
theorem rin1 (v : Int) : RIn ([.int v] ++ [.int 1]) [.int ((v : Rat)).num, .int ((v : Rat)).den] := by
  have r := rin (n := v) (d := 1) (by decide) (by decide)
  rw [divInt_1] at r
  exact r
def RLBad (ds : List Dt) (r : Dt) : Prop := ∃ (l : List Nat) (n : Nat) (r' : Nat → Rat) (M : Nat → Nat → Nat → Rat) (c : Nat → Rat) (k : Nat), ds = [dW l n r' M c, .int k] ∧ n ≤ 3 ∧ 1 ≤ l.length ∧ l.length ≤ 4 ∧ k < 4 ∧ r = .bl true
abbrev nLBad : List Str := ["machine", "pick", "row", "matrices", "column", "wide", "j", "k", "bad"]
theorem scLBad : FnScope nLBad ["machine", "pick"] (defScope sLBad) := ⟨rfl, rfl, rfl, by decide +kernel, rfl, by decide +kernel, by decide +kernel⟩
theorem rg_drop (L : Nat) (F : Nat → Dt) : (rg L F).drop 1 = rg (L - 1) fun k => F (k + 1) := by
  apply List.ext_getElem?
  intro i
  rw [List.getElem?_drop]
  by_cases h : 1 + i < L
  · rw [rg_at h, rg_at (by omega), Nat.add_comm]
  · rw [List.getElem?_eq_none (by rw [rg_len]; omega), List.getElem?_eq_none (by rw [rg_len]; omega)]
theorem ok_lbad (F : Fun K "_law_bad" "_law_bad" sLBad f fd) (D : Md K T mg CR CM) (E : Wd K T mg CA CW) (R : RF P w K T mg base CR) (I : IF' P w K T mg base 1 CM [] 1 RMI) (WX : IX P w K T mg base 3 CW 4 (RWIX CX')) (Z : Rz K mg "Malformed" CX') (C : CatB K mg CX' CB) : FnOk P w K mg base CX0 6 f fd ["machine", "pick"] (spD K T RLBad) := by
  refine okD F scLBad (fun ds r h => by obtain ⟨_, _, _, _, _, _, rfl, _⟩ := h; rfl) fun cdv A outer s H E' pa ds r hr hR => ?_
  obtain ⟨l, n, r', M, c, k, rfl, hn, hl1, hl4, hk, rfl⟩ := hR
  have r2 : Room 2 _ := hr.mono (by decide)
  let Wi : Dt := dMx n (n + 1) fun _ _ => 0
  let S : Store := [some (.fr (dW l n r' M c)), some (.fr (.int k)), some (.fr (dVc n r')), some (.fr (.tup (dMs l.length n M))), some (.fr (dVc n c)), some (.fr Wi), none, none, none]
  have hcat : Names (bX P w K mg base nLBad "_law_bad" sLBad f cdv A outer s H E') "Fault" (.ref CB) := ⟨rfl, by decide, .inl C.nm⟩
  have lv : ∀ g : Nat → Rat, ((rg n fun j => dR (g j)).length : Int) = (n : Int) := fun g => by rw [rg_len]
  refine ⟨_, xs_cons (XP.to (s2 := [some (.fr (dW l n r' M c)), some (.fr (.int k)), some (.fr (dVc n r')), some (.fr (.tup (dMs l.length n M))), some (.fr (dVc n c)), none, none, none, none]) (xp_asg (xd_tup (xa_cons (xd_ff 1 (xd_var 0) E.W rfl E.Wr) (xa_cons (xd_ff 2 (xd_var 0) E.W rfl E.Wm) (xa_cons (xd_ff 3 (xd_var 0) E.W rfl E.Wc) xa_nil))) (by simp)) (xg_tup (n := 3) rfl rfl (xgs_cons (xg_name 2 scLBad.nd) (xgs_cons (xg_name 3 scLBad.nd) (xgs_cons (xg_name 4 scLBad.nd) xgs_nil))) rfl)) rfl)
    (xs_cons (XP.to (s2 := S) (xp_set 5 scLBad.nd (xd_mk D.M I rfl r2 (xa_cons (xd_xl (xl_map1 6 (rg n fun _ => dLc (n + 1) fun _ => 0) scLBad.nd (xi_range1 (n := (n : Int)) (XD.to (xd_len (xd_var 2) (.inr (.inr rfl)) rfl D.len) (by rw [rg_len])) (by omega) (by omega) D.ran) (by simp [rg]) (by simp; omega) rfl ?_)) (xa_cons (xd_add (XD.to (xd_len (xd_var 2) (.inr (.inr rfl)) rfl D.len) (by rw [rg_len])) xd_int) xa_nil)) (fs := [.tup (rg n fun i => dVc (n + 1) fun _ => 0), .int ((n : Int) + 1)]) ⟨n, n + 1, fun _ => dLc (n + 1) fun _ => 0, fun _ => rg (n + 1) fun _ => dR 0, rfl, by omega, fun i _ => .inl rfl, rfl⟩)) rfl)
    (xs_ret (xp_tryAs (x := ⟨CX', none⟩) (st := S) (st1 := S) (o := .rt (.bl true) (S.set 8 none)) (o1 := fun a dd => .rt (.bl true) (S.set 8 (some (.ex a dd none)))) 8 scLBad.nd hcat C.ex (fun W' pn xe tk pw => ?_) (fun a' oe dd pn hz hfl => ?_) (fun _ _ => rfl)))), .inl ⟨_, rfl⟩⟩
  · intro i d v h1 h2 sh H C cl fp
    obtain ⟨hi, rfl⟩ := rng_get (n := n) (by simpa using h1)
    obtain ⟨_, rfl⟩ := rg_get h2
    refine xd_xl (xl_map1 7 (rg (n + 1) fun _ => dR 0) scLBad.nd (xi_range1 (n := ((n + 1 : Nat) : Int)) (XD.to (xd_add (XD.to (xd_len (xd_var 2) (.inr (.inr rfl)) rfl D.len) (by rw [rg_len])) xd_int) (by rw [Int.natCast_add]; rfl)) (by omega) (by omega) D.ran) (by simp [rg]) (by simp; omega) rfl ?_)
    intro j d v h1 h2 sh H C cl fp
    obtain ⟨_, rfl⟩ := rg_get h2
    exact xd_mk D.R R.i1 rfl r2 (xa_cons xd_int xa_nil) (rin1 0)
  · have Tt : ∀ m : Int, (k : Int) = m → decide ((k : Int) = m) = true := fun m h => decide_eq_true h
    have Nn : ∀ m : Int, (k : Int) ≠ m → decide ((k : Int) = m) = false := fun m h => decide_eq_false h
    have ml : (dMs l.length n M).length = l.length := by unfold dMs; rw [rg_len]
    have ci : k = 0 ∨ k = 1 ∨ k = 2 ∨ k = 3 := by omega
    let sh : List Sh := (List.range l.length).map fun k => ⟨n, n, M k⟩
    have eSh : dMs l.length n M = sh.map dSh := by
      show _ = ((List.range l.length).map _).map dSh
      rw [List.map_map]; rfl
    have lSh : sh.length = l.length := by show ((List.range l.length).map _).length = _; rw [List.length_map, List.length_range]
    have mSh : ∀ m ∈ sh, m.h = n ∧ m.w = n := fun m hm => by
      obtain ⟨i, _, rfl⟩ := List.mem_map.mp hm
      exact ⟨rfl, rfl⟩
    rcases ci with h | h | h | h
    · exact xsx_here (xpx_if (tb := true) (xt_eqI (xd_var 1) xd_int (Tt 0 (by omega))) (fun _ => xsx_here (xpx_expr (xx_mk E.W WX rfl tk hr (xa_cons (xd_ff 0 (xd_var 0) E.W rfl E.Wa) (xa_cons (xd_tcat (xd_var 2) (xd_tup (xa_cons (xd_mk D.R R.i1 rfl r2 (xa_cons xd_int xa_nil) (rin1 1)) xa_nil) (by simp)) rfl (by rw [rg_len]; simp; omega)) (xa_cons (xd_var 3) (xa_cons (xd_var 4) xa_nil)))) (.len (by rw [List.length_append, rg_len, rg_len]; simp))))) (fun z => nomatch z))
    · exact xsx_cons (xp_if (tb := false) (xt_eqI (xd_var 1) xd_int (Nn 0 (by omega))) (fun z => nomatch z) (fun _ => xs_nil)) (xsx_here (xpx_if (tb := true) (xt_eqI (xd_var 1) xd_int (Tt 1 (by omega))) (fun _ => xsx_here (xpx_expr (xx_mk E.W WX rfl tk hr (xa_cons (xd_ff 0 (xd_var 0) E.W rfl E.Wa) (xa_cons (xd_var 2) (xa_cons (xd_cutLoT (xd_var 3) xd_int (by decide) (by rw [ml]; omega) rfl) (xa_cons (xd_var 4) xa_nil)))) (.cnt (by rw [rg_len, rg_len]) hl4 (by rw [List.length_drop, ml]; show l.length - 1 ≠ l.length; omega))))) (fun z => nomatch z)))
    · exact xsx_cons (xp_if (tb := false) (xt_eqI (xd_var 1) xd_int (Nn 0 (by omega))) (fun z => nomatch z) (fun _ => xs_nil)) (xsx_cons (xp_if (tb := false) (xt_eqI (xd_var 1) xd_int (Nn 1 (by omega))) (fun z => nomatch z) (fun _ => xs_nil)) (xsx_here (xpx_if (tb := true) (xt_eqI (xd_var 1) xd_int (Tt 2 (by omega))) (fun _ => xsx_here (xpx_expr (xx_mk E.W WX rfl tk hr (xa_cons (xd_ff 0 (xd_var 0) E.W rfl E.Wa) (xa_cons (xd_tcat (xd_var 2) (xd_tup (xa_cons (xd_mk D.R R.i1 rfl r2 (xa_cons xd_int xa_nil) (rin1 1)) xa_nil) (by simp)) rfl (by rw [rg_len]; simp; omega)) (xa_cons (XD.to (xd_var 3) (congrArg Dt.tup eSh)) (xa_cons (xd_tcat (xd_var 4) (xd_tup (xa_cons (xd_mk D.R R.i1 rfl r2 (xa_cons xd_int xa_nil) (rin1 0)) xa_nil) (by simp)) rfl (by rw [rg_len]; simp; omega)) xa_nil))))
        (.sq (by rw [List.length_append, List.length_append, rg_len, rg_len]; rfl) hl4 lSh (fun m hm => by rw [(mSh m hm).1]; omega) (by
          have h0 : 0 < sh.length := by rw [lSh]; omega
          refine ⟨sh[0], List.getElem_mem h0, fun z => ?_⟩
          have := (mSh _ (List.getElem_mem h0)).1
          rw [z.1, List.length_append, rg_len] at this
          simp at this))))) (fun z => nomatch z))))
    · exact xsx_cons (xp_if (tb := false) (xt_eqI (xd_var 1) xd_int (Nn 0 (by omega))) (fun z => nomatch z) (fun _ => xs_nil)) (xsx_cons (xp_if (tb := false) (xt_eqI (xd_var 1) xd_int (Nn 1 (by omega))) (fun z => nomatch z) (fun _ => xs_nil)) (xsx_cons (xp_if (tb := false) (xt_eqI (xd_var 1) xd_int (Nn 2 (by omega))) (fun z => nomatch z) (fun _ => xs_nil)) (xsx_here (xpx_if (tb := true) (xt_eqI (xd_var 1) xd_int (Tt 3 (by omega))) (fun _ => xsx_here (xpx_expr (xx_mk E.W WX rfl tk hr (xa_cons (xd_ff 0 (xd_var 0) E.W rfl E.Wa) (xa_cons (xd_var 2) (xa_cons (XD.to (xd_tcat (xd_cutLoT (xd_var 3) xd_int (by decide) (by rw [ml]; omega) rfl) (xd_tup (xa_cons (xd_var 5) xa_nil) (by simp)) rfl (by rw [List.length_drop, ml]; simp; omega)) (show Dt.tup ((dMs l.length n M).drop 1 ++ [Wi]) = Dt.tup ((sh.drop 1 ++ [(⟨n, n + 1, fun _ _ => 0⟩ : Sh)]).map dSh) by rw [eSh, List.map_append, List.map_drop]; rfl)) (xa_cons (xd_var 4) xa_nil))))
        (.sq (by rw [rg_len, rg_len]) hl4 (by rw [List.length_append, List.length_drop, lSh]; simp; omega) (fun m hm => by
          rcases List.mem_append.mp hm with z | z
          · rw [(mSh m (List.mem_of_mem_drop z)).1]; omega
          · rw [List.mem_singleton.mp z]; show n ≤ 1000; omega) ⟨⟨n, n + 1, fun _ _ => 0⟩, List.mem_append_right _ (List.mem_singleton.mpr rfl), fun z => by
          have := z.2
          rw [rg_len] at this
          have h2 : n + 1 = n := this
          omega⟩)))) (fun z => nomatch z)))))
  · exact xs_one (xp_ret (xd_isE 8 C.ei hz hfl Z.nm C.ki D.isi))
end
end My
set_option autoImplicit false
set_option maxRecDepth 100000
set_option maxHeartbeats 8000000
set_option exponentiation.threshold 100000
namespace My
open PySem PySem.Spec PyProof.Rows L2 Dv Mq
section
variable {P : Program} {w : World} {K : PySem.W.Frag} {T : Ct} {mg : Str → Option Value} {base : Heap} {f CR CM CA CW CX' : Addr} {fd : FuncData}
abbrev sLaw : Stmt := topS 47
structure WFs (P : Program) (w : World) (K : PySem.W.Frag) (T : Ct) (mg : Str → Option Value) (base : Heap) (CW : Addr) : Prop where
  wt : MF P w K T mg base CW "weight" 9 RWW
  call : MCF P w K T mg base CW 10 RWW
  size : MF P w K T mg base CW "size" 1 RWS
  row : MF P w K T mg base CW "row_after" 8 RWR
  col : MF P w K T mg base CW "column_before" 7 RWB
structure LFs (P : Program) (w : World) (K : PySem.W.Frag) (T : Ct) (mg : Str → Option Value) (base : Heap) : Prop where
  st : DL P w K T mg base "_law_state" 1 RState
  take : DM P w K T mg base "_law_take" 1 RTake
  lets : DM P w K T mg base "_law_letters" 2 RLetters
  word : DM P w K T mg base "_law_word" 2 RWord
  plan : DM P w K T mg base "_law_plan" 5 RPlan
  mach : DF P w K T mg base "_law_machine" 6 RLMach
  wof : DF P w K T mg base "_law_weight_of" 6 RWOf
  pair : DF P w K T mg base "_law_pair" 2 RPair
  pairs : DF P w K T mg base "_law_pairs" 3 RPairs
  after : DF P w K T mg base "_law_after" 5 RAfter
  before : DF P w K T mg base "_law_before" 5 RLBefore
  dot : DF P w K T mg base "_law_dot" 4 RDot
  refd : DF P w K T mg base "_law_refused" 7 RRefd
  bad : DF P w K T mg base "_law_bad" 6 RLBad
def RLaw (ds : List Dt) (r : Dt) : Prop := ∃ ns : List Int, ds = [.ro (dInts ns)] ∧ r = .bl true
abbrev nLaw : List Str := ["script", "state", "letters", "plan", "machine", "turn", "word", "due", "at", "first", "second"]
theorem scLaw : FnScope nLaw ["script"] (defScope sLaw) := ⟨rfl, rfl, rfl, by decide +kernel, rfl, by decide +kernel, by decide +kernel⟩
theorem pn_sz {p : Pn} {m : Nat} (h : PnOk p m) (hm : m ≤ 8) : PnSz p := ⟨Nat.le_trans h.n hm, fun j => by obtain ⟨q, e⟩ := h.r j; rw [e]; exact (itQ_sz q).mono (by decide), fun k i j => by obtain ⟨q, e⟩ := h.M k i j; rw [e]; exact (itQ_sz q).mono (by decide), fun j => by obtain ⟨q, e⟩ := h.c j; rw [e]; exact (itQ_sz q).mono (by decide)⟩
structure PnHd (p : Pn) : Prop where
  r : ∀ j, Hd 2 4 (p.r j)
  M : ∀ k i j, Hd 2 4 (p.M k i j)
  c : ∀ j, Hd 2 4 (p.c j)
theorem pn_hd {p : Pn} {m : Nat} (h : PnOk p m) : PnHd p := ⟨fun j => by obtain ⟨q, e⟩ := h.r j; rw [e]; exact itQ_hd q, fun k i j => by obtain ⟨q, e⟩ := h.M k i j; rw [e]; exact itQ_hd q, fun j => by obtain ⟨q, e⟩ := h.c j; rw [e]; exact itQ_hd q⟩
/-- the weight, at each cut of the word -/
theorem wt_cut {l : List Nat} {n : Nat} {r c : Nat → Rat} {M : Nat → Nat → Nat → Rat} (u v : List Nat) : sumTo (fun t => rowR l n M r u t * rowR l n (tM M) c v.reverse t) n = wtR l n r M c (u ++ v) := by
  unfold wtR
  have e : rowR l n M r (u ++ v) = rowR l n M (rowR l n M r u) v := by
    unfold rowR; rw [List.foldl_append]
  rw [e, wt_tr_aux v (rowR l n M r u) c]
  rfl
theorem ok_law (F : Fun K "law" "law" sLaw f fd) (D : Md K T mg CR CM) (E : Wd K T mg CA CW) (W : WFs P w K T mg base CW) (L : LFs P w K T mg base) : FnOk P w K mg base CX0 11 f fd ["script"] (spD K T RLaw) := by
  refine okD F scLaw (fun ds r h => by obtain ⟨_, rfl, _⟩ := h; rfl) fun cdv A outer s H E' pa ds r hr hR => ?_
  obtain ⟨ns, rfl, rfl⟩ := hR
  -- what is drawn
  have k0 : SOk (stOf ns) := stOf_ok ns
  generalize hq0 : stOf ns = q0 at k0
  have k1 := LS.run_ok (q := letQ q0.1 q0.2 3) ⟨take_ok k0 (by decide), rfl, rfl⟩ (letN q0.1 q0.2 3) (by
    obtain ⟨v0, v1⟩ := take_lt (s := q0.1) (t := q0.2) (m := 3) (by decide)
    unfold letN; omega)
  obtain ⟨al, am, a3⟩ := letters_ok (s := q0.1) (t := q0.2) (most := 3) k0 (by decide) (by decide)
  have lR : RLetters (dSt q0) [.int 3] (.str (sx ((letQ q0.1 q0.2 3).run (letN q0.1 q0.2 3)).fd)) (dSt (((letQ q0.1 q0.2 3).run (letN q0.1 q0.2 3)).s, ((letQ q0.1 q0.2 3).run (letN q0.1 q0.2 3)).t)) := ⟨q0.1, q0.2, 3, rfl, rfl, k0, by decide, by decide, rfl, rfl⟩
  have k1 : SOk (((letQ q0.1 q0.2 3).run (letN q0.1 q0.2 3)).s, ((letQ q0.1 q0.2 3).run (letN q0.1 q0.2 3)).t) := k1.st
  generalize ((letQ q0.1 q0.2 3).run (letN q0.1 q0.2 3)).fd = l at al am a3 lR
  generalize (((letQ q0.1 q0.2 3).run (letN q0.1 q0.2 3)).s, ((letQ q0.1 q0.2 3).run (letN q0.1 q0.2 3)).t) = q1 at k1 lR
  have hl4 : l.length ≤ 4 := al.hi
  have hl3 : l.length ≤ 3 := by omega
  have hl1 := al.lo
  have pR1 : RPlan (dSt q1) [.str (sx l), .int 3] (dPlan l (planP q1 3 l.length)) (dSt (planS q1 3 l.length)) := ⟨q1, l, 3, k1, rfl, rfl, by decide, hl4, rfl, rfl⟩
  have k2 : SOk (planS q1 3 l.length) := planS_ok k1 (by decide)
  have o1 : PnOk (planP q1 3 l.length) 3 := plan_ok (most := 3)
  generalize planS q1 3 l.length = q2 at k2 pR1
  generalize planP q1 3 l.length = p at o1 pR1
  have z1 := pn_sz o1 (by decide)
  have d1 := pn_hd o1
  have n1 := o1.n
  have dT : ∀ k i j, Hd 2 4 (tM p.M k i j) := fun k i j => d1.M k j i
  -- the words
  let wk : Int × Int → WS := fun q => WS.run l (worQ q.1 q.2 4) (worN q.1 q.2 4)
  have wok : ∀ q : Int × Int, SOk q → SOk ((wk q).s, (wk q).t) ∧ (wk q).wd.length ≤ 4 ∧ (∀ x ∈ (wk q).wd, x ∈ l) := fun q hq => by
    have h := WS.run_ok (l := l) al.lo (q := worQ q.1 q.2 4) ⟨take_ok hq (by decide), rfl, fun x hx => nomatch hx⟩ (worN q.1 q.2 4)
    refine ⟨h.st, ?_, h.mem⟩
    show (WS.run l (worQ q.1 q.2 4) (worN q.1 q.2 4)).wd.length ≤ 4
    rw [h.len]
    obtain ⟨v0, v1⟩ := take_lt (s := q.1) (t := q.2) (m := 4 + 1) (by decide)
    unfold worN; omega
  have wR : ∀ q : Int × Int, SOk q → RWord (dSt q) [.str (sx l), .int 4] (.str (sx (wk q).wd)) (dSt ((wk q).s, (wk q).t)) := fun q hq => ⟨q.1, q.2, 4, l, rfl, rfl, hq, by decide, by decide, al.lo, by omega, rfl, rfl⟩
  let wl : Int × Int → Int := fun q => ((wk q).wd.length : Int) + 1
  let qw : Nat → Int × Int := fun i => Nat.rec q2 (fun _ q => tn ((wk q).s, (wk q).t) (wl q)) i
  have qok : ∀ i, SOk (qw i) := fun i => by
    induction i with
    | zero => exact k2
    | succ i ih => exact tn_ok (wok _ ih).1 (by show (0 : Int) < ((wk (qw i)).wd.length : Int) + 1; omega)
  let wd : Nat → List Nat := fun i => (wk (qw i)).wd
  let ct : Nat → Nat := fun i => (tk ((wk (qw i)).s, (wk (qw i)).t) (wl (qw i))).toNat
  let X : Nat → Rat := fun i => wtR l p.n p.r p.M p.c (wd i)
  let U : Nat → Nat → Rat := fun i => rowR l p.n p.M p.r ((wd i).take (ct i))
  let V : Nat → Nat → Rat := fun i => rowR l p.n (tM p.M) p.c ((wd i).drop (ct i)).reverse
  let S : Nat → Store := fun i => [some (.fr (.ro (dInts ns))), some (.ow (dSt (qw i))), some (.fr (.str (sx l))), some (.fr (dPlan l p)), some (.fr (dWp l p)), slot (fun i => .int i) i, slot (fun i => .str (sx (wd i))) i, slot (fun i => dP (X i)) i, slot (fun i => .int (ct i)) i, slot (fun i => dPl p.n (U i)) i, slot (fun i => dPl p.n (V i)) i]
  have r1 : Room 1 _ := hr.mono (by decide)
  have r2 : Room 2 _ := hr.mono (by decide)
  have r3 : Room 3 _ := hr.mono (by decide)
  have r4 : Room 4 _ := hr.mono (by decide)
  have r5 : Room 5 _ := hr.mono (by decide)
  have r6 : Room 6 _ := hr.mono (by decide)
  have r7 : Room 7 _ := hr.mono (by decide)
  have r8 : Room 8 _ := hr.mono (by decide)
  have r9 : Room 9 _ := hr.mono (by decide)
  have vn : (113 : Nat) ∉ l := fun z => by
    have := am _ z
    revert this
    decide
  have tl := take_R (qw 3) 4 (qok 3) (by decide) (by decide)
  obtain ⟨b1, b2⟩ := tk_lt (q := qw 3) (m := 4) (by decide)
  have ev : tk (qw 3) 4 = ((tk (qw 3) 4).toNat : Int) := by omega
  have pl : (rg p.n fun j => dP (p.r j)).length = p.n := rg_len _ _
  refine ⟨_, xs_cons (xp_setOw 1 scLaw.nd (xl_dl L.st rfl r1 (xa_cons (xd_var 0) xa_nil) ⟨ns, rfl, by rw [← hq0]; rfl⟩))
    (xs_cons (xp_set 2 scLaw.nd (xd_dm 1 (s := .ow (dSt q0)) L.lets rfl r2 (xa_cons xd_int xa_nil) rfl rfl .ow lR))
    (xs_cons (xp_set 3 scLaw.nd (xd_dm 1 (s := .ow (dSt q1)) L.plan rfl r5 (xa_cons (xd_var 2) (xa_cons xd_int xa_nil)) rfl rfl .ow pR1))
    (xs_cons (XP.to (s2 := S 0) (xp_set 4 scLaw.nd (xd_df L.mach rfl r6 (xa_cons (xd_var 3) xa_nil) ⟨l, p, rfl, al, z1, rfl⟩)) rfl)
    (xs_cons (xp_if (tb := false) (xw_pt (xw_orF (xt_neI (xd_mf0 (xd_var 4) E.W W.size rfl r1 ⟨l, p.n, _, _, _, rfl, rfl⟩) (XD.to (xd_len (xd_ixT (m := 1) (xd_var 3) xd_int rfl rfl rfl) (.inl rfl) rfl D.len) (congrArg (fun n : Nat => Dt.int (n : Int)) pl)) (by rw [decide_eq_true rfl]; rfl))
        (xw_orF (xt_neP (xd_df L.pairs rfl r3 (xa_cons (xd_ff 1 (xd_var 4) E.W rfl E.Wr) xa_nil) ⟨p.n, p.r, rfl, by omega, rfl⟩) (xd_ixT (m := 1) (xd_var 3) xd_int rfl rfl rfl) (pl_dPl (k := 0) p.r) (by decide) rfl hr)
        (xw_or1 (xt_neP (xd_df L.pairs rfl r3 (xa_cons (xd_ff 3 (xd_var 4) E.W rfl E.Wc) xa_nil) ⟨p.n, p.c, rfl, by omega, rfl⟩) (xd_ixT (m := 3) (xd_var 3) xd_int rfl rfl rfl) (pl_dPl (k := 0) p.c) (by decide) rfl hr))))) (fun z => nomatch z) (fun _ => xs_nil))
    (xs_cons (xp_forN S 3 (by simp) (xi_range1 (n := (3 : Int)) xd_int (by decide) (by decide) D.ran) ?_)
    (xs_one (xp_ret (xd_andT (xd_df L.refd rfl r7 (xa_cons (xd_var 4) xa_nil) ⟨l, p.n, _, _, _, rfl, vn, rfl⟩) (xd_one (xd_df L.bad rfl r6 (xa_cons (xd_var 4) (xa_cons (XD.to (xd_dm 1 (s := .ow (dSt (qw 3))) L.take rfl r1 (xa_cons xd_int xa_nil) rfl rfl .ow tl) (congrArg Dt.int ev)) xa_nil)) ⟨l, p.n, _, _, _, (tk (qw 3) 4).toNat, rfl, n1, hl1, hl4, by omega, rfl⟩)))))))))), .inl ⟨_, rfl⟩⟩
  intro i d hd
  obtain ⟨hi, rfl⟩ := rng_get (n := 3) (by simpa using hd)
  have kq := qok i
  obtain ⟨s1, s2, s3⟩ := wok (qw i) kq
  have hwl : (wd i).length ≤ 4 := s2
  have hlt : (0 : Int) < wl (qw i) := by show (0 : Int) < ((wk (qw i)).wd.length : Int) + 1; omega
  have tc := take_R ((wk (qw i)).s, (wk (qw i)).t) (wl (qw i)) s1 hlt (by show ((wk (qw i)).wd.length : Int) + 1 < 2 ^ 60; omega)
  have ec : tk ((wk (qw i)).s, (wk (qw i)).t) (wl (qw i)) = ((ct i : Nat) : Int) := by
    obtain ⟨h1, h2⟩ := tk_lt (q := ((wk (qw i)).s, (wk (qw i)).t)) hlt
    show _ = (((tk ((wk (qw i)).s, (wk (qw i)).t) (wl (qw i))).toNat : Nat) : Int)
    omega
  rw [ec] at tc
  have zr := row_sz (l := l) (n := p.n) d1.M (by decide) d1.r s2 (by omega) (by decide) (by decide)
  have zc : ∀ v : List Nat, v.length ≤ 4 → ∀ k j, Sz 100 (rowR l p.n (tM p.M) p.c (v.take k) j) := fun v hv => row_sz (l := l) (n := p.n) dT (by decide) d1.c hv (by omega) (by decide) (by decide)
  have su : ((wd i).take (ct i)).length ≤ 4 := by rw [List.length_take]; omega
  have sv : ((wd i).drop (ct i)).reverse.length ≤ 4 := by rw [List.length_reverse, List.length_drop]; omega
  have zu := row_sz (l := l) (n := p.n) (wd := (wd i).take (ct i)) d1.M (by decide) d1.r su (by omega) (by decide) (by decide)
  have mu : ∀ q ∈ (wd i).take (ct i), q ∈ l := fun q hq => s3 q (List.mem_of_mem_take hq)
  have mv : ∀ q ∈ (wd i).drop (ct i), q ∈ l := fun q hq => s3 q (List.mem_of_mem_drop hq)
  have hx : RWOf [dPlan l p, .str (sx (wd i))] (dP (X i)) := ⟨l, p, _, rfl, s3, hl4, by omega, z1.M, zr, z1.c, rfl⟩
  have hw : RWW [dWp l p, .str (sx (wd i))] (dR (X i)) := ⟨l, p.n, _, _, _, _, rfl, s3, by omega, z1.M, zr, z1.c, rfl⟩
  have hu : RWR [dWp l p, .str (sx ((wd i).take (ct i)))] (dVc p.n (U i)) := ⟨l, p.n, _, _, _, _, rfl, mu, by omega, z1.M, zu, rfl⟩
  have hv : RWB [dWp l p, .str (sx ((wd i).drop (ct i)))] (dVc p.n (V i)) := ⟨l, p.n, _, _, _, _, rfl, mv, by rw [List.length_drop]; omega, by omega, z1.M, zc _ sv, rfl⟩
  have hu' : RAfter [dPlan l p, .str (sx ((wd i).take (ct i)))] (dPl p.n (U i)) := ⟨l, p, _, rfl, mu, hl4, by omega, z1.M, zu, rfl⟩
  have hv' : RLBefore [dPlan l p, .str (sx ((wd i).drop (ct i)))] (dPl p.n (V i)) := ⟨l, p, _, rfl, mv, by rw [List.length_drop]; omega, hl4, by omega, z1.M, zc _ sv, rfl⟩
  have zU : ∀ j, Sz 100 (U i j) := fun j => by have := zu ((wd i).take (ct i)).length j; rwa [List.take_length] at this
  have zV : ∀ j, Sz 100 (V i j) := fun j => by have := zc _ sv ((wd i).drop (ct i)).reverse.length j; rwa [List.take_length] at this
  have hd' : RDot [dPl p.n (U i), dPl p.n (V i)] (dP (X i)) := ⟨p.n, U i, V i, rfl, by omega, zU, zV, by
    show dP (X i) = dP (sumTo (fun t => rowR l p.n p.M p.r ((wd i).take (ct i)) t * rowR l p.n (tM p.M) p.c ((wd i).drop (ct i)).reverse t) p.n)
    rw [wt_cut, List.take_append_drop]⟩
  have cn : (0 : Int) ≤ (ct i : Nat) := by omega
  have cN : ((ct i : Nat) : Int).toNat = ct i := by omega
  have cutU : Dt.str (sx ((wd i).take ((ct i : Nat) : Int).toNat)) = .str (sx ((wd i).take (ct i))) := by rw [cN]
  have cutV : Dt.str (sx ((wd i).drop ((ct i : Nat) : Int).toNat)) = .str (sx ((wd i).drop (ct i))) := by rw [cN]
  have cz : (wd i).length ≤ 100000 := by omega
  exact Turns.nx (xg_name 5 scLaw.nd) (xs_cons (xp_set 6 scLaw.nd (xd_dm 1 (s := .ow (dSt (qw i))) L.word rfl r2 (xa_cons (xd_var 2) (xa_cons xd_int xa_nil)) rfl rfl .ow (wR _ kq)))
    (xs_cons (xp_set 7 scLaw.nd (xd_df L.wof rfl r6 (xa_cons (xd_var 3) (xa_cons (xd_var 6) xa_nil)) hx))
    (xs_cons (xp_if (tb := false) (xw_pt (xw_orF (xt_neP (xd_df L.pair rfl r2 (xa_cons (xd_mf (xd_var 4) E.W W.wt rfl r9 (xa_cons (xd_var 6) xa_nil) hw) xa_nil) ⟨_, rfl, rfl⟩) (xd_var 7) (pl_dP (k := 0) _) (by decide) rfl hr)
        (xw_or1 (xt_neP (xd_df L.pair rfl r2 (xa_cons (xd_inst (xd_var 4) E.W W.call rfl hr (xa_cons (xd_var 6) xa_nil) hw) xa_nil) ⟨_, rfl, rfl⟩) (xd_var 7) (pl_dP (k := 0) _) (by decide) rfl hr)))) (fun z => nomatch z) (fun _ => xs_nil))
    (xs_cons (xp_set 8 scLaw.nd (xd_dm 1 (s := .ow (dSt ((wk (qw i)).s, (wk (qw i)).t))) L.take rfl r1 (xa_cons (xd_add (xd_lenX (xd_var 6) cz D.len) xd_int) xa_nil) rfl rfl .ow tc))
    (xs_cons (xp_par 9 10 scLaw.nd rfl (xa_cons (xd_df L.pairs rfl r3 (xa_cons (xd_mf (xd_var 4) E.W W.row rfl r8 (xa_cons (XD.to (xd_cutHiX (xd_var 6) (xd_var 8) cn cz) cutU) xa_nil) hu) xa_nil) ⟨p.n, U i, rfl, by omega, rfl⟩) (xa_cons (xd_df L.pairs rfl r3 (xa_cons (xd_mf (xd_var 4) E.W W.col rfl r7 (xa_cons (XD.to (xd_cutLoX (xd_var 6) (xd_var 8) cn cz) cutV) xa_nil) hv) xa_nil) ⟨p.n, V i, rfl, by omega, rfl⟩) xa_nil)) (by decide))
    (xs_cons (xp_if (tb := false) (xw_pt (xw_orF (xt_neP (xd_var 9) (xd_df L.after rfl r5 (xa_cons (xd_var 3) (xa_cons (XD.to (xd_cutHiX (xd_var 6) (xd_var 8) cn cz) cutU) xa_nil)) hu') (pl_dPl (k := 0) (U i)) (by decide) rfl hr)
        (xw_or1 (xt_neP (xd_var 10) (xd_df L.before rfl r5 (xa_cons (xd_var 3) (xa_cons (XD.to (xd_cutLoX (xd_var 6) (xd_var 8) cn cz) cutV) xa_nil)) hv') (pl_dPl (k := 0) (V i)) (by decide) rfl hr)))) (fun z => nomatch z) (fun _ => xs_nil))
    (xs_one (xp_if (tb := false) (xt_neP (xd_df L.dot rfl r4 (xa_cons (xd_var 9) (xa_cons (xd_var 10) xa_nil)) hd') (xd_var 7) (pl_dP (k := 0) _) (by decide) rfl hr) (fun z => nomatch z) (fun _ => xs_nil))))))))) rfl
end
end My
set_option autoImplicit false
set_option maxRecDepth 100000
set_option maxHeartbeats 4000000
namespace My
open PySem PySem.Spec PyProof.Rows L2 Dv Mq
/-! ### what the module holds, def by def -/
def DefAt (K : PySem.W.Frag) (x : Str) (st : Stmt) : Prop := ∃ (f : Addr) (oc : Value) (od an : Option Addr) (kV dc pm cd ct : Value) (sl : Array (Option Value)), PySem.W.nsIn K mainGlobals x = some (some (.ref f)) ∧
  K.lookup f = some ⟨oc, od, .func (PySem.W.fnOf x x (defArgs st) (defBody st) (defScope st) .none kV dc pm an cd ct), sl⟩ ∧ PySem.W.codeIn K cd x = true ∧ PySem.W.keepIn K (.ref f) = true
def MethAt (K : PySem.W.Frag) (C : Addr) (m q : Str) (st : Stmt) : Prop := ∃ (f : Addr) (oc : Value) (od an : Option Addr) (kV dc pm cd ct : Value) (sl : Array (Option Value)), PySem.W.findIn K (.ref C) m = some (some (.ref f)) ∧ PySem.W.isFn K (.ref f) = true ∧
  K.lookup f = some ⟨oc, od, .func (PySem.W.fnOf m q (defArgs st) (defBody st) (defScope st) .none kV dc pm an cd ct), sl⟩ ∧ PySem.W.codeIn K cd q = true ∧ PySem.W.keepIn K (.ref f) = true
/-- a method whose last arguments have defaults -/
def MethDAt (K : PySem.W.Frag) (C : Addr) (m q : Str) (st : Stmt) (i : Int) : Prop := ∃ (f : Addr) (oc : Value) (od an : Option Addr) (kV dc pm cd ct : Value) (sl : Array (Option Value)) (t : Addr) (oc2 : Value) (od2 : Option Addr) (sl2 : Array (Option Value)) (tk : Tok) (n2 : Nat), PySem.W.findIn K (.ref C) m = some (some (.ref f)) ∧ PySem.W.isFn K (.ref f) = true ∧
  K.lookup f = some ⟨oc, od, .func (PySem.W.fnOf m q (defArgs st) (defBody st) (defScope st) (.ref t) kV dc pm an cd ct), sl⟩ ∧ K.lookup t = some ⟨oc2, od2, .seq #[.int i tk] n2, sl2⟩ ∧ PySem.W.codeIn K cd q = true ∧ PySem.W.keepIn K (.ref f) = true
/-- an own class -/
structure ClsOf (K : PySem.W.Frag) (x : Str) (C : Addr) : Prop where
  at_ : PySem.W.nsIn K mainGlobals x = some (some (.ref C))
  pg : PySem.W.plainGet K C Str.empty = true
  hd : PySem.W.hasDictIn K C = true
  po : PySem.W.plainOver K C = true
  sa : PySem.W.findIn K (.ref C) "__setattr__" = some (some (.builtin "object.__setattr__"))
  mks : PySem.W.makesIn K C = true
  kp : PySem.W.keepIn K (.ref C) = true
  ha : PySem.W.findIn K (.ref C) "__class__" = some (some (.builtin "object.__class__"))
  hn : PySem.W.specialIn K (.builtin "object.__class__") "__get__" = some (some (.builtin "getset_descriptor.__get__"))
  tk : PySem.W.takesIn K (.builtin "object.__class__") = some true
  ob : PySem.W.mroIn K C (.type "object") = some true
  sf : PySem.W.selfFirst K C = true
theorem def_mk {K : PySem.W.Frag} {x : Str} {st : Stmt} {f : Addr} {oc : Value} {od an : Option Addr} {kV dc pm cd ct : Value} {sl : Array (Option Value)} (a : PySem.W.nsIn K mainGlobals x = some (some (.ref f)))
  (l : K.lookup f = some ⟨oc, od, .func (PySem.W.fnOf x x (defArgs st) (defBody st) (defScope st) .none kV dc pm an cd ct), sl⟩) (c : PySem.W.codeIn K cd x = true) (k : PySem.W.keepIn K (.ref f) = true) : DefAt K x st := ⟨f, oc, od, an, kV, dc, pm, cd, ct, sl, a, l, c, k⟩
theorem meth_mk {K : PySem.W.Frag} {C : Addr} {m q : Str} {st : Stmt} {f : Addr} {oc : Value} {od an : Option Addr} {kV dc pm cd ct : Value} {sl : Array (Option Value)} (a : PySem.W.findIn K (.ref C) m = some (some (.ref f))) (i : PySem.W.isFn K (.ref f) = true)
  (l : K.lookup f = some ⟨oc, od, .func (PySem.W.fnOf m q (defArgs st) (defBody st) (defScope st) .none kV dc pm an cd ct), sl⟩) (c : PySem.W.codeIn K cd q = true) (k : PySem.W.keepIn K (.ref f) = true) : MethAt K C m q st := ⟨f, oc, od, an, kV, dc, pm, cd, ct, sl, a, i, l, c, k⟩
theorem methd_mk {K : PySem.W.Frag} {C : Addr} {m q : Str} {st : Stmt} {n : Int} {f : Addr} {oc : Value} {od an : Option Addr} {kV dc pm cd ct : Value} {sl : Array (Option Value)} {t : Addr} {oc2 : Value} {od2 : Option Addr} {sl2 : Array (Option Value)} {tk : Tok} {n2 : Nat} (a : PySem.W.findIn K (.ref C) m = some (some (.ref f))) (i : PySem.W.isFn K (.ref f) = true)
  (l : K.lookup f = some ⟨oc, od, .func (PySem.W.fnOf m q (defArgs st) (defBody st) (defScope st) (.ref t) kV dc pm an cd ct), sl⟩) (l2 : K.lookup t = some ⟨oc2, od2, .seq #[.int n tk] n2, sl2⟩) (c : PySem.W.codeIn K cd q = true) (k : PySem.W.keepIn K (.ref f) = true) : MethDAt K C m q st n := ⟨f, oc, od, an, kV, dc, pm, cd, ct, sl, t, oc2, od2, sl2, tk, n2, a, i, l, l2, c, k⟩
section
variable {P : Program} {w : World} {K : PySem.W.Frag} {T : Ct} {mg : Str → Option Value} {base : Heap}
theorem DefAt.df {x : Str} {st : Stmt} {k : Nat} {R : List Dt → Dt → Prop} {ps : List Str} {h : Heap} (D : DefAt K x st) (X : K.In h) (G : h.Ns mainGlobals mg)
    (ok : ∀ f fd, Fun K x x st f fd → FnOk P w K mg base CX0 k f fd ps (spD K T R)) (hb : ∀ (kV doc pm : Value) (an : Option Addr) (cdv ct : Value) (us : List Value), us.length = ps.length → bindArgs (PySem.W.fnOf x x (defArgs st) (defBody st) (defScope st) .none kV doc pm an cdv ct) { pos := us } = pure (ps.zip us)) : DF P w K T mg base x k R := by
  obtain ⟨f, oc, od, an, kV, dc, pm, cd, ct, sl, a, l, c, kp⟩ := D
  have F := fun_mk (st := st) l c kp
  exact ⟨f, _, ps, ok f _ F, PySem.W.mg_of X G a, kp, F.binds hb⟩
theorem MethAt.mf {C : Addr} {m q : Str} {st : Stmt} {k : Nat} {R : List Dt → Dt → Prop} {ps : List Str} (D : MethAt K C m q st)
    (ok : ∀ f fd, Fun K m q st f fd → FnOk P w K mg base CX0 k f fd ps (spD K T R)) (hb : ∀ (kV doc pm : Value) (an : Option Addr) (cdv ct : Value) (us : List Value), us.length = ps.length → bindArgs (PySem.W.fnOf m q (defArgs st) (defBody st) (defScope st) .none kV doc pm an cdv ct) { pos := us } = pure (ps.zip us)) : MF P w K T mg base C m k R := by
  obtain ⟨f, oc, od, an, kV, dc, pm, cd, ct, sl, a, i, l, c, kp⟩ := D
  have F := fun_mk (st := st) l c kp
  exact ⟨f, _, ps, ok f _ F, ⟨a, i, kp⟩, F.binds hb⟩
theorem MethAt.init {C : Addr} {q : Str} {st : Stmt} {k n : Nat} {Rf : List Dt → List Dt → Prop} {ps : List Str} {x : Str} (D : MethAt K C "__init__" q st) (Q : ClsOf K x C)
    (ok : ∀ f fd, Fun K "__init__" q st f fd → FnOk P w K mg base CX0 k f fd ps (spI K T n Rf)) (hb : ∀ (kV doc pm : Value) (an : Option Addr) (cdv ct : Value) (us : List Value), us.length = ps.length → bindArgs (PySem.W.fnOf "__init__" q (defArgs st) (defBody st) (defScope st) .none kV doc pm an cdv ct) { pos := us } = pure (ps.zip us)) : IF' P w K T mg base n C [] k Rf := by
  obtain ⟨f, oc, od, an, kV, dc, pm, cd, ct, sl, a, i, l, c, kp⟩ := D
  have F := fun_mk (st := st) l c kp
  exact ⟨f, _, ps, [], [], ok f _ F, ⟨Q.mks, a, i, Q.kp⟩, F.binds hb, .nil, fun G => .nil⟩
theorem ClsOf.cf {x : Str} {C : Addr} {n : Nat} {ns : List Str} {h : Heap} (Q : ClsOf K x C) (hT : T n = some (C, ns)) (X : K.In h) (G : h.Ns mainGlobals mg) : CF K T mg x n C ns := ⟨hT, ⟨Q.pg, Q.hd, Q.po, Q.sa⟩, PySem.W.mg_of X G Q.at_⟩
theorem ClsOf.cx {x : Str} {C : Addr} (Q : ClsOf K x C) : ClsX K C := ⟨⟨Q.pg, Q.hd, Q.po, Q.sa⟩, Q.ha, Q.hn, Q.tk, Q.ob⟩
theorem DefAt.dm {x : Str} {st : Stmt} {k : Nat} {R : List Dt → List Dt → Dt → List Dt → Prop} {ps : List Str} {h : Heap} (D : DefAt K x st) (X : K.In h) (G : h.Ns mainGlobals mg)
    (ok : ∀ f fd, Fun K x x st f fd → FnOk P w K mg base CX0 k f fd ps (spM K T R)) (hb : ∀ (kV doc pm : Value) (an : Option Addr) (cdv ct : Value) (us : List Value), us.length = ps.length → bindArgs (PySem.W.fnOf x x (defArgs st) (defBody st) (defScope st) .none kV doc pm an cdv ct) { pos := us } = pure (ps.zip us)) : DM P w K T mg base x k R := by
  obtain ⟨f, oc, od, an, kV, dc, pm, cd, ct, sl, a, l, c, kp⟩ := D
  have F := fun_mk (st := st) l c kp
  exact ⟨f, _, ps, ok f _ F, PySem.W.mg_of X G a, kp, F.binds hb⟩
theorem DefAt.dl {x : Str} {st : Stmt} {k : Nat} {R : List Dt → List Dt → Prop} {ps : List Str} {h : Heap} (D : DefAt K x st) (X : K.In h) (G : h.Ns mainGlobals mg)
    (ok : ∀ f fd, Fun K x x st f fd → FnOk P w K mg base CX0 k f fd ps (spL K T R)) (hb : ∀ (kV doc pm : Value) (an : Option Addr) (cdv ct : Value) (us : List Value), us.length = ps.length → bindArgs (PySem.W.fnOf x x (defArgs st) (defBody st) (defScope st) .none kV doc pm an cdv ct) { pos := us } = pure (ps.zip us)) : DL P w K T mg base x k R := by
  obtain ⟨f, oc, od, an, kV, dc, pm, cd, ct, sl, a, l, c, kp⟩ := D
  have F := fun_mk (st := st) l c kp
  exact ⟨f, _, ps, ok f _ F, PySem.W.mg_of X G a, kp, F.binds hb⟩
theorem MethAt.mx {C : Addr} {m q : Str} {st : Stmt} {k : Nat} {R : List Dt → Xn → Prop} {ps : List Str} (D : MethAt K C m q st)
    (ok : ∀ f fd, Fun K m q st f fd → FnOk P w K mg base (L2.CX P w) k f fd ps (spX K T R)) (hb : ∀ (kV doc pm : Value) (an : Option Addr) (cdv ct : Value) (us : List Value), us.length = ps.length → bindArgs (PySem.W.fnOf m q (defArgs st) (defBody st) (defScope st) .none kV doc pm an cdv ct) { pos := us } = pure (ps.zip us)) : MX P w K T mg base C m k R := by
  obtain ⟨f, oc, od, an, kV, dc, pm, cd, ct, sl, a, i, l, c, kp⟩ := D
  have F := fun_mk (st := st) l c kp
  exact ⟨f, _, ps, ok f _ F, ⟨a, i, kp⟩, F.binds hb⟩
/-- a class that is raised: its own, over ValueError, without an __init__ -/
structure RzOf (K : PySem.W.Frag) (x : Str) (C : Addr) : Prop where
  at_ : PySem.W.nsIn K mainGlobals x = some (some (.ref C))
  ex : PySem.W.excIn K C [.type "ValueError", .type "Exception", .type "BaseException", .type "object"] "ValueError.__new__" = true
  kp : PySem.W.keepIn K (.ref C) = true
  sb : PySem.W.subIn K (.ref C) (.type "BaseException") = some true
  ty : PySem.W.typeIn K (.ref C) = some (.type "type")
  ic : PySem.W.isClsIn K C = true
  sf : PySem.W.subIn K (.ref C) (.ref C) = some true
theorem RzOf.rz {x : Str} {C : Addr} {h : Heap} (Z : RzOf K x C) (X : K.In h) (G : h.Ns mainGlobals mg) : Rz K mg x C := ⟨PySem.W.mg_of X G Z.at_, Z.ex, Z.kp, Z.sb, Z.ty⟩
theorem exm_sub {S C : Addr} (h1 : PySem.W.subIn K (.ref C) (.type "BaseException") = some true) (h2 : PySem.W.isClsIn K C = true) (h3 : PySem.W.typeIn K (.ref C) = some (.type "type")) (h4 : PySem.W.subIn K (.ref S) (.ref C) = some true) : PySem.W.exmOne K (.ref S) (.ref C) = some true := by
  unfold PySem.W.exmOne PySem.W.kitCls
  unfold PySem.W.isClsIn at h2
  simp [h1, h2, h3, h4]
theorem kit_tup {C : Addr} (h2 : PySem.W.isClsIn K C = true) (h3 : PySem.W.typeIn K (.ref C) = some (.type "type")) (h4 : PySem.W.subIn K (.type "tuple") (.ref C) = some false) : PySem.W.kitOne K (.type "tuple") (.ref C) = some false := by
  unfold PySem.W.kitOne PySem.W.kitCls
  unfold PySem.W.isClsIn at h2
  simp [h2, h3, h4]
theorem MethAt.mcf {C : Addr} {q : Str} {st : Stmt} {k : Nat} {R : List Dt → Dt → Prop} {ps : List Str} (D : MethAt K C "__call__" q st)
    (ok : ∀ f fd, Fun K "__call__" q st f fd → FnOk P w K mg base CX0 k f fd ps (spD K T R)) (hb : ∀ (kV doc pm : Value) (an : Option Addr) (cdv ct : Value) (us : List Value), us.length = ps.length → bindArgs (PySem.W.fnOf "__call__" q (defArgs st) (defBody st) (defScope st) .none kV doc pm an cdv ct) { pos := us } = pure (ps.zip us)) : MCF P w K T mg base C k R := by
  obtain ⟨f, oc, od, an, kV, dc, pm, cd, ct, sl, a, i, l, c, kp⟩ := D
  have F := fun_mk (st := st) l c kp
  exact ⟨f, _, ps, ok f _ F, ⟨a, i, kp⟩, F.binds hb, beq_iff_eq.mp i, _, _, l, rfl⟩
theorem MethAt.ix {C : Addr} {q : Str} {st : Stmt} {k n : Nat} {R : List Dt → Xn → Prop} {ps : List Str} {x : Str} (D : MethAt K C "__init__" q st) (Q : ClsOf K x C)
    (ok : ∀ f fd, Fun K "__init__" q st f fd → FnOk P w K mg base (L2.CX P w) k f fd ps (spIX K T n R)) (hb : ∀ (kV doc pm : Value) (an : Option Addr) (cdv ct : Value) (us : List Value), us.length = ps.length → bindArgs (PySem.W.fnOf "__init__" q (defArgs st) (defBody st) (defScope st) .none kV doc pm an cdv ct) { pos := us } = pure (ps.zip us)) : IX P w K T mg base n C k R := by
  obtain ⟨f, oc, od, an, kV, dc, pm, cd, ct, sl, a, i, l, c, kp⟩ := D
  have F := fun_mk (st := st) l c kp
  exact ⟨f, _, ps, ok f _ F, ⟨Q.mks, a, i, Q.kp⟩, F.binds hb⟩
theorem DefAt.dx {x : Str} {st : Stmt} {k : Nat} {R : List Dt → Xn → Prop} {ps : List Str} {h : Heap} (D : DefAt K x st) (X : K.In h) (G : h.Ns mainGlobals mg)
    (ok : ∀ f fd, Fun K x x st f fd → FnOk P w K mg base (L2.CX P w) k f fd ps (spX K T R)) (hb : ∀ (kV doc pm : Value) (an : Option Addr) (cdv ct : Value) (us : List Value), us.length = ps.length → bindArgs (PySem.W.fnOf x x (defArgs st) (defBody st) (defScope st) .none kV doc pm an cdv ct) { pos := us } = pure (ps.zip us)) : DX P w K T mg base x k R := by
  obtain ⟨f, oc, od, an, kV, dc, pm, cd, ct, sl, a, l, c, kp⟩ := D
  have F := fun_mk (st := st) l c kp
  exact ⟨f, _, ps, ok f _ F, PySem.W.mg_of X G a, kp, F.binds hb⟩
/-- an own error over Fault, with an __init__ of its own -/
structure RfOf (K : PySem.W.Frag) (C CB : Addr) : Prop where
  at_ : PySem.W.nsIn K mainGlobals "Refused" = some (some (.ref C))
  cl : ∃ (a q : Str) (N : Addr) (bs : List Value) (sn : List Str) (sub : List Value) (ab : Bool) (col : Option Bool) (dd : Option Addr) (k0 k1 k2 k3 k5 : Option Value), K.lookup C = some (excClassObj a q C N bs [.ref CB, .type "ValueError", .type "Exception", .type "BaseException", .type "object"] true sn sub ab col dd k0 k1 k2 k3 k5 "ValueError.__new__")
  sa : PySem.W.findIn K (.ref C) "__setattr__" = some (some (.builtin "object.__setattr__"))
  ga : PySem.W.findIn K (.ref C) "__getattribute__" = some (some (.builtin "BaseException.__getattribute__"))
  gg : PySem.W.findIn K (.ref C) "__getattr__" = some none
  na : PySem.W.findIn K (.ref C) "reason" = some none
  kp : PySem.W.keepIn K (.ref C) = true
  sb : PySem.W.subIn K (.ref C) (.type "BaseException") = some true
  ty : PySem.W.typeIn K (.ref C) = some (.type "type")
  hd : PySem.W.hasDictIn K C = true
theorem rf_mk {C CB : Addr} {a q : Str} {N : Addr} {bs : List Value} {sn : List Str} {sub : List Value} {ab : Bool} {col : Option Bool} {dd : Option Addr} {k0 k1 k2 k3 k5 : Option Value} (at_ : PySem.W.nsIn K mainGlobals "Refused" = some (some (.ref C)))
    (cl : K.lookup C = some (excClassObj a q C N bs [.ref CB, .type "ValueError", .type "Exception", .type "BaseException", .type "object"] true sn sub ab col dd k0 k1 k2 k3 k5 "ValueError.__new__"))
    (sa : PySem.W.findIn K (.ref C) "__setattr__" = some (some (.builtin "object.__setattr__"))) (ga : PySem.W.findIn K (.ref C) "__getattribute__" = some (some (.builtin "BaseException.__getattribute__"))) (gg : PySem.W.findIn K (.ref C) "__getattr__" = some none) (na : PySem.W.findIn K (.ref C) "reason" = some none)
    (kp : PySem.W.keepIn K (.ref C) = true) (sb : PySem.W.subIn K (.ref C) (.type "BaseException") = some true) (ty : PySem.W.typeIn K (.ref C) = some (.type "type")) (hd : PySem.W.hasDictIn K C = true) : RfOf K C CB :=
  ⟨at_, ⟨a, q, N, bs, sn, sub, ab, col, dd, k0, k1, k2, k3, k5, cl⟩, sa, ga, gg, na, kp, sb, ty, hd⟩
theorem RfOf.rfd {C CB : Addr} {st : Stmt} {h : Heap} (Z : RfOf K C CB) (D : MethAt K C "__init__" "Refused.__init__" st) (X : K.In h) (G : h.Ns mainGlobals mg) {p1 p2 q1 q2 q3 q4 : Pos} (e1 : defArgs st = DvR.ia p1 p2) (e2 : defBody st = DvR.ib q1 q2 q3 q4) (e3 : defScope st = DvR.is) : ∃ fI, DvR.Rfd K mg C fI := by
  obtain ⟨f, oc, od, an, kV, dc, pm, cd, ct, sl, a, i, l, c, kp⟩ := D
  obtain ⟨a1, q, N, bs, sn, sub, ab, col, dd, k0, k1, k2, k3, k5, cl⟩ := Z.cl
  rw [e1, e2, e3] at l
  exact ⟨f, { nm := PySem.W.mg_of X G Z.at_, cl := ⟨a1, q, N, bs, _, sn, sub, ab, col, dd, k0, k1, k2, k3, k5, cl, rfl⟩, sa := Z.sa, ga := Z.ga, gg := Z.gg, na := Z.na, ii := a, ti := beq_iff_eq.mp i, kp := Z.kp, sb := Z.sb, ty := Z.ty, hd := Z.hd, fn := ⟨oc, od, dc, pm, an, cd, ct, kV, sl, p1, p2, q1, q2, q3, q4, l, c⟩ }⟩
/-- what isinstance asks of an error's class -/
structure ExcOf (K : PySem.W.Frag) (D : Addr) : Prop where
  ic : PySem.W.isClsIn K D = true
  hg : PySem.W.findIn K (.ref D) "__getattribute__" = some (some (.builtin "BaseException.__getattribute__"))
  hk : PySem.W.findIn K (.ref D) "__getattr__" = some none
  hs : PySem.W.subIn K (.ref D) (.type "BaseException") = some true
  ha : PySem.W.findIn K (.ref D) "__class__" = some (some (.builtin "object.__class__"))
  hn : PySem.W.specialIn K (.builtin "object.__class__") "__get__" = some (some (.builtin "getset_descriptor.__get__"))
  ht : PySem.W.takesIn K (.builtin "object.__class__") = some true
  hm : PySem.W.mroIn K D (.type "object") = some true
theorem ExcOf.ei {D : Addr} (h : ExcOf K D) : ExcI K D := ⟨h.ic, h.hg, h.hk, h.hs, h.ha, h.hn, h.ht, h.hm⟩
theorem kit_self {C : Addr} : PySem.W.kitOne K (.ref C) (.ref C) = some true := by
  unfold PySem.W.kitOne
  simp
end
end My
set_option autoImplicit false
set_option maxRecDepth 100000
set_option maxHeartbeats 4000000
namespace My
open PySem PySem.Spec PyProof.Rows L2 Dv Mq
def spTop (K : PySem.W.Frag) : Sp := fun vs H Q _ => ∃ (a : Addr) (ns : List Int), vs = [.ref a] ∧ SqL K H a (ns.map V.int) ∧ ∀ H', Q (.bl true) H'
abbrev cRf : Stmt := topS 6
abbrev sRf : Stmt := inClass cRf 0
theorem reps_ints {K : PySem.W.Frag} {T : Ct} {G : Hp} : ∀ ns : List Int, Reps K T G (dInts ns) (ns.map V.int)
  | [] => .nil
  | n :: ns => .cons .int (reps_ints ns)
def tabl (CR CM CA CW : Addr) : Ct := fun n => match n with
  | 0 => some (CR, ["n", "d"])
  | 1 => some (CM, ["rows", "width"])
  | 2 => some (CA, ["letters"])
  | 3 => some (CW, ["alphabet", "row", "matrices", "column"])
  | _ => none
theorem all_mk {l : PySem.W.OpenLaw} {w : World} {K : PySem.W.Frag} {h : Heap} {mg : Str → Option Value} {fa CR CM CA CW CX' CF CB : Addr} (X : K.In h) (G : h.Ns mainGlobals mg) (hfa : mg "law" = some (.ref fa))
    (cR : ClsOf K "Ratio" CR)
    (cM : ClsOf K "Matrix" CM)
    (cA : ClsOf K "Alphabet" CA)
    (cW : ClsOf K "Machine" CW)
    (cX : RzOf K "Malformed" CX')
    (cF : RfOf K CF CB)
    (eF : ExcOf K CF)
    (eX : ExcOf K CX')
    (nn : PySem.W.findIn K (.ref CR) "n" = some none)
    (nd : PySem.W.findIn K (.ref CR) "d" = some none)
    (nr : PySem.W.findIn K (.ref CM) "rows" = some none)
    (nw : PySem.W.findIn K (.ref CM) "width" = some none)
    (nl : PySem.W.findIn K (.ref CA) "letters" = some none)
    (wa : PySem.W.findIn K (.ref CW) "alphabet" = some none)
    (wr : PySem.W.findIn K (.ref CW) "row" = some none)
    (wm : PySem.W.findIn K (.ref CW) "matrices" = some none)
    (wc : PySem.W.findIn K (.ref CW) "column" = some none)
    (bn : PySem.W.nsIn K mainGlobals "Fault" = some (some (.ref CB)))
    (bi : PySem.W.isClsIn K CB = true)
    (bt : PySem.W.typeIn K (.ref CB) = some (.type "type"))
    (bb : PySem.W.subIn K (.ref CB) (.type "BaseException") = some true)
    (bf : PySem.W.subIn K (.ref CF) (.ref CB) = some true)
    (bx : PySem.W.subIn K (.ref CX') (.ref CB) = some true)
    (zg : PySem.W.nsIn K mainGlobals "gcd" = some (some (.builtin "math.gcd")))
    (zi : PySem.W.nsIn K mainGlobals "isinstance" = some none)
    (zl : PySem.W.nsIn K mainGlobals "len" = some none)
    (zt : PySem.W.nsIn K mainGlobals "tuple" = some none)
    (zz : PySem.W.nsIn K mainGlobals "zip" = some none)
    (zr : PySem.W.nsIn K mainGlobals "range" = some none)
    (zn : PySem.W.nsIn K mainGlobals "int" = some none)
    (zb : PySem.W.nsIn K mainGlobals "bool" = some none)
    (za : PySem.W.nsIn K mainGlobals "abs" = some none)
    (zal : PySem.W.nsIn K mainGlobals "all" = some none)
    (zse : PySem.W.nsIn K mainGlobals "set" = some none)
    (zs : PySem.W.nsIn K mainGlobals "str" = some none)
    (zrv : PySem.W.nsIn K mainGlobals "reversed" = some none)
    (zli : PySem.W.nsIn K mainGlobals "list" = some none)
    (mRI : MethDAt K CR "__init__" "Ratio.__init__" sRI 1)
    (mRA : MethAt K CR "__add__" "Ratio.__add__" sRA)
    (mRS : MethAt K CR "__sub__" "Ratio.__sub__" sRS)
    (mRM : MethAt K CR "__mul__" "Ratio.__mul__" sRM)
    (mRE : MethAt K CR "__eq__" "Ratio.__eq__" sRE)
    (mRZ : MethAt K CR "is_zero" "Ratio.is_zero" sRZ)
    (mMI : MethAt K CM "__init__" "Matrix.__init__" sMI)
    (mML : MethAt K CM "__len__" "Matrix.__len__" sML)
    (mMB : MethAt K CM "before" "Matrix.before" sMB)
    (mMX : MethAt K CM "times" "Matrix.times" sMX)
    (mAI : MethAt K CA "__init__" "Alphabet.__init__" sAI)
    (mAL : MethAt K CA "__len__" "Alphabet.__len__" sAL)
    (mAX : MethAt K CA "index" "Alphabet.index" sAX)
    (mWI : MethAt K CW "__init__" "Machine.__init__" sWI)
    (mWS : MethAt K CW "size" "Machine.size" sWS)
    (mWW : MethAt K CW "weight" "Machine.weight" sWW)
    (mWC : MethAt K CW "__call__" "Machine.__call__" sWC)
    (mWR : MethAt K CW "row_after" "Machine.row_after" sWR)
    (mWB : MethAt K CW "column_before" "Machine.column_before" sWB)
    (mWM : MethAt K CW "_matrix" "Machine._matrix" sWM)
    (mRf : MethAt K CF "__init__" "Refused.__init__" sRf)
    (dZ : DefAt K "zero" sZero)
    (dO : DefAt K "one" sOne)
    (dC : DefAt K "combine" sComb)
    (dTo : DefAt K "total" sTotal)
    (dDp : DefAt K "dot" sDotP)
    (dSq : DefAt K "_is_square" sIsSq)
    (d1 : DefAt K "_law_gcd" sGcd)
    (d2 : DefAt K "_law_frac" sFrac)
    (d3 : DefAt K "_law_add" sAdd)
    (d4 : DefAt K "_law_mul" sMul)
    (d5 : DefAt K "_law_state" sState)
    (d6 : DefAt K "_law_take" sTake)
    (d7 : DefAt K "_law_pair" sPair)
    (d8 : DefAt K "_law_item" sItem)
    (d9 : DefAt K "_law_letters" sLetters)
    (d10 : DefAt K "_law_word" sWord)
    (d11 : DefAt K "_law_square" sSquare)
    (d12 : DefAt K "_law_plan" sPlan)
    (d13 : DefAt K "_law_ratios" sRatios)
    (d14 : DefAt K "_law_machine" sLMach)
    (d15 : DefAt K "_law_dot" sDot)
    (d16 : DefAt K "_law_after" sAfter)
    (d17 : DefAt K "_law_weight_of" sWOf)
    (d20 : DefAt K "_law_pairs" sPairs)
    (d21 : DefAt K "_law_before" sLBefore)
    (d18 : DefAt K "_law_refused" sRefd)
    (d22 : DefAt K "_law_bad" sLBad)
    (d19 : DefAt K "law" sLaw) :
    ∃ fd : FuncData, (∀ (s : Shared) (v : Value), BindsTo s fd ⟨[v], []⟩ [("script", v)]) ∧ ∀ base : Heap, K.In base → base.Ns mainGlobals mg → FnOk l.prog w K mg base CX0 11 fa fd ["script"] (spTop K) := by
  obtain ⟨f16, oc, od, an, kV, dc, pm, cd, ct, sl, a16, l16, c16, k16⟩ := d19
  have e := hfa.symm.trans (PySem.W.mg_of X G a16)
  cases e
  have F16 := fun_mk (st := sLaw) l16 c16 k16
  refine ⟨PySem.W.fnOf "law" "law" (defArgs sLaw) (defBody sLaw) (defScope sLaw) .none kV dc pm an cd ct, fun s v => .of_eq rfl, fun base X' G' => ?_⟩
  have hT0 : tabl CR CM CA CW 0 = some (CR, (["n", "d"] : List Str)) := rfl
  have hT1 : tabl CR CM CA CW 1 = some (CM, (["rows", "width"] : List Str)) := rfl
  have hT2 : tabl CR CM CA CW 2 = some (CA, (["letters"] : List Str)) := rfl
  have hT3 : tabl CR CM CA CW 3 = some (CW, (["alphabet", "row", "matrices", "column"] : List Str)) := rfl
  have D : Md K (tabl CR CM CA CW) mg CR CM := ⟨cR.cf hT0 X G, cM.cf hT1 X G, nn, nd, nr, nw, cR.cx, cM.cx, cR.sf, cM.sf, PySem.W.mg_of X G zg, PySem.W.mg_none_of X G zi, PySem.W.mg_none_of X G zl, PySem.W.mg_none_of X G zt, PySem.W.mg_none_of X G zz, PySem.W.mg_none_of X G zr, PySem.W.mg_none_of X G zn, PySem.W.mg_none_of X G zb⟩
  have E : Wd K (tabl CR CM CA CW) mg CA CW := ⟨cA.cf hT2 X G, cW.cf hT3 X G, nl, wa, wr, wm, wc, cA.cx, cW.cx, cW.sf, PySem.W.mg_none_of X G zal, PySem.W.mg_none_of X G zse, PySem.W.mg_none_of X G zs⟩
  have habs := PySem.W.mg_none_of X G za
  have Z : Rz K mg "Malformed" CX' := cX.rz X G
  obtain ⟨fRf, Rf⟩ := cF.rfd mRf X G (p1 := ⟨14, 17, 14, 21⟩) (p2 := ⟨14, 23, 14, 29⟩) (q1 := ⟨15, 8, 15, 12⟩) (q2 := ⟨15, 8, 15, 19⟩) (q3 := ⟨15, 22, 15, 28⟩) (q4 := ⟨15, 8, 15, 28⟩) rfl rfl rfl
  have CtF : CatB K mg CF CB := ⟨PySem.W.mg_of X G bn, exm_sub bb bi bt bf, eF.ei, kit_self⟩
  have CtX : CatB K mg CX' CB := ⟨PySem.W.mg_of X G bn, exm_sub bb bi bt bx, eX.ei, kit_self⟩
  have hrev := PySem.W.mg_none_of X G zrv
  have hlist := PySem.W.mg_none_of X G zli
  -- Ratio
  obtain ⟨fI, ocI, odI, anI, kVI, dcI, pmI, cdI, ctI, slI, tI, oc2, od2, sl2, tk, n2, aI, iI, lI, lT, cI, kI⟩ := mRI
  have FI : FunD K "__init__" "Ratio.__init__" (defArgs sRI) (defBody sRI) (defScope sRI) [V.int 1] [] fI _ := ⟨⟨_, _, _, _, _, _, _, _, _, _, rfl, lI, cI, .inr ⟨by simp, tI, _, _, _, rfl, lT, rfl, .cons ⟨tk, rfl⟩ .nil⟩, .inl rfl⟩, kI⟩
  have okI : FnOk l.prog w K mg base CX0 1 fI _ ["self", "n", "d"] (spI K (tabl CR CM CA CW) 0 RIn) := ok_RI FI D
  have MkI : Mk K CR fI := ⟨cR.mks, aI, iI, cR.kp⟩
  obtain ⟨us2, v2, b2⟩ := FI.binds1 (ps := ["self", "n", "d"]) 3 1 (by simp) rfl (fun T kV doc pm an cdv ct us its h1 h2 => match us, its, h1, h2 with | [_, _, _], [_], _, _ => ⟨_, rfl, rfl⟩)
  obtain ⟨us1, v1, b1⟩ := FI.binds1 (ps := ["self", "n", "d"]) 2 0 (by simp) rfl (fun T kV doc pm an cdv ct us its h1 h2 => match us, its, h1, h2 with | [_, _], [_], _, _ => ⟨_, rfl, rfl⟩)
  have i2 : IF' l.prog w K (tabl CR CM CA CW) mg base 0 CR [] 1 RIn := ⟨fI, _, _, _, us2, okI, MkI, b2, v2, fun G => .nil⟩
  have i1 : IF' l.prog w K (tabl CR CM CA CW) mg base 0 CR [.int 1] 1 RIn := ⟨fI, _, _, _, us1, okI, MkI, b1, v1, fun G => .cons .int .nil⟩
  have rA : MF l.prog w K (tabl CR CM CA CW) mg base CR "__add__" 3 (RA2 (· + ·)) := mRA.mf (ps := ["self", "other"]) (fun f fd F => ok_RA F D i2) fun _ _ _ _ _ _ us hl => match us, hl with | [_, _], _ => rfl
  have rS : MF l.prog w K (tabl CR CM CA CW) mg base CR "__sub__" 3 (RA2 (· - ·)) := mRS.mf (ps := ["self", "other"]) (fun f fd F => ok_RS F D i2) fun _ _ _ _ _ _ us hl => match us, hl with | [_, _], _ => rfl
  have rM : MF l.prog w K (tabl CR CM CA CW) mg base CR "__mul__" 3 (RA2 (· * ·)) := mRM.mf (ps := ["self", "other"]) (fun f fd F => ok_RM F D i2) fun _ _ _ _ _ _ us hl => match us, hl with | [_, _], _ => rfl
  have rE : MF l.prog w K (tabl CR CM CA CW) mg base CR "__eq__" 1 RREq := mRE.mf (ps := ["self", "other"]) (fun f fd F => ok_RE F D) fun _ _ _ _ _ _ us hl => match us, hl with | [_, _], _ => rfl
  have rZ : MF l.prog w K (tabl CR CM CA CW) mg base CR "is_zero" 1 RZe := mRZ.mf (ps := ["self"]) (fun f fd F => ok_RZ F D) fun _ _ _ _ _ _ us hl => match us, hl with | [_], _ => rfl
  have fZ : DF l.prog w K (tabl CR CM CA CW) mg base "zero" 3 (RC0 0) := dZ.df (ps := []) X G (fun f fd F => ok_zero F D i1) fun _ _ _ _ _ _ us hl => match us, hl with | [], _ => rfl
  have fO : DF l.prog w K (tabl CR CM CA CW) mg base "one" 3 (RC0 1) := dO.df (ps := []) X G (fun f fd F => ok_one F D i1) fun _ _ _ _ _ _ us hl => match us, hl with | [], _ => rfl
  have R : RF l.prog w K (tabl CR CM CA CW) mg base CR := ⟨i2, i1, rA, rS, rM, rE, rZ, fZ, fO⟩
  have I : IF' l.prog w K (tabl CR CM CA CW) mg base 1 CM [] 1 RMI := mMI.init (ps := ["self", "rows", "width"]) cM (fun f fd F => ok_MI F D) fun _ _ _ _ _ _ us hl => match us, hl with | [_, _, _], _ => rfl
  have mlen : MF l.prog w K (tabl CR CM CA CW) mg base CM "__len__" 1 RLen := mML.mf (ps := ["self"]) (fun f fd F => ok_ML F D) fun _ _ _ _ _ _ us hl => match us, hl with | [_], _ => rfl
  have comb : DF l.prog w K (tabl CR CM CA CW) mg base "combine" 6 RComb := dC.df (ps := ["rows", "width", "weights"]) X G (fun f fd F => ok_comb F D R) fun _ _ _ _ _ _ us hl => match us, hl with | [_, _, _], _ => rfl
  have bef : MF l.prog w K (tabl CR CM CA CW) mg base CM "before" 7 RBef := mMB.mf (ps := ["self", "row"]) (fun f fd F => ok_MB F D comb) fun _ _ _ _ _ _ us hl => match us, hl with | [_, _], _ => rfl
  have tot : DF l.prog w K (tabl CR CM CA CW) mg base "total" 4 RTotal := dTo.df (ps := ["numbers"]) X G (fun f fd F => ok_total F D R) fun _ _ _ _ _ _ us hl => match us, hl with | [_], _ => rfl
  have dotp : DF l.prog w K (tabl CR CM CA CW) mg base "dot" 5 RDotP := dDp.df (ps := ["a", "b"]) X G (fun f fd F => ok_dotP F D R tot) fun _ _ _ _ _ _ us hl => match us, hl with | [_, _], _ => rfl
  have tim : MF l.prog w K (tabl CR CM CA CW) mg base CM "times" 6 RTim := mMX.mf (ps := ["self", "x"]) (fun f fd F => ok_MX F D dotp) fun _ _ _ _ _ _ us hl => match us, hl with | [_, _], _ => rfl
  have AI : IF' l.prog w K (tabl CR CM CA CW) mg base 2 CA [] 1 RAI := mAI.init (ps := ["self", "letters"]) cA (fun f fd F => ok_AI F D E) fun _ _ _ _ _ _ us hl => match us, hl with | [_, _], _ => rfl
  have alen : MF l.prog w K (tabl CR CM CA CW) mg base CA "__len__" 1 RALen := mAL.mf (ps := ["self"]) (fun f fd F => ok_AL F D E) fun _ _ _ _ _ _ us hl => match us, hl with | [_], _ => rfl
  have aix : MF l.prog w K (tabl CR CM CA CW) mg base CA "index" 1 RAX := mAX.mf (ps := ["self", "letter"]) (fun f fd F => ok_AX F D E) fun _ _ _ _ _ _ us hl => match us, hl with | [_, _], _ => rfl
  have aixx : MX l.prog w K (tabl CR CM CA CW) mg base CA "index" 2 (RAXX CF) := mAX.mx (ps := ["self", "letter"]) (fun f fd F => ok_AXX F D E Rf) fun _ _ _ _ _ _ us hl => match us, hl with | [_, _], _ => rfl
  have isq : DF l.prog w K (tabl CR CM CA CW) mg base "_is_square" 3 RIsSq := dSq.df (ps := ["matrix", "n"]) X G (fun f fd F => ok_isSq F D mlen) fun _ _ _ _ _ _ us hl => match us, hl with | [_, _], _ => rfl
  have isg : DF l.prog w K (tabl CR CM CA CW) mg base "_is_square" 3 RIsSqG := dSq.df (ps := ["matrix", "n"]) X G (fun f fd F => ok_isSqG F D mlen) fun _ _ _ _ _ _ us hl => match us, hl with | [_, _], _ => rfl
  have WI : IF' l.prog w K (tabl CR CM CA CW) mg base 3 CW [] 4 RWI := mWI.init (ps := ["self", "alphabet", "row", "matrices", "column"]) cW (fun f fd F => ok_WI F D E alen isq) fun _ _ _ _ _ _ us hl => match us, hl with | [_, _, _, _, _], _ => rfl
  have WIx : IX l.prog w K (tabl CR CM CA CW) mg base 3 CW 4 (RWIX CX') := mWI.ix (ps := ["self", "alphabet", "row", "matrices", "column"]) cW (fun f fd F => ok_WIX F D E alen isg Z) fun _ _ _ _ _ _ us hl => match us, hl with | [_, _, _, _, _], _ => rfl
  have wsi : MF l.prog w K (tabl CR CM CA CW) mg base CW "size" 1 RWS := mWS.mf (ps := ["self"]) (fun f fd F => ok_WS F D E) fun _ _ _ _ _ _ us hl => match us, hl with | [_], _ => rfl
  have wmt : MF l.prog w K (tabl CR CM CA CW) mg base CW "_matrix" 2 RWM := mWM.mf (ps := ["self", "a"]) (fun f fd F => ok_WM F E aix) fun _ _ _ _ _ _ us hl => match us, hl with | [_, _], _ => rfl
  have wmx : MX l.prog w K (tabl CR CM CA CW) mg base CW "_matrix" 3 (RWMX CF) := mWM.mx (ps := ["self", "a"]) (fun f fd F => ok_WMX F E aixx) fun _ _ _ _ _ _ us hl => match us, hl with | [_, _], _ => rfl
  have wra : MF l.prog w K (tabl CR CM CA CW) mg base CW "row_after" 8 RWR := mWR.mf (ps := ["self", "word"]) (fun f fd F => ok_WR F D E wmt bef) fun _ _ _ _ _ _ us hl => match us, hl with | [_, _], _ => rfl
  have wrx : MX l.prog w K (tabl CR CM CA CW) mg base CW "row_after" 4 (RWRX CF) := mWR.mx (ps := ["self", "word"]) (fun f fd F => ok_WRX F E wmx) fun _ _ _ _ _ _ us hl => match us, hl with | [_, _], _ => rfl
  have wcb : MF l.prog w K (tabl CR CM CA CW) mg base CW "column_before" 7 RWB := mWB.mf (ps := ["self", "word"]) (fun f fd F => ok_WB F D E hrev wmt tim) fun _ _ _ _ _ _ us hl => match us, hl with | [_, _], _ => rfl
  have wbx : MX l.prog w K (tabl CR CM CA CW) mg base CW "column_before" 4 (RWBX CF) := mWB.mx (ps := ["self", "word"]) (fun f fd F => ok_WBX F E hrev wmx) fun _ _ _ _ _ _ us hl => match us, hl with | [_, _], _ => rfl
  have wwt : MF l.prog w K (tabl CR CM CA CW) mg base CW "weight" 9 RWW := mWW.mf (ps := ["self", "word"]) (fun f fd F => ok_WW F E wra dotp) fun _ _ _ _ _ _ us hl => match us, hl with | [_, _], _ => rfl
  have wwx : MX l.prog w K (tabl CR CM CA CW) mg base CW "weight" 6 (RWRX CF) := mWW.mx (ps := ["self", "word"]) (fun f fd F => ok_WWX F E wrx dotp) fun _ _ _ _ _ _ us hl => match us, hl with | [_, _], _ => rfl
  have wcl : MCF l.prog w K (tabl CR CM CA CW) mg base CW 10 RWW := mWC.mcf (ps := ["self", "word"]) (fun f fd F => ok_WC F E wwt) fun _ _ _ _ _ _ us hl => match us, hl with | [_, _], _ => rfl
  have W : WFs l.prog w K (tabl CR CM CA CW) mg base CW := ⟨wwt, wcl, wsi, wra, wcb⟩
  have hgcd : DF l.prog w K (tabl CR CM CA CW) mg base "_law_gcd" 1 RGcd := d1.df (ps := ["a", "b"]) X G (fun f fd F => ok_gcd F D.int habs) fun _ _ _ _ _ _ us hl => match us, hl with | [_, _], _ => rfl
  have hfr : DF l.prog w K (tabl CR CM CA CW) mg base "_law_frac" 2 RFrac := d2.df (ps := ["n", "d"]) X G (fun f fd F => ok_frac F hgcd) fun _ _ _ _ _ _ us hl => match us, hl with | [_, _], _ => rfl
  have had : DF l.prog w K (tabl CR CM CA CW) mg base "_law_add" 3 RAdd := d3.df (ps := ["a", "b"]) X G (fun f fd F => ok_add F hfr) fun _ _ _ _ _ _ us hl => match us, hl with | [_, _], _ => rfl
  have hmu : DF l.prog w K (tabl CR CM CA CW) mg base "_law_mul" 3 RMul := d4.df (ps := ["a", "b"]) X G (fun f fd F => ok_mul F hfr) fun _ _ _ _ _ _ us hl => match us, hl with | [_, _], _ => rfl
  have hst : DL l.prog w K (tabl CR CM CA CW) mg base "_law_state" 1 RState := d5.dl (ps := ["script"]) X G (fun f fd F => ok_state F D.int habs) fun _ _ _ _ _ _ us hl => match us, hl with | [_], _ => rfl
  have htk : DM l.prog w K (tabl CR CM CA CW) mg base "_law_take" 1 RTake := d6.dm (ps := ["state", "m"]) X G (fun f fd F => ok_take F D.int) fun _ _ _ _ _ _ us hl => match us, hl with | [_, _], _ => rfl
  have hpr : DF l.prog w K (tabl CR CM CA CW) mg base "_law_pair" 2 RPair := d7.df (ps := ["value"]) X G (fun f fd F => ok_pair F D hgcd) fun _ _ _ _ _ _ us hl => match us, hl with | [_], _ => rfl
  have hps : DF l.prog w K (tabl CR CM CA CW) mg base "_law_pairs" 3 RPairs := d20.df (ps := ["values"]) X G (fun f fd F => ok_pairs F D hpr) fun _ _ _ _ _ _ us hl => match us, hl with | [_], _ => rfl
  have hit : DM l.prog w K (tabl CR CM CA CW) mg base "_law_item" 3 RItem := d8.dm (ps := ["state"]) X G (fun f fd F => ok_item F htk hfr) fun _ _ _ _ _ _ us hl => match us, hl with | [_], _ => rfl
  have hle : DM l.prog w K (tabl CR CM CA CW) mg base "_law_letters" 2 RLetters := d9.dm (ps := ["state", "most"]) X G (fun f fd F => ok_letters F htk D.ran D.len) fun _ _ _ _ _ _ us hl => match us, hl with | [_, _], _ => rfl
  have hwo : DM l.prog w K (tabl CR CM CA CW) mg base "_law_word" 2 RWord := d10.dm (ps := ["state", "letters", "most"]) X G (fun f fd F => ok_word F htk D.ran D.len) fun _ _ _ _ _ _ us hl => match us, hl with | [_, _, _], _ => rfl
  have hsq : DM l.prog w K (tabl CR CM CA CW) mg base "_law_square" 4 RSquare := d11.dm (ps := ["state", "n"]) X G (fun f fd F => ok_square F D hit) fun _ _ _ _ _ _ us hl => match us, hl with | [_, _], _ => rfl
  have hpl : DM l.prog w K (tabl CR CM CA CW) mg base "_law_plan" 5 RPlan := d12.dm (ps := ["state", "letters", "most"]) X G (fun f fd F => ok_plan F D htk hit hsq) fun _ _ _ _ _ _ us hl => match us, hl with | [_, _, _], _ => rfl
  have hra : DF l.prog w K (tabl CR CM CA CW) mg base "_law_ratios" 3 RRatios := d13.df (ps := ["items"]) X G (fun f fd F => ok_ratios F D R) fun _ _ _ _ _ _ us hl => match us, hl with | [_], _ => rfl
  have hma : DF l.prog w K (tabl CR CM CA CW) mg base "_law_machine" 6 RLMach := d14.df (ps := ["plan"]) X G (fun f fd F => ok_lmach F D E hra I AI WI) fun _ _ _ _ _ _ us hl => match us, hl with | [_], _ => rfl
  have hdo : DF l.prog w K (tabl CR CM CA CW) mg base "_law_dot" 4 RDot := d15.df (ps := ["a", "b"]) X G (fun f fd F => ok_dot F D had hmu) fun _ _ _ _ _ _ us hl => match us, hl with | [_, _], _ => rfl
  have haf : DF l.prog w K (tabl CR CM CA CW) mg base "_law_after" 5 RAfter := d16.df (ps := ["plan", "word"]) X G (fun f fd F => ok_after F D hdo) fun _ _ _ _ _ _ us hl => match us, hl with | [_, _], _ => rfl
  have hbe : DF l.prog w K (tabl CR CM CA CW) mg base "_law_before" 5 RLBefore := d21.df (ps := ["plan", "word"]) X G (fun f fd F => ok_lbefore F D hlist hdo) fun _ _ _ _ _ _ us hl => match us, hl with | [_, _], _ => rfl
  have hwf : DF l.prog w K (tabl CR CM CA CW) mg base "_law_weight_of" 6 RWOf := d17.df (ps := ["plan", "word"]) X G (fun f fd F => ok_wOf F hdo haf) fun _ _ _ _ _ _ us hl => match us, hl with | [_, _], _ => rfl
  have hre : DF l.prog w K (tabl CR CM CA CW) mg base "_law_refused" 7 RRefd := d18.df (ps := ["machine"]) X G (fun f fd F => ok_refd F D E wwx wrx wbx Rf CtF) fun _ _ _ _ _ _ us hl => match us, hl with | [_], _ => rfl
  have hba : DF l.prog w K (tabl CR CM CA CW) mg base "_law_bad" 6 RLBad := d22.df (ps := ["machine", "pick"]) X G (fun f fd F => ok_lbad F D E R I WIx Z CtX) fun _ _ _ _ _ _ us hl => match us, hl with | [_, _], _ => rfl
  have L : LFs l.prog w K (tabl CR CM CA CW) mg base := ⟨hst, htk, hle, hwo, hpl, hma, hwf, hpr, hps, haf, hbe, hdo, hre, hba⟩
  refine (ok_law F16 D E W L).imp fun vs H Q E ⟨a, ns, e1, hS, kk⟩ => ?_
  subst e1
  exact ⟨H, [.ro (dInts ns)], .bl true, Ex.refl H, .cons (.ro hS (reps_ints ns)) .nil, ⟨ns, rfl, rfl⟩, fun v G' H' _ _ r => by cases r; exact kk H'⟩
theorem walk {l : PySem.W.OpenLaw} {q : Program} {loose : List Str} {XP : (Str → Option Value) → Heap → Prop} {YP : World → Heap → Prop} {d : DefRec} {K : Params → PySem.W.Frag} (hn : l.most = some 63) (hdf : d.params.defaults = [])
    (hY : ∀ (w : World) (h : Heap), YP w h → (K w.params).In h)
    (F : ∀ (w : World) (mg : Str → Option Value) (fa : Addr) (h : Heap), (K w.params).In h → h.Ns mainGlobals mg → mg d.name = some (.ref fa) →
      ∃ fd : FuncData, (∀ (s : Shared) (u : Value), BindsTo s fd ⟨[u], []⟩ [("script", u)]) ∧ ∀ base : Heap, (K w.params).In base → base.Ns mainGlobals mg → FnOk l.prog w (K w.params) mg base CX0 11 fa fd ["script"] (spTop (K w.params))) :
    PySem.W.WalkO q loose XP YP l.row.toRowW d [] (fun f vs => PySem.call f vs) :=
  L2.walk_of (n := 63) (k := 11) (x := "script") (CX := fun _ => CX0) (sp := fun w => spTop (K w.params)) hn (by decide) hdf ⟨rfl, by decide, by decide⟩ hY F (fun _ _ a ns hl _ hS => ⟨a, ns, rfl, hS, fun _ => rfl⟩) fun _ _ _ _ _ z => z
end My
set_option autoImplicit true
open PySem PySem.W PyProof.Rows My
set_option maxRecDepth 100000 in
set_option maxHeartbeats 0 in
theorem PySem.Challenge.cw_wordweight_k10_weights_of_machines_holds : PySem.Challenge.rw_wordweight_k10_weights_of_machines.Holds := by
  w_on; o_law; k_head; (case hw => w_witness2)
  k_fill
  refine My.walk (l := PySem.Challenge.rw_wordweight_k10_weights_of_machines) rfl rfl (fun w h Y => PySem.W.kIn_of Y) ?F
  case F =>
    intro w mg fa h KX G hmg
    refine' My.all_mk KX G hmg ?cR ?cM ?cA ?cW ?cX ?cF ?eF ?eX ?nn ?nd ?nr ?nw ?nl ?wa ?wr ?wm ?wc ?bn ?bi ?bt ?bb ?bf ?bx ?zg ?zi ?zl ?zt ?zz ?zr ?zn ?zb ?za ?zal ?zse ?zs ?zrv ?zli ?mRI ?mRA ?mRS ?mRM ?mRE ?mRZ ?mMI ?mML ?mMB ?mMX ?mAI ?mAL ?mAX ?mWI ?mWS ?mWW ?mWC ?mWR ?mWB ?mWM ?mRf ?dZ ?dO ?dC ?dTo ?dDp ?dSq ?d1 ?d2 ?d3 ?d4 ?d5 ?d6 ?d7 ?d8 ?d9 ?d10 ?d11 ?d12 ?d13 ?d14 ?d15 ?d16 ?d17 ?d20 ?d21 ?d18 ?d22 ?d19
    (case cR => (refine' ⟨?a_cR, ?b_cR, ?c_cR, ?d_cR, ?e_cR, ?f_cR, ?g_cR, ?h_cR, ?i_cR, ?j_cR, ?k_cR, ?l_cR⟩; (case a_cR => k_is); (case b_cR => k_is); (case c_cR => k_is); (case d_cR => k_is); (case e_cR => k_is); (case f_cR => k_is); (case g_cR => k_is); (case h_cR => k_is); (case i_cR => k_is); (case j_cR => k_is); (case k_cR => k_is); (case l_cR => k_is)))
    (case cM => (refine' ⟨?a_cM, ?b_cM, ?c_cM, ?d_cM, ?e_cM, ?f_cM, ?g_cM, ?h_cM, ?i_cM, ?j_cM, ?k_cM, ?l_cM⟩; (case a_cM => k_is); (case b_cM => k_is); (case c_cM => k_is); (case d_cM => k_is); (case e_cM => k_is); (case f_cM => k_is); (case g_cM => k_is); (case h_cM => k_is); (case i_cM => k_is); (case j_cM => k_is); (case k_cM => k_is); (case l_cM => k_is)))
    (case cA => (refine' ⟨?a_cA, ?b_cA, ?c_cA, ?d_cA, ?e_cA, ?f_cA, ?g_cA, ?h_cA, ?i_cA, ?j_cA, ?k_cA, ?l_cA⟩; (case a_cA => k_is); (case b_cA => k_is); (case c_cA => k_is); (case d_cA => k_is); (case e_cA => k_is); (case f_cA => k_is); (case g_cA => k_is); (case h_cA => k_is); (case i_cA => k_is); (case j_cA => k_is); (case k_cA => k_is); (case l_cA => k_is)))
    (case cW => (refine' ⟨?a_cW, ?b_cW, ?c_cW, ?d_cW, ?e_cW, ?f_cW, ?g_cW, ?h_cW, ?i_cW, ?j_cW, ?k_cW, ?l_cW⟩; (case a_cW => k_is); (case b_cW => k_is); (case c_cW => k_is); (case d_cW => k_is); (case e_cW => k_is); (case f_cW => k_is); (case g_cW => k_is); (case h_cW => k_is); (case i_cW => k_is); (case j_cW => k_is); (case k_cW => k_is); (case l_cW => k_is)))
    (case cX => (refine' ⟨?a_cX, ?e_cX, ?k_cX, ?s_cX, ?t_cX, ?i_cX, ?f_cX⟩; (case a_cX => k_is); (case e_cX => k_exc); (case k_cX => k_is); (case s_cX => k_is); (case t_cX => k_is); (case i_cX => k_is); (case f_cX => first | rfl | k_is)))
    (case cF => (refine' rf_mk ?a_cF ?c_cF ?s_cF ?g_cF ?h_cF ?n_cF ?k_cF ?b_cF ?t_cF ?d_cF; (case a_cF => k_is); (case c_cF => k_is); (case s_cF => k_is); (case g_cF => k_is); (case h_cF => k_is); (case n_cF => k_is); (case k_cF => k_is); (case b_cF => k_is); (case t_cF => k_is); (case d_cF => k_is)))
    (case eF => (refine' ⟨?a_eF, ?b_eF, ?c_eF, ?d_eF, ?e_eF, ?f_eF, ?g_eF, ?h_eF⟩; (case a_eF => k_is); (case b_eF => k_is); (case c_eF => k_is); (case d_eF => k_is); (case e_eF => k_is); (case f_eF => k_is); (case g_eF => k_is); (case h_eF => k_is)))
    (case eX => (refine' ⟨?a_eX, ?b_eX, ?c_eX, ?d_eX, ?e_eX, ?f_eX, ?g_eX, ?h_eX⟩; (case a_eX => k_is); (case b_eX => k_is); (case c_eX => k_is); (case d_eX => k_is); (case e_eX => k_is); (case f_eX => k_is); (case g_eX => k_is); (case h_eX => k_is)))
    (case nn => k_is)
    (case nd => k_is)
    (case nr => k_is)
    (case nw => k_is)
    (case nl => k_is)
    (case wa => k_is)
    (case wr => k_is)
    (case wm => k_is)
    (case wc => k_is)
    (case bn => k_is)
    (case bi => k_is)
    (case bt => k_is)
    (case bb => k_is)
    (case bf => k_is)
    (case bx => k_is)
    (case zg => k_is)
    (case zi => k_is)
    (case zl => k_is)
    (case zt => k_is)
    (case zz => k_is)
    (case zr => k_is)
    (case zn => k_is)
    (case zb => k_is)
    (case za => k_is)
    (case zal => k_is)
    (case zse => k_is)
    (case zs => k_is)
    (case zrv => k_is)
    (case zli => k_is)
    (case mRI => (refine' methd_mk ?a_mRI ?i_mRI ?l_mRI ?t_mRI ?c_mRI ?k_mRI; (case a_mRI => k_is); (case i_mRI => k_is); (case l_mRI => k_is); (case t_mRI => k_is); (case c_mRI => k_is); (case k_mRI => k_is)))
    (case mRA => (refine' meth_mk ?a_mRA ?i_mRA ?l_mRA ?c_mRA ?k_mRA; (case a_mRA => k_is); (case i_mRA => k_is); (case l_mRA => k_is); (case c_mRA => k_is); (case k_mRA => k_is)))
    (case mRS => (refine' meth_mk ?a_mRS ?i_mRS ?l_mRS ?c_mRS ?k_mRS; (case a_mRS => k_is); (case i_mRS => k_is); (case l_mRS => k_is); (case c_mRS => k_is); (case k_mRS => k_is)))
    (case mRM => (refine' meth_mk ?a_mRM ?i_mRM ?l_mRM ?c_mRM ?k_mRM; (case a_mRM => k_is); (case i_mRM => k_is); (case l_mRM => k_is); (case c_mRM => k_is); (case k_mRM => k_is)))
    (case mRE => (refine' meth_mk ?a_mRE ?i_mRE ?l_mRE ?c_mRE ?k_mRE; (case a_mRE => k_is); (case i_mRE => k_is); (case l_mRE => k_is); (case c_mRE => k_is); (case k_mRE => k_is)))
    (case mRZ => (refine' meth_mk ?a_mRZ ?i_mRZ ?l_mRZ ?c_mRZ ?k_mRZ; (case a_mRZ => k_is); (case i_mRZ => k_is); (case l_mRZ => k_is); (case c_mRZ => k_is); (case k_mRZ => k_is)))
    (case mMI => (refine' meth_mk ?a_mMI ?i_mMI ?l_mMI ?c_mMI ?k_mMI; (case a_mMI => k_is); (case i_mMI => k_is); (case l_mMI => k_is); (case c_mMI => k_is); (case k_mMI => k_is)))
    (case mML => (refine' meth_mk ?a_mML ?i_mML ?l_mML ?c_mML ?k_mML; (case a_mML => k_is); (case i_mML => k_is); (case l_mML => k_is); (case c_mML => k_is); (case k_mML => k_is)))
    (case mMB => (refine' meth_mk ?a_mMB ?i_mMB ?l_mMB ?c_mMB ?k_mMB; (case a_mMB => k_is); (case i_mMB => k_is); (case l_mMB => k_is); (case c_mMB => k_is); (case k_mMB => k_is)))
    (case mMX => (refine' meth_mk ?a_mMX ?i_mMX ?l_mMX ?c_mMX ?k_mMX; (case a_mMX => k_is); (case i_mMX => k_is); (case l_mMX => k_is); (case c_mMX => k_is); (case k_mMX => k_is)))
    (case mAI => (refine' meth_mk ?a_mAI ?i_mAI ?l_mAI ?c_mAI ?k_mAI; (case a_mAI => k_is); (case i_mAI => k_is); (case l_mAI => k_is); (case c_mAI => k_is); (case k_mAI => k_is)))
    (case mAL => (refine' meth_mk ?a_mAL ?i_mAL ?l_mAL ?c_mAL ?k_mAL; (case a_mAL => k_is); (case i_mAL => k_is); (case l_mAL => k_is); (case c_mAL => k_is); (case k_mAL => k_is)))
    (case mAX => (refine' meth_mk ?a_mAX ?i_mAX ?l_mAX ?c_mAX ?k_mAX; (case a_mAX => k_is); (case i_mAX => k_is); (case l_mAX => k_is); (case c_mAX => k_is); (case k_mAX => k_is)))
    (case mWI => (refine' meth_mk ?a_mWI ?i_mWI ?l_mWI ?c_mWI ?k_mWI; (case a_mWI => k_is); (case i_mWI => k_is); (case l_mWI => k_is); (case c_mWI => k_is); (case k_mWI => k_is)))
    (case mWS => (refine' meth_mk ?a_mWS ?i_mWS ?l_mWS ?c_mWS ?k_mWS; (case a_mWS => k_is); (case i_mWS => k_is); (case l_mWS => k_is); (case c_mWS => k_is); (case k_mWS => k_is)))
    (case mWW => (refine' meth_mk ?a_mWW ?i_mWW ?l_mWW ?c_mWW ?k_mWW; (case a_mWW => k_is); (case i_mWW => k_is); (case l_mWW => k_is); (case c_mWW => k_is); (case k_mWW => k_is)))
    (case mWC => (refine' meth_mk ?a_mWC ?i_mWC ?l_mWC ?c_mWC ?k_mWC; (case a_mWC => k_is); (case i_mWC => k_is); (case l_mWC => k_is); (case c_mWC => k_is); (case k_mWC => k_is)))
    (case mWR => (refine' meth_mk ?a_mWR ?i_mWR ?l_mWR ?c_mWR ?k_mWR; (case a_mWR => k_is); (case i_mWR => k_is); (case l_mWR => k_is); (case c_mWR => k_is); (case k_mWR => k_is)))
    (case mWB => (refine' meth_mk ?a_mWB ?i_mWB ?l_mWB ?c_mWB ?k_mWB; (case a_mWB => k_is); (case i_mWB => k_is); (case l_mWB => k_is); (case c_mWB => k_is); (case k_mWB => k_is)))
    (case mWM => (refine' meth_mk ?a_mWM ?i_mWM ?l_mWM ?c_mWM ?k_mWM; (case a_mWM => k_is); (case i_mWM => k_is); (case l_mWM => k_is); (case c_mWM => k_is); (case k_mWM => k_is)))
    (case mRf => (refine' meth_mk ?a_mRf ?i_mRf ?l_mRf ?c_mRf ?k_mRf; (case a_mRf => k_is); (case i_mRf => k_is); (case l_mRf => k_is); (case c_mRf => k_is); (case k_mRf => k_is)))
    (case dZ => (refine' def_mk ?a_dZ ?l_dZ ?c_dZ ?k_dZ; (case a_dZ => k_is); (case l_dZ => k_is); (case c_dZ => k_is); (case k_dZ => k_is)))
    (case dO => (refine' def_mk ?a_dO ?l_dO ?c_dO ?k_dO; (case a_dO => k_is); (case l_dO => k_is); (case c_dO => k_is); (case k_dO => k_is)))
    (case dC => (refine' def_mk ?a_dC ?l_dC ?c_dC ?k_dC; (case a_dC => k_is); (case l_dC => k_is); (case c_dC => k_is); (case k_dC => k_is)))
    (case dTo => (refine' def_mk ?a_dTo ?l_dTo ?c_dTo ?k_dTo; (case a_dTo => k_is); (case l_dTo => k_is); (case c_dTo => k_is); (case k_dTo => k_is)))
    (case dDp => (refine' def_mk ?a_dDp ?l_dDp ?c_dDp ?k_dDp; (case a_dDp => k_is); (case l_dDp => k_is); (case c_dDp => k_is); (case k_dDp => k_is)))
    (case dSq => (refine' def_mk ?a_dSq ?l_dSq ?c_dSq ?k_dSq; (case a_dSq => k_is); (case l_dSq => k_is); (case c_dSq => k_is); (case k_dSq => k_is)))
    (case d1 => (refine' def_mk ?a_d1 ?l_d1 ?c_d1 ?k_d1; (case a_d1 => k_is); (case l_d1 => k_is); (case c_d1 => k_is); (case k_d1 => k_is)))
    (case d2 => (refine' def_mk ?a_d2 ?l_d2 ?c_d2 ?k_d2; (case a_d2 => k_is); (case l_d2 => k_is); (case c_d2 => k_is); (case k_d2 => k_is)))
    (case d3 => (refine' def_mk ?a_d3 ?l_d3 ?c_d3 ?k_d3; (case a_d3 => k_is); (case l_d3 => k_is); (case c_d3 => k_is); (case k_d3 => k_is)))
    (case d4 => (refine' def_mk ?a_d4 ?l_d4 ?c_d4 ?k_d4; (case a_d4 => k_is); (case l_d4 => k_is); (case c_d4 => k_is); (case k_d4 => k_is)))
    (case d5 => (refine' def_mk ?a_d5 ?l_d5 ?c_d5 ?k_d5; (case a_d5 => k_is); (case l_d5 => k_is); (case c_d5 => k_is); (case k_d5 => k_is)))
    (case d6 => (refine' def_mk ?a_d6 ?l_d6 ?c_d6 ?k_d6; (case a_d6 => k_is); (case l_d6 => k_is); (case c_d6 => k_is); (case k_d6 => k_is)))
    (case d7 => (refine' def_mk ?a_d7 ?l_d7 ?c_d7 ?k_d7; (case a_d7 => k_is); (case l_d7 => k_is); (case c_d7 => k_is); (case k_d7 => k_is)))
    (case d8 => (refine' def_mk ?a_d8 ?l_d8 ?c_d8 ?k_d8; (case a_d8 => k_is); (case l_d8 => k_is); (case c_d8 => k_is); (case k_d8 => k_is)))
    (case d9 => (refine' def_mk ?a_d9 ?l_d9 ?c_d9 ?k_d9; (case a_d9 => k_is); (case l_d9 => k_is); (case c_d9 => k_is); (case k_d9 => k_is)))
    (case d10 => (refine' def_mk ?a_d10 ?l_d10 ?c_d10 ?k_d10; (case a_d10 => k_is); (case l_d10 => k_is); (case c_d10 => k_is); (case k_d10 => k_is)))
    (case d11 => (refine' def_mk ?a_d11 ?l_d11 ?c_d11 ?k_d11; (case a_d11 => k_is); (case l_d11 => k_is); (case c_d11 => k_is); (case k_d11 => k_is)))
    (case d12 => (refine' def_mk ?a_d12 ?l_d12 ?c_d12 ?k_d12; (case a_d12 => k_is); (case l_d12 => k_is); (case c_d12 => k_is); (case k_d12 => k_is)))
    (case d13 => (refine' def_mk ?a_d13 ?l_d13 ?c_d13 ?k_d13; (case a_d13 => k_is); (case l_d13 => k_is); (case c_d13 => k_is); (case k_d13 => k_is)))
    (case d14 => (refine' def_mk ?a_d14 ?l_d14 ?c_d14 ?k_d14; (case a_d14 => k_is); (case l_d14 => k_is); (case c_d14 => k_is); (case k_d14 => k_is)))
    (case d15 => (refine' def_mk ?a_d15 ?l_d15 ?c_d15 ?k_d15; (case a_d15 => k_is); (case l_d15 => k_is); (case c_d15 => k_is); (case k_d15 => k_is)))
    (case d16 => (refine' def_mk ?a_d16 ?l_d16 ?c_d16 ?k_d16; (case a_d16 => k_is); (case l_d16 => k_is); (case c_d16 => k_is); (case k_d16 => k_is)))
    (case d17 => (refine' def_mk ?a_d17 ?l_d17 ?c_d17 ?k_d17; (case a_d17 => k_is); (case l_d17 => k_is); (case c_d17 => k_is); (case k_d17 => k_is)))
    (case d20 => (refine' def_mk ?a_d20 ?l_d20 ?c_d20 ?k_d20; (case a_d20 => k_is); (case l_d20 => k_is); (case c_d20 => k_is); (case k_d20 => k_is)))
    (case d21 => (refine' def_mk ?a_d21 ?l_d21 ?c_d21 ?k_d21; (case a_d21 => k_is); (case l_d21 => k_is); (case c_d21 => k_is); (case k_d21 => k_is)))
    (case d18 => (refine' def_mk ?a_d18 ?l_d18 ?c_d18 ?k_d18; (case a_d18 => k_is); (case l_d18 => k_is); (case c_d18 => k_is); (case k_d18 => k_is)))
    (case d22 => (refine' def_mk ?a_d22 ?l_d22 ?c_d22 ?k_d22; (case a_d22 => k_is); (case l_d22 => k_is); (case c_d22 => k_is); (case k_d22 => k_is)))
    (case d19 => (refine' def_mk ?a_d19 ?l_d19 ?c_d19 ?k_d19; (case a_d19 => k_is); (case l_d19 => k_is); (case c_d19 => k_is); (case k_d19 => k_is)))
