import PyProof.Rows.All
import Wide.All
import OpenK.AllK
import Wide.FinOn
import HandS.ForMost
import HandS.ForExc
import HandS.WideMore
import HandS.Gcd
import HandS.IsInst
import HandS.TupAny
import HandS.OwnEq
import HandS.Deep
import HandS.TupMul
import HandS.Zip
import HandS.Style
import HandS.Defaults
import HandS.Zip0
import PySem.Challenge.RW_wordweight_k03_reduced_rows
import HandS.Iter
import HandS.Star
import HandS.TryOnly
import HandS.WordsExc
import HandS.ExcOwn
import HandS.SetTxt0
import HandS.Strs
import PyProof.ListMulRoad
import PyProof.FactsAll.tuple_2
import PyProof.StrLawsIn
import PyProof.SliceStr2
import PyProof.Rows.StrRev
import HandS.ExcIs
import KE.KExcIs
import HandS.Rev
set_option Elab.async false
set_option linter.all false
set_option autoImplicit true
set_option maxRecDepth 100000
namespace Dv
open PySem PySem.Spec PyProof.Rows L2

/-! ### data without addresses -/
inductive Dt where
  | non | bl (b : Bool) | int (i : Int) | str (x : Str) | lst (xs : List Dt) | ro (xs : List Dt) | tup (xs : List Dt) | obj (c : Nat) (fs : List Dt)

/-- own classes by number: the class's address, its attributes in order -/
abbrev Ct := Nat → Option (Addr × List Str)

mutual
inductive Rep (K : PySem.W.Frag) (T : Ct) (G : Hp) : Dt → V → Prop where
  | non : Rep K T G .non .non
  | bl {b} : Rep K T G (.bl b) (.bl b)
  | int {i} : Rep K T G (.int i) (.int i)
  | str {x} : Rep K T G (.str x) (.str x)
  | lst {a xs vs} : G a = some (.lst vs) → Reps K T G xs vs → Rep K T G (.lst xs) (.ref a)
  | ro {a xs vs} : SqL K G a vs → Reps K T G xs vs → Rep K T G (.ro xs) (.ref a)
  | tup {a xs vs} : SqT K G a vs → Reps K T G xs vs → Rep K T G (.tup xs) (.ref a)
  | obj {c C ns a dx fs vs} : T c = some (C, ns) → G a = some (.ins C dx (ns.zip vs)) → ns.length = vs.length → Reps K T G fs vs → Rep K T G (.obj c fs) (.ref a)
inductive Reps (K : PySem.W.Frag) (T : Ct) (G : Hp) : List Dt → List V → Prop where
  | nil : Reps K T G [] []
  | cons {d v ds vs} : Rep K T G d v → Reps K T G ds vs → Reps K T G (d :: ds) (v :: vs)
end

def Ex (H H' : Hp) : Prop := ∀ a o, H a = some o → H' a = some o
theorem Ex.refl (H : Hp) : Ex H H := fun _ _ h => h
theorem Ex.trans {H H1 H2 : Hp} (a : Ex H H1) (b : Ex H1 H2) : Ex H H2 := fun x o h => b x o (a x o h)
theorem Ex.new {H : Hp} {p : Addr} {o : HO} (h : H p = none) : Ex H (upd H p o) := fun a u e => by
  rw [upd_ne (ne_of_none e h)]; exact e
theorem Ex.none {H H' : Hp} (e : Ex H H') {p : Addr} (h : H' p = none) : H p = none := by
  cases q : H p with
  | none => rfl
  | some o => rw [e p o q] at h; cases h
theorem Ex.rd {H H' : Hp} {a : Addr} {u : HO} (e : Ex H H') (h : Rd H a u) : Rd H' a u := by
  rcases h with h | ⟨o, h⟩
  · exact Or.inl (e a _ h)
  · exact Or.inr ⟨o, e a _ h⟩
theorem Ex.sl {K : PySem.W.Frag} {H H' : Hp} {a : Addr} {xs : List V} (e : Ex H H') (h : SqL K H a xs) : SqL K H' a xs := h.elim (fun h => .inl (e.rd h)) .inr
theorem Ex.st {K : PySem.W.Frag} {H H' : Hp} {a : Addr} {xs : List V} (e : Ex H H') (h : SqT K H a xs) : SqT K H' a xs := h.elim (fun h => .inl (e.rd h)) .inr

variable {K : PySem.W.Frag} {T : Ct} {G G' G1 G2 H H' H1 H2 : Hp}

mutual
theorem Rep.ex {d : Dt} {v : V} (e : Ex G G') : Rep K T G d v → Rep K T G' d v
  | .non => .non
  | .bl => .bl
  | .int => .int
  | .str => .str
  | .lst h r => .lst (e _ _ h) (r.ex e)
  | .ro h r => .ro (e.sl h) (r.ex e)
  | .tup h r => .tup (e.st h) (r.ex e)
  | .obj t h l r => .obj t (e _ _ h) l (r.ex e)
theorem Reps.ex {ds : List Dt} {vs : List V} (e : Ex G G') : Reps K T G ds vs → Reps K T G' ds vs
  | .nil => .nil
  | .cons r rs => .cons (r.ex e) (rs.ex e)
end

theorem Reps.length : ∀ {ds : List Dt} {vs : List V}, Reps K T G ds vs → ds.length = vs.length
  | _, _, .nil => rfl
  | _, _, .cons _ r => congrArg Nat.succ (Reps.length r)
theorem Reps.get : ∀ {ds : List Dt} {vs : List V} {i : Nat} {d : Dt}, Reps K T G ds vs → ds[i]? = some d → ∃ v, vs[i]? = some v ∧ Rep K T G d v
  | _, _, _, _, .nil, e => by simp at e
  | _, _, 0, _, .cons r _, e => by simp at e; subst e; exact ⟨_, rfl, r⟩
  | _, _, i + 1, d, .cons _ t, e => by
    obtain ⟨u, h1, h2⟩ := Reps.get (i := i) (d := d) t (by simpa using e)
    exact ⟨u, by simpa using h1, h2⟩
theorem Reps.getV : ∀ {ds : List Dt} {vs : List V} {i : Nat} {v : V}, Reps K T G ds vs → vs[i]? = some v → ∃ d, ds[i]? = some d ∧ Rep K T G d v
  | _, _, _, _, .nil, e => by simp at e
  | _, _, 0, _, .cons r _, e => by simp at e; subst e; exact ⟨_, rfl, r⟩
  | _, _, i + 1, v, .cons _ t, e => by
    obtain ⟨u, h1, h2⟩ := Reps.getV (i := i) (v := v) t (by simpa using e)
    exact ⟨u, by simpa using h1, h2⟩
theorem Reps.app : ∀ {ds es : List Dt} {vs ws : List V}, Reps K T G ds vs → Reps K T G es ws → Reps K T G (ds ++ es) (vs ++ ws)
  | _, _, _, _, .nil, s => s
  | _, _, _, _, .cons r t, s => .cons r (Reps.app t s)
theorem Reps.set {d : Dt} {v : V} (r : Rep K T G d v) : ∀ {ds : List Dt} {vs : List V} (i : Nat), Reps K T G ds vs → Reps K T G (ds.set i d) (vs.set i v)
  | _, _, _, .nil => .nil
  | _, _, 0, .cons _ t => .cons r t
  | _, _, i + 1, .cons q t => .cons q (Reps.set r i t)
theorem Reps.take : ∀ {ds : List Dt} {vs : List V} (n : Nat), Reps K T G ds vs → Reps K T G (ds.take n) (vs.take n)
  | _, _, 0, _ => .nil
  | _, _, _ + 1, .nil => .nil
  | _, _, n + 1, .cons r t => .cons r (Reps.take n t)
theorem Reps.drop : ∀ {ds : List Dt} {vs : List V} (n : Nat), Reps K T G ds vs → Reps K T G (ds.drop n) (vs.drop n)
  | _, _, 0, r => r
  | _, _, _ + 1, .nil => .nil
  | _, _, n + 1, .cons _ t => Reps.drop n t

/-! ### stores -/
inductive Sv where
  /-- known, never changed -/
  | fr (d : Dt)
  /-- a list of this def's own, unshared -/
  | ow (xs : List Dt)
  /-- a list that the caller handed in to be changed -/
  | pr (k : Nat) (xs : List Dt)
  /-- an instance that is being made (by its __init__): the attributes that it has so far -/
  | bo (n : Nat) (fs : List Dt)
  /-- an exception that is held: its place, its own dict, what it says of itself -/
  | ex (a : Addr) (dd : Option Addr) (at_ : Option (Str × Dt))
def Sv.isOw : Sv → Bool
  | .fr _ => false
  | .ex _ _ _ => false
  | _ => true
abbrev Store := List (Option Sv)

def SvR (K : PySem.W.Frag) (T : Ct) (pa : Nat → Addr) (G H : Hp) : Sv → V → Prop
  | .fr d, v => Rep K T G d v
  | .ow xs, v => ∃ a vs, v = .ref a ∧ G a = none ∧ H a = some (.lst vs) ∧ Reps K T G xs vs
  | .pr k xs, v => ∃ vs, v = .ref (pa k) ∧ G (pa k) = none ∧ H (pa k) = some (.lst vs) ∧ Reps K T G xs vs
  | .bo n fs, v => ∃ C ns dx vs, T n = some (C, ns) ∧ v = .ref (pa 0) ∧ G (pa 0) = none ∧ H (pa 0) = some (.ins C dx ((ns.take fs.length).zip vs)) ∧ Reps K T G fs vs
  | .ex a dd at_, v => v = .ref a ∧ match at_ with
    | none => dd = none
    | some (f, d) => ∃ p vv, dd = some p ∧ G p = some (.xd [(f, vv)]) ∧ Rep K T G d vv

structure En (K : PySem.W.Frag) (T : Ct) (pa : Nat → Addr) (G H : Hp) (σ : L2.St) (st : Store) : Prop where
  ex : Ex G H
  sl : ∀ (i : Nat) s, st[i]? = some (some s) → ∃ v, σ[i]? = some (some v) ∧ SvR K T pa G H s v
  ds : ∀ (i j : Nat) s t a, st[i]? = some (some s) → st[j]? = some (some t) → s.isOw = true → t.isOw = true → σ[i]? = some (some (.ref a)) → σ[j]? = some (some (.ref a)) → i = j
  len : σ.length = st.length

def own (σ : L2.St) (st : Store) (p : Addr) : Prop := ∃ (i : Nat) (s : Sv), st[i]? = some (some s) ∧ s.isOw = true ∧ σ[i]? = some (some (.ref p))

structure Gr (G H G' H' : Hp) (O O' : Addr → Prop) : Prop where
  ex : Ex G G'
  nw : ∀ p o, G' p = some o → G p = some o ∨ H p = none ∨ O p
  fr : ∀ p o, H p = some o → ¬ O p → H' p = some o
  al : ∀ p, H p ≠ none → H' p ≠ none
  ow : ∀ p, O' p → O p ∨ H p = none

theorem Gr.refl {O : Addr → Prop} : Gr G H G H O O := ⟨Ex.refl G, fun _ _ h => .inl h, fun _ _ h _ => h, fun _ h => h, fun _ h => .inl h⟩
theorem Gr.trans {O O1 O2 : Addr → Prop} (a : Gr G H G1 H1 O O1) (b : Gr G1 H1 G2 H2 O1 O2) : Gr G H G2 H2 O O2 where
  ex := a.ex.trans b.ex
  nw := fun p o h => by
    rcases b.nw p o h with h | h | h
    · exact a.nw p o h
    · exact .inr (.inl (by
        cases q : H p with
        | none => rfl
        | some u => exact absurd h (a.al p (by rw [q]; simp))))
    · rcases a.ow p h with h | h
      · exact .inr (.inr h)
      · exact .inr (.inl h)
  fr := fun p o h n => b.fr p o (a.fr p o h n) fun z => (a.ow p z).elim n fun q => by rw [h] at q; cases q
  al := fun p h => b.al p (a.al p h)
  ow := fun p h => by
    rcases b.ow p h with h | h
    · exact a.ow p h
    · exact .inr (by
        cases q : H p with
        | none => rfl
        | some u => exact absurd h (a.al p (by rw [q]; simp)))

/-- growth alone -/
structure Gw (G H G' H' : Hp) : Prop where
  ex : Ex G G'
  hx : Ex H H'
  gh : Ex G' H'
  nw : ∀ p o, G' p = some o → G p = some o ∨ H p = none
theorem Gw.refl (e : Ex G H) : Dv.Gw G H G H := ⟨Ex.refl G, Ex.refl H, e, fun _ _ h => .inl h⟩
theorem Gw.new (e : Ex G H) {p : Addr} {o : HO} (hp : H p = none) : Dv.Gw G H (upd G p o) (upd H p o) where
  ex := Ex.new (e.none hp)
  hx := Ex.new hp
  gh := fun a u h => by
    by_cases q : a = p
    · subst q; rw [upd_same] at h ⊢; exact h
    · rw [upd_ne q] at h ⊢; exact e a u h
  nw := fun a u h => by
    by_cases q : a = p
    · subst q; exact .inr hp
    · rw [upd_ne q] at h; exact .inl h
theorem Gw.gr {O : Addr → Prop} (g : Dv.Gw G H G' H') : Gr G H G' H' O O :=
  ⟨g.ex, fun p o h => (g.nw p o h).elim .inl fun z => .inr (.inl z), fun p o h _ => g.hx p o h, fun p h => by
    cases q : H p with
    | none => exact absurd q h
    | some u => rw [g.hx p u q]; simp, fun p h => .inl h⟩
theorem Gw.trans (a : Dv.Gw G H G1 H1) (b : Dv.Gw G1 H1 G2 H2) : Dv.Gw G H G2 H2 :=
  ⟨a.ex.trans b.ex, a.hx.trans b.hx, b.gh, fun p o h => by
    rcases b.nw p o h with h | h
    · exact a.nw p o h
    · exact .inr (a.hx.none h)⟩
theorem SvR.exE {pa : Nat → Addr} (e : Ex G G') {a : Addr} {dd : Option Addr} {at_ : Option (Str × Dt)} {v : V} (h : SvR K T pa G H (.ex a dd at_) v) : SvR K T pa G' H' (.ex a dd at_) v := by
  obtain ⟨h1, h2⟩ := h
  refine ⟨h1, ?_⟩
  cases at_ with
  | none => exact h2
  | some q =>
    obtain ⟨p, vv, e1, e2, e3⟩ := h2
    exact ⟨p, vv, e1, e _ _ e2, e3.ex e⟩
theorem SvR.g1 {pa : Nat → Addr} (g : Dv.Gw G H G' H') {s : Sv} {v : V} (h : SvR K T pa G H s v) : SvR K T pa G' H' s v := by
  cases s with
  | fr d => exact Rep.ex g.ex h
  | ex _ _ _ => exact SvR.exE g.ex h
  | ow xs =>
    obtain ⟨a, vs, e, n, l, r⟩ := h
    refine ⟨a, vs, e, ?_, g.hx _ _ l, r.ex g.ex⟩
    cases q : G' a with
    | none => rfl
    | some o =>
      rcases g.nw a o q with z | z
      · rw [n] at z; cases z
      · rw [l] at z; cases z
  | pr k xs =>
    obtain ⟨vs, e, n, l, r⟩ := h
    refine ⟨vs, e, ?_, g.hx _ _ l, r.ex g.ex⟩
    cases q : G' (pa k) with
    | none => rfl
    | some o =>
      rcases g.nw _ o q with z | z
      · rw [n] at z; cases z
      · rw [l] at z; cases z
  | bo m fs =>
    obtain ⟨C, ns, dx, vs, t, e, n, l, r⟩ := h
    refine ⟨C, ns, dx, vs, t, e, ?_, g.hx _ _ l, r.ex g.ex⟩
    cases q : G' (pa 0) with
    | none => rfl
    | some o =>
      rcases g.nw _ o q with z | z
      · rw [n] at z; cases z
      · rw [l] at z; cases z
theorem En.g1 {pa : Nat → Addr} {σ : L2.St} {st : Store} (E : En K T pa G H σ st) (g : Dv.Gw G H G' H') : En K T pa G' H' σ st :=
  ⟨g.gh, fun i s h => let ⟨v, a, b⟩ := E.sl i s h; ⟨v, a, b.g1 g⟩, E.ds, E.len⟩
end Dv
set_option autoImplicit true
set_option maxRecDepth 100000
namespace Dv
open PySem PySem.Spec PyProof.Rows L2

theorem pe_weak {X : Cx} {e : Expr} {t t' : TE} (h : PE X e t) (w : ∀ σ H Q, t' σ H Q → t σ H Q) : PE X e t' := ⟨fun pins s σ H Q I q => h.run pins s σ H Q I (w _ _ _ q)⟩
theorem pt_weak {X : Cx} {e : Expr} {t t' : TT} (h : PT X e t) (w : ∀ σ H Q, t' σ H Q → t σ H Q) : PT X e t' := ⟨fun pins s σ H Q I q => h.run pins s σ H Q I (w _ _ _ q)⟩
theorem pw_weak {X : Cx} {e : Expr} {t t' : TT} (h : PW X e t) (w : ∀ σ H Q, t' σ H Q → t σ H Q) : PW X e t' := ⟨fun wh pins s σ H Q I q => h.run wh pins s σ H Q I (w _ _ _ q)⟩
theorem pa_weak {X : Cx} {e : List Expr} {t t' : TA} (h : PA X e t) (w : ∀ σ H Q, t' σ H Q → t σ H Q) : PA X e t' := ⟨fun pos pins s σ H Q I q => h.run pos pins s σ H Q I (w _ _ _ q)⟩
theorem ps_weak {X : Cx} {e : Stmt} {t t' : TS} (h : PS X e t) (w : ∀ D σ H, t' D σ H → t D σ H) : PS X e t' := ⟨fun pins s σ H D I q => h.run pins s σ H D I (w _ _ _ q)⟩
theorem pss_weak {X : Cx} {e : List Stmt} {t t' : TS} (h : PSs X e t) (w : ∀ D σ H, t' D σ H → t D σ H) : PSs X e t' := ⟨fun pins s σ H D I q => h.run pins s σ H D I (w _ _ _ q)⟩
theorem pg_weak {X : Cx} {e : Expr} {t t' : TG} (h : PG X e t) (w : ∀ v σ H Q, t' v σ H Q → t v σ H Q) : PG X e t' := ⟨fun pins s σ H v u Q I r q => h.run pins s σ H v u Q I r (w _ _ _ _ q)⟩
theorem pi_weak {X : Cx} {tg e : Expr} {t t' : TI} (h : PI X tg e t) (w : ∀ σ H R, t' σ H R → t σ H R) : PI X tg e t' := ⟨fun pins s σ H R I q => h.run pins s σ H R I (w _ _ _ q)⟩

/-- the context of the readings: class table, the places of the lists handed in -/
structure Ctx where
  K : PySem.W.Frag
  T : Ct
  pa : Nat → Addr

/-! ### the readings -/
def tD (c : Ctx) (st : Store) (d : Dt) (st' : Store) : TE := fun σ H Q => ∃ G, En c.K c.T c.pa G H σ st ∧
  ∀ v G' H', Gr G H G' H' (own σ st) (own σ st') → En c.K c.T c.pa G' H' σ st' → Rep c.K c.T G' d v → Q v H'
def tB' (c : Ctx) (st : Store) (b : Bool) (st' : Store) : TT := fun σ H Q => ∃ G, En c.K c.T c.pa G H σ st ∧
  ∀ G' H', Gr G H G' H' (own σ st) (own σ st') → En c.K c.T c.pa G' H' σ st' → Q b H'
def tDs (c : Ctx) (st : Store) (ds : List Dt) (st' : Store) : TA := fun σ H Q => ∃ G, En c.K c.T c.pa G H σ st ∧
  ∀ vs G' H', Gr G H G' H' (own σ st) (own σ st') → En c.K c.T c.pa G' H' σ st' → Reps c.K c.T G' ds vs → Q vs H'

structure XD (c : Ctx) (X : Cx) (e : Expr) (st : Store) (d : Dt) (st' : Store) : Prop where
  pe : PE X e (tD c st d st')
structure XT (c : Ctx) (X : Cx) (e : Expr) (st : Store) (b : Bool) (st' : Store) : Prop where
  pt : PT X e (tB' c st b st')
structure XW (c : Ctx) (X : Cx) (e : Expr) (st : Store) (b : Bool) (st' : Store) : Prop where
  pw : PW X e (tB' c st b st')
structure XA (c : Ctx) (X : Cx) (es : List Expr) (st : Store) (ds : List Dt) (st' : Store) : Prop where
  pa : PA X es (tDs c st ds st')

variable {c : Ctx} {X : Cx} {st st1 st2 st3 st' : Store} {a b e : Expr} {es : List Expr} {d d1 d2 d' : Dt} {ds : List Dt} {pos : Pos}

/-- a value by values: what comes of an operation that only makes things -/
abbrev KV' (c : Ctx) (G H : Hp) (d : Dt) (Q : VK) : Prop := ∀ v G' H', Gw G H G' H' → Rep c.K c.T G' d v → Q v H'
def Op1 (c : Ctx) (d1 d : Dt) (r : V → Hp → VK → Prop) : Prop := ∀ (G H : Hp) (x : V) (Q : VK), Ex G H → Rep c.K c.T G d1 x → KV' c G H d Q → r x H Q
def Op2 (c : Ctx) (d1 d2 d : Dt) (r : R2) : Prop := ∀ (G H : Hp) (x y : V) (Q : VK), Ex G H → Rep c.K c.T G d1 x → Rep c.K c.T G d2 y → KV' c G H d Q → r x y H Q
def OpN (c : Ctx) (ds : List Dt) (d : Dt) (r : List V → Hp → VK → Prop) : Prop := ∀ (G H : Hp) (vs : List V) (Q : VK), Ex G H → Reps c.K c.T G ds vs → KV' c G H d Q → r vs H Q

theorem kv_same {G H : Hp} {Q : VK} {v : V} (k : KV' c G H d Q) (e : Ex G H) (r : Rep c.K c.T G d v) : Q v H := k v G H (Gw.refl e) r

/-! ### expressions -/
theorem xd_int {i j} : XD c X (.Constant (.int i) j pos) st (.int i) st := ⟨pe_weak pe_int fun σ H Q ⟨G, E, k⟩ => k _ G H Gr.refl E .int⟩
theorem xd_bl {i j} : XD c X (.Constant (.bool i) j pos) st (.bl i) st := ⟨pe_weak pe_bl fun σ H Q ⟨G, E, k⟩ => k _ G H Gr.refl E .bl⟩
theorem xd_non {j} : XD c X (.Constant .none j pos) st .non st := ⟨pe_weak pe_non fun σ H Q ⟨G, E, k⟩ => k _ G H Gr.refl E .non⟩
theorem xd_str {x j} : XD c X (.Constant (.str x) j pos) st (.str x) st := ⟨pe_weak pe_str fun σ H Q ⟨G, E, k⟩ => k _ G H Gr.refl E .str⟩
theorem xd_var (i : Nat) {x : Str} (hs : st[i]? = some (some (.fr d)) := by rfl) (hN : X.N[i]? = some x := by rfl) (hv : Vis X.env.scope x := by first | exact Or.inl rfl | exact Or.inr (Or.inl rfl) | exact Or.inr (Or.inr rfl)) (hd : (x == ("__debug__" : Str)) = false := by decide)
    (hcd : (x == ("__classdict__" : Str)) = false := by decide) : XD c X (.Name x pos) st d st := ⟨pe_weak (pe_var hN hv hd hcd) fun σ H Q ⟨G, E, k⟩ => by
  obtain ⟨v, h1, h2⟩ := E.sl i _ hs
  exact ⟨v, h1, k v G H Gr.refl E h2⟩⟩
theorem xd_glob {x : Str} {v : V} {u : Value} (hm : X.mg x = some u) (r : RelV v u) (rd : ∀ G, Rep c.K c.T G d v) (hg : Gl X x := by rfl) (hd : (x == ("__debug__" : Str)) = false := by decide) : XD c X (.Name x pos) st d st :=
  ⟨pe_weak (pe_glob hg hm r hd) fun σ H Q ⟨G, E, k⟩ => k v G H Gr.refl E (rd G)⟩

theorem xd_bin {op : Operator} {r : R2} (ha : XD c X a st d1 st1) (hb : XD c X b st1 d2 st2) (ho : OpR X (binaryOp op) r) (hv : Op2 c d1 d2 d r) : XD c X (.BinOp a op b pos) st d st2 :=
  ⟨pe_weak (pe_op ho ha.pe hb.pe) fun σ H Q ⟨G, E, k⟩ => ⟨G, E, fun x G1 H1 g1 E1 r1 => ⟨G1, E1, fun y G2 H2 g2 E2 r2 =>
    hv G2 H2 x y Q E2.ex (r1.ex g2.ex) r2 fun v G3 H3 g3 r3 => k v G3 H3 ((g1.trans g2).trans g3.gr) (E2.g1 g3) r3⟩⟩⟩
theorem xd_cmp {op : CmpOp} {r : R2} (ha : XD c X a st d1 st1) (hb : XD c X b st1 d2 st2) (ho : OpR X (compareOp op) r) (hv : Op2 c d1 d2 d r) (hm : behindInMarks op b = false) : XD c X (.Compare a [op] [b] pos) st d st2 :=
  ⟨pe_weak (pe_cmpR ho ha.pe hb.pe hm) fun σ H Q ⟨G, E, k⟩ => ⟨G, E, fun x G1 H1 g1 E1 r1 => ⟨G1, E1, fun y G2 H2 g2 E2 r2 =>
    hv G2 H2 x y Q E2.ex (r1.ex g2.ex) r2 fun v G3 H3 g3 r3 => k v G3 H3 ((g1.trans g2).trans g3.gr) (E2.g1 g3) r3⟩⟩⟩
theorem xt_cmp {op : CmpOp} {r : R2} {t : Bool} (ha : XD c X a st d1 st1) (hb : XD c X b st1 d2 st2) (ho : OpR X (compareOp op) r) (hv : Op2 c d1 d2 (.bl t) r) (hm : behindInMarks op b = false) : XT c X (.Compare a [op] [b] pos) st t st2 :=
  ⟨pt_weak (pt_cmpR ho ha.pe hb.pe hm) fun σ H Q ⟨G, E, k⟩ => ⟨G, E, fun x G1 H1 g1 E1 r1 => ⟨G1, E1, fun y G2 H2 g2 E2 r2 =>
    hv G2 H2 x y _ E2.ex (r1.ex g2.ex) r2 fun v G3 H3 g3 r3 => by cases r3; exact ⟨t, rfl, k G3 H3 ((g1.trans g2).trans g3.gr) (E2.g1 g3)⟩⟩⟩⟩
theorem xd_un {op : UnaryOp} {r : V → Hp → VK → Prop} (ha : XD c X a st d1 st1) (ho : UnR X (unaryOp op) r) (hv : Op1 c d1 d r) : XD c X (.UnaryOp op a pos) st d st1 :=
  ⟨pe_weak (pe_un ho ha.pe) fun σ H Q ⟨G, E, k⟩ => ⟨G, E, fun x G1 H1 g1 E1 r1 => hv G1 H1 x Q E1.ex r1 fun v G3 H3 g3 r3 => k v G3 H3 (g1.trans g3.gr) (E1.g1 g3) r3⟩⟩
theorem xd_ix {r : R2} (ha : XD c X a st d1 st1) (hb : XD c X b st1 d2 st2) (ho : IxR X r) (hv : Op2 c d1 d2 d r) (hs : PlainIx b) : XD c X (.Subscript a b pos) st d st2 :=
  ⟨pe_weak (pe_ix ho ha.pe hb.pe hs) fun σ H Q ⟨G, E, k⟩ => ⟨G, E, fun x G1 H1 g1 E1 r1 => ⟨G1, E1, fun y G2 H2 g2 E2 r2 =>
    hv G2 H2 x y Q E2.ex (r1.ex g2.ex) r2 fun v G3 H3 g3 r3 => k v G3 H3 ((g1.trans g2).trans g3.gr) (E2.g1 g3) r3⟩⟩⟩

theorem xt_val {t : Bool} (h : XD c X e st (.bl t) st1) (he : ∀ whole, isTrue e X.env whole = (do let v ← whole; standAt e.pos; holding [v] (truthy v)) := by intro _; rfl) : XT c X e st t st1 :=
  ⟨pt_weak (pt_val h.pe he) fun σ H Q ⟨G, E, k⟩ => ⟨G, E, fun x G1 H1 g1 E1 r1 => by cases r1; exact ⟨t, rfl, k G1 H1 g1 E1⟩⟩⟩
theorem xw_pt {t : Bool} (h : XW c X e st t st1) : XT c X e st t st1 := ⟨h.pw.pt⟩
theorem xt_not {t : Bool} (h : XT c X a st t st1) : XT c X (.UnaryOp .Not a pos) st (!t) st1 := ⟨pt_weak (pt_not h.pt) fun σ H Q h => h⟩
theorem xw_and1 {t : Bool} (h : XT c X a st t st1) : XW c X (.BoolOp .And [a] pos) st t st1 := ⟨pw_and1 h.pt⟩
theorem xw_or1 {t : Bool} (h : XT c X a st t st1) : XW c X (.BoolOp .Or [a] pos) st t st1 := ⟨pw_or1 h.pt⟩
theorem pw_never {X : Cx} {e : Expr} : PW X e (fun _ _ _ => False) := ⟨fun _ _ _ _ _ _ _ h => h.elim⟩
theorem pe_never {X : Cx} {e : Expr} : PE X e (fun _ _ _ => False) := ⟨fun _ _ _ _ _ _ h => h.elim⟩
theorem pss_never' {X : Cx} {e : List Stmt} : PSs X e (fun _ _ _ => False) := ⟨fun _ _ _ _ _ _ h => h.elim⟩
theorem xw_andT {rest : List Expr} {t : Bool} (h : XT c X a st true st1) (h2 : XW c X (.BoolOp .And (b :: rest) pos) st1 t st2) : XW c X (.BoolOp .And (a :: b :: rest) pos) st t st2 :=
  ⟨pw_weak (pw_and h.pt h2.pw) fun σ H Q ⟨G, E, k⟩ => ⟨G, E, fun G1 H1 g1 E1 => by refine L2.iteT ?_; exact ⟨G1, E1, fun G2 H2 g2 E2 => k G2 H2 (g1.trans g2) E2⟩⟩⟩
theorem xw_andF {rest : List Expr} (h : XT c X a st false st1) : XW c X (.BoolOp .And (a :: b :: rest) pos) st false st1 :=
  ⟨pw_weak (pw_and h.pt pw_never) fun σ H Q ⟨G, E, k⟩ => ⟨G, E, fun G1 H1 g1 E1 => by refine L2.iteF ?_; exact k G1 H1 g1 E1⟩⟩
theorem xw_orF {rest : List Expr} {t : Bool} (h : XT c X a st false st1) (h2 : XW c X (.BoolOp .Or (b :: rest) pos) st1 t st2) : XW c X (.BoolOp .Or (a :: b :: rest) pos) st t st2 :=
  ⟨pw_weak (pw_or h.pt h2.pw) fun σ H Q ⟨G, E, k⟩ => ⟨G, E, fun G1 H1 g1 E1 => by refine L2.iteF ?_; exact ⟨G1, E1, fun G2 H2 g2 E2 => k G2 H2 (g1.trans g2) E2⟩⟩⟩
theorem xw_orT {rest : List Expr} (h : XT c X a st true st1) : XW c X (.BoolOp .Or (a :: b :: rest) pos) st true st1 :=
  ⟨pw_weak (pw_or h.pt pw_never) fun σ H Q ⟨G, E, k⟩ => ⟨G, E, fun G1 H1 g1 E1 => by refine L2.iteT ?_; exact k G1 H1 g1 E1⟩⟩
/-- and, or whose tests leave the store as it is -/
theorem xw_and {rest : List Expr} {t u : Bool} (h : XT c X a st t st) (h2 : t = true → XW c X (.BoolOp .And (b :: rest) pos) st u st) : XW c X (.BoolOp .And (a :: b :: rest) pos) st (t && u) st := by
  cases t with
  | true => exact xw_andT h (h2 rfl)
  | false => exact xw_andF h
theorem xw_or {rest : List Expr} {t u : Bool} (h : XT c X a st t st) (h2 : t = false → XW c X (.BoolOp .Or (b :: rest) pos) st u st) : XW c X (.BoolOp .Or (a :: b :: rest) pos) st (t || u) st := by
  cases t with
  | true => exact xw_orT h
  | false => exact xw_orF h (h2 rfl)
/-- and, or as values -/
theorem xd_one {op} (h : XD c X a st d st1) : XD c X (.BoolOp op [a] pos) st d st1 := ⟨pe_one h.pe⟩
theorem xd_and {rest : List Expr} {t u : Bool} (h : XD c X a st (.bl t) st) (h2 : t = true → XD c X (.BoolOp .And (b :: rest) pos) st (.bl u) st) : XD c X (.BoolOp .And (a :: b :: rest) pos) st (.bl (t && u)) st := by
  cases t with
  | true => exact ⟨pe_weak (pe_and h.pe (h2 rfl).pe) fun σ H Q ⟨G, E, k⟩ => ⟨G, E, fun v G1 H1 g1 E1 r1 => by cases r1; exact ⟨true, rfl, by refine L2.iteT ?_; exact ⟨G1, E1, fun v G2 H2 g2 E2 r2 => k v G2 H2 (g1.trans g2) E2 r2⟩⟩⟩⟩
  | false => exact ⟨pe_weak (pe_and h.pe pe_never) fun σ H Q ⟨G, E, k⟩ => ⟨G, E, fun v G1 H1 g1 E1 r1 => by cases r1; exact ⟨false, rfl, by refine L2.iteF ?_; exact k _ G1 H1 g1 E1 .bl⟩⟩⟩
theorem xd_or {rest : List Expr} {t u : Bool} (h : XD c X a st (.bl t) st) (h2 : t = false → XD c X (.BoolOp .Or (b :: rest) pos) st (.bl u) st) : XD c X (.BoolOp .Or (a :: b :: rest) pos) st (.bl (t || u)) st := by
  cases t with
  | true => exact ⟨pe_weak (pe_or h.pe pe_never) fun σ H Q ⟨G, E, k⟩ => ⟨G, E, fun v G1 H1 g1 E1 r1 => by cases r1; exact ⟨true, rfl, by refine L2.iteT ?_; exact k _ G1 H1 g1 E1 .bl⟩⟩⟩
  | false => exact ⟨pe_weak (pe_or h.pe (h2 rfl).pe) fun σ H Q ⟨G, E, k⟩ => ⟨G, E, fun v G1 H1 g1 E1 r1 => by cases r1; exact ⟨false, rfl, by refine L2.iteF ?_; exact ⟨G1, E1, fun v G2 H2 g2 E2 r2 => k v G2 H2 (g1.trans g2) E2 r2⟩⟩⟩⟩
theorem xd_not {t : Bool} (h : XD c X a st (.bl t) st1) : XD c X (.UnaryOp .Not a pos) st (.bl (!t)) st1 :=
  ⟨pe_weak (pe_not h.pe) fun σ H Q ⟨G, E, k⟩ => ⟨G, E, fun v G1 H1 g1 E1 r1 => by cases r1; exact ⟨t, rfl, k _ G1 H1 g1 E1 .bl⟩⟩⟩
theorem xd_if {t : Expr} {tb : Bool} (h : XT c X t st tb st1) (h1 : tb = true → XD c X a st1 d st2) (h2 : tb = false → XD c X b st1 d st2) : XD c X (.IfExp t a b pos) st d st2 := by
  cases tb with
  | true => exact ⟨pe_weak (pe_ifExp h.pt (h1 rfl).pe pe_never) fun σ H Q ⟨G, E, k⟩ => ⟨G, E, fun G1 H1 g1 E1 => by refine L2.iteT ?_; exact ⟨G1, E1, fun v G2 H2 g2 E2 r2 => k v G2 H2 (g1.trans g2) E2 r2⟩⟩⟩
  | false => exact ⟨pe_weak (pe_ifExp h.pt pe_never (h2 rfl).pe) fun σ H Q ⟨G, E, k⟩ => ⟨G, E, fun G1 H1 g1 E1 => by refine L2.iteF ?_; exact ⟨G1, E1, fun v G2 H2 g2 E2 r2 => k v G2 H2 (g1.trans g2) E2 r2⟩⟩⟩
theorem xa_nil : XA c X [] st [] st := ⟨pa_weak pa_nil fun σ H Q ⟨G, E, k⟩ => k [] G H Gr.refl E .nil⟩
theorem xa_cons (h : XD c X e st d st1) (h2 : XA c X es st1 ds st2) (hs : starEach (e :: es) X.env = (false, eval e X.env) :: starEach es X.env := by rfl) : XA c X (e :: es) st (d :: ds) st2 :=
  ⟨pa_weak (pa_cons h.pe h2.pa hs) fun σ H Q ⟨G, E, k⟩ => ⟨G, E, fun v G1 H1 g1 E1 r1 => ⟨G1, E1, fun vs G2 H2 g2 E2 r2 => k (v :: vs) G2 H2 (g1.trans g2) E2 (.cons (r1.ex g2.ex) r2)⟩⟩⟩
theorem xd_tup {x1} (h : XA c X es st ds st1) (hl : ds.length ≤ 100000) : XD c X (.Tuple es x1 pos) st (.tup ds) st1 :=
  ⟨pe_weak (pe_tup h.pa) fun σ H Q ⟨G, E, k⟩ => ⟨G, E, fun vs G1 H1 g1 E1 r1 => ⟨by rw [← r1.length]; exact Nat.le_trans hl (by decide), fun p hp => k _ _ _ (g1.trans (Gw.new E1.ex hp).gr) (E1.g1 (Gw.new E1.ex hp)) (.tup (SqT.of upd_same) (r1.ex (Gw.new (o := .tup vs) E1.ex hp).ex))⟩⟩⟩
theorem xd_lst (h : XA c X es st ds st1) (hl : ds.length ≤ 100000) : XD c X (.List es pos) st (.lst ds) st1 :=
  ⟨pe_weak (pe_lst h.pa) fun σ H Q ⟨G, E, k⟩ => ⟨G, E, fun vs G1 H1 g1 E1 r1 => ⟨by rw [← r1.length]; exact Nat.le_trans hl (by decide), fun p hp => k _ _ _ (g1.trans (Gw.new E1.ex hp).gr) (E1.g1 (Gw.new E1.ex hp)) (.lst upd_same (r1.ex (Gw.new (o := .lst vs) E1.ex hp).ex))⟩⟩⟩
/-- a built-in's call by its name, by values -/
theorem xd_callB {x : Str} {p : Pos} {id : String} {r : List V → Hp → VK → Prop} (h : XA c X (e :: es) st ds st1) (hc : CallR X (.builtin id) r) (hv : OpN c ds d r) (hm : X.mg x = none) (hb : bootBuiltins x = some (.builtin id)) (hg : Gl X x := by rfl)
    (hn : x ≠ "__name__" := by decide) (hdb : (x == ("__debug__" : Str)) = false := by decide)
    (he : starEach (e :: es) X.env = (false, eval e X.env) :: starEach es X.env := by rfl) (hpl : (backTo pos (starEach es X.env)).any (·.1) = false := by rfl) : XD c X (.Call (.Name x p) (e :: es) [] pos) st d st1 :=
  ⟨pe_weak (pe_callB hc hg hm hb h.pa hn hdb he hpl) fun σ H Q ⟨G, E, k⟩ => ⟨G, E, fun vs G1 H1 g1 E1 r1 => hv G1 H1 vs Q E1.ex r1 fun v G3 H3 g3 r3 => k v G3 H3 (g1.trans g3.gr) (E1.g1 g3) r3⟩⟩
theorem xd_callTy {x : Str} {p : Pos} {id : String} {r : List V → Hp → VK → Prop} (h : XA c X (e :: es) st ds st1) (hc : CallR X (.type id) r) (hv : OpN c ds d r) (hm : X.mg x = none) (hb : bootBuiltins x = some (.type id)) (hg : Gl X x := by rfl)
    (hn : x ≠ "__name__" := by decide) (hdb : (x == ("__debug__" : Str)) = false := by decide)
    (he : starEach (e :: es) X.env = (false, eval e X.env) :: starEach es X.env := by rfl) (hpl : (backTo pos (starEach es X.env)).any (·.1) = false := by rfl) : XD c X (.Call (.Name x p) (e :: es) [] pos) st d st1 :=
  ⟨pe_weak (pe_callTy hc hg hm hb h.pa hn hdb he hpl) fun σ H Q ⟨G, E, k⟩ => ⟨G, E, fun vs G1 H1 g1 E1 r1 => hv G1 H1 vs Q E1.ex r1 fun v G3 H3 g3 r3 => k v G3 H3 (g1.trans g3.gr) (E1.g1 g3) r3⟩⟩

/-! ### operations by values -/
section ops
variable {i j : Int} {x y : Str}
theorem o_I0 {g : Int → Int → Int} : Op2 c (.int i) (.int j) (.int (g i j)) (rI0 fun i j => .int (g i j)) := fun G H v u Q e r1 r2 k => by
  cases r1; cases r2; exact ⟨i, j, rfl, rfl, kv_same k e .int⟩
theorem o_I {C : Int → Int → Prop} {g : Int → Int → Int} (hc : C i j) : Op2 c (.int i) (.int j) (.int (g i j)) (rI C fun i j => .int (g i j)) := fun G H v u Q e r1 r2 k => by
  cases r1; cases r2; exact ⟨i, j, rfl, rfl, hc, kv_same k e .int⟩
theorem o_B0 {g : Int → Int → Bool} : Op2 c (.int i) (.int j) (.bl (g i j)) (rI0 fun i j => .bl (g i j)) := fun G H v u Q e r1 r2 k => by
  cases r1; cases r2; exact ⟨i, j, rfl, rfl, kv_same k e .bl⟩
theorem o_neg : Op1 c (.int i) (.int (-i)) (rU fun i => .int (-i)) := fun G H v Q e r1 k => by
  cases r1; exact ⟨i, rfl, kv_same k e .int⟩
end ops
end Dv
set_option autoImplicit true
set_option maxRecDepth 100000
namespace Dv
open PySem PySem.Spec PyProof.Rows L2

variable {c : Ctx} {X : Cx} {st st1 st2 st3 st' : Store} {a b e : Expr} {es : List Expr} {d d1 d2 d' : Dt} {ds xs ys : List Dt} {pos : Pos} {G G' H H' : Hp} {σ σ' : L2.St} {v : V} {i j : Nat}

/-! ### stores that change -/
theorem set_cases {α : Type} {l : List α} {i j : Nat} {x y : α} (h : (l.set i x)[j]? = some y) : (j = i ∧ x = y ∧ i < l.length) ∨ (j ≠ i ∧ l[j]? = some y) := by
  by_cases q : j = i
  · subst q
    rw [List.getElem?_set] at h
    by_cases z : j < l.length
    · rw [if_pos rfl, if_pos z] at h; exact .inl ⟨rfl, Option.some.inj h, z⟩
    · rw [if_pos rfl, if_neg z] at h; cases h
  · rw [List.getElem?_set_ne (Ne.symm q)] at h
    exact .inr ⟨q, h⟩
theorem En.setFr (E : En c.K c.T c.pa G H σ st) (r : Rep c.K c.T G d v) (i : Nat) : En c.K c.T c.pa G H (σ.set i (some v)) (st.set i (some (.fr d))) where
  ex := E.ex
  sl := fun j s h => by
    rcases set_cases h with ⟨rfl, e, z⟩ | ⟨n, h⟩
    · cases e
      exact ⟨v, by rw [List.getElem?_set_self (by rw [E.len]; exact z)], r⟩
    · obtain ⟨w, h1, h2⟩ := E.sl j s h
      exact ⟨w, by rw [List.getElem?_set_ne (Ne.symm n)]; exact h1, h2⟩
  ds := fun j k s t p h1 h2 o1 o2 h3 h4 => by
    rcases set_cases h1 with ⟨rfl, e, z⟩ | ⟨n, h1⟩
    · cases e; cases o1
    · rcases set_cases h2 with ⟨rfl, e, z⟩ | ⟨n', h2⟩
      · cases e; cases o2
      · rw [List.getElem?_set_ne (Ne.symm n)] at h3
        rw [List.getElem?_set_ne (Ne.symm n')] at h4
        exact E.ds j k s t p h1 h2 o1 o2 h3 h4
  len := by rw [List.length_set, List.length_set, E.len]
theorem own_setFr {p : Addr} (h : own (σ.set i (some v)) (st.set i (some (.fr d))) p) : own σ st p := by
  obtain ⟨j, s, h1, h2, h3⟩ := h
  rcases set_cases h1 with ⟨rfl, e, z⟩ | ⟨n, h1⟩
  · cases e; cases h2
  · rw [List.getElem?_set_ne (Ne.symm n)] at h3
    exact ⟨j, s, h1, h2, h3⟩
theorem Gr.weakO {O O' O'' : Addr → Prop} (g : Gr G H G' H' O O') (h : ∀ p, O'' p → O' p) : Gr G H G' H' O O'' := ⟨g.ex, g.nw, g.fr, g.al, fun p q => g.ow p (h p q)⟩

/-! ### statements -/
inductive Out where
  | nx (st : Store) | rt (d : Dt) (st : Store) | bk (st : Store) | ct (st : Store) | rl (xs : List Dt) | rq (ds : List Dt) (j : Nat) (st : Store)
def OutK (c : Ctx) (D : Ends) (G H : Hp) (O : Addr → Prop) : Out → Prop
  | .nx st' => ∀ σ' G' H', Gr G H G' H' O (own σ' st') → En c.K c.T c.pa G' H' σ' st' → D.nx σ' H'
  | .bk st' => ∀ σ' G' H', Gr G H G' H' O (own σ' st') → En c.K c.T c.pa G' H' σ' st' → D.bk σ' H'
  | .ct st' => ∀ σ' G' H', Gr G H G' H' O (own σ' st') → En c.K c.T c.pa G' H' σ' st' → D.ct σ' H'
  | .rt d st' => ∀ v σ' G' H', Gr G H G' H' O (own σ' st') → En c.K c.T c.pa G' H' σ' st' → Rep c.K c.T G' d v → D.rt v H'
  | .rl xs => ∀ p ws G' H', Gr G H G' H' O (fun _ => False) → Ex G' H' → (H p = none ∨ O p) → G' p = none → H' p = some (.lst ws) → Reps c.K c.T G' xs ws → D.rt (.ref p) H'
  | .rq ds j st' => ∀ t b vs σ' G' H', Gr G H G' H' O (own σ' st') → En c.K c.T c.pa G' H' σ' st' → Reps c.K c.T G' ds vs → σ'[j]? = some (some (.ref b)) → G' t = none → ¬ own σ' st' t → H' t = some (.tup (vs ++ [.ref b])) → D.rt (.ref t) H'
theorem OutK.from {D : Ends} {G H G1 H1 : Hp} {O O1 : Addr → Prop} {o : Out} (k : OutK c D G H O o) (g : Gr G H G1 H1 O O1) : OutK c D G1 H1 O1 o := by
  cases o with
  | nx s => exact fun σ' G' H' g' E => k σ' G' H' (g.trans g') E
  | bk s => exact fun σ' G' H' g' E => k σ' G' H' (g.trans g') E
  | ct s => exact fun σ' G' H' g' E => k σ' G' H' (g.trans g') E
  | rt d s => exact fun v σ' G' H' g' E r => k v σ' G' H' (g.trans g') E r
  | rq ds j s => exact fun t b vs σ' G' H' g' E r1 r2 r3 r4 r5 => k t b vs σ' G' H' (g.trans g') E r1 r2 r3 r4 r5
  | rl xs => exact fun p ws G' H' g' e hp hn hl r => k p ws G' H' (g.trans g') e (hp.elim (fun z => .inl (by
      cases q : H p with
      | none => rfl
      | some u => exact absurd z (g.al p (by rw [q]; simp)))) fun z => (g.ow p z).elim .inr .inl) hn hl r
def tO (c : Ctx) (st : Store) (o : Out) : TS := fun D σ H => ∃ G, En c.K c.T c.pa G H σ st ∧ OutK c D G H (own σ st) o
structure XP (c : Ctx) (X : Cx) (s : Stmt) (st : Store) (o : Out) : Prop where
  ps : PS X s (tO c st o)
structure XS (c : Ctx) (X : Cx) (s : List Stmt) (st : Store) (o : Out) : Prop where
  pss : PSs X s (tO c st o)
variable {s : Stmt} {rest body orelse : List Stmt} {o : Out}
theorem xs_nil : XS c X [] st (.nx st) := ⟨pss_weak pss_nil fun D σ H ⟨G, E, k⟩ => k σ G H Gr.refl E⟩
theorem xs_cons (h1 : XP c X s st (.nx st1)) (h2 : XS c X rest st1 o) : XS c X (s :: rest) st o :=
  ⟨pss_weak (pss_cons h1.ps h2.pss) fun D σ H ⟨G, E, k⟩ => ⟨G, E, fun σ1 G1 H1 g1 E1 => ⟨G1, E1, k.from g1⟩⟩⟩
theorem xs_one (h1 : XP c X s st o) : XS c X [s] st o := ⟨pss_one h1.ps⟩
theorem xs_ret (h1 : XP c X s st (.rt d st')) : XS c X (s :: rest) st (.rt d st') :=
  ⟨pss_weak (pss_cons h1.ps pss_never') fun D σ H ⟨G, E, k⟩ => ⟨G, E, k⟩⟩
theorem xs_bk (h1 : XP c X s st (.bk st')) : XS c X (s :: rest) st (.bk st') :=
  ⟨pss_weak (pss_cons h1.ps pss_never') fun D σ H ⟨G, E, k⟩ => ⟨G, E, k⟩⟩
theorem xs_ct (h1 : XP c X s st (.ct st')) : XS c X (s :: rest) st (.ct st') :=
  ⟨pss_weak (pss_cons h1.ps pss_never') fun D σ H ⟨G, E, k⟩ => ⟨G, E, k⟩⟩
theorem xs_rl (h1 : XP c X s st (.rl xs)) : XS c X (s :: rest) st (.rl xs) :=
  ⟨pss_weak (pss_cons h1.ps pss_never') fun D σ H ⟨G, E, k⟩ => ⟨G, E, k⟩⟩
theorem xs_rq {j : Nat} (h1 : XP c X s st (.rq ds j st')) : XS c X (s :: rest) st (.rq ds j st') :=
  ⟨pss_weak (pss_cons h1.ps pss_never') fun D σ H ⟨G, E, k⟩ => ⟨G, E, k⟩⟩
theorem xp_pass : XP c X (.Pass pos) st (.nx st) := ⟨ps_weak ps_pass fun D σ H ⟨G, E, k⟩ => k σ G H Gr.refl E⟩
theorem xp_break : XP c X (.Break pos) st (.bk st) := ⟨ps_weak ps_break fun D σ H ⟨G, E, k⟩ => k σ G H Gr.refl E⟩
theorem xp_continue : XP c X (.Continue pos) st (.ct st) := ⟨ps_weak ps_continue fun D σ H ⟨G, E, k⟩ => k σ G H Gr.refl E⟩
theorem xp_ret (h : XD c X e st d st1) : XP c X (.Return (some e) pos) st (.rt d st1) :=
  ⟨ps_weak (ps_ret h.pe) fun D σ H ⟨G, E, k⟩ => ⟨G, E, fun v G1 H1 g1 E1 r1 => k v σ G1 H1 g1 E1 r1⟩⟩
theorem xp_retN : XP c X (.Return none pos) st (.rt .non st) := ⟨ps_weak ps_retN fun D σ H ⟨G, E, k⟩ => k .non σ G H Gr.refl E .non⟩
theorem xp_expr (h : XD c X e st d st1) (hs : swapsWith e none pos.line X.env = pure false := by rfl) : XP c X (.Expr e pos) st (.nx st1) :=
  ⟨ps_weak (ps_expr h.pe hs) fun D σ H ⟨G, E, k⟩ => ⟨G, E, fun v G1 H1 g1 E1 r1 => k σ G1 H1 g1 E1⟩⟩
theorem xp_if {t : Expr} {tb : Bool} {A B : List Stmt} (h : XT c X t st tb st1) (h1 : tb = true → XS c X A st1 o) (h2 : tb = false → XS c X B st1 o) : XP c X (.If t A B pos) st o := by
  cases tb with
  | true => exact ⟨ps_weak (ps_if h.pt (h1 rfl).pss pss_never') fun D σ H ⟨G, E, k⟩ => ⟨G, E, fun G1 H1 g1 E1 => by refine L2.iteT ?_; exact ⟨G1, E1, k.from g1⟩⟩⟩
  | false => exact ⟨ps_weak (ps_if h.pt pss_never' (h2 rfl).pss) fun D σ H ⟨G, E, k⟩ => ⟨G, E, fun G1 H1 g1 E1 => by refine L2.iteF ?_; exact ⟨G1, E1, k.from g1⟩⟩⟩

/-! ### targets -/
def gD (c : Ctx) (d : Dt) (st st' : Store) : TG := fun v σ H Q => ∃ G, En c.K c.T c.pa G H σ st ∧ Rep c.K c.T G d v ∧ ∀ σ' G' H', Gr G H G' H' (own σ st) (own σ' st') → En c.K c.T c.pa G' H' σ' st' → Q σ' H'
def gDs (c : Ctx) (ds : List Dt) (st st' : Store) : TGs := fun vs σ H Q => ∃ G, En c.K c.T c.pa G H σ st ∧ Reps c.K c.T G ds vs ∧ ∀ σ' G' H', Gr G H G' H' (own σ st) (own σ' st') → En c.K c.T c.pa G' H' σ' st' → Q σ' H'
structure XG (c : Ctx) (X : Cx) (tg : Expr) (d : Dt) (st st' : Store) : Prop where
  pg : PG X tg (gD c d st st')
structure XGs (c : Ctx) (X : Cx) (tg : List Expr) (ds : List Dt) (st st' : Store) : Prop where
  pgs : PGs X tg (gDs c ds st st')
theorem xg_name (i : Nat) {x : Str} (hN : X.N.Nodup) (hi : X.N[i]? = some x := by rfl) (hx : Loc X.env.scope x := by first | exact Or.inl rfl | exact Or.inr rfl) (hf : X.fn x = true ∨ X.env.scope.names.lookup x = some .local := by first | exact .inl rfl | exact .inr rfl | assumption) :
    XG c X (.Name x pos) d st (st.set i (some (.fr d))) := ⟨pg_weak (pg_name hN hi hx hf) fun v σ H Q ⟨G, E, r, k⟩ => k _ G H (Gr.refl.weakO fun p h => own_setFr h) (E.setFr r i)⟩
theorem pgs_weak {X : Cx} {e : List Expr} {t t' : TGs} (h : PGs X e t) (w : ∀ v σ H Q, t' v σ H Q → t v σ H Q) : PGs X e t' := ⟨fun pins s σ H v u Q I r q => h.run pins s σ H v u Q I r (w _ _ _ _ q)⟩
theorem xgs_nil : XGs c X [] [] st st := ⟨pgs_weak pgs_nil fun v σ H Q ⟨G, E, r, k⟩ => by cases r; exact ⟨rfl, k _ G H Gr.refl E⟩⟩
theorem xgs_cons (h : XG c X e d st st1) (h2 : XGs c X es ds st1 st2) (hs : (assignEach (e :: es) X.env).map (·.2) = assign e X.env :: (assignEach es X.env).map (·.2) := by rfl) : XGs c X (e :: es) (d :: ds) st st2 :=
  ⟨pgs_weak (pgs_cons h.pg h2.pgs hs) fun v σ H Q ⟨G, E, r, k⟩ => by
    cases r with
    | cons r rs => exact ⟨_, _, rfl, G, E, r, fun σ1 G1 H1 g1 E1 => ⟨G1, E1, rs.ex g1.ex, fun σ2 G2 H2 g2 E2 => k σ2 G2 H2 (g1.trans g2) E2⟩⟩⟩
theorem Rep.tup_inv {K : PySem.W.Frag} {T : Ct} {xs : List Dt} {v : V} (r : Rep K T G (.tup xs) v) : ∃ a vs, v = .ref a ∧ SqT K G a vs ∧ Reps K T G xs vs := by
  cases r with
  | tup h r => exact ⟨_, _, rfl, h, r⟩
theorem Rep.ro_inv {K : PySem.W.Frag} {T : Ct} {xs : List Dt} {v : V} (r : Rep K T G (.ro xs) v) : ∃ a vs, v = .ref a ∧ SqL K G a vs ∧ Reps K T G xs vs := by
  cases r with
  | ro h r => exact ⟨_, _, rfl, h, r⟩
theorem Rep.lst_inv {K : PySem.W.Frag} {T : Ct} {xs : List Dt} {v : V} (r : Rep K T G (.lst xs) v) : ∃ a vs, v = .ref a ∧ G a = some (.lst vs) ∧ Reps K T G xs vs := by
  cases r with
  | lst h r => exact ⟨_, _, rfl, h, r⟩
theorem Rep.obj_inv {K : PySem.W.Frag} {T : Ct} {n : Nat} {fs : List Dt} {v : V} (r : Rep K T G (.obj n fs) v) : ∃ C ns a dx vs, v = .ref a ∧ T n = some (C, ns) ∧ G a = some (.ins C dx (ns.zip vs)) ∧ ns.length = vs.length ∧ Reps K T G fs vs := by
  cases r with
  | obj h1 h2 h3 r => exact ⟨_, _, _, _, _, rfl, h1, h2, h3, r⟩
theorem xg_tup {k : Nat} {n : Nat} (hK : X.K = c.K) (hc : X.calm = true) (h : XGs c X es ds st st1) (hl : ds.length = n)
    (hn : (assignEach es X.env).length = n := by rfl) (hst : (assignEach es X.env).findIdx? (·.1) = none := by rfl) : XG c X (.Tuple es k pos) (.tup ds) st st1 :=
  ⟨pg_weak (pg_tup hc h.pgs hn hst) fun v σ H Q ⟨G, E, r, k⟩ => by
    obtain ⟨a, vs, rfl, h1, h2⟩ := r.tup_inv
    exact ⟨a, vs, rfl, by rw [hK]; exact E.ex.st h1, by rw [← h2.length]; exact hl, G, E, h2, k⟩⟩
theorem xp_asg {tg : Expr} (he : XD c X e st d st1) (hg : XG c X tg d st1 st2) (hs : swapsWithSole [tg] e pos.line X.env = pure false := by rfl) (hw : swappedStores [tg] e X.env = pure none := by rfl)
    (h1 : (assignEach [tg] X.env).map (·.2) = [assign tg X.env] := by rfl) : XP c X (.Assign [tg] e pos) st (.nx st2) :=
  ⟨ps_weak (ps_asg he.pe hg.pg hs hw h1) fun D σ H ⟨G, E, k⟩ => ⟨G, E, fun v G1 H1 g1 E1 r1 => ⟨G1, E1, r1, fun σ2 G2 H2 g2 E2 => k σ2 G2 H2 (g1.trans g2) E2⟩⟩⟩
theorem xp_set (i : Nat) {x : Str} {pos' : Pos} (hN : X.N.Nodup) (he : XD c X e st d st1) (hi : X.N[i]? = some x := by rfl) (hx : Loc X.env.scope x := by first | exact Or.inl rfl | exact Or.inr rfl) (hs : swapsWith e (some (.Name x pos')) pos.line X.env = pure false := by rfl)
    (hf : X.fn x = true ∨ X.env.scope.names.lookup x = some .local := by first | exact .inl rfl | exact .inr rfl | assumption) : XP c X (.Assign [.Name x pos'] e pos) st (.nx (st1.set i (some (.fr d)))) :=
  ⟨ps_weak (ps_set hN hi hx he.pe hs hf) fun D σ H ⟨G, E, k⟩ => ⟨G, E, fun v G1 H1 g1 E1 r1 => k _ G1 H1 (g1.weakO fun p h => own_setFr h) (E1.setFr r1 i)⟩⟩
/-- a, b = x, y -/
theorem xp_par (i j : Nat) {x y : Str} {px py pt : Pos} {kt k2 pt2} (hN : X.N.Nodup) (hc : X.calm = true) (ha : XA c X [a, b] st [d1, d2] st1) (hij : i ≠ j) (hi : X.N[i]? = some x := by rfl) (hj : X.N[j]? = some y := by rfl)
    (hx : X.env.scope.names.lookup x = some .local := by rfl) (hy : X.env.scope.names.lookup y = some .local := by rfl)
    (hw : swappedStores [.Tuple [.Name x px, .Name y py] kt pt] (.Tuple [a, b] k2 pt2) X.env = pure (some [x, y]) := by rfl)
    (hs : swapsWithSole [.Tuple [.Name x px, .Name y py] kt pt] (.Tuple [a, b] k2 pt2) pos.line X.env = pure false := by rfl) :
    XP c X (.Assign [.Tuple [.Name x px, .Name y py] kt pt] (.Tuple [a, b] k2 pt2) pos) st (.nx ((st1.set i (some (.fr d1))).set j (some (.fr d2)))) :=
  ⟨ps_weak (ps_par hc hN hi hj hij hx hy ha.pa hw hs) fun D σ H ⟨G, E, k⟩ => ⟨G, E, fun vs G1 H1 g1 E1 r1 => by
    cases r1 with
    | cons r r1 =>
      cases r1 with
      | cons r' r1 =>
        cases r1
        exact ⟨_, _, rfl, k _ G1 H1 (g1.weakO fun p h => own_setFr (own_setFr h)) ((E1.setFr r i).setFr r' j)⟩⟩⟩

/-! ### what a def promises: data in, data out -/
def spD (K : PySem.W.Frag) (T : Ct) (R : List Dt → Dt → Prop) : Sp := fun vs H Q _ => ∃ G ds r, Ex G H ∧ Reps K T G ds vs ∧ R ds r ∧
  ∀ v G' H', Gr G H G' H' (fun _ => False) (fun _ => False) → Ex G' H' → Rep K T G' r v → Q v H'
theorem xd_call {CX : CXT} {k : Nat} {f : Addr} {fd : FuncData} {ps : List Str} {R : List Dt → Dt → Prop} {x : Str} {p : Pos} {dds : List Dt} {dvs : List V} {dus : List Value}
    (F : FnOk X.prog X.w X.K X.mg X.base CX k f fd ps (spD c.K c.T R)) (hr : Room k X.A) (hm : X.mg x = some (.ref f)) (hk : PySem.W.keepIn X.K (.ref f) = true) (hb : Binds X.K fd ps dus) (hd : Vals dvs dus) (hdd : ∀ G, Reps c.K c.T G dds dvs)
    {E : XK} (hx : Passes CX X E) (h : XA c X (e :: es) st ds st1) (hR : R (ds ++ dds) d) (hg : Gl X x := by rfl) (hdb : (x == ("__debug__" : Str)) = false := by decide) (he : starEach (e :: es) X.env = (false, eval e X.env) :: starEach es X.env := by rfl) (hpl : (backTo pos (starEach es X.env)).any (·.1) = false := by rfl) :
    XD c X (.Call (.Name x p) (e :: es) [] pos) st d st1 :=
  ⟨pe_weak (pe_call F hr hg hm hk hb hd hx h.pa hdb he hpl) fun σ H Q ⟨G, E, k⟩ => ⟨G, E, fun vs G1 H1 g1 E1 r1 => ⟨G1, ds ++ dds, d, E1.ex, r1.app (hdd G1), hR, fun v G2 H2 g2 e2 r2 => by
    have w : Gw G1 H1 G2 H2 := ⟨g2.ex, fun p o h => g2.fr p o h id, e2, fun p o h => (g2.nw p o h).elim .inl fun z => z.elim .inr False.elim⟩
    exact k v G2 H2 (g1.trans w.gr) (E1.g1 w) r2⟩⟩⟩
theorem xd_call0 {CX : CXT} {k : Nat} {f : Addr} {fd : FuncData} {ps : List Str} {R : List Dt → Dt → Prop} {x : Str} {p : Pos}
    (F : FnOk X.prog X.w X.K X.mg X.base CX k f fd ps (spD c.K c.T R)) (hr : Room k X.A) (hm : X.mg x = some (.ref f)) (hk : PySem.W.keepIn X.K (.ref f) = true) (hb : Binds X.K fd ps [])
    {E : XK} (hx : Passes CX X E) (hR : R [] d) (hg : Gl X x := by rfl) (hdb : (x == ("__debug__" : Str)) = false := by decide) :
    XD c X (.Call (.Name x p) [] [] pos) st d st :=
  ⟨pe_weak (pe_call0 F hr hg hm hk hb .nil hx hdb) fun σ H Q ⟨G, E, k⟩ => ⟨G, [], d, E.ex, .nil, hR, fun v G2 H2 g2 e2 r2 => by
    have w : Gw G H G2 H2 := ⟨g2.ex, fun p o h => g2.fr p o h id, e2, fun p o h => (g2.nw p o h).elim .inl fun z => z.elim .inr False.elim⟩
    exact k v G2 H2 w.gr (E.g1 w) r2⟩⟩

/-- a def's store at its entry -/
def st0 (N : List Str) (ds : List Dt) : Store := ds.map (fun d => some (.fr d)) ++ List.replicate (N.length - ds.length) none
theorem En.start {N : List Str} {ds : List Dt} {vs : List V} (e : Ex G H) (r : Reps c.K c.T G ds vs) : En c.K c.T c.pa G H (L2.start N vs) (st0 N ds) where
  ex := e
  sl := fun i s h => by
    unfold st0 at h
    unfold L2.start
    by_cases q : i < ds.length
    · rw [List.getElem?_append_left (by simpa using q)] at h
      rw [List.getElem?_map] at h
      cases z : ds[i]? with
      | none => rw [z] at h; cases h
      | some d =>
        rw [z] at h
        cases h
        obtain ⟨v, h1, h2⟩ := r.get z
        refine ⟨v, ?_, h2⟩
        rw [List.getElem?_append_left (by rw [List.length_map, ← r.length]; exact q), List.getElem?_map, h1]
        rfl
    · rw [List.getElem?_append_right (by simpa using q), List.getElem?_replicate] at h
      split at h <;> cases h
  ds := fun i j s t a h1 h2 o1 => by
    exfalso
    unfold st0 at h1
    by_cases q : i < ds.length
    · rw [List.getElem?_append_left (by simpa using q), List.getElem?_map] at h1
      cases z : ds[i]? with
      | none => rw [z] at h1; cases h1
      | some d => rw [z] at h1; cases h1; cases o1
    · rw [List.getElem?_append_right (by simpa using q), List.getElem?_replicate] at h1
      split at h1 <;> cases h1
  len := by unfold L2.start st0; rw [List.length_append, List.length_append, List.length_map, List.length_map, r.length]; simp
theorem own_start {N : List Str} {ds : List Dt} {σ : L2.St} {p : Addr} (h : own σ (st0 N ds) p) : False := by
  obtain ⟨i, s, h1, o1, _⟩ := h
  unfold st0 at h1
  by_cases q : i < ds.length
  · rw [List.getElem?_append_left (by simpa using q), List.getElem?_map] at h1
    cases z : ds[i]? with
    | none => rw [z] at h1; cases h1
    | some d => rw [z] at h1; cases h1; cases o1
  · rw [List.getElem?_append_right (by simpa using q), List.getElem?_replicate] at h1
    split at h1 <;> cases h1
theorem Gr.fromO {O O1 O' : Addr → Prop} (g : Gr G H G' H' O O') (h : ∀ p, O p → O1 p) : Gr G H G' H' O1 O' :=
  ⟨g.ex, fun p o q => (g.nw p o q).imp id (Or.imp id (h p)), fun p o q n => g.fr p o q fun z => n (h p z), g.al, fun p q => (g.ow p q).imp (h p) id⟩
/-- the context of a def's body that lets no exception out -/
abbrev bX (P : Program) (w : World) (K : PySem.W.Frag) (mg : Str → Option Value) (base : Heap) (N : List Str) (qual : Str) (sd : Stmt) (f : Addr) (cdv : Value) (A : Around) (outer : List Env) (s : Shared) (H : Hp) (E : XK) : Cx :=
  (cxOf CX0 P w K mg base N qual (defScope sd) f cdv A outer s H E).nox
/-- A DEF: its body on data -/
theorem okD {P : Program} {w : World} {K : PySem.W.Frag} {T : Ct} {mg : Str → Option Value} {base : Heap} {x qual : Str} {sd : Stmt} {f : Addr} {fd : FuncData} {N ps : List Str} {k : Nat} {R : List Dt → Dt → Prop} (F : Fun K x qual sd f fd) (S : FnScope N ps (defScope sd)) (hl : ∀ ds r, R ds r → ds.length = ps.length)
    (body : ∀ (cdv : Value) (A : Around) (outer : List Env) (s : Shared) (H : Hp) (E : XK) (pa : Nat → Addr) (ds : List Dt) (r : Dt), Room k (A.deeper (envOfC qual (defScope sd) s.heap.objs.size f cdv)) → R ds r →
      ∃ o, XS ⟨K, T, pa⟩ (bX P w K mg base N qual sd f cdv A outer s H E) (defBody sd) (st0 N ds) o ∧ ((∃ st', o = .rt r st') ∨ (r = .non ∧ ∃ st', o = .nx st'))) : FnOk P w K mg base CX0 (k + 1) f fd ps (spD K T R) := by
  refine F.ok S (fun vs H Q E h => ?_) (fun cdv A outer s H vs Q E hr h => ?_)
  · obtain ⟨G, ds, r, e, rs, hR, _⟩ := h
    rw [← rs.length]; exact hl ds r hR
  · obtain ⟨G, ds, r, e, rs, hR, kk⟩ := h
    obtain ⟨o, hb, ho⟩ := body cdv A outer s H E (fun _ => 0) ds r hr hR
    refine ⟨_, hb.pss, G, En.start e rs, ?_⟩
    rcases ho with ⟨st', rfl⟩ | ⟨rfl, st', rfl⟩
    · exact fun v σ' G' H' g E' r' => kk v G' H' ((g.weakO (fun p h => h.elim)).fromO fun p h => own_start h) E'.ex r'
    · exact fun σ' G' H' g E' => kk .non G' H' ((g.weakO (fun p h => h.elim)).fromO fun p h => own_start h) E'.ex .non
end Dv
set_option autoImplicit true
set_option maxRecDepth 100000
namespace Dv
open PySem PySem.Spec PyProof.Rows L2
open Classical in
/-- the frozen part with the own lists beside it -/
noncomputable def Gz (σ : L2.St) (st : Store) (G H : Hp) : Hp := fun p => if own σ st p then H p else G p

variable {c : Ctx} {X : Cx} {st st1 st2 st3 st' : Store} {a b e : Expr} {es : List Expr} {d d1 d2 d' : Dt} {ds xs ys : List Dt} {pos : Pos} {G G' H H' : Hp} {σ σ' : L2.St} {v : V} {i j : Nat}

/-! ### own lists read -/
def Sv.fz : Sv → Option Sv
  | .fr d => some (.fr d)
  | .ow xs => some (.fr (.lst xs))
  | .pr _ xs => some (.fr (.lst xs))
  | .bo _ _ => none
  | .ex _ _ _ => none
def fz (st : Store) : Store := st.map fun o => o.bind Sv.fz
theorem fz_get {s : Sv} (h : (fz st)[i]? = some (some s)) : ∃ t, st[i]? = some (some t) ∧ t.fz = some s := by
  unfold fz at h
  rw [List.getElem?_map] at h
  cases q : st[i]? with
  | none => rw [q] at h; cases h
  | some o =>
    rw [q] at h
    cases o with
    | none => cases h
    | some t => exact ⟨t, rfl, Option.some.inj h⟩
theorem fz_notOw {s t : Sv} (h : t.fz = some s) : s.isOw = false := by cases t <;> cases h <;> rfl
theorem own_fz {p : Addr} : ¬ own σ (fz st) p := fun ⟨i, s, h1, h2, _⟩ => by
  obtain ⟨t, _, e⟩ := fz_get h1
  rw [fz_notOw e] at h2; cases h2
theorem En.ownAt (E : En c.K c.T c.pa G H σ st) {p : Addr} (h : own σ st p) : G p = none ∧ H p ≠ none := by
  obtain ⟨i, s, h1, h2, h3⟩ := h
  obtain ⟨v, h4, h5⟩ := E.sl i s h1
  rw [h3] at h4
  cases h4
  cases s with
  | fr d => cases h2
  | ex _ _ _ => cases h2
  | ow xs =>
    obtain ⟨a, vs, e, n, l, r⟩ := h5
    cases e
    exact ⟨n, by rw [l]; simp⟩
  | pr k xs =>
    obtain ⟨vs, e, n, l, r⟩ := h5
    cases e
    exact ⟨n, by rw [l]; simp⟩
  | bo m fs =>
    obtain ⟨C, ns, dx, vs, t, e, n, l, r⟩ := h5
    cases e
    exact ⟨n, by rw [l]; simp⟩
theorem En.gz (E : En c.K c.T c.pa G H σ st) : Ex G (Gz σ st G H) := fun p o h => by
  unfold Gz
  by_cases q : own σ st p
  · rw [if_pos q]; exact E.ex _ _ h
  · rw [if_neg q]; exact h
theorem En.frz (E : En c.K c.T c.pa G H σ st) : En c.K c.T c.pa (Gz σ st G H) H σ (fz st) where
  ex := fun p o h => by
    unfold Gz at h
    by_cases q : own σ st p
    · rw [if_pos q] at h; exact h
    · rw [if_neg q] at h; exact E.ex _ _ h
  sl := fun i s h => by
    obtain ⟨t, h1, e⟩ := fz_get h
    obtain ⟨v, h2, h3⟩ := E.sl i t h1
    refine ⟨v, h2, ?_⟩
    cases t with
    | bo _ _ => cases e
    | ex _ _ _ => cases e
    | fr d => cases e; exact Rep.ex E.gz h3
    | ow xs =>
      cases e
      obtain ⟨a, vs, rfl, n, l, r⟩ := h3
      exact .lst (show Gz σ st G H a = _ by unfold Gz; rw [if_pos ⟨i, _, h1, rfl, h2⟩]; exact l) (r.ex E.gz)
    | pr k xs =>
      cases e
      obtain ⟨vs, rfl, n, l, r⟩ := h3
      exact .lst (show Gz σ st G H _ = _ by unfold Gz; rw [if_pos ⟨i, _, h1, rfl, h2⟩]; exact l) (r.ex E.gz)
  ds := fun i j s t a h1 _ o1 => by
    obtain ⟨u, _, e⟩ := fz_get h1
    rw [fz_notOw e] at o1; cases o1
  len := by unfold Dv.fz; rw [List.length_map]; exact E.len
def Dt.scal : Dt → Bool
  | .non | .bl _ | .int _ | .str _ => true
  | _ => false
theorem Rep.scal {K : PySem.W.Frag} {T : Ct} {G G' : Hp} {d : Dt} {v : V} (h : d.scal = true) (r : Rep K T G d v) : Rep K T G' d v := by
  cases r <;> first | (cases h; done) | constructor
/-- behind a look at everything -/
theorem En.unfz {O' : Addr → Prop} {G2 : Hp} (E : En c.K c.T c.pa G H σ st) (g : Gr (Gz σ st G H) H G2 H' (own σ (fz st)) O') : Gr G H G H' (own σ st) (own σ st) ∧ En c.K c.T c.pa G H' σ st := by
  have keep : ∀ p o, H p = some o → H' p = some o := fun p o h => g.fr p o h own_fz
  refine ⟨⟨Ex.refl G, fun _ _ h => .inl h, fun p o h _ => keep p o h, g.al, fun _ h => .inl h⟩, ⟨fun p o h => keep p o (E.ex p o h), fun i s h => ?_, E.ds, E.len⟩⟩
  obtain ⟨v, h1, h2⟩ := E.sl i s h
  refine ⟨v, h1, ?_⟩
  cases s with
  | fr d => exact h2
  | ex _ _ _ => exact h2
  | ow xs => obtain ⟨a, vs, e, n, l, r⟩ := h2; exact ⟨a, vs, e, n, keep _ _ l, r⟩
  | pr k xs => obtain ⟨vs, e, n, l, r⟩ := h2; exact ⟨vs, e, n, keep _ _ l, r⟩
  | bo m fs => obtain ⟨C, ns, dx, vs, t, e, n, l, r⟩ := h2; exact ⟨C, ns, dx, vs, t, e, n, keep _ _ l, r⟩
theorem xd_view (h : XD c X e (fz st) d st1) (hs : d.scal = true) : XD c X e st d st :=
  ⟨pe_weak h.pe fun σ H Q ⟨G, E, k⟩ => ⟨_, E.frz, fun v G2 H2 g2 E2 r2 => by
    obtain ⟨g, E'⟩ := E.unfz g2
    exact k v G H2 g E' (r2.scal hs)⟩⟩
theorem xt_view {t : Bool} (h : XT c X e (fz st) t st1) : XT c X e st t st :=
  ⟨pt_weak h.pt fun σ H Q ⟨G, E, k⟩ => ⟨_, E.frz, fun G2 H2 g2 E2 => by
    obtain ⟨g, E'⟩ := E.unfz g2
    exact k G H2 g E'⟩⟩

/-! ### an own list becomes known for good -/
theorem xs_freeze {s : List Stmt} {o : Out} (i : Nat) (hi : st[i]? = some (some (.ow xs)) := by rfl) (h : XS c X s (st.set i (some (.fr (.lst xs)))) o) : XS c X s st o :=
  ⟨pss_weak h.pss fun D σ H ⟨G, E, k⟩ => by
    obtain ⟨v, h1, h2⟩ := E.sl i _ hi
    obtain ⟨a, vs, rfl, n, l, r⟩ := h2
    have ho : own σ st a := ⟨i, _, hi, rfl, h1⟩
    have eG : Ex G (upd G a (.lst vs)) := Ex.new n
    have eq : σ.set i (some (V.ref a)) = σ := by
      have q := (List.getElem?_eq_some_iff.mp h1)
      obtain ⟨q1, q2⟩ := q
      apply List.ext_getElem?
      intro j
      by_cases z : j = i
      · subst z; rw [List.getElem?_set_self q1, h1]
      · rw [List.getElem?_set_ne (Ne.symm z)]
    have E1 : En c.K c.T c.pa (upd G a (.lst vs)) H σ (st.set i (some (.fr (.lst xs)))) := by
      refine ⟨fun p o q => ?_, fun j s q => ?_, fun j k s t p q1 q2 o1 o2 q3 q4 => ?_, by rw [List.length_set]; exact E.len⟩
      · by_cases z : p = a
        · subst z; rw [upd_same] at q; cases q; exact l
        · rw [upd_ne z] at q; exact E.ex p o q
      · rcases set_cases q with ⟨rfl, e, z⟩ | ⟨nj, q⟩
        · cases e; exact ⟨_, h1, .lst upd_same (r.ex eG)⟩
        · obtain ⟨w, z1, z2⟩ := E.sl j s q
          refine ⟨w, z1, ?_⟩
          cases s with
          | fr d => exact Rep.ex eG z2
          | ex _ _ _ => exact SvR.exE eG z2
          | ow ys =>
            obtain ⟨b, ws, rfl, m1, m2, m3⟩ := z2
            refine ⟨b, ws, rfl, ?_, m2, m3.ex eG⟩
            have nb : b ≠ a := fun z => nj (E.ds j i _ _ a q hi rfl rfl (by rw [z1, z]) h1)
            rw [upd_ne nb]; exact m1
          | pr k ys =>
            obtain ⟨ws, rfl, m1, m2, m3⟩ := z2
            refine ⟨ws, rfl, ?_, m2, m3.ex eG⟩
            have nb : c.pa k ≠ a := fun z => nj (E.ds j i _ _ a q hi rfl rfl (by rw [z1, z]) h1)
            rw [upd_ne nb]; exact m1
          | bo mm fs =>
            obtain ⟨C, ns, dx, ws, t, rfl, m1, m2, m3⟩ := z2
            refine ⟨C, ns, dx, ws, t, rfl, ?_, m2, m3.ex eG⟩
            have nb : c.pa 0 ≠ a := fun z => nj (E.ds j i _ _ a q hi rfl rfl (by rw [z1, z]) h1)
            rw [upd_ne nb]; exact m1
      · rcases set_cases q1 with ⟨rfl, e, z⟩ | ⟨n1, q1⟩
        · cases e; cases o1
        · rcases set_cases q2 with ⟨rfl, e, z⟩ | ⟨n2, q2⟩
          · cases e; cases o2
          · exact E.ds j k s t p q1 q2 o1 o2 q3 q4
    have g1 : Gr G H (upd G a (.lst vs)) H (own σ st) (own σ (st.set i (some (.fr (.lst xs))))) := by
      refine ⟨eG, fun p o q => ?_, fun _ _ q _ => q, fun _ q => q, fun p q => .inl ?_⟩
      · by_cases z : p = a
        · subst z; exact .inr (.inr ho)
        · rw [upd_ne z] at q; exact .inl q
      · have q' : own (σ.set i (some (V.ref a))) (st.set i (some (.fr (.lst xs)))) p := by rw [eq]; exact q
        exact own_setFr q'
    exact ⟨_, E1, k.from g1⟩⟩

/-! ### new lists -/
def tL (c : Ctx) (st : Store) (xs : List Dt) (st' : Store) : TE := fun σ H Q => ∃ G, En c.K c.T c.pa G H σ st ∧
  ∀ p vs G' H', Gr G H G' H' (own σ st) (own σ st') → En c.K c.T c.pa G' H' σ st' → ¬ own σ st' p → H p = none → G' p = none → H' p = some (.lst vs) → Reps c.K c.T G' xs vs → Q (.ref p) H'
structure XL (c : Ctx) (X : Cx) (e : Expr) (st : Store) (xs : List Dt) (st' : Store) : Prop where
  pe : PE X e (tL c st xs st')
theorem Gr.none {O O' : Addr → Prop} (g : Gr G H G' H' O O') {p : Addr} (h : H' p = Option.none) : H p = Option.none := by
  cases q : H p with
  | none => rfl
  | some o => exact absurd h (g.al p (by rw [q]; simp))
/-- a new list at p is known -/
theorem En.know {p : Addr} {vs : List V} (E : En c.K c.T c.pa G H σ st) (n : ¬ own σ st p) (hn : G p = none) (hp : H p = some (.lst vs)) : En c.K c.T c.pa (upd G p (.lst vs)) H σ st where
  ex := fun q o z => by
    by_cases y : q = p
    · subst y; rw [upd_same] at z; cases z; exact hp
    · rw [upd_ne y] at z; exact E.ex q o z
  sl := fun j s h => by
    have eG : Ex G (upd G p (.lst vs)) := Ex.new hn
    obtain ⟨w, z1, z2⟩ := E.sl j s h
    refine ⟨w, z1, ?_⟩
    cases s with
    | fr d => exact Rep.ex eG z2
    | ex _ _ _ => exact SvR.exE eG z2
    | ow ys =>
      obtain ⟨b, ws, rfl, m1, m2, m3⟩ := z2
      exact ⟨b, ws, rfl, by rw [upd_ne (fun z => n ⟨j, _, h, rfl, by rw [z1, z]⟩)]; exact m1, m2, m3.ex eG⟩
    | pr k ys =>
      obtain ⟨ws, rfl, m1, m2, m3⟩ := z2
      exact ⟨ws, rfl, by rw [upd_ne (fun z => n ⟨j, _, h, rfl, by rw [z1, z]⟩)]; exact m1, m2, m3.ex eG⟩
    | bo mm fs =>
      obtain ⟨C, ns, dx, ws, t, rfl, m1, m2, m3⟩ := z2
      exact ⟨C, ns, dx, ws, t, rfl, by rw [upd_ne (fun z => n ⟨j, _, h, rfl, by rw [z1, z]⟩)]; exact m1, m2, m3.ex eG⟩
  ds := E.ds
  len := E.len
theorem xd_xl (h : XL c X e st xs st1) : XD c X e st (.lst xs) st1 :=
  ⟨pe_weak h.pe fun σ H Q ⟨G, E, k⟩ => ⟨G, E, fun p vs G1 H1 g1 E1 no hp hn hl r => by
    refine k _ (upd G1 p (.lst vs)) H1 ⟨g1.ex.trans (Ex.new hn), fun q o z => ?_, g1.fr, g1.al, g1.ow⟩ (E1.know no hn hl) (.lst upd_same (r.ex (Ex.new hn)))
    by_cases y : q = p
    · subst y; exact .inr (.inl hp)
    · rw [upd_ne y] at z; exact g1.nw q o z⟩⟩
theorem En.notOwn {p : Addr} (E : En c.K c.T c.pa G H σ st) (h : H p = none) : ¬ own σ st p := fun q => by
  exact (E.ownAt q).2 h
/-- a new list is laid beside all -/
theorem En.lay {p : Addr} {o : HO} (E : En c.K c.T c.pa G H σ st) (h : H p = none) : En c.K c.T c.pa G (upd H p o) σ st ∧ Gr G H G (upd H p o) (own σ st) (own σ st) := by
  have kp : ∀ q u, H q = some u → upd H p o q = some u := fun q u z => by rw [upd_ne (ne_of_none z h)]; exact z
  refine ⟨⟨fun q u z => kp q u (E.ex q u z), fun j s z => ?_, E.ds, E.len⟩, ⟨Ex.refl G, fun _ _ z => .inl z, fun q u z _ => kp q u z, fun q z => ?_, fun _ z => .inl z⟩⟩
  · obtain ⟨w, z1, z2⟩ := E.sl j s z
    refine ⟨w, z1, ?_⟩
    cases s with
    | fr d => exact z2
    | ex _ _ _ => exact z2
    | ow ys => obtain ⟨b, ws, e, m1, m2, m3⟩ := z2; exact ⟨b, ws, e, m1, kp _ _ m2, m3⟩
    | pr k ys => obtain ⟨ws, e, m1, m2, m3⟩ := z2; exact ⟨ws, e, m1, kp _ _ m2, m3⟩
    | bo mm fs => obtain ⟨C, ns, dx, ws, t, e, m1, m2, m3⟩ := z2; exact ⟨C, ns, dx, ws, t, e, m1, kp _ _ m2, m3⟩
  · cases y : H q with
    | none => exact absurd y z
    | some u => rw [kp q u y]; simp
theorem xl_lst (h : XA c X es st ds st1) (hl : ds.length ≤ 100000) : XL c X (.List es pos) st ds st1 :=
  ⟨pe_weak (pe_lst h.pa) fun σ H Q ⟨G, E, k⟩ => ⟨G, E, fun vs G1 H1 g1 E1 r1 => ⟨by rw [← r1.length]; exact Nat.le_trans hl (by decide), fun p hp => by
    obtain ⟨E2, g2⟩ := E1.lay (o := .lst vs) hp
    exact k p vs G1 _ (g1.trans g2) E2 (E1.notOwn hp) (g1.none hp) (E1.ex.none hp) upd_same r1⟩⟩⟩
/-- name = a new list, kept as one's own -/
theorem En.setOw {p : Addr} {vs : List V} (E : En c.K c.T c.pa G H σ st) (n : ¬ own σ st p) (hn : G p = none) (hp : H p = some (.lst vs)) (r : Reps c.K c.T G xs vs) (i : Nat) : En c.K c.T c.pa G H (σ.set i (some (.ref p))) (st.set i (some (.ow xs))) where
  ex := E.ex
  sl := fun j s h => by
    rcases set_cases h with ⟨rfl, e, z⟩ | ⟨nj, h⟩
    · cases e
      exact ⟨_, by rw [List.getElem?_set_self (by rw [E.len]; exact z)], p, vs, rfl, hn, hp, r⟩
    · obtain ⟨w, h1, h2⟩ := E.sl j s h
      exact ⟨w, by rw [List.getElem?_set_ne (Ne.symm nj)]; exact h1, h2⟩
  ds := fun j k s t q h1 h2 o1 o2 h3 h4 => by
    rcases set_cases h1 with ⟨ej, e, z⟩ | ⟨n1, g1⟩
    · rcases set_cases h2 with ⟨ek, e', z'⟩ | ⟨n2, g2⟩
      · rw [ej, ek]
      · rw [ej, List.getElem?_set_self (by rw [E.len]; exact z)] at h3
        rw [List.getElem?_set_ne (Ne.symm n2)] at h4
        cases h3
        exact absurd ⟨k, t, g2, o2, h4⟩ n
    · rcases set_cases h2 with ⟨ek, e', z'⟩ | ⟨n2, g2⟩
      · rw [ek, List.getElem?_set_self (by rw [E.len]; exact z')] at h4
        rw [List.getElem?_set_ne (Ne.symm n1)] at h3
        cases h4
        exact absurd ⟨j, s, g1, o1, h3⟩ n
      · rw [List.getElem?_set_ne (Ne.symm n1)] at h3
        rw [List.getElem?_set_ne (Ne.symm n2)] at h4
        exact E.ds j k s t q g1 g2 o1 o2 h3 h4
  len := by rw [List.length_set, List.length_set, E.len]
theorem own_setOw {p q : Addr} (h : own (σ.set i (some (.ref p))) (st.set i (some (.ow xs))) q) : own σ st q ∨ q = p := by
  obtain ⟨j, s, h1, h2, h3⟩ := h
  rcases set_cases h1 with ⟨rfl, e, z⟩ | ⟨n, h1⟩
  · by_cases y : j < σ.length
    · rw [List.getElem?_set_self y] at h3; cases h3; exact .inr rfl
    · rw [List.getElem?_eq_none (by rw [List.length_set]; omega)] at h3; cases h3
  · rw [List.getElem?_set_ne (Ne.symm n)] at h3
    exact .inl ⟨j, s, h1, h2, h3⟩
theorem xp_setOw (i : Nat) {x : Str} {pos' : Pos} (hN : X.N.Nodup) (he : XL c X e st xs st1) (hi : X.N[i]? = some x := by rfl) (hx : Loc X.env.scope x := by first | exact Or.inl rfl | exact Or.inr rfl) (hs : swapsWith e (some (.Name x pos')) pos.line X.env = pure false := by rfl)
    (hf : X.fn x = true ∨ X.env.scope.names.lookup x = some .local := by first | exact .inl rfl | exact .inr rfl | assumption) : XP c X (.Assign [.Name x pos'] e pos) st (.nx (st1.set i (some (.ow xs)))) :=
  ⟨ps_weak (ps_set hN hi hx he.pe hs hf) fun D σ H ⟨G, E, k⟩ => ⟨G, E, fun p vs G1 H1 g1 E1 no hp hn hl r =>
    k _ G1 H1 ⟨g1.ex, g1.nw, g1.fr, g1.al, fun q z => (own_setOw z).elim (g1.ow q) fun y => .inr (by rw [y]; exact hp)⟩ (E1.setOw no hn hl r i)⟩⟩

/-! ### own lists changed -/
def Sv.with (s : Sv) (xs : List Dt) : Sv := match s with
  | .fr d => .fr d
  | .ow _ => .ow xs
  | .pr k _ => .pr k xs
  | .bo n fs => .bo n fs
  | .ex a p q => .ex a p q
inductive Sv.Has : Sv → List Dt → Prop where
  | ow {zs : List Dt} : Sv.Has (.ow zs) zs
  | pr {k : Nat} {zs : List Dt} : Sv.Has (.pr k zs) zs
theorem En.at (E : En c.K c.T c.pa G H σ st) {s : Sv} (hi : st[i]? = some (some s)) (hs : s.Has xs) : ∃ a vs, σ[i]? = some (some (.ref a)) ∧ G a = none ∧ H a = some (.lst vs) ∧ Reps c.K c.T G xs vs ∧ s.isOw = true ∧ (∀ k ys, s = .pr k ys → a = c.pa k) := by
  obtain ⟨v, h1, h2⟩ := E.sl i s hi
  cases hs with
  | ow => obtain ⟨a, vs, rfl, n, l, r⟩ := h2; exact ⟨a, vs, h1, n, l, r, rfl, fun _ _ e => nomatch e⟩
  | pr => obtain ⟨vs, rfl, n, l, r⟩ := h2; exact ⟨_, vs, h1, n, l, r, rfl, fun _ _ e => by cases e; rfl⟩
/-- the list in slot i is another one now -/
theorem En.mut {a : Addr} {vs : List V} {s : Sv} (E : En c.K c.T c.pa G H σ st) (hi : st[i]? = some (some s)) (hs : s.Has xs) (hσ : σ[i]? = some (some (.ref a))) (g : Gr G H G' H' (· = a) (· = a)) (e : Ex G' H') (hn : G' a = none) (hl : H' a = some (.lst vs)) (r : Reps c.K c.T G' ys vs) :
    En c.K c.T c.pa G' H' σ (st.set i (some (s.with ys))) ∧ Gr G H G' H' (own σ st) (own σ (st.set i (some (s.with ys)))) := by
  obtain ⟨a', ws, z1, z2, z3, z4, z5, z6⟩ := E.at hi hs
  rw [hσ] at z1
  cases z1
  have ho : own σ st a := ⟨i, s, hi, z5, hσ⟩
  have il : i < st.length := (List.getElem?_eq_some_iff.mp hi).1
  have oth : ∀ (j : Nat) t b, j ≠ i → st[j]? = some (some t) → t.isOw = true → σ[j]? = some (some (.ref b)) → b ≠ a := fun j t b nj h1 h2 h3 z => nj (E.ds j i t s a h1 hi h2 z5 (by rw [h3, z]) hσ)
  have out : ∀ b ob, G b = none → H b = some ob → b ≠ a → G' b = none ∧ H' b = some ob := fun b ob h1 h2 h3 => by
    refine ⟨?_, g.fr b ob h2 h3⟩
    cases q : G' b with
    | none => rfl
    | some u =>
      rcases g.nw b u q with y | y | y
      · rw [h1] at y; cases y
      · rw [h2] at y; cases y
      · exact absurd y h3
  refine ⟨⟨e, fun j t h => ?_, fun j k t u b h1 h2 o1 o2 h3 h4 => ?_, by rw [List.length_set]; exact E.len⟩, ⟨g.ex, fun p o q => (g.nw p o q).imp id (Or.imp id fun z => by rw [z]; exact ho), fun p o q n => g.fr p o q fun z => n (by rw [z]; exact ho), g.al, fun p q => .inl ?_⟩⟩
  · rcases set_cases h with ⟨rfl, q, z⟩ | ⟨nj, h⟩
    · cases q
      refine ⟨_, hσ, ?_⟩
      cases hs with
      | ow => exact ⟨a, vs, rfl, hn, hl, r⟩
      | pr =>
        have q := z6 _ _ rfl
        subst q
        exact ⟨vs, rfl, hn, hl, r⟩
    · obtain ⟨w, h1, h2⟩ := E.sl j t h
      refine ⟨w, h1, ?_⟩
      cases t with
      | fr d => exact Rep.ex g.ex h2
      | ex _ _ _ => exact SvR.exE g.ex h2
      | ow zs =>
        obtain ⟨b, us, rfl, m1, m2, m3⟩ := h2
        obtain ⟨q1, q2⟩ := out b _ m1 m2 (oth j _ b nj h rfl h1)
        exact ⟨b, us, rfl, q1, q2, m3.ex g.ex⟩
      | pr k zs =>
        obtain ⟨us, rfl, m1, m2, m3⟩ := h2
        obtain ⟨q1, q2⟩ := out _ _ m1 m2 (oth j _ _ nj h rfl h1)
        exact ⟨us, rfl, q1, q2, m3.ex g.ex⟩
      | bo mm fs =>
        obtain ⟨C, ns, dx, us, t, rfl, m1, m2, m3⟩ := h2
        obtain ⟨q1, q2⟩ := out _ _ m1 m2 (oth j _ _ nj h rfl h1)
        exact ⟨C, ns, dx, us, t, rfl, q1, q2, m3.ex g.ex⟩
  · have base : ∀ (j : Nat) t, (st.set i (some (s.with ys)))[j]? = some (some t) → t.isOw = true → ∃ t', st[j]? = some (some t') ∧ t'.isOw = true := fun j t h o => by
      rcases set_cases h with ⟨rfl, q, z⟩ | ⟨nj, h⟩
      · exact ⟨s, hi, z5⟩
      · exact ⟨t, h, o⟩
    obtain ⟨t', q1, q2⟩ := base j t h1 o1
    obtain ⟨u', q3, q4⟩ := base k u h2 o2
    exact E.ds j k t' u' b q1 q3 q2 q4 h3 h4
  · obtain ⟨j, t, h1, h2, h3⟩ := q
    rcases set_cases h1 with ⟨rfl, q, z⟩ | ⟨nj, h1⟩
    · exact ⟨_, s, hi, z5, h3⟩
    · exact ⟨j, t, h1, h2, h3⟩
theorem gr_upd {a : Addr} {o : HO} (e : Ex G H) (hn : G a = none) (hl : H a ≠ none) : Gr G H G (upd H a o) (· = a) (· = a) ∧ Ex G (upd H a o) :=
  ⟨⟨Ex.refl G, fun _ _ h => .inl h, fun p u h n => by rw [upd_ne n]; exact h, fun p h => by
    by_cases q : p = a
    · subst q; rw [upd_same]; simp
    · rw [upd_ne q]; exact h, fun _ h => .inl h⟩, fun p u h => by
    have n : p ≠ a := fun z => by subst z; rw [hn] at h; cases h
    rw [upd_ne n]; exact e p u h⟩
/-- x.append(e) -/
theorem xp_append (i : Nat) {s : Sv} {x : Str} {p1 apos cpos p2 : Pos} (he : XD c X e st d st1) (hK : X.K = c.K) (hi : st[i]? = some (some s)) (hi1 : st1[i]? = some (some s)) (hs : s.Has xs) (hl : xs.length < 100000) (hN : X.N[i]? = some x := by rfl) (hv : Vis X.env.scope x := by first | exact Or.inl rfl | exact Or.inr (Or.inl rfl) | exact Or.inr (Or.inr rfl)) (hd : (x == ("__debug__" : Str)) = false := by decide)
    (hcd : (x == ("__classdict__" : Str)) = false := by decide) (hline : (apos.endLine == cpos.line) = true := by rfl) (hb : attributeBase (.Name x p1) "append" X.env (eval (.Name x p1) X.env) = eval (.Name x p1) X.env := by rfl)
    (hfew : ((backTo cpos (starEach (e :: []) X.env)).all (fun x => !x.1) && (backToKw cpos (keywordEach [] X.env)).all (fun x => x.1.isSome)
      && decide ((e :: []).length + ([] : List Keyword).length + (if ([] : List Keyword).isEmpty then 0 else 1) < 30)) = true := by rfl) (hst : starEach (e :: []) X.env = (false, eval e X.env) :: starEach [] X.env := by rfl) (hsw : swapsWith (.Call (.Attribute (.Name x p1) "append" apos) [e] [] cpos) none p2.line X.env = pure false := by rfl) :
    XP c X (.Expr (.Call (.Attribute (.Name x p1) "append" apos) [e] [] cpos) p2) st (.nx (st1.set i (some (s.with (xs ++ [d]))))) :=
  ⟨ps_weak (ps_expr (pe_bm PySem.F.plainAttrs_list PySem.F.slot_list_append PySem.F.type_list_append mt_append (pe_var hN hv hd hcd) (pa_cons he.pe pa_nil hst) hb hfew hline hst) hsw) fun D σ H ⟨G, E, k⟩ => by
    obtain ⟨a, vs, z1, z2, z3, z4, z5, z6⟩ := E.at hi hs
    refine ⟨_, z1, .inl ⟨rfl, vs, by rw [hK]; exact SqL.of z3⟩, G, E, fun v G1 H1 g1 E1 r1 => ?_⟩
    obtain ⟨a', ws, y1, y2, y3, y4, y5, y6⟩ := E1.at hi1 hs
    rw [z1] at y1
    cases y1
    refine ⟨a, ws, v, rfl, rfl, y3, by rw [← y4.length]; exact Nat.lt_of_lt_of_le hl (by decide), ?_⟩
    obtain ⟨g2, e2⟩ := gr_upd (a := a) (o := .lst (ws ++ [v])) E1.ex y2 (by rw [y3]; simp)
    obtain ⟨E3, g3⟩ := E1.mut hi1 hs z1 g2 e2 y2 upd_same (y4.app (.cons r1 .nil))
    exact k _ _ _ (g1.trans g3) E3⟩
end Dv
set_option autoImplicit true
set_option maxRecDepth 100000
namespace Dv
open PySem PySem.Spec PyProof.Rows L2

variable {c : Ctx} {X : Cx} {st st1 st2 st3 st' : Store} {a b e tg iter : Expr} {es : List Expr} {d d1 d2 d' : Dt} {ds xs ys : List Dt} {pos : Pos} {G G' H H' : Hp} {σ σ' : L2.St} {v : V} {i j : Nat} {body : List Stmt} {o : Out}

/-! ### what is walked -/
structure Yld (c : Ctx) (J : It) (G0 : Hp) (ds : List Dt) : Prop where
  go : ∀ i G H, Ex G0 G → Ex G H → i < ds.length → J.go i H
  stop : ∀ i G H, Ex G0 G → Ex G H → ds.length ≤ i → J.stop i H
  yl : ∀ i G H x H', Ex G0 G → Ex G H → i < ds.length → J.yld i H x H' → ∃ G' d, Gw G H G' H' ∧ ds[i]? = some d ∧ Rep c.K c.T G' d x
def tI (c : Ctx) (st : Store) (ds : List Dt) (st' : Store) : TI := fun σ H R => ∃ G, En c.K c.T c.pa G H σ st ∧
  ∀ J G' H', Gr G H G' H' (own σ st) (own σ st') → En c.K c.T c.pa G' H' σ st' → Yld c J G' ds → R J H'
structure XI (c : Ctx) (X : Cx) (tg iter : Expr) (st : Store) (ds : List Dt) (st' : Store) : Prop where
  pi : PI X tg iter (tI c st ds st')

theorem yld_list {a : Addr} {vs : List V} {G0 : Hp} {K : PySem.W.Frag} (hK : c.K = K) (h : SqL K G0 a vs) (r : Reps c.K c.T G0 ds vs) : Yld c (Itl K a) G0 ds where
  go := fun i G H e1 e2 hi => ⟨vs, vs[i]'(by rw [← r.length]; exact hi), (e1.trans e2).sl h, List.getElem?_eq_getElem _⟩
  stop := fun i G H e1 e2 hi => ⟨vs, (e1.trans e2).sl h, by rw [← r.length]; exact hi⟩
  yl := fun i G H x H' e1 e2 hi y => by
    obtain ⟨rfl, y⟩ := y
    obtain ⟨d, h1, h2⟩ := r.getV (y vs ((e1.trans e2).sl h))
    exact ⟨G, d, Gw.refl e2, h1, h2.ex e1⟩
theorem yld_tup {a : Addr} {vs : List V} {G0 : Hp} {K : PySem.W.Frag} (hK : c.K = K) (h : SqT K G0 a vs) (r : Reps c.K c.T G0 ds vs) : Yld c (Itt K a) G0 ds where
  go := fun i G H e1 e2 hi => ⟨vs, vs[i]'(by rw [← r.length]; exact hi), (e1.trans e2).st h, List.getElem?_eq_getElem _⟩
  stop := fun i G H e1 e2 hi => ⟨vs, (e1.trans e2).st h, by rw [← r.length]; exact hi⟩
  yl := fun i G H x H' e1 e2 hi y => by
    obtain ⟨rfl, y⟩ := y
    obtain ⟨d, h1, h2⟩ := r.getV (y vs ((e1.trans e2).st h))
    exact ⟨G, d, Gw.refl e2, h1, h2.ex e1⟩
theorem xi_list (hK : X.K = c.K) (h : XD c X e st (.lst ds) st1) : XI c X tg e st ds st1 :=
  ⟨pi_weak (pi_list h.pe) fun σ H R ⟨G, E, k⟩ => ⟨G, E, fun v G1 H1 g1 E1 r1 => by
    obtain ⟨a, vs, rfl, hl, r⟩ := r1.lst_inv
    exact ⟨a, rfl, ⟨vs, .inl (.inl (E1.ex _ _ hl))⟩, k _ G1 H1 g1 E1 (yld_list hK.symm (.inl (.inl hl)) r)⟩⟩⟩
theorem xi_ro (hK : X.K = c.K) (h : XD c X e st (.ro ds) st1) : XI c X tg e st ds st1 :=
  ⟨pi_weak (pi_list h.pe) fun σ H R ⟨G, E, k⟩ => ⟨G, E, fun v G1 H1 g1 E1 r1 => by
    obtain ⟨a, vs, rfl, hl, r⟩ := r1.ro_inv
    rw [← hK] at hl
    exact ⟨a, rfl, ⟨vs, E1.ex.sl hl⟩, k _ G1 H1 g1 E1 (yld_list hK.symm hl r)⟩⟩⟩
theorem xi_tup (hK : X.K = c.K) (h : XD c X e st (.tup ds) st1) : XI c X tg e st ds st1 :=
  ⟨pi_weak (pi_tup h.pe) fun σ H R ⟨G, E, k⟩ => ⟨G, E, fun v G1 H1 g1 E1 r1 => by
    obtain ⟨a, vs, rfl, hl, r⟩ := r1.tup_inv
    rw [← hK] at hl
    exact ⟨a, rfl, ⟨vs, E1.ex.st hl⟩, k _ G1 H1 g1 E1 (yld_tup hK.symm hl r)⟩⟩⟩
/-- an own list walked by a name -/
theorem yld_range {G0 : Hp} {lo : Int} {n : Nat} : Yld c (Itr lo n) G0 ((List.range n).map fun (i : Nat) => .int (lo + (i : Int))) where
  go := fun i G H _ _ hi => by
    show i < n
    simpa using hi
  stop := fun i G H _ _ hi => by
    show n ≤ i
    simpa using hi
  yl := fun i G H x H' _ e2 hi y => by
    obtain ⟨rfl, rfl⟩ := y
    have hi' : i < n := by simpa using hi
    exact ⟨G, _, Gw.refl e2, by rw [List.getElem?_map, List.getElem?_range hi']; rfl, .int⟩
theorem xi_range1 {a : Expr} {p pos : Pos} {n : Int} (ha : XD c X a st (.int n) st1) (hn : n < 2 ^ 62) (hn0 : -(2 ^ 62) ≤ n) (hm : X.mg "range" = none) (hg : Gl X "range" := by rfl) (hs : starEach [a] X.env = [(false, eval a X.env)] := by rfl) :
    XI c X tg (.Call (.Name "range" p) [a] [] pos) st ((List.range n.toNat).map fun (i : Nat) => .int (i : Int)) st1 :=
  ⟨pi_weak (pi_range1 hg hm (pa_cons ha.pe pa_nil (by rw [hs]; rfl)) hs) fun σ H R ⟨G, E, k⟩ => ⟨G, E, fun v G1 H1 g1 E1 r1 => by
    cases r1
    refine ⟨n, rfl, hn0, hn, k _ G1 H1 g1 E1 ?_⟩
    have q := yld_range (c := c) (G0 := G1) (lo := 0) (n := n.toNat)
    have e : (fun i : Nat => Dt.int (0 + (i : Int))) = fun i : Nat => Dt.int (i : Int) := by funext i; rw [Int.zero_add]
    rw [e] at q
    exact q⟩⟩
theorem xi_range2 {a b : Expr} {p pos : Pos} {lo n : Int} (ha : XA c X [a, b] st [.int lo, .int n] st1) (hl : -(2 ^ 62) ≤ lo ∧ lo < 2 ^ 62 ∧ -(2 ^ 62) ≤ n ∧ n < 2 ^ 62) (hm : X.mg "range" = none) (hg : Gl X "range" := by rfl) (hs : starEach [a, b] X.env = [(false, eval a X.env), (false, eval b X.env)] := by rfl) (hs2 : starEach [b] X.env = [(false, eval b X.env)] := by rfl) :
    XI c X tg (.Call (.Name "range" p) [a, b] [] pos) st ((List.range (n - lo).toNat).map fun (i : Nat) => .int (lo + (i : Int))) st1 :=
  ⟨pi_weak (pi_range2 hg hm ha.pa hs hs2) fun σ H R ⟨G, E, k⟩ => ⟨G, E, fun v G1 H1 g1 E1 r1 => by
    cases r1 with
    | cons r r1 =>
      cases r1 with
      | cons r' r1 =>
        cases r1; cases r; cases r'
        exact ⟨lo, n, rfl, hl, k _ G1 H1 g1 E1 yld_range⟩⟩⟩
theorem xi_str {x : Str} (h : XD c X e st (.str x) st1) : XI c X tg e st (x.cps.toList.map fun q => .str ⟨#[q]⟩) st1 :=
  ⟨pi_weak (pi_str h.pe) fun σ H R ⟨G, E, k⟩ => ⟨G, E, fun v G1 H1 g1 E1 r1 => by
    cases r1
    refine ⟨x, rfl, k _ G1 H1 g1 E1 ⟨fun i G H _ _ hi => ?_, fun i G H _ _ hi => ?_, fun i G H y H' _ e2 hi q => ?_⟩⟩
    · show i < x.cps.size
      simpa using hi
    · show x.cps.size ≤ i
      simpa using hi
    · obtain ⟨rfl, q, h1, rfl⟩ := q
      exact ⟨G, _, Gw.refl e2, by rw [List.getElem?_map]; simp [h1], .str⟩⟩⟩

/-! ### for -/
def tAny (c : Ctx) (X : Cx) (body : List Stmt) : TS := fun D σ H => ∃ st o, XS c X body st o ∧ tO c st o D σ H
theorem pss_any : PSs X body (tAny c X body) := ⟨fun pins s σ H D I ⟨st, o, h, q⟩ => h.pss.run pins s σ H D I q⟩
def gAny (c : Ctx) (X : Cx) (tg : Expr) : TG := fun v σ H Q => ∃ d st st', XG c X tg d st st' ∧ gD c d st st' v σ H Q
theorem pg_any : PG X tg (gAny c X tg) := ⟨fun pins s σ H v u Q I r ⟨d, st, st', h, q⟩ => h.pg.run pins s σ H v u Q I r q⟩
def ttAny (c : Ctx) (X : Cx) (t : Expr) : TT := fun σ H Q => ∃ st b st', XT c X t st b st' ∧ tB' c st b st' σ H Q
theorem pt_any {t : Expr} : PT X t (ttAny c X t) := ⟨fun pins s σ H Q I ⟨st, b, st', h, q⟩ => h.pt.run pins s σ H Q I q⟩

/-- one turn that goes on -/
def Turns (c : Ctx) (X : Cx) (tg : Expr) (body : List Stmt) (d : Dt) (s s' : Store) : Prop := ∃ t, XG c X tg d s t ∧ (XS c X body t (.nx s') ∨ XS c X body t (.ct s'))
/-- the last turn -/
def Leaves (c : Ctx) (X : Cx) (tg : Expr) (body : List Stmt) (d : Dt) (s : Store) (o : Out) : Prop := ∃ t, XG c X tg d s t ∧ ((∃ r s', o = .rt r s' ∧ XS c X body t (.rt r s')) ∨ (∃ s', o = .nx s' ∧ XS c X body t (.bk s')))
theorem xp_for (S : Nat → Store) (hi : XI c X tg iter st ds (S 0)) (hb : ∀ i d, ds[i]? = some d → Turns c X tg body d (S i) (S (i + 1))) (hc : X.calm = true := by rfl) (hp : PassesOwn (model X.prog X.w) X.A X.env X.xe := by exact PassesOwn.never)
    (hs : ∀ x, foldedSetIterable iter X.env x = pure x := by intro _; rfl) : XP c X (.For tg iter body [] pos) st (.nx (S ds.length)) :=
  ⟨ps_weak (ps_for hp hc hi.pi (pg_any (c := c)) (pss_any (c := c)) hs) fun D σ0 H0 ⟨G, E, k⟩ => ⟨G, E, fun J G1 H1 g1 E1 y => by
    refine ⟨fun i m σ H => m = ds.length - i ∧ i ≤ ds.length ∧ ∃ G', Gr G1 H1 G' H (own σ0 (S 0)) (own σ (S i)) ∧ En c.K c.T c.pa G' H σ (S i), ⟨_, rfl, Nat.zero_le _, G1, Gr.refl, E1⟩, ?_⟩
    rintro i m σ H ⟨rfl, hi, G', g', E'⟩
    by_cases hlt : i < ds.length
    · refine .inr ⟨y.go i G' H g'.ex E'.ex hlt, fun σ2 H2 => ∃ G2, Gr G1 H1 G2 H2 (own σ0 (S 0)) (own σ2 (S (i + 1))) ∧ En c.K c.T c.pa G2 H2 σ2 (S (i + 1)), fun σ2 H2 q => ⟨ds.length - (i + 1), by omega, rfl, hlt, q⟩, fun x H2 yl => ?_⟩
      obtain ⟨G2, d, w, hd, rd⟩ := y.yl i G' H x H2 g'.ex E'.ex hlt yl
      obtain ⟨t, hg, hx⟩ := hb i d hd
      refine ⟨d, S i, t, hg, G2, E'.g1 w, rd, fun σ3 G3 H3 g3 E3 => ?_⟩
      have g4 := (g'.trans w.gr).trans g3
      rcases hx with hx | hx
      · exact ⟨t, _, hx, G3, E3, fun σ5 G5 H5 g5 E5 => ⟨G5, g4.trans g5, E5⟩⟩
      · exact ⟨t, _, hx, G3, E3, fun σ5 G5 H5 g5 E5 => ⟨G5, g4.trans g5, E5⟩⟩
    · have e : i = ds.length := by omega
      subst e
      exact .inl ⟨y.stop _ G' H g'.ex E'.ex (Nat.le_refl _), k σ G' H (g1.trans g') E'⟩⟩⟩
theorem xp_forX (S : Nat → Store) (m : Nat) (hm : ds[m]? = some d) (hi : XI c X tg iter st ds (S 0)) (hb : ∀ i d, i < m → ds[i]? = some d → Turns c X tg body d (S i) (S (i + 1))) (hl : Leaves c X tg body d (S m) o) (hc : X.calm = true := by rfl) (hp : PassesOwn (model X.prog X.w) X.A X.env X.xe := by exact PassesOwn.never)
    (hs : ∀ x, foldedSetIterable iter X.env x = pure x := by intro _; rfl) : XP c X (.For tg iter body [] pos) st o :=
  ⟨ps_weak (ps_for hp hc hi.pi (pg_any (c := c)) (pss_any (c := c)) hs) fun D σ0 H0 ⟨G, E, k⟩ => ⟨G, E, fun J G1 H1 g1 E1 y => by
    have ml : m < ds.length := (List.getElem?_eq_some_iff.mp hm).1
    refine ⟨fun i n σ H => n = m - i ∧ i ≤ m ∧ ∃ G', Gr G1 H1 G' H (own σ0 (S 0)) (own σ (S i)) ∧ En c.K c.T c.pa G' H σ (S i), ⟨_, rfl, Nat.zero_le _, G1, Gr.refl, E1⟩, ?_⟩
    rintro i n σ H ⟨rfl, hi, G', g', E'⟩
    by_cases hlt : i < m
    · refine .inr ⟨y.go i G' H g'.ex E'.ex (by omega), fun σ2 H2 => ∃ G2, Gr G1 H1 G2 H2 (own σ0 (S 0)) (own σ2 (S (i + 1))) ∧ En c.K c.T c.pa G2 H2 σ2 (S (i + 1)), fun σ2 H2 q => ⟨m - (i + 1), by omega, rfl, hlt, q⟩, fun x H2 yl => ?_⟩
      obtain ⟨G2, d, w, hd, rd⟩ := y.yl i G' H x H2 g'.ex E'.ex (by omega) yl
      obtain ⟨t, hg, hx⟩ := hb i d hlt hd
      refine ⟨d, S i, t, hg, G2, E'.g1 w, rd, fun σ3 G3 H3 g3 E3 => ?_⟩
      have g4 := (g'.trans w.gr).trans g3
      rcases hx with hx | hx
      · exact ⟨t, _, hx, G3, E3, fun σ5 G5 H5 g5 E5 => ⟨G5, g4.trans g5, E5⟩⟩
      · exact ⟨t, _, hx, G3, E3, fun σ5 G5 H5 g5 E5 => ⟨G5, g4.trans g5, E5⟩⟩
    · have e : i = m := by omega
      subst e
      refine .inr ⟨y.go i G' H g'.ex E'.ex ml, fun _ _ => False, fun _ _ q => q.elim, fun x H2 yl => ?_⟩
      obtain ⟨G2, d', w, hd, rd⟩ := y.yl i G' H x H2 g'.ex E'.ex ml yl
      rw [hm] at hd
      cases hd
      obtain ⟨t, hg, hx⟩ := hl
      refine ⟨d, S i, t, hg, G2, E'.g1 w, rd, fun σ3 G3 H3 g3 E3 => ?_⟩
      have g4 := g1.trans ((g'.trans w.gr).trans g3)
      rcases hx with ⟨r, s', rfl, hx⟩ | ⟨s', rfl, hx⟩
      · exact ⟨t, _, hx, G3, E3, fun v σ5 G5 H5 g5 E5 r5 => k v σ5 G5 H5 (g4.trans g5) E5 r5⟩
      · exact ⟨t, _, hx, G3, E3, fun σ5 G5 H5 g5 E5 => k σ5 G5 H5 (g4.trans g5) E5⟩⟩⟩

/-! ### while -/
theorem xp_while {t : Expr} (S S' : Nat → Store) (n : Nat) (hb : ∀ i, i < n → XT c X t (S i) true (S' i) ∧ (XS c X body (S' i) (.nx (S (i + 1))) ∨ XS c X body (S' i) (.ct (S (i + 1))))) (he : XT c X t (S n) false st1) (hp : PassesOwn (model X.prog X.w) X.A X.env X.xe := by exact PassesOwn.never) :
    XP c X (.While t body [] pos) (S 0) (.nx st1) :=
  ⟨ps_weak (ps_while hp (pt_any (c := c)) (pss_any (c := c))) fun D σ0 H0 ⟨G, E, k⟩ => by
    refine ⟨fun m σ H => ∃ i, i ≤ n ∧ m = n - i ∧ ∃ G', Gr G H0 G' H (own σ0 (S 0)) (own σ (S i)) ∧ En c.K c.T c.pa G' H σ (S i), ⟨n, 0, Nat.zero_le _, rfl, G, Gr.refl, E⟩, ?_⟩
    rintro m σ H ⟨i, hi, rfl, G', g', E'⟩
    by_cases hlt : i < n
    · obtain ⟨ht, hx⟩ := hb i hlt
      refine ⟨_, _, _, ht, G', E', fun G1 H1 g1 E1 => ?_⟩
      refine L2.iteT ⟨fun σ2 H2 => ∃ G2, Gr G H0 G2 H2 (own σ0 (S 0)) (own σ2 (S (i + 1))) ∧ En c.K c.T c.pa G2 H2 σ2 (S (i + 1)), fun σ2 H2 q => ⟨n - (i + 1), by omega, i + 1, hlt, rfl, q⟩, ?_⟩
      have g4 := g'.trans g1
      rcases hx with hx | hx
      · exact ⟨_, _, hx, G1, E1, fun σ5 G5 H5 g5 E5 => ⟨G5, g4.trans g5, E5⟩⟩
      · exact ⟨_, _, hx, G1, E1, fun σ5 G5 H5 g5 E5 => ⟨G5, g4.trans g5, E5⟩⟩
    · have e : i = n := by omega
      subst e
      refine ⟨_, _, _, he, G', E', fun G1 H1 g1 E1 => ?_⟩
      exact L2.iteF (k σ G1 H1 (g'.trans g1) E1)⟩

/-! ### comprehensions of one name -/
theorem wipe_get {σ : L2.St} {i : Nat} : ∀ {vs : List Nat}, i ∉ vs → (wipe σ vs)[i]? = σ[i]?
  | [], _ => rfl
  | q :: vs, ni => by
    unfold wipe
    rw [List.getElem?_set_ne (fun z => ni (by rw [z]; exact List.mem_cons_self))]
    exact wipe_get fun z => ni (List.mem_cons_of_mem _ z)
theorem En.forget {vs : List Nat} (E : En c.K c.T c.pa G H σ st) (hn : ∀ i ∈ vs, st[i]? = some none) : En c.K c.T c.pa G H (wipe σ vs) st := by
  have keep : ∀ (i : Nat) (s : Sv), st[i]? = some (some s) → (wipe σ vs)[i]? = σ[i]? := fun i s h => wipe_get fun z => by rw [hn i z] at h; cases h
  exact ⟨E.ex, fun i s h => by rw [keep i s h]; exact E.sl i s h, fun i j s t a h1 h2 o1 o2 h3 h4 => E.ds i j s t a h1 h2 o1 o2 (by rw [← keep i s h1]; exact h3) (by rw [← keep j t h2]; exact h4), by rw [wipe_length]; exact E.len⟩
theorem En.remember {vs : List Nat} (E : En c.K c.T c.pa G H (wipe σ vs) st) (hn : ∀ i ∈ vs, st[i]? = some none) : En c.K c.T c.pa G H σ st := by
  have keep : ∀ (i : Nat) (s : Sv), st[i]? = some (some s) → (wipe σ vs)[i]? = σ[i]? := fun i s h => wipe_get fun z => by rw [hn i z] at h; cases h
  exact ⟨E.ex, fun i s h => by rw [← keep i s h]; exact E.sl i s h, fun i j s t a h1 h2 o1 o2 h3 h4 => E.ds i j s t a h1 h2 o1 o2 (by rw [keep i s h1]; exact h3) (by rw [keep j t h2]; exact h4), by rw [← wipe_length σ vs]; exact E.len⟩
theorem own_wipe {vs : List Nat} {p : Addr} (hn : ∀ i ∈ vs, st[i]? = some none) : own (wipe σ vs) st p ↔ own σ st p := by
  have keep : ∀ (i : Nat) (s : Sv), st[i]? = some (some s) → (wipe σ vs)[i]? = σ[i]? := fun i s h => wipe_get fun z => by rw [hn i z] at h; cases h
  exact ⟨fun ⟨i, s, h1, h2, h3⟩ => ⟨i, s, h1, h2, by rw [← keep i s h1]; exact h3⟩, fun ⟨i, s, h1, h2, h3⟩ => ⟨i, s, h1, h2, by rw [keep i s h1]; exact h3⟩⟩

/-- the block's context -/
abbrev BlkC (X : Cx) (s : Shared) (H : Hp) (scope : Scope) (C : Addr) (cl : List (Str × Addr)) (fp : List Addr) : Cx := X.blk s H scope (compEnvC scope cl C X.env) fp
/-- what a turn gives: nothing, or a value -/
def collect : List (Option Dt) → List Dt
  | [] => []
  | none :: r => collect r
  | some d :: r => d :: collect r
theorem collect_app : ∀ (xs ys : List (Option Dt)), collect (xs ++ ys) = collect xs ++ collect ys
  | [], _ => rfl
  | none :: r, ys => collect_app r ys
  | some d :: r, ys => congrArg (d :: ·) (collect_app r ys)
theorem collect_len : ∀ (xs : List (Option Dt)), (collect xs).length ≤ xs.length
  | [] => Nat.le_refl _
  | none :: r => Nat.le_succ_of_le (collect_len r)
  | some d :: r => Nat.succ_le_succ (collect_len r)
/-- the tests of one turn -/
inductive Tests (c : Ctx) (X : Cx) (scope : Scope) : List Expr → Store → Bool → Store → Prop where
  | nil {s} : Tests c X scope [] s true s
  | one {t s b s'} : (∀ sh H C cl fp, XT c (BlkC X sh H scope C cl fp) t s b s') → Tests c X scope [t] s b s'
def ttTests (c : Ctx) (X : Cx) (scope : Scope) : List Expr → TT
  | [] => tYes
  | [t] => fun σ H Q => ∃ s b s', (∀ sh H C cl fp, XT c (BlkC X sh H scope C cl fp) t s b s') ∧ tB' c s b s' σ H Q
  | _ => fun _ _ _ => False
theorem pts_tests {scope : Scope} (ifs : List Expr) (hl : ifs.length ≤ 1) (s : Shared) (H : Hp) (C : Addr) (cl : List (Str × Addr)) (fp : List Addr) : PTs (BlkC X s H scope C cl fp) ifs (ttTests c X scope ifs) := by
  match ifs, hl with
  | [], _ => exact pts_nil
  | [t], _ => exact pts_one ⟨fun pins s' σ H' Q I ⟨st, b, st', h, q⟩ => (h s H C cl fp).pt.run pins s' σ H' Q I q⟩
/-- the slots of the comprehension's names are empty again -/
def wipeS (s : Store) : List Nat → Store
  | [] => s
  | v :: vs => (wipeS s vs).set v none
theorem En.unset {i : Nat} (E : En c.K c.T c.pa G H σ st) : En c.K c.T c.pa G H (σ.set i none) (st.set i none) where
  ex := E.ex
  sl := fun j s h => by
    rcases set_cases h with ⟨_, e, _⟩ | ⟨n, h⟩
    · cases e
    · obtain ⟨w, h1, h2⟩ := E.sl j s h
      exact ⟨w, by rw [List.getElem?_set_ne (Ne.symm n)]; exact h1, h2⟩
  ds := fun j k s t p h1 h2 o1 o2 h3 h4 => by
    rcases set_cases h1 with ⟨_, e, _⟩ | ⟨n, h1⟩
    · cases e
    · rcases set_cases h2 with ⟨_, e, _⟩ | ⟨n', h2⟩
      · cases e
      · rw [List.getElem?_set_ne (Ne.symm n)] at h3
        rw [List.getElem?_set_ne (Ne.symm n')] at h4
        exact E.ds j k s t p h1 h2 o1 o2 h3 h4
  len := by rw [List.length_set, List.length_set, E.len]
theorem own_unset {i : Nat} {p : Addr} (h : own (σ.set i none) (st.set i none) p) : own σ st p := by
  obtain ⟨j, s, h1, h2, h3⟩ := h
  rcases set_cases h1 with ⟨_, e, _⟩ | ⟨n, h1⟩
  · cases e
  · rw [List.getElem?_set_ne (Ne.symm n)] at h3
    exact ⟨j, s, h1, h2, h3⟩
theorem En.wipeS (E : En c.K c.T c.pa G H σ st) : ∀ vs : List Nat, En c.K c.T c.pa G H (wipe σ vs) (wipeS st vs)
  | [] => E
  | _ :: vs => (E.wipeS vs).unset
theorem own_wipeS {p : Addr} : ∀ {vs : List Nat}, own (wipe σ vs) (wipeS st vs) p → own σ st p
  | [], h => h
  | _ :: _, h => own_wipeS (own_unset h)
/-- a target of a comprehension, on data: d is stored, s becomes s' -/
structure Tgt (c : Ctx) (g : TG) (vs : List Nat) (d : Dt) (s s' : Store) : Prop where
  go : ∀ (σ : L2.St) (G H : Hp) (x : V) (Q : L2.St → Hp → Prop), En c.K c.T c.pa G H (wipe σ vs) s → Rep c.K c.T G d x →
    (∀ σ2, wipe σ2 vs = wipe σ vs → En c.K c.T c.pa G H σ2 s' → (∀ p, own σ2 s' p → own (wipe σ vs) s p) → Q σ2 H) → g x (wipe σ vs) H Q
theorem tgt_name {jx : Nat} {s : Store} : Tgt c (gName jx) [jx] d s (s.set jx (some (.fr d))) := ⟨fun σ G H x Q E r k => by
  refine k _ ?_ (E.setFr r jx) fun p h => own_setFr h
  show (((σ.set jx none).set jx (some x)).set jx none) = σ.set jx none
  rw [List.set_set, List.set_set]⟩
theorem tgt_pair {K : PySem.W.Frag} {j1 j2 : Nat} {s : Store} (hK : c.K = K) (hj : j1 ≠ j2) : Tgt c (gTup K 2 (gCons (gName j1) (gCons (gName j2) gNil))) [j1, j2] (.tup [d1, d2]) s ((s.set j1 (some (.fr d1))).set j2 (some (.fr d2))) := ⟨fun σ G H x Q E r k => by
  obtain ⟨a, vs, rfl, h1, h2⟩ := r.tup_inv
  cases h2 with
  | cons r1 h2 =>
    cases h2 with
    | cons r2 h2 =>
      cases h2
      refine ⟨a, _, rfl, by rw [← hK]; exact E.ex.st h1, rfl, _, _, rfl, _, _, rfl, rfl, k _ ?_ ((E.setFr r1 j1).setFr r2 j2) fun p h => own_setFr (own_setFr h)⟩
      show ((((((σ.set j2 none).set j1 none).set j1 (some _)).set j2 (some _)).set j2 none).set j1 none) = (σ.set j2 none).set j1 none
      rw [List.set_set, List.set_set, List.set_comm _ _ hj]
      rw [List.set_set]
      first
        | rfl
        | (rw [List.set_set])
        | (rw [List.set_comm _ _ hj, List.set_set])⟩
/-- one turn: the item is stored; then the tests; then the element -/
def LcTurn (c : Ctx) (X : Cx) (g : TG) (vs : List Nat) (scope : Scope) (ifs : List Expr) (elt : Expr) (d : Dt) (s : Store) (r : Option Dt) (s' : Store) : Prop :=
  ∃ s0 b s1, Tgt c g vs d s s0 ∧ Tests c X scope ifs s0 b s1 ∧
    ((b = false ∧ r = none ∧ s' = wipeS s1 vs) ∨ (b = true ∧ ∃ v s2, r = some v ∧ s' = wipeS s2 vs ∧ ∀ sh H C cl fp, XD c (BlkC X sh H scope C cl fp) elt s1 v s2))
def teAny (c : Ctx) (X : Cx) (scope : Scope) (elt : Expr) : TE := fun σ H Q => ∃ s v s2, (∀ sh H C cl fp, XD c (BlkC X sh H scope C cl fp) elt s v s2) ∧ tD c s v s2 σ H Q
theorem pe_teAny {scope : Scope} {elt : Expr} (s : Shared) (H : Hp) (C : Addr) (cl : List (Str × Addr)) (fp : List Addr) : PE (BlkC X s H scope C cl fp) elt (teAny c X scope elt) :=
  ⟨fun pins s' σ H' Q I ⟨st, v, s2, h, q⟩ => (h s H C cl fp).pe.run pins s' σ H' Q I q⟩
/-- the comprehension's reading, from its turns: rs what they give, S the stores between them -/
theorem lc_go {g : TG} {vw : List Nat} {scope : Scope} {ifs : List Expr} {elt : Expr} {wi : TI} {S : Nat → Store} {rs : List (Option Dt)} (hwi : ∀ σ H R, tI c st ds (S 0) σ H R → wi σ H R) (hlen : rs.length = ds.length) (hsz : ds.length ≤ 100000)
    (hn : ∀ i, i ≤ ds.length → ∀ q ∈ vw, (S i)[q]? = some none) (hb : ∀ i d r, ds[i]? = some d → rs[i]? = some r → LcTurn c X g vw scope ifs elt d (S i) r (S (i + 1))) :
    ∀ σ H Q, tL c st (collect rs) (S ds.length) σ H Q → tLc wi g (ttTests c X scope ifs) (teAny c X scope elt) vw σ H Q := fun σ H Q ⟨G, E, k⟩ => hwi σ H _ ⟨G, E, fun J G1 H1 g1 E1 y D hD => by
  have F1 := E1.forget (hn 0 (Nat.zero_le _))
  let I := fun (i m : Nat) (H' : Hp) => m = ds.length - i ∧ i ≤ ds.length ∧ ∃ G' vs, Gr G1 H1 G' H' (own σ (S 0)) (own σ (S i)) ∧ En c.K c.T c.pa G' H' (wipe σ vw) (S i) ∧ G' D = none ∧ ¬ own σ (S i) D ∧ H' D = some (.lst vs) ∧ Reps c.K c.T G' (collect (rs.take i)) vs
  have nO : ¬ own σ (S 0) D := E1.notOwn hD
  refine ⟨I, ⟨_, rfl, Nat.zero_le _, G1, [], (E1.lay hD).2, (F1.lay hD).1, E1.ex.none hD, nO, upd_same, .nil⟩, ?_⟩
  rintro i m H' ⟨rfl, hi, G', vs, g', E', hGD, hOD, hHD, rv⟩
  by_cases hlt : i < ds.length
  · refine .inr ⟨y.go i G' H' g'.ex E'.ex hlt, fun H2 => I (i + 1) (ds.length - (i + 1)) H2, fun H2 q => ⟨_, by omega, q⟩, fun x H2 yl => ?_⟩
    obtain ⟨G2, d, w, hd, rd⟩ := y.yl i G' H' x H2 g'.ex E'.ex hlt yl
    have hri : rs[i]? = some (rs[i]'(by omega)) := List.getElem?_eq_getElem _
    obtain ⟨s0, b, s1, hg, hT, hE⟩ := hb i d _ hd hri
    refine hg.go σ G2 H2 x _ (E'.g1 w) rd fun σ2 hw E2 ho2 => ⟨hw, ?_⟩
    have ow : ∀ p, own (wipe σ vw) (S i) p ↔ own σ (S i) p := fun p => own_wipe (hn i hi)
    have g2 : Gr G1 H1 G2 H2 (own σ (S 0)) (own σ2 s0) := g'.trans ((w.gr.weakO ho2).fromO fun p h => (ow p).mp h)
    have notO : ∀ (O2 O3 : Addr → Prop) (Ga Ha Gb Hb : Hp), Gr Ga Ha Gb Hb O2 O3 → Ha D ≠ none → ¬ O2 D → ¬ O3 D := fun O2 O3 Ga Ha Gb Hb g h1 h2 h3 => (g.ow D h3).elim h2 h1
    have hHD2 : H2 D = some (.lst vs) := w.hx _ _ hHD
    have hGD2 : G2 D = none := by
      cases q : G2 D with
      | none => rfl
      | some u =>
        rcases w.nw D u q with z | z
        · rw [hGD] at z; cases z
        · rw [hHD] at z; cases z
    have hOD2 : ¬ own σ2 s0 D := fun z => hOD ((ow D).mp (ho2 D z))
    -- the slots behind the turn
    have back : ∀ {Ga Ha : Hp} {sx : Store}, En c.K c.T c.pa Ga Ha σ2 sx → S (i + 1) = wipeS sx vw → En c.K c.T c.pa Ga Ha (wipe σ vw) (S (i + 1)) := fun {Ga Ha sx} E es => by
      rw [es, ← hw]; exact E.wipeS vw
    have ownB : ∀ {sx : Store}, S (i + 1) = wipeS sx vw → ∀ p, own σ (S (i + 1)) p → own σ2 sx p := fun {sx} es p h => by
      have h' := (own_wipe (hn (i + 1) hlt)).mpr h
      rw [es, ← hw] at h'
      exact own_wipeS h'
    have key : ∀ G3 H3, Gr G2 H2 G3 H3 (own σ2 s0) (own σ2 s1) → En c.K c.T c.pa G3 H3 σ2 s1 →
        (if b = true then teAny c X scope elt σ2 H3 (fun y' H4 => ∃ acc, H4 D = some (.lst acc) ∧ acc.length < sizeLine ∧ I (i + 1) (ds.length - (i + 1)) (upd H4 D (.lst (acc ++ [y'])))) else I (i + 1) (ds.length - (i + 1)) H3) := fun G3 H3 g3 E3 => by
      have hOD3 := notO _ _ _ _ _ _ g3 (by rw [hHD2]; simp) hOD2
      have hHD3 : H3 D = some (.lst vs) := g3.fr D _ hHD2 hOD2
      have stay : ∀ {Ga Ha Gb Hb : Hp} {O2 O3 : Addr → Prop}, Gr Ga Ha Gb Hb O2 O3 → Ga D = none → (∃ u, Ha D = some u) → ¬ O2 D → Gb D = none := fun {Ga Ha Gb Hb O2 O3} g h1 ⟨u, h2⟩ h3 => by
        cases q : Gb D with
        | none => rfl
        | some u =>
          rcases g.nw D u q with z | z | z
          · rw [h1] at z; cases z
          · rw [h2] at z; cases z
          · exact absurd z h3
      have hGD3 : G3 D = none := stay g3 hGD2 ⟨_, hHD2⟩ hOD2
      have take : rs.take (i + 1) = rs.take i ++ [rs[i]'(by omega)] := by rw [List.take_succ, hri]; rfl
      rcases hE with ⟨rfl, er, es'⟩ | ⟨rfl, v, s2, er, es', hv⟩
      · refine L2.iteF ?_
        refine ⟨rfl, hlt, G3, vs, (g2.trans g3).weakO (ownB es'), back E3 es', hGD3, fun z => hOD3 (ownB es' D z), hHD3, ?_⟩
        rw [take, collect_app, er]
        show Reps _ _ _ (collect (rs.take i) ++ []) vs
        rw [List.append_nil]
        exact (rv.ex w.ex).ex g3.ex
      · refine L2.iteT ?_
        refine ⟨s1, v, s2, hv, G3, E3, fun y' G4 H4 g4 E4 r4 => ?_⟩
        have hOD4 := notO _ _ _ _ _ _ g4 (by rw [hHD3]; simp) hOD3
        have hHD4 : H4 D = some (.lst vs) := g4.fr D _ hHD3 hOD3
        have hGD4 : G4 D = none := stay g4 hGD3 ⟨_, hHD3⟩ hOD3
        have lv : vs.length ≤ ds.length := by
          rw [← rv.length]
          refine Nat.le_trans (collect_len _) ?_
          rw [List.length_take]; omega
        refine ⟨vs, hHD4, Nat.lt_of_le_of_lt lv (Nat.lt_of_le_of_lt hsz (by decide)), ?_⟩
        have E5 := back E4 es'
        have nD5 : ¬ own σ (S (i + 1)) D := fun z => hOD4 (ownB es' D z)
        have g5 := (g2.trans (g3.trans g4)).weakO (ownB es')
        refine ⟨rfl, hlt, G4, vs ++ [y'], ⟨g5.ex, g5.nw, fun p o h n => ?_, fun p h => ?_, g5.ow⟩, ⟨fun p o h => ?_, fun j s h => ?_, E5.ds, E5.len⟩, hGD4, nD5, upd_same, ?_⟩
        · rw [upd_ne (ne_of_none h hD)]; exact g5.fr p o h n
        · by_cases z : p = D
          · subst z; rw [upd_same]; simp
          · rw [upd_ne z]; exact g5.al p h
        · have z : p ≠ D := fun z => by subst z; rw [hGD4] at h; cases h
          rw [upd_ne z]; exact E5.ex p o h
        · obtain ⟨w', q1, q2⟩ := E5.sl j s h
          have noD : ∀ q, s.isOw = true → w' = .ref q → q ≠ D := fun q o z1 z2 => nD5 ((own_wipe (hn (i + 1) hlt)).mp ⟨j, s, h, o, by rw [q1, z1, z2]⟩)
          refine ⟨w', q1, ?_⟩
          cases s with
          | fr d => exact q2
          | ex _ _ _ => exact q2
          | ow ys =>
            obtain ⟨b, ws, e, m1, m2, m3⟩ := q2
            exact ⟨b, ws, e, m1, by rw [upd_ne (noD b rfl e)]; exact m2, m3⟩
          | pr kk ys =>
            obtain ⟨ws, e, m1, m2, m3⟩ := q2
            exact ⟨ws, e, m1, by rw [upd_ne (noD _ rfl e)]; exact m2, m3⟩
          | bo mm fs =>
            obtain ⟨C, ns, dx, ws, t, e, m1, m2, m3⟩ := q2
            exact ⟨C, ns, dx, ws, t, e, m1, by rw [upd_ne (noD _ rfl e)]; exact m2, m3⟩
        · rw [take, collect_app, er]
          exact ((((rv.ex w.ex).ex g3.ex).ex g4.ex)).app (.cons r4 .nil)
    cases hT with
    | nil => exact key G2 H2 Gr.refl E2
    | one h => exact ⟨_, b, s1, h, G2, E2, fun G3 H3 g3 E3 => key G3 H3 g3 E3⟩
  · have e : i = ds.length := by omega
    subst e
    refine .inl ⟨y.stop _ G' H' g'.ex E'.ex (Nat.le_refl _), ?_⟩
    rw [List.take_of_length_le (by omega)] at rv
    exact k D vs G' H' (g1.trans g') (E'.remember (hn _ (Nat.le_refl _))) hOD (g1.none hD) hGD hHD rv⟩
theorem xl_lc {scope : Scope} {ifs : List Expr} {elt tg : Expr} {g : TG} {ow : List (Str × Nat)} (S : Nat → Store) (rs : List (Option Dt)) (hN : X.N.Nodup) (hi : XI c X tg iter st ds (S 0)) (hlen : rs.length = ds.length) (hsz : ds.length ≤ 100000) (hn : ∀ i, i ≤ ds.length → ∀ q ∈ ow.map (·.2), (S i)[q]? = some none)
    (hb : ∀ i d r, ds[i]? = some d → rs[i]? = some r → LcTurn c X g (ow.map (·.2)) scope ifs elt d (S i) r (S (i + 1)))
    (hg : ∀ (s : Shared) (H : Hp) (C : Addr) (cl : List (Str × Addr)) (fp : List Addr), PG (BlkC X s H scope C cl fp) tg g) (hifs : ifs.length ≤ 1 := by decide) (ok : BlkOk X.N X.env.scope scope ow := by exact blkOk_by (by decide +kernel))
    (hc : X.calm = true := by rfl) (hs : ∀ x, foldedSetIterable iter X.env x = pure x := by intro _; rfl) :
    XL c X (.ListComp elt [⟨tg, iter, ifs, 0⟩] scope pos) st (collect rs) (S ds.length) :=
  ⟨pe_weak (pe_lc (own := ow) hc hN hi.pi ok hg (pts_tests ifs hifs) (pe_teAny (c := c) (scope := scope)) hs) (lc_go (fun _ _ _ h => h) hlen hsz hn hb)⟩
/-- name = [..], known or one's own -/
theorem xp_setLc (i : Nat) {y : Str} {py spos : Pos} {scope : Scope} {ifs : List Expr} {elt tg : Expr} {g : TG} {ow : List (Str × Nat)} (S : Nat → Store) (rs : List (Option Dt)) (own? : Bool) (hN : X.N.Nodup) (hi : XI c X tg iter st ds (S 0)) (hlen : rs.length = ds.length) (hsz : ds.length ≤ 100000) (hn : ∀ i, i ≤ ds.length → ∀ q ∈ ow.map (·.2), (S i)[q]? = some none)
    (hb : ∀ i d r, ds[i]? = some d → rs[i]? = some r → LcTurn c X g (ow.map (·.2)) scope ifs elt d (S i) r (S (i + 1)))
    (hg : ∀ (s : Shared) (H : Hp) (C : Addr) (cl : List (Str × Addr)) (fp : List Addr), PG (BlkC X s H scope C cl fp) tg g) (hifs : ifs.length ≤ 1 := by decide) (ok : BlkOk X.N X.env.scope scope ow := by exact blkOk_by (by decide +kernel))
    (hy : X.N[i]? = some y := by rfl) (hyl : X.env.scope.names.lookup y = some .local := by rfl) (hsw : swapsWith (.ListComp elt [⟨tg, iter, ifs, 0⟩] scope pos) (some (.Name y py)) spos.line X.env = pure true := by exact sw_true rfl rfl rfl (by decide +kernel))
    (hc : X.calm = true := by rfl) (hs : ∀ x, foldedSetIterable iter X.env x = pure x := by intro _; rfl) :
    XP c X (.Assign [.Name y py] (.ListComp elt [⟨tg, iter, ifs, 0⟩] scope pos) spos) st (.nx ((S ds.length).set i (some (if own? = true then .ow (collect rs) else .fr (.lst (collect rs)))))) :=
  ⟨ps_weak (ps_setLc (own := ow) hc hN hy hyl hsw hi.pi ok hg (pts_tests ifs hifs) (pe_teAny (c := c) (scope := scope)) hs) fun D σ H ⟨G, E, k⟩ => lc_go (fun _ _ _ h => h) hlen hsz hn hb σ H _ ⟨G, E, fun p vs G1 H1 g1 E1 no hp hn' hl r => by
    cases own? with
    | true => exact k _ G1 H1 ⟨g1.ex, g1.nw, g1.fr, g1.al, fun q z => (own_setOw z).elim (g1.ow q) fun y => .inr (by rw [y]; exact hp)⟩ (E1.setOw no hn' hl r i)
    | false =>
      have E2 := (E1.know no hn' hl).setFr (d := .lst (collect rs)) (.lst upd_same (r.ex (Ex.new hn'))) i
      refine k _ _ H1 ⟨g1.ex.trans (Ex.new hn'), fun q o z => ?_, g1.fr, g1.al, fun q z => g1.ow q (own_setFr z)⟩ E2
      by_cases y : q = p
      · subst y; exact .inr (.inl hp)
      · rw [upd_ne y] at z; exact g1.nw q o z⟩⟩
end Dv
set_option autoImplicit true
set_option maxRecDepth 100000
namespace Dv
open PySem PySem.Spec PyProof.Rows L2

variable {c : Ctx} {X : Cx} {st st1 st2 st3 st' : Store} {a b e tg iter : Expr} {es : List Expr} {d d1 d2 d' : Dt} {ds xs ys zs : List Dt} {pos : Pos} {G G' H H' : Hp} {σ σ' : L2.St} {v : V} {i j : Nat} {body : List Stmt} {o : Out}

/-! ### a def that changes the list in its first argument -/
def spM (K : PySem.W.Frag) (T : Ct) (R : List Dt → List Dt → Dt → List Dt → Prop) : Sp := fun vs H Q _ => ∃ a vs' G ws xs ds r xs', vs = .ref a :: vs' ∧ Ex G H ∧ G a = none ∧ H a = some (.lst ws) ∧ Reps K T G xs ws ∧ Reps K T G ds vs' ∧ R xs ds r xs' ∧
  ∀ v G' H' ws', Gr G H G' H' (· = a) (· = a) → Ex G' H' → G' a = none → H' a = some (.lst ws') → Reps K T G' xs' ws' → Rep K T G' r v → Q v H'
theorem xd_callM (i : Nat) {s : Sv} {CX : CXT} {k : Nat} {f : Addr} {fd : FuncData} {ps : List Str} {R : List Dt → List Dt → Dt → List Dt → Prop} {x y : Str} {p py : Pos}
    (F : FnOk X.prog X.w X.K X.mg X.base CX k f fd ps (spM c.K c.T R)) (hr : Room k X.A) (hm : X.mg x = some (.ref f)) (hk : PySem.W.keepIn X.K (.ref f) = true) (hb : Binds X.K fd ps [])
    {E : XK} (hx : Passes CX X E) (h : XA c X es st ds st1) (hi : st[i]? = some (some s)) (hi1 : st1[i]? = some (some s)) (hs : s.Has xs) (hR : R xs ds d ys) (hg : Gl X x := by rfl) (hdb : (x == ("__debug__" : Str)) = false := by decide)
    (hN : X.N[i]? = some y := by rfl) (hv : Vis X.env.scope y := by first | exact Or.inl rfl | exact Or.inr (Or.inl rfl) | exact Or.inr (Or.inr rfl)) (hd : (y == ("__debug__" : Str)) = false := by decide) (hcd : (y == ("__classdict__" : Str)) = false := by decide)
    (he : starEach (.Name y py :: es) X.env = (false, eval (.Name y py) X.env) :: starEach es X.env := by rfl) (hpl : (backTo pos (starEach es X.env)).any (·.1) = false := by rfl) :
    XD c X (.Call (.Name x p) (.Name y py :: es) [] pos) st d (st1.set i (some (s.with ys))) :=
  ⟨pe_weak (pe_call F hr hg hm hk hb .nil hx (pa_cons (pe_var hN hv hd hcd) h.pa he) hdb he hpl) fun σ H Q ⟨G, E, k⟩ => by
    obtain ⟨a, ws0, z1, z2, z3, z4, z5, z6⟩ := E.at hi hs
    refine ⟨_, z1, G, E, fun vs G1 H1 g1 E1 r1 => ?_⟩
    obtain ⟨a', ws, y1, y2, y3, y4, y5, y6⟩ := E1.at hi1 hs
    rw [z1] at y1
    cases y1
    refine ⟨a, vs, G1, ws, xs, ds, d, ys, by simp, E1.ex, y2, y3, y4, r1, hR, fun v G2 H2 ws' g2 e2 n2 l2 r2 rv => ?_⟩
    obtain ⟨E3, g3⟩ := E1.mut hi1 hs z1 g2 e2 n2 l2 r2
    exact k v G2 H2 (g1.trans g3) E3 rv⟩
def st0M (N : List Str) (xs ds : List Dt) : Store := some (.pr 0 xs) :: (ds.map (fun d => some (.fr d)) ++ List.replicate (N.length - (ds.length + 1)) none)
theorem En.startM {pa : Nat → Addr} {N : List Str} {vs ws : List V} (e : Ex G H) (hn : G (pa 0) = none) (hl : H (pa 0) = some (.lst ws)) (rx : Reps c.K c.T G xs ws) (r : Reps c.K c.T G ds vs) : En c.K c.T pa G H (L2.start N (.ref (pa 0) :: vs)) (st0M N xs ds) := by
  have base := En.start (c := ⟨c.K, c.T, pa⟩) (N := N.tail) e r
  have e1 : L2.start N (.ref (pa 0) :: vs) = some (.ref (pa 0)) :: (vs.map some ++ List.replicate (N.length - (vs.length + 1)) none) := rfl
  rw [e1]
  refine ⟨e, fun i s h => ?_, fun i j s t a h1 h2 o1 o2 h3 h4 => ?_, by unfold st0M; simp [r.length]⟩
  · cases i with
    | zero => cases h; exact ⟨_, rfl, ws, rfl, hn, hl, rx⟩
    | succ i =>
      have h' : (ds.map (fun d => some (Sv.fr d)) ++ List.replicate (N.length - (ds.length + 1)) none)[i]? = some (some s) := h
      by_cases q : i < ds.length
      · rw [List.getElem?_append_left (by simpa using q), List.getElem?_map] at h'
        cases z : ds[i]? with
        | none => rw [z] at h'; cases h'
        | some d =>
          rw [z] at h'
          cases h'
          obtain ⟨v, h1, h2⟩ := r.get z
          refine ⟨v, ?_, h2⟩
          show (vs.map some ++ _)[i]? = _
          rw [List.getElem?_append_left (by rw [List.length_map, ← r.length]; exact q), List.getElem?_map, h1]; rfl
      · rw [List.getElem?_append_right (by simpa using q), List.getElem?_replicate] at h'
        split at h' <;> cases h'
  · have z : ∀ (i : Nat) s, (st0M N xs ds)[i]? = some (some s) → s.isOw = true → i = 0 := fun i s h o => by
      cases i with
      | zero => rfl
      | succ i =>
        exfalso
        have h' : (ds.map (fun d => some (Sv.fr d)) ++ List.replicate (N.length - (ds.length + 1)) none)[i]? = some (some s) := h
        by_cases q : i < ds.length
        · rw [List.getElem?_append_left (by simpa using q), List.getElem?_map] at h'
          cases z : ds[i]? with
          | none => rw [z] at h'; cases h'
          | some d => rw [z] at h'; cases h'; cases o
        · rw [List.getElem?_append_right (by simpa using q), List.getElem?_replicate] at h'
          split at h' <;> cases h'
    rw [z i s h1 o1, z j t h2 o2]
theorem own_startM {pa : Nat → Addr} {N : List Str} {vs : List V} {p : Addr} (h : own (L2.start N (.ref (pa 0) :: vs)) (st0M N xs ds) p) : p = pa 0 := by
  obtain ⟨i, s, h1, o1, h3⟩ := h
  cases i with
  | zero => cases h3; rfl
  | succ i =>
    exfalso
    have h' : (ds.map (fun d => some (Sv.fr d)) ++ List.replicate (N.length - (ds.length + 1)) none)[i]? = some (some s) := h1
    by_cases q : i < ds.length
    · rw [List.getElem?_append_left (by simpa using q), List.getElem?_map] at h'
      cases z : ds[i]? with
      | none => rw [z] at h'; cases h'
      | some d => rw [z] at h'; cases h'; cases o1
    · rw [List.getElem?_append_right (by simpa using q), List.getElem?_replicate] at h'
      split at h' <;> cases h'
theorem okM {P : Program} {w : World} {K : PySem.W.Frag} {T : Ct} {mg : Str → Option Value} {base : Heap} {x qual : Str} {sd : Stmt} {f : Addr} {fd : FuncData} {N ps : List Str} {k : Nat} {R : List Dt → List Dt → Dt → List Dt → Prop} (F : Fun K x qual sd f fd) (S : FnScope N ps (defScope sd)) (hl : ∀ xs ds r ys, R xs ds r ys → ds.length + 1 = ps.length)
    (body : ∀ (cdv : Value) (A : Around) (outer : List Env) (s : Shared) (H : Hp) (E : XK) (pa : Nat → Addr) (xs ds : List Dt) (r : Dt) (ys : List Dt), Room k (A.deeper (envOfC qual (defScope sd) s.heap.objs.size f cdv)) → R xs ds r ys →
      ∃ st', XS ⟨K, T, pa⟩ (bX P w K mg base N qual sd f cdv A outer s H E) (defBody sd) (st0M N xs ds) (.rt r st') ∧ st'[0]? = some (some (.pr 0 ys))) : FnOk P w K mg base CX0 (k + 1) f fd ps (spM K T R) := by
  refine F.ok S (fun vs H Q E h => ?_) (fun cdv A outer s H vs Q E hr h => ?_)
  · obtain ⟨a, vs', G, ws, xs, ds, r, ys, rfl, e, n, l, rx, rs, hR, _⟩ := h
    rw [List.length_cons, ← rs.length]; exact hl xs ds r ys hR
  · obtain ⟨a, vs', G, ws, xs, ds, r, ys, rfl, e, n, l, rx, rs, hR, kk⟩ := h
    obtain ⟨st', hb, hst⟩ := body cdv A outer s H E (fun _ => a) xs ds r ys hr hR
    refine ⟨_, hb.pss, G, En.startM (pa := fun _ => a) e n l rx rs, ?_⟩
    intro v σ' G' H' g E' r'
    obtain ⟨u, h1, h2⟩ := E'.sl 0 _ hst
    obtain ⟨ws', rfl, n', l', r2⟩ := h2
    refine kk v G' H' ws' ⟨g.ex, fun p o q => (g.nw p o q).imp id (Or.imp id fun z => own_startM (pa := fun _ => a) z), fun p o q nq => g.fr p o q fun z => nq (own_startM (pa := fun _ => a) z), g.al, fun p q => .inl q⟩ E'.ex n' l' r2 r'

/-! ### attributes of instances -/
theorem lookup_zip {ns : List Str} {vs : List V} {f : Str} {v : V} {i : Nat} (hi : ns.findIdx? (· == f) = some i) (hv : vs[i]? = some v) : (ns.zip vs).lookup f = some v := by
  induction ns generalizing vs i with
  | nil => cases hi
  | cons n ns ih =>
    cases vs with
    | nil => simp at hv
    | cons u vs =>
      rw [List.findIdx?_cons] at hi
      by_cases q : (n == f) = true
      · rw [if_pos q] at hi
        cases hi
        have : n = f := by simpa using q
        subst this
        simpa [List.zip, List.lookup] using hv
      · rw [if_neg q] at hi
        cases z : ns.findIdx? (· == f) with
        | none => rw [z] at hi; cases hi
        | some k =>
          rw [z] at hi
          cases hi
          have q' : (f == n) = false := by
            cases y : (f == n) with
            | false => rfl
            | true =>
              exfalso; apply q
              have : f = n := by simpa using y
              simp [this]
          show List.lookup f ((n, u) :: ns.zip vs) = some v
          unfold List.lookup
          rw [q']
          exact ih z (by simpa using hv)
/-- e.f: the i-th attribute -/
theorem xd_fld {n : Nat} {C : Addr} {ns : List Str} {fs : List Dt} {f : Str} {i : Nat} (h : XD c X e st (.obj n fs) st1) (hK : X.K = c.K) (hT : c.T n = some (C, ns)) (hc : Cls X.K C) (hna : NoAttr X.K C f) (hi : ns.findIdx? (· == f) = some i) (hd : fs[i]? = some d)
    (hb : attributeBase e f X.env (eval e X.env) = eval e X.env := by rfl) : XD c X (.Attribute e f pos) st d st1 :=
  ⟨pe_weak (pe_fld h.pe hb) fun σ H Q ⟨G, E, k⟩ => ⟨G, E, fun x G1 H1 g1 E1 r1 => by
    obtain ⟨C', ns', a, dx, vs, rfl, q1, q2, q3, q4⟩ := r1.obj_inv
    rw [hT] at q1
    cases q1
    obtain ⟨v, h1, h2⟩ := q4.get hd
    exact ⟨a, C, dx, _, v, rfl, E1.ex _ _ q2, hc, hna, lookup_zip hi h1, k v G1 H1 g1 E1 h2⟩⟩⟩

/-! ### more operations by values -/
theorem o_str {x y : Str} (hl : x.length + y.length ≤ 100000) : Op2 c (.str x) (.str y) (.str (x ++ y)) (fun x y H Q => ∃ i j, x = .str i ∧ y = .str j ∧ i.length + j.length ≤ sizeLine ∧ Q (.str (i ++ j)) H) := fun G H v u Q e r1 r2 k => by
  cases r1; cases r2; exact ⟨x, y, rfl, rfl, Nat.le_trans hl (by decide), kv_same k e .str⟩
theorem o_ixT {i : Int} {n : Nat} (hn : i = n) (hd : ds[n]? = some d) : Op2 c (.tup ds) (.int i) d (rIxT c.K) := fun G H v u Q e r1 r2 k => by
  obtain ⟨a, vs, rfl, h, r⟩ := r1.tup_inv
  cases r2
  obtain ⟨w, h1, h2⟩ := r.get hd
  exact ⟨a, vs, i, w, rfl, rfl, e.st h, by rw [hn]; exact atI_nat h1, kv_same k e h2⟩
theorem o_ixL {i : Int} {n : Nat} (hn : i = n) (hd : ds[n]? = some d) : Op2 c (.lst ds) (.int i) d (rIxL c.K) := fun G H v u Q e r1 r2 k => by
  obtain ⟨a, vs, rfl, h, r⟩ := r1.lst_inv
  cases r2
  obtain ⟨w, h1, h2⟩ := r.get hd
  exact ⟨a, vs, i, w, rfl, rfl, .inl (.inl (e _ _ h)), by rw [hn]; exact atI_nat h1, kv_same k e h2⟩
theorem o_ixR {i : Int} {n : Nat} (hn : i = n) (hd : ds[n]? = some d) : Op2 c (.ro ds) (.int i) d (rIxL c.K) := fun G H v u Q e r1 r2 k => by
  obtain ⟨a, vs, rfl, h, r⟩ := r1.ro_inv
  cases r2
  obtain ⟨w, h1, h2⟩ := r.get hd
  exact ⟨a, vs, i, w, rfl, rfl, e.sl h, by rw [hn]; exact atI_nat h1, kv_same k e h2⟩
theorem o_ixS {x : Str} {i : Int} {n : Nat} {q : Nat} (hl : x.length ≤ 100000) (hn : i = n) (hd : x.cps.toList[n]? = some q) : Op2 c (.str x) (.int i) (.str ⟨#[q]⟩) rIxS := fun G H v u Q e r1 r2 k => by
  cases r1; cases r2
  exact ⟨x, i, q, rfl, rfl, Nat.le_trans hl (by decide), by rw [hn]; exact atI_nat hd, kv_same k e .str⟩
theorem o_len (h : d1 = .lst ds ∨ d1 = .ro ds ∨ d1 = .tup ds) : OpN c [d1] (.int (ds.length : Int)) (fun xs H Q => ∃ p ys, xs = [.ref p] ∧ (SqL c.K H p ys ∨ SqT c.K H p ys) ∧ Q (.int ys.length) H) := fun G H vs Q e r k => by
  cases r with
  | cons r r' =>
    cases r'
    rcases h with rfl | rfl | rfl
    · obtain ⟨a, vs, rfl, h, r⟩ := r.lst_inv
      exact ⟨a, vs, rfl, .inl (.inl (.inl (e _ _ h))), by rw [← r.length]; exact kv_same k e .int⟩
    · obtain ⟨a, vs, rfl, h, r⟩ := r.ro_inv
      exact ⟨a, vs, rfl, .inl (e.sl h), by rw [← r.length]; exact kv_same k e .int⟩
    · obtain ⟨a, vs, rfl, h, r⟩ := r.tup_inv
      exact ⟨a, vs, rfl, .inr (e.st h), by rw [← r.length]; exact kv_same k e .int⟩
theorem o_int1 {i : Int} : OpN c [.int i] (.int i) (fun xs H Q => (∃ i, xs = [.int i] ∧ Q (.int i) H) ∨ ∃ k, xs = [.bl k] ∧ Q (.int (if k then 1 else 0)) H) := fun G H vs Q e r k => by
  cases r with
  | cons r r' => cases r'; cases r; exact .inl ⟨i, rfl, kv_same k e .int⟩
theorem o_intB {t : Bool} : OpN c [.bl t] (.int (if t then 1 else 0)) (fun xs H Q => (∃ i, xs = [.int i] ∧ Q (.int i) H) ∨ ∃ k, xs = [.bl k] ∧ Q (.int (if k then 1 else 0)) H) := fun G H vs Q e r k => by
  cases r with
  | cons r r' => cases r'; cases r; exact .inr ⟨t, rfl, kv_same k e .int⟩
theorem o_abs {i : Int} : OpN c [.int i] (.int (if i < 0 then -i else i)) (fun xs H Q => ∃ i, xs = [.int i] ∧ Q (.int (if i < 0 then -i else i)) H) := fun G H vs Q e r k => by
  cases r with
  | cons r r' => cases r'; cases r; exact ⟨i, rfl, kv_same k e .int⟩
theorem o_gcd {i j : Int} : OpN c [.int i, .int j] (.int ((Nat.gcd i.natAbs j.natAbs : Nat) : Int)) rGcd := fun G H vs Q e r k => by
  cases r with
  | cons r r' =>
    cases r' with
    | cons r2 r' => cases r'; cases r; cases r2; exact ⟨i, j, rfl, kv_same k e .int⟩

/-! ### == of data -/
mutual
def Dt.py : Dt → Option PyData
  | .non => some .none
  | .bl b => some (.bool b)
  | .int i => some (.int i)
  | .str x => some (.str x)
  | .lst xs => (Dt.pys xs).map .list
  | .ro xs => (Dt.pys xs).map .list
  | .tup xs => (Dt.pys xs).map .tuple
  | .obj _ _ => none
def Dt.pys : List Dt → Option (List PyData)
  | [] => some []
  | d :: r => match Dt.py d, Dt.pys r with
    | some p, some q => some (p :: q)
    | _, _ => none
end
end Dv
set_option autoImplicit true
set_option maxRecDepth 100000
namespace Dv
open PySem PySem.Spec PyProof.Rows L2

variable {c : Ctx} {X : Cx} {st st1 st2 st3 st' : Store} {a b e tg iter : Expr} {es : List Expr} {d d1 d2 d' : Dt} {ds xs ys zs fs : List Dt} {pos : Pos} {G G' H H' : Hp} {σ σ' : L2.St} {v : V} {i j : Nat} {body : List Stmt} {o : Out}

/-! ### own operators -/
theorem back_of {pins : List (Addr × Obj)} {Q : VK} {u : Value} {s' : Shared} (h : EP X pins σ Q u s') : PySem.W.CmpBack (EP X pins σ Q) u s' := by
  obtain ⟨w, H1, I1, r, q⟩ := id h
  cases w with
  | non => cases r; exact h
  | bl _ => cases r; exact h
  | int _ => obtain ⟨t, rfl⟩ := r; exact h
  | str _ => obtain ⟨t, rfl⟩ := r; exact h
  | byt _ => obtain ⟨t, rfl⟩ := r; exact h
  | flt _ => obtain ⟨t, rfl⟩ := r; exact h
  | ref _ => cases r; exact h
  | ty _ => cases r; exact h
/-- a method of the class at C, as it is called by an operator -/
structure OwnOp (K : PySem.W.Frag) (C : Addr) (m : Str) (f : Addr) : Prop where
  at_ : PySem.W.findIn K (.ref C) m = some (some (.ref f))
  fn : PySem.W.isFn K (.ref f) = true
def rOwn2 (C : Addr) (sp : Sp) (E : XK) : R2 := fun x y H Q => (∃ p dx gs, x = .ref p ∧ H p = some (.ins C dx gs)) ∧ (∃ q dy hs, y = .ref q ∧ H q = some (.ins C dy hs)) ∧ sp [x, y] H Q E
section
variable {CX : CXT} {k : Nat} {f C : Addr} {fd : FuncData} {ps : List Str} {E : XK}
theorem op_own {op : Operator} {sp : Sp} (F : FnOk X.prog X.w X.K X.mg X.base CX k f fd ps sp) (hr : Room k X.A) (M : OwnOp X.K C (PySem.dunder op.info.2) f) (hc : PySem.W.selfFirst X.K C = true) (hb : Binds X.K fd ps []) (hx : Passes CX X E) :
    OpR X (binaryOp op) (rOwn2 C sp E) := by
  intro pins s σ H x y vx vy Q I rx ry h
  obtain ⟨⟨p, dx, gs, rfl, hp⟩, ⟨q, dy, hs, rfl, hq⟩, hsp⟩ := h
  cases rx
  cases ry
  obtain ⟨mA, J, _⟩ := ins_get I.hok hp
  obtain ⟨mB, J', _⟩ := ins_get I.hok hq
  obtain ⟨od, J, _⟩ := J.look
  obtain ⟨od', J', _⟩ := J'.look
  obtain ⟨m, hF⟩ := I.fr
  exact PySem.W.binop_K hF I.ok.mod.kin J J'.type hc M.at_ M.fn (thn (run_fn (dvs := []) (vs := [.ref p, .ref q]) (us := [.ref p, .ref q]) F hr hb .nil hx I (.cons rfl (.cons rfl .nil)) hsp) fun u s' z => back_of z)
/-- x == y by the class's own __eq__, y of a known type -/
def rOwnEq (K : PySem.W.Frag) (C : Addr) (sp : Sp) (E : XK) : R2 := fun x y H Q => (∃ p dx gs, x = .ref p ∧ H p = some (.ins C dx gs)) ∧ (∃ q dy hs, y = .ref q ∧ H q = some (.ins C dy hs)) ∧ sp [x, y] H Q E
theorem op_ownEq {sp : Sp} (F : FnOk X.prog X.w X.K X.mg X.base CX k f fd ps sp) (hr : Room k X.A) (M : OwnOp X.K C "__eq__" f) (hb : Binds X.K fd ps []) (hx : Passes CX X E) :
    OpR X (compareOp .Eq) (rOwnEq X.K C sp E) := by
  intro pins s σ H x y vx vy Q I rx ry h
  obtain ⟨⟨p, dx, gs, rfl, hp⟩, ⟨q, dy, hs, rfl, hq⟩, hsp⟩ := h
  cases rx
  cases ry
  obtain ⟨mA, J, _⟩ := ins_get I.hok hp
  obtain ⟨mB, J', _⟩ := ins_get I.hok hq
  obtain ⟨od, J, _⟩ := J.look
  obtain ⟨od', J', _⟩ := J'.look
  obtain ⟨m, hF⟩ := I.fr
  show wpAny (model X.prog X.w) X.A (richCompare .Eq (.ref p) (.ref q)) (EP X pins σ Q) X.xe s
  exact PySem.W.cmp_K (op := .Eq) hr.units0 hF I.ok.mod.kin J J'.type (by simp [PySem.W.notFirst]) M.at_ M.fn (thn (run_fn (dvs := []) (vs := [.ref p, .ref q]) (us := [.ref p, .ref q]) F hr hb .nil hx I (.cons rfl (.cons rfl .nil)) hsp) fun u s' z => back_of z)
end

/-! ### != where only == is the class's own -/
section
variable {prog : Program} {w : World} {A : Around} {E : Value → Shared → Prop} {s : Shared} {K : PySem.W.Frag} {x C f : Addr} {ox : Obj} {od : Option Obj} {b : Value}
theorem ne_body {Q : Fin → Shared → Prop} (hu : A.units < cLine) (KX : K.In s.heap) (I : PySem.W.InstAt s.heap x ox C od) (hs : PySem.W.findIn K (.ref C) "__eq__" = some (some (.ref f))) (hf : PySem.W.isFn K (.ref f) = true)
    (h : wpAny (model prog w) A (call (.ref f) [.ref x, b]) (fun v s' => ∃ t, v = .bool t ∧ Q (.done (.ret (.bool (!t)))) s') E s) :
    wpAny (model prog w) A (Builtin.«object.__ne__» ⟨[.ref x, b], []⟩) Q E s := by
  unfold Builtin.«object.__ne__»
  repeat (first
    | with_reducible refine wpAny_cRoomFor hu ?_
    | (refine wpAny_bind (m := callSpecialIfBound? (.ref x) (Str.ofString "__eq__") [b])
        (PySem.W.ifBound_K KX I hs hf (wpAny_mono h (fun r s' hr => by
          obtain ⟨t, rfl, hq⟩ := hr
          repeat (first | exact hq | exact wpAny_pure hq | exact wpAny_truthy_bool hq | (refine wpAny_bind (m := truthy (.bool _)) (wpAny_truthy_bool ?_)) | wp_step)) fun _ _ e => e)))
    | wp_step)
theorem ne_call {Q : Value → Shared → Prop} (hu : A.units + 1 < cLine) (KX : K.In s.heap) (I : PySem.W.InstAt s.heap x ox C od) (hm : PySem.W.mroIn K C (.type "object") = some true) (hs : PySem.W.findIn K (.ref C) "__eq__" = some (some (.ref f))) (hf : PySem.W.isFn K (.ref f) = true)
    (h : wpAny (model prog w) A.in1 (call (.ref f) [.ref x, b]) (fun v s' => ∃ t, v = .bool t ∧ Q (.bool (!t)) s') E s) :
    wpAny (model prog w) A (call (.builtin "object.__ne__") [.ref x, b]) Q E s :=
  wpAny_call (codeAny_call_builtin F.cmp_object.ne.plain F.cmpEntry_ne (PySem.W.check_slot F.cmpKind_ne F.cmpSplit_ne (I.type.andThen (PySem.W.looks_mroIn KX hm)) (F.cmpArgs_ne _ _)
    (ne_body (A := A.in1) hu KX I hs hf (wpAny_mono h (fun v s' hv => by
      obtain ⟨t, rfl, hq⟩ := hv
      exact ⟨t, rfl, hq⟩) fun _ _ e => e))))
theorem ne_ifBound {args : List Value} {Q : Option Value → Shared → Prop} (KX : K.In s.heap) (I : PySem.W.InstAt s.heap x ox C od) (hn : PySem.W.findIn K (.ref C) "__ne__" = some (some (.builtin "object.__ne__")))
    (h : wpAny (model prog w) A (call (.builtin "object.__ne__") (.ref x :: args)) (fun v => Q (some v)) E s) : wpAny (model prog w) A (callSpecialIfBound? (.ref x) "__ne__" args) Q E s := by
  simp only [callSpecialIfBound?, bindSpecialIfBound?]
  refine wpAny_holding (wpAny_bind (wpAny_bind (wpAny_bind (I.type.here ((PySem.W.looks_findIn KX hn).here ?_)))))
  refine wpAny_bind (wpAny_askSetting (wpAny_ite ?_))
  have fin : wpAny (model prog w) A (call (.builtin "object.__ne__") ([.ref x] ++ args) >>= fun v => pure (some v)) Q E s := wpAny_bind (wpAny_mono h (fun v s' h' => wpAny_pure h') fun _ _ h' => h')
  split
  · exact wpAny_bind (wpAny_of_eq (F.cmp_object.ne.bind _) (wpAny_pure (by exact fin)))
  · exact wpAny_tryCatch (wpAny_bind (wpAny_of_eq (F.cmp_object.ne.bind _) (wpAny_pure (by exact fin))))
theorem ne_rich {tb : Value} {Q : Value → Shared → Prop} (hu : A.units + 1 < cLine) (KX : K.In s.heap) (I : PySem.W.InstAt s.heap x ox C od) (hm : PySem.W.mroIn K C (.type "object") = some true)
    (hs : PySem.W.findIn K (.ref C) "__eq__" = some (some (.ref f))) (hf : PySem.W.isFn K (.ref f) = true) (hn : PySem.W.findIn K (.ref C) "__ne__" = some (some (.builtin "object.__ne__")))
    (hb : PySem.W.Looks (model prog w) s.heap (typeOf b) tb) (ht : PySem.W.notFirst K C tb = true)
    (h : wpAny (model prog w) A.in1 (call (.ref f) [.ref x, b]) (fun v s' => ∃ t, v = .bool t ∧ Q (.bool (!t)) s') E s) : wpAny (model prog w) A (richCompare .NotEq (.ref x) b) Q E s := by
  have one : wpAny (model prog w) A (tryCompare (.ref x) "__ne__" b) (fun r s' => ∃ v, r = some v ∧ Q v s') E s := by
    unfold tryCompare
    exact wpAny_bind (ne_ifBound KX I hn (ne_call hu KX I hm hs hf (wpAny_mono h (fun v s' hv => by
      obtain ⟨t, rfl, hq⟩ := hv
      exact ⟨t, rfl, wpAny_pure ⟨_, rfl, hq⟩⟩) fun _ _ e => e)))
  unfold richCompare
  simp only [oneThing_ref]
  rw [cmpInfo_NotEq]
  refine wpAny_holding (wpAny_bind (wpAny_cRoomFor (Nat.lt_of_succ_lt hu) ?_))
  refine wpAny_bind (I.type.here (wpAny_bind (hb.here ?_)))
  split
  · rename_i q
    have e : PySem.W.subIn K tb (.ref C) = some false := by
      rcases Bool.or_eq_true_iff.mp ht with e | e
      · rw [beq_iff_eq.mp e] at q; simp at q
      · exact beq_iff_eq.mp e
    refine wpAny_bind ((PySem.W.looks_subIn KX e).here ?_)
    simp only [Bool.false_eq_true, if_false]
    refine wpAny_bind (wpAny_mono one (fun r s' z => ?_) fun _ _ e => e)
    obtain ⟨v, rfl, hq⟩ := z
    exact wpAny_pure hq
  · refine wpAny_bind (wpAny_pure ?_)
    simp only [Bool.false_eq_true, if_false]
    refine wpAny_bind (wpAny_mono one (fun r s' z => ?_) fun _ _ e => e)
    obtain ⟨v, rfl, hq⟩ := z
    exact wpAny_pure hq
end
/-- the class's comparisons: its own ==, the plain != -/
structure EqNe (K : PySem.W.Frag) (C f : Addr) : Prop where
  eq : PySem.W.findIn K (.ref C) "__eq__" = some (some (.ref f))
  fn : PySem.W.isFn K (.ref f) = true
  ne : PySem.W.findIn K (.ref C) "__ne__" = some (some (.builtin "object.__ne__"))
  ob : PySem.W.mroIn K C (.type "object") = some true
section
variable {CX : CXT} {k : Nat} {f C : Addr} {fd : FuncData} {ps : List Str} {E : XK}
theorem run_in1 {pins : List (Addr × Obj)} {s : Shared} {Q : VK} {us : List Value} {vs : List V} {sp : Sp} (F : FnOk X.prog X.w X.K X.mg X.base CX k f fd ps sp) (hr : Room (k + 1) X.A) (hb : Binds X.K fd ps []) (hx : Passes CX X E)
    (I : Inv X pins σ H s) (r : Vals vs us) (h : sp vs H Q E) : wpAny (model X.prog X.w) X.A.in1 (call (.ref f) us) (EP X pins σ Q) X.xe s := by
  have hl : us.length = ps.length := by rw [← r.length]; exact F.len _ _ _ _ h
  have b := hb s us I.kIn (by rw [List.append_nil]; exact hl)
  rw [List.append_nil] at b
  refine wpAny_call (codeAny_mono (F.run X.A.in1 X.stack s H ⟨us, []⟩ us vs Q E hr.in1 I.env0.in1 b r h) fun r s' hq => ?_)
  cases r with
  | error e => exact hx pins σ H s e s' I hq
  | ok fl =>
    cases fl with
    | ret u => exact I.after hq
    | next => exact False.elim hq
    | brk => exact False.elim hq
    | cont => exact False.elim hq
def rOwnNe (K : PySem.W.Frag) (C : Addr) (sp : Sp) (E : XK) : R2 := fun x y H Q => (∃ p dx gs, x = .ref p ∧ H p = some (.ins C dx gs)) ∧ (∃ q dy hs, y = .ref q ∧ H q = some (.ins C dy hs)) ∧
  sp [x, y] H (fun v H' => ∃ t, v = .bl t ∧ Q (.bl (!t)) H') E
theorem op_ownNe {sp : Sp} (F : FnOk X.prog X.w X.K X.mg X.base CX k f fd ps sp) (hr : Room (k + 1) X.A) (M : EqNe X.K C f) (hb : Binds X.K fd ps []) (hx : Passes CX X E) :
    OpR X (compareOp .NotEq) (rOwnNe X.K C sp E) := by
  intro pins s σ H x y vx vy Q I rx ry h
  obtain ⟨⟨p, dx, gs, rfl, hp⟩, ⟨q, dy, hs, rfl, hq⟩, hsp⟩ := h
  cases rx
  cases ry
  obtain ⟨mA, J, _⟩ := ins_get I.hok hp
  obtain ⟨mB, J', _⟩ := ins_get I.hok hq
  obtain ⟨od, J, _⟩ := J.look
  obtain ⟨od', J', _⟩ := J'.look
  show wpAny (model X.prog X.w) X.A (richCompare .NotEq (.ref p) (.ref q)) (EP X pins σ Q) X.xe s
  refine ne_rich (K := X.K) (by have := hr.un; omega) I.kIn J M.ob M.eq M.fn M.ne J'.type (by simp [PySem.W.notFirst]) (thn (run_in1 (vs := [.ref p, .ref q]) (us := [.ref p, .ref q]) F hr hb hx I (.cons rfl (.cons rfl .nil)) hsp) fun u s' z => ?_)
  obtain ⟨w, H1, I1, r, t, rfl, q1⟩ := z
  cases r
  exact ⟨t, rfl, .bl (!t), H1, I1, rfl, q1⟩
end
end Dv
set_option autoImplicit true
set_option maxRecDepth 100000
namespace Dv
open PySem PySem.Spec PyProof.Rows L2

variable {c : Ctx} {X : Cx} {st st1 st2 st3 st' : Store} {a b e tg iter : Expr} {es : List Expr} {d d1 d2 d' : Dt} {ds xs ys zs fs gs : List Dt} {pos : Pos} {G G' H H' : Hp} {σ σ' : L2.St} {v : V} {i j n : Nat} {body : List Stmt} {o : Out}

/-! ### instances: operators, comparisons, methods, making -/
theorem gw_of {G H G' H' : Hp} (g : Gr G H G' H' (fun _ => False) (fun _ => False)) (e : Ex G' H') : Gw G H G' H' :=
  ⟨g.ex, fun p o h => g.fr p o h id, e, fun p o h => (g.nw p o h).elim .inl fun z => z.elim .inr False.elim⟩
section
variable {CX : CXT} {k : Nat} {f C : Addr} {fd : FuncData} {ps : List Str} {E : XK} {R : List Dt → Dt → Prop} {ns : List Str}
theorem o_own (hT : c.T n = some (C, ns)) (hR : R [.obj n fs, .obj n gs] d) : Op2 c (.obj n fs) (.obj n gs) d (rOwn2 C (spD c.K c.T R) E) := fun G H x y Q e r1 r2 kk => by
  obtain ⟨C1, ns1, p, dx, vs, rfl, q1, q2, q3, q4⟩ := id r1.obj_inv
  obtain ⟨C2, ns2, q, dy, ws, rfl, p1, p2, p3, p4⟩ := id r2.obj_inv
  rw [hT] at q1 p1
  cases q1
  cases p1
  exact ⟨⟨p, dx, _, rfl, e _ _ q2⟩, ⟨q, dy, _, rfl, e _ _ p2⟩, G, [.obj n fs, .obj n gs], d, e, .cons r1 (.cons r2 .nil), hR, fun v G' H' g e' r' => kk v G' H' (gw_of g e') r'⟩
theorem o_ownEq (hT : c.T n = some (C, ns)) (hR : R [.obj n fs, .obj n gs] d) : Op2 c (.obj n fs) (.obj n gs) d (rOwnEq X.K C (spD c.K c.T R) E) := fun G H x y Q e r1 r2 kk => by
  obtain ⟨C1, ns1, p, dx, vs, rfl, q1, q2, q3, q4⟩ := id r1.obj_inv
  obtain ⟨C2, ns2, q, dy, ws, rfl, p1, p2, p3, p4⟩ := id r2.obj_inv
  rw [hT] at q1 p1
  cases q1
  cases p1
  exact ⟨⟨p, dx, _, rfl, e _ _ q2⟩, ⟨q, dy, _, rfl, e _ _ p2⟩, G, [.obj n fs, .obj n gs], d, e, .cons r1 (.cons r2 .nil), hR, fun v G' H' g e' r' => kk v G' H' (gw_of g e') r'⟩
theorem o_ownNe {t : Bool} (hT : c.T n = some (C, ns)) (hR : R [.obj n fs, .obj n gs] (.bl t)) : Op2 c (.obj n fs) (.obj n gs) (.bl (!t)) (rOwnNe X.K C (spD c.K c.T R) E) := fun G H x y Q e r1 r2 kk => by
  obtain ⟨C1, ns1, p, dx, vs, rfl, q1, q2, q3, q4⟩ := id r1.obj_inv
  obtain ⟨C2, ns2, q, dy, ws, rfl, p1, p2, p3, p4⟩ := id r2.obj_inv
  rw [hT] at q1 p1
  cases q1
  cases p1
  exact ⟨⟨p, dx, _, rfl, e _ _ q2⟩, ⟨q, dy, _, rfl, e _ _ p2⟩, G, [.obj n fs, .obj n gs], .bl t, e, .cons r1 (.cons r2 .nil), hR, fun v G' H' g e' r' => by
    cases r'
    exact ⟨t, rfl, kk _ G' H' (gw_of g e') .bl⟩⟩
theorem lookup_notin {ns : List Str} {vs : List V} {m : Str} (h : ns.contains m = false) : (ns.zip vs).lookup m = none := by
  induction ns generalizing vs with
  | nil => rfl
  | cons q ns ih =>
    cases vs with
    | nil => rfl
    | cons u vs =>
      have h' : (m == q) = false ∧ ns.contains m = false := by
        rw [List.contains_cons] at h
        exact Bool.or_eq_false_iff.mp h
      show List.lookup m ((q, u) :: ns.zip vs) = none
      unfold List.lookup
      rw [h'.1]
      exact ih h'.2
/-- o.m(e, ..) -/
theorem xd_meth {m : Str} {apos : Pos} {pl : Sem Bool} (ho : XD c X b st (.obj n fs) st1) (hT : c.T n = some (C, ns)) (hcl : Cls X.K C) (hm : Meth X.K C m f) (F : FnOk X.prog X.w X.K X.mg X.base CX k f fd ps (spD c.K c.T R)) (hr : Room k X.A) (hb : Binds X.K fd ps []) (hx : Passes CX X E)
    (h : XA c X (e :: es) st1 ds st2) (hR : R (.obj n fs :: ds) d) (hno : ns.contains m = false := by decide +kernel)
    (hst : starEach (e :: es) X.env = (false, eval e X.env) :: starEach es X.env := by rfl) (hpl : (backTo pos (starEach es X.env)).any (·.1) = false := by rfl)
    (ht : eval (.Call (.Attribute b m apos) (e :: es) [] pos) X.env = (do
      let ov ← eval b X.env
      standAt apos.atName
      let (f, first) ← holding [ov] (getMethod ov m pl)
      callWith pos f first (backTo pos (starEach (e :: es) X.env)) (backToKw pos (keywordEach [] X.env))) := by rfl) :
    XD c X (.Call (.Attribute b m apos) (e :: es) [] pos) st d st2 :=
  ⟨pe_weak (pe_meth ho.pe hcl hm F hr hb .nil hx h.pa hst hpl ht) fun σ H Q ⟨G, E, kk⟩ => ⟨G, E, fun x G1 H1 g1 E1 r1 => by
    obtain ⟨C1, ns1, p, dx, vs, rfl, q1, q2, q3, q4⟩ := id r1.obj_inv
    rw [hT] at q1
    cases q1
    refine ⟨p, dx, _, rfl, E1.ex _ _ q2, lookup_notin hno, G1, E1, fun ws G2 H2 g2 E2 r2 => ?_⟩
    refine ⟨G2, .obj n fs :: ds, d, E2.ex, ?_, hR, fun v G3 H3 g3 e3 r3 => kk v G3 H3 ((g1.trans g2).trans (gw_of g3 e3).gr) (E2.g1 (gw_of g3 e3)) r3⟩
    rw [List.append_nil]
    exact .cons (r1.ex g2.ex) r2⟩⟩
/-- o.m() -/
theorem xd_meth0 {m : Str} {apos : Pos} {pl : Sem Bool} (ho : XD c X b st (.obj n fs) st1) (hT : c.T n = some (C, ns)) (hcl : Cls X.K C) (hm : Meth X.K C m f) (F : FnOk X.prog X.w X.K X.mg X.base CX k f fd ps (spD c.K c.T R)) (hr : Room k X.A) (hb : Binds X.K fd ps []) (hx : Passes CX X E)
    (hR : R [.obj n fs] d) (hno : ns.contains m = false := by decide +kernel)
    (ht : eval (.Call (.Attribute b m apos) [] [] pos) X.env = (do
      let ov ← eval b X.env
      standAt apos.atName
      let (f, first) ← holding [ov] (getMethod ov m pl)
      callWith pos f first (backTo pos (starEach [] X.env)) (backToKw pos (keywordEach [] X.env))) := by rfl) :
    XD c X (.Call (.Attribute b m apos) [] [] pos) st d st1 :=
  ⟨pe_weak (pe_meth0 ho.pe hcl hm F hr hb .nil hx ht) fun σ H Q ⟨G, E, kk⟩ => ⟨G, E, fun x G1 H1 g1 E1 r1 => by
    obtain ⟨C1, ns1, p, dx, vs, rfl, q1, q2, q3, q4⟩ := id r1.obj_inv
    rw [hT] at q1
    cases q1
    exact ⟨p, dx, _, rfl, E1.ex _ _ q2, lookup_notin hno, G1, [.obj n fs], d, E1.ex, .cons r1 .nil, hR, fun v G3 H3 g3 e3 r3 => kk v G3 H3 (g1.trans (gw_of g3 e3).gr) (E1.g1 (gw_of g3 e3)) r3⟩⟩⟩
/-- what an __init__ promises: the attributes from the arguments -/
def spI (K : PySem.W.Frag) (T : Ct) (n : Nat) (R : List Dt → List Dt → Prop) : Sp := fun vs H Q _ => ∃ x vs' G C ns dx ds fs, vs = .ref x :: vs' ∧ T n = some (C, ns) ∧ Ex G H ∧ G x = none ∧ H x = some (.ins C dx []) ∧ Reps K T G ds vs' ∧ R ds fs ∧
  ∀ G' H' dx' ws, Gr G H G' H' (· = x) (· = x) → Ex G' H' → G' x = none → H' x = some (.ins C dx' (ns.zip ws)) → ns.length = ws.length → Reps K T G' fs ws → Q .non H'
theorem made_of {Rf : List Dt → List Dt → Prop} {vs dvs : List V} {dds : List Dt} {Q : VK} {x dx : Addr} (hT : c.T n = some (C, ns)) (E1 : En c.K c.T c.pa G H σ st) (r : Reps c.K c.T G ds vs) (hdd : ∀ G, Reps c.K c.T G dds dvs) (hR : Rf (ds ++ dds) fs)
    (hx : H x = none) (hdx : H dx = none) (hne : dx ≠ x) (k : ∀ v G' H', Gr G H G' H' (own σ st) (own σ st) → En c.K c.T c.pa G' H' σ st → Rep c.K c.T G' (.obj n fs) v → Q v H') (E0 : XK) :
    spI c.K c.T n Rf (.ref x :: (vs ++ dvs)) (upd (upd H dx (.own x)) x (.ins C dx [])) (fun v H2 => v = .non ∧ Q (.ref x) H2) E0 := by
  have e0 : Ex H (upd (upd H dx (.own x)) x (.ins C dx [])) := fun p o h => by rw [upd_ne (ne_of_none h hx), upd_ne (ne_of_none h hdx)]; exact h
  refine ⟨x, vs ++ dvs, G, C, ns, dx, ds ++ dds, fs, rfl, hT, E1.ex.trans e0, E1.ex.none hx, upd_same, r.app (hdd G), hR, fun G' H' dx' ws g e' n' l' hl r' => ⟨rfl, ?_⟩⟩
  -- the new instance is known
  have gw : Gw G H (upd G' x (.ins C dx' (ns.zip ws))) H' := by
    refine ⟨g.ex.trans (Ex.new n'), fun p o h => g.fr p o (e0 p o h) (ne_of_none h hx), fun p o h => ?_, fun p o h => ?_⟩
    · by_cases q : p = x
      · subst q; rw [upd_same] at h; cases h; exact l'
      · rw [upd_ne q] at h; exact e' p o h
    · by_cases q : p = x
      · subst q; exact .inr hx
      · rw [upd_ne q] at h
        rcases g.nw p o h with z | z | z
        · exact .inl z
        · exact .inr (e0.none z)
        · exact absurd z q
  exact k _ _ _ gw.gr (E1.g1 gw) (.obj hT upd_same hl (r'.ex (Ex.new n')))
theorem xd_make {x : Str} {p : Pos} {dds : List Dt} {dvs : List V} {dus : List Value} {Rf : List Dt → List Dt → Prop} (hT : c.T n = some (C, ns)) (M : Mk X.K C f) (F : FnOk X.prog X.w X.K X.mg X.base CX k f fd ps (spI c.K c.T n Rf)) (hr : Room (k + 1) X.A) (hm : X.mg x = some (.ref C)) (hb : Binds X.K fd ps dus) (hd : Vals dvs dus) (hdd : ∀ G, Reps c.K c.T G dds dvs) (hx : Passes CX X E)
    (h : XA c X (e :: es) st ds st1) (hR : Rf (ds ++ dds) fs) (hg : Gl X x := by rfl) (hdb : (x == ("__debug__" : Str)) = false := by decide) (he : starEach (e :: es) X.env = (false, eval e X.env) :: starEach es X.env := by rfl) (hpl : (backTo pos (starEach es X.env)).any (·.1) = false := by rfl) :
    XD c X (.Call (.Name x p) (e :: es) [] pos) st (.obj n fs) st1 :=
  ⟨pe_weak (pe_make M F hr hg hm hb hd hx h.pa hdb he hpl) fun σ H Q ⟨G, E0, kk⟩ => ⟨G, E0, fun vs G1 H1 g1 E1 r1 => fun y dx hy hdx hne =>
    made_of hT E1 r1 hdd hR hy hdx hne (fun v G' H' g E' r' => kk v G' H' (g1.trans g) E' r') E⟩⟩
/-- in an __init__: self.f = e, the next attribute -/
theorem putF_next {ns : List Str} {vs : List V} {f : Str} {v : V} (hn : ns.Nodup) (k : Nat) (hk : vs.length = k) (hf : ns[k]? = some f) : putF f v ((ns.take k).zip vs) = (ns.take (k + 1)).zip (vs ++ [v]) := by
  induction ns generalizing vs k with
  | nil => simp at hf
  | cons q ns ih =>
    cases k with
    | zero =>
      have : vs = [] := List.length_eq_zero_iff.mp hk
      subst this
      have : q = f := by simpa using hf
      subst this
      rfl
    | succ k =>
      cases vs with
      | nil => simp at hk
      | cons u vs =>
        have hf' : ns[k]? = some f := by simpa using hf
        have nq : ¬ q = f := fun z => by
          subst z
          exact (List.nodup_cons.mp hn).1 (List.mem_of_getElem? hf')
        show (if q = f then _ else (q, u) :: putF f v ((ns.take k).zip vs)) = _
        rw [if_neg nq, ih (List.nodup_cons.mp hn).2 k (by simpa using hk) hf']
        rfl
theorem xp_fldset {C : Addr} {f y : Str} {p1 p2 ppos : Pos} (he : XD c X e st d st1) (hT : c.T n = some (C, ns)) (hnd : ns.Nodup) (hcl : Cls X.K C) (hna : NoAttr X.K C f) (h0 : st1[0]? = some (some (.bo n fs))) (hf : ns[fs.length]? = some f) (hlen : fs.length < 1000 := by first | decide | simp)
    (hN : X.N[0]? = some y := by rfl) (hv : Vis X.env.scope y := by first | exact Or.inl rfl | exact Or.inr (Or.inl rfl) | exact Or.inr (Or.inr rfl)) (hd : (y == ("__debug__" : Str)) = false := by decide) (hcd : (y == ("__classdict__" : Str)) = false := by decide)
    (hs : swapsWith e (some (.Attribute (.Name y p1) f p2)) ppos.line X.env = pure false := by rfl) :
    XP c X (.Assign [.Attribute (.Name y p1) f p2] e ppos) st (.nx (st1.set 0 (some (.bo n (fs ++ [d]))))) :=
  ⟨ps_weak (ps_fld (pe_var hN hv hd hcd) he.pe hs) fun D σ H ⟨G, E, kk⟩ => ⟨G, E, fun w G1 H1 g1 E1 r1 => by
    obtain ⟨u, z1, C', ns', dx, vs, t, rfl, m1, m2, m3⟩ := E1.sl 0 _ h0
    rw [hT] at t
    cases t
    refine ⟨_, z1, c.pa 0, C, dx, _, rfl, m2, hcl, hna, ?_, ?_⟩
    · rw [List.length_zip, List.length_take]; omega
    · rw [putF_next hnd fs.length m3.length.symm hf]
      obtain ⟨g2, e2⟩ := gr_upd (a := c.pa 0) (o := .ins C dx ((ns.take (fs.length + 1)).zip (vs ++ [w]))) E1.ex m1 (by rw [m2]; simp)
      have ho : own σ st1 (c.pa 0) := ⟨0, _, h0, rfl, z1⟩
      have il : 0 < st1.length := (List.getElem?_eq_some_iff.mp h0).1
      have oth : ∀ (j : Nat) t b, j ≠ 0 → st1[j]? = some (some t) → t.isOw = true → σ[j]? = some (some (.ref b)) → b ≠ c.pa 0 := fun j t b nj h1 h2 h3 z => nj (E1.ds j 0 _ _ _ h1 h0 h2 rfl (by rw [h3, z]) z1)
      have E3 : En c.K c.T c.pa G1 (upd H1 (c.pa 0) (.ins C dx ((ns.take (fs.length + 1)).zip (vs ++ [w])))) σ (st1.set 0 (some (.bo n (fs ++ [d])))) := by
        refine ⟨e2, fun j t h => ?_, fun j k s t b h1 h2 o1 o2 h3 h4 => ?_, by rw [List.length_set]; exact E1.len⟩
        · rcases set_cases h with ⟨rfl, q, z⟩ | ⟨nj, h⟩
          · cases q
            exact ⟨_, z1, C, ns, dx, vs ++ [w], hT, rfl, m1, by rw [upd_same, List.length_append]; rfl, m3.app (.cons r1 .nil)⟩
          · obtain ⟨w', q1, q2⟩ := E1.sl j t h
            refine ⟨w', q1, ?_⟩
            cases t with
            | fr d => exact q2
            | ex _ _ _ => exact q2
            | ow zs =>
              obtain ⟨b, us, rfl, y1, y2, y3⟩ := q2
              exact ⟨b, us, rfl, y1, by rw [upd_ne (oth j _ b nj h rfl q1)]; exact y2, y3⟩
            | pr k zs =>
              obtain ⟨us, rfl, y1, y2, y3⟩ := q2
              exact ⟨us, rfl, y1, by rw [upd_ne (oth j _ _ nj h rfl q1)]; exact y2, y3⟩
            | bo mm zs =>
              obtain ⟨C2, ns2, dx2, us, t2, rfl, y1, y2, y3⟩ := q2
              exact ⟨C2, ns2, dx2, us, t2, rfl, y1, by rw [upd_ne (oth j _ _ nj h rfl q1)]; exact y2, y3⟩
        · have base : ∀ (j : Nat) t, (st1.set 0 (some (.bo n (fs ++ [d]))))[j]? = some (some t) → t.isOw = true → ∃ t', st1[j]? = some (some t') ∧ t'.isOw = true := fun j t h o => by
            rcases set_cases h with ⟨rfl, q, z⟩ | ⟨nj, h⟩
            · exact ⟨_, h0, rfl⟩
            · exact ⟨t, h, o⟩
          obtain ⟨t', q1, q2⟩ := base j s h1 o1
          obtain ⟨u', q3, q4⟩ := base k t h2 o2
          exact E1.ds j k t' u' b q1 q3 q2 q4 h3 h4
      have g3 : Gr G1 H1 G1 (upd H1 (c.pa 0) (.ins C dx ((ns.take (fs.length + 1)).zip (vs ++ [w])))) (own σ st1) (own σ (st1.set 0 (some (.bo n (fs ++ [d]))))) := by
        refine ⟨g2.ex, fun p o q => .inl q, fun p o q nn => g2.fr p o q fun z => nn (by rw [z]; exact ho), g2.al, fun p q => .inl ?_⟩
        obtain ⟨j, t, h1, h2, h3⟩ := q
        rcases set_cases h1 with ⟨rfl, q, z⟩ | ⟨nj, h1⟩
        · exact ⟨0, _, h0, rfl, h3⟩
        · exact ⟨j, t, h1, h2, h3⟩
      exact kk _ _ _ (g1.trans g3) E3⟩⟩
end
end Dv
set_option autoImplicit true
set_option maxRecDepth 100000
namespace Dv
open PySem PySem.Spec PyProof.Rows L2

variable {c : Ctx} {X : Cx} {st st1 st2 st3 st' : Store} {a b e tg iter : Expr} {es : List Expr} {d d1 d2 d' : Dt} {ds xs ys zs fs gs : List Dt} {pos : Pos} {G G' H H' : Hp} {σ σ' : L2.St} {v : V} {i j n : Nat} {body : List Stmt} {o : Out}

/-! ### an __init__ from its body -/
def st0I (N : List Str) (n : Nat) (ds : List Dt) : Store := some (.bo n []) :: (ds.map (fun d => some (.fr d)) ++ List.replicate (N.length - (ds.length + 1)) none)
theorem tail_get {m : Nat} {s : Sv} {i : Nat} (h : (ds.map (fun d => some (Sv.fr d)) ++ List.replicate m none)[i]? = some (some s)) : ∃ d, ds[i]? = some d ∧ s = .fr d := by
  by_cases q : i < ds.length
  · rw [List.getElem?_append_left (by simpa using q), List.getElem?_map] at h
    cases z : ds[i]? with
    | none => rw [z] at h; cases h
    | some d => rw [z] at h; cases h; exact ⟨d, rfl, rfl⟩
  · rw [List.getElem?_append_right (by simpa using q), List.getElem?_replicate] at h
    split at h <;> cases h
theorem En.startI {pa : Nat → Addr} {N : List Str} {vs : List V} {C dx : Addr} {ns : List Str} (hT : c.T n = some (C, ns)) (e : Ex G H) (hn : G (pa 0) = none) (hl : H (pa 0) = some (.ins C dx [])) (r : Reps c.K c.T G ds vs) : En c.K c.T pa G H (L2.start N (.ref (pa 0) :: vs)) (st0I N n ds) := by
  have e1 : L2.start N (.ref (pa 0) :: vs) = some (.ref (pa 0)) :: (vs.map some ++ List.replicate (N.length - (vs.length + 1)) none) := rfl
  rw [e1]
  refine ⟨e, fun i s h => ?_, fun i j s t a h1 h2 o1 o2 h3 h4 => ?_, by unfold st0I; simp [r.length]⟩
  · cases i with
    | zero => cases h; exact ⟨_, rfl, C, ns, dx, [], hT, rfl, hn, hl, .nil⟩
    | succ i =>
      obtain ⟨d, z, rfl⟩ := tail_get (ds := ds) (i := i) h
      obtain ⟨v, h1, h2⟩ := r.get z
      refine ⟨v, ?_, h2⟩
      have q : i < ds.length := (List.getElem?_eq_some_iff.mp z).1
      show (vs.map some ++ _)[i]? = _
      rw [List.getElem?_append_left (by rw [List.length_map, ← r.length]; exact q), List.getElem?_map, h1]; rfl
  · have z : ∀ (i : Nat) s, (st0I N n ds)[i]? = some (some s) → s.isOw = true → i = 0 := fun i s h o => by
      cases i with
      | zero => rfl
      | succ i => obtain ⟨d, z, rfl⟩ := tail_get (ds := ds) (i := i) h; cases o
    rw [z i s h1 o1, z j t h2 o2]
theorem own_startI {pa : Nat → Addr} {N : List Str} {vs : List V} {p : Addr} (h : own (L2.start N (.ref (pa 0) :: vs)) (st0I N n ds) p) : p = pa 0 := by
  obtain ⟨i, s, h1, o1, h3⟩ := h
  cases i with
  | zero => cases h3; rfl
  | succ i => obtain ⟨d, z, rfl⟩ := tail_get (ds := ds) (i := i) h1; cases o1
section
variable {P : Program} {w : World} {K : PySem.W.Frag} {T : Ct} {mg : Str → Option Value} {base : Heap} {x qual : Str} {sd : Stmt} {f : Addr} {fd : FuncData} {N ps : List Str} {k : Nat} {Rf : List Dt → List Dt → Prop} {C : Addr} {ns : List Str}
/-- the reading, once the body is shown -/
theorem initEnd {X : Cx} {sts : List Stmt} (hT : T n = some (C, ns)) (hlenR : ∀ ds fs, Rf ds fs → fs.length = ns.length) {vs : List V} {H : Hp} {Q : VK} {E : XK}
    (body : ∀ (pa : Nat → Addr) (ds fs : List Dt), Rf ds fs → ∃ st', XS ⟨K, T, pa⟩ X sts (st0I N n ds) (.nx st') ∧ st'[0]? = some (some (.bo n fs))) (h : spI K T n Rf vs H Q E) :
    ∃ t, PSs X sts t ∧ t { nx := fun _ H' => Q .non H', rt := Q } (L2.start N vs) H := by
  obtain ⟨y, vs', G, C', ns', dx, ds, fs, rfl, hT', e, hn, hl, r, hR, kk⟩ := h
  rw [hT] at hT'
  cases hT'
  obtain ⟨st', hb, hst⟩ := body (fun _ => y) ds fs hR
  refine ⟨_, hb.pss, G, En.startI (c := ⟨K, T, fun _ => y⟩) (pa := fun _ => y) hT e hn hl r, fun σ' G' H' g E' => ?_⟩
  obtain ⟨u, z1, C2, ns2, dx2, ws, t2, rfl, m1, m2, m3⟩ := E'.sl 0 _ hst
  have t3 := hT.symm.trans t2
  cases t3
  have hlf := hlenR ds fs hR
  rw [hlf, List.take_length] at m2
  refine kk G' H' dx2 ws ?_ E'.ex m1 m2 ?_ m3
  · exact ⟨g.ex, fun p o q => (g.nw p o q).imp id (Or.imp id fun z => own_startI (pa := fun _ => y) z), fun p o q nq => g.fr p o q fun z => nq (own_startI (pa := fun _ => y) z), g.al, fun p q => .inl q⟩
  · rw [← m3.length, hlf]
theorem okI (F : Fun K x qual sd f fd) (S : FnScope N ps (defScope sd)) (hT : T n = some (C, ns)) (hl : ∀ ds fs, Rf ds fs → ds.length + 1 = ps.length) (hlenR : ∀ ds fs, Rf ds fs → fs.length = ns.length)
    (body : ∀ (cdv : Value) (A : Around) (outer : List Env) (s : Shared) (H : Hp) (E : XK) (pa : Nat → Addr) (ds fs : List Dt), Room k (A.deeper (envOfC qual (defScope sd) s.heap.objs.size f cdv)) → Rf ds fs →
      ∃ st', XS ⟨K, T, pa⟩ (bX P w K mg base N qual sd f cdv A outer s H E) (defBody sd) (st0I N n ds) (.nx st') ∧ st'[0]? = some (some (.bo n fs))) : FnOk P w K mg base CX0 (k + 1) f fd ps (spI K T n Rf) := by
  refine F.ok S (fun vs H Q E h => ?_) (fun cdv A outer s H vs Q E hr h => ?_)
  · obtain ⟨y, vs', G, C', ns', dx, ds, fs, rfl, hT', e, hn, hl', r, hR, kk⟩ := h
    rw [List.length_cons, ← r.length]; exact hl ds fs hR
  · exact initEnd hT hlenR (fun pa ds fs hR => body cdv A outer s H E pa ds fs hr hR) h
/-- the same for an __init__ with defaults -/
theorem okID {dvs : List V} {kws : List (Str × V)} (F : FunD K x qual (defArgs sd) (defBody sd) (defScope sd) dvs kws f fd) (S : FnScope N ps (defScope sd)) (hT : T n = some (C, ns)) (hl : ∀ ds fs, Rf ds fs → ds.length + 1 = ps.length) (hlenR : ∀ ds fs, Rf ds fs → fs.length = ns.length)
    (body : ∀ (cdv : Value) (A : Around) (outer : List Env) (s : Shared) (H : Hp) (E : XK) (pa : Nat → Addr) (ds fs : List Dt), Room k (A.deeper (envOfC qual (defScope sd) s.heap.objs.size f cdv)) → Rf ds fs →
      ∃ st', XS ⟨K, T, pa⟩ (bX P w K mg base N qual sd f cdv A outer s H E) (defBody sd) (st0I N n ds) (.nx st') ∧ st'[0]? = some (some (.bo n fs))) : FnOk P w K mg base CX0 (k + 1) f fd ps (spI K T n Rf) := by
  refine F.ok S (fun vs H Q E h => ?_) (fun cdv A outer s H vs Q E hr h => ?_)
  · obtain ⟨y, vs', G, C', ns', dx, ds, fs, rfl, hT', e, hn, hl', r, hR, kk⟩ := h
    rw [List.length_cons, ← r.length]; exact hl ds fs hR
  · obtain ⟨t, h1, h2⟩ := initEnd (N := N) (X := bX P w K mg base N qual sd f cdv A outer s H E) hT hlenR (fun pa ds fs hR => body cdv A outer s H E pa ds fs hr hR) h
    exact ⟨t, h1.nox, h2⟩
end

/-! ### lists and tuples made of others -/
theorem Reps.replicate {K : PySem.W.Frag} {T : Ct} {G : Hp} : ∀ (m : Nat) {ds : List Dt} {vs : List V}, Reps K T G ds vs → Reps K T G (List.replicate m ds).flatten (List.replicate m vs).flatten
  | 0, _, _, _ => .nil
  | m + 1, ds, vs, r => by
    rw [List.replicate_succ, List.replicate_succ, List.flatten_cons, List.flatten_cons]
    exact r.app (Reps.replicate m r)
/-- xs * k -/
theorem o_rep {k : Int} (h0 : k < 2 ^ 63) (h1 : -(2 ^ 63) ≤ k) (hz : ds.length * k.toNat ≤ 100000) : Op2 c (.lst ds) (.int k) (.lst (List.replicate k.toNat ds).flatten) rRep := fun G H x y Q e r1 r2 kk => by
  obtain ⟨a, vs, rfl, h, r⟩ := r1.lst_inv
  cases r2
  refine ⟨a, k, vs, rfl, rfl, e _ _ h, h1, h0, by rw [← r.length]; exact Nat.le_trans hz (by decide), fun p hp => kk _ _ _ (Gw.new e hp) (.lst upd_same ((Reps.replicate _ r).ex (Ex.new (e.none hp))))⟩
/-- xs + ys -/
theorem o_cat (hz : ds.length + xs.length ≤ 100000) : Op2 c (.lst ds) (.lst xs) (.lst (ds ++ xs)) rCat := fun G H x y Q e r1 r2 kk => by
  obtain ⟨a, vs, rfl, h, r⟩ := r1.lst_inv
  obtain ⟨b, ws, rfl, h2, r2⟩ := r2.lst_inv
  exact ⟨a, b, vs, ws, rfl, rfl, e _ _ h, e _ _ h2, by rw [← r.length, ← r2.length]; exact Nat.le_trans hz (by decide), fun p hp => kk _ _ _ (Gw.new e hp) (.lst upd_same ((r.app r2).ex (Ex.new (e.none hp))))⟩
/-- tuple(xs) -/
theorem o_tuple (h : d1 = .lst ds ∨ d1 = .tup ds) : OpN c [d1] (.tup ds) (fun xs H Q => ∃ p ys, xs = [.ref p] ∧ ((SqL c.K H p ys ∧ ∀ l, H l = none → Q (.ref l) (upd H l (.tup ys))) ∨ (SqT c.K H p ys ∧ Q (.ref p) H))) := fun G H vs Q e r kk => by
  cases r with
  | cons r r' =>
    cases r'
    rcases h with rfl | rfl
    · obtain ⟨a, vs, rfl, h, r⟩ := r.lst_inv
      exact ⟨a, vs, rfl, .inl ⟨.inl (.inl (e _ _ h)), fun p hp => kk _ _ _ (Gw.new e hp) (.tup (SqT.of upd_same) (r.ex (Ex.new (e.none hp))))⟩⟩
    · obtain ⟨a, vs, q, h, r2⟩ := id r.tup_inv
      subst q
      exact ⟨a, vs, rfl, .inr ⟨e.st h, kv_same kk e r⟩⟩
/-- list(xs) -/
theorem o_list (h : d1 = .lst ds ∨ d1 = .ro ds ∨ d1 = .tup ds) : OpN c [d1] (.lst ds) (fun xs H Q => ∃ p ys, xs = [.ref p] ∧ (SqL c.K H p ys ∨ SqT c.K H p ys) ∧ ∀ l, H l = none → Q (.ref l) (upd H l (.lst ys))) := fun G H vs Q e r kk => by
  cases r with
  | cons r r' =>
    cases r'
    rcases h with rfl | rfl | rfl
    · obtain ⟨a, vs, rfl, h, r⟩ := r.lst_inv
      exact ⟨a, vs, rfl, .inl (.inl (.inl (e _ _ h))), fun p hp => kk _ _ _ (Gw.new e hp) (.lst upd_same (r.ex (Ex.new (e.none hp))))⟩
    · obtain ⟨a, vs, rfl, h, r⟩ := r.ro_inv
      exact ⟨a, vs, rfl, .inl (e.sl h), fun p hp => kk _ _ _ (Gw.new e hp) (.lst upd_same (r.ex (Ex.new (e.none hp))))⟩
    · obtain ⟨a, vs, rfl, h, r⟩ := r.tup_inv
      exact ⟨a, vs, rfl, .inr (e.st h), fun p hp => kk _ _ _ (Gw.new e hp) (.lst upd_same (r.ex (Ex.new (e.none hp))))⟩
theorem o_lenS {x : Str} (hz : x.length ≤ 100000) : OpN c [.str x] (.int (x.length : Int)) (fun xs H Q => ∃ z, xs = [.str z] ∧ z.length ≤ sizeLine ∧ Q (.int z.length) H) := fun G H vs Q e r kk => by
  cases r with
  | cons r r' => cases r'; cases r; exact ⟨x, rfl, Nat.le_trans hz (by decide), kv_same kk e .int⟩

/-! ### == of plain data -/
mutual
theorem Rep.dp {K : PySem.W.Frag} {T : Ct} {G H : Hp} (e : Ex G H) : ∀ {d : Dt} {v : V} {p : PyData}, Rep K T G d v → d.py = some p → Dp K H v p
  | _, _, _, .non, h => by cases h; exact .non
  | _, _, _, .bl, h => by cases h; exact .bl _
  | _, _, _, .int, h => by cases h; exact .int _
  | _, _, _, .str, h => by cases h; exact .str _
  | _, _, p, .lst h1 r, h => by
    unfold Dt.py at h
    cases q : Dt.pys _ with
    | none => rw [q] at h; cases h
    | some ps => rw [q] at h; cases h; exact .lst (.inl (.inl (e _ _ h1))) (Reps.dp e r q)
  | _, _, p, .ro h1 r, h => by
    unfold Dt.py at h
    cases q : Dt.pys _ with
    | none => rw [q] at h; cases h
    | some ps => rw [q] at h; cases h; exact .lst (e.sl h1) (Reps.dp e r q)
  | _, _, p, .tup h1 r, h => by
    unfold Dt.py at h
    cases q : Dt.pys _ with
    | none => rw [q] at h; cases h
    | some ps => rw [q] at h; cases h; exact .tup (e.st h1) (Reps.dp e r q)
  | _, _, _, .obj _ _ _ _, h => by cases h
theorem Reps.dp {K : PySem.W.Frag} {T : Ct} {G H : Hp} (e : Ex G H) : ∀ {ds : List Dt} {vs : List V} {ps : List PyData}, Reps K T G ds vs → Dt.pys ds = some ps → DpAll K H vs ps
  | _, _, _, .nil, h => by cases h; exact .nil
  | _, _, ps, .cons r rs, h => by
    unfold Dt.pys at h
    split at h
    · rename_i p q h1 h2
      cases h
      exact .cons (Rep.dp e r h1) (Reps.dp e rs h2)
    · cases h
end
theorem o_eqD {p q : PyData} (h1 : d1.py = some p) (h2 : d2.py = some q) (s1 : SeqAt.shaped p = true) (s2 : SeqAt.shaped q = true) : Op2 c d1 d2 (.bl (PyData.eqv p q)) (rEqD c.K) := fun G H x y Q e r1 r2 kk =>
  ⟨p, q, r1.dp e h1, r2.dp e h2, s1, s2, kv_same kk e .bl⟩
theorem o_neD {p q : PyData} (h1 : d1.py = some p) (h2 : d2.py = some q) (s1 : SeqAt.shaped p = true) (s2 : SeqAt.shaped q = true) : Op2 c d1 d2 (.bl (!PyData.eqv p q)) (rNeD c.K) := fun G H x y Q e r1 r2 kk =>
  ⟨p, q, r1.dp e h1, r2.dp e h2, s1, s2, kv_same kk e .bl⟩
theorem o_inD {p : PyData} {qs : List PyData} (h1 : d1.py = some p) (h2 : d2.py = some (.list qs)) (s1 : SeqAt.shaped p = true) (s2 : SeqAt.shaped (.list qs) = true) : Op2 c d1 d2 (.bl (qs.any fun z => PyData.eqv z p)) (rInD c.K) := fun G H x y Q e r1 r2 kk =>
  ⟨p, qs, r1.dp e h1, r2.dp e h2, s1, s2, kv_same kk e .bl⟩

/-! ### isinstance -/
/-- what isinstance asks of an own class -/
structure ClsX (K : PySem.W.Frag) (C : Addr) : Prop where
  cl : Cls K C
  ha : PySem.W.findIn K (.ref C) "__class__" = some (some (.builtin "object.__class__"))
  hn : PySem.W.specialIn K (.builtin "object.__class__") "__get__" = some (some (.builtin "getset_descriptor.__get__"))
  tk : PySem.W.takesIn K (.builtin "object.__class__") = some true
  ob : PySem.W.mroIn K C (.type "object") = some true
inductive HasTy (c : Ctx) : Dt → Value → Prop where
  | non : HasTy c .non (.type "NoneType")
  | bl {t : Bool} : HasTy c (.bl t) (.type "bool")
  | int {k : Int} : HasTy c (.int k) (.type "int")
  | str {x : Str} : HasTy c (.str x) (.type "str")
  | lst {ws : List Dt} : HasTy c (.lst ws) (.type "list")
  | tup {ws : List Dt} : HasTy c (.tup ws) (.type "tuple")
  | obj {m : Nat} {ws : List Dt} {C : Addr} {ns : List Str} : c.T m = some (C, ns) → ClsX c.K C → HasTy c (.obj m ws) (.ref C)
theorem HasTy.tyx {t : Value} {G H : Hp} (h : HasTy c d t) (e : Ex G H) (r : Rep c.K c.T G d v) : TyX c.K H v t := by
  cases h with
  | non => cases r; exact .base .non
  | bl => cases r; exact .base (.bl _)
  | int => cases r; exact .base (.int _)
  | str => cases r; exact .base (.str _)
  | lst => obtain ⟨a, vs, rfl, h, _⟩ := r.lst_inv; exact .base (.lst (e _ _ h))
  | tup =>
    obtain ⟨a, vs, rfl, h, _⟩ := r.tup_inv
    rcases e.st h with (h | ⟨ob, h⟩) | ⟨ob, _, _, h, hc, _⟩
    · exact .base (.tup h)
    · exact .fTuple h
    · exact .kTuple h hc
  | obj t x =>
    obtain ⟨C', ns', a, dx, vs, rfl, q1, q2, _, _⟩ := r.obj_inv
    rw [t] at q1
    cases q1
    exact .base (.ins (e _ _ q2) x.cl x.ha x.hn x.tk x.ob)
theorem xd_isi {ce : Expr} {cv : V} {u t : Value} {r : Bool} {x : Str} {p : Pos} (h : XD c X e st d st1) (hc : PE X ce (tC cv)) (hu : ClsV cv u) (ht : HasTy c d t) (hk : PySem.W.kitOne X.K t u = some r) (hK : X.K = c.K) (hm : X.mg "isinstance" = none) (hg : Gl X "isinstance" := by rfl)
    (he : starEach (e :: [ce]) X.env = (false, eval e X.env) :: starEach [ce] X.env := by rfl) (he2 : starEach (ce :: []) X.env = (false, eval ce X.env) :: starEach [] X.env := by rfl) (hpl : (backTo pos (starEach [ce] X.env)).any (·.1) = false := by rfl) :
    XD c X (.Call (.Name "isinstance" p) [e, ce] [] pos) st (.bl r) st1 :=
  ⟨pe_weak (pe_callB call_isi hg hm (by decide +kernel) (pa_cons h.pe (pa_cons hc pa_nil he2) he) (by decide) (by decide) he hpl) fun σ H Q ⟨G, E, kk⟩ => ⟨G, E, fun v G1 H1 g1 E1 r1 => ⟨v, cv, t, u, r, rfl, hu, by rw [hK]; exact ht.tyx E1.ex r1, hk, kk _ G1 H1 g1 E1 .bl⟩⟩⟩
end Dv
set_option autoImplicit true
set_option maxRecDepth 100000
set_option maxHeartbeats 1000000
/-! zip of two sequences, each a list or a tuple -/
namespace Zk
open PySem
/-- what kind of sequence -/
inductive Kd where
  | l | t
def Kd.cls : Kd → String
  | .l => "list_iterator"
  | .t => "tuple_iterator"
def Kd.Sq : Kd → Heap → Addr → Array Value → Prop
  | .l => Heap.IsList
  | .t => Heap.IsTuple
/-- the walker at it stands ahead of the place i of the sequence at q -/
def Wk (κ : Kd) (h : Heap) (it q : Addr) (i : Nat) : Prop := ∃ o, h.get? it = some o ∧ o.cls = .type κ.cls ∧ o.data = .fields #[.ref q, .int i 0]
section
variable {prog : Program} {w : World} {A : Around} {E : Value → Shared → Prop} {s : Shared} {κ κ1 κ2 : Kd} {it q : Addr} {i : Nat} {vs : Array Value}
theorem Wk.only {h h' : Heap} (x : Wk κ h it q i) (e : ∀ o, h.get? it = some o → h'.get? it = some o) : Wk κ h' it q i := let ⟨o, ho, r⟩ := x; ⟨o, e _ ho, r⟩
theorem Wk.but {h h' : Heap} {b : Addr} (x : Wk κ h it q i) (e : Heap.ExtBut b h h') (n : it ≠ b) : Wk κ h' it q i := x.only fun o z => e _ _ n z
theorem Sq.but {h h' : Heap} {b : Addr} (x : κ.Sq h q vs) (e : Heap.ExtBut b h h') (n : q ≠ b) : κ.Sq h' q vs := by
  cases κ with
  | l => exact Heap.IsList.extBut x e n
  | t => exact Heap.IsTuple.extBut x e n
theorem Sq.push {h : Heap} (x : κ.Sq h q vs) (o : Obj) : κ.Sq (h.push o) q vs := by
  cases κ with
  | l => exact Heap.IsList.push x o
  | t => exact Heap.IsTuple.push x o
theorem draw_item {v : Value} {Q : Value → Shared → Prop} (hw : Wk κ s.heap it q i) (hq : κ.Sq s.heap q vs) (hv : vs[i]? = some v) (k : ∀ h', Wk κ h' it q (i + 1) → Heap.SameBut it s.heap h' → Q v { s with heap := h' }) :
    wpAny (model prog w) A (Builtin.SmallTypes.nextOf (.ref it)) Q E s := by
  cases κ with
  | l => exact wpAny_nextOf_list_item hw hq hv k
  | t => exact RZ.nextOf_tuple_item hw hq hv k
theorem draw_end {Q : Value → Shared → Prop} (hh : A.handled = none) (hw : Wk κ s.heap it q i) (hq : κ.Sq s.heap q vs) (hv : vs[i]? = none)
    (k : ∀ h' e, Heap.ExtBut it s.heap h' → (∃ o, h'.get? e = some o ∧ o.cls = .type "StopIteration") → E (.ref e) { s with heap := h' }) : wpAny (model prog w) A (Builtin.SmallTypes.nextOf (.ref it)) Q E s := by
  cases κ with
  | l => exact wpAny_nextOf_list_end hh hw hq hv k
  | t => exact RZ.nextOf_tuple_end hh hw hq hv k
/-- all but the zip's own things stand -/
abbrev Rest (z TO i1 i2 : Addr) (h h' : Heap) : Prop := ∀ c o, c ≠ z → c ≠ TO → c ≠ i1 → c ≠ i2 → h.get? c = some o → h'.get? c = some o
variable {z TI TO i1 i2 q1 q2 : Addr} {k1 k2 : Nat} {xs ys : Array Value} {x y a b : Value}
theorem go_item {Q : Value → Shared → Prop} (D : ZipApart z TI TO i1 i2 q1 q2) (hz : IsZip s.heap z TI TO .none) (hTI : IsPair s.heap TI (.ref i1) (.ref i2)) (hTO : IsPair s.heap TO a b)
    (w1 : Wk κ1 s.heap i1 q1 k1) (w2 : Wk κ2 s.heap i2 q2 k2) (s1 : κ1.Sq s.heap q1 xs) (s2 : κ2.Sq s.heap q2 ys) (hx : xs[k1]? = some x) (hy : ys[k2]? = some y)
    (k : ∀ h', IsZip h' z TI TO (rawInt s.heap.objs.size) → IsPair h' TO x y → Wk κ1 h' i1 q1 (k1 + 1) → Wk κ2 h' i2 q2 (k2 + 1) → IsPair h' s.heap.objs.size x y → h'.objs.size = s.heap.objs.size + 1 → Rest z TO i1 i2 s.heap h' → Q (.ref s.heap.objs.size) { s with heap := h' }) :
    wpAny (model prog w) A (Builtin.«zip.__next__» ⟨[.ref z], []⟩) (fun fin s' => ∃ v, fin = .done (.ret v) ∧ Q v s') E s := by
  show wpAny _ _ (field (.ref z) 2 >>= _) _ _ _
  refine wpAny_bind (wpAny_field hz rfl (x := .bool false) rfl ?_)
  show wpAny _ _ (field (.ref z) 3 >>= _) _ _ _
  refine wpAny_bind (wpAny_field hz rfl (x := .ref TI) rfl (wpAny_bind (wpAny_seqItems hTI rfl ?_)))
  show wpAny _ _ (Builtin.SmallTypes.ownedTupleIsFree (.ref z) >>= _) _ _ _
  unfold Builtin.SmallTypes.ownedTupleIsFree
  refine wpAny_bind (wpAny_bind (wpAny_field hz rfl (x := .none) rfl (wpAny_pure ?_)))
  simp only [if_true]
  refine wpAny_bind (wpAny_rule (wpAny_bind (wpAny_field hz rfl (x := .ref TO) rfl ?_)))
  refine wpAny_bind (wpAny_setField_rec hz (by simp) fun ha za ea => wpAny_bind ?_)
  have za : IsZip ha z TI TO .ellipsis := za
  simp only [List.zipIdx_cons, List.zipIdx_nil, List.forIn_cons, List.forIn_nil]
  -- the first one
  refine wpAny_bind (wpAny_bind (wpAny_onRaise ?_))
  show wpAny _ _ (Builtin.SmallTypes.nextOf (.ref i1) >>= _) _ _ _
  refine wpAny_bind (draw_item (w1.but ea.extBut D.i1z) (Sq.but s1 ea.extBut D.l1z) hx fun hb wb eb => wpAny_pure ?_)
  have tb : IsPair hb TO a b := eb.extBut _ _ D.TOi1 (ea.extBut _ _ D.TOz hTO)
  refine wpAny_bind (wpAny_seqItems tb rfl (wpAny_bind (wpAny_updateSeq_pair tb fun hc tc ec => ?_)))
  have tc : IsPair hc TO x b := tc
  refine wpAny_bind (wpAny_letGo (wpAny_pure (wpAny_bind (wpAny_bind (wpAny_onRaise ?_)))))
  -- the second one
  show wpAny _ _ (Builtin.SmallTypes.nextOf (.ref i2) >>= _) _ _ _
  refine wpAny_bind (draw_item (((w2.but ea.extBut D.i2z).but eb.extBut D.i12.symm).but ec.extBut D.TOi2.symm) (Sq.but (Sq.but (Sq.but s2 ea.extBut D.l2z) eb.extBut D.l2i1) ec.extBut D.l2TO) hy fun hd wd ed => wpAny_pure ?_)
  have td : IsPair hd TO x b := ed.extBut _ _ D.TOi2 tc
  refine wpAny_bind (wpAny_seqItems td rfl (wpAny_bind (wpAny_updateSeq_pair td fun he te ee => ?_)))
  have te : IsPair he TO x y := te
  refine wpAny_bind (wpAny_letGo (wpAny_pure (wpAny_pure (wpAny_bind (wpAny_seqItems te rfl (wpAny_bind (wpAny_newTuple ?_)))))))
  have hsz : he.objs.size = s.heap.objs.size := by rw [ee.1, ed.1, ec.1, eb.1, ea.1]
  have ze : IsZip he z TI TO .ellipsis := ee.extBut _ _ D.TOz.symm (ed.extBut _ _ D.i2z.symm (ec.extBut _ _ D.TOz.symm (eb.extBut _ _ D.i1z.symm za)))
  have re : Rest z TO i1 i2 s.heap he := fun c o c1 c2 c3 c4 e => ee.extBut _ _ c2 (ed.extBut _ _ c4 (ec.extBut _ _ c2 (eb.extBut _ _ c3 (ea.extBut _ _ c1 e))))
  have w1e : Wk κ1 he i1 q1 (k1 + 1) := ((wb.but ec.extBut D.TOi1.symm).but ed.extBut D.i12).but ee.extBut D.TOi1.symm
  have w2e : Wk κ2 he i2 q2 (k2 + 1) := wd.but ee.extBut D.TOi2.symm
  have zl : z < he.objs.size := Heap.lt_size ze
  show wpAny _ _ (Builtin.SmallTypes.ownedTupleHandOut (.ref z) (.ref he.objs.size) >>= _) _ _ _
  unfold Builtin.SmallTypes.ownedTupleHandOut
  have zf : IsZip (he.push { cls := .type "tuple", data := .seq #[x, y] }) z TI TO .ellipsis := Heap.get?_push_of_some _ ze
  refine wpAny_bind (wpAny_bind (wpAny_setField_rec zf (by simp) fun hg zg eg => ?_))
  have zg : IsZip hg z TI TO (rawInt he.objs.size) := zg
  refine wpAny_setField_rec zg (by simp) fun hh zh eh => ?_
  have zh : IsZip hh z TI TO (rawInt he.objs.size) := zh
  have up : ∀ c o, c ≠ z → he.get? c = some o → hh.get? c = some o := fun c o c1 e => eh.extBut _ _ c1 (eg.extBut _ _ c1 (Heap.get?_push_of_some _ e))
  have th : IsPair hh he.objs.size x y := eh.extBut _ _ (Nat.ne_of_gt zl) (eg.extBut _ _ (Nat.ne_of_gt zl) (Heap.get?_push_size _ rfl))
  have sh : hh.objs.size = he.objs.size + 1 := by rw [eh.1, eg.1, Heap.size_push]
  rw [hsz] at zh th sh
  refine wpAny_pure ⟨_, rfl, ?_⟩
  show Q (.ref he.objs.size) _
  rw [hsz]
  exact k hh zh (up _ _ D.TOz te) (w1e.only fun o e => up _ o D.i1z e) (w2e.only fun o e => up _ o D.i2z e) th sh fun c o c1 c2 c3 c4 e => up c o c1 (re c o c1 c2 c3 c4 e)
theorem go_end {Q : Fin → Shared → Prop} (hn : A.handled = none) (D : ZipApart z TI TO i1 i2 q1 q2) (hz : IsZip s.heap z TI TO .none) (hTI : IsPair s.heap TI (.ref i1) (.ref i2)) (hTO : IsPair s.heap TO a b)
    (w1 : Wk κ1 s.heap i1 q1 k1) (w2 : Wk κ2 s.heap i2 q2 k2) (s1 : κ1.Sq s.heap q1 xs) (s2 : κ2.Sq s.heap q2 ys) (he : xs[k1]? = none ∨ ys[k2]? = none)
    (k : ∀ h' e, Rest z TO i1 i2 s.heap h' → (∃ o, h'.get? e = some o ∧ o.cls = .type "StopIteration") → E (.ref e) { s with heap := h' }) :
    wpAny (model prog w) A (Builtin.«zip.__next__» ⟨[.ref z], []⟩) Q E s := by
  show wpAny _ _ (field (.ref z) 2 >>= _) _ _ _
  refine wpAny_bind (wpAny_field hz rfl (x := .bool false) rfl ?_)
  show wpAny _ _ (field (.ref z) 3 >>= _) _ _ _
  refine wpAny_bind (wpAny_field hz rfl (x := .ref TI) rfl (wpAny_bind (wpAny_seqItems hTI rfl ?_)))
  show wpAny _ _ (Builtin.SmallTypes.ownedTupleIsFree (.ref z) >>= _) _ _ _
  unfold Builtin.SmallTypes.ownedTupleIsFree
  refine wpAny_bind (wpAny_bind (wpAny_field hz rfl (x := .none) rfl (wpAny_pure ?_)))
  simp only [if_true]
  refine wpAny_bind (wpAny_rule (wpAny_bind (wpAny_field hz rfl (x := .ref TO) rfl ?_)))
  refine wpAny_bind (wpAny_setField_rec hz (by simp) fun ha za ea => wpAny_bind ?_)
  have za : IsZip ha z TI TO .ellipsis := za
  simp only [List.zipIdx_cons, List.zipIdx_nil, List.forIn_cons, List.forIn_nil]
  refine wpAny_bind (wpAny_bind (wpAny_onRaise ?_))
  show wpAny _ _ (Builtin.SmallTypes.nextOf (.ref i1) >>= _) _ _ _
  cases hx : xs[k1]? with
  | none =>
    refine wpAny_bind (draw_end hn (w1.but ea.extBut D.i1z) (Sq.but s1 ea.extBut D.l1z) hx fun hb e eb x => ?_)
    obtain ⟨oe, hoe, hce⟩ := x
    have zb : IsZip hb z TI TO .ellipsis := eb _ _ D.i1z.symm za
    have nz : e ≠ z := fun x => by subst x; rw [zb] at hoe; cases hoe; simp at hce
    exact wpAny_setField_rec zb (by simp) fun hc _ ec => k hc e (fun c o c1 _ c3 _ x => ec.extBut _ _ c1 (eb _ _ c3 (ea.extBut _ _ c1 x))) ⟨oe, ec.extBut _ _ nz hoe, hce⟩
  | some x =>
    have hy : ys[k2]? = none := he.resolve_left (by rw [hx]; simp)
    refine wpAny_bind (draw_item (w1.but ea.extBut D.i1z) (Sq.but s1 ea.extBut D.l1z) hx fun hb wb eb => wpAny_pure ?_)
    have tb : IsPair hb TO a b := eb.extBut _ _ D.TOi1 (ea.extBut _ _ D.TOz hTO)
    refine wpAny_bind (wpAny_seqItems tb rfl (wpAny_bind (wpAny_updateSeq_pair tb fun hc tc ec => ?_)))
    refine wpAny_bind (wpAny_letGo (wpAny_pure (wpAny_bind (wpAny_bind (wpAny_onRaise ?_)))))
    show wpAny _ _ (Builtin.SmallTypes.nextOf (.ref i2) >>= _) _ _ _
    refine wpAny_bind (draw_end hn (((w2.but ea.extBut D.i2z).but eb.extBut D.i12.symm).but ec.extBut D.TOi2.symm) (Sq.but (Sq.but (Sq.but s2 ea.extBut D.l2z) eb.extBut D.l2i1) ec.extBut D.l2TO) hy fun hd e ed x => ?_)
    obtain ⟨oe, hoe, hce⟩ := x
    have zd : IsZip hd z TI TO .ellipsis := ed _ _ D.i2z.symm (ec.extBut _ _ D.TOz.symm (eb.extBut _ _ D.i1z.symm za))
    have nz : e ≠ z := fun x => by subst x; rw [zd] at hoe; cases hoe; simp at hce
    exact wpAny_setField_rec zd (by simp) fun hf _ ef => k hf e (fun c o c1 c2 c3 c4 x => ef.extBut _ _ c1 (ed _ _ c4 (ec.extBut _ _ c2 (eb.extBut _ _ c3 (ea.extBut _ _ c1 x))))) ⟨oe, ef.extBut _ _ nz hoe, hce⟩
theorem next_item {Q : Option Value → Shared → Prop} (D : ZipApart z TI TO i1 i2 q1 q2) (hz : IsZip s.heap z TI TO .none) (hTI : IsPair s.heap TI (.ref i1) (.ref i2)) (hTO : IsPair s.heap TO a b)
    (w1 : Wk κ1 s.heap i1 q1 k1) (w2 : Wk κ2 s.heap i2 q2 k2) (s1 : κ1.Sq s.heap q1 xs) (s2 : κ2.Sq s.heap q2 ys) (hx : xs[k1]? = some x) (hy : ys[k2]? = some y)
    (k : ∀ h', IsZip h' z TI TO (rawInt s.heap.objs.size) → IsPair h' TO x y → Wk κ1 h' i1 q1 (k1 + 1) → Wk κ2 h' i2 q2 (k2 + 1) → IsPair h' s.heap.objs.size x y → h'.objs.size = s.heap.objs.size + 1 → Rest z TO i1 i2 s.heap h' → Q (some (.ref s.heap.objs.size)) { s with heap := h' }) :
    wpAny (model prog w) A (pyNext (.ref z)) Q E s := by
  have ty : s.TypeIs (.ref z) "zip" := ⟨_, hz, rfl⟩
  unfold pyNext
  exact wpAny_bind (wpAny_attempt (wpAny_callSpecial?_slot (name := Str.ofString "__next__") ty F.slot_zip_next (wpAny_call_entry F.slot_zip_next ty F.entry_zip_next
    (go_item D hz hTI hTO w1 w2 s1 s2 hx hy fun h' b1 b2 b3 b4 b5 b6 b7 => wpAny_pure (k h' b1 b2 b3 b4 b5 b6 b7)) (F.args_zip_next_1 _))))
theorem next_end {Q : Option Value → Shared → Prop} (hn : A.handled = none) (D : ZipApart z TI TO i1 i2 q1 q2) (hz : IsZip s.heap z TI TO .none) (hTI : IsPair s.heap TI (.ref i1) (.ref i2)) (hTO : IsPair s.heap TO a b)
    (w1 : Wk κ1 s.heap i1 q1 k1) (w2 : Wk κ2 s.heap i2 q2 k2) (s1 : κ1.Sq s.heap q1 xs) (s2 : κ2.Sq s.heap q2 ys) (he : xs[k1]? = none ∨ ys[k2]? = none) (k : ∀ h', Rest z TO i1 i2 s.heap h' → Q none { s with heap := h' }) :
    wpAny (model prog w) A (pyNext (.ref z)) Q E s := by
  have ty : s.TypeIs (.ref z) "zip" := ⟨_, hz, rfl⟩
  unfold pyNext
  refine wpAny_bind (wpAny_attempt (wpAny_callSpecial?_slot (name := Str.ofString "__next__") ty F.slot_zip_next (wpAny_call_entry F.slot_zip_next ty F.entry_zip_next
    (go_end hn D hz hTI hTO w1 w2 s1 s2 he fun h' e r x => ?_) (F.args_zip_next_1 _))))
  obtain ⟨o, ho, hc⟩ := x
  exact wpAny_bind (wpAny_isInstance (T := "StopIteration") (b := true) ⟨o, ho, hc⟩ isSubtype_stop (wpAny_pure (k _ r)))
/-! the making -/
abbrev H1 (κ1 : Kd) (h : Heap) (q1 : Addr) : Heap := h.push { cls := .type κ1.cls, data := .fields #[.ref q1, .int 0 0] }
abbrev H2 (κ1 κ2 : Kd) (h : Heap) (q1 q2 : Addr) : Heap := (H1 κ1 h q1).push { cls := .type κ2.cls, data := .fields #[.ref q2, .int 0 0] }
abbrev H3 (κ1 κ2 : Kd) (h : Heap) (q1 q2 : Addr) : Heap := (H2 κ1 κ2 h q1 q2).push { cls := .type "tuple", data := .seq #[.ref h.objs.size, .ref (H1 κ1 h q1).objs.size] }
abbrev H4 (κ1 κ2 : Kd) (h : Heap) (q1 q2 : Addr) : Heap := (H3 κ1 κ2 h q1 q2).push { cls := .type "tuple", data := .seq #[.none, .none] }
abbrev H5 (κ1 κ2 : Kd) (h : Heap) (q1 q2 : Addr) : Heap := (H4 κ1 κ2 h q1 q2).push { cls := .type "zip", data := .fields #[.none, .bool false, .bool false, .ref (H2 κ1 κ2 h q1 q2).objs.size, .ref (H3 κ1 κ2 h q1 q2).objs.size] }
theorem iter_of {Q : Value → Shared → Prop} (hq : κ.Sq s.heap q vs) (k : Q (.ref s.heap.objs.size) { s with heap := s.heap.push { cls := .type κ.cls, data := .fields #[.ref q, .int 0 0] } }) : wpAny (model prog w) A (pyIter (.ref q)) Q E s := by
  cases κ with
  | l => exact wpAny_pyIter_list hq k
  | t => exact wpAny_pyIter_tuple hq k
theorem meets_new (κ1 κ2 : Kd) (q1 q2 : Addr) (xs ys : Array Value) :
    Meets (Builtin.«zip.__new__» ⟨[.type "zip", .ref q1, .ref q2], []⟩) (fun _ R s => κ1.Sq s.heap q1 xs ∧ κ2.Sq s.heap q2 ys ∧ R (.ok (.ret (.ref (H4 κ1 κ2 s.heap q1 q2).objs.size))) { s with heap := H5 κ1 κ2 s.heap q1 q2 }) :=
  .of_wp fun prog w A R s h => by
    obtain ⟨hp, g, d, tk, os⟩ := s
    obtain ⟨u1, u2, h⟩ := h
    have hsub := sub_zip
    have L1 : κ1.Sq (Shared.heap ⟨hp, g, d, tk, os⟩) q1 xs := u1
    have L2 : κ2.Sq (Shared.heap ⟨hp.push { cls := .type κ1.cls, data := .fields #[.ref q1, .int 0 0] }, g, d, tk, os⟩) q2 ys := Sq.push u2 _
    wp_walk using iter_of L1, iter_of L2
    exact ⟨_, rfl, h⟩
theorem call_zip {Q : Value → Shared → Prop} (s1 : κ1.Sq s.heap q1 xs) (s2 : κ2.Sq s.heap q2 ys)
    (k : ∀ h', IsZip h' (s.heap.objs.size + 4) (s.heap.objs.size + 2) (s.heap.objs.size + 3) .none → IsPair h' (s.heap.objs.size + 2) (.ref s.heap.objs.size) (.ref (s.heap.objs.size + 1)) → IsPair h' (s.heap.objs.size + 3) .none .none →
      Wk κ1 h' s.heap.objs.size q1 0 → Wk κ2 h' (s.heap.objs.size + 1) q2 0 → (∀ c o, s.heap.get? c = some o → h'.get? c = some o) → Q (.ref (s.heap.objs.size + 4)) { s with heap := h' }) : wpAny (model prog w) A (call (.type "zip") [.ref q1, .ref q2]) Q E s := by
  refine callType_new F.called_zip (by decide) (F.typeCall_zip_2 _ _) (F.newCall_zip_2 _ _) (fun obj => F.args_object_init_3 obj _ _) F.entry_zip_new (meets_new κ1 κ2 q1 q2 xs ys) ⟨s1, s2, ?_⟩
  have n1 : (H1 κ1 s.heap q1).objs.size = s.heap.objs.size + 1 := Heap.size_push ..
  have n2 : (H2 κ1 κ2 s.heap q1 q2).objs.size = s.heap.objs.size + 2 := by rw [Heap.size_push, n1]
  have n3 : (H3 κ1 κ2 s.heap q1 q2).objs.size = s.heap.objs.size + 3 := by rw [Heap.size_push, n2]
  have n4 : (H4 κ1 κ2 s.heap q1 q2).objs.size = s.heap.objs.size + 4 := by rw [Heap.size_push, n3]
  have p5 : (H5 κ1 κ2 s.heap q1 q2).get? (H4 κ1 κ2 s.heap q1 q2).objs.size = some _ := Heap.get?_push_size _ rfl
  have p4 : (H5 κ1 κ2 s.heap q1 q2).get? (H3 κ1 κ2 s.heap q1 q2).objs.size = some _ := Heap.get?_push_of_some _ (Heap.get?_push_size _ rfl)
  have p3 : (H5 κ1 κ2 s.heap q1 q2).get? (H2 κ1 κ2 s.heap q1 q2).objs.size = some _ := Heap.get?_push_of_some _ (Heap.get?_push_of_some _ (Heap.get?_push_size _ rfl))
  have p2 : (H5 κ1 κ2 s.heap q1 q2).get? (H1 κ1 s.heap q1).objs.size = some _ := Heap.get?_push_of_some _ (Heap.get?_push_of_some _ (Heap.get?_push_of_some _ (Heap.get?_push_size _ rfl)))
  have p1 : (H5 κ1 κ2 s.heap q1 q2).get? s.heap.objs.size = some _ := Heap.get?_push_of_some _ (Heap.get?_push_of_some _ (Heap.get?_push_of_some _ (Heap.get?_push_of_some _ (Heap.get?_push_size _ rfl))))
  show _ ∧ _
  rw [n2, n3, n4] at p5
  rw [n1, n2] at p3
  rw [n3] at p4
  rw [n1] at p2
  rw [n4]
  exact ⟨⟨_, p5, rfl⟩, k _ p5 p3 p4 ⟨_, p1, rfl, rfl⟩ ⟨_, p2, rfl, rfl⟩ fun c o x => Heap.get?_push_of_some _ (Heap.get?_push_of_some _ (Heap.get?_push_of_some _ (Heap.get?_push_of_some _ (Heap.get?_push_of_some _ x))))⟩
end
end Zk
set_option autoImplicit true
set_option maxRecDepth 100000
namespace Dv
open PySem PySem.Spec PyProof.Rows L2 Zk

variable {c : Ctx} {X : Cx} {st st1 st2 st3 st' : Store} {a b e e2 tg iter : Expr} {es : List Expr} {d d1 d2 d' : Dt} {ds xs ys zs fs gs : List Dt} {pos : Pos} {G G' H H' : Hp} {σ σ' : L2.St} {v : V} {i j n : Nat} {body : List Stmt} {o : Out}

/-! ### zip over lists and tuples, mixed -/
def SqK (κ : Kd) (K : PySem.W.Frag) (H : Hp) (a : Addr) (xs : List V) : Prop := match κ with
  | .l => SqL K H a xs
  | .t => SqT K H a xs
theorem sqk_inv {κ : Kd} {pins : List (Addr × Obj)} {s : Shared} {a : Addr} {xs : List V} (I : Inv X pins σ H s) (h : SqK κ X.K H a xs) : ∃ its : List Value, Vals xs its ∧ κ.Sq s.heap a its.toArray ∧ a < s.heap.objs.size := by
  cases κ with
  | l => obtain ⟨its, r, p, _⟩ := I.list h; exact ⟨its, r, p.isList, p.lt⟩
  | t => obtain ⟨its, r, p, _⟩ := I.tuple h; exact ⟨its, r, p, by obtain ⟨o, e, _⟩ := id p; exact Heap.lt_size e⟩
theorem sqk_inj {κ : Kd} {pins : List (Addr × Obj)} {s : Shared} {a : Addr} {xs ys : List V} (I : Inv X pins σ H s) (h : SqK κ X.K H a xs) (h' : SqK κ X.K H a ys) : xs = ys := by
  cases κ with
  | l => exact I.list_inj h h'
  | t => exact I.tuple_inj h h'
def ItZ (κ1 κ2 : Kd) (K : PySem.W.Frag) (a b : Addr) : It :=
  ⟨fun i H => ∃ (xs ys : List V) (x y : V), SqK κ1 K H a xs ∧ SqK κ2 K H b ys ∧ xs[i]? = some x ∧ ys[i]? = some y,
   fun i H v H' => ∃ T x y, v = .ref T ∧ H T = none ∧ H' = upd H T (.tup [x, y]) ∧ (∀ xs, SqK κ1 K H a xs → xs[i]? = some x) ∧ ∀ ys, SqK κ2 K H b ys → ys[i]? = some y,
   fun i H => ∃ xs ys : List V, SqK κ1 K H a xs ∧ SqK κ2 K H b ys ∧ (xs.length ≤ i ∨ ys.length ≤ i)⟩
theorem turnZ {κ1 κ2 : Kd} {P : Program} {w : World} {K : PySem.W.Frag} {elts : List Expr} {kk : Nat} {tpos : Pos} {a b z TI TO i1 i2 : Addr} (D : ZipApart z TI TO i1 i2 a b) :
    Turn P w K (.Tuple elts kk tpos) (ItZ κ1 κ2 K a b) [z, TI, TO, i1, i2] z (fun i h => IsZip h z TI TO .none ∧ IsPair h TI (.ref i1) (.ref i2) ∧ (∃ x y, IsPair h TO x y) ∧ Wk κ1 h i1 a i ∧ Wk κ2 h i2 b i) where
  mem := by simp
  obj := fun i h st q hq => by
    obtain ⟨hz, hTI, ⟨x, y, hTO⟩, ⟨o1, e1, _, d1⟩, ⟨o2, e2, _, d2⟩⟩ := st
    have : q = z ∨ q = TI ∨ q = TO ∨ q = i1 ∨ q = i2 := by simpa using hq
    rcases this with rfl | rfl | rfl | rfl | rfl
    · exact ⟨_, hz, fun v q => nomatch q⟩
    · exact ⟨_, hTI, fun v q => nomatch q⟩
    · exact ⟨_, hTO, fun v q => nomatch q⟩
    · exact ⟨o1, e1, fun v q => by rw [d1] at q; cases q⟩
    · exact ⟨o2, e2, fun v q => by rw [d2] at q; cases q⟩
  keep := fun i h h' st k => by
    obtain ⟨hz, hTI, ⟨x, y, hTO⟩, h1, h2⟩ := st
    exact ⟨k z (by simp) _ hz, k TI (by simp) _ hTI, ⟨x, y, k TO (by simp) _ hTO⟩, h1.only fun o q => k i1 (by simp) o q, h2.only fun o q => k i2 (by simp) o q⟩
  item := by
    intro X hP hw hK hc i pins s σ H E I hf st hg
    subst hP hw hK
    obtain ⟨hz, hTI, ⟨x0, y0, hTO⟩, h1, h2⟩ := st
    obtain ⟨xs, ys, x, y, hqx, hqy, hx, hy⟩ := hg
    obtain ⟨its, rv, p, _⟩ := sqk_inv I hqx
    obtain ⟨its2, rv2, p2, _⟩ := sqk_inv I hqy
    obtain ⟨u, hu, ru⟩ := rv.get hx
    obtain ⟨u2, hu2, ru2⟩ := rv2.get hy
    have hzl : z < s.heap.objs.size := Heap.lt_size hz
    refine next_item D hz hTI hTO h1 h2 p p2 (x := u) (y := u2) (by simpa using hu) (by simpa using hu2) fun h' z' TO' h1' h2' hT hsz hk => ?_
    refine ⟨_, rfl, wpAny_letOwnedTupleGo_zip (s := { s with heap := h' }) z' fun h'' z'' sb => ?_⟩
    have hT2 : h''.get? s.heap.objs.size = some { cls := .type "tuple", data := .seq #[u, u2] } := (sb.2 _ (Nat.ne_of_gt hzl)).trans hT
    have new : ObjOk X.prog X.w (upd H s.heap.objs.size (.tup [x, y])) h'' s.heap.objs.size (.tup [x, y]) := ⟨by show 2 ≤ sizeLine; decide, [u, u2], .cons ru (.cons ru2 .nil), ⟨_, hT2, rfl, _, rfl⟩⟩
    have nin : ∀ q, q ∉ [z, TI, TO, i1, i2] → q ≠ z ∧ q ≠ TO ∧ q ≠ i1 ∧ q ≠ i2 := fun q hb => ⟨fun e => hb (by simp [e]), fun e => hb (by simp [e]), fun e => hb (by simp [e]), fun e => hb (by simp [e])⟩
    have I1 : Inv X pins σ (upd H s.heap.objs.size (.tup [x, y])) { s with heap := h'' } :=
      I.turnedNew (t' := s.toks) (ch := [z, TI, TO, i1, i2]) (fun q o hb e => by
        obtain ⟨n1, n2, n3, n4⟩ := nin q hb
        exact (sb.2 q n1).trans (hk q o n1 n2 n3 n4 e)) hf (Nat.le_refl _) new
    refine ⟨.ref s.heap.objs.size, _, I1, rfl, ⟨_, x, y, rfl, I.hok.fresh (Nat.le_refl _), rfl, fun l hl => by rw [sqk_inj I hl hqx]; exact hx, fun l hl => by rw [sqk_inj I hl hqy]; exact hy⟩, ⟨z'', ?_, ⟨u, u2, ?_⟩, ?_, ?_⟩, fun q hcm => ?_⟩
    · exact (sb.2 _ D.TIz).trans (hk _ _ D.TIz D.TITO D.TIi1 D.TIi2 hTI)
    · exact (sb.2 _ D.TOz).trans TO'
    · exact h1'.only fun o q => (sb.2 _ D.i1z).trans q
    · exact h2'.only fun o q => (sb.2 _ D.i2z).trans q
    · have hlt : q < s.heap.objs.size := by
        have : q = z ∨ q = TI ∨ q = TO ∨ q = i1 ∨ q = i2 := by simpa using hcm
        rcases this with e | e | e | e | e
        · rw [e]; exact hzl
        · rw [e]; exact Heap.lt_size hTI
        · rw [e]; exact Heap.lt_size hTO
        · rw [e]; obtain ⟨_, e1, _⟩ := h1; exact Heap.lt_size e1
        · rw [e]; obtain ⟨_, e2, _⟩ := h2; exact Heap.lt_size e2
      rw [upd_ne (Nat.ne_of_lt hlt)]
      exact (hf q hcm).1
  done := by
    intro X hP hw hK hc i pins s σ H E I hf st hg
    subst hP hw hK
    obtain ⟨hz, hTI, ⟨x0, y0, hTO⟩, h1, h2⟩ := st
    obtain ⟨xs, ys, hqx, hqy, hend⟩ := hg
    obtain ⟨its, rv, p, _⟩ := sqk_inv I hqx
    obtain ⟨its2, rv2, p2, _⟩ := sqk_inv I hqy
    have l1 := rv.length
    have l2 := rv2.length
    have he : its.toArray[i]? = none ∨ its2.toArray[i]? = none := hend.imp (fun q => by simp; omega) fun q => by simp; omega
    exact next_end (I.ok.hd hc) D hz hTI hTO h1 h2 p p2 he fun h' hk => ⟨rfl, I.turnedL (t' := s.toks) (ch := [z, TI, TO, i1, i2]) (fun q o hb e =>
      hk q o (fun e => hb (by simp [e])) (fun e => hb (by simp [e])) (fun e => hb (by simp [e])) (fun e => hb (by simp [e])) e) hf⟩
  self := fun A i s Q E st h => wpAny_pyIter_zip st.1 h
def iZ (κ1 κ2 : Kd) (K : PySem.W.Frag) (ta : TA) : TI := fun σ H R => ta σ H fun vs H1 => ∃ a b xs ys, vs = [.ref a, .ref b] ∧ SqK κ1 K H1 a xs ∧ SqK κ2 K H1 b ys ∧ R (ItZ κ1 κ2 K a b) H1
theorem pi_z {κ1 κ2 : Kd} {ta : TA} {p pos tpos : Pos} {elts : List Expr} {kk : Nat} (hg : Gl X "zip") (hm : X.mg "zip" = none) (ha : PA X [e, e2] ta)
    (hs : starEach [e, e2] X.env = (false, eval e X.env) :: starEach [e2] X.env := by rfl) (hpl : (backTo pos (starEach [e2] X.env)).any (·.1) = false := by rfl) :
    PI X (.Tuple elts kk tpos) (.Call (.Name "zip" p) [e, e2] [] pos) (iZ κ1 κ2 X.K ta) := by
  refine ⟨fun pins s σ H R I h => ?_⟩
  refine Call_ (ld_blt I hg hm PyProof.Rows.boot_zip (PyProof.Rows.callWith_type1 (thn (ha.run pos pins s σ H _ I h) fun us s1 ⟨vs, H1, I1, r1, q1⟩ => ?_) hs hpl))
  obtain ⟨a, b, xs, ys, ex, hqx, hqy, q⟩ := q1
  subst ex
  cases r1 with
  | cons r rr =>
    cases rr with
    | cons r' rr =>
      cases rr; cases r; cases r'
      have fresh : ∀ q, q ∈ [s1.heap.objs.size + 4, s1.heap.objs.size + 2, s1.heap.objs.size + 3, s1.heap.objs.size, s1.heap.objs.size + 1] → FpOk X pins H1 q := fun q hq => by
        have hle : s1.heap.objs.size ≤ q := by
          have : q = s1.heap.objs.size + 4 ∨ q = s1.heap.objs.size + 2 ∨ q = s1.heap.objs.size + 3 ∨ q = s1.heap.objs.size ∨ q = s1.heap.objs.size + 1 := by simpa using hq
          rcases this with z | z | z | z | z
          · rw [z]; exact Nat.le_add_right _ _
          · rw [z]; exact Nat.le_add_right _ _
          · rw [z]; exact Nat.le_add_right _ _
          · rw [z]; exact Nat.le_refl _
          · rw [z]; exact Nat.le_add_right _ _
        exact I1.fpOk hle (I1.hok.fresh hle)
      obtain ⟨its, rv, p1, l1⟩ := sqk_inv I1 hqx
      obtain ⟨its2, rv2, p2, l2⟩ := sqk_inv I1 hqy
      refine Zk.call_zip p1 p2 fun h' hz hTI hTO h1 h2 hk => wpAny_pyIter_zip hz ?_
      have I2 : Inv X pins σ H1 { s1 with heap := h' } := I1.kept (t' := s1.toks) hk
      exact ⟨s1.heap.objs.size + 4, [s1.heap.objs.size + 4, s1.heap.objs.size + 2, s1.heap.objs.size + 3, s1.heap.objs.size, s1.heap.objs.size + 1], _, _, H1, rfl, I2, turnZ (PySem.W.ktu_apart s1.heap.objs.size a b l1 l2), ⟨hz, hTI, ⟨_, _, hTO⟩, h1, h2⟩, fresh, q⟩
/-- the data of a list or a tuple -/
inductive SqD : Kd → Dt → List Dt → Prop where
  | l {ws : List Dt} : SqD .l (.lst ws) ws
  | r {ws : List Dt} : SqD .l (.ro ws) ws
  | t {ws : List Dt} : SqD .t (.tup ws) ws
theorem SqD.at {κ : Kd} (h : SqD κ d ds) (r : Rep c.K c.T G d v) : ∃ a vs, v = .ref a ∧ SqK κ c.K G a vs ∧ Reps c.K c.T G ds vs := by
  cases h with
  | l => obtain ⟨a, vs, e, h, r⟩ := r.lst_inv; exact ⟨a, vs, e, .inl (.inl h), r⟩
  | r => obtain ⟨a, vs, e, h, r⟩ := r.ro_inv; exact ⟨a, vs, e, h, r⟩
  | t => obtain ⟨a, vs, e, h, r⟩ := r.tup_inv; exact ⟨a, vs, e, h, r⟩
theorem SqK.ex {κ : Kd} {K : PySem.W.Frag} {a : Addr} {vs : List V} (e : Ex G H) (h : SqK κ K G a vs) : SqK κ K H a vs := by
  cases κ with
  | l => exact e.sl h
  | t => exact e.st h
theorem zipWith_get {α β γ : Type} {f : α → β → γ} {xs : List α} {ys : List β} {i : Nat} {x : α} {y : β} (h1 : xs[i]? = some x) (h2 : ys[i]? = some y) : (List.zipWith f xs ys)[i]? = some (f x y) := by
  rw [List.getElem?_zipWith, h1, h2]
theorem xi_zip {κ1 κ2 : Kd} {p pos tpos : Pos} {elts : List Expr} {kk : Nat} (ha : XA c X [e, e2] st [d1, d2] st1) (h1 : SqD κ1 d1 xs) (h2 : SqD κ2 d2 ys) (hK : X.K = c.K) (hm : X.mg "zip" = none) (hg : Gl X "zip" := by rfl)
    (hs : starEach [e, e2] X.env = (false, eval e X.env) :: starEach [e2] X.env := by rfl) (hpl : (backTo pos (starEach [e2] X.env)).any (·.1) = false := by rfl) :
    XI c X (.Tuple elts kk tpos) (.Call (.Name "zip" p) [e, e2] [] pos) st (List.zipWith (fun x y => .tup [x, y]) xs ys) st1 :=
  ⟨pi_weak (pi_z (κ1 := κ1) (κ2 := κ2) hg hm ha.pa hs hpl) fun σ H R ⟨G, E, k⟩ => ⟨G, E, fun vs G1 H1 g1 E1 r1 => by
    cases r1 with
    | cons r r1 =>
      cases r1 with
      | cons r' r1 =>
        cases r1
        obtain ⟨a, us, rfl, q1, r1⟩ := h1.at r
        obtain ⟨b, ws, rfl, q2, r2⟩ := h2.at r'
        rw [← hK] at q1 q2
        refine ⟨a, b, us, ws, rfl, q1.ex E1.ex, q2.ex E1.ex, k _ G1 H1 g1 E1 ⟨fun i G H e1 e2 hi => ?_, fun i G H e1 e2 hi => ?_, fun i G H x H' e1 e2 hi y => ?_⟩⟩
        · have hi' : i < us.length ∧ i < ws.length := by
            have hi0 : i < min xs.length ys.length := by simpa using hi
            rw [← r1.length, ← r2.length]; omega
          exact ⟨us, ws, us[i]'hi'.1, ws[i]'hi'.2, q1.ex (e1.trans e2), q2.ex (e1.trans e2), List.getElem?_eq_getElem _, List.getElem?_eq_getElem _⟩
        · refine ⟨us, ws, q1.ex (e1.trans e2), q2.ex (e1.trans e2), ?_⟩
          rw [← r1.length, ← r2.length]
          have : min xs.length ys.length ≤ i := by simpa using hi
          omega
        · obtain ⟨T, u, w, rfl, hn, rfl, y1, y2⟩ := y
          obtain ⟨d, z1, z2⟩ := r1.getV (y1 us (q1.ex (e1.trans e2)))
          obtain ⟨d', z3, z4⟩ := r2.getV (y2 ws (q2.ex (e1.trans e2)))
          exact ⟨_, _, Gw.new e2 hn, zipWith_get z1 z3, .tup (SqT.of upd_same) (.cons ((z2.ex e1).ex (Ex.new (e2.none hn))) (.cons ((z4.ex e1).ex (Ex.new (e2.none hn))) .nil))⟩⟩⟩
theorem xi_rev {p : Pos} (h : XA c X [e] st [.lst ds] st1) (hK : X.K = c.K) (hm : X.mg "reversed" = none) (hg : Gl X "reversed" := by rfl) (hs : starEach [e] X.env = [(false, eval e X.env)] := by rfl) : XI c X tg (.Call (.Name "reversed" p) [e] [] pos) st ds.reverse st1 :=
  ⟨pi_weak (pi_reversed hg hm h.pa hs) fun σ H R ⟨G, E, k⟩ => ⟨G, E, fun vs G1 H1 g1 E1 r1 => by
    cases r1 with
    | cons r r1 =>
      cases r1
      obtain ⟨a, us, rfl, q1, r1⟩ := r.lst_inv
      have q : SqL X.K H1 a us := .inl (.inl (E1.ex _ _ q1))
      refine ⟨a, us, rfl, q, k _ G1 H1 g1 E1 ⟨fun i G H e1 e2 hi => ?_, fun i G H e1 e2 hi => ?_, fun i G H x H' e1 e2 hi y => ?_⟩⟩
      · have hi' : i < us.length := by rw [← r1.length]; simpa using hi
        exact ⟨hi', us, us[us.length - 1 - i]'(by omega), .inl (.inl (e2 _ _ (e1 _ _ q1))), List.getElem?_eq_getElem _⟩
      · show us.length ≤ i
        rw [← r1.length]; simpa using hi
      · obtain ⟨rfl, y⟩ := y
        have hi' : i < ds.length := by simpa using hi
        obtain ⟨d, z1, z2⟩ := r1.getV (y us (.inl (.inl (e2 _ _ (e1 _ _ q1)))))
        refine ⟨G, d, Gw.refl e2, ?_, z2.ex e1⟩
        rw [List.getElem?_reverse hi', r1.length]
        exact z1⟩⟩
end Dv
set_option autoImplicit true
set_option maxRecDepth 100000
namespace Dv
open PySem PySem.Spec PyProof.Rows L2

variable {c : Ctx} {X : Cx} {st st1 st2 st3 st' : Store} {a b e e2 tg iter : Expr} {es : List Expr} {d d1 d2 d' : Dt} {ds xs ys zs fs gs : List Dt} {pos : Pos} {G G' H H' : Hp} {σ σ' : L2.St} {v : V} {n : Nat} {body : List Stmt} {o : Out} {i j : Int} {t : Bool}

/-! ### whole numbers -/
theorem xd_add (ha : XD c X a st (.int i) st1) (hb : XD c X b st1 (.int j) st2) : XD c X (.BinOp a .Add b pos) st (.int (i + j)) st2 := xd_bin ha hb op_add (o_I0 (g := fun i j => i + j))
theorem xd_sub (ha : XD c X a st (.int i) st1) (hb : XD c X b st1 (.int j) st2) : XD c X (.BinOp a .Sub b pos) st (.int (i - j)) st2 := xd_bin ha hb op_sub (o_I0 (g := fun i j => i - j))
theorem op_mulB : OpR X (binaryOp .Mult) (rI IntMulOk fun i j => .int (i * j)) := opI fun _ _ _ _ _ _ _ hc q => mul_int q hc
theorem xd_mul (ha : XD c X a st (.int i) st1) (hb : XD c X b st1 (.int j) st2) (h : IntMulOk i j) : XD c X (.BinOp a .Mult b pos) st (.int (i * j)) st2 := xd_bin ha hb op_mulB (o_I (g := fun i j => i * j) h)
theorem xd_mod (ha : XD c X a st (.int i) st1) (hb : XD c X b st1 (.int j) st2) (h : 0 < j) : XD c X (.BinOp a .Mod b pos) st (.int (i % j)) st2 := xd_bin ha hb op_mod (o_I (g := fun i j => i % j) h)
def CDv (_ j : Int) : Prop := j ≠ 0 ∧ j.natAbs.log2 < 9000
theorem op_fdivV : OpR X (binaryOp .FloorDiv) (rI CDv fun i j => .int (i.fdiv j)) := opI fun _ _ _ _ _ _ _ hc q => floordiv_int hc.1 q (.inl (PyProof.noPylong_of_log2 hc.2))
theorem xd_fdiv (ha : XD c X a st (.int i) st1) (hb : XD c X b st1 (.int j) st2) (h : j ≠ 0) (hs : j.natAbs.log2 < 9000) : XD c X (.BinOp a .FloorDiv b pos) st (.int (i.fdiv j)) st2 := xd_bin ha hb op_fdivV (o_I (g := fun i j => i.fdiv j) ⟨h, hs⟩)
theorem xd_neg (ha : XD c X a st (.int i) st1) : XD c X (.UnaryOp .USub a pos) st (.int (-i)) st1 := xd_un ha un_neg o_neg
theorem xt_lt (ha : XD c X a st (.int i) st1) (hb : XD c X b st1 (.int j) st2) (ht : decide (i < j) = t) : XT c X (.Compare a [.Lt] [b] pos) st t st2 := xt_cmp ha hb op_lt (by rw [← ht]; exact o_B0 (g := fun i j => decide (i < j))) (nomark _)
theorem xt_le (ha : XD c X a st (.int i) st1) (hb : XD c X b st1 (.int j) st2) (ht : decide (i ≤ j) = t) : XT c X (.Compare a [.LtE] [b] pos) st t st2 := xt_cmp ha hb op_le (by rw [← ht]; exact o_B0 (g := fun i j => decide (i ≤ j))) (nomark _)
theorem xt_gt (ha : XD c X a st (.int i) st1) (hb : XD c X b st1 (.int j) st2) (ht : decide (j < i) = t) : XT c X (.Compare a [.Gt] [b] pos) st t st2 := xt_cmp ha hb op_gt (by rw [← ht]; exact o_B0 (g := fun i j => decide (j < i))) (nomark _)
theorem xt_ge (ha : XD c X a st (.int i) st1) (hb : XD c X b st1 (.int j) st2) (ht : decide (j ≤ i) = t) : XT c X (.Compare a [.GtE] [b] pos) st t st2 := xt_cmp ha hb op_ge (by rw [← ht]; exact o_B0 (g := fun i j => decide (j ≤ i))) (nomark _)
theorem xd_lt (ha : XD c X a st (.int i) st1) (hb : XD c X b st1 (.int j) st2) : XD c X (.Compare a [.Lt] [b] pos) st (.bl (decide (i < j))) st2 := xd_cmp ha hb op_lt (o_B0 (g := fun i j => decide (i < j))) (nomark _)
theorem xd_gt (ha : XD c X a st (.int i) st1) (hb : XD c X b st1 (.int j) st2) : XD c X (.Compare a [.Gt] [b] pos) st (.bl (decide (j < i))) st2 := xd_cmp ha hb op_gt (o_B0 (g := fun i j => decide (j < i))) (nomark _)

/-! ### == and != of scalars -/
/-- the scalar as a value -/
def Dt.v? : Dt → Option V
  | .non => some .non
  | .bl b => some (.bl b)
  | .int i => some (.int i)
  | .str x => some (.str x)
  | _ => none
theorem Rep.v? {K : PySem.W.Frag} {T : Ct} {u : V} (h : d.v? = some u) (r : Rep K T G d v) : v = u := by
  cases r <;> first | (cases h; rfl) | cases h
theorem o_eqS {u w : V} (h1 : d1.v? = some u) (h2 : d2.v? = some w) (hs : L2.scal u w = true) (ht : decide (u = w) = t) : Op2 c d1 d2 (.bl t) rEq := fun G H x y Q e r1 r2 k => by
  rw [r1.v? h1, r2.v? h2]; exact ⟨hs, by rw [ht]; exact kv_same k e .bl⟩
theorem o_neS {u w : V} (h1 : d1.v? = some u) (h2 : d2.v? = some w) (hs : L2.scal u w = true) (ht : (!decide (u = w)) = t) : Op2 c d1 d2 (.bl t) rNe := fun G H x y Q e r1 r2 k => by
  rw [r1.v? h1, r2.v? h2]; exact ⟨hs, by rw [ht]; exact kv_same k e .bl⟩
theorem xt_eqS {u w : V} (ha : XD c X a st d1 st1) (hb : XD c X b st1 d2 st2) (h1 : d1.v? = some u) (h2 : d2.v? = some w) (hs : L2.scal u w = true) (ht : decide (u = w) = t) : XT c X (.Compare a [.Eq] [b] pos) st t st2 := xt_cmp ha hb op_eq (o_eqS h1 h2 hs ht) (nomark _)
theorem xt_neS {u w : V} (ha : XD c X a st d1 st1) (hb : XD c X b st1 d2 st2) (h1 : d1.v? = some u) (h2 : d2.v? = some w) (hs : L2.scal u w = true) (ht : (!decide (u = w)) = t) : XT c X (.Compare a [.NotEq] [b] pos) st t st2 := xt_cmp ha hb op_ne (o_neS h1 h2 hs ht) (nomark _)
theorem xd_eqS {u w : V} (ha : XD c X a st d1 st1) (hb : XD c X b st1 d2 st2) (h1 : d1.v? = some u) (h2 : d2.v? = some w) (hs : L2.scal u w = true) (ht : decide (u = w) = t) : XD c X (.Compare a [.Eq] [b] pos) st (.bl t) st2 := xd_cmp ha hb op_eq (o_eqS h1 h2 hs ht) (nomark _)
theorem xd_neS {u w : V} (ha : XD c X a st d1 st1) (hb : XD c X b st1 d2 st2) (h1 : d1.v? = some u) (h2 : d2.v? = some w) (hs : L2.scal u w = true) (ht : (!decide (u = w)) = t) : XD c X (.Compare a [.NotEq] [b] pos) st (.bl t) st2 := xd_cmp ha hb op_ne (o_neS h1 h2 hs ht) (nomark _)
theorem dec_I {i j : Int} : decide (V.int i = V.int j) = decide (i = j) := by
  by_cases h : i = j
  · subst h; simp
  · have : ¬ V.int i = V.int j := fun z => h (by injection z)
    rw [decide_eq_false h, decide_eq_false this]
theorem xt_eqI (ha : XD c X a st (.int i) st1) (hb : XD c X b st1 (.int j) st2) (ht : decide (i = j) = t) : XT c X (.Compare a [.Eq] [b] pos) st t st2 := xt_eqS ha hb rfl rfl rfl (dec_I.trans ht)
theorem xt_neI (ha : XD c X a st (.int i) st1) (hb : XD c X b st1 (.int j) st2) (ht : (!decide (i = j)) = t) : XT c X (.Compare a [.NotEq] [b] pos) st t st2 := xt_neS ha hb rfl rfl rfl ((congrArg not dec_I).trans ht)
theorem xd_eqI (ha : XD c X a st (.int i) st1) (hb : XD c X b st1 (.int j) st2) : XD c X (.Compare a [.Eq] [b] pos) st (.bl (decide (i = j))) st2 := xd_eqS ha hb rfl rfl rfl dec_I

/-! ### built-ins by their names -/
theorem xd_len {p : Pos} (h : XD c X e st d st1) (hd : d = .lst ds ∨ d = .ro ds ∨ d = .tup ds) (hK : X.K = c.K) (hm : X.mg "len" = none) (hg : Gl X "len" := by rfl) (he : starEach (e :: []) X.env = (false, eval e X.env) :: starEach [] X.env := by rfl) (hpl : (backTo pos (starEach [] X.env)).any (·.1) = false := by rfl) :
    XD c X (.Call (.Name "len" p) [e] [] pos) st (.int (ds.length : Int)) st1 := by
  have q := o_len (c := c) hd
  rw [← hK] at q
  exact xd_callB (xa_cons h xa_nil he) call_len_seq q hm PySem.boot_len hg (by decide) (by decide) he hpl
theorem xd_lenS {x : Str} {p : Pos} (h : XD c X e st (.str x) st1) (hz : x.length ≤ 100000) (hm : X.mg "len" = none) (hg : Gl X "len" := by rfl) (he : starEach (e :: []) X.env = (false, eval e X.env) :: starEach [] X.env := by rfl) (hpl : (backTo pos (starEach [] X.env)).any (·.1) = false := by rfl) :
    XD c X (.Call (.Name "len" p) [e] [] pos) st (.int (x.length : Int)) st1 := xd_callB (xa_cons h xa_nil he) call_len_str (o_lenS hz) hm PySem.boot_len hg (by decide) (by decide) he hpl
theorem xd_intI {p : Pos} (h : XD c X e st (.int i) st1) (hm : X.mg "int" = none) (hg : Gl X "int" := by rfl) (he : starEach (e :: []) X.env = (false, eval e X.env) :: starEach [] X.env := by rfl) (hpl : (backTo pos (starEach [] X.env)).any (·.1) = false := by rfl) :
    XD c X (.Call (.Name "int" p) [e] [] pos) st (.int i) st1 := xd_callTy (xa_cons h xa_nil he) call_int1 o_int1 hm (by decide +kernel) hg (by decide) (by decide) he hpl
theorem xd_intB {p : Pos} (h : XD c X e st (.bl t) st1) (hm : X.mg "int" = none) (hg : Gl X "int" := by rfl) (he : starEach (e :: []) X.env = (false, eval e X.env) :: starEach [] X.env := by rfl) (hpl : (backTo pos (starEach [] X.env)).any (·.1) = false := by rfl) :
    XD c X (.Call (.Name "int" p) [e] [] pos) st (.int (if t then 1 else 0)) st1 := xd_callTy (xa_cons h xa_nil he) call_int1 o_intB hm (by decide +kernel) hg (by decide) (by decide) he hpl
theorem xd_abs {p : Pos} (h : XD c X e st (.int i) st1) (hm : X.mg "abs" = none) (hg : Gl X "abs" := by rfl) (he : starEach (e :: []) X.env = (false, eval e X.env) :: starEach [] X.env := by rfl) (hpl : (backTo pos (starEach [] X.env)).any (·.1) = false := by rfl) :
    XD c X (.Call (.Name "abs" p) [e] [] pos) st (.int (i.natAbs : Int)) st1 := by
  have q := xd_callB (pos := pos) (p := p) (x := "abs") (xa_cons h xa_nil he) call_abs o_abs hm (by decide +kernel) hg (by decide) (by decide) he hpl
  have e1 : (if i < 0 then -i else i) = (i.natAbs : Int) := by split <;> omega
  rw [e1] at q
  exact q
theorem xd_tuple {p : Pos} (h : XD c X e st d st1) (hd : d = .lst ds ∨ d = .tup ds) (hK : X.K = c.K) (hm : X.mg "tuple" = none) (hg : Gl X "tuple" := by rfl) (he : starEach (e :: []) X.env = (false, eval e X.env) :: starEach [] X.env := by rfl) (hpl : (backTo pos (starEach [] X.env)).any (·.1) = false := by rfl) :
    XD c X (.Call (.Name "tuple" p) [e] [] pos) st (.tup ds) st1 := by
  have q := o_tuple (c := c) hd
  rw [← hK] at q
  exact xd_callTy (xa_cons h xa_nil he) call_tuple_of q hm (by decide +kernel) hg (by decide) (by decide) he hpl
theorem xd_list {p : Pos} (h : XD c X e st d st1) (hd : d = .lst ds ∨ d = .ro ds ∨ d = .tup ds) (hK : X.K = c.K) (hm : X.mg "list" = none) (hg : Gl X "list" := by rfl) (he : starEach (e :: []) X.env = (false, eval e X.env) :: starEach [] X.env := by rfl) (hpl : (backTo pos (starEach [] X.env)).any (·.1) = false := by rfl) :
    XD c X (.Call (.Name "list" p) [e] [] pos) st (.lst ds) st1 := by
  have q := o_list (c := c) hd
  rw [← hK] at q
  exact xd_callTy (xa_cons h xa_nil he) call_list_of q hm (by decide +kernel) hg (by decide) (by decide) he hpl
/-- items -/
theorem xd_ixT {m : Nat} (ha : XD c X a st (.tup ds) st1) (hb : XD c X b st1 (.int i) st2) (hn : i = m) (hd : ds[m]? = some d) (hK : X.K = c.K) (hs : PlainIx b := by exact fun _ _ => rfl) : XD c X (.Subscript a b pos) st d st2 := by
  have q := o_ixT (c := c) hn hd
  rw [← hK] at q
  exact xd_ix ha hb ix_tup q hs
theorem xd_ixL {m : Nat} (ha : XD c X a st (.lst ds) st1) (hb : XD c X b st1 (.int i) st2) (hn : i = m) (hd : ds[m]? = some d) (hK : X.K = c.K) (hs : PlainIx b := by exact fun _ _ => rfl) : XD c X (.Subscript a b pos) st d st2 := by
  have q := o_ixL (c := c) hn hd
  rw [← hK] at q
  exact xd_ix ha hb ix_list q hs
theorem xd_ixR {m : Nat} (ha : XD c X a st (.ro ds) st1) (hb : XD c X b st1 (.int i) st2) (hn : i = m) (hd : ds[m]? = some d) (hK : X.K = c.K) (hs : PlainIx b := by exact fun _ _ => rfl) : XD c X (.Subscript a b pos) st d st2 := by
  have q := o_ixR (c := c) hn hd
  rw [← hK] at q
  exact xd_ix ha hb ix_list q hs
theorem xd_ixS {x : Str} {m q : Nat} (ha : XD c X a st (.str x) st1) (hb : XD c X b st1 (.int i) st2) (hl : x.length ≤ 100000) (hn : i = m) (hd : x.cps.toList[m]? = some q) (hs : PlainIx b := by exact fun _ _ => rfl) : XD c X (.Subscript a b pos) st (.str ⟨#[q]⟩) st2 := xd_ix ha hb ix_str (o_ixS hl hn hd) hs

/-! ### one's own list, by its name -/
/-- x[e], an item -/
theorem xd_ixO (k : Nat) {s : Sv} {x : Str} {p1 : Pos} {m : Nat} (hb : XD c X b st (.int i) st1) (hk : st[k]? = some (some s)) (hk1 : st1[k]? = some (some s)) (hs : s.Has xs) (hn : i = m) (hd : xs[m]? = some d) (hN : X.N[k]? = some x := by rfl)
    (hv : Vis X.env.scope x := by first | exact Or.inl rfl | exact Or.inr (Or.inl rfl) | exact Or.inr (Or.inr rfl)) (hdb : (x == ("__debug__" : Str)) = false := by decide) (hcd : (x == ("__classdict__" : Str)) = false := by decide) (hp : PlainIx b := by exact fun _ _ => rfl) :
    XD c X (.Subscript (.Name x p1) b pos) st d st1 :=
  ⟨pe_weak (pe_ix ix_list (pe_var hN hv hdb hcd) hb.pe hp) fun σ H Q ⟨G, E, kk⟩ => by
    obtain ⟨a, ws0, z1, _⟩ := E.at hk hs
    refine ⟨_, z1, G, E, fun w G1 H1 g1 E1 r1 => ?_⟩
    obtain ⟨a', ws, y1, y2, y3, y4, _⟩ := E1.at hk1 hs
    rw [z1] at y1
    cases y1
    cases r1
    obtain ⟨u, q1, q2⟩ := y4.get hd
    exact ⟨a, ws, i, u, rfl, rfl, .inl (.inl y3), by rw [hn]; exact atI_nat q1, kk u G1 H1 g1 E1 q2⟩⟩
/-- tuple(x) -/
theorem xd_tupleO (k : Nat) {s : Sv} {x : Str} {p p1 : Pos} (hk : st[k]? = some (some s)) (hs : s.Has xs) (hm : X.mg "tuple" = none) (hg : Gl X "tuple" := by rfl) (hN : X.N[k]? = some x := by rfl)
    (hv : Vis X.env.scope x := by first | exact Or.inl rfl | exact Or.inr (Or.inl rfl) | exact Or.inr (Or.inr rfl)) (hdb : (x == ("__debug__" : Str)) = false := by decide) (hcd : (x == ("__classdict__" : Str)) = false := by decide)
    (he : starEach (.Name x p1 :: []) X.env = (false, eval (.Name x p1) X.env) :: starEach [] X.env := by rfl) (hpl : (backTo pos (starEach [] X.env)).any (·.1) = false := by rfl) :
    XD c X (.Call (.Name "tuple" p) [.Name x p1] [] pos) st (.tup xs) st :=
  ⟨pe_weak (pe_callTy call_tuple_of hg hm (by decide +kernel) (pa_cons (pe_var hN hv hdb hcd) pa_nil he) (by decide) (by decide) he hpl) fun σ H Q ⟨G, E, kk⟩ => by
    obtain ⟨a, ws, z1, z2, z3, z4, _⟩ := E.at hk hs
    exact ⟨_, z1, a, ws, rfl, .inl ⟨.inl (.inl z3), fun p hp => kk _ _ _ (Gw.new E.ex hp).gr (E.g1 (Gw.new E.ex hp)) (.tup (SqT.of upd_same) (z4.ex (Ex.new (E.ex.none hp))))⟩⟩⟩
/-- x[e1] = e2 -/
theorem xp_setI (k : Nat) {s : Sv} {x : Str} {p1 p2 ppos : Pos} {m : Nat} (he : XD c X e st d st1) (hb : XD c X b st1 (.int i) st2) (hk1 : st1[k]? = some (some s)) (hk2 : st2[k]? = some (some s)) (hs : s.Has xs) (hn : i = m) (hm : m < xs.length) (hN : X.N[k]? = some x := by rfl)
    (hv : Vis X.env.scope x := by first | exact Or.inl rfl | exact Or.inr (Or.inl rfl) | exact Or.inr (Or.inr rfl)) (hdb : (x == ("__debug__" : Str)) = false := by decide) (hcd : (x == ("__classdict__" : Str)) = false := by decide)
    (ha : ∀ v, assign (.Subscript (.Name x p1) b p2) X.env v = (do
      let ov ← holding [v] (eval (.Name x p1) X.env)
      let iv ← holding [v, ov] (eval b X.env)
      standAt p2
      holding [v, ov, iv] (setItem ov iv v)
      release [v, ov, iv] []) := by intro _; rfl)
    (hs1 : swapsWithSole [.Subscript (.Name x p1) b p2] e ppos.line X.env = pure false := by rfl) (hw : swappedStores [.Subscript (.Name x p1) b p2] e X.env = pure none := by rfl)
    (h1 : (assignEach [.Subscript (.Name x p1) b p2] X.env).map (·.2) = [assign (.Subscript (.Name x p1) b p2) X.env] := by rfl) : XP c X (.Assign [.Subscript (.Name x p1) b p2] e ppos) st (.nx (st2.set k (some (s.with (xs.set m d))))) :=
  ⟨ps_weak (ps_asg he.pe (pg_sub (pe_var hN hv hdb hcd) hb.pe set_list ha) hs1 hw h1) fun D σ H ⟨G, E, kk⟩ => ⟨G, E, fun w G1 H1 g1 E1 r1 => by
    obtain ⟨a, ws0, z1, _⟩ := E1.at hk1 hs
    refine ⟨_, z1, G1, E1, fun u G2 H2 g2 E2 r2 => ?_⟩
    obtain ⟨a', ws, y1, y2, y3, y4, _⟩ := E2.at hk2 hs
    rw [z1] at y1
    cases y1
    cases r2
    refine ⟨a, ws, i, m, rfl, rfl, y3, ?_, ?_⟩
    · have : m < ws.length := by rw [← y4.length]; exact hm
      unfold ixN
      rw [hn, if_pos (by omega), if_pos (by omega)]; simp
    · obtain ⟨g3, e3⟩ := gr_upd (a := a) (o := .lst (ws.set m w)) E2.ex y2 (by rw [y3]; simp)
      obtain ⟨E4, g4⟩ := E2.mut hk2 hs z1 g3 e3 y2 upd_same (Reps.set (r1.ex g2.ex) m y4)
      exact kk _ _ _ ((g1.trans g2).trans g4) E4⟩⟩
end Dv
set_option autoImplicit true
set_option maxRecDepth 100000
namespace Dv
open PySem PySem.Spec PyProof.Rows L2

variable {c : Ctx} {X : Cx} {st st1 st2 st3 st' : Store} {a b e e2 e3 tg iter : Expr} {es : List Expr} {d d1 d2 d3 d' : Dt} {ds xs ys zs fs gs : List Dt} {pos : Pos} {G G' H H' : Hp} {σ σ' : L2.St} {v : V} {n : Nat} {body : List Stmt} {o : Out} {i j : Int} {t : Bool}

/-- a power of two plain numbers -/
theorem xd_pow (ha : XD c X a st (.int i) st1) (hb : XD c X b st1 (.int j) st2) (h : 0 ≤ j) (h1 : j ≤ 1000000) (h2 : i.natAbs < 2 ^ 64) : XD c X (.BinOp a .Pow b pos) st (.int (i ^ j.toNat)) st2 := xd_bin ha hb op_pow (o_I (g := fun i j => i ^ j.toNat) ⟨h, h1, h2⟩)
/-- a, b, c = x, y, z -/
theorem xp_par3 (i j l : Nat) {x y z : Str} {ea eb ec : Expr} {px py pz pt : Pos} {kt k2 pt2} (hN : X.N.Nodup) (hc : X.calm = true) (ha : XA c X [ea, eb, ec] st [d1, d2, d3] st1) (hij : i ≠ j) (hil : i ≠ l) (hjl : j ≠ l) (hi : X.N[i]? = some x := by rfl) (hj : X.N[j]? = some y := by rfl) (hl : X.N[l]? = some z := by rfl)
    (hx : X.env.scope.names.lookup x = some .local := by rfl) (hy : X.env.scope.names.lookup y = some .local := by rfl) (hz : X.env.scope.names.lookup z = some .local := by rfl)
    (hw : swappedStores [.Tuple [.Name x px, .Name y py, .Name z pz] kt pt] (.Tuple [ea, eb, ec] k2 pt2) X.env = pure (some [x, y, z]) := by rfl)
    (hs : swapsWithSole [.Tuple [.Name x px, .Name y py, .Name z pz] kt pt] (.Tuple [ea, eb, ec] k2 pt2) pos.line X.env = pure false := by rfl) :
    XP c X (.Assign [.Tuple [.Name x px, .Name y py, .Name z pz] kt pt] (.Tuple [ea, eb, ec] k2 pt2) pos) st (.nx (((st1.set i (some (.fr d1))).set j (some (.fr d2))).set l (some (.fr d3)))) :=
  ⟨ps_weak (ps_par3 hc hN hi hj hl hij hil hjl hx hy hz ha.pa hw hs) fun D σ H ⟨G, E, k⟩ => ⟨G, E, fun vs G1 H1 g1 E1 r1 => by
    cases r1 with
    | cons r r1 =>
      cases r1 with
      | cons r' r1 =>
        cases r1 with
        | cons r'' r1 =>
          cases r1
          exact ⟨_, _, _, rfl, k _ G1 H1 (g1.weakO fun p h => own_setFr (own_setFr (own_setFr h))) (((E1.setFr r i).setFr r' j).setFr r'' l)⟩⟩⟩

/-! ### len of an own class -/
section
variable {CX : CXT} {k : Nat} {f C : Addr} {fd : FuncData} {ps : List Str} {E : XK} {R : List Dt → Dt → Prop} {ns : List Str}
theorem call_len_own {sp : Sp} (F : FnOk X.prog X.w X.K X.mg X.base CX k f fd ps sp) (hr : Room (k + 1) X.A) (M : OwnOp X.K C "__len__" f) (hb : Binds X.K fd ps []) (hx : Passes CX X E) :
    CallR X (.builtin "len") (fun xs H Q => ∃ p dx gs, xs = [.ref p] ∧ H p = some (.ins C dx gs) ∧ sp xs H (fun v H' => ∃ n : Int, v = .int n ∧ 0 ≤ n ∧ n < 2 ^ 63 ∧ Q (.int n) H') E) := by
  intro pins s σ H xs us Q I r h
  obtain ⟨p, dx, gs, rfl, hp, hsp⟩ := h
  obtain ⟨mA, J, _⟩ := ins_get I.hok hp
  obtain ⟨od, J, _⟩ := J.look
  obtain ⟨m, hF⟩ := I.fr
  cases r with
  | cons r0 r1 =>
    cases r1
    cases r0
    refine PySem.W.len_K hF I.ok.mod.kin J M.at_ M.fn (thn (run_in1 (vs := [.ref p]) (us := [.ref p]) F hr hb hx I (.cons rfl .nil) hsp) fun u s' z => ?_)
    obtain ⟨w, H1, I1, r, n, rfl, q1, q2, q3⟩ := z
    obtain ⟨t, rfl⟩ := r
    exact ⟨⟨q1, q2⟩, .int n, H1, I1.un Un.refl I1.hok, ⟨_, rfl⟩, q3⟩
theorem xd_lenO {p : Pos} {m : Int} (h : XD c X e st (.obj n fs) st1) (hT : c.T n = some (C, ns)) (F : FnOk X.prog X.w X.K X.mg X.base CX k f fd ps (spD c.K c.T R)) (hr : Room (k + 1) X.A) (M : OwnOp X.K C "__len__" f) (hb : Binds X.K fd ps []) (hx : Passes CX X E)
    (hR : R [.obj n fs] (.int m)) (h0 : 0 ≤ m) (h1 : m < 2 ^ 63) (hm : X.mg "len" = none) (hg : Gl X "len" := by rfl) (he : starEach (e :: []) X.env = (false, eval e X.env) :: starEach [] X.env := by rfl) (hpl : (backTo pos (starEach [] X.env)).any (·.1) = false := by rfl) :
    XD c X (.Call (.Name "len" p) [e] [] pos) st (.int m) st1 := by
  refine xd_callB (xa_cons h xa_nil he) (call_len_own (E := E) F hr M hb hx) (fun G H vs Q ex r kk => ?_) hm PySem.boot_len hg (by decide) (by decide) he hpl
  cases r with
  | cons r0 r1 =>
    cases r1
    obtain ⟨C1, ns1, q, dx, ws, rfl, q1, q2, q3, q4⟩ := id r0.obj_inv
    rw [hT] at q1
    cases q1
    refine ⟨q, dx, _, rfl, ex _ _ q2, G, [.obj n fs], _, ex, .cons r0 .nil, hR, fun v G' H' g e' r' => ?_⟩
    cases r'
    exact ⟨m, rfl, h0, h1, kk _ G' H' (gw_of g e') .int⟩
end

/-! ### == of tuples of tuples of own instances (where it is true) -/
/-- two data that a relation of places holds of -/
def RD (c : Ctx) (D : Eqv) (d1 d2 : Dt) : Prop := ∀ (G H : Hp) (x y : V), Ex G H → Rep c.K c.T G d1 x → Rep c.K c.T G d2 y → D x y H
/-- the own instances that the class's == says to be equal -/
def OwnR (c : Ctx) (n : Nat) (R : List Dt → Dt → Prop) (a b : Addr) (H : Hp) : Prop := ∃ G fs gs, Ex G H ∧ Rep c.K c.T G (.obj n fs) (.ref a) ∧ Rep c.K c.T G (.obj n gs) (.ref b) ∧ R [.obj n fs, .obj n gs] (.bl true)
section
variable {CX : CXT} {k : Nat} {f C : Addr} {fd : FuncData} {ps : List Str} {E : XK} {R : List Dt → Dt → Prop} {ns : List Str} {D : Eqv}
theorem own_spEq {P : Program} {w : World} {K : PySem.W.Frag} {mg : Str → Option Value} {base : Heap} (F : FnOk P w K mg base CX k f fd ps (spD c.K c.T R)) : FnOk P w K mg base CX k f fd ps (spEq (OwnR c n R)) :=
  F.imp fun vs H Q E ⟨a, b, e1, ⟨G, fs, gs, ex, r1, r2, hR⟩, kk⟩ => ⟨G, [.obj n fs, .obj n gs], .bl true, ex, by rw [e1]; exact .cons r1 (.cons r2 .nil), hR, fun v G' H' g e' r' => by
    cases r'
    exact kk H' (gw_of g e').hx⟩
theorem own_eqG (F : FnOk X.prog X.w X.K X.mg X.base CX k f fd ps (spD c.K c.T R)) (M : OwnOp X.K C "__eq__" f) (hb : Binds X.K fd ps []) (hx : Passes CX X E) : EqG X k (DIns C (OwnR c n R)) := eqG_ins (own_spEq F) M.at_ M.fn hb hx
theorem own_mon : Mon (DIns C (OwnR c n R)) := mon_ins fun a b H H' e ⟨G, fs, gs, ex, r⟩ => ⟨G, fs, gs, ex.trans e, r⟩
theorem rd_own (hT : c.T n = some (C, ns)) (hR : R [.obj n fs, .obj n gs] (.bl true)) : RD c (DIns C (OwnR c n R)) (.obj n fs) (.obj n gs) := fun G H x y ex r1 r2 => by
  obtain ⟨C1, ns1, q, dx, ws, rfl, q1, q2, q3, q4⟩ := id r1.obj_inv
  rw [hT] at q1
  cases q1
  obtain ⟨C1, ns1, q', dx', ws', rfl, q1, q2', q3', q4'⟩ := id r2.obj_inv
  rw [hT] at q1
  cases q1
  exact ⟨q, q', dx, dx', _, _, rfl, rfl, ex _ _ q2, ex _ _ q2', G, fs, gs, ex, r1, r2, hR⟩
theorem rd_tup (hl : xs.length = ys.length) (h : ∀ (i : Nat) d e, xs[i]? = some d → ys[i]? = some e → RD c D d e) : RD c (DTup c.K D) (.tup xs) (.tup ys) := fun G H x y ex r1 r2 => by
  obtain ⟨a, vs, rfl, s1, t1⟩ := r1.tup_inv
  obtain ⟨b, ws, rfl, s2, t2⟩ := r2.tup_inv
  refine ⟨a, b, vs, ws, rfl, rfl, ex.st s1, ex.st s2, by rw [← t1.length, ← t2.length]; exact hl, fun i u w h1 h2 => ?_⟩
  obtain ⟨d, q1, q2⟩ := t1.getV h1
  obtain ⟨e, p1, p2⟩ := t2.getV h2
  exact h i d e q1 p1 G H u w ex q2 p2
theorem o_eqG (h : RD c D d1 d2) : Op2 c d1 d2 (.bl true) (rEqG D) := fun G H x y Q ex r1 r2 kk =>
  ⟨h G H x y ex r1 r2, fun H' e => kk _ G H' ⟨Ex.refl G, e, ex.trans e, fun _ _ h => .inl h⟩ .bl⟩
theorem xd_eqG {m : Nat} (ha : XD c X a st d1 st1) (hb : XD c X b st1 d2 st2) (h : RcG X m D) (hr : Room m X.A) (hd : RD c D d1 d2) : XD c X (.Compare a [.Eq] [b] pos) st (.bl true) st2 := xd_cmp ha hb (op_eqG h hr) (o_eqG hd) (nomark _)
end

/-! ### defs and classes by their names, as bundles -/
/-- the def x of the module keeps the promise R -/
structure DF (P : Program) (w : World) (K : PySem.W.Frag) (T : Ct) (mg : Str → Option Value) (base : Heap) (x : Str) (k : Nat) (R : List Dt → Dt → Prop) : Prop where
  ex : ∃ f fd ps, FnOk P w K mg base CX0 k f fd ps (spD K T R) ∧ mg x = some (.ref f) ∧ PySem.W.keepIn K (.ref f) = true ∧ Binds K fd ps []
theorem xd_df {x : Str} {k : Nat} {R : List Dt → Dt → Prop} {p : Pos} (F : DF X.prog X.w X.K c.T X.mg X.base x k R) (hK : X.K = c.K) (hr : Room k X.A) (h : XA c X (e :: es) st ds st1) (hR : R ds d) (hg : Gl X x := by rfl) (hdb : (x == ("__debug__" : Str)) = false := by decide) (he : starEach (e :: es) X.env = (false, eval e X.env) :: starEach es X.env := by rfl) (hpl : (backTo pos (starEach es X.env)).any (·.1) = false := by rfl) :
    XD c X (.Call (.Name x p) (e :: es) [] pos) st d st1 := by
  obtain ⟨f, fd, ps, F, hm, hk, hb⟩ := F.ex
  rw [hK] at F
  exact xd_call (dds := []) (dvs := []) (dus := []) (E := fun _ _ _ => False) (by rw [hK]; exact F) hr hm hk hb .nil (fun G => .nil) pass0 h (by rw [List.append_nil]; exact hR) hg hdb he hpl
theorem xd_df0 {x : Str} {k : Nat} {R : List Dt → Dt → Prop} {p : Pos} (F : DF X.prog X.w X.K c.T X.mg X.base x k R) (hK : X.K = c.K) (hr : Room k X.A) (hR : R [] d) (hg : Gl X x := by rfl) (hdb : (x == ("__debug__" : Str)) = false := by decide) :
    XD c X (.Call (.Name x p) [] [] pos) st d st := by
  obtain ⟨f, fd, ps, F, hm, hk, hb⟩ := F.ex
  rw [hK] at F
  exact xd_call0 (E := fun _ _ _ => False) (by rw [hK]; exact F) hr hm hk hb pass0 hR hg hdb
/-- the class number n: its place, its fields, its name in the module -/
structure CF (K : PySem.W.Frag) (T : Ct) (mg : Str → Option Value) (x : Str) (n : Nat) (C : Addr) (ns : List Str) : Prop where
  at_ : T n = some (C, ns)
  cl : Cls K C
  nm : mg x = some (.ref C)
/-- its method m keeps the promise R -/
structure MF (P : Program) (w : World) (K : PySem.W.Frag) (T : Ct) (mg : Str → Option Value) (base : Heap) (C : Addr) (m : Str) (k : Nat) (R : List Dt → Dt → Prop) : Prop where
  ex : ∃ f fd ps, FnOk P w K mg base CX0 k f fd ps (spD K T R) ∧ Meth K C m f ∧ Binds K fd ps []
theorem xd_mf {m : Str} {apos : Pos} {pl : Sem Bool} {k : Nat} {R : List Dt → Dt → Prop} {x : Str} {C : Addr} {ns : List Str} (ho : XD c X b st (.obj n fs) st1) (Q : CF X.K c.T X.mg x n C ns) (F : MF X.prog X.w X.K c.T X.mg X.base C m k R) (hK : X.K = c.K) (hr : Room k X.A)
    (h : XA c X (e :: es) st1 ds st2) (hR : R (.obj n fs :: ds) d) (hno : ns.contains m = false := by decide +kernel)
    (hst : starEach (e :: es) X.env = (false, eval e X.env) :: starEach es X.env := by rfl) (hpl : (backTo pos (starEach es X.env)).any (·.1) = false := by rfl)
    (ht : eval (.Call (.Attribute b m apos) (e :: es) [] pos) X.env = (do
      let ov ← eval b X.env
      standAt apos.atName
      let (f, first) ← holding [ov] (getMethod ov m pl)
      callWith pos f first (backTo pos (starEach (e :: es) X.env)) (backToKw pos (keywordEach [] X.env))) := by rfl) :
    XD c X (.Call (.Attribute b m apos) (e :: es) [] pos) st d st2 := by
  obtain ⟨f, fd, ps, F, hm, hb⟩ := F.ex
  rw [hK] at F
  exact xd_meth (E := fun _ _ _ => False) ho Q.at_ Q.cl hm (by rw [hK]; exact F) hr hb pass0 h hR hno hst hpl ht
theorem xd_mf0 {m : Str} {apos : Pos} {pl : Sem Bool} {k : Nat} {R : List Dt → Dt → Prop} {x : Str} {C : Addr} {ns : List Str} (ho : XD c X b st (.obj n fs) st1) (Q : CF X.K c.T X.mg x n C ns) (F : MF X.prog X.w X.K c.T X.mg X.base C m k R) (hK : X.K = c.K) (hr : Room k X.A)
    (hR : R [.obj n fs] d) (hno : ns.contains m = false := by decide +kernel)
    (ht : eval (.Call (.Attribute b m apos) [] [] pos) X.env = (do
      let ov ← eval b X.env
      standAt apos.atName
      let (f, first) ← holding [ov] (getMethod ov m pl)
      callWith pos f first (backTo pos (starEach [] X.env)) (backToKw pos (keywordEach [] X.env))) := by rfl) :
    XD c X (.Call (.Attribute b m apos) [] [] pos) st d st1 := by
  obtain ⟨f, fd, ps, F, hm, hb⟩ := F.ex
  rw [hK] at F
  exact xd_meth0 (E := fun _ _ _ => False) ho Q.at_ Q.cl hm (by rw [hK]; exact F) hr hb pass0 hR hno ht
/-- len(o) of an own class -/
theorem xd_lenF {k : Nat} {R : List Dt → Dt → Prop} {x : Str} {C : Addr} {ns : List Str} {p : Pos} {m : Int} (h : XD c X e st (.obj n fs) st1) (Q : CF X.K c.T X.mg x n C ns) (F : MF X.prog X.w X.K c.T X.mg X.base C "__len__" k R) (hK : X.K = c.K) (hr : Room (k + 1) X.A)
    (hR : R [.obj n fs] (.int m)) (h0 : 0 ≤ m) (h1 : m < 2 ^ 63) (hm : X.mg "len" = none) (hg : Gl X "len" := by rfl) (he : starEach (e :: []) X.env = (false, eval e X.env) :: starEach [] X.env := by rfl) (hpl : (backTo pos (starEach [] X.env)).any (·.1) = false := by rfl) :
    XD c X (.Call (.Name "len" p) [e] [] pos) st (.int m) st1 := by
  obtain ⟨f, fd, ps, F, hf, hb⟩ := F.ex
  rw [hK] at F
  exact xd_lenO (E := fun _ _ _ => False) h Q.at_ (by rw [hK]; exact F) hr ⟨hf.at_, hf.fn⟩ hb pass0 hR h0 h1 hm hg he hpl
/-- a + b, a * b .. of an own class -/
theorem xd_opF {op : Operator} {k : Nat} {R : List Dt → Dt → Prop} {x : Str} {C : Addr} {ns : List Str} (ha : XD c X a st (.obj n fs) st1) (hb1 : XD c X b st1 (.obj n gs) st2) (Q : CF X.K c.T X.mg x n C ns) (F : MF X.prog X.w X.K c.T X.mg X.base C (PySem.dunder op.info.2) k R) (hK : X.K = c.K) (hr : Room k X.A) (hs : PySem.W.selfFirst X.K C = true)
    (hR : R [.obj n fs, .obj n gs] d) : XD c X (.BinOp a op b pos) st d st2 := by
  obtain ⟨f, fd, ps, F, hf, hb⟩ := F.ex
  rw [hK] at F
  refine xd_bin ha hb1 (op_own (E := fun _ _ _ => False) (sp := spD c.K c.T R) (by rw [hK]; exact F) hr ⟨hf.at_, hf.fn⟩ hs hb pass0) (o_own Q.at_ hR)
/-- a == b of an own class -/
theorem xd_eqF {k : Nat} {R : List Dt → Dt → Prop} {x : Str} {C : Addr} {ns : List Str} (ha : XD c X a st (.obj n fs) st1) (hb1 : XD c X b st1 (.obj n gs) st2) (Q : CF X.K c.T X.mg x n C ns) (F : MF X.prog X.w X.K c.T X.mg X.base C "__eq__" k R) (hK : X.K = c.K) (hr : Room k X.A)
    (hR : R [.obj n fs, .obj n gs] d) : XD c X (.Compare a [.Eq] [b] pos) st d st2 := by
  obtain ⟨f, fd, ps, F, hf, hb⟩ := F.ex
  rw [hK] at F
  refine xd_cmp ha hb1 (op_ownEq (E := fun _ _ _ => False) (sp := spD c.K c.T R) (by rw [hK]; exact F) hr ⟨hf.at_, hf.fn⟩ hb pass0) (o_ownEq (X := X) Q.at_ hR) (nomark _)
/-- a != b of a class that has an own == only -/
theorem xd_neF {k : Nat} {R : List Dt → Dt → Prop} {x : Str} {C : Addr} {ns : List Str} (ha : XD c X a st (.obj n fs) st1) (hb1 : XD c X b st1 (.obj n gs) st2) (Q : CF X.K c.T X.mg x n C ns) (F : MF X.prog X.w X.K c.T X.mg X.base C "__eq__" k R) (hK : X.K = c.K) (hr : Room (k + 1) X.A)
    (hne : PySem.W.findIn X.K (.ref C) "__ne__" = some (some (.builtin "object.__ne__"))) (hob : PySem.W.mroIn X.K C (.type "object") = some true)
    (hR : R [.obj n fs, .obj n gs] (.bl t)) : XD c X (.Compare a [.NotEq] [b] pos) st (.bl (!t)) st2 := by
  obtain ⟨f, fd, ps, F, hf, hb⟩ := F.ex
  rw [hK] at F
  refine xd_cmp ha hb1 (op_ownNe (E := fun _ _ _ => False) (sp := spD c.K c.T R) (by rw [hK]; exact F) hr ⟨hf.at_, hf.fn, hne, hob⟩ hb pass0) (o_ownNe (X := X) Q.at_ hR) (nomark _)
/-- the class makes objects: the promise of its __init__, with the defaults of the last arguments -/
structure IF' (P : Program) (w : World) (K : PySem.W.Frag) (T : Ct) (mg : Str → Option Value) (base : Heap) (n : Nat) (C : Addr) (dds : List Dt) (k : Nat) (Rf : List Dt → List Dt → Prop) : Prop where
  ex : ∃ f fd ps dvs dus, FnOk P w K mg base CX0 k f fd ps (spI K T n Rf) ∧ Mk K C f ∧ Binds K fd ps dus ∧ Vals dvs dus ∧ ∀ G, Reps K T G dds dvs
theorem xd_mk {k : Nat} {Rf : List Dt → List Dt → Prop} {x : Str} {C : Addr} {ns : List Str} {p : Pos} {dds : List Dt} (Q : CF X.K c.T X.mg x n C ns) (F : IF' X.prog X.w X.K c.T X.mg X.base n C dds k Rf) (hK : X.K = c.K) (hr : Room (k + 1) X.A)
    (h : XA c X (e :: es) st ds st1) (hR : Rf (ds ++ dds) fs) (hg : Gl X x := by rfl) (hdb : (x == ("__debug__" : Str)) = false := by decide) (he : starEach (e :: es) X.env = (false, eval e X.env) :: starEach es X.env := by rfl) (hpl : (backTo pos (starEach es X.env)).any (·.1) = false := by rfl) :
    XD c X (.Call (.Name x p) (e :: es) [] pos) st (.obj n fs) st1 := by
  obtain ⟨f, fd, ps, dvs, dus, F, hf, hb, hv, hd⟩ := F.ex
  rw [hK] at F
  exact xd_make (E := fun _ _ _ => False) Q.at_ hf (by rw [hK]; exact F) hr Q.nm hb hv (fun G => by rw [← hK]; exact hd G) pass0 h hR hg hdb he hpl
/-- o.f -/
theorem xd_ff (i : Nat) {x : Str} {C : Addr} {ns : List Str} {f : Str} (h : XD c X e st (.obj n fs) st1) (Q : CF X.K c.T X.mg x n C ns) (hK : X.K = c.K) (hna : NoAttr X.K C f) (hd : fs[i]? = some d := by rfl) (hi : ns.findIdx? (· == f) = some i := by decide +kernel)
    (hb : attributeBase e f X.env (eval e X.env) = eval e X.env := by rfl) : XD c X (.Attribute e f pos) st d st1 := xd_fld h hK Q.at_ Q.cl hna hi hd hb
/-- for, its number of turns named -/
theorem xp_forN (S : Nat → Store) (m : Nat) (hm : ds.length = m) (hi : XI c X tg iter st ds (S 0)) (hb : ∀ (i : Nat) d, ds[i]? = some d → Turns c X tg body d (S i) (S (i + 1))) (hc : X.calm = true := by rfl) (hp : PassesOwn (model X.prog X.w) X.A X.env X.xe := by exact PassesOwn.never)
    (hf : ∀ x, foldedSetIterable iter X.env x = pure x := by intro _; rfl) : XP c X (.For tg iter body [] pos) st (.nx (S m)) := by
  rw [← hm]; exact xp_for S hi hb hc hp hf
theorem Turns.nx {s s1 s' t : Store} (hg : XG c X tg d s t) (h : XS c X body t (.nx s1)) (e : s1 = s') : Turns c X tg body d s s' := ⟨t, hg, .inl (e ▸ h)⟩
theorem Turns.ct {s s1 s' t : Store} (hg : XG c X tg d s t) (h : XS c X body t (.ct s1)) (e : s1 = s') : Turns c X tg body d s s' := ⟨t, hg, .inr (e ▸ h)⟩
theorem log2_small {j : Int} (h : 1 ≤ j) (h' : j < 2 ^ 64) : j.natAbs.log2 < 9000 := by
  have : j.natAbs.log2 < 64 := (Nat.log2_lt (by omega)).mpr (by omega)
  omega
theorem XS.to {sts : List Stmt} {s1 s2 : Store} (h : XS c X sts st (.nx s1)) (e : s1 = s2) : XS c X sts st (.nx s2) := e ▸ h
theorem XP.to {s : Stmt} {s1 s2 : Store} (h : XP c X s st (.nx s1)) (e : s1 = s2) : XP c X s st (.nx s2) := e ▸ h
/-- gcd(a, b), imported from math -/
theorem xd_gcd {ea eb : Expr} {p : Pos} (h : XA c X [ea, eb] st [.int i, .int j] st1) (hm : X.mg "gcd" = some (.builtin "math.gcd")) (hg : Gl X "gcd" := by rfl) (he : starEach (ea :: [eb]) X.env = (false, eval ea X.env) :: starEach [eb] X.env := by rfl) (hpl : (backTo pos (starEach [eb] X.env)).any (·.1) = false := by rfl) :
    XD c X (.Call (.Name "gcd" p) [ea, eb] [] pos) st (.int ((Nat.gcd i.natAbs j.natAbs : Nat) : Int)) st1 :=
  ⟨pe_weak (pe_callBfun cr_gcd hg hm h.pa (by decide) he hpl) fun σ H Q ⟨G, E, k⟩ => ⟨G, E, fun vs G1 H1 g1 E1 r1 => o_gcd (c := c) G1 H1 vs Q E1.ex r1 fun v G3 H3 g3 r3 => k v G3 H3 (g1.trans g3.gr) (E1.g1 g3) r3⟩⟩
/-- isinstance(e, a built-in type) -/
theorem xd_isTy {y : Str} {tn id : String} {p p2 : Pos} (h : XD c X e st d st1) (ht : HasTy c d (.type tn)) (hK : X.K = c.K) (hm : X.mg "isinstance" = none) (hy : X.mg y = none) (hb : bootBuiltins y = some (.type id)) (hk : PySem.W.kitOne X.K (.type tn) (.type id) = some t) (hgy : Gl X y := by rfl) (hny : y ≠ "__name__" := by decide) (hdb : (y == ("__debug__" : Str)) = false := by decide) (hg : Gl X "isinstance" := by rfl)
    (he : starEach (e :: [.Name y p2]) X.env = (false, eval e X.env) :: starEach [.Name y p2] X.env := by rfl) (he2 : starEach (.Name y p2 :: []) X.env = (false, eval (.Name y p2) X.env) :: starEach [] X.env := by rfl) (hpl : (backTo pos (starEach [.Name y p2] X.env)).any (·.1) = false := by rfl) :
    XD c X (.Call (.Name "isinstance" p) [e, .Name y p2] [] pos) st (.bl t) st1 :=
  xd_isi (x := y) (u := .type id) (cv := .ty id) h (pe_bltn hgy hy hb rfl hny hdb) (.ty _) ht hk hK hm hg he he2 hpl
/-- isinstance(e, its own class) -/
theorem xd_isOwn {y : Str} {C : Addr} {ns : List Str} {p p2 : Pos} (h : XD c X e st (.obj n fs) st1) (Q : CF X.K c.T X.mg y n C ns) (hX : ClsX X.K C) (hK : X.K = c.K) (hm : X.mg "isinstance" = none) (hgy : Gl X y := by rfl) (hdb : (y == ("__debug__" : Str)) = false := by decide) (hg : Gl X "isinstance" := by rfl)
    (he : starEach (e :: [.Name y p2]) X.env = (false, eval e X.env) :: starEach [.Name y p2] X.env := by rfl) (he2 : starEach (.Name y p2 :: []) X.env = (false, eval (.Name y p2) X.env) :: starEach [] X.env := by rfl) (hpl : (backTo pos (starEach [.Name y p2] X.env)).any (·.1) = false := by rfl) :
    XD c X (.Call (.Name "isinstance" p) [e, .Name y p2] [] pos) st (.bl true) st1 :=
  xd_isi (x := y) (u := .ref C) (cv := .ref C) h (pe_glob hgy Q.nm rfl hdb) (.own _) (.obj Q.at_ (by rw [← hK]; exact hX)) (by simp [PySem.W.kitOne]) hK hm hg he he2 hpl
end Dv
set_option autoImplicit true
set_option maxRecDepth 100000
set_option maxHeartbeats 4000000
namespace My
open PySem PySem.Spec PyProof.Rows L2 Dv
def topS (i : Nat) : Stmt := PySem.Challenge.pw_wordweight_k03_reduced_rows.main.body.getD i (.Pass ⟨0, 0, 0, 0⟩)
abbrev sCell : Stmt := topS 22
abbrev sDraws : Stmt := topS 23
abbrev sGcd : Stmt := topS 24
def dInts (ns : List Int) : List Dt := ns.map .int
section
variable {P : Program} {w : World} {K : PySem.W.Frag} {T : Ct} {mg : Str → Option Value} {base : Heap} {f : Addr} {fd : FuncData}

def cell (ns : List Int) (k : Int) : Int := ns.getD k.toNat 0
def RCell (ds : List Dt) (r : Dt) : Prop := ∃ (ns : List Int) (k : Int), ds = [.ro (dInts ns), .int k] ∧ 0 ≤ k ∧ r = .int (cell ns k)
theorem scCell : FnScope ["script", "k"] ["script", "k"] (defScope sCell) := ⟨rfl, rfl, rfl, by decide +kernel, rfl, by decide +kernel, by decide +kernel⟩
theorem ok_cell (F : Fun K "_law_cell" "_law_cell" sCell f fd) (hlen : mg "len" = none) : FnOk P w K mg base CX0 1 f fd ["script", "k"] (spD K T RCell) := by
  refine okD F scCell (fun ds r h => by obtain ⟨_, _, rfl, _⟩ := h; rfl) fun cdv A outer s H E pa ds r hr hR => ?_
  obtain ⟨ns, k, rfl, hk, rfl⟩ := hR
  have len : (dInts ns).length = ns.length := List.length_map ..
  by_cases h : k < (dInts ns).length
  · have hg : (dInts ns)[k.toNat]? = some (.int (cell ns k)) := by
      unfold dInts cell
      rw [List.getElem?_map, List.getD_eq_getElem?_getD]
      have : k.toNat < ns.length := by omega
      rw [List.getElem?_eq_getElem this]; rfl
    exact ⟨_, xs_ret (xp_if (xt_lt (xd_var 1) (xd_len (xd_var 0) (.inr (.inl rfl)) rfl hlen) (decide_eq_true h))
      (fun _ => xs_one (xp_ret (xd_ixR (xd_var 0) (xd_var 1) (m := k.toNat) (by omega) hg rfl))) (fun z => nomatch z)), .inl ⟨_, rfl⟩⟩
  · have e : cell ns k = 0 := by
      unfold cell
      rw [List.getD_eq_getElem?_getD, List.getElem?_eq_none (by omega)]; rfl
    rw [e]
    exact ⟨_, xs_cons (xp_if (xt_lt (xd_var 1) (xd_len (xd_var 0) (.inr (.inl rfl)) rfl hlen) (decide_eq_false h))
      (fun z => nomatch z) (fun _ => xs_nil)) (xs_ret (xp_ret xd_int)), .inl ⟨_, rfl⟩⟩
end
end My
set_option autoImplicit false
set_option maxRecDepth 100000
set_option maxHeartbeats 4000000
namespace My
open PySem PySem.Spec PyProof.Rows L2 Dv
section
variable {P : Program} {w : World} {K : PySem.W.Frag} {T : Ct} {mg : Str → Option Value} {base : Heap} {f : Addr} {fd : FuncData}
theorem bits64 {i : Int} (h : -2 ^ 64 < i) (h' : i < 2 ^ 64) : Builtin.Int.intBits i ≤ 64 := intBits_le_64 h h'
/-- the name of a loop's place: unset ahead of the first turn -/
def slot (g : Nat → Dt) : Nat → Option Sv
  | 0 => none
  | i + 1 => some (.fr (g i))
def dCell (cell b : Int) : Nat → Int
  | 0 => cell
  | i + 1 => (dCell cell b i).fdiv b
def mNum (num at_ : Int) : Nat → Int
  | 0 => num
  | i + 1 => (mNum num at_ i * 48271 + 11 * (i : Int) + at_) % 2147483647
def mMix (num at_ : Int) (i : Nat) : Int := (mNum num at_ (i + 1) * 69621 + 5 * (i : Int) + 7) % 2147483629
def num0 (cell at_ : Int) : Int := cell % 2147483647 + 3 * at_ + 1
def drawL (ns : List Int) (at_ b : Int) (i : Nat) : Int :=
  if 10 ^ 18 ≤ cell ns at_ then dCell (cell ns at_) b i % b else mMix (num0 (cell ns at_) at_) at_ i % b
def draws (ns : List Int) (at_ : Int) (count : Nat) (b : Int) : List Int := (List.range count).map (drawL ns at_ b)
def RDraws (ds : List Dt) (r : Dt) : Prop := ∃ (ns : List Int) (at_ : Int) (count : Nat) (b : Int), ds = [.ro (dInts ns), .int at_, .int count, .int b] ∧ 0 ≤ at_ ∧ at_ < 1000 ∧ count ≤ 1000 ∧ 1 ≤ b ∧ b < 10000 ∧ r = .lst (dInts (draws ns at_ count b))
abbrev nDraws : List Str := ["script", "at", "count", "bound", "cell", "out", "k", "number", "mixed"]
theorem scDraws : FnScope nDraws ["script", "at", "count", "bound"] (defScope sDraws) := ⟨rfl, rfl, rfl, by decide +kernel, rfl, by decide +kernel, by decide +kernel⟩
theorem dInts_range (g : Nat → Int) (n : Nat) : dInts ((List.range n).map g) ++ [.int (g n)] = dInts ((List.range (n + 1)).map g) := by
  unfold dInts
  rw [List.range_succ, List.map_append, List.map_append]; rfl
theorem dInts_len (ns : List Int) : (dInts ns).length = ns.length := List.length_map ..
theorem rng_get {n i : Nat} {d : Dt} (h : ((List.range n).map fun (i : Nat) => Dt.int i)[i]? = some d) : i < n ∧ d = .int i := by
  rw [List.getElem?_map] at h
  by_cases q : i < n
  · rw [List.getElem?_range q] at h; cases h; exact ⟨q, rfl⟩
  · rw [List.getElem?_eq_none (by simpa using q)] at h; cases h
theorem rng_len (n : Nat) : ((List.range n).map fun (i : Nat) => Dt.int i).length = n := by simp
theorem mNum_lt {num at_ : Int} (h0 : 0 ≤ num) (h1 : num < 2 ^ 33) (i : Nat) : 0 ≤ mNum num at_ i ∧ mNum num at_ i < 2 ^ 33 := by
  cases i with
  | zero => exact ⟨h0, h1⟩
  | succ i =>
    have a := Int.emod_nonneg (mNum num at_ i * 48271 + 11 * (i : Int) + at_) (show (2147483647 : Int) ≠ 0 by decide)
    have b := Int.emod_lt_of_pos (mNum num at_ i * 48271 + 11 * (i : Int) + at_) (show (0 : Int) < 2147483647 by decide)
    exact ⟨a, Int.lt_trans b (by decide)⟩
theorem ok_draws (F : Fun K "_law_draws" "_law_draws" sDraws f fd) (Dc : DF P w K T mg base "_law_cell" 1 RCell) (hint : mg "int" = none) (hran : mg "range" = none) : FnOk P w K mg base CX0 3 f fd ["script", "at", "count", "bound"] (spD K T RDraws) := by
  refine okD F scDraws (fun ds r h => by obtain ⟨_, _, _, _, rfl, _⟩ := h; rfl) fun cdv A outer s H E pa ds r hr hR => ?_
  obtain ⟨ns, at_, count, b, rfl, ha, ha', hc, hb, hb', rfl⟩ := hR
  have hr1 : Room 1 _ := hr.mono (by decide)
  by_cases hbig : 10 ^ 18 ≤ cell ns at_
  · have e : draws ns at_ count b = (List.range count).map (fun i => dCell (cell ns at_) b i % b) := by
      unfold draws; congr 1; funext i; exact if_pos hbig
    rw [e]
    refine ⟨_, xs_cons (xp_set 4 scDraws.nd (xd_df Dc rfl hr1 (xa_cons (xd_var 0) (xa_cons (xd_var 1) xa_nil)) ⟨ns, at_, rfl, ha, rfl⟩))
      (xs_cons (xp_setOw 5 scDraws.nd (xl_lst xa_nil (by decide)))
      (xs_ret (xp_if (xt_ge (xd_var 4) (xd_pow xd_int xd_int (by decide) (by decide) (by decide)) (decide_eq_true hbig))
        (fun _ => xs_cons (xp_forN (fun i => [some (.fr (.ro (dInts ns))), some (.fr (.int at_)), some (.fr (.int count)), some (.fr (.int b)), some (.fr (.int (dCell (cell ns at_) b i))), some (.ow (dInts ((List.range i).map (fun i => dCell (cell ns at_) b i % b)))), slot (fun i => .int i) i, none, none])
          count (by simp) (xi_range1 (n := (count : Int)) (xd_var 2) (by omega) (by omega) hran) ?_) (xs_freeze 5 rfl (xs_one (xp_ret (xd_var 5))))) (fun z => nomatch z)))), .inl ⟨_, rfl⟩⟩
    intro i d hd
    obtain ⟨hi, rfl⟩ := rng_get (n := count) (by simpa using hd)
    refine Turns.nx (xg_name 6 scDraws.nd) (xs_cons (xp_append 5 (xd_mod (xd_intI (xd_var 4) hint) (xd_var 3) (by omega)) rfl rfl rfl .ow (by rw [dInts_len]; simp; omega))
      (xs_one (xp_set 4 scDraws.nd (xd_fdiv (xd_intI (xd_var 4) hint) (xd_var 3) (by omega) (log2_small hb (by omega)))))) ?_
    show [_, _, _, _, _, some (Sv.ow _), _, _, _] = _
    rw [dInts_range (fun i => dCell (cell ns at_) b i % b)]
    rfl
  · have e : draws ns at_ count b = (List.range count).map (fun i => mMix (num0 (cell ns at_) at_) at_ i % b) := by
      unfold draws; congr 1; funext i; exact if_neg hbig
    rw [e]
    have hn0 : 0 ≤ num0 (cell ns at_) at_ ∧ num0 (cell ns at_) at_ < 2 ^ 33 := by
      have a := Int.emod_nonneg (cell ns at_) (show (2147483647 : Int) ≠ 0 by decide)
      have b := Int.emod_lt_of_pos (cell ns at_) (show (0 : Int) < 2147483647 by decide)
      unfold num0
      omega
    refine ⟨_, xs_cons (xp_set 4 scDraws.nd (xd_df Dc rfl hr1 (xa_cons (xd_var 0) (xa_cons (xd_var 1) xa_nil)) ⟨ns, at_, rfl, ha, rfl⟩))
      (xs_cons (xp_setOw 5 scDraws.nd (xl_lst xa_nil (by decide)))
      (xs_cons (xp_if (xt_ge (xd_var 4) (xd_pow xd_int xd_int (by decide) (by decide) (by decide)) (decide_eq_false hbig)) (fun z => nomatch z) (fun _ => xs_nil))
      (xs_cons (xp_set 7 scDraws.nd (xd_add (xd_add (xd_mod (xd_intI (xd_var 4) hint) xd_int (by decide)) (xd_mul xd_int (xd_var 1) (IntMulOk.of_left (bits64 (by decide) (by decide))))) xd_int))
      (xs_cons (xp_forN (fun i => [some (.fr (.ro (dInts ns))), some (.fr (.int at_)), some (.fr (.int count)), some (.fr (.int b)), some (.fr (.int (cell ns at_))), some (.ow (dInts ((List.range i).map (fun i => mMix (num0 (cell ns at_) at_) at_ i % b)))), slot (fun i => .int i) i, some (.fr (.int (mNum (num0 (cell ns at_) at_) at_ i))), slot (fun i => .int (mMix (num0 (cell ns at_) at_) at_ i)) i])
          count (by simp) (xi_range1 (n := (count : Int)) (xd_var 2) (by omega) (by omega) hran) ?_) (xs_freeze 5 rfl (xs_one (xp_ret (xd_var 5)))))))), .inl ⟨_, rfl⟩⟩
    intro i d hd
    obtain ⟨hi, rfl⟩ := rng_get (n := count) (by simpa using hd)
    obtain ⟨m0, m1⟩ := mNum_lt (at_ := at_) hn0.1 hn0.2 i
    obtain ⟨m2, m3⟩ := mNum_lt (at_ := at_) hn0.1 hn0.2 (i + 1)
    refine Turns.nx (xg_name 6 scDraws.nd) (xs_cons (xp_set 7 scDraws.nd (xd_mod (xd_intI (xd_add (xd_add (xd_mul (xd_var 7) xd_int (IntMulOk.of_right (bits64 (by decide) (by decide)))) (xd_mul xd_int (xd_var 6) (IntMulOk.of_left (bits64 (by decide) (by decide))))) (xd_var 1)) hint) xd_int (by decide)))
      (xs_cons (xp_set 8 scDraws.nd (xd_mod (xd_intI (xd_add (xd_add (xd_mul (xd_var 7) xd_int (IntMulOk.of_right (bits64 (by decide) (by decide)))) (xd_mul xd_int (xd_var 6) (IntMulOk.of_left (bits64 (by decide) (by decide))))) xd_int) hint) xd_int (by decide)))
      (xs_one (xp_append 5 (xd_mod (xd_intI (xd_var 8) hint) (xd_var 3) (by omega)) rfl rfl rfl .ow (by rw [dInts_len]; simp; omega))))) ?_
    show [_, _, _, _, _, some (Sv.ow _), _, _, _] = _
    rw [← dInts_range (fun i => mMix (num0 (cell ns at_) at_) at_ i % b)]
    rfl
theorem drawL_lt {ns : List Int} {at_ b : Int} (hb : 1 ≤ b) (i : Nat) : 0 ≤ drawL ns at_ b i ∧ drawL ns at_ b i < b := by
  unfold drawL
  split
  · exact ⟨Int.emod_nonneg _ (by omega), Int.emod_lt_of_pos _ (by omega)⟩
  · exact ⟨Int.emod_nonneg _ (by omega), Int.emod_lt_of_pos _ (by omega)⟩
theorem draws_get {ns : List Int} {at_ b : Int} {count i : Nat} (h : i < count) : (dInts (draws ns at_ count b))[i]? = some (.int (drawL ns at_ b i)) := by
  unfold draws dInts
  rw [List.getElem?_map, List.getElem?_map, List.getElem?_range h]; rfl
end
end My
set_option autoImplicit false
namespace Mq
/-- the common divisor with the sign of the denominator -/
def cm (n d : Int) : Int := if d < 0 then -((Nat.gcd n.natAbs d.natAbs : Nat) : Int) else ((Nat.gcd n.natAbs d.natAbs : Nat) : Int)
theorem cm_eq (n d : Int) (h : d ≠ 0) : cm n d = d.sign * (Int.gcd d n : Int) := by
  unfold cm
  have e : (Int.gcd d n : Int) = ((Nat.gcd n.natAbs d.natAbs : Nat) : Int) := by
    show ((Nat.gcd d.natAbs n.natAbs : Nat) : Int) = _
    rw [Nat.gcd_comm]
  rw [e]
  split
  · rw [Int.sign_eq_neg_one_of_neg (by assumption)]; omega
  · rw [Int.sign_eq_one_of_pos (by omega)]; omega
theorem gcd_pos {n d : Int} (h : d ≠ 0) : 0 < (Int.gcd d n : Int) := by
  have : 0 < Int.gcd d n := Int.gcd_pos_of_ne_zero_left n h
  omega
theorem cm_ne {n d : Int} (h : d ≠ 0) : cm n d ≠ 0 := by
  rw [cm_eq n d h]
  have := gcd_pos (n := n) h
  have s : d.sign ≠ 0 := by
    intro z; exact h (Int.sign_eq_zero_iff_zero.mp z)
  exact Int.mul_ne_zero s (by omega)
theorem cm_le {n d : Int} (h : d ≠ 0) : (cm n d).natAbs ≤ d.natAbs := by
  unfold cm
  have q : Nat.gcd n.natAbs d.natAbs ≤ d.natAbs := Nat.gcd_le_right _ (by omega)
  split <;> omega
theorem cm_dvd_d (n d : Int) : cm n d ∣ d := by
  have q : ((Nat.gcd n.natAbs d.natAbs : Nat) : Int) ∣ d := by
    exact Int.ofNat_dvd_left.mpr (Nat.gcd_dvd_right _ _)
  unfold cm
  split
  · exact Int.neg_dvd.mpr q
  · exact q
theorem cm_dvd_n (n d : Int) : cm n d ∣ n := by
  have q : ((Nat.gcd n.natAbs d.natAbs : Nat) : Int) ∣ n := by
    exact Int.ofNat_dvd_left.mpr (Nat.gcd_dvd_left _ _)
  unfold cm
  split
  · exact Int.neg_dvd.mpr q
  · exact q
theorem cm_num {n d : Int} (h : d ≠ 0) : n.fdiv (cm n d) = (Rat.divInt n d).num := by
  rw [Rat.num_divInt]
  have g := gcd_pos (n := n) h
  have hdn : (Int.gcd d n : Int) ∣ n := Int.gcd_dvd_right d n
  rw [cm_eq n d h]
  by_cases hd : d < 0
  · rw [Int.sign_eq_neg_one_of_neg hd]
    obtain ⟨k, hk⟩ := hdn
    have g' : (Int.gcd d n : Int) ≠ 0 := by omega
    generalize (Int.gcd d n : Int) = gg at *
    subst hk
    have e1 : (-1 : Int) * (gg * k) = gg * (-k) := by rw [Int.mul_neg]; omega
    rw [e1, Int.mul_ediv_cancel_left _ g']
    have e2 : gg * k = (-1 * gg) * (-k) := by rw [Int.mul_neg, Int.neg_mul, Int.neg_mul]; simp
    rw [e2, Int.mul_fdiv_cancel_left _ (by omega)]
  · rw [Int.sign_eq_one_of_pos (by omega), Int.one_mul, Int.one_mul]
    rw [Int.fdiv_eq_ediv_of_nonneg _ (by omega)]
theorem cm_den {n d : Int} (h : d ≠ 0) : d.fdiv (cm n d) = ((Rat.divInt n d).den : Int) := by
  rw [Rat.den_divInt, if_neg h]
  have g := gcd_pos (n := n) h
  have hdn : (Int.gcd d n : Int) ∣ d := Int.gcd_dvd_left d n
  rw [cm_eq n d h, Int.natCast_ediv]
  by_cases hd : d < 0
  · rw [Int.sign_eq_neg_one_of_neg hd]
    have e : ((d.natAbs : Nat) : Int) = -d := by omega
    rw [e]
    obtain ⟨k, hk⟩ := hdn
    have g' : (Int.gcd d n : Int) ≠ 0 := by omega
    generalize (Int.gcd d n : Int) = gg at *
    subst hk
    have e1 : -(gg * k) = gg * (-k) := by rw [Int.mul_neg]
    rw [e1, Int.mul_ediv_cancel_left _ g']
    have e2 : gg * k = (-1 * gg) * (-k) := by rw [Int.mul_neg, Int.neg_mul, Int.neg_mul]; simp
    rw [e2, Int.mul_fdiv_cancel_left _ (by omega)]
  · rw [Int.sign_eq_one_of_pos (by omega), Int.one_mul]
    have e : ((d.natAbs : Nat) : Int) = d := by omega
    rw [e, Int.fdiv_eq_ediv_of_nonneg _ (by omega)]

theorem den_ne (q : Rat) : (q.den : Int) ≠ 0 := by have := q.den_nz; omega
theorem add_q (a b : Rat) : Rat.divInt (a.num * b.den + b.num * a.den) (a.den * b.den) = a + b := by
  rw [← Rat.divInt_add_divInt _ _ (den_ne a) (den_ne b), Rat.num_divInt_den, Rat.num_divInt_den]
theorem sub_q (a b : Rat) : Rat.divInt (a.num * b.den - b.num * a.den) (a.den * b.den) = a - b := by
  rw [← Rat.divInt_sub_divInt _ _ (den_ne a) (den_ne b), Rat.num_divInt_den, Rat.num_divInt_den]
theorem mul_q (a b : Rat) : Rat.divInt (a.num * b.num) (a.den * b.den) = a * b := by
  rw [← Rat.divInt_mul_divInt, Rat.num_divInt_den, Rat.num_divInt_den]
theorem self_q (a : Rat) : Rat.divInt a.num a.den = a := Rat.num_divInt_den a

/-! ### sizes -/
/-- numerator and denominator of at most k bits -/
def Sz (k : Nat) (q : Rat) : Prop := q.num.natAbs < 2 ^ k ∧ q.den < 2 ^ k
theorem Sz.mono {k m : Nat} {q : Rat} (h : Sz k q) (l : k ≤ m) : Sz m q := by
  have := Nat.pow_le_pow_right (show 0 < 2 by decide) l
  exact ⟨by have := h.1; omega, by have := h.2; omega⟩
theorem divInt_sz {n d : Int} {k : Nat} (hd : d ≠ 0) (h1 : n.natAbs < 2 ^ k) (h2 : d.natAbs < 2 ^ k) : Sz k (Rat.divInt n d) := by
  have g := gcd_pos (n := n) hd
  constructor
  · rw [Rat.num_divInt, Int.natAbs_ediv_of_dvd (Int.dvd_trans (Int.gcd_dvd_right d n) (Int.dvd_mul_left _ _)), Int.natAbs_mul]
    refine Nat.lt_of_le_of_lt (Nat.div_le_self _ _) ?_
    have : d.sign.natAbs ≤ 1 := by
      rcases Int.lt_trichotomy d 0 with q | q | q
      · rw [Int.sign_eq_neg_one_of_neg q]; decide
      · exact absurd q hd
      · rw [Int.sign_eq_one_of_pos q]; decide
    have e : d.sign.natAbs * n.natAbs ≤ 1 * n.natAbs := Nat.mul_le_mul_right _ this
    omega
  · rw [Rat.den_divInt, if_neg hd]
    exact Nat.lt_of_le_of_lt (Nat.div_le_self _ _) h2
theorem nat_mul_lt {a b j k : Nat} (ha : a < 2 ^ j) (hb : b < 2 ^ k) : a * b < 2 ^ (j + k) := by
  rw [Nat.pow_add]
  exact Nat.mul_lt_mul'' ha hb
theorem Sz.mul {j k : Nat} {a b : Rat} (ha : Sz j a) (hb : Sz k b) : Sz (j + k) (a * b) := by
  rw [← mul_q]
  refine divInt_sz (Int.mul_ne_zero (den_ne a) (den_ne b)) ?_ ?_
  · rw [Int.natAbs_mul]; exact nat_mul_lt ha.1 hb.1
  · rw [Int.natAbs_mul]; exact nat_mul_lt ha.2 hb.2
theorem Sz.lin {j k : Nat} {a b : Rat} (ha : Sz j a) (hb : Sz k b) : (a.num * b.den).natAbs < 2 ^ (j + k) ∧ (b.num * a.den).natAbs < 2 ^ (j + k) ∧ ((a.den : Int) * b.den).natAbs < 2 ^ (j + k) := by
  refine ⟨?_, ?_, ?_⟩
  · rw [Int.natAbs_mul]; exact nat_mul_lt ha.1 hb.2
  · rw [Int.natAbs_mul, Nat.mul_comm]; exact nat_mul_lt ha.2 hb.1
  · rw [Int.natAbs_mul]; exact nat_mul_lt ha.2 hb.2
theorem Sz.add {j k : Nat} {a b : Rat} (ha : Sz j a) (hb : Sz k b) : Sz (j + k + 1) (a + b) := by
  obtain ⟨h1, h2, h3⟩ := Sz.lin ha hb
  rw [← add_q]
  have : 2 ^ (j + k + 1) = 2 ^ (j + k) * 2 := Nat.pow_succ ..
  exact divInt_sz (Int.mul_ne_zero (den_ne a) (den_ne b)) (by omega) (by omega)
theorem Sz.sub {j k : Nat} {a b : Rat} (ha : Sz j a) (hb : Sz k b) : Sz (j + k + 1) (a - b) := by
  obtain ⟨h1, h2, h3⟩ := Sz.lin ha hb
  rw [← sub_q]
  have : 2 ^ (j + k + 1) = 2 ^ (j + k) * 2 := Nat.pow_succ ..
  exact divInt_sz (Int.mul_ne_zero (den_ne a) (den_ne b)) (by omega) (by omega)
theorem Sz.zero {k : Nat} (h : 1 ≤ k) : Sz k 0 := by
  have := Nat.pow_le_pow_right (show 0 < 2 by decide) h
  exact ⟨by show 0 < _; omega, by show 1 < _; omega⟩
theorem Sz.one {k : Nat} (h : 1 ≤ k) : Sz k 1 := by
  have := Nat.pow_le_pow_right (show 0 < 2 by decide) h
  exact ⟨by show 1 < _; omega, by show 1 < _; omega⟩
theorem log2_lt {j : Int} {k : Nat} (h : j ≠ 0) (hj : j.natAbs < 2 ^ k) (hk : k ≤ 9000) : j.natAbs.log2 < 9000 := by
  have := (Nat.log2_lt (n := j.natAbs) (k := k) (by omega)).mpr hj
  omega

/-! ### Euclid's steps -/
def euS (p : Nat × Nat) : Nat × Nat := (p.2, p.1 % p.2)
def eu (p : Nat × Nat) : Nat → Nat × Nat
  | 0 => p
  | i + 1 => euS (eu p i)
theorem eu_shift (p : Nat × Nat) (i : Nat) : eu (euS p) i = eu p (i + 1) := by
  induction i with
  | zero => rfl
  | succ i ih => show euS (eu (euS p) i) = euS (eu p (i + 1)); rw [ih]
theorem eu_gcd (p : Nat × Nat) (i : Nat) : Nat.gcd (eu p i).1 (eu p i).2 = Nat.gcd p.1 p.2 := by
  induction i with
  | zero => rfl
  | succ i ih =>
    show Nat.gcd (eu p i).2 ((eu p i).1 % (eu p i).2) = _
    rw [← ih, Nat.gcd_comm (eu p i).1 (eu p i).2, Nat.gcd_comm (eu p i).2 ((eu p i).1 % (eu p i).2)]
    exact (Nat.gcd_rec _ _).symm
theorem eu_stop : ∀ (y x : Nat), ∃ n, (∀ i, i < n → (eu (x, y) i).2 ≠ 0) ∧ (eu (x, y) n).2 = 0 := by
  intro y
  induction y using Nat.strongRecOn with
  | _ y ih =>
    intro x
    by_cases h : y = 0
    · exact ⟨0, fun i hi => absurd hi (Nat.not_lt_zero i), h⟩
    · obtain ⟨n, h1, h2⟩ := ih (x % y) (Nat.mod_lt _ (by omega)) y
      refine ⟨n + 1, fun i hi => ?_, ?_⟩
      · cases i with
        | zero => exact h
        | succ i => rw [← eu_shift]; exact h1 i (by omega)
      · rw [← eu_shift]; exact h2
end Mq
set_option autoImplicit false
set_option maxRecDepth 100000
set_option maxHeartbeats 4000000
namespace My
open PySem PySem.Spec PyProof.Rows L2 Dv Mq
section
variable {P : Program} {w : World} {K : PySem.W.Frag} {T : Ct} {mg : Str → Option Value} {base : Heap} {f : Addr} {fd : FuncData}
abbrev sRat : Stmt := topS 25
abbrev sAdd : Stmt := topS 26
abbrev sMul : Stmt := topS 27
/-- the law's own rational, a pair -/
def dP (q : Rat) : Dt := .tup [.int q.num, .int q.den]
def RGcd (ds : List Dt) (r : Dt) : Prop := ∃ (a b : Int), ds = [.int a, .int b] ∧ r = .int ((Nat.gcd a.natAbs b.natAbs : Nat) : Int)
theorem scGcd : FnScope ["a", "b", "one_v", "two", "rest"] ["a", "b"] (defScope sGcd) := ⟨rfl, rfl, rfl, by decide +kernel, rfl, by decide +kernel, by decide +kernel⟩
theorem ok_gcd (F : Fun K "_law_gcd" "_law_gcd" sGcd f fd) (hint : mg "int" = none) (habs : mg "abs" = none) : FnOk P w K mg base CX0 1 f fd ["a", "b"] (spD K T RGcd) := by
  refine okD F scGcd (fun ds r h => by obtain ⟨_, _, rfl, _⟩ := h; rfl) fun cdv A outer s H E pa ds r hr hR => ?_
  obtain ⟨a, b, rfl, rfl⟩ := hR
  obtain ⟨n, h1, h2⟩ := eu_stop b.natAbs a.natAbs
  let p : Nat × Nat := (a.natAbs, b.natAbs)
  have e : Nat.gcd a.natAbs b.natAbs = (eu p n).1 := by
    have := eu_gcd p n
    rw [h2, Nat.gcd_zero_right] at this
    exact this.symm
  rw [e]
  have h1 : ∀ i, i < n → (eu p i).2 ≠ 0 := h1
  have h2 : (eu p n).2 = 0 := h2
  let S : Nat → Store := fun i => [some (.fr (.int a)), some (.fr (.int b)), some (.fr (.int ((eu p i).1 : Nat))), some (.fr (.int ((eu p i).2 : Nat))), slot (fun i => .int ((eu p (i + 1)).2 : Nat)) i]
  refine ⟨_, xs_cons (xp_set 2 scGcd.nd (xd_abs (xd_var 0) habs)) (xs_cons (xp_set 3 scGcd.nd (xd_abs (xd_var 1) habs))
    (xs_cons (xp_while (st1 := S n) S S n (fun i hi => ⟨xt_neI (xd_var 3) xd_int ?_, .inl ?_⟩) (xt_neI (xd_var 3) xd_int ?_)) (xs_one (xp_ret (xd_var 2))))), .inl ⟨_, rfl⟩⟩
  · have := h1 i hi
    show (!decide (((eu p i).2 : Int) = 0)) = true
    rw [decide_eq_false (by omega)]; rfl
  · refine XS.to (xs_cons (xp_set 4 scGcd.nd (xd_mod (xd_intI (xd_var 2) hint) (xd_var 3) (by have := h1 i hi; omega))) (xs_cons (xp_set 2 scGcd.nd (xd_var 3)) (xs_one (xp_set 3 scGcd.nd (xd_var 4))))) rfl
  · show (!decide (((eu p n).2 : Int) = 0)) = false
    rw [decide_eq_true (by rw [h2]; rfl)]; rfl
abbrev DFc (P : Program) (w : World) (K : PySem.W.Frag) (T : Ct) (mg : Str → Option Value) (base : Heap) (x : Str) (k : Nat) (R : List Dt → Dt → Prop) : Prop := DF P w K T mg base x k R
def RRat (ds : List Dt) (r : Dt) : Prop := ∃ (n d : Int), ds = [.int n, .int d] ∧ d ≠ 0 ∧ d.natAbs.log2 < 9000 ∧ r = dP (Rat.divInt n d)
theorem scRat : FnScope ["n", "d", "common"] ["n", "d"] (defScope sRat) := ⟨rfl, rfl, rfl, by decide +kernel, rfl, by decide +kernel, by decide +kernel⟩
theorem cm_small {n d : Int} (h : d ≠ 0) (hs : d.natAbs.log2 < 9000) : (cm n d).natAbs.log2 < 9000 := by
  have h1 := cm_le (n := n) h
  have h2 := cm_ne (n := n) h
  exact (Nat.log2_lt (by omega)).mpr (Nat.lt_of_le_of_lt h1 ((Nat.log2_lt (by omega)).mp hs))
theorem ok_rat (F : Fun K "_law_rat" "_law_rat" sRat f fd) (Dg : DF P w K T mg base "_law_gcd" 1 RGcd) : FnOk P w K mg base CX0 2 f fd ["n", "d"] (spD K T RRat) := by
  refine okD F scRat (fun ds r h => by obtain ⟨_, _, rfl, _⟩ := h; rfl) fun cdv A outer s H E pa ds r hr hR => ?_
  obtain ⟨n, d, rfl, hd, hs, rfl⟩ := hR
  have e : dP (Rat.divInt n d) = .tup [.int (n.fdiv (cm n d)), .int (d.fdiv (cm n d))] := by
    unfold dP; rw [cm_num hd, cm_den hd]
  have hc := cm_ne (n := n) hd
  have hl := cm_small (n := n) hd hs
  rw [e]
  by_cases hn : d < 0
  · have e2 : cm n d = -((Nat.gcd n.natAbs d.natAbs : Nat) : Int) := if_pos hn
    rw [e2] at hc hl ⊢
    exact ⟨_, xs_cons (xp_set 2 scRat.nd (xd_df Dg rfl hr (xa_cons (xd_var 0) (xa_cons (xd_var 1) xa_nil)) ⟨n, d, rfl, rfl⟩))
      (xs_cons (xp_if (xt_lt (xd_var 1) xd_int (decide_eq_true hn)) (fun _ => xs_one (xp_set 2 scRat.nd (xd_neg (xd_var 2)))) (fun z => nomatch z))
      (xs_one (xp_ret (xd_tup (xa_cons (xd_fdiv (xd_var 0) (xd_var 2) hc hl) (xa_cons (xd_fdiv (xd_var 1) (xd_var 2) hc hl) xa_nil)) (by simp))))), .inl ⟨_, rfl⟩⟩
  · have e2 : cm n d = ((Nat.gcd n.natAbs d.natAbs : Nat) : Int) := if_neg hn
    rw [e2] at hc hl ⊢
    exact ⟨_, xs_cons (xp_set 2 scRat.nd (xd_df Dg rfl hr (xa_cons (xd_var 0) (xa_cons (xd_var 1) xa_nil)) ⟨n, d, rfl, rfl⟩))
      (xs_cons (xp_if (xt_lt (xd_var 1) xd_int (decide_eq_false hn)) (fun z => nomatch z) (fun _ => xs_nil))
      (xs_one (xp_ret (xd_tup (xa_cons (xd_fdiv (xd_var 0) (xd_var 2) hc hl) (xa_cons (xd_fdiv (xd_var 1) (xd_var 2) hc hl) xa_nil)) (by simp))))), .inl ⟨_, rfl⟩⟩
/-- the largest size in bits that the law's numbers may have -/
def RAdd (ds : List Dt) (r : Dt) : Prop := ∃ (a b : Rat), ds = [dP a, dP b] ∧ Sz 4000 a ∧ Sz 4000 b ∧ r = dP (a + b)
def RMul (ds : List Dt) (r : Dt) : Prop := ∃ (a b : Rat), ds = [dP a, dP b] ∧ Sz 4000 a ∧ Sz 4000 b ∧ r = dP (a * b)
theorem ibits {i : Int} {k : Nat} (h : i.natAbs < 2 ^ k) (hk : k ≤ 2 ^ 20) : Builtin.Int.intBits i ≤ 2 ^ 20 := Nat.le_trans (PyProof.Rows.intBits_le h) hk
theorem mulOk {i j : Int} {k m : Nat} (h : i.natAbs < 2 ^ k) (h' : j.natAbs < 2 ^ m) (hk : k ≤ 2 ^ 20 := by decide) (hm : m ≤ 2 ^ 20 := by decide) : IntMulOk i j := IntMulOk.of_bits (ibits h hk) (ibits h' hm)
theorem den_abs (q : Rat) : ((q.den : Int)).natAbs = q.den := rfl
theorem scAdd : FnScope ["a", "b"] ["a", "b"] (defScope sAdd) := ⟨rfl, rfl, rfl, by decide +kernel, rfl, by decide +kernel, by decide +kernel⟩
theorem scMul : FnScope ["a", "b"] ["a", "b"] (defScope sMul) := ⟨rfl, rfl, rfl, by decide +kernel, rfl, by decide +kernel, by decide +kernel⟩
theorem ok_add (F : Fun K "_law_add" "_law_add" sAdd f fd) (Dr : DF P w K T mg base "_law_rat" 2 RRat) : FnOk P w K mg base CX0 3 f fd ["a", "b"] (spD K T RAdd) := by
  refine okD F scAdd (fun ds r h => by obtain ⟨_, _, rfl, _⟩ := h; rfl) fun cdv A outer s H E pa ds r hr hR => ?_
  obtain ⟨a, b, rfl, ha, hb, rfl⟩ := hR
  have hd : (a.den : Int) * b.den ≠ 0 := Int.mul_ne_zero (den_ne a) (den_ne b)
  have hl : ((a.den : Int) * b.den).natAbs.log2 < 9000 := log2_lt hd (ha.lin hb).2.2 (by decide)
  rw [← add_q]
  exact ⟨_, xs_one (xp_ret (xd_df Dr rfl hr (xa_cons
    (xd_add (xd_mul (xd_ixT (xd_var 0) xd_int (m := 0) rfl rfl rfl) (xd_ixT (xd_var 1) xd_int (m := 1) rfl rfl rfl) (mulOk ha.1 hb.2)) (xd_mul (xd_ixT (xd_var 1) xd_int (m := 0) rfl rfl rfl) (xd_ixT (xd_var 0) xd_int (m := 1) rfl rfl rfl) (mulOk hb.1 ha.2)))
    (xa_cons (xd_mul (xd_ixT (xd_var 0) xd_int (m := 1) rfl rfl rfl) (xd_ixT (xd_var 1) xd_int (m := 1) rfl rfl rfl) (mulOk ha.2 hb.2)) xa_nil)) ⟨_, _, rfl, hd, hl, rfl⟩)), .inl ⟨_, rfl⟩⟩
theorem ok_mul (F : Fun K "_law_mul" "_law_mul" sMul f fd) (Dr : DF P w K T mg base "_law_rat" 2 RRat) : FnOk P w K mg base CX0 3 f fd ["a", "b"] (spD K T RMul) := by
  refine okD F scMul (fun ds r h => by obtain ⟨_, _, rfl, _⟩ := h; rfl) fun cdv A outer s H E pa ds r hr hR => ?_
  obtain ⟨a, b, rfl, ha, hb, rfl⟩ := hR
  have hd : (a.den : Int) * b.den ≠ 0 := Int.mul_ne_zero (den_ne a) (den_ne b)
  have hl : ((a.den : Int) * b.den).natAbs.log2 < 9000 := log2_lt hd (ha.lin hb).2.2 (by decide)
  rw [← mul_q]
  exact ⟨_, xs_one (xp_ret (xd_df Dr rfl hr (xa_cons
    (xd_mul (xd_ixT (xd_var 0) xd_int (m := 0) rfl rfl rfl) (xd_ixT (xd_var 1) xd_int (m := 0) rfl rfl rfl) (mulOk ha.1 hb.1))
    (xa_cons (xd_mul (xd_ixT (xd_var 0) xd_int (m := 1) rfl rfl rfl) (xd_ixT (xd_var 1) xd_int (m := 1) rfl rfl rfl) (mulOk ha.2 hb.2)) xa_nil)) ⟨_, _, rfl, hd, hl, rfl⟩)), .inl ⟨_, rfl⟩⟩
abbrev sSmall : Stmt := topS 32
def small (n d : Int) : Rat := Rat.divInt (n % 19 - 9) (d % 5 + 1)
def RSmall (ds : List Dt) (r : Dt) : Prop := ∃ (n d : Int), ds = [.int n, .int d] ∧ r = dP (small n d)
theorem scSmall : FnScope ["n", "d"] ["n", "d"] (defScope sSmall) := ⟨rfl, rfl, rfl, by decide +kernel, rfl, by decide +kernel, by decide +kernel⟩
theorem small_sz (n d : Int) : Sz 4 (small n d) := by
  have a := Int.emod_nonneg n (show (19 : Int) ≠ 0 by decide)
  have b := Int.emod_lt_of_pos n (show (0 : Int) < 19 by decide)
  have a' := Int.emod_nonneg d (show (5 : Int) ≠ 0 by decide)
  have b' := Int.emod_lt_of_pos d (show (0 : Int) < 5 by decide)
  exact divInt_sz (by omega) (by omega) (by omega)
theorem ok_small (F : Fun K "_law_small" "_law_small" sSmall f fd) (Dr : DF P w K T mg base "_law_rat" 2 RRat) : FnOk P w K mg base CX0 3 f fd ["n", "d"] (spD K T RSmall) := by
  refine okD F scSmall (fun ds r h => by obtain ⟨_, _, rfl, _⟩ := h; rfl) fun cdv A outer s H E pa ds r hr hR => ?_
  obtain ⟨n, d, rfl, rfl⟩ := hR
  have a' := Int.emod_nonneg d (show (5 : Int) ≠ 0 by decide)
  have b' := Int.emod_lt_of_pos d (show (0 : Int) < 5 by decide)
  exact ⟨_, xs_one (xp_ret (xd_df Dr rfl hr (xa_cons (xd_sub (xd_mod (xd_var 0) xd_int (by decide)) xd_int) (xa_cons (xd_add (xd_mod (xd_var 1) xd_int (by decide)) xd_int) xa_nil)) ⟨_, _, rfl, by omega, log2_small (by omega) (by omega), rfl⟩)), .inl ⟨_, rfl⟩⟩
end
end My
set_option autoImplicit false
set_option maxRecDepth 100000
set_option maxHeartbeats 4000000
set_option exponentiation.threshold 100000
namespace My
open PySem PySem.Spec PyProof.Rows L2 Dv Mq
abbrev cRat : Stmt := topS 9
abbrev cMat : Stmt := topS 16
def dR (q : Rat) : Dt := .obj 0 [.int q.num, .int q.den]
def dV (r : List Rat) : Dt := .tup (r.map dR)
def dL (r : List Rat) : Dt := .lst (r.map dR)
def dM (m : List (List Rat)) (w : Int) : Dt := .obj 1 [.tup (m.map dV), .int w]
/-- what is known of the module: its two classes, and which built-in names it leaves alone -/
structure Md (K : PySem.W.Frag) (T : Ct) (mg : Str → Option Value) (CR CM : Addr) : Prop where
  R : CF K T mg "Ratio" 0 CR ["n", "d"]
  M : CF K T mg "Matrix" 1 CM ["rows", "width"]
  Rn : NoAttr K CR "n"
  Rd : NoAttr K CR "d"
  Mr : NoAttr K CM "rows"
  Mw : NoAttr K CM "width"
  RX : ClsX K CR
  MX : ClsX K CM
  Rf : PySem.W.selfFirst K CR = true
  Mf : PySem.W.selfFirst K CM = true
  gcd : mg "gcd" = some (.builtin "math.gcd")
  isi : mg "isinstance" = none
  len : mg "len" = none
  tup : mg "tuple" = none
  zip : mg "zip" = none
  ran : mg "range" = none
  int : mg "int" = none
  bool : mg "bool" = none
section
variable {P : Program} {w : World} {K : PySem.W.Frag} {T : Ct} {mg : Str → Option Value} {base : Heap} {f CR CM : Addr} {fd : FuncData}
/-! ### Ratio -/
def RIn (ds fs : List Dt) : Prop := ∃ (n d : Int), ds = [.int n, .int d] ∧ d ≠ 0 ∧ d.natAbs.log2 < 9000 ∧ fs = [.int (Rat.divInt n d).num, .int (Rat.divInt n d).den]
abbrev sRI : Stmt := inClass cRat 0
theorem scRI : FnScope ["self", "n", "d", "common"] ["self", "n", "d"] (defScope sRI) := ⟨rfl, rfl, rfl, by decide +kernel, rfl, by decide +kernel, by decide +kernel⟩
theorem ok_RI {dvs : List V} (F : FunD K "__init__" "Ratio.__init__" (defArgs sRI) (defBody sRI) (defScope sRI) dvs [] f fd) (D : Md K T mg CR CM) : FnOk P w K mg base CX0 1 f fd ["self", "n", "d"] (spI K T 0 RIn) := by
  refine okID F scRI D.R.at_ (fun ds fs h => by obtain ⟨_, _, rfl, _⟩ := h; rfl) (fun ds fs h => by obtain ⟨_, _, _, _, _, rfl⟩ := h; rfl) fun cdv A outer s H E pa ds fs hr hR => ?_
  obtain ⟨n, d, rfl, hd, hs, rfl⟩ := hR
  have hc := cm_ne (n := n) hd
  have hl := cm_small (n := n) hd hs
  rw [← cm_num hd, ← cm_den hd]
  have nd : (["n", "d"] : List Str).Nodup := by decide +kernel
  by_cases hn : d < 0
  · have e2 : cm n d = -((Nat.gcd n.natAbs d.natAbs : Nat) : Int) := if_pos hn
    rw [e2] at hc hl ⊢
    exact ⟨_, xs_cons (xp_if (xt_eqI (xd_var 2) xd_int (decide_eq_false hd)) (fun z => nomatch z) (fun _ => xs_nil))
      (xs_cons (xp_set 3 scRI.nd (xd_gcd (xa_cons (xd_var 1) (xa_cons (xd_var 2) xa_nil)) D.gcd))
      (xs_cons (xp_if (xt_lt (xd_var 2) xd_int (decide_eq_true hn)) (fun _ => xs_one (xp_set 3 scRI.nd (xd_neg (xd_var 3)))) (fun z => nomatch z))
      (xs_cons (xp_fldset (xd_fdiv (xd_var 1) (xd_var 3) hc hl) D.R.at_ nd D.R.cl D.Rn rfl rfl)
      (xs_one (xp_fldset (xd_fdiv (xd_var 2) (xd_var 3) hc hl) D.R.at_ nd D.R.cl D.Rd rfl rfl))))), rfl⟩
  · have e2 : cm n d = ((Nat.gcd n.natAbs d.natAbs : Nat) : Int) := if_neg hn
    rw [e2] at hc hl ⊢
    exact ⟨_, xs_cons (xp_if (xt_eqI (xd_var 2) xd_int (decide_eq_false hd)) (fun z => nomatch z) (fun _ => xs_nil))
      (xs_cons (xp_set 3 scRI.nd (xd_gcd (xa_cons (xd_var 1) (xa_cons (xd_var 2) xa_nil)) D.gcd))
      (xs_cons (xp_if (xt_lt (xd_var 2) xd_int (decide_eq_false hn)) (fun z => nomatch z) (fun _ => xs_nil))
      (xs_cons (xp_fldset (xd_fdiv (xd_var 1) (xd_var 3) hc hl) D.R.at_ nd D.R.cl D.Rn rfl rfl)
      (xs_one (xp_fldset (xd_fdiv (xd_var 2) (xd_var 3) hc hl) D.R.at_ nd D.R.cl D.Rd rfl rfl))))), rfl⟩

def RA2 (g : Rat → Rat → Rat) (ds : List Dt) (r : Dt) : Prop := ∃ (a b : Rat), ds = [dR a, dR b] ∧ Sz 4000 a ∧ Sz 4000 b ∧ r = dR (g a b)
abbrev sRA : Stmt := inClass cRat 1
abbrev sRS : Stmt := inClass cRat 2
abbrev sRM : Stmt := inClass cRat 3
abbrev sRE : Stmt := inClass cRat 5
abbrev sRZ : Stmt := inClass cRat 14
theorem scRA : FnScope ["self", "other"] ["self", "other"] (defScope sRA) := ⟨rfl, rfl, rfl, by decide +kernel, rfl, by decide +kernel, by decide +kernel⟩
theorem scRS : FnScope ["self", "other"] ["self", "other"] (defScope sRS) := ⟨rfl, rfl, rfl, by decide +kernel, rfl, by decide +kernel, by decide +kernel⟩
theorem scRM : FnScope ["self", "other"] ["self", "other"] (defScope sRM) := ⟨rfl, rfl, rfl, by decide +kernel, rfl, by decide +kernel, by decide +kernel⟩
theorem scRE : FnScope ["self", "other"] ["self", "other"] (defScope sRE) := ⟨rfl, rfl, rfl, by decide +kernel, rfl, by decide +kernel, by decide +kernel⟩
theorem scRZ : FnScope ["self"] ["self"] (defScope sRZ) := ⟨rfl, rfl, rfl, by decide +kernel, rfl, by decide +kernel, by decide +kernel⟩
theorem rin {n d : Int} (h : d ≠ 0) (hl : d.natAbs.log2 < 9000) : RIn [.int n, .int d] [.int (Rat.divInt n d).num, .int (Rat.divInt n d).den] := ⟨n, d, rfl, h, hl, rfl⟩
abbrev Mk0 (P : Program) (w : World) (K : PySem.W.Frag) (T : Ct) (mg : Str → Option Value) (base : Heap) (CR : Addr) := IF' P w K T mg base 0 CR [] 1 RIn
theorem ok_RA (F : Fun K "__add__" "Ratio.__add__" sRA f fd) (D : Md K T mg CR CM) (I : IF' P w K T mg base 0 CR [] 1 RIn) : FnOk P w K mg base CX0 3 f fd ["self", "other"] (spD K T (RA2 (· + ·))) := by
  refine okD F scRA (fun ds r h => by obtain ⟨_, _, rfl, _⟩ := h; rfl) fun cdv A outer s H E pa ds r hr hR => ?_
  obtain ⟨a, b, rfl, ha, hb, er⟩ := hR
  have hd : (a.den : Int) * b.den ≠ 0 := Int.mul_ne_zero (den_ne a) (den_ne b)
  have hl : ((a.den : Int) * b.den).natAbs.log2 < 9000 := log2_lt hd (ha.lin hb).2.2 (by decide)
  have er := er.trans (congrArg dR (add_q a b).symm)
  subst er
  exact ⟨_, xs_one (xp_ret (xd_mk D.R I rfl hr (xa_cons
    (xd_add (xd_mul (xd_ff 0 (xd_var 0) D.R rfl D.Rn) (xd_ff 1 (xd_var 1) D.R rfl D.Rd) (mulOk ha.1 hb.2)) (xd_mul (xd_ff 0 (xd_var 1) D.R rfl D.Rn) (xd_ff 1 (xd_var 0) D.R rfl D.Rd) (mulOk hb.1 ha.2)))
    (xa_cons (xd_mul (xd_ff 1 (xd_var 0) D.R rfl D.Rd) (xd_ff 1 (xd_var 1) D.R rfl D.Rd) (mulOk ha.2 hb.2)) xa_nil)) (rin hd hl))), .inl ⟨_, rfl⟩⟩
/-- sums of larger numbers -/
def RAW (ds : List Dt) (r : Dt) : Prop := ∃ (a b : Rat) (s t : Nat), ds = [dR a, dR b] ∧ Sz s a ∧ Sz t b ∧ s + t ≤ 8000 ∧ r = dR (a + b)
theorem ok_RAW (F : Fun K "__add__" "Ratio.__add__" sRA f fd) (D : Md K T mg CR CM) (I : IF' P w K T mg base 0 CR [] 1 RIn) : FnOk P w K mg base CX0 3 f fd ["self", "other"] (spD K T RAW) := by
  refine okD F scRA (fun ds r h => by obtain ⟨_, _, _, _, rfl, _⟩ := h; rfl) fun cdv A outer s' H E pa ds r hr hR => ?_
  obtain ⟨a, b, s, t, rfl, ha, hb, hst, er⟩ := hR
  have hd : (a.den : Int) * b.den ≠ 0 := Int.mul_ne_zero (den_ne a) (den_ne b)
  have hl : ((a.den : Int) * b.den).natAbs.log2 < 9000 := log2_lt hd (ha.lin hb).2.2 (by omega)
  have hs : s ≤ 2 ^ 20 := by omega
  have ht : t ≤ 2 ^ 20 := by omega
  have er := er.trans (congrArg dR (add_q a b).symm)
  subst er
  exact ⟨_, xs_one (xp_ret (xd_mk D.R I rfl hr (xa_cons
    (xd_add (xd_mul (xd_ff 0 (xd_var 0) D.R rfl D.Rn) (xd_ff 1 (xd_var 1) D.R rfl D.Rd) (mulOk ha.1 hb.2 hs ht)) (xd_mul (xd_ff 0 (xd_var 1) D.R rfl D.Rn) (xd_ff 1 (xd_var 0) D.R rfl D.Rd) (mulOk hb.1 ha.2 ht hs)))
    (xa_cons (xd_mul (xd_ff 1 (xd_var 0) D.R rfl D.Rd) (xd_ff 1 (xd_var 1) D.R rfl D.Rd) (mulOk ha.2 hb.2 hs ht)) xa_nil)) (rin hd hl))), .inl ⟨_, rfl⟩⟩
theorem ok_RS (F : Fun K "__sub__" "Ratio.__sub__" sRS f fd) (D : Md K T mg CR CM) (I : IF' P w K T mg base 0 CR [] 1 RIn) : FnOk P w K mg base CX0 3 f fd ["self", "other"] (spD K T (RA2 (· - ·))) := by
  refine okD F scRS (fun ds r h => by obtain ⟨_, _, rfl, _⟩ := h; rfl) fun cdv A outer s H E pa ds r hr hR => ?_
  obtain ⟨a, b, rfl, ha, hb, er⟩ := hR
  have hd : (a.den : Int) * b.den ≠ 0 := Int.mul_ne_zero (den_ne a) (den_ne b)
  have hl : ((a.den : Int) * b.den).natAbs.log2 < 9000 := log2_lt hd (ha.lin hb).2.2 (by decide)
  have er := er.trans (congrArg dR (sub_q a b).symm)
  subst er
  exact ⟨_, xs_one (xp_ret (xd_mk D.R I rfl hr (xa_cons
    (xd_sub (xd_mul (xd_ff 0 (xd_var 0) D.R rfl D.Rn) (xd_ff 1 (xd_var 1) D.R rfl D.Rd) (mulOk ha.1 hb.2)) (xd_mul (xd_ff 0 (xd_var 1) D.R rfl D.Rn) (xd_ff 1 (xd_var 0) D.R rfl D.Rd) (mulOk hb.1 ha.2)))
    (xa_cons (xd_mul (xd_ff 1 (xd_var 0) D.R rfl D.Rd) (xd_ff 1 (xd_var 1) D.R rfl D.Rd) (mulOk ha.2 hb.2)) xa_nil)) (rin hd hl))), .inl ⟨_, rfl⟩⟩
/-- differences of larger numbers -/
def RSW (ds : List Dt) (r : Dt) : Prop := ∃ (a b : Rat) (s t : Nat), ds = [dR a, dR b] ∧ Sz s a ∧ Sz t b ∧ s + t ≤ 8000 ∧ r = dR (a - b)
theorem ok_RSW (F : Fun K "__sub__" "Ratio.__sub__" sRS f fd) (D : Md K T mg CR CM) (I : IF' P w K T mg base 0 CR [] 1 RIn) : FnOk P w K mg base CX0 3 f fd ["self", "other"] (spD K T RSW) := by
  refine okD F scRS (fun ds r h => by obtain ⟨_, _, _, _, rfl, _⟩ := h; rfl) fun cdv A outer s' H E pa ds r hr hR => ?_
  obtain ⟨a, b, s, t, rfl, ha, hb, hst, er⟩ := hR
  have hs : s ≤ 2 ^ 20 := by omega
  have ht : t ≤ 2 ^ 20 := by omega
  have hd : (a.den : Int) * b.den ≠ 0 := Int.mul_ne_zero (den_ne a) (den_ne b)
  have hl : ((a.den : Int) * b.den).natAbs.log2 < 9000 := log2_lt hd (ha.lin hb).2.2 (by omega)
  have er := er.trans (congrArg dR (sub_q a b).symm)
  subst er
  exact ⟨_, xs_one (xp_ret (xd_mk D.R I rfl hr (xa_cons
    (xd_sub (xd_mul (xd_ff 0 (xd_var 0) D.R rfl D.Rn) (xd_ff 1 (xd_var 1) D.R rfl D.Rd) (mulOk ha.1 hb.2 hs ht)) (xd_mul (xd_ff 0 (xd_var 1) D.R rfl D.Rn) (xd_ff 1 (xd_var 0) D.R rfl D.Rd) (mulOk hb.1 ha.2 ht hs)))
    (xa_cons (xd_mul (xd_ff 1 (xd_var 0) D.R rfl D.Rd) (xd_ff 1 (xd_var 1) D.R rfl D.Rd) (mulOk ha.2 hb.2 hs ht)) xa_nil)) (rin hd hl))), .inl ⟨_, rfl⟩⟩
theorem ok_RM (F : Fun K "__mul__" "Ratio.__mul__" sRM f fd) (D : Md K T mg CR CM) (I : IF' P w K T mg base 0 CR [] 1 RIn) : FnOk P w K mg base CX0 3 f fd ["self", "other"] (spD K T (RA2 (· * ·))) := by
  refine okD F scRM (fun ds r h => by obtain ⟨_, _, rfl, _⟩ := h; rfl) fun cdv A outer s H E pa ds r hr hR => ?_
  obtain ⟨a, b, rfl, ha, hb, er⟩ := hR
  have hd : (a.den : Int) * b.den ≠ 0 := Int.mul_ne_zero (den_ne a) (den_ne b)
  have hl : ((a.den : Int) * b.den).natAbs.log2 < 9000 := log2_lt hd (ha.lin hb).2.2 (by decide)
  have er := er.trans (congrArg dR (mul_q a b).symm)
  subst er
  exact ⟨_, xs_one (xp_ret (xd_mk D.R I rfl hr (xa_cons
    (xd_mul (xd_ff 0 (xd_var 0) D.R rfl D.Rn) (xd_ff 0 (xd_var 1) D.R rfl D.Rn) (mulOk ha.1 hb.1))
    (xa_cons (xd_mul (xd_ff 1 (xd_var 0) D.R rfl D.Rd) (xd_ff 1 (xd_var 1) D.R rfl D.Rd) (mulOk ha.2 hb.2)) xa_nil)) (rin hd hl))), .inl ⟨_, rfl⟩⟩
/-- equal numbers only: nothing else is compared here -/
def RREq (ds : List Dt) (r : Dt) : Prop := ∃ (a b : Rat), ds = [dR a, dR b] ∧ r = .bl (decide (a = b))
theorem rat_ext {a b : Rat} : decide (a = b) = (decide (a.num = b.num) && decide ((a.den : Int) = b.den)) := by
  by_cases h : a = b
  · subst h; simp
  · rw [decide_eq_false h]
    by_cases h1 : a.num = b.num
    · by_cases h2 : (a.den : Int) = b.den
      · exact absurd (Rat.ext h1 (by omega)) h
      · rw [decide_eq_false h2, Bool.and_false]
    · rw [decide_eq_false h1, Bool.false_and]
theorem ok_RE (F : Fun K "__eq__" "Ratio.__eq__" sRE f fd) (D : Md K T mg CR CM) : FnOk P w K mg base CX0 1 f fd ["self", "other"] (spD K T RREq) := by
  refine okD F scRE (fun ds r h => by obtain ⟨_, _, rfl, _⟩ := h; rfl) fun cdv A outer s H E pa ds r hr hR => ?_
  obtain ⟨a, b, rfl, rfl⟩ := hR
  rw [rat_ext]
  exact ⟨_, xs_one (xp_ret (xd_and (xd_isOwn (xd_var 1) D.R D.RX rfl D.isi) fun _ => xd_and (xd_eqI (xd_ff 0 (xd_var 0) D.R rfl D.Rn) (xd_ff 0 (xd_var 1) D.R rfl D.Rn)) fun _ => xd_one (xd_eqI (xd_ff 1 (xd_var 0) D.R rfl D.Rd) (xd_ff 1 (xd_var 1) D.R rfl D.Rd)))), .inl ⟨_, rfl⟩⟩
def RZe (ds : List Dt) (r : Dt) : Prop := ∃ (a : Rat), ds = [dR a] ∧ r = .bl (decide (a.num = 0))
theorem ok_RZ (F : Fun K "is_zero" "Ratio.is_zero" sRZ f fd) (D : Md K T mg CR CM) : FnOk P w K mg base CX0 1 f fd ["self"] (spD K T RZe) := by
  refine okD F scRZ (fun ds r h => by obtain ⟨_, rfl, _⟩ := h; rfl) fun cdv A outer s H E pa ds r hr hR => ?_
  obtain ⟨a, rfl, rfl⟩ := hR
  exact ⟨_, xs_one (xp_ret (xd_eqI (xd_ff 0 (xd_var 0) D.R rfl D.Rn) xd_int)), .inl ⟨_, rfl⟩⟩
def RC0 (q : Rat) (ds : List Dt) (r : Dt) : Prop := ds = [] ∧ r = dR q
abbrev sZero : Stmt := topS 10
abbrev sOne : Stmt := topS 11
theorem scZero : FnScope [] [] (defScope sZero) := ⟨rfl, rfl, rfl, by decide +kernel, rfl, by decide +kernel, by decide +kernel⟩
theorem scOne : FnScope [] [] (defScope sOne) := ⟨rfl, rfl, rfl, by decide +kernel, rfl, by decide +kernel, by decide +kernel⟩
theorem ok_zero (F : Fun K "zero" "zero" sZero f fd) (D : Md K T mg CR CM) (I : IF' P w K T mg base 0 CR [.int 1] 1 RIn) : FnOk P w K mg base CX0 3 f fd [] (spD K T (RC0 0)) := by
  refine okD F scZero (fun ds r h => by obtain ⟨rfl, _⟩ := h; rfl) fun cdv A outer s H E pa ds r hr hR => ?_
  obtain ⟨rfl, rfl⟩ := hR
  exact ⟨_, xs_one (xp_ret (xd_mk D.R I rfl hr (xa_cons xd_int xa_nil) (rin (n := 0) (d := 1) (by decide) (by decide)))), .inl ⟨_, rfl⟩⟩
theorem ok_one (F : Fun K "one" "one" sOne f fd) (D : Md K T mg CR CM) (I : IF' P w K T mg base 0 CR [.int 1] 1 RIn) : FnOk P w K mg base CX0 3 f fd [] (spD K T (RC0 1)) := by
  refine okD F scOne (fun ds r h => by obtain ⟨rfl, _⟩ := h; rfl) fun cdv A outer s H E pa ds r hr hR => ?_
  obtain ⟨rfl, rfl⟩ := hR
  exact ⟨_, xs_one (xp_ret (xd_mk D.R I rfl hr (xa_cons xd_int xa_nil) (rin (n := 1) (d := 1) (by decide) (by decide)))), .inl ⟨_, rfl⟩⟩
end
end My
set_option autoImplicit false
set_option maxRecDepth 100000
namespace Dv
open PySem PySem.Spec PyProof.Rows L2
section
variable {c : Ctx} {X : Cx} {st st1 st2 st3 st' : Store} {a b e e2 e3 iter elt : Expr} {es : List Expr} {d d1 d2 d3 d' : Dt} {ds xs ys zs fs gs vs : List Dt} {pos : Pos} {v : V} {n : Nat} {body : List Stmt} {o : Out} {i j : Int} {t : Bool}
theorem collect_some : ∀ vs : List Dt, Dv.collect (vs.map some) = vs
  | [] => rfl
  | v :: vs => by show v :: Dv.collect (vs.map some) = _; rw [collect_some vs]
theorem set_none {s : Store} {k : Nat} (h : s[k]? = some none) (x : Option Sv) : (s.set k x).set k none = s := by
  rw [List.set_set]
  apply List.ext_getElem?
  intro i
  by_cases q : k = i
  · subst q
    rw [List.getElem?_set_self (by exact (List.getElem?_eq_some_iff.mp h).1), h]
  · rw [List.getElem?_set_ne q]
/-- [elt for x in iter], the store as it was -/
theorem xl_map1 (jx : Nat) {x : Str} {p : Pos} {scope : Scope} (vs : List Dt) (hN : X.N.Nodup) (hi : XI c X (.Name x p) iter st ds st1) (hlen : vs.length = ds.length) (hsz : ds.length ≤ 100000) (hn : st1[jx]? = some none)
    (hb : ∀ (i : Nat) d v, ds[i]? = some d → vs[i]? = some v → ∀ sh H C cl fp, XD c (BlkC X sh H scope C cl fp) elt (st1.set jx (some (.fr d))) v (st1.set jx (some (.fr d))))
    (hx : X.N[jx]? = some x := by rfl) (hloc : Loc (relabel scope X.env) x := by first | exact Or.inl rfl | exact Or.inr rfl) (hlocf : (scope.names.lookup x == some .cell) = true ∨ (relabel scope X.env).names.lookup x = some .local := by first | exact Or.inl rfl | exact Or.inr rfl) (ok : BlkOk X.N X.env.scope scope [(x, jx)] := by exact blkOk_by (by first | rfl | decide +kernel))
    (hc : X.calm = true := by rfl) (hs : ∀ x, foldedSetIterable iter X.env x = pure x := by intro _; rfl) :
    XL c X (.ListComp elt [⟨.Name x p, iter, [], 0⟩] scope pos) st vs st1 := by
  have q := xl_lc (c := c) (X := X) (elt := elt) (pos := pos) (g := gName jx) (ow := [(x, jx)]) (fun _ => st1) (vs.map some) hN hi (by rw [List.length_map, hlen]) hsz (fun i _ q hq => by
      rw [List.mem_singleton.mp hq]; exact hn) (fun i d r h1 h2 => by
      rw [List.getElem?_map] at h2
      cases hv : vs[i]? with
      | none => rw [hv] at h2; cases h2
      | some v =>
        rw [hv] at h2
        cases h2
        exact ⟨_, true, _, tgt_name, .nil, .inr ⟨rfl, v, _, rfl, (set_none hn _).symm, hb i d v h1 hv⟩⟩) (fun s H C cl fp => pg_name (X := BlkC X s H scope C cl fp) hN hx hloc hlocf) (by decide) ok hc hs
  rw [collect_some] at q
  exact q
/-- [elt for x, y in iter] -/
theorem xl_map2 (j1 j2 : Nat) {x y : Str} {p p1 p2 : Pos} {kk : Nat} {scope : Scope} (vs : List Dt) (hN : X.N.Nodup) (hK : X.K = c.K) (hcm : X.calm = true) (hi : XI c X (.Tuple [.Name x p1, .Name y p2] kk p) iter st ds st1) (hlen : vs.length = ds.length) (hsz : ds.length ≤ 100000) (hj : j1 ≠ j2) (hn1 : st1[j1]? = some none) (hn2 : st1[j2]? = some none)
    (hb : ∀ (i : Nat) d v, ds[i]? = some d → vs[i]? = some v → ∃ u w, d = .tup [u, w] ∧ ∀ sh H C cl fp, XD c (BlkC X sh H scope C cl fp) elt ((st1.set j1 (some (.fr u))).set j2 (some (.fr w))) v ((st1.set j1 (some (.fr u))).set j2 (some (.fr w))))
    (hx : X.N[j1]? = some x := by rfl) (hy : X.N[j2]? = some y := by rfl) (hlx : Loc (relabel scope X.env) x := by first | exact Or.inl rfl | exact Or.inr rfl) (hlxf : (scope.names.lookup x == some .cell) = true ∨ (relabel scope X.env).names.lookup x = some .local := by first | exact Or.inl rfl | exact Or.inr rfl) (hly : Loc (relabel scope X.env) y := by first | exact Or.inl rfl | exact Or.inr rfl) (hlyf : (scope.names.lookup y == some .cell) = true ∨ (relabel scope X.env).names.lookup y = some .local := by first | exact Or.inl rfl | exact Or.inr rfl) (ok : BlkOk X.N X.env.scope scope [(x, j1), (y, j2)] := by exact blkOk_by (by first | rfl | decide +kernel))
    (hs : ∀ x, foldedSetIterable iter X.env x = pure x := by intro _; rfl) (hst : ∀ env, (assignEach [.Name x p1, .Name y p2] env).map (·.2) = [assign (.Name x p1) env, assign (.Name y p2) env] := by intro _; rfl) :
    XL c X (.ListComp elt [⟨.Tuple [.Name x p1, .Name y p2] kk p, iter, [], 0⟩] scope pos) st vs st1 := by
  have q := xl_lc (c := c) (X := X) (elt := elt) (pos := pos) (g := gTup X.K 2 (gCons (gName j1) (gCons (gName j2) gNil))) (ow := [(x, j1), (y, j2)]) (fun _ => st1) (vs.map some) hN hi (by rw [List.length_map, hlen]) hsz (fun i _ q hq => by
      rcases List.mem_cons.mp hq with h | h
      · rw [h]; exact hn1
      · rw [List.mem_singleton.mp h]; exact hn2) (fun i d r h1 h2 => by
      rw [List.getElem?_map] at h2
      cases hv : vs[i]? with
      | none => rw [hv] at h2; cases h2
      | some v =>
        rw [hv] at h2
        cases h2
        obtain ⟨u, w, rfl, hxd⟩ := hb i d v h1 hv
        refine ⟨_, true, _, tgt_pair hK.symm hj, .nil, .inr ⟨rfl, v, _, rfl, ?_, hxd⟩⟩
        show st1 = ((((st1.set j1 (some (.fr u))).set j2 (some (.fr w))).set j2 none).set j1 none)
        rw [set_none (by rw [List.getElem?_set_ne hj]; exact hn2), set_none hn1]) (fun s H C cl fp => pg_tup hcm (pgs_cons (pg_name (X := BlkC X s H scope C cl fp) hN hx hlx hlxf) (pgs_cons (pg_name (X := BlkC X s H scope C cl fp) hN hy hly hlyf) pgs_nil rfl) rfl) rfl rfl) (by decide) ok hcm hs
  rw [collect_some] at q
  exact q
/-- list * number -/
theorem xd_rep {k : Int} (ha : XD c X a st (.lst ds) st1) (hb : XD c X b st1 (.int k) st2) (h0 : 0 ≤ k) (h1 : k < 2 ^ 62) (hz : ds.length * k.toNat ≤ 100000) : XD c X (.BinOp a .Mult b pos) st (.lst (List.replicate k.toNat ds).flatten) st2 := xd_bin ha hb op_rep (o_rep (by omega) (by omega) hz)
/-- [elt for x in iter], the store as it was -/
theorem xp_map1 (k : Nat) (own? : Bool) (jx : Nat) {x y : Str} {py spos : Pos} {p : Pos} {scope : Scope} (vs : List Dt) (hN : X.N.Nodup) (hi : XI c X (.Name x p) iter st ds st1) (hlen : vs.length = ds.length) (hsz : ds.length ≤ 100000) (hn : st1[jx]? = some none)
    (hb : ∀ (i : Nat) d v, ds[i]? = some d → vs[i]? = some v → ∀ sh H C cl fp, XD c (BlkC X sh H scope C cl fp) elt (st1.set jx (some (.fr d))) v (st1.set jx (some (.fr d))))
    (hx : X.N[jx]? = some x := by rfl) (hloc : Loc (relabel scope X.env) x := by first | exact Or.inl rfl | exact Or.inr rfl) (hlocf : (scope.names.lookup x == some .cell) = true ∨ (relabel scope X.env).names.lookup x = some .local := by first | exact Or.inl rfl | exact Or.inr rfl) (ok : BlkOk X.N X.env.scope scope [(x, jx)] := by exact blkOk_by (by first | rfl | decide +kernel))
    (hy0 : X.N[k]? = some y := by rfl) (hyl : X.env.scope.names.lookup y = some .local := by rfl) (hsw : swapsWith (.ListComp elt [⟨.Name x p, iter, [], 0⟩] scope pos) (some (.Name y py)) spos.line X.env = pure true := by exact sw_true rfl rfl rfl (by first | rfl | decide +kernel))
    (hc : X.calm = true := by rfl) (hs : ∀ x, foldedSetIterable iter X.env x = pure x := by intro _; rfl) :
    XP c X (.Assign [.Name y py] (.ListComp elt [⟨.Name x p, iter, [], 0⟩] scope pos) spos) st (.nx (st1.set k (some (if own? = true then .ow vs else .fr (.lst vs))))) := by
  have q := xp_setLc (c := c) (X := X) (py := py) (spos := spos) (y := y) k (elt := elt) (pos := pos) (g := gName jx) (ow := [(x, jx)]) (fun _ => st1) (vs.map some) own? hN hi (by rw [List.length_map, hlen]) hsz (fun i _ q hq => by
      rw [List.mem_singleton.mp hq]; exact hn) (fun i d r h1 h2 => by
      rw [List.getElem?_map] at h2
      cases hv : vs[i]? with
      | none => rw [hv] at h2; cases h2
      | some v =>
        rw [hv] at h2
        cases h2
        exact ⟨_, true, _, tgt_name, .nil, .inr ⟨rfl, v, _, rfl, (set_none hn _).symm, hb i d v h1 hv⟩⟩) (fun s H C cl fp => pg_name (X := BlkC X s H scope C cl fp) hN hx hloc hlocf) (by decide) ok hy0 hyl hsw hc hs
  rw [collect_some] at q
  exact q
/-- [elt for x, y in iter] -/
theorem xp_map2 (k : Nat) (own? : Bool) (j1 j2 : Nat) {x y z : Str} {py spos : Pos} {p p1 p2 : Pos} {kk : Nat} {scope : Scope} (vs : List Dt) (hN : X.N.Nodup) (hK : X.K = c.K) (hcm : X.calm = true) (hi : XI c X (.Tuple [.Name x p1, .Name y p2] kk p) iter st ds st1) (hlen : vs.length = ds.length) (hsz : ds.length ≤ 100000) (hj : j1 ≠ j2) (hn1 : st1[j1]? = some none) (hn2 : st1[j2]? = some none)
    (hb : ∀ (i : Nat) d v, ds[i]? = some d → vs[i]? = some v → ∃ u w, d = .tup [u, w] ∧ ∀ sh H C cl fp, XD c (BlkC X sh H scope C cl fp) elt ((st1.set j1 (some (.fr u))).set j2 (some (.fr w))) v ((st1.set j1 (some (.fr u))).set j2 (some (.fr w))))
    (hx : X.N[j1]? = some x := by rfl) (hy : X.N[j2]? = some y := by rfl) (hlx : Loc (relabel scope X.env) x := by first | exact Or.inl rfl | exact Or.inr rfl) (hlxf : (scope.names.lookup x == some .cell) = true ∨ (relabel scope X.env).names.lookup x = some .local := by first | exact Or.inl rfl | exact Or.inr rfl) (hly : Loc (relabel scope X.env) y := by first | exact Or.inl rfl | exact Or.inr rfl) (hlyf : (scope.names.lookup y == some .cell) = true ∨ (relabel scope X.env).names.lookup y = some .local := by first | exact Or.inl rfl | exact Or.inr rfl) (ok : BlkOk X.N X.env.scope scope [(x, j1), (y, j2)] := by exact blkOk_by (by first | rfl | decide +kernel))
    (hy0 : X.N[k]? = some z := by rfl) (hyl : X.env.scope.names.lookup z = some .local := by rfl) (hsw : swapsWith (.ListComp elt [⟨.Tuple [.Name x p1, .Name y p2] kk p, iter, [], 0⟩] scope pos) (some (.Name z py)) spos.line X.env = pure true := by exact sw_true rfl rfl rfl (by first | rfl | decide +kernel))
    (hs : ∀ x, foldedSetIterable iter X.env x = pure x := by intro _; rfl) (hst : ∀ env, (assignEach [.Name x p1, .Name y p2] env).map (·.2) = [assign (.Name x p1) env, assign (.Name y p2) env] := by intro _; rfl) :
    XP c X (.Assign [.Name z py] (.ListComp elt [⟨.Tuple [.Name x p1, .Name y p2] kk p, iter, [], 0⟩] scope pos) spos) st (.nx (st1.set k (some (if own? = true then .ow vs else .fr (.lst vs))))) := by
  have q := xp_setLc (c := c) (X := X) (py := py) (spos := spos) (y := z) k (elt := elt) (pos := pos) (g := gTup X.K 2 (gCons (gName j1) (gCons (gName j2) gNil))) (ow := [(x, j1), (y, j2)]) (fun _ => st1) (vs.map some) own? hN hi (by rw [List.length_map, hlen]) hsz (fun i _ q hq => by
      rcases List.mem_cons.mp hq with h | h
      · rw [h]; exact hn1
      · rw [List.mem_singleton.mp h]; exact hn2) (fun i d r h1 h2 => by
      rw [List.getElem?_map] at h2
      cases hv : vs[i]? with
      | none => rw [hv] at h2; cases h2
      | some v =>
        rw [hv] at h2
        cases h2
        obtain ⟨u, w, rfl, hxd⟩ := hb i d v h1 hv
        refine ⟨_, true, _, tgt_pair hK.symm hj, .nil, .inr ⟨rfl, v, _, rfl, ?_, hxd⟩⟩
        show st1 = ((((st1.set j1 (some (.fr u))).set j2 (some (.fr w))).set j2 none).set j1 none)
        rw [set_none (by rw [List.getElem?_set_ne hj]; exact hn2), set_none hn1]) (fun s H C cl fp => pg_tup hcm (pgs_cons (pg_name (X := BlkC X s H scope C cl fp) hN hx hlx hlxf) (pgs_cons (pg_name (X := BlkC X s H scope C cl fp) hN hy hly hlyf) pgs_nil rfl) rfl) rfl rfl) (by decide) ok hy0 hyl hsw hcm hs
  rw [collect_some] at q
  exact q
/-- an operation that makes a new list -/
def Op2L (c : Ctx) (d1 d2 : Dt) (xs : List Dt) (r : R2) : Prop := ∀ (G H : Hp) (x y : V) (Q : VK), Ex G H → Rep c.K c.T G d1 x → Rep c.K c.T G d2 y → (∀ p vs, H p = none → Reps c.K c.T G xs vs → Q (.ref p) (upd H p (.lst vs))) → r x y H Q
theorem xl_bin {op : Operator} {r : R2} (ha : XD c X a st d1 st1) (hb : XD c X b st1 d2 st2) (ho : OpR X (binaryOp op) r) (hv : Op2L c d1 d2 xs r) : XL c X (.BinOp a op b pos) st xs st2 :=
  ⟨pe_weak (pe_op ho ha.pe hb.pe) fun σ H Q ⟨G, E, k⟩ => ⟨G, E, fun x G1 H1 g1 E1 r1 => ⟨G1, E1, fun y G2 H2 g2 E2 r2 =>
    hv G2 H2 x y Q E2.ex (r1.ex g2.ex) r2 fun p vs hp rr => by
      obtain ⟨E3, g3⟩ := E2.lay (o := .lst vs) hp
      exact k p vs G2 _ ((g1.trans g2).trans g3) E3 (E2.notOwn hp) ((g1.trans g2).none hp) (E2.ex.none hp) upd_same rr⟩⟩⟩
theorem xl_rep {k : Int} (ha : XD c X a st (.lst ds) st1) (hb : XD c X b st1 (.int k) st2) (h0 : 0 ≤ k) (h1 : k < 2 ^ 62) (hz : ds.length * k.toNat ≤ 100000) : XL c X (.BinOp a .Mult b pos) st (List.replicate k.toNat ds).flatten st2 :=
  xl_bin ha hb op_rep fun G H x y Q e r1 r2 kk => by
    obtain ⟨a, vs, rfl, h, r⟩ := r1.lst_inv
    cases r2
    exact ⟨a, k, vs, rfl, rfl, e _ _ h, by omega, by omega, by rw [← r.length]; exact Nat.le_trans hz (by decide), fun p hp => kk p _ hp (Reps.replicate _ r)⟩
theorem xl_cat (ha : XD c X a st (.lst ds) st1) (hb : XD c X b st1 (.lst xs) st2) (hz : ds.length + xs.length ≤ 100000) : XL c X (.BinOp a .Add b pos) st (ds ++ xs) st2 :=
  xl_bin ha hb op_cat fun G H x y Q e r1 r2 kk => by
    obtain ⟨a, vs, rfl, h, r⟩ := r1.lst_inv
    obtain ⟨b, ws, rfl, h2, r2⟩ := r2.lst_inv
    exact ⟨a, b, vs, ws, rfl, rfl, e _ _ h, e _ _ h2, by rw [← r.length, ← r2.length]; exact Nat.le_trans hz (by decide), fun p hp => kk p _ hp (r.app r2)⟩
end
end Dv
set_option autoImplicit false
set_option maxRecDepth 100000
namespace Dv
open PySem PySem.Spec PyProof.Rows L2
/-! ### plain data, compared with itself -/
structure Pl (k : Nat) (d : Dt) (p : PyData) : Prop where
  py : d.py = some p
  lay : p.canLay0 = true
  dep : p.depth ≤ k
  self : PyData.eqv p p = true
structure PlL (k : Nat) (ds : List Dt) (ps : List PyData) : Prop where
  py : Dt.pys ds = some ps
  lay : PyData.canLayAll0 ps = true
  dep : PyData.depthAll ps ≤ k
  self : PyData.eqvAll ps ps = true
theorem pl_int {i : Int} {k : Nat} : Pl k (.int i) (.int i) := ⟨rfl, by rw [PyData.canLay0.eq_3], by rw [PyData.depth.eq_6]; omega, by rw [PyData.eqv.eq_5]; simp⟩
theorem pl_non {k : Nat} : Pl k .non .none := ⟨rfl, by rw [PyData.canLay0.eq_1], by rw [PyData.depth.eq_4]; omega, by rw [PyData.eqv.eq_1]⟩
theorem pl_bl {b : Bool} {k : Nat} : Pl k (.bl b) (.bool b) := ⟨rfl, by rw [PyData.canLay0.eq_2], by rw [PyData.depth.eq_5]; omega, by rw [PyData.eqv.eq_2]; simp⟩
theorem pll_nil {k : Nat} : PlL k [] [] := ⟨rfl, rfl, by rw [PyData.depthAll.eq_1]; omega, by rw [PyData.eqvAll.eq_1]⟩
theorem pll_cons {k : Nat} {d : Dt} {p : PyData} {ds : List Dt} {ps : List PyData} (h : Pl k d p) (t : PlL k ds ps) : PlL k (d :: ds) (p :: ps) where
  py := by unfold Dt.pys; rw [h.py, t.py]
  lay := by show (p.canLay0 && PyData.canLayAll0 ps) = true; rw [h.lay, t.lay]; rfl
  dep := by rw [PyData.depthAll.eq_2]; exact Nat.max_le.mpr ⟨h.dep, t.dep⟩
  self := by rw [PyData.eqvAll.eq_2, h.self, t.self]; rfl
theorem pl_tup {k : Nat} {ds : List Dt} {ps : List PyData} (h : PlL k ds ps) : Pl (k + 1) (.tup ds) (.tuple ps) where
  py := by unfold Dt.py; rw [h.py]; rfl
  lay := by rw [PyData.canLay0.eq_6]; exact h.lay
  dep := by rw [PyData.depth.eq_2]; exact Nat.succ_le_succ h.dep
  self := by rw [PyData.eqv.eq_8]; exact h.self
theorem pl_lst {k : Nat} {ds : List Dt} {ps : List PyData} (h : PlL k ds ps) : Pl (k + 1) (.lst ds) (.list ps) where
  py := by unfold Dt.py; rw [h.py]; rfl
  lay := by rw [PyData.canLay0.eq_5]; exact h.lay
  dep := by rw [PyData.depth.eq_1]; exact Nat.succ_le_succ h.dep
  self := by rw [PyData.eqv.eq_7]; exact h.self
theorem pll_map {α : Type} {k : Nat} {F : α → Dt} {G : α → PyData} (h : ∀ i, Pl k (F i) (G i)) : ∀ l : List α, PlL k (l.map F) (l.map G)
  | [] => pll_nil
  | a :: l => pll_cons (h a) (pll_map h l)
theorem Pl.shaped {k : Nat} {d : Dt} {p : PyData} (h : Pl k d p) (hk : k ≤ 64) : SeqAt.shaped p = true := by
  show (p.canLay0 && decide (p.depth ≤ 64)) = true
  rw [h.lay, decide_eq_true (Nat.le_trans h.dep hk)]; rfl
section
variable {c : Ctx} {X : Cx} {st st1 st2 st3 st' : Store} {a b e e2 e3 iter elt : Expr} {es : List Expr} {d d1 d2 d3 d' : Dt} {ds xs ys zs fs gs vs : List Dt} {pos : Pos} {v : V} {n k m : Nat} {p q : PyData} {body : List Stmt} {o : Out} {i j : Int} {t : Bool}
/-- a != b where both are the same plain data -/
theorem xt_neP (ha : XD c X a st d st1) (hb : XD c X b st1 d st2) (h : Pl k d p) (hk : k ≤ 64) (hK : X.K = c.K) (hr : Room m X.A) : XT c X (.Compare a [.NotEq] [b] pos) st false st2 := by
  have q := o_neD (c := c) h.py h.py (h.shaped hk) (h.shaped hk)
  rw [h.self, ← hK] at q
  exact xt_cmp ha hb (op_neD (by have := hr.un; omega)) q (nomark _)
theorem xt_inP {qs : List PyData} (ha : XD c X a st d1 st1) (hb : XD c X b st1 d2 st2) (h1 : Pl k d1 p) (h2 : Pl k d2 (.list qs)) (hk : k ≤ 64) (ht : (qs.any fun z => PyData.eqv z p) = t) (hK : X.K = c.K) (hr : Room m X.A) (hm : behindInMarks .In b = false := by rfl) : XT c X (.Compare a [.In] [b] pos) st t st2 := by
  have q := o_inD (c := c) h1.py h2.py (h1.shaped hk) (h2.shaped hk)
  rw [ht, ← hK] at q
  exact xt_cmp ha hb (op_inD (by have := hr.un; omega)) q hm
/-- a != b of a class that has an own == only, as a test -/
theorem xt_neF {R : List Dt → Dt → Prop} {x : Str} {C : Addr} {ns : List Str} (ha : XD c X a st (.obj n fs) st1) (hb1 : XD c X b st1 (.obj n gs) st2) (Q : CF X.K c.T X.mg x n C ns) (F : MF X.prog X.w X.K c.T X.mg X.base C "__eq__" k R) (hK : X.K = c.K) (hr : Room (k + 1) X.A)
    (hne : PySem.W.findIn X.K (.ref C) "__ne__" = some (some (.builtin "object.__ne__"))) (hob : PySem.W.mroIn X.K C (.type "object") = some true)
    (hR : R [.obj n fs, .obj n gs] (.bl t)) : XT c X (.Compare a [.NotEq] [b] pos) st (!t) st2 := by
  obtain ⟨f, fd, ps, F, hf, hb⟩ := F.ex
  rw [hK] at F
  refine xt_cmp ha hb1 (op_ownNe (E := fun _ _ _ => False) (sp := spD c.K c.T R) (by rw [hK]; exact F) hr ⟨hf.at_, hf.fn, hne, hob⟩ hb pass0) (o_ownNe (X := X) Q.at_ hR) (nomark _)
theorem xt_eqF {R : List Dt → Dt → Prop} {x : Str} {C : Addr} {ns : List Str} (ha : XD c X a st (.obj n fs) st1) (hb1 : XD c X b st1 (.obj n gs) st2) (Q : CF X.K c.T X.mg x n C ns) (F : MF X.prog X.w X.K c.T X.mg X.base C "__eq__" k R) (hK : X.K = c.K) (hr : Room k X.A)
    (hR : R [.obj n fs, .obj n gs] (.bl t)) : XT c X (.Compare a [.Eq] [b] pos) st t st2 := by
  obtain ⟨f, fd, ps, F, hf, hb⟩ := F.ex
  rw [hK] at F
  refine xt_cmp ha hb1 (op_ownEq (E := fun _ _ _ => False) (sp := spD c.K c.T R) (by rw [hK]; exact F) hr ⟨hf.at_, hf.fn⟩ hb pass0) (o_ownEq (X := X) Q.at_ hR) (nomark _)
end
end Dv
set_option autoImplicit false
set_option maxRecDepth 100000
namespace Dv
open PySem PySem.Spec PyProof.Rows L2
section
variable {c : Ctx} {X : Cx} {st st1 st2 st3 st' : Store} {a b e e2 e3 tg iter elt : Expr} {es : List Expr} {d d1 d2 d3 d' : Dt} {ds xs ys zs fs gs vs : List Dt} {pos : Pos} {v : V} {n k m : Nat} {p q : PyData} {body : List Stmt} {o : Out} {i j : Int} {t : Bool} {G G' H H' : Hp} {σ σ' : L2.St}
/-! ### -x of an own class -/
def rOwn1 (C : Addr) (sp : Sp) (E : XK) : V → Hp → VK → Prop := fun x H Q => (∃ p dx gs, x = .ref p ∧ H p = some (.ins C dx gs)) ∧ sp [x] H Q E
theorem un_own {CX : CXT} {f C : Addr} {fd : FuncData} {ps : List Str} {E : XK} {sp : Sp} (F : FnOk X.prog X.w X.K X.mg X.base CX k f fd ps sp) (hr : Room k X.A) (M : OwnOp X.K C "__neg__" f) (hb : Binds X.K fd ps []) (hx : Passes CX X E) :
    UnR X (unaryOp .USub) (rOwn1 C sp E) := by
  intro pins s σ H x v Q I rx h
  obtain ⟨⟨p, dx, gs, rfl, hp⟩, hsp⟩ := h
  cases rx
  obtain ⟨mA, J, _⟩ := ins_get I.hok hp
  obtain ⟨od, J, _⟩ := J.look
  have ht : PySem.W.typeIn X.K (.ref f) = some (.type "function") := by
    have := M.fn
    simpa [PySem.W.isFn] using this
  unfold unaryOp
  refine wpAny_holding ?_
  show wpAny (model X.prog X.w) X.A (callSpecial? (.ref p) (Str.ofString "__neg__") >>= _) (EP X pins σ Q) X.xe s
  refine wpAny_bind (PySem.W.special_fn (args := []) I.kIn J M.at_ ht ?_)
  exact thn (run_fn (dvs := []) (vs := [.ref p]) (us := [.ref p]) F hr hb .nil hx I (.cons rfl .nil) hsp) fun u s' z => wpAny_pure z
theorem xd_negF {R : List Dt → Dt → Prop} {x : Str} {C : Addr} {ns : List Str} (ha : XD c X a st (.obj n fs) st1) (Q : CF X.K c.T X.mg x n C ns) (F : MF X.prog X.w X.K c.T X.mg X.base C "__neg__" k R) (hK : X.K = c.K) (hr : Room k X.A)
    (hR : R [.obj n fs] d) : XD c X (.UnaryOp .USub a pos) st d st1 := by
  obtain ⟨f, fd, ps, F, hf, hb⟩ := F.ex
  rw [hK] at F
  refine xd_un ha (un_own (E := fun _ _ _ => False) (sp := spD c.K c.T R) (by rw [hK]; exact F) hr ⟨hf.at_, hf.fn⟩ hb pass0) fun G H x Q' ex r1 kk => ?_
  obtain ⟨C1, ns1, q, dx, ws, rfl, q1, q2, q3, q4⟩ := id r1.obj_inv
  rw [Q.at_] at q1
  cases q1
  exact ⟨⟨q, dx, _, rfl, ex _ _ q2⟩, G, [.obj n fs], d, ex, .cons r1 .nil, hR, fun v G' H' g e' r' => kk v G' H' (gw_of g e') r'⟩

/-! ### slices of lists -/
theorem sIx_hi {m : Nat} (h : 0 ≤ j) (l : Nat) : HT.sIx l m (some j) = min j.toNat l := by
  show (if j < 0 then _ else _) = _
  rw [if_neg (by omega)]
theorem xd_cutHi (ha : XD c X a st (.lst ds) st1) (hb : XD c X b st1 (.int j) st2) (hj : 0 ≤ j) (hK : X.K = c.K) {p2 : Pos} : XD c X (.Subscript a (.Slice none (some b) none p2) pos) st (.lst (ds.take j.toNat)) st2 :=
  ⟨pe_weak (pe_slice sl_list ha.pe po_none (po_some hb.pe)) fun σ H Q ⟨G, E, kk⟩ => ⟨G, E, fun x G1 H1 g1 E1 r1 => ⟨G1, E1, fun y G2 H2 g2 E2 r2 => by
    obtain ⟨a', vs, rfl, hl, r⟩ := r1.lst_inv
    cases r2
    refine ⟨j, rfl, a', vs, rfl, .inl (.inl (E2.ex _ _ (g2.ex _ _ hl))), fun p hp => ?_⟩
    have e : cutV vs none (some j) = vs.take j.toNat := by
      show List.take (HT.sIx vs.length vs.length (some j) - 0) (List.drop 0 vs) = _
      rw [sIx_hi hj, List.drop_zero, Nat.sub_zero]
      by_cases q : j.toNat ≤ vs.length
      · rw [Nat.min_eq_left q]
      · rw [Nat.min_eq_right (by omega), List.take_of_length_le (Nat.le_refl _), List.take_of_length_le (by omega)]
    rw [e]
    exact kk _ _ _ ((g1.trans g2).trans (Gw.new E2.ex hp).gr) (E2.g1 (Gw.new E2.ex hp)) (.lst upd_same ((Reps.take _ (r.ex g2.ex)).ex (Ex.new (E2.ex.none hp))))⟩⟩⟩
theorem xd_cutLo (ha : XD c X a st (.lst ds) st1) (hb : XD c X b st1 (.int j) st2) (hj : 0 ≤ j) (hK : X.K = c.K) {p2 : Pos} : XD c X (.Subscript a (.Slice (some b) none none p2) pos) st (.lst (ds.drop j.toNat)) st2 :=
  ⟨pe_weak (pe_slice sl_list ha.pe (po_some hb.pe) po_none) fun σ H Q ⟨G, E, kk⟩ => ⟨G, E, fun x G1 H1 g1 E1 r1 => ⟨G1, E1, fun y G2 H2 g2 E2 r2 => by
    obtain ⟨a', vs, rfl, hl, r⟩ := r1.lst_inv
    cases r2
    refine ⟨j, rfl, a', vs, rfl, .inl (.inl (E2.ex _ _ (g2.ex _ _ hl))), fun p hp => ?_⟩
    have e : cutV vs (some j) none = vs.drop j.toNat := by
      show List.take (vs.length - HT.sIx vs.length 0 (some j)) (List.drop (HT.sIx vs.length 0 (some j)) vs) = _
      rw [sIx_hi hj, List.take_of_length_le (by rw [List.length_drop]; omega)]
      by_cases q : j.toNat ≤ vs.length
      · rw [Nat.min_eq_left q]
      · rw [Nat.min_eq_right (by omega), List.drop_eq_nil_of_le (Nat.le_refl _), List.drop_eq_nil_of_le (by omega)]
    rw [e]
    exact kk _ _ _ ((g1.trans g2).trans (Gw.new E2.ex hp).gr) (E2.g1 (Gw.new E2.ex hp)) (.lst upd_same ((Reps.drop _ (r.ex g2.ex)).ex (Ex.new (E2.ex.none hp))))⟩⟩⟩
/-- xs + ys, a value -/
theorem xd_cat (ha : XD c X a st (.lst ds) st1) (hb : XD c X b st1 (.lst xs) st2) (hz : ds.length + xs.length ≤ 100000) : XD c X (.BinOp a .Add b pos) st (.lst (ds ++ xs)) st2 := xd_bin ha hb op_cat (o_cat hz)

/-! ### the last item -/
theorem xd_ixLast (ha : XD c X a st d1 st1) (hd1 : d1 = .lst ds ∨ d1 = .tup ds) (hb : XD c X b st1 (.int (-1)) st2) (hd : ds[ds.length - 1]? = some d) (hK : X.K = c.K) (hs : PlainIx b := by exact fun _ _ => rfl) : XD c X (.Subscript a b pos) st d st2 := by
  have hl : 0 < ds.length := by
    cases ds with
    | nil => cases hd
    | cons _ _ => simp
  have at1 : ∀ {vs : List V} {v : V}, vs.length = ds.length → vs[ds.length - 1]? = some v → atI vs (-1) = some v := fun {vs v} e h => by
    unfold atI ixN
    rw [e]
    rw [if_neg (by omega), if_pos (by omega)]
    show vs[((-1 : Int) + (ds.length : Int)).toNat]? = some v
    rw [show ((-1 : Int) + (ds.length : Int)).toNat = ds.length - 1 from by omega]; exact h
  rcases hd1 with rfl | rfl
  · refine xd_ix (r := rIxL X.K) ha hb ix_list (fun G H x y Q ex r1 r2 kk => ?_) hs
    obtain ⟨a', vs, rfl, hl', r⟩ := r1.lst_inv
    cases r2
    obtain ⟨v, h1, h2⟩ := r.get hd
    exact ⟨a', vs, _, v, rfl, rfl, .inl (.inl (ex _ _ hl')), at1 r.length.symm h1, kv_same kk ex h2⟩
  · refine xd_ix (r := rIxT X.K) ha hb ix_tup (fun G H x y Q ex r1 r2 kk => ?_) hs
    obtain ⟨a', vs, rfl, hl', r⟩ := r1.tup_inv
    cases r2
    obtain ⟨v, h1, h2⟩ := r.get hd
    exact ⟨a', vs, _, v, rfl, rfl, by rw [hK]; exact ex.st hl', at1 r.length.symm h1, kv_same kk ex h2⟩

/-! ### enumerate -/
def enumD (ds : List Dt) : List Dt := ds.mapIdx fun i d => .tup [.int i, d]
theorem yld_enum {a : Addr} {vs : List V} {G0 : Hp} {K : PySem.W.Frag} (hK : c.K = K) (h : SqL K G0 a vs) (r : Reps c.K c.T G0 ds vs) : Yld c (Ite K a) G0 (enumD ds) where
  go := fun i G H e1 e2 hi => by
    unfold enumD at hi
    rw [List.length_mapIdx] at hi
    exact ⟨vs, vs[i]'(by rw [← r.length]; exact hi), (e1.trans e2).sl h, List.getElem?_eq_getElem _⟩
  stop := fun i G H e1 e2 hi => by
    unfold enumD at hi
    rw [List.length_mapIdx] at hi
    exact ⟨vs, (e1.trans e2).sl h, by rw [← r.length]; exact hi⟩
  yl := fun i G H x H' e1 e2 hi y => by
    obtain ⟨T, v, rfl, hT, rfl, hv⟩ := y
    obtain ⟨d, h1, h2⟩ := r.getV (hv vs ((e1.trans e2).sl h))
    refine ⟨_, .tup [.int i, d], Gw.new e2 hT, ?_, .tup (SqT.of upd_same) (.cons .int (.cons ((h2.ex e1).ex (Ex.new (e2.none hT))) .nil))⟩
    unfold enumD
    rw [List.getElem?_mapIdx, h1]; rfl
theorem xi_enum {p pos tpos : Pos} {elts : List Expr} {kk : Nat} (h : XD c X e st (.lst ds) st1) (hK : X.K = c.K) (hm : X.mg "enumerate" = none) (hg : Gl X "enumerate" := by rfl) (hs : starEach [e] X.env = [(false, eval e X.env)] := by rfl) (he : starEach (e :: []) X.env = (false, eval e X.env) :: starEach [] X.env := by rfl) :
    XI c X (.Tuple elts kk tpos) (.Call (.Name "enumerate" p) [e] [] pos) st (enumD ds) st1 :=
  ⟨pi_weak (pi_enum hg hm (pa_cons h.pe pa_nil he) hs) fun σ H R ⟨G, E, k⟩ => ⟨G, E, fun v G1 H1 g1 E1 r1 => by
    obtain ⟨a, vs, rfl, hl, r⟩ := r1.lst_inv
    exact ⟨a, vs, rfl, .inl (.inl (E1.ex _ _ hl)), k _ G1 H1 g1 E1 (yld_enum hK.symm (.inl (.inl hl)) r)⟩⟩⟩

/-! ### [*xs, e] -/
theorem xa_star {p1 : Pos} (h : XD c X e st d st1) (hd : d = .lst ds ∨ d = .tup ds) (h2 : XA c X es st1 xs st2) (hK : X.K = c.K) (hs : starEach (.Starred e p1 :: es) X.env = (true, eval e X.env) :: starEach es X.env := by rfl) : XA c X (.Starred e p1 :: es) st (ds ++ xs) st2 :=
  ⟨pa_weak (StX.pa_star h.pe h2.pa hs) fun σ H Q ⟨G, E, k⟩ => ⟨G, E, fun v G1 H1 g1 E1 r1 => by
    rcases hd with rfl | rfl
    · obtain ⟨a, vs, rfl, hl, r⟩ := r1.lst_inv
      exact ⟨a, vs, rfl, .inr (.inl (.inl (E1.ex _ _ hl))), G1, E1, fun ws G2 H2 g2 E2 r2 => k _ G2 H2 (g1.trans g2) E2 ((r.ex g2.ex).app r2)⟩
    · obtain ⟨a, vs, rfl, hl, r⟩ := r1.tup_inv
      exact ⟨a, vs, rfl, .inl (by rw [hK]; exact E1.ex.st hl), G1, E1, fun ws G2 H2 g2 E2 r2 => k _ G2 H2 (g1.trans g2) E2 ((r.ex g2.ex).app r2)⟩⟩⟩
/-! ### a whole number (not) in a list or tuple of whole numbers -/
theorem ints_inv {K : PySem.W.Frag} {T : Ct} : ∀ {ns : List Int} {vs : List V}, Reps K T G (ns.map .int) vs → vs = ns.map V.int
  | [], _, h => by cases h; rfl
  | n :: ns, _, h => by
    cases h with
    | cons r rs => cases r; rw [ints_inv rs]; rfl
theorem inV_ints (i : Int) : ∀ ns : List Int, inV (.int i) (ns.map V.int) = decide (i ∈ ns)
  | [] => rfl
  | n :: ns => by
    show (eqV (.int n) (.int i) || inV (.int i) (ns.map V.int)) = _
    rw [inV_ints i ns]
    show ((n == i) || decide (i ∈ ns)) = _
    by_cases h : n = i
    · subst h; simp
    · have h' : ¬ i = n := fun z => h z.symm
      rw [beq_false_of_ne h]; simp [h']
theorem xt_notinI {ns : List Int} (ha : XD c X a st (.int i) st1) (hb : XD c X b st1 d st2) (hd : d = .lst (ns.map .int) ∨ d = .tup (ns.map .int)) (ht : (!decide (i ∈ ns)) = t) (hK : X.K = c.K) (hm : behindInMarks .NotIn b = false := by rfl) : XT c X (.Compare a [.NotIn] [b] pos) st t st2 := by
  refine xt_cmp (r := rIn X.K true) ha hb op_notIn_seq (fun G H x y Q ex r1 r2 kk => ?_) hm
  cases r1
  have fl : (ns.map V.int).all flatV = true := by rw [List.all_map]; exact List.all_eq_true.mpr fun _ _ => rfl
  have main : Q (.bl (!inV (.int i) (ns.map V.int))) H := by
    rw [inV_ints, ht]; exact kv_same kk ex .bl
  rcases hd with rfl | rfl
  · obtain ⟨a', vs, rfl, hl, r⟩ := r2.lst_inv
    rw [ints_inv r] at hl
    exact ⟨a', _, rfl, .inl (.inl (.inl (ex _ _ hl))), rfl, fl, main⟩
  · obtain ⟨a', vs, rfl, hl, r⟩ := r2.tup_inv
    rw [ints_inv r] at hl
    exact ⟨a', _, rfl, .inr (by rw [hK]; exact ex.st hl), rfl, fl, main⟩
/-! ### all([..]) of truth values -/
theorem bls_inv {K : PySem.W.Frag} {T : Ct} : ∀ {bs : List Bool} {vs : List V}, Reps K T G (bs.map .bl) vs → vs = bs.map V.bl
  | [], _, h => by cases h; rfl
  | n :: ns, _, h => by
    cases h with
    | cons r rs => cases r; rw [bls_inv rs]; rfl
theorem xd_all {bs : List Bool} {p : Pos} (h : XD c X e st (.lst (bs.map .bl)) st1) (ht : bs.all id = t) (hc : X.calm = true) (hm : X.mg "all" = none) (hg : Gl X "all" := by rfl) (he : starEach (e :: []) X.env = (false, eval e X.env) :: starEach [] X.env := by rfl) (hpl : (backTo pos (starEach [] X.env)).any (·.1) = false := by rfl) :
    XD c X (.Call (.Name "all" p) [e] [] pos) st (.bl t) st1 :=
  xd_callB (xa_cons h xa_nil he) (cr_all hc) (fun G H vs Q ex r kk => by
    cases r with
    | cons r0 r1 =>
      cases r1
      obtain ⟨a, ws, rfl, hl, r⟩ := r0.lst_inv
      rw [bls_inv r] at hl
      exact ⟨a, bs, rfl, .inl (.inl (ex _ _ hl)), by rw [ht]; exact kv_same kk ex .bl⟩) hm (by decide +kernel) hg (by decide) (by decide) he hpl
end
end Dv
set_option autoImplicit false
set_option maxRecDepth 100000
namespace Dv
open PySem PySem.Spec PyProof.Rows L2
section
variable {c : Ctx} {X : Cx} {st st1 st2 s : Store} {e : Expr} {d : Dt} {sts : List Stmt} {pos : Pos} {o : Out} {t : Bool} {G G' H H' : Hp} {σ σ' : L2.St}
/-- what is known of a name is dropped -/
theorem En.drop (E : En c.K c.T c.pa G H σ st) (k : Nat) : En c.K c.T c.pa G H σ (st.set k none) where
  ex := E.ex
  sl := fun i s h => by
    rcases set_cases h with ⟨_, q, _⟩ | ⟨_, h⟩
    · cases q
    · exact E.sl i s h
  ds := fun i j s t a h1 h2 => by
    rcases set_cases h1 with ⟨_, q, _⟩ | ⟨_, h1⟩
    · cases q
    · rcases set_cases h2 with ⟨_, q, _⟩ | ⟨_, h2⟩
      · cases q
      · exact E.ds i j s t a h1 h2
  len := by rw [List.length_set]; exact E.len
theorem own_drop {k : Nat} {p : Addr} (h : own σ (st.set k none) p) : own σ st p := by
  obtain ⟨i, s, h1, h2, h3⟩ := h
  rcases set_cases h1 with ⟨_, q, _⟩ | ⟨_, h1⟩
  · cases q
  · exact ⟨i, s, h1, h2, h3⟩
theorem XS.drop (k : Nat) (h : XS c X sts st (.nx s)) : XS c X sts st (.nx (s.set k none)) :=
  ⟨pss_weak h.pss fun D σ H ⟨G, E, kk⟩ => ⟨G, E, fun σ1 G1 H1 g1 E1 => kk σ1 G1 H1 (g1.weakO fun p h => own_drop h) (E1.drop k)⟩⟩
theorem XP.drop {s1 : Stmt} (k : Nat) (h : XP c X s1 st (.nx s)) : XP c X s1 st (.nx (s.set k none)) :=
  ⟨ps_weak h.ps fun D σ H ⟨G, E, kk⟩ => ⟨G, E, fun σ1 G1 H1 g1 E1 => kk σ1 G1 H1 (g1.weakO fun p h => own_drop h) (E1.drop k)⟩⟩
/-- e is None -/
theorem xt_isN {p2 : Pos} {j : Nat} (h : XD c X e st d st1) (ht : (match d with | .non => true | _ => false) = t) : XT c X (.Compare e [.Is] [.Constant .none j p2] pos) st t st1 := by
  refine xt_cmp h xd_non op_isN (fun G H x y Q ex r1 r2 kk => ?_) (nomark _)
  cases r2
  refine ⟨rfl, ?_⟩
  have e1 : decide (x = V.non) = t := by
    rw [← ht]
    cases r1 <;> simp
  rw [e1]
  exact kv_same kk ex .bl
/-- a == b where both are the same plain data -/
theorem xd_eqP {a b : Expr} {k m : Nat} {p : PyData} (ha : XD c X a st d st1) (hb : XD c X b st1 d st2) (h : Pl k d p) (hk : k ≤ 64) (hK : X.K = c.K) (hr : Room m X.A) : XD c X (.Compare a [.Eq] [b] pos) st (.bl true) st2 := by
  have q := o_eqD (c := c) h.py h.py (h.shaped hk) (h.shaped hk)
  rw [h.self, ← hK] at q
  exact xd_cmp ha hb (op_eqD (by have := hr.un; omega)) q (nomark _)
theorem XD.to {d' : Dt} (h : XD c X e st d st1) (q : d = d') : XD c X e st d' st1 := q ▸ h
end
end Dv
set_option autoImplicit false
set_option maxRecDepth 100000
set_option maxHeartbeats 4000000
set_option exponentiation.threshold 100000
namespace My
open PySem PySem.Spec PyProof.Rows L2 Dv Mq
/-! ### vectors and matrices by functions -/
def rg (n : Nat) (F : Nat → Dt) : List Dt := (List.range n).map F
def dVc (n : Nat) (f : Nat → Rat) : Dt := .tup (rg n fun j => dR (f j))
def dLc (n : Nat) (f : Nat → Rat) : Dt := .lst (rg n fun j => dR (f j))
def dMx (h n : Nat) (g : Nat → Nat → Rat) : Dt := .obj 1 [.tup (rg h fun i => dVc n (g i)), .int n]
def sumTo (f : Nat → Rat) : Nat → Rat
  | 0 => 0
  | n + 1 => sumTo f n + f n
theorem rg_len (n : Nat) (F : Nat → Dt) : (rg n F).length = n := by unfold rg; simp
theorem rg_ext {n : Nat} {F G : Nat → Dt} (h : ∀ j, j < n → F j = G j) : rg n F = rg n G := by
  unfold rg
  exact List.map_congr_left fun j hj => h j (List.mem_range.mp hj)
theorem rg_get {w i : Nat} {g : Nat → Dt} {d : Dt} (h : (rg w g)[i]? = some d) : i < w ∧ d = g i := by
  unfold rg at h
  rw [List.getElem?_map] at h
  by_cases q : i < w
  · rw [List.getElem?_range q] at h; cases h; exact ⟨q, rfl⟩
  · rw [List.getElem?_eq_none (by simpa using q)] at h; cases h
theorem rg_at {w i : Nat} {g : Nat → Dt} (h : i < w) : (rg w g)[i]? = some (g i) := by
  unfold rg
  rw [List.getElem?_map, List.getElem?_range h]; rfl
theorem rg_zip {n : Nat} {F G : Nat → Dt} : List.zipWith (fun x y => Dt.tup [x, y]) (rg n F) (rg n G) = rg n fun i => .tup [F i, G i] := by
  unfold rg
  rw [List.zipWith_map_left, List.zipWith_map_right, List.zipWith_self]
theorem rep_one (n : Nat) (d : Dt) : (List.replicate (n : Int).toNat [d]).flatten = rg n fun _ => d := by
  have e : (n : Int).toNat = n := by omega
  rw [e, List.flatten_replicate_singleton]
  unfold rg
  rw [List.map_const', List.length_range]
theorem rg_snoc (n : Nat) (F : Nat → Dt) : rg n F ++ [F n] = rg (n + 1) F := by
  unfold rg
  rw [List.range_succ, List.map_append]; rfl
theorem sumTo_ext {f g : Nat → Rat} : ∀ {n : Nat}, (∀ i, i < n → f i = g i) → sumTo f n = sumTo g n
  | 0, _ => rfl
  | n + 1, h => by show sumTo f n + f n = sumTo g n + g n; rw [sumTo_ext (fun i hi => h i (by omega)), h n (by omega)]
theorem sz_sum {b : Nat} {f : Nat → Rat} (h : ∀ i, Sz b (f i)) : ∀ n, Sz (n * (b + 1) + 1) (sumTo f n)
  | 0 => Sz.zero (by omega)
  | n + 1 => by
    have q := (sz_sum h n).add (h n)
    exact q.mono (by rw [Nat.add_mul]; omega)
theorem vc_ext {n : Nat} {f g : Nat → Rat} (h : ∀ j, j < n → f j = g j) : dVc n f = dVc n g := by
  unfold dVc; rw [rg_ext fun j hj => by rw [h j hj]]
theorem mx_ext {h n : Nat} {f g : Nat → Nat → Rat} (e : ∀ i j, i < h → j < n → f i j = g i j) : dMx h n f = dMx h n g := by
  unfold dMx; rw [rg_ext fun i hi => vc_ext fun j hj => e i j hi hj]
section
variable {P : Program} {w : World} {K : PySem.W.Frag} {T : Ct} {mg : Str → Option Value} {base : Heap} {f CR CM : Addr} {fd : FuncData}
/-! ### combine -/
abbrev sComb : Stmt := topS 15
def RComb (ds : List Dt) (r : Dt) : Prop := ∃ (h n : Nat) (g : Nat → Nat → Rat) (y : Nat → Rat), ds = [.tup (rg h fun i => dVc n (g i)), .int n, dVc h y] ∧ h ≤ 5 ∧ n ≤ 5 ∧ (∀ i j, Sz 4 (g i j)) ∧ (∀ i, Sz 1111 (y i)) ∧
  r = dVc n fun j => sumTo (fun t => y t * g t j) h
abbrev nComb : List Str := ["rows", "width", "weights", "found", "row", "weight", "x", "y"]
theorem scComb : FnScope nComb ["rows", "width", "weights"] (defScope sComb) := ⟨rfl, rfl, rfl, by decide +kernel, rfl, by decide +kernel, by decide +kernel⟩
/-- the facts of Ratio's own defs -/
structure RF (P : Program) (w : World) (K : PySem.W.Frag) (T : Ct) (mg : Str → Option Value) (base : Heap) (CR : Addr) : Prop where
  i2 : IF' P w K T mg base 0 CR [] 1 RIn
  i1 : IF' P w K T mg base 0 CR [.int 1] 1 RIn
  add : MF P w K T mg base CR "__add__" 3 (RA2 (· + ·))
  addW : MF P w K T mg base CR "__add__" 3 RAW
  sub : MF P w K T mg base CR "__sub__" 3 (RA2 (· - ·))
  subW : MF P w K T mg base CR "__sub__" 3 RSW
  mul : MF P w K T mg base CR "__mul__" 3 (RA2 (· * ·))
  eq : MF P w K T mg base CR "__eq__" 1 RREq
  isz : MF P w K T mg base CR "is_zero" 1 RZe
  zero : DF P w K T mg base "zero" 3 (RC0 0)
  one : DF P w K T mg base "one" 3 (RC0 1)
theorem ok_comb (F : Fun K "combine" "combine" sComb f fd) (D : Md K T mg CR CM) (R : RF P w K T mg base CR) : FnOk P w K mg base CX0 6 f fd ["rows", "width", "weights"] (spD K T RComb) := by
  refine okD F scComb (fun ds r h => by obtain ⟨_, _, _, _, rfl, _⟩ := h; rfl) fun cdv A outer s H E pa ds r hr hR => ?_
  obtain ⟨h, n, g, y, rfl, hh, hn, hg, hy, rfl⟩ := hR
  have hr3 : Room 3 _ := hr.mono (by decide)
  have hr1 : Room 1 _ := hr.mono (by decide)
  have hsz : ∀ i, i ≤ 4 → ∀ j, Sz 4500 (sumTo (fun t => y t * g t j) i) := fun i hi j => (sz_sum (b := 1115) (fun t => (hy t).mul (hg t j)) i).mono (by omega)
  let ac : Nat → Nat → Rat := fun i j => sumTo (fun t => y t * g t j) i
  let S : Nat → Store := fun i => [some (.fr (.tup (rg h fun i => dVc n (g i)))), some (.fr (.int n)), some (.fr (dVc h y)), some (.fr (dLc n (ac i))), slot (fun i => dVc n (g i)) i, slot (fun i => dR (y i)) i, none, none]
  refine ⟨_, xs_cons (XP.to (s2 := S 0) (xp_set 3 scComb.nd (xd_rep (xd_lst (xa_cons (xd_df0 R.zero rfl hr3 ⟨rfl, rfl⟩) xa_nil) (by simp)) (xd_var 1) (by omega) (by omega) (by simp; omega))) (by rw [rep_one]; rfl))
    (xs_cons (XP.to (xp_forN S h (by rw [rg_zip, rg_len]) (xi_zip (κ1 := .t) (κ2 := .t) (xs := rg h fun i => dVc n (g i)) (ys := rg h fun i => dR (y i)) (xa_cons (xd_var 0) (xa_cons (xd_var 2) xa_nil)) .t .t rfl D.zip) ?_) rfl)
    (xs_one (xp_ret (xd_tuple (xd_var 3) (.inl rfl) rfl D.tup)))), .inl ⟨_, rfl⟩⟩
  intro i d hd
  rw [rg_zip] at hd
  obtain ⟨hi, rfl⟩ := rg_get hd
  have tg : XG ⟨K, T, pa⟩ (bX P w K mg base nComb "combine" sComb f cdv A outer s H E) (.Tuple [.Name "row" ⟨86, 8, 86, 11⟩, .Name "weight" ⟨86, 13, 86, 19⟩] 1 ⟨86, 8, 86, 19⟩) (.tup [dVc n (g i), dR (y i)]) (S i) (((S i).set 4 (some (.fr (dVc n (g i))))).set 5 (some (.fr (dR (y i))))) :=
    xg_tup (n := 2) rfl rfl (xgs_cons (xg_name 4 scComb.nd) (xgs_cons (xg_name 5 scComb.nd) xgs_nil)) rfl
  by_cases hz : (y i).num = 0
  · have z : y i = 0 := Rat.num_eq_zero.mp hz
    refine Turns.nx (xg_tup (n := 2) rfl rfl (xgs_cons (xg_name 4 scComb.nd) (xgs_cons (xg_name 5 scComb.nd) xgs_nil)) rfl)
      (xs_one (xp_if (xt_not (xt_val (xd_mf0 (xd_var 5) D.R R.isz rfl hr1 ⟨y i, rfl, rfl⟩))) (fun q => ?_) (fun _ => xs_nil))) ?_
    · rw [decide_eq_true hz] at q; cases q
    · have e : dLc n (ac (i + 1)) = dLc n (ac i) := by
        unfold dLc
        rw [rg_ext fun j hj => ?_]
        show dR (sumTo (fun t => y t * g t j) i + y i * g i j) = _
        rw [z, Rat.zero_mul, Rat.add_zero]
      show _ = [_, _, _, some (Sv.fr (dLc n (ac (i + 1)))), _, _, _, _]
      rw [e]; rfl
  · refine Turns.nx (xg_tup (n := 2) rfl rfl (xgs_cons (xg_name 4 scComb.nd) (xgs_cons (xg_name 5 scComb.nd) xgs_nil)) rfl)
      (xs_one (xp_if (xt_not (xt_val (xd_mf0 (xd_var 5) D.R R.isz rfl hr1 ⟨y i, rfl, rfl⟩))) (fun _ => xs_one (xp_map2 3 false 6 7 (rg n fun j => dR (ac (i + 1) j)) scComb.nd rfl rfl
        (xi_zip (κ1 := .l) (κ2 := .t) (xs := rg n fun j => dR (ac i j)) (ys := rg n fun j => dR (g i j)) (xa_cons (xd_var 3) (xa_cons (xd_var 4) xa_nil)) .l .t rfl D.zip) (by rw [rg_zip, rg_len, rg_len]) (by rw [rg_zip, rg_len]; omega) (by decide) rfl rfl ?_)) (fun q => ?_))) rfl
    · intro j d v h1 h2
      rw [rg_zip] at h1
      obtain ⟨hj, rfl⟩ := rg_get h1
      obtain ⟨_, rfl⟩ := rg_get h2
      refine ⟨_, _, rfl, fun sh H C cl fp => ?_⟩
      by_cases q0 : (g i j).num = 0
      · refine XD.to (xd_if (xt_eqI (xd_ff 0 (xd_var 7) D.R rfl D.Rn) xd_int (decide_eq_true q0)) (fun _ => xd_var 6) (fun z => nomatch z)) ?_
        show dR (ac i j) = dR (ac i j + y i * g i j)
        rw [Rat.num_eq_zero.mp q0, Rat.mul_zero, Rat.add_zero]
      · exact xd_if (xt_eqI (xd_ff 0 (xd_var 7) D.R rfl D.Rn) xd_int (decide_eq_false q0)) (fun z => nomatch z) (fun _ => xd_opF (op := .Add) (xd_var 6) (xd_opF (op := .Mult) (xd_var 5) (xd_var 7) D.R R.mul rfl hr3 D.Rf ⟨y i, g i j, rfl, (hy i).mono (by decide), (hg i j).mono (by decide), rfl⟩) D.R R.addW rfl hr3 D.Rf ⟨ac i j, y i * g i j, 4500, 1115, rfl, hsz i (by omega) j, (hy i).mul (hg i j), by decide, rfl⟩)
    · rw [decide_eq_false hz] at q; cases q
end
end My
set_option autoImplicit false
set_option maxRecDepth 100000
set_option maxHeartbeats 4000000
set_option exponentiation.threshold 100000
namespace My
open PySem PySem.Spec PyProof.Rows L2 Dv Mq
section
variable {P : Program} {w : World} {K : PySem.W.Frag} {T : Ct} {mg : Str → Option Value} {base : Heap} {f CR CM : Addr} {fd : FuncData}
abbrev sMI : Stmt := inClass cMat 0
abbrev sML : Stmt := inClass cMat 1
abbrev sME : Stmt := inClass cMat 3
abbrev sMA : Stmt := inClass cMat 4
abbrev sMS : Stmt := inClass cMat 5
abbrev sMM : Stmt := inClass cMat 6
abbrev sMT : Stmt := inClass cMat 7
abbrev sMC : Stmt := inClass cMat 9
abbrev sMB : Stmt := inClass cMat 10
/-- a list of rows, each a list or a tuple of items -/
def RMI (ds fs : List Dt) : Prop := ∃ (h n : Nat) (F : Nat → Dt) (xs : Nat → List Dt), ds = [.lst (rg h F), .int n] ∧ h ≤ 8 ∧ (∀ i, i < h → F i = .lst (xs i) ∨ F i = .tup (xs i)) ∧ fs = [.tup (rg h fun i => .tup (xs i)), .int n]
theorem scMI : FnScope ["self", "rows", "width", "row"] ["self", "rows", "width"] (defScope sMI) := ⟨rfl, rfl, rfl, by decide +kernel, rfl, by decide +kernel, by decide +kernel⟩
theorem ok_MI (F : Fun K "__init__" "Matrix.__init__" sMI f fd) (D : Md K T mg CR CM) : FnOk P w K mg base CX0 1 f fd ["self", "rows", "width"] (spI K T 1 RMI) := by
  refine okI F scMI D.M.at_ (fun ds fs h => by obtain ⟨_, _, _, _, rfl, _⟩ := h; rfl) (fun ds fs h => by obtain ⟨_, _, _, _, _, _, _, rfl⟩ := h; rfl) fun cdv A outer s H E pa ds fs hr hR => ?_
  obtain ⟨h, n, F, xs, rfl, hh, hF, rfl⟩ := hR
  have nd : (["rows", "width"] : List Str).Nodup := by decide +kernel
  refine ⟨_, xs_cons (xp_fldset (xd_tuple (xd_xl (xl_map1 3 (rg h fun i => .tup (xs i)) scMI.nd (xi_list rfl (xd_var 1)) (by rw [rg_len, rg_len]) (by rw [rg_len]; omega) rfl ?_)) (.inl rfl) rfl D.tup) D.M.at_ nd D.M.cl D.Mr rfl rfl)
    (xs_one (xp_fldset (xd_var 2) D.M.at_ nd D.M.cl D.Mw rfl rfl)), rfl⟩
  intro i d v h1 h2 sh H C cl fp
  obtain ⟨hi, rfl⟩ := rg_get h1
  obtain ⟨_, rfl⟩ := rg_get h2
  exact xd_tuple (xd_var 3) (hF i hi) rfl D.tup
/-- the same of a tuple of rows -/
def RMIT (ds fs : List Dt) : Prop := ∃ (h n : Nat) (F : Nat → Dt) (xs : Nat → List Dt), ds = [.tup (rg h F), .int n] ∧ h ≤ 8 ∧ (∀ i, i < h → F i = .lst (xs i) ∨ F i = .tup (xs i)) ∧ fs = [.tup (rg h fun i => .tup (xs i)), .int n]
theorem ok_MIT (F : Fun K "__init__" "Matrix.__init__" sMI f fd) (D : Md K T mg CR CM) : FnOk P w K mg base CX0 1 f fd ["self", "rows", "width"] (spI K T 1 RMIT) := by
  refine okI F scMI D.M.at_ (fun ds fs h => by obtain ⟨_, _, _, _, rfl, _⟩ := h; rfl) (fun ds fs h => by obtain ⟨_, _, _, _, _, _, _, rfl⟩ := h; rfl) fun cdv A outer s H E pa ds fs hr hR => ?_
  obtain ⟨h, n, F, xs, rfl, hh, hF, rfl⟩ := hR
  have nd : (["rows", "width"] : List Str).Nodup := by decide +kernel
  refine ⟨_, xs_cons (xp_fldset (xd_tuple (xd_xl (xl_map1 3 (rg h fun i => .tup (xs i)) scMI.nd (xi_tup rfl (xd_var 1)) (by rw [rg_len, rg_len]) (by rw [rg_len]; omega) rfl ?_)) (.inl rfl) rfl D.tup) D.M.at_ nd D.M.cl D.Mr rfl rfl)
    (xs_one (xp_fldset (xd_var 2) D.M.at_ nd D.M.cl D.Mw rfl rfl)), rfl⟩
  intro i d v h1 h2 sh H C cl fp
  obtain ⟨hi, rfl⟩ := rg_get h1
  obtain ⟨_, rfl⟩ := rg_get h2
  exact xd_tuple (xd_var 3) (hF i hi) rfl D.tup
/-- the facts of Matrix's __init__ -/
abbrev MIn (P : Program) (w : World) (K : PySem.W.Frag) (T : Ct) (mg : Str → Option Value) (base : Heap) (CM : Addr) := IF' P w K T mg base 1 CM [] 1 RMI
def RLen (ds : List Dt) (r : Dt) : Prop := ∃ (h n : Nat) (g : Nat → Nat → Rat), ds = [dMx h n g] ∧ r = .int h
theorem scML : FnScope ["self"] ["self"] (defScope sML) := ⟨rfl, rfl, rfl, by decide +kernel, rfl, by decide +kernel, by decide +kernel⟩
theorem ok_ML (F : Fun K "__len__" "Matrix.__len__" sML f fd) (D : Md K T mg CR CM) : FnOk P w K mg base CX0 1 f fd ["self"] (spD K T RLen) := by
  refine okD F scML (fun ds r h => by obtain ⟨_, _, _, rfl, _⟩ := h; rfl) fun cdv A outer s H E pa ds r hr hR => ?_
  obtain ⟨h, n, g, rfl, rfl⟩ := hR
  have e : (h : Int) = ((rg h fun i => dVc n (g i)).length : Int) := by rw [rg_len]
  rw [e]
  exact ⟨_, xs_one (xp_ret (xd_len (xd_ff 0 (xd_var 0) D.M rfl D.Mr) (.inr (.inr rfl)) rfl D.len)), .inl ⟨_, rfl⟩⟩
end
end My
set_option autoImplicit false
set_option maxRecDepth 100000
set_option maxHeartbeats 4000000
set_option exponentiation.threshold 100000
namespace My
open PySem PySem.Spec PyProof.Rows L2 Dv Mq
section
variable {P : Program} {w : World} {K : PySem.W.Frag} {T : Ct} {mg : Str → Option Value} {base : Heap} {f CR CM : Addr} {fd : FuncData}
abbrev sRN : Stmt := inClass cRat 4
abbrev sRV : Stmt := inClass cRat 7
def RRN (ds : List Dt) (r : Dt) : Prop := ∃ (a : Rat), ds = [dR a] ∧ Sz 4000 a ∧ r = dR (-a)
theorem scRN : FnScope ["self"] ["self"] (defScope sRN) := ⟨rfl, rfl, rfl, by decide +kernel, rfl, by decide +kernel, by decide +kernel⟩
theorem scRV : FnScope ["self"] ["self"] (defScope sRV) := ⟨rfl, rfl, rfl, by decide +kernel, rfl, by decide +kernel, by decide +kernel⟩
theorem ok_RN (F : Fun K "__neg__" "Ratio.__neg__" sRN f fd) (D : Md K T mg CR CM) (I : IF' P w K T mg base 0 CR [] 1 RIn) : FnOk P w K mg base CX0 3 f fd ["self"] (spD K T RRN) := by
  refine okD F scRN (fun ds r h => by obtain ⟨_, rfl, _⟩ := h; rfl) fun cdv A outer s H E pa ds r hr hR => ?_
  obtain ⟨a, rfl, ha, er⟩ := hR
  have e : -a = Rat.divInt (-a.num) a.den := by rw [← Rat.neg_divInt, self_q]
  rw [e] at er
  subst er
  exact ⟨_, xs_one (xp_ret (xd_mk D.R I rfl hr (xa_cons (xd_neg (xd_ff 0 (xd_var 0) D.R rfl D.Rn)) (xa_cons (xd_ff 1 (xd_var 0) D.R rfl D.Rd) xa_nil)) (rin (den_ne a) (log2_lt (den_ne a) ha.2 (by decide))))), .inl ⟨_, rfl⟩⟩
def RRV (ds : List Dt) (r : Dt) : Prop := ∃ (a : Rat), ds = [dR a] ∧ Sz 4000 a ∧ a ≠ 0 ∧ r = dR a⁻¹
theorem inv_q (a : Rat) : a⁻¹ = Rat.divInt a.den a.num := by rw [← Rat.inv_divInt, self_q]
theorem sz_inv {k : Nat} {a : Rat} (h : Sz k a) (h0 : a ≠ 0) : Sz k a⁻¹ := by
  rw [inv_q]
  exact divInt_sz (fun z => h0 (Rat.num_eq_zero.mp z)) h.2 h.1
theorem ok_RV (F : Fun K "inverse" "Ratio.inverse" sRV f fd) (D : Md K T mg CR CM) (I : IF' P w K T mg base 0 CR [] 1 RIn) : FnOk P w K mg base CX0 3 f fd ["self"] (spD K T RRV) := by
  refine okD F scRV (fun ds r h => by obtain ⟨_, rfl, _⟩ := h; rfl) fun cdv A outer s H E pa ds r hr hR => ?_
  obtain ⟨a, rfl, ha, h0, er⟩ := hR
  rw [inv_q] at er
  subst er
  have hn : a.num ≠ 0 := fun z => h0 (Rat.num_eq_zero.mp z)
  exact ⟨_, xs_one (xp_ret (xd_mk D.R I rfl hr (xa_cons (xd_ff 1 (xd_var 0) D.R rfl D.Rd) (xa_cons (xd_ff 0 (xd_var 0) D.R rfl D.Rn) xa_nil)) (rin hn (log2_lt hn ha.1 (by decide))))), .inl ⟨_, rfl⟩⟩
end
end My
set_option autoImplicit false
set_option maxRecDepth 100000
set_option maxHeartbeats 4000000
set_option exponentiation.threshold 100000
namespace My
open PySem PySem.Spec PyProof.Rows L2 Dv Mq
def dPv (n : Nat) (f : Nat → Rat) : Dt := .tup (rg n fun j => dP (f j))
theorem pl_dP {k : Nat} (q : Rat) : Pl (k + 1) (dP q) (.tuple [.int q.num, .int q.den]) := pl_tup (pll_cons pl_int (pll_cons pl_int pll_nil))
theorem pl_dPv {k n : Nat} (f : Nat → Rat) : Pl (k + 2) (dPv n f) (.tuple ((List.range n).map fun j => .tuple [.int (f j).num, .int (f j).den])) := pl_tup (pll_map (fun j => pl_dP (f j)) _)
theorem pl_rows {k h n : Nat} (g : Nat → Nat → Rat) : Pl (k + 3) (.lst (rg h fun i => dPv n (g i))) (.list ((List.range h).map fun i => .tuple ((List.range n).map fun j => .tuple [.int (g i j).num, .int (g i j).den]))) := pl_lst (pll_map (fun i => pl_dPv (g i)) _)
section
variable {P : Program} {w : World} {K : PySem.W.Frag} {T : Ct} {mg : Str → Option Value} {base : Heap} {f CR CM : Addr} {fd : FuncData}
abbrev sIsI : Stmt := topS 28
abbrev sPair : Stmt := topS 29
abbrev sPairs : Stmt := topS 30
abbrev sRatios : Stmt := topS 31
def RIsI (ds : List Dt) (r : Dt) : Prop := ∃ i : Int, ds = [.int i] ∧ r = .bl true
theorem scIsI : FnScope ["value"] ["value"] (defScope sIsI) := ⟨rfl, rfl, rfl, by decide +kernel, rfl, by decide +kernel, by decide +kernel⟩
theorem ok_isI (F : Fun K "_law_is_integer" "_law_is_integer" sIsI f fd) (D : Md K T mg CR CM) : FnOk P w K mg base CX0 1 f fd ["value"] (spD K T RIsI) := by
  refine okD F scIsI (fun ds r h => by obtain ⟨_, rfl, _⟩ := h; rfl) fun cdv A outer s H E pa ds r hr hR => ?_
  obtain ⟨i, rfl, rfl⟩ := hR
  exact ⟨_, xs_one (xp_ret (xd_and (u := true) (xd_isTy (id := "int") (xd_var 0) .int rfl D.isi D.int (by decide +kernel) rfl) fun _ => xd_one (xd_not (t := false) (xd_isTy (id := "bool") (xd_var 0) .int rfl D.isi D.bool (by decide +kernel) rfl)))), .inl ⟨_, rfl⟩⟩
def RPair (ds : List Dt) (r : Dt) : Prop := ∃ q : Rat, ds = [dR q] ∧ r = dP q
theorem scPair : FnScope ["value"] ["value"] (defScope sPair) := ⟨rfl, rfl, rfl, by decide +kernel, rfl, by decide +kernel, by decide +kernel⟩
theorem ok_pair (F : Fun K "_law_pair" "_law_pair" sPair f fd) (D : Md K T mg CR CM) (Di : DF P w K T mg base "_law_is_integer" 1 RIsI) (Dg : DF P w K T mg base "_law_gcd" 1 RGcd) : FnOk P w K mg base CX0 2 f fd ["value"] (spD K T RPair) := by
  refine okD F scPair (fun ds r h => by obtain ⟨_, rfl, _⟩ := h; rfl) fun cdv A outer s H E pa ds r hr hR => ?_
  obtain ⟨q, rfl, rfl⟩ := hR
  have e1 : decide ((q.den : Int) < 1) = false := decide_eq_false (by have := q.den_nz; omega)
  have e2 : (!decide (((Nat.gcd q.num.natAbs ((q.den : Int)).natAbs : Nat) : Int) = 1)) = false := by
    have : Nat.gcd q.num.natAbs q.den = 1 := q.reduced
    rw [den_abs, this]; rfl
  exact ⟨_, xs_cons (xp_if (tb := false) (xw_pt (xw_orF (xt_not (t := true) (xt_val (xd_isOwn (xd_var 0) D.R D.RX rfl D.isi))) (xw_orF (xt_not (t := true) (xt_val (xd_df Di rfl hr (xa_cons (xd_ff 0 (xd_var 0) D.R rfl D.Rn) xa_nil) ⟨_, rfl, rfl⟩))) (xw_or1 (xt_not (t := true) (xt_val (xd_df Di rfl hr (xa_cons (xd_ff 1 (xd_var 0) D.R rfl D.Rd) xa_nil) ⟨_, rfl, rfl⟩)))))))
      (fun z => nomatch z) (fun _ => xs_nil))
    (xs_cons (xp_if (tb := false) (xw_pt (xw_orF (xt_lt (xd_ff 1 (xd_var 0) D.R rfl D.Rd) xd_int e1) (xw_or1 (xt_neI (xd_df Dg rfl hr (xa_cons (xd_ff 0 (xd_var 0) D.R rfl D.Rn) (xa_cons (xd_ff 1 (xd_var 0) D.R rfl D.Rd) xa_nil)) ⟨_, _, rfl, rfl⟩) xd_int e2))))
      (fun z => nomatch z) (fun _ => xs_nil))
    (xs_one (xp_ret (xd_tup (xa_cons (xd_ff 0 (xd_var 0) D.R rfl D.Rn) (xa_cons (xd_ff 1 (xd_var 0) D.R rfl D.Rd) xa_nil)) (by simp))))), .inl ⟨_, rfl⟩⟩
def RPairs (ds : List Dt) (r : Dt) : Prop := ∃ (n : Nat) (f : Nat → Rat), ds = [dVc n f, .int n] ∧ n ≤ 8 ∧ r = dPv n f
abbrev nPairs : List Str := ["values", "size", "out", "value"]
theorem scPairs : FnScope nPairs ["values", "size"] (defScope sPairs) := ⟨rfl, rfl, rfl, by decide +kernel, rfl, by decide +kernel, by decide +kernel⟩
theorem ok_pairs (F : Fun K "_law_pairs" "_law_pairs" sPairs f fd) (D : Md K T mg CR CM) (Dp : DF P w K T mg base "_law_pair" 2 RPair) : FnOk P w K mg base CX0 3 f fd ["values", "size"] (spD K T RPairs) := by
  refine okD F scPairs (fun ds r h => by obtain ⟨_, _, rfl, _⟩ := h; rfl) fun cdv A outer s H E pa ds r hr hR => ?_
  obtain ⟨n, g, rfl, hn, rfl⟩ := hR
  have e1 : (!decide (((rg n fun j => dR (g j)).length : Int) = n)) = false := by rw [rg_len, decide_eq_true rfl]; rfl
  refine ⟨_, xs_cons (xp_if (tb := false) (xw_pt (xw_orF (xt_not (t := true) (xt_val (xd_isTy (id := "tuple") (xd_var 0) .tup rfl D.isi D.tup (by decide +kernel) rfl))) (xw_or1 (xt_neI (xd_len (xd_var 0) (.inr (.inr rfl)) rfl D.len) (xd_var 1) e1)))) (fun z => nomatch z) (fun _ => xs_nil))
    (xs_cons (xp_map1 2 false 3 (rg n fun j => dP (g j)) scPairs.nd (xi_tup rfl (xd_var 0)) (by rw [rg_len, rg_len]) (by rw [rg_len]; omega) rfl ?_)
    (xs_one (xp_ret (xd_if (tb := false) (xt_inP (k := 3) xd_non (xd_var 2) pl_non (pl_lst (pll_map (fun j => pl_dP (g j)) _)) (by decide) ?_ rfl hr) (fun z => nomatch z) (fun _ => xd_tuple (xd_var 2) (.inl rfl) rfl D.tup))))), .inl ⟨_, rfl⟩⟩
  · intro j d v h1 h2 sh H C cl fp
    obtain ⟨hj, rfl⟩ := rg_get h1
    obtain ⟨_, rfl⟩ := rg_get h2
    exact xd_df Dp rfl hr (xa_cons (xd_var 3) xa_nil) ⟨g j, rfl, rfl⟩
  · rw [List.any_map]
    apply List.any_eq_false.mpr
    intro j _
    intro z
    have := PyData.eqv.eq_38 [.int (g j).num, .int (g j).den]
    rw [show ((fun z => PyData.eqv z .none) ∘ fun j => PyData.tuple [.int (g j).num, .int (g j).den]) j = PyData.eqv (.tuple [.int (g j).num, .int (g j).den]) .none from rfl, this] at z
    cases z
/-- pairs, in a tuple or a list -/
def RRatios (ds : List Dt) (r : Dt) : Prop := ∃ (n : Nat) (f : Nat → Rat) (d : Dt), ds = [d] ∧ (d = dPv n f ∨ d = .lst (rg n fun j => dP (f j))) ∧ n ≤ 8 ∧ (∀ j, j < n → Sz 4000 (f j)) ∧ r = dVc n f
theorem scRatios : FnScope ["row", "q"] ["row"] (defScope sRatios) := ⟨rfl, rfl, rfl, by decide +kernel, rfl, by decide +kernel, by decide +kernel⟩
theorem xi_tl {c : Dv.Ctx} {X : Cx} {tg e : PySem.Expr} {st st1 : Store} {d : Dt} {ds : List Dt} (hK : X.K = c.K) (h : XD c X e st d st1) (hd : d = .tup ds ∨ d = .lst ds) : XI c X tg e st ds st1 := by
  rcases hd with rfl | rfl
  · exact xi_tup hK h
  · exact xi_list hK h
theorem mkq {q : Rat} (h : Sz 4000 q) : RIn [.int q.num, .int q.den] [.int q.num, .int q.den] := by
  have hl : ((q.den : Int)).natAbs.log2 < 9000 := log2_lt (den_ne q) h.2 (by decide)
  have r := rin (n := q.num) (den_ne q) hl
  rw [self_q] at r
  exact r
theorem ok_ratios (F : Fun K "_law_ratios" "_law_ratios" sRatios f fd) (D : Md K T mg CR CM) (R : RF P w K T mg base CR) : FnOk P w K mg base CX0 3 f fd ["row"] (spD K T RRatios) := by
  refine okD F scRatios (fun ds r h => by obtain ⟨_, _, _, rfl, _⟩ := h; rfl) fun cdv A outer s H E pa ds r hr hR => ?_
  obtain ⟨n, g, d, rfl, hd, hn, hg, rfl⟩ := hR
  refine ⟨_, xs_one (xp_ret (xd_tuple (xd_xl (xl_map1 1 (rg n fun j => dR (g j)) scRatios.nd (xi_tl (ds := rg n fun j => dP (g j)) rfl (xd_var 0) hd) (by rw [rg_len, rg_len]) (by rw [rg_len]; omega) rfl ?_)) (.inl rfl) rfl D.tup)), .inl ⟨_, rfl⟩⟩
  intro j d v h1 h2 sh H C cl fp
  obtain ⟨hj, rfl⟩ := rg_get h1
  obtain ⟨_, rfl⟩ := rg_get h2
  exact xd_mk D.R R.i2 rfl hr (xa_cons (xd_ixT (m := 0) (xd_var 1) xd_int rfl rfl rfl) (xa_cons (xd_ixT (m := 1) (xd_var 1) xd_int rfl rfl rfl) xa_nil)) (mkq (hg j hj))
end
end My
set_option autoImplicit false
set_option maxRecDepth 100000
set_option maxHeartbeats 4000000
set_option exponentiation.threshold 100000
namespace My
open PySem PySem.Spec PyProof.Rows L2 Dv Mq
section
variable {P : Program} {w : World} {K : PySem.W.Frag} {T : Ct} {mg : Str → Option Value} {base : Heap} {f CR CM : Addr} {fd : FuncData}
abbrev sMat : Stmt := topS 33
abbrev sLComb : Stmt := topS 35
abbrev sToM : Stmt := topS 39
abbrev sItems : Stmt := topS 9999
/-! ### the matrices that the law draws -/
def dr (ns : List Int) (at_ : Int) (t : Nat) : Int := drawL ns at_ 95 t
def nval (ns : List Int) (at_ : Int) (t : Nat) : Int := if (dr ns at_ (2 + 2 * t) + dr ns at_ 0) % 3 = 0 then 9 else dr ns at_ (2 + 2 * t)
def ent0 (ns : List Int) (at_ : Int) (n : Nat) (i j : Nat) : Rat := small (nval ns at_ (i * n + j)) (dr ns at_ (3 + 2 * (i * n + j)))
def ent (ns : List Int) (at_ : Int) (h n : Nat) (i j : Nat) : Rat := if 1 < h ∧ dr ns at_ 1 % 3 = 0 ∧ i = h - 1 then ent0 ns at_ n 0 j else ent0 ns at_ n i j
theorem sz_ent (ns : List Int) (at_ : Int) (h n i j : Nat) : Sz 4 (ent ns at_ h n i j) := by unfold ent; split <;> exact small_sz _ _
def RMat (ds : List Dt) (r : Dt) : Prop := ∃ (ns : List Int) (at_ : Int) (h n : Nat), ds = [.ro (dInts ns), .int at_, .int h, .int n] ∧ 0 ≤ at_ ∧ at_ < 1000 ∧ h ≤ 8 ∧ n ≤ 8 ∧ r = .tup (rg h fun i => dPv n (ent ns at_ h n i))
abbrev nMat : List Str := ["script", "at", "rows", "width", "row", "out", "k", "line", "j", "n", "d"]
theorem scMat : FnScope nMat ["script", "at", "rows", "width"] (defScope sMat) := ⟨rfl, rfl, rfl, by decide +kernel, rfl, by decide +kernel, by decide +kernel⟩
/-- a list of one's own in a loop's place: unset ahead of the first turn -/
def slotO (g : Nat → List Dt) : Nat → Option Sv
  | 0 => none
  | i + 1 => some (.ow (g i))
theorem ok_mat (F : Fun K "_law_matrix" "_law_matrix" sMat f fd) (D : Md K T mg CR CM) (Dd : DF P w K T mg base "_law_draws" 3 RDraws) (Ds : DF P w K T mg base "_law_small" 3 RSmall) : FnOk P w K mg base CX0 4 f fd ["script", "at", "rows", "width"] (spD K T RMat) := by
  refine okD F scMat (fun ds r h => by obtain ⟨_, _, _, _, rfl, _⟩ := h; rfl) fun cdv A outer s H E pa ds r hr hR => ?_
  obtain ⟨ns, at_, h, n, rfl, ha, ha', hh, hn, rfl⟩ := hR
  have hhn : h * n ≤ 64 := Nat.le_trans (Nat.mul_le_mul hh hn) (by decide)
  have ec : (2 * (h : Int) * n + 2) = ((2 * (h * n) + 2 : Nat) : Int) := by
    rw [Int.mul_assoc, ← Int.natCast_mul]; omega
  have hd : ∀ t, t < 2 * (h * n) + 2 → (dInts (draws ns at_ (2 * (h * n) + 2) 95))[t]? = some (.int (dr ns at_ t)) := fun t ht => draws_get ht
  generalize hL : dInts (draws ns at_ (2 * (h * n) + 2) 95) = L at hd
  have m64 : ∀ i : Int, IntMulOk 2 i := fun i => IntMulOk.of_left (bits64 (by decide) (by decide))
  have mk64 : ∀ i : Nat, i ≤ 8 → ∀ j : Int, IntMulOk i j := fun i hi j => IntMulOk.of_left (bits64 (by omega) (by omega))
  -- the outer turns
  let row : Nat → Dt := fun i => .tup (rg n fun j => dP (ent0 ns at_ n i j))
  let S : Nat → Store := fun i => [some (.fr (.ro (dInts ns))), some (.fr (.int at_)), some (.fr (.int h)), some (.fr (.int n)), some (.fr (.lst L)), some (.ow (rg i row)), slot (fun i => .int i) i, slotO (fun i => rg n fun j => dP (ent0 ns at_ n i j)) i,
    slot (fun t => .int (t % n : Nat)) (i * n), slot (fun t => .int (nval ns at_ t)) (i * n), slot (fun t => .int (dr ns at_ (3 + 2 * t))) (i * n)]
  let U : Nat → Nat → Store := fun i j => [some (.fr (.ro (dInts ns))), some (.fr (.int at_)), some (.fr (.int h)), some (.fr (.int n)), some (.fr (.lst L)), some (.ow (rg i row)), some (.fr (.int i)), some (.ow (rg j fun j => dP (ent0 ns at_ n i j))),
    slot (fun t => .int (t % n : Nat)) (i * n + j), slot (fun t => .int (nval ns at_ t)) (i * n + j), slot (fun t => .int (dr ns at_ (3 + 2 * t))) (i * n + j)]
  have e0 : (0 : Nat) * n = 0 := Nat.zero_mul n
  have eS : ∀ i, U i n = (S (i + 1)).set 5 (some (.ow (rg i row))) := fun i => by
    have e : i * n + n = (i + 1) * n := (Nat.succ_mul i n).symm
    show [_, _, _, _, _, _, _, _, slot _ (i * n + n), slot _ (i * n + n), slot _ (i * n + n)] = [_, _, _, _, _, _, _, _, slot _ ((i + 1) * n), slot _ ((i + 1) * n), slot _ ((i + 1) * n)]
    rw [e]; rfl
  have e1 : decide ((1 : Int) < h) = decide (1 < h) := by
    by_cases q : 1 < h
    · rw [decide_eq_true q, decide_eq_true (by omega)]
    · rw [decide_eq_false q, decide_eq_false (by omega)]
  have pre : ∀ o, XS ⟨K, T, pa⟩ (bX P w K mg base nMat "_law_matrix" sMat f cdv A outer s H E) ((defBody sMat).drop 3) (S h) o → XS ⟨K, T, pa⟩ (bX P w K mg base nMat "_law_matrix" sMat f cdv A outer s H E) (defBody sMat) (st0 nMat [.ro (dInts ns), .int at_, .int h, .int n]) o := fun o hrest => by
    refine xs_cons (xp_set 4 scMat.nd (xd_df Dd rfl (hr.mono (by decide)) (xa_cons (xd_var 0) (xa_cons (xd_var 1) (xa_cons (xd_add (xd_mul (xd_mul xd_int (xd_var 2) (m64 _)) (xd_var 3) (IntMulOk.of_right (bits64 (by omega) (by omega)))) xd_int) (xa_cons xd_int xa_nil)))) ⟨ns, at_, 2 * (h * n) + 2, 95, by rw [ec], ha, ha', by omega, by decide, by decide, rfl⟩))
      (xs_cons (XP.to (s2 := S 0) (xp_setOw 5 scMat.nd (xl_lst xa_nil (by decide))) (by show _ = [_, _, _, _, _, _, _, _, slot _ (0 * n), slot _ (0 * n), slot _ (0 * n)]; rw [e0, hL]; rfl))
      (xs_cons (XP.to (s2 := S h) (xp_forN S h (by simp) (xi_range1 (n := (h : Int)) (xd_var 2) (by omega) (by omega) D.ran) ?turn) rfl)
      hrest))
    case turn =>
      intro i d hd'
      obtain ⟨hi, rfl⟩ := rng_get (n := h) (by simpa using hd')
      refine Turns.nx (xg_name 6 scMat.nd) (xs_cons (XP.to (s2 := U i 0) (xp_setOw 7 scMat.nd (xl_lst xa_nil (by decide))) rfl)
        (xs_cons (xp_forN (U i) n (by simp) (xi_range1 (n := (n : Int)) (xd_var 3) (by omega) (by omega) D.ran) ?_)
        (xs_one (xp_append 5 (xd_tupleO 7 (s := .ow (rg n fun j => dP (ent0 ns at_ n i j))) rfl .ow D.tup) rfl rfl rfl .ow (by rw [rg_len]; omega))))) ?_
      · intro j d hd'
        obtain ⟨hj, rfl⟩ := rng_get (n := n) (by simpa using hd')
        have hlt : i * n + j < h * n := by
          have q : (i + 1) * n ≤ h * n := Nat.mul_le_mul_right n hi
          rw [Nat.succ_mul] at q; omega
        have ek : ((i : Int) * n + j) = ((i * n + j : Nat) : Int) := by rw [Int.natCast_add, Int.natCast_mul]
        have hm : IntMulOk (i : Int) n := mk64 i (by omega) n
        have emod : (i * n + j) % n = j := by rw [Nat.mul_comm, Nat.mul_add_mod]; exact Nat.mod_eq_of_lt hj
        have h1 := hd (2 + 2 * (i * n + j)) (by omega)
        have h2 := hd (3 + 2 * (i * n + j)) (by omega)
        have h0 := hd 0 (by omega)
        have ix1 : (2 : Int) + 2 * ((i : Int) * n + j) = ((2 + 2 * (i * n + j) : Nat) : Int) := by rw [ek]; omega
        have ix2 : (3 : Int) + 2 * ((i : Int) * n + j) = ((3 + 2 * (i * n + j) : Nat) : Int) := by rw [ek]; omega
        by_cases hq : (dr ns at_ (2 + 2 * (i * n + j)) + dr ns at_ 0) % 3 = 0
        · refine Turns.nx (xg_name 8 scMat.nd) (xs_cons (xp_set 9 scMat.nd (xd_ixL (xd_var 4) (xd_add xd_int (xd_mul xd_int (xd_add (xd_mul (xd_var 6) (xd_var 3) hm) (xd_var 8)) (m64 _))) ix1 h1 rfl))
            (xs_cons (xp_set 10 scMat.nd (xd_ixL (xd_var 4) (xd_add xd_int (xd_mul xd_int (xd_add (xd_mul (xd_var 6) (xd_var 3) hm) (xd_var 8)) (m64 _))) ix2 h2 rfl))
            (xs_cons (xp_if (xt_eqI (xd_mod (xd_add (xd_var 9) (xd_ixL (m := 0) (xd_var 4) xd_int rfl h0 rfl)) xd_int (by decide)) xd_int (decide_eq_true hq)) (fun _ => xs_one (xp_set 9 scMat.nd xd_int)) (fun z => nomatch z))
            (xs_one (xp_append 7 (xd_df Ds rfl hr (xa_cons (xd_var 9) (xa_cons (xd_var 10) xa_nil)) ⟨_, _, rfl, rfl⟩) rfl rfl rfl .ow (by rw [rg_len]; omega)))))) ?_
          have en : nval ns at_ (i * n + j) = 9 := if_pos hq
          show [_, _, _, _, _, _, _, some (Sv.ow (rg j _ ++ [dP (small 9 (dr ns at_ (3 + 2 * (i * n + j))))])), _, _, _] = [_, _, _, _, _, _, _, some (Sv.ow (rg (j + 1) _)), some (Sv.fr (.int (((i * n + j) % n : Nat) : Int))), some (Sv.fr (.int (nval ns at_ (i * n + j)))), _]
          rw [← rg_snoc, emod]
          unfold ent0
          rw [en]; rfl
        · refine Turns.nx (xg_name 8 scMat.nd) (xs_cons (xp_set 9 scMat.nd (xd_ixL (xd_var 4) (xd_add xd_int (xd_mul xd_int (xd_add (xd_mul (xd_var 6) (xd_var 3) hm) (xd_var 8)) (m64 _))) ix1 h1 rfl))
            (xs_cons (xp_set 10 scMat.nd (xd_ixL (xd_var 4) (xd_add xd_int (xd_mul xd_int (xd_add (xd_mul (xd_var 6) (xd_var 3) hm) (xd_var 8)) (m64 _))) ix2 h2 rfl))
            (xs_cons (xp_if (xt_eqI (xd_mod (xd_add (xd_var 9) (xd_ixL (m := 0) (xd_var 4) xd_int rfl h0 rfl)) xd_int (by decide)) xd_int (decide_eq_false hq)) (fun z => nomatch z) (fun _ => xs_nil))
            (xs_one (xp_append 7 (xd_df Ds rfl hr (xa_cons (xd_var 9) (xa_cons (xd_var 10) xa_nil)) ⟨_, _, rfl, rfl⟩) rfl rfl rfl .ow (by rw [rg_len]; omega)))))) ?_
          have en : nval ns at_ (i * n + j) = dr ns at_ (2 + 2 * (i * n + j)) := if_neg hq
          show [_, _, _, _, _, _, _, some (Sv.ow (rg j _ ++ [dP (small (dr ns at_ (2 + 2 * (i * n + j))) (dr ns at_ (3 + 2 * (i * n + j))))])), _, _, _] = [_, _, _, _, _, _, _, some (Sv.ow (rg (j + 1) _)), some (Sv.fr (.int (((i * n + j) % n : Nat) : Int))), some (Sv.fr (.int (nval ns at_ (i * n + j)))), _]
          rw [← rg_snoc, emod]
          unfold ent0
          rw [en]; rfl
      · rw [eS i]
        show _ = [_, _, _, _, _, some (Sv.ow (rg (i + 1) row)), _, _, _, _, _]
        rw [← rg_snoc]; rfl
  have h0 := hd 0 (by omega)
  have h1 := hd 1 (by omega)
  by_cases hq : 1 < h ∧ dr ns at_ 1 % 3 = 0
  · have er : (rg h row).set (h - 1) (row 0) = rg h fun i => dPv n (ent ns at_ h n i) := by
      apply List.ext_getElem?
      intro k
      by_cases hk : k < h
      · rw [rg_at hk]
        by_cases q : h - 1 = k
        · subst q
          rw [List.getElem?_set_self (by rw [rg_len]; exact hk)]
          show some (Dt.tup _) = some (Dt.tup _)
          rw [rg_ext fun j hj => ?_]
          unfold ent
          rw [if_pos ⟨hq.1, hq.2, rfl⟩]
        · rw [List.getElem?_set_ne q, rg_at hk]
          show some (Dt.tup _) = some (Dt.tup _)
          rw [rg_ext fun j hj => ?_]
          unfold ent
          rw [if_neg (fun z => q z.2.2.symm)]
      · rw [List.getElem?_eq_none (by rw [List.length_set, rg_len]; omega), List.getElem?_eq_none (by rw [rg_len]; omega)]
    rw [← er]
    refine ⟨_, pre _ (xs_cons (xp_if (tb := true) (xw_pt (xw_andT (xt_gt (xd_var 2) xd_int (by rw [e1]; exact decide_eq_true hq.1)) (xw_and1 (xt_eqI (xd_mod (xd_ixL (m := 1) (xd_var 4) xd_int rfl h1 rfl) xd_int (by decide)) xd_int (decide_eq_true hq.2)))))
      (fun _ => xs_one (xp_setI 5 (m := h - 1) (s := .ow (rg h row)) (xd_ixO 5 (m := 0) (s := .ow (rg h row)) xd_int rfl rfl .ow rfl (rg_at (by omega))) (xd_sub (xd_var 2) xd_int) rfl rfl .ow (by omega) (by rw [rg_len]; omega))) (fun z => nomatch z))
      (xs_one (xp_ret (xd_tupleO 5 (s := .ow ((rg h row).set (h - 1) (row 0))) rfl .ow D.tup)))), .inl ⟨_, rfl⟩⟩
  · have er : rg h row = rg h fun i => dPv n (ent ns at_ h n i) := by
      refine rg_ext fun i hi => ?_
      show Dt.tup _ = Dt.tup _
      rw [rg_ext fun j hj => ?_]
      unfold ent
      rw [if_neg (fun z => hq ⟨z.1, z.2.1⟩)]
    rw [← er]
    by_cases q1 : 1 < h
    · have q2 : ¬ dr ns at_ 1 % 3 = 0 := fun z => hq ⟨q1, z⟩
      exact ⟨_, pre _ (xs_cons (xp_if (tb := false) (xw_pt (xw_andT (xt_gt (xd_var 2) xd_int (by rw [e1]; exact decide_eq_true q1)) (xw_and1 (xt_eqI (xd_mod (xd_ixL (m := 1) (xd_var 4) xd_int rfl h1 rfl) xd_int (by decide)) xd_int (decide_eq_false q2)))))
        (fun z => nomatch z) (fun _ => xs_nil)) (xs_one (xp_ret (xd_tupleO 5 (s := .ow (rg h row)) rfl .ow D.tup)))), .inl ⟨_, rfl⟩⟩
    · exact ⟨_, pre _ (xs_cons (xp_if (tb := false) (xw_pt (xw_andF (xt_gt (xd_var 2) xd_int (by rw [e1]; exact decide_eq_false q1))))
        (fun z => nomatch z) (fun _ => xs_nil)) (xs_one (xp_ret (xd_tupleO 5 (s := .ow (rg h row)) rfl .ow D.tup)))), .inl ⟨_, rfl⟩⟩
end
end My
set_option autoImplicit false
set_option maxRecDepth 100000
set_option maxHeartbeats 4000000
set_option exponentiation.threshold 100000
namespace My
open PySem PySem.Spec PyProof.Rows L2 Dv Mq
section
variable {P : Program} {w : World} {K : PySem.W.Frag} {T : Ct} {mg : Str → Option Value} {base : Heap} {f CR CM : Addr} {fd : FuncData}
theorem xd_ixTL {c : Dv.Ctx} {X : Cx} {a b : PySem.Expr} {st st1 st2 : Store} {pos : Pos} {d e : Dt} {ds : List Dt} {i : Int} {m : Nat} (ha : XD c X a st d st1) (hd : d = .tup ds ∨ d = .lst ds) (hb : XD c X b st1 (.int i) st2) (hn : i = m) (he : ds[m]? = some e) (hK : X.K = c.K) (hs : PlainIx b := by exact fun _ _ => rfl) : XD c X (.Subscript a b pos) st e st2 := by
  rcases hd with rfl | rfl
  · exact xd_ixT ha hb hn he hK hs
  · exact xd_ixL ha hb hn he hK hs
/-- the law's own row times matrix -/
def RLComb (ds : List Dt) (r : Dt) : Prop := ∃ (h n : Nat) (g : Nat → Nat → Rat) (y : Nat → Rat) (d : Dt), ds = [.tup (rg h fun i => dPv n (g i)), .int n, d] ∧ (d = .tup (rg h fun i => dP (y i)) ∨ d = .lst (rg h fun i => dP (y i))) ∧ h ≤ 4 ∧ n ≤ 5 ∧ (∀ i j, Sz 4 (g i j)) ∧ (∀ i, Sz 545 (y i)) ∧ r = dPv n fun j => sumTo (fun t => y t * g t j) h
abbrev nLComb : List Str := ["rows", "width", "y", "out", "k", "j"]
theorem scLComb : FnScope nLComb ["rows", "width", "y"] (defScope sLComb) := ⟨rfl, rfl, rfl, by decide +kernel, rfl, by decide +kernel, by decide +kernel⟩
theorem ok_lcomb (F : Fun K "_law_combine" "_law_combine" sLComb f fd) (D : Md K T mg CR CM) (Da : DF P w K T mg base "_law_add" 3 RAdd) (Dm : DF P w K T mg base "_law_mul" 3 RMul) : FnOk P w K mg base CX0 4 f fd ["rows", "width", "y"] (spD K T RLComb) := by
  refine okD F scLComb (fun ds r h => by obtain ⟨_, _, _, _, _, rfl, _⟩ := h; rfl) fun cdv A outer s H E pa ds r hr hR => ?_
  obtain ⟨h, n, g, y, d, rfl, hd, hh, hn, hg, hy, rfl⟩ := hR
  have hsz : ∀ i, i ≤ 4 → ∀ j, Sz 4000 (sumTo (fun t => y t * g t j) i) := fun i hi j => (sz_sum (b := 549) (fun t => (hy t).mul (hg t j)) i).mono (by omega)
  let ac : Nat → Nat → Rat := fun i j => sumTo (fun t => y t * g t j) i
  let S : Nat → Store := fun i => [some (.fr (.tup (rg h fun i => dPv n (g i)))), some (.fr (.int n)), some (.fr d), some (.fr (.lst (rg n fun j => dP (ac i j)))), slot (fun i => .int i) i, none]
  have el : ((rg h fun i => dPv n (g i)).length : Int) = h := by rw [rg_len]
  refine ⟨_, xs_cons (XP.to (s2 := S 0) (xp_set 3 scLComb.nd (xd_xl (xl_map1 4 (rg n fun _ => dP 0) scLComb.nd (xi_range1 (n := (n : Int)) (xd_var 1) (by omega) (by omega) D.ran) (by rw [rg_len]; simp) (by simp; omega) rfl ?_))) rfl)
    (xs_cons (xp_forN S h (by rw [el]; simp) (xi_range1 (n := ((rg h fun i => dPv n (g i)).length : Int)) (xd_len (xd_var 0) (.inr (.inr rfl)) rfl D.len) (by rw [el]; omega) (by rw [el]; omega) D.ran) ?_)
    (xs_one (xp_ret (xd_tuple (xd_var 3) (.inl rfl) rfl D.tup)))), .inl ⟨_, rfl⟩⟩
  · intro i d v h1 h2 sh H C cl fp
    obtain ⟨_, rfl⟩ := rg_get h2
    exact xd_tup (xa_cons xd_int (xa_cons xd_int xa_nil)) (by simp)
  · intro i d' hd'
    rw [el] at hd'
    obtain ⟨hi, rfl⟩ := rng_get (n := h) (by simpa using hd')
    refine Turns.nx (xg_name 4 scLComb.nd) (xs_one (xp_set 3 scLComb.nd (xd_xl (xl_map1 5 (rg n fun j => dP (ac (i + 1) j)) scLComb.nd (xi_range1 (n := (n : Int)) (xd_var 1) (by omega) (by omega) D.ran) (by rw [rg_len]; simp) (by simp; omega) rfl ?_)))) rfl
    intro j d' v h1 h2 sh H C cl fp
    obtain ⟨hj, rfl⟩ := rng_get (n := n) (by simpa using h1)
    obtain ⟨_, rfl⟩ := rg_get h2
    exact xd_df Da rfl hr (xa_cons (xd_ixL (m := j) (xd_var 3) (xd_var 5) rfl (rg_at hj) rfl) (xa_cons (xd_df Dm rfl hr (xa_cons (xd_ixTL (m := i) (xd_var 2) hd (xd_var 4) rfl (rg_at hi) rfl) (xa_cons (xd_ixT (m := j) (xd_ixT (m := i) (xd_var 0) (xd_var 4) rfl (rg_at hi) rfl) (xd_var 5) rfl (rg_at hj) rfl) xa_nil)) ⟨y i, g i j, rfl, (hy i).mono (by decide), (hg i j).mono (by decide), rfl⟩) xa_nil)) ⟨ac i j, y i * g i j, rfl, (hsz i (by omega) j).mono (by decide), ((hy i).mul (hg i j)).mono (by decide), rfl⟩
def RToM (ds : List Dt) (r : Dt) : Prop := ∃ (h n : Nat) (g : Nat → Nat → Rat), ds = [.tup (rg h fun i => dPv n (g i)), .int n] ∧ h ≤ 8 ∧ n ≤ 8 ∧ (∀ i j, Sz 100 (g i j)) ∧ r = dMx h n g
theorem scToM : FnScope ["rows", "width", "row"] ["rows", "width"] (defScope sToM) := ⟨rfl, rfl, rfl, by decide +kernel, rfl, by decide +kernel, by decide +kernel⟩
theorem ok_toM (F : Fun K "_law_to_matrix" "_law_to_matrix" sToM f fd) (D : Md K T mg CR CM) (I : IF' P w K T mg base 1 CM [] 1 RMI) (Dr : DF P w K T mg base "_law_ratios" 3 RRatios) : FnOk P w K mg base CX0 4 f fd ["rows", "width"] (spD K T RToM) := by
  refine okD F scToM (fun ds r h => by obtain ⟨_, _, _, rfl, _⟩ := h; rfl) fun cdv A outer s H E pa ds r hr hR => ?_
  obtain ⟨h, n, g, rfl, hh, hn, hg, rfl⟩ := hR
  refine ⟨_, xs_one (xp_ret (xd_mk D.M I rfl (hr.mono (by decide)) (xa_cons (xd_xl (xl_map1 2 (rg h fun i => dVc n (g i)) scToM.nd (xi_tup rfl (xd_var 0)) (by rw [rg_len, rg_len]) (by rw [rg_len]; omega) rfl ?_)) (xa_cons (xd_var 1) xa_nil)) ⟨h, n, _, _, rfl, hh, fun i _ => .inr rfl, rfl⟩)), .inl ⟨_, rfl⟩⟩
  intro i d v h1 h2 sh H C cl fp
  obtain ⟨hi, rfl⟩ := rg_get h1
  obtain ⟨_, rfl⟩ := rg_get h2
  exact xd_df Dr rfl hr (xa_cons (xd_var 2) xa_nil) ⟨n, g i, _, rfl, .inl rfl, hn, fun j _ => (hg i j).mono (by decide), rfl⟩
end
end My
set_option autoImplicit false
set_option maxRecDepth 100000
set_option maxHeartbeats 4000000
set_option exponentiation.threshold 100000
namespace My
open PySem PySem.Spec PyProof.Rows L2 Dv Mq
/-! ### rows, lists or tuples of numbers -/
abbrev Row := Bool × (Nat → Rat)
def dRow (n : Nat) (r : Row) : Dt := if r.1 then dVc n r.2 else dLc n r.2
theorem dRow_or (n : Nat) (r : Row) : dRow n r = .tup (rg n fun j => dR (r.2 j)) ∨ dRow n r = .lst (rg n fun j => dR (r.2 j)) := by
  unfold dRow
  cases r.1
  · exact .inr rfl
  · exact .inl rfl
def rws (n : Nat) (rs : List Row) : List Dt := rs.map (dRow n)
theorem rws_get {n i : Nat} {rs : List Row} {d : Dt} (h : (rws n rs)[i]? = some d) : ∃ r, rs[i]? = some r ∧ d = dRow n r := by
  unfold rws at h
  rw [List.getElem?_map] at h
  cases q : rs[i]? with
  | none => rw [q] at h; cases h
  | some r => rw [q] at h; cases h; exact ⟨r, rfl, rfl⟩
theorem rws_at {n i : Nat} {rs : List Row} {r : Row} (h : rs[i]? = some r) : (rws n rs)[i]? = some (dRow n r) := by
  unfold rws; rw [List.getElem?_map, h]; rfl
theorem rws_len (n : Nat) (rs : List Row) : (rws n rs).length = rs.length := List.length_map ..
def firstF (rs : List Row) (c : Nat) : Option Nat := rs.findIdx? fun r => decide (¬ r.2 c = 0)
theorem nz0 (q : Rat) : decide (q.num = 0) = decide (q = 0) := by
  by_cases h : q = 0
  · subst h; rfl
  · rw [decide_eq_false h, decide_eq_false (fun z => h (Rat.num_eq_zero.mp z))]
theorem firstF_some {rs : List Row} {c m : Nat} (h : firstF rs c = some m) : ∃ r, rs[m]? = some r ∧ ¬ r.2 c = 0 ∧ ∀ (i : Nat) r', i < m → rs[i]? = some r' → r'.2 c = 0 := by
  obtain ⟨h1, h2, h3⟩ := List.findIdx?_eq_some_iff_getElem.mp h
  refine ⟨rs[m], List.getElem?_eq_getElem h1, by simpa using h2, fun i r' hi hr => ?_⟩
  have q := h3 i hi
  obtain ⟨_, e⟩ := List.getElem?_eq_some_iff.mp hr
  rw [← e]
  simpa using q
theorem firstF_none {rs : List Row} {c : Nat} (h : firstF rs c = none) : ∀ (i : Nat) r, rs[i]? = some r → r.2 c = 0 := fun i r hr => by
  have q := List.findIdx?_eq_none_iff.mp h r (List.mem_of_getElem? hr)
  simpa using q
section
variable {P : Program} {w : World} {K : PySem.W.Frag} {T : Ct} {mg : Str → Option Value} {base : Heap} {f CR CM : Addr} {fd : FuncData}
abbrev sFirst : Stmt := topS 18
abbrev sClr : Stmt := topS 19
def RFirst (ds : List Dt) (r : Dt) : Prop := ∃ (n c : Nat) (rs : List Row), ds = [.lst (rws n rs), .int c] ∧ c < n ∧ r = .int (match firstF rs c with | some m => (m : Int) | none => -1)
abbrev nFirst : List Str := ["rows", "column", "at", "row"]
theorem scFirst : FnScope nFirst ["rows", "column"] (defScope sFirst) := ⟨rfl, rfl, rfl, by decide +kernel, rfl, by decide +kernel, by decide +kernel⟩
theorem ok_first (F : Fun K "_first_filled" "_first_filled" sFirst f fd) (D : Md K T mg CR CM) (R : RF P w K T mg base CR) (he : mg "enumerate" = none) : FnOk P w K mg base CX0 2 f fd ["rows", "column"] (spD K T RFirst) := by
  refine okD F scFirst (fun ds r h => by obtain ⟨_, _, _, rfl, _⟩ := h; rfl) fun cdv A outer s H E pa ds r hr hR => ?_
  obtain ⟨n, c, rs, rfl, hc, rfl⟩ := hR
  let X := bX P w K mg base nFirst "_first_filled" sFirst f cdv A outer s H E
  let S : Nat → Store := fun i => [some (.fr (.lst (rws n rs))), some (.fr (.int c)), slot (fun i => .int i) i, slot (fun i => dRow n (rs.getD i (true, fun _ => 0))) i]
  have item : ∀ (i : Nat) (d : Dt), (enumD (rws n rs))[i]? = some d → ∃ r, rs[i]? = some r ∧ d = .tup [.int i, dRow n r] := fun i d h => by
    unfold enumD at h
    rw [List.getElem?_mapIdx] at h
    cases q : (rws n rs)[i]? with
    | none => rw [q] at h; cases h
    | some d' =>
      rw [q] at h
      cases h
      obtain ⟨r, h1, rfl⟩ := rws_get q
      exact ⟨r, h1, rfl⟩
  have back : ∀ (i : Nat) r, rs[i]? = some r → ([some (.fr (.lst (rws n rs))), some (.fr (.int c)), some (.fr (.int i)), some (.fr (dRow n r))] : Store) = S (i + 1) := fun i r h => by
    show _ = [_, _, some (Sv.fr (.int i)), some (Sv.fr (dRow n (rs.getD i (true, fun _ => 0))))]
    rw [List.getD_eq_getElem?_getD, h]; rfl
  cases hf : firstF rs c with
  | none =>
    have all0 := firstF_none hf
    refine ⟨_, xs_cons (xp_for S (xi_enum (xd_var 0) rfl he) ?_) (xs_one (xp_ret (xd_neg xd_int))), .inl ⟨_, rfl⟩⟩
    intro i d hd
    obtain ⟨r, h1, rfl⟩ := item i d hd
    refine Turns.nx (xg_tup (n := 2) rfl rfl (xgs_cons (xg_name 2 scFirst.nd) (xgs_cons (xg_name 3 scFirst.nd) xgs_nil)) rfl) (xs_one (xp_if (xt_not (xt_val (xd_mf0 (xd_ixTL (m := c) (xd_var 3) (dRow_or n r) (xd_var 1) rfl (rg_at hc) rfl) D.R R.isz rfl (hr.mono (by decide)) ⟨_, rfl, rfl⟩))) (fun z => ?_) (fun _ => xs_nil))) (back i r h1)
    rw [nz0, decide_eq_true (all0 i r h1)] at z; cases z
  | some m =>
    obtain ⟨r, h1, h2, h3⟩ := firstF_some hf
    have hdm : (enumD (rws n rs))[m]? = some (.tup [.int m, dRow n r]) := by
      unfold enumD
      rw [List.getElem?_mapIdx, rws_at h1]; rfl
    refine ⟨_, xs_ret (xp_forX S m hdm (xi_enum (xd_var 0) rfl he) ?_ ⟨_, xg_tup (n := 2) rfl rfl (xgs_cons (xg_name 2 scFirst.nd) (xgs_cons (xg_name 3 scFirst.nd) xgs_nil)) rfl, .inl ⟨_, _, rfl, xs_ret (xp_if (xt_not (xt_val (xd_mf0 (xd_ixTL (m := c) (xd_var 3) (dRow_or n r) (xd_var 1) rfl (rg_at hc) rfl) D.R R.isz rfl (hr.mono (by decide)) ⟨_, rfl, rfl⟩))) (fun _ => xs_one (xp_ret (xd_var 2))) (fun z => ?_))⟩⟩), .inl ⟨_, rfl⟩⟩
    · intro i d hi hd
      obtain ⟨r', h1', rfl⟩ := item i d hd
      refine Turns.nx (xg_tup (n := 2) rfl rfl (xgs_cons (xg_name 2 scFirst.nd) (xgs_cons (xg_name 3 scFirst.nd) xgs_nil)) rfl) (xs_one (xp_if (xt_not (xt_val (xd_mf0 (xd_ixTL (m := c) (xd_var 3) (dRow_or n r') (xd_var 1) rfl (rg_at hc) rfl) D.R R.isz rfl (hr.mono (by decide)) ⟨_, rfl, rfl⟩))) (fun z => ?_) (fun _ => xs_nil))) (back i r' h1')
      rw [nz0, decide_eq_true (h3 i r' hi h1')] at z; cases z
    · rw [nz0, decide_eq_false h2] at z; cases z
/-! ### _cleared -/
def clr (lead : Nat → Rat) (c : Nat) (r : Row) : Row := if r.2 c = 0 then r else (false, fun j => r.2 j - r.2 c * lead j)
def RClr (ds : List Dt) (r : Dt) : Prop := ∃ (n c : Nat) (q : Row) (lead : Nat → Rat), ds = [dRow n q, dLc n lead, .int c] ∧ c < n ∧ n ≤ 10 ∧ (∀ j, Sz 2470 (q.2 j)) ∧ (∀ j, Sz 2750 (lead j)) ∧ r = dRow n (clr lead c q)
abbrev nClr : List Str := ["row", "lead", "column", "factor", "x", "y"]
theorem scClr : FnScope nClr ["row", "lead", "column"] (defScope sClr) := ⟨rfl, rfl, rfl, by decide +kernel, rfl, by decide +kernel, by decide +kernel⟩
theorem ok_clr (F : Fun K "_cleared" "_cleared" sClr f fd) (D : Md K T mg CR CM) (R : RF P w K T mg base CR) : FnOk P w K mg base CX0 4 f fd ["row", "lead", "column"] (spD K T RClr) := by
  refine okD F scClr (fun ds r h => by obtain ⟨_, _, _, _, rfl, _⟩ := h; rfl) fun cdv A outer s H E pa ds r hr hR => ?_
  obtain ⟨n, c, q, lead, rfl, hc, hn, hq, hl, rfl⟩ := hR
  by_cases hz : q.2 c = 0
  · have e : clr lead c q = q := if_pos hz
    rw [e]
    refine ⟨_, xs_cons (xp_set 3 scClr.nd (xd_ixTL (m := c) (xd_var 0) (dRow_or n q) (xd_var 2) rfl (rg_at hc) rfl))
      (xs_ret (xp_if (xt_val (xd_mf0 (xd_var 3) D.R R.isz rfl (hr.mono (by decide)) ⟨_, rfl, rfl⟩)) (fun _ => xs_one (xp_ret (xd_var 0))) (fun z => ?_))), .inl ⟨_, rfl⟩⟩
    rw [nz0, decide_eq_true hz] at z; cases z
  · have e : dRow n (clr lead c q) = dLc n fun j => q.2 j - q.2 c * lead j := by
      unfold clr; rw [if_neg hz]; rfl
    rw [e]
    have zp : ∀ κ, SqD κ (dRow n q) (rg n fun j => dR (q.2 j)) → ∃ o, XS ⟨K, T, pa⟩ (bX P w K mg base nClr "_cleared" sClr f cdv A outer s H E) (defBody sClr) (st0 nClr [dRow n q, dLc n lead, .int c]) o ∧ ∃ st', o = .rt (dLc n fun j => q.2 j - q.2 c * lead j) st' := fun κ hκ => by
      refine ⟨_, xs_cons (xp_set 3 scClr.nd (xd_ixTL (m := c) (xd_var 0) (dRow_or n q) (xd_var 2) rfl (rg_at hc) rfl))
        (xs_cons (xp_if (xt_val (xd_mf0 (xd_var 3) D.R R.isz rfl (hr.mono (by decide)) ⟨_, rfl, rfl⟩)) (fun z => ?_) (fun _ => xs_nil))
        (xs_one (xp_ret (xd_xl (xl_map2 4 5 (rg n fun j => dR (q.2 j - q.2 c * lead j)) scClr.nd rfl rfl (xi_zip (κ1 := κ) (κ2 := .l) (xs := rg n fun j => dR (q.2 j)) (ys := rg n fun j => dR (lead j)) (xa_cons (xd_var 0) (xa_cons (xd_var 1) xa_nil)) hκ .l rfl D.zip) (by rw [rg_zip, rg_len, rg_len]) (by rw [rg_zip, rg_len]; omega) (by decide) rfl rfl ?_))))), _, rfl⟩
      · rw [nz0, decide_eq_false hz] at z; cases z
      · intro j d v h1 h2
        rw [rg_zip] at h1
        obtain ⟨hj, rfl⟩ := rg_get h1
        obtain ⟨_, rfl⟩ := rg_get h2
        refine ⟨_, _, rfl, fun sh H C cl fp => ?_⟩
        by_cases q0 : (lead j).num = 0
        · refine XD.to (xd_if (xt_eqI (xd_ff 0 (xd_var 5) D.R rfl D.Rn) xd_int (decide_eq_true q0)) (fun _ => xd_var 4) (fun z => nomatch z)) ?_
          show dR (q.2 j) = dR (q.2 j - q.2 c * lead j)
          rw [Rat.num_eq_zero.mp q0, Rat.mul_zero, Rat.sub_eq_add_neg, Rat.neg_zero, Rat.add_zero]
        · exact xd_if (xt_eqI (xd_ff 0 (xd_var 5) D.R rfl D.Rn) xd_int (decide_eq_false q0)) (fun z => nomatch z) (fun _ => xd_opF (op := .Sub) (xd_var 4) (xd_opF (op := .Mult) (xd_var 3) (xd_var 5) D.R R.mul rfl hr D.Rf ⟨q.2 c, lead j, rfl, (hq c).mono (by decide), (hl j).mono (by decide), rfl⟩) D.R R.subW rfl hr D.Rf ⟨q.2 j, q.2 c * lead j, 2470, 5220, rfl, hq j, (hq c).mul (hl j), by decide, rfl⟩)
    have : ∃ κ, SqD κ (dRow n q) (rg n fun j => dR (q.2 j)) := by
      rcases dRow_or n q with e | e
      · exact ⟨.t, by rw [e]; exact .t⟩
      · exact ⟨.l, by rw [e]; exact .l⟩
    obtain ⟨κ, hκ⟩ := this
    obtain ⟨o, h1, h2⟩ := zp κ hκ
    exact ⟨o, h1, .inl h2⟩
end
end My
set_option autoImplicit false
set_option maxRecDepth 100000
set_option maxHeartbeats 4000000
set_option exponentiation.threshold 100000
namespace My
open PySem PySem.Spec PyProof.Rows L2 Dv Mq
/-! ### the elimination, column by column -/
structure El where
  rest : List Row
  ch : List Row
  pv : List Nat
def zrow : Row := (true, fun _ => 0)
def ldOf (r : Row) (c : Nat) : Nat → Rat := fun j => (r.2 c)⁻¹ * r.2 j
def El.step (s : El) (c : Nat) : El := match firstF s.rest c with
  | none => s
  | some m => let ld := ldOf (s.rest.getD m zrow) c; ⟨(s.rest.take m ++ s.rest.drop (m + 1)).map (clr ld c), s.ch.map (clr ld c) ++ [(false, ld)], s.pv ++ [c]⟩
def el (rs : List Row) : Nat → El
  | 0 => ⟨rs, [], []⟩
  | c + 1 => (el rs c).step c
/-- a name that a turn may leave as it was -/
def keepS (g : Nat → Option Dt) : Nat → Option Sv
  | 0 => none
  | i + 1 => match g i with
    | some d => some (.fr d)
    | none => keepS g i
section
variable {P : Program} {w : World} {K : PySem.W.Frag} {T : Ct} {mg : Str → Option Value} {base : Heap} {f CR CM : Addr} {fd : FuncData}
abbrev sElim : Stmt := topS 17
def dInts' (ns : List Nat) : List Dt := ns.map fun (i : Nat) => Dt.int i
/-- all numbers of the rows are of the given size -/
def SzR (b : Nat) (rs : List Row) : Prop := ∀ r ∈ rs, ∀ j, Sz b (r.2 j)
def dEl (n : Nat) (s : El) : Dt := .tup [.lst (rws n s.ch), .lst (dInts' s.pv), .lst (rws n s.rest)]
def RElim (ds : List Dt) (r : Dt) : Prop := ∃ (n k : Nat) (rs : List Row) (d : Dt), ds = [d, .int k] ∧ (d = .lst (rws n rs) ∨ d = .tup (rws n rs)) ∧ rs.length ≤ 10 ∧ k ≤ n ∧ n ≤ 10 ∧ (∀ i, i < k → (el rs i).rest ≠ [] → SzR 2470 (el rs i).rest ∧ SzR 2470 (el rs i).ch ∧ ∀ r ∈ (el rs i).rest, Sz 280 (r.2 i)) ∧ r = dEl n (el rs k)
abbrev nElim : List Str := ["rows", "width", "rest", "chosen", "pivots", "column", "at", "factor", "lead", "row", "item"]
theorem scElim : FnScope nElim ["rows", "width"] (defScope sElim) := ⟨rfl, rfl, rfl, by decide +kernel, rfl, by decide +kernel, by decide +kernel⟩
theorem el_len (rs : List Row) : ∀ k, (el rs k).rest.length ≤ rs.length ∧ (el rs k).ch.length ≤ k ∧ (el rs k).pv.length ≤ k
  | 0 => ⟨Nat.le_refl _, Nat.le_refl _, Nat.le_refl _⟩
  | k + 1 => by
    obtain ⟨h1, h2, h3⟩ := el_len rs k
    show ((el rs k).step k).rest.length ≤ _ ∧ ((el rs k).step k).ch.length ≤ _ ∧ ((el rs k).step k).pv.length ≤ _
    unfold El.step
    split
    · exact ⟨h1, by omega, by omega⟩
    · refine ⟨?_, ?_, ?_⟩
      · rw [List.length_map, List.length_append, List.length_take, List.length_drop]; omega
      · rw [List.length_append, List.length_map]; simp; omega
      · rw [List.length_append]; simp; omega
theorem sz_get {b : Nat} {rs : List Row} {i : Nat} {r : Row} (h : SzR b rs) (e : rs[i]? = some r) : ∀ j, Sz b (r.2 j) := h r (List.mem_of_getElem? e)
theorem sz_ld {r : Row} {c : Nat} (h : ∀ j, Sz 2470 (r.2 j)) (hc : Sz 280 (r.2 c)) (h0 : ¬ r.2 c = 0) : ∀ j, Sz 2750 (ldOf r c j) := fun j => (sz_inv hc h0).mul (h j)
theorem rws_map (n : Nat) (g : Row → Row) (rs : List Row) : rws n (rs.map g) = rs.map fun r => dRow n (g r) := by unfold rws; rw [List.map_map]; rfl
theorem map_get {α : Type} {rs : List α} {g : α → Dt} {i : Nat} {d : Dt} (h : (rs.map g)[i]? = some d) : ∃ r, rs[i]? = some r ∧ d = g r := by
  rw [List.getElem?_map] at h
  cases q : rs[i]? with
  | none => rw [q] at h; cases h
  | some r => rw [q] at h; cases h; exact ⟨r, rfl, rfl⟩
theorem ok_elim (F : Fun K "_eliminate" "_eliminate" sElim f fd) (D : Md K T mg CR CM) (R : RF P w K T mg base CR) (V : MF P w K T mg base CR "inverse" 3 RRV) (Ff : DF P w K T mg base "_first_filled" 2 RFirst) (Fc : DF P w K T mg base "_cleared" 4 RClr) (hl : mg "list" = none) : FnOk P w K mg base CX0 5 f fd ["rows", "width"] (spD K T RElim) := by
  refine okD F scElim (fun ds r h => by obtain ⟨_, _, _, _, rfl, _⟩ := h; rfl) fun cdv A outer s H E pa ds r hr hR => ?_
  obtain ⟨n, k, rs, d, rfl, hd, hrs, hk, hn, hsz, rfl⟩ := hR
  have r3 : Room 3 (A.deeper (envOfC "_eliminate" (defScope sElim) s.heap.objs.size f cdv)) := hr.mono (by decide)
  let gA : Nat → Dt := fun i => .int (match firstF (el rs i).rest i with | some m => (m : Int) | none => -1)
  let gF : Nat → Option Dt := fun i => (firstF (el rs i).rest i).map fun m => dR (((el rs i).rest.getD m zrow).2 i)⁻¹
  let gL : Nat → Option Dt := fun i => (firstF (el rs i).rest i).map fun m => dLc n (ldOf ((el rs i).rest.getD m zrow) i)
  let S : Nat → Store := fun i => [some (.fr d), some (.fr (.int k)), some (.fr (.lst (rws n (el rs i).rest))), some (.fr (.lst (rws n (el rs i).ch))), some (.ow (dInts' (el rs i).pv)), slot (fun i => .int i) i, slot gA i, keepS gF i, keepS gL i, none, none]
  refine ⟨_, xs_cons (xp_set 2 scElim.nd (xd_list (ds := rws n rs) (xd_var 0) (hd.imp id .inr) rfl hl))
    (xs_cons (xp_set 3 scElim.nd (xd_lst xa_nil (by decide)))
    (xs_cons (XP.to (s2 := S 0) (xp_setOw 4 scElim.nd (xl_lst xa_nil (by decide))) rfl)
    (xs_cons (xp_forN S k (by simp) (xi_range1 (n := (k : Int)) (xd_var 1) (by omega) (by omega) D.ran) ?_)
    (xs_freeze 4 rfl (xs_one (xp_ret (xd_tup (xa_cons (xd_var 3) (xa_cons (xd_var 4) (xa_cons (xd_var 2) xa_nil))) (by simp)))))))), .inl ⟨_, rfl⟩⟩
  intro i d' hd'
  obtain ⟨hi, rfl⟩ := rng_get (n := k) (by simpa using hd')
  obtain ⟨hl1, hl2, hl3⟩ := el_len rs i
  cases hf : firstF (el rs i).rest i with
  | none =>
    have e1 : el rs (i + 1) = el rs i := by
      show (el rs i).step i = _
      unfold El.step; rw [hf]
    have eF : gF i = none := by show (firstF (el rs i).rest i).map _ = none; rw [hf]; rfl
    have eL : gL i = none := by show (firstF (el rs i).rest i).map _ = none; rw [hf]; rfl
    have eA : gA i = .int (-1) := by show Dt.int (match firstF (el rs i).rest i with | some m => (m : Int) | none => -1) = _; rw [hf]
    refine Turns.nx (xg_name 5 scElim.nd) (xs_cons (xp_set 6 scElim.nd (xd_df Ff rfl (hr.mono (by decide)) (xa_cons (xd_var 2) (xa_cons (xd_var 5) xa_nil)) ⟨n, i, _, rfl, by omega, rfl⟩))
      (xs_one (xp_if (tb := false) (xt_ge (xd_var 6) xd_int (by rw [hf]; decide)) (fun z => nomatch z) (fun _ => xs_nil)))) ?_
    show _ = [_, _, some (Sv.fr (.lst (rws n (el rs (i + 1)).rest))), some (Sv.fr (.lst (rws n (el rs (i + 1)).ch))), some (Sv.ow (dInts' (el rs (i + 1)).pv)), _, _, (match gF i with | some d => some (Sv.fr d) | none => keepS gF i), (match gL i with | some d => some (Sv.fr d) | none => keepS gL i), _, _]
    rw [e1, eF, eL]; rfl
  | some m =>
    obtain ⟨q, h1, h2, _⟩ := firstF_some hf
    have hm : m < (el rs i).rest.length := (List.getElem?_eq_some_iff.mp h1).1
    have eq : (el rs i).rest.getD m zrow = q := by rw [List.getD_eq_getElem?_getD, h1]; rfl
    obtain ⟨hs1, hs2, hs3⟩ := hsz i hi (fun z => by rw [z] at h1; cases h1)
    have hq := sz_get hs1 h1
    have hq3 := hs3 q (List.mem_of_getElem? h1)
    have hld := sz_ld hq hq3 h2
    have e1 : el rs (i + 1) = ⟨((el rs i).rest.take m ++ (el rs i).rest.drop (m + 1)).map (clr (ldOf q i) i), (el rs i).ch.map (clr (ldOf q i) i) ++ [(false, ldOf q i)], (el rs i).pv ++ [i]⟩ := by
      show (el rs i).step i = _
      unfold El.step; rw [hf]; show (⟨_, _, _⟩ : El) = _; rw [eq]
    have eF : gF i = some (dR (q.2 i)⁻¹) := by show (firstF (el rs i).rest i).map _ = _; rw [hf]; show some (dR (((el rs i).rest.getD m zrow).2 i)⁻¹) = _; rw [eq]
    have eL : gL i = some (dLc n (ldOf q i)) := by show (firstF (el rs i).rest i).map _ = _; rw [hf]; show some (dLc n (ldOf ((el rs i).rest.getD m zrow) i)) = _; rw [eq]
    have ge0 : decide ((0 : Int) ≤ (m : Int)) = true := decide_eq_true (by omega)
    have tk : (rws n (el rs i).rest).take (m : Int).toNat ++ (rws n (el rs i).rest).drop ((m : Int) + 1).toNat = rws n ((el rs i).rest.take m ++ (el rs i).rest.drop (m + 1)) := by
      unfold rws
      rw [show (m : Int).toNat = m from by omega, show ((m : Int) + 1).toNat = m + 1 from by omega, List.map_append, List.map_take, List.map_drop]
    have lr : ((el rs i).rest.take m ++ (el rs i).rest.drop (m + 1)).length ≤ 10 := by
      rw [List.length_append, List.length_take, List.length_drop]; omega
    have s1 : ∀ r ∈ (el rs i).rest.take m ++ (el rs i).rest.drop (m + 1), ∀ j, Sz 2470 (r.2 j) := fun r hr => by
      rcases List.mem_append.mp hr with h | h
      · exact hs1 r (List.mem_of_mem_take h)
      · exact hs1 r (List.mem_of_mem_drop h)
    refine Turns.nx (s1 := S (i + 1)) (xg_name 5 scElim.nd) (xs_cons (xp_set 6 scElim.nd (xd_df (d := .int m) Ff rfl (hr.mono (by decide)) (xa_cons (xd_var 2) (xa_cons (xd_var 5) xa_nil)) ⟨n, i, _, rfl, by omega, by rw [hf]⟩))
      (xs_one (xp_if (tb := true) (xt_ge (xd_var 6) xd_int ge0) (fun _ => ?_) (fun z => nomatch z)))) rfl
    refine XS.to (xs_cons (xp_set 7 scElim.nd (xd_mf0 (xd_ixTL (m := i) (xd_ixL (m := m) (xd_var 2) (xd_var 6) rfl (rws_at h1) rfl) (dRow_or n q) (xd_var 5) rfl (rg_at (by omega)) rfl) D.R V rfl r3 ⟨q.2 i, rfl, (hq i).mono (by decide), h2, rfl⟩))
      (xs_cons (xp_set 8 scElim.nd (xd_xl (xl_map1 10 (rg n fun j => dR (ldOf q i j)) scElim.nd (xi_tl (ds := rg n fun j => dR (q.2 j)) rfl (xd_ixL (m := m) (xd_var 2) (xd_var 6) rfl (rws_at h1) rfl) (dRow_or n q)) (by rw [rg_len, rg_len]) (by rw [rg_len]; omega) rfl ?_)))
      (xs_cons (xp_map1 2 false 9 (((el rs i).rest.take m ++ (el rs i).rest.drop (m + 1)).map fun r => dRow n (clr (ldOf q i) i r)) scElim.nd (xi_list rfl (xd_cat (xd_cutHi (xd_var 2) (xd_var 6) (by omega) rfl) (xd_cutLo (xd_var 2) (xd_add (xd_var 6) xd_int) (by omega) rfl) (by rw [← List.length_append, tk, rws_len]; omega))) (by rw [tk, rws_len, List.length_map]) (by rw [tk, rws_len]; omega) rfl ?_)
      (xs_cons (xp_set 3 scElim.nd (xd_cat (xd_xl (xl_map1 9 ((el rs i).ch.map fun r => dRow n (clr (ldOf q i) i r)) scElim.nd (xi_list rfl (xd_var 3)) (by rw [List.length_map, rws_len]) (by rw [rws_len]; omega) rfl ?_)) (xd_lst (xa_cons (xd_var 8) xa_nil) (by simp)) (by rw [List.length_map]; simp; omega)))
      (xs_one (xp_append 4 (xd_var 5) rfl rfl rfl .ow (by unfold dInts'; rw [List.length_map]; omega))))))) ?_
    · intro j d v g1 g2 sh H C cl fp
      obtain ⟨hj, rfl⟩ := rg_get g1
      obtain ⟨_, rfl⟩ := rg_get g2
      exact xd_opF (op := .Mult) (xd_var 7) (xd_var 10) D.R R.mul rfl r3 D.Rf ⟨(q.2 i)⁻¹, q.2 j, rfl, (sz_inv (hq i) h2).mono (by decide), (hq j).mono (by decide), rfl⟩
    · intro j d v g1 g2 sh H C cl fp
      rw [tk] at g1
      obtain ⟨r, g3, rfl⟩ := rws_get g1
      obtain ⟨r', g4, rfl⟩ := map_get g2
      rw [g3] at g4
      cases g4
      exact xd_df Fc rfl hr (xa_cons (xd_var 9) (xa_cons (xd_var 8) (xa_cons (xd_var 5) xa_nil))) ⟨n, i, r, ldOf q i, rfl, by omega, hn, s1 r (List.mem_of_getElem? g3), hld, rfl⟩
    · intro j d v g1 g2 sh H C cl fp
      obtain ⟨r, g3, rfl⟩ := rws_get g1
      obtain ⟨r', g4, rfl⟩ := map_get g2
      rw [g3] at g4
      cases g4
      exact xd_df Fc rfl hr (xa_cons (xd_var 9) (xa_cons (xd_var 8) (xa_cons (xd_var 5) xa_nil))) ⟨n, i, r, ldOf q i, rfl, by omega, hn, sz_get hs2 g3, hld, rfl⟩
    · show _ = [_, _, some (Sv.fr (.lst (rws n (el rs (i + 1)).rest))), some (Sv.fr (.lst (rws n (el rs (i + 1)).ch))), some (Sv.ow (dInts' (el rs (i + 1)).pv)), _, some (Sv.fr (.int (match firstF (el rs i).rest i with | some m => (m : Int) | none => -1))), (match gF i with | some d => some (Sv.fr d) | none => keepS gF i), (match gL i with | some d => some (Sv.fr d) | none => keepS gL i), _, _]
      rw [e1, eF, eL, hf]
      show _ = [_, _, some (Sv.fr (.lst (rws n (((el rs i).rest.take m ++ (el rs i).rest.drop (m + 1)).map (clr (ldOf q i) i))))), some (Sv.fr (.lst (rws n ((el rs i).ch.map (clr (ldOf q i) i) ++ [(false, ldOf q i)])))), some (Sv.ow (dInts' ((el rs i).pv ++ [i]))), _, _, _, _, _, _]
      have a1 : rws n ((el rs i).ch.map (clr (ldOf q i) i) ++ [(false, ldOf q i)]) = ((el rs i).ch.map fun r => dRow n (clr (ldOf q i) i r)) ++ [dLc n (ldOf q i)] := by
        unfold rws; rw [List.map_append, List.map_map]; rfl
      have a2 : dInts' ((el rs i).pv ++ [i]) = dInts' (el rs i).pv ++ [.int i] := by unfold dInts'; rw [List.map_append]; rfl
      rw [rws_map, a1, a2]; rfl
end
end My
set_option autoImplicit false
set_option maxRecDepth 100000
namespace My
open Mq
/-! ### products of rows and vectors -/
def dt (n : Nat) (r v : Nat → Rat) : Rat := sumTo (fun j => r j * v j) n
theorem sum_zero : ∀ {n : Nat} {f : Nat → Rat}, (∀ j, j < n → f j = 0) → sumTo f n = 0
  | 0, _, _ => rfl
  | n + 1, f, h => by show sumTo f n + f n = 0; rw [sum_zero (fun j hj => h j (by omega)), h n (by omega), Rat.add_zero]
theorem sum_plus (f g : Nat → Rat) : ∀ n, sumTo (fun j => f j + g j) n = sumTo f n + sumTo g n
  | 0 => by show (0 : Rat) = 0 + 0; rw [Rat.add_zero]
  | n + 1 => by
    show sumTo (fun j => f j + g j) n + (f n + g n) = (sumTo f n + f n) + (sumTo g n + g n)
    rw [sum_plus f g n, Rat.add_assoc, Rat.add_assoc]
    congr 1
    rw [← Rat.add_assoc, ← Rat.add_assoc, Rat.add_comm (sumTo g n)]
theorem sum_scale (a : Rat) (f : Nat → Rat) : ∀ n, sumTo (fun j => a * f j) n = a * sumTo f n
  | 0 => by show (0 : Rat) = a * 0; rw [Rat.mul_zero]
  | n + 1 => by show sumTo (fun j => a * f j) n + a * f n = a * (sumTo f n + f n); rw [sum_scale a f n, Rat.mul_add]
theorem dt_scale (n : Nat) (a : Rat) (r v : Nat → Rat) : dt n (fun j => a * r j) v = a * dt n r v := by
  unfold dt
  rw [← sum_scale]
  exact sumTo_ext fun j _ => Rat.mul_assoc _ _ _
theorem dt_sub (n : Nat) (a : Rat) (r l v : Nat → Rat) : dt n (fun j => r j - a * l j) v = dt n r v - a * dt n l v := by
  have e : dt n (fun j => r j - a * l j) v = dt n r v + -(a * dt n l v) := by
    have e1 : -(a * dt n l v) = dt n (fun j => (-a) * l j) v := by rw [dt_scale, Rat.neg_mul]
    rw [e1]
    unfold dt
    rw [← sum_plus]
    refine sumTo_ext fun j _ => ?_
    rw [← Rat.add_mul]
    congr 1
    show r j - a * l j = r j + (-a) * l j
    rw [Rat.sub_eq_add_neg, Rat.neg_mul]
  rw [e, Rat.sub_eq_add_neg]
theorem dt_comm (n : Nat) (r v : Nat → Rat) : dt n r v = dt n v r := sumTo_ext fun j _ => Rat.mul_comm _ _
theorem dt_add (n : Nat) (r v u : Nat → Rat) : dt n r (fun j => v j + u j) = dt n r v + dt n r u := by
  unfold dt
  rw [← sum_plus]
  exact sumTo_ext fun j _ => Rat.mul_add _ _ _
/-- one place -/
theorem dt_one (n p : Nat) (hp : p < n) (r : Nat → Rat) (x : Rat) : dt n r (fun j => if j = p then x else 0) = r p * x := by
  unfold dt
  induction n with
  | zero => omega
  | succ n ih =>
    show sumTo (fun j => r j * (if j = p then x else 0)) n + r n * (if n = p then x else 0) = _
    by_cases h : n = p
    · subst h
      rw [if_pos rfl, sum_zero (fun j hj => by rw [if_neg (by omega), Rat.mul_zero]), Rat.zero_add]
    · rw [if_neg h, ih (by omega), Rat.mul_zero, Rat.add_zero]
/-! ### a vector with items at places -/
def vL : List (Nat × Rat) → Nat → Rat
  | [], _ => 0
  | (p, x) :: l, j => (if j = p then x else 0) + vL l j
theorem vL_snoc (p : Nat) (x : Rat) (j : Nat) : ∀ l, vL (l ++ [(p, x)]) j = vL l j + (if j = p then x else 0)
  | [] => by show (if j = p then x else 0) + 0 = 0 + _; rw [Rat.add_zero, Rat.zero_add]
  | (q, y) :: l => by show _ + vL (l ++ [(p, x)]) j = (_ + vL l j) + _; rw [vL_snoc p x j l, Rat.add_assoc]
theorem vL_out {j : Nat} : ∀ {l : List (Nat × Rat)}, (∀ q ∈ l, q.1 ≠ j) → vL l j = 0
  | [], _ => rfl
  | (p, x) :: l, h => by
    show (if j = p then x else 0) + vL l j = 0
    rw [if_neg (fun z => h (p, x) (List.mem_cons_self ..) z.symm), vL_out (fun q hq => h q (List.mem_cons_of_mem _ hq)), Rat.zero_add]
theorem vL_in {p : Nat} {x : Rat} : ∀ {l : List (Nat × Rat)}, (l.map (·.1)).Nodup → (p, x) ∈ l → vL l p = x
  | (q, y) :: l, hn, hm => by
    rw [List.map_cons, List.nodup_cons] at hn
    show (if p = q then y else 0) + vL l p = x
    rcases List.mem_cons.mp hm with h | h
    · cases h
      rw [if_pos rfl, vL_out (fun q hq z => hn.1 (List.mem_map.mpr ⟨_, hq, z⟩)), Rat.add_zero]
    · have ne : p ≠ q := fun z => hn.1 (List.mem_map.mpr ⟨_, h, z⟩)
      rw [if_neg ne, vL_in hn.2 h, Rat.zero_add]
/-- the product of a row and such a vector -/
def sumL (r : Nat → Rat) : List (Nat × Rat) → Rat
  | [] => 0
  | (p, x) :: l => r p * x + sumL r l
theorem dt_vL (n : Nat) (r : Nat → Rat) : ∀ l : List (Nat × Rat), (∀ q ∈ l, q.1 < n) → dt n r (vL l) = sumL r l
  | [], _ => sum_zero fun j _ => Rat.mul_zero _
  | (p, x) :: l, h => by
    show dt n r (fun j => (if j = p then x else 0) + vL l j) = _
    rw [dt_add, dt_one n p (h (p, x) (List.mem_cons_self ..)), dt_vL n r l (fun q hq => h q (List.mem_cons_of_mem _ hq))]; rfl
theorem sumL_app (r : Nat → Rat) : ∀ l m, sumL r (l ++ m) = sumL r l + sumL r m
  | [], m => (Rat.zero_add _).symm
  | (p, x) :: l, m => by show r p * x + sumL r (l ++ m) = (r p * x + sumL r l) + sumL r m; rw [sumL_app r l m, Rat.add_assoc]
theorem sumL_zero {r : Nat → Rat} : ∀ {l : List (Nat × Rat)}, (∀ q ∈ l, r q.1 = 0) → sumL r l = 0
  | [], _ => rfl
  | (p, x) :: l, h => by
    show r p * x + sumL r l = 0
    rw [h (p, x) (List.mem_cons_self ..), Rat.zero_mul, sumL_zero (fun q hq => h q (List.mem_cons_of_mem _ hq)), Rat.add_zero]
/-- a row that is 1 at one of the places and 0 at the others -/
theorem sumL_unit {r : Nat → Rat} {p : Nat} {x : Rat} : ∀ {l : List (Nat × Rat)}, (l.map (·.1)).Nodup → (p, x) ∈ l → r p = 1 → (∀ q ∈ l, q.1 ≠ p → r q.1 = 0) → sumL r l = x
  | (q, y) :: l, hn, hm, h1, h0 => by
    rw [List.map_cons, List.nodup_cons] at hn
    show r q * y + sumL r l = x
    rcases List.mem_cons.mp hm with h | h
    · cases h
      rw [h1, Rat.one_mul, sumL_zero (fun q hq => h0 q (List.mem_cons_of_mem _ hq) (fun z => hn.1 (List.mem_map.mpr ⟨_, hq, z⟩))), Rat.add_zero]
    · have ne : q ≠ p := fun z => hn.1 (List.mem_map.mpr ⟨_, h, z.symm⟩)
      rw [h0 (q, y) (List.mem_cons_self ..) ne, Rat.zero_mul, Rat.zero_add, sumL_unit hn.2 h h1 (fun q hq => h0 q (List.mem_cons_of_mem _ hq))]

/-! ### one step of the elimination -/
theorem clr_eq (ld : Nat → Rat) (c : Nat) (r : Row) (j : Nat) : (clr ld c r).2 j = r.2 j - r.2 c * ld j := by
  unfold clr
  split
  · rename_i h; rw [h, Rat.zero_mul, Rat.sub_eq_add_neg, Rat.neg_zero, Rat.add_zero]
  · rfl
theorem dt_clr (n : Nat) (ld : Nat → Rat) (c : Nat) (r : Row) (v : Nat → Rat) : dt n (clr ld c r).2 v = dt n r.2 v - r.2 c * dt n ld v := by
  rw [← dt_sub]
  exact sumTo_ext fun j _ => by rw [clr_eq]
theorem ld_one {r : Row} {c : Nat} (h : ¬ r.2 c = 0) : ldOf r c c = 1 := Rat.inv_mul_cancel _ h
theorem sub_zero' (a b : Rat) : a - b * 0 = a := by rw [Rat.mul_zero, Rat.sub_eq_add_neg, Rat.neg_zero, Rat.add_zero]
/-- every row of the state is at a right angle to v -/
def Orth (n : Nat) (s : El) (v : Nat → Rat) : Prop := (∀ r ∈ s.rest, dt n r.2 v = 0) ∧ ∀ r ∈ s.ch, dt n r.2 v = 0
theorem step_orth (n : Nat) (s : El) (c : Nat) (v : Nat → Rat) : Orth n (s.step c) v ↔ Orth n s v := by
  unfold El.step
  split
  · exact Iff.rfl
  · rename_i m hf
    obtain ⟨q, h1, h2, _⟩ := firstF_some hf
    have eq : s.rest.getD m zrow = q := by rw [List.getD_eq_getElem?_getD, h1]; rfl
    rw [eq]
    have hm := List.mem_of_getElem? h1
    have lv : dt n (ldOf q c) v = (q.2 c)⁻¹ * dt n q.2 v := dt_scale n _ _ _
    constructor
    · rintro ⟨a, b⟩
      have l0 : dt n (ldOf q c) v = 0 := b (false, ldOf q c) (List.mem_append_right _ (List.mem_singleton.mpr rfl))
      have q0 : dt n q.2 v = 0 := by
        rw [l0] at lv
        rcases Rat.mul_eq_zero.mp lv.symm with z | z
        · exact absurd z (fun z => h2 (by
            have := Rat.inv_mul_cancel _ h2
            rw [z, Rat.zero_mul] at this
            cases this))
        · exact z
      have back : ∀ r : Row, dt n (clr (ldOf q c) c r).2 v = 0 → dt n r.2 v = 0 := fun r h => by
        rw [dt_clr, l0, sub_zero'] at h; exact h
      refine ⟨fun r hr => ?_, fun r hr => back r (b _ (List.mem_append_left _ (List.mem_map_of_mem hr)))⟩
      obtain ⟨i, hi⟩ := List.getElem?_of_mem hr
      by_cases e : i = m
      · subst e; rw [h1] at hi; cases hi; exact q0
      · refine back r (a _ (List.mem_map_of_mem ?_))
        rcases Nat.lt_or_gt_of_ne e with g | g
        · refine List.mem_append_left _ (List.mem_of_getElem? (i := i) ?_)
          rw [List.getElem?_take, if_pos g]; exact hi
        · refine List.mem_append_right _ (List.mem_of_getElem? (i := i - (m + 1)) ?_)
          rw [List.getElem?_drop, show m + 1 + (i - (m + 1)) = i from by omega]; exact hi
    · rintro ⟨a, b⟩
      have l0 : dt n (ldOf q c) v = 0 := by rw [lv, a q hm, Rat.mul_zero]
      have go : ∀ r : Row, dt n r.2 v = 0 → dt n (clr (ldOf q c) c r).2 v = 0 := fun r h => by rw [dt_clr, l0, sub_zero']; exact h
      refine ⟨fun r hr => ?_, fun r hr => ?_⟩
      · obtain ⟨r', hr', rfl⟩ := List.mem_map.mp hr
        rcases List.mem_append.mp hr' with h | h
        · exact go r' (a r' (List.mem_of_mem_take h))
        · exact go r' (a r' (List.mem_of_mem_drop h))
      · rcases List.mem_append.mp hr with h | h
        · obtain ⟨r', hr', rfl⟩ := List.mem_map.mp h
          exact go r' (b r' hr')
        · rw [List.mem_singleton.mp h]; exact l0
theorem el_orth (n : Nat) (rs : List Row) (v : Nat → Rat) : ∀ k, Orth n (el rs k) v ↔ ∀ r ∈ rs, dt n r.2 v = 0
  | 0 => ⟨fun h => h.1, fun h => ⟨h, fun r hr => nomatch hr⟩⟩
  | k + 1 => (step_orth n (el rs k) k v).trans (el_orth n rs v k)
/-- what the elimination of the first k columns has reached -/
structure Done (s : El) (k : Nat) : Prop where
  zero : ∀ r ∈ s.rest, ∀ j, j < k → r.2 j = 0
  len : s.ch.length = s.pv.length
  sub : s.pv.Sublist (List.range k)
  one : ∀ (t : Nat) r p, s.ch[t]? = some r → s.pv[t]? = some p → r.2 p = 1
  off : ∀ (t u : Nat) r p, t ≠ u → s.ch[t]? = some r → s.pv[u]? = some p → r.2 p = 0
theorem Done.lt {s : El} {k : Nat} (h : Done s k) {p : Nat} (hp : p ∈ s.pv) : p < k := List.mem_range.mp (h.sub.subset hp)
theorem done_step {s : El} {k : Nat} (h : Done s k) : Done (s.step k) (k + 1) := by
  unfold El.step
  split
  · rename_i hf
    have z := firstF_none hf
    refine ⟨fun r hr j hj => ?_, h.len, ?_, h.one, h.off⟩
    · by_cases e : j = k
      · subst e
        obtain ⟨i, hi⟩ := List.getElem?_of_mem hr
        exact z i r hi
      · exact h.zero r hr j (by omega)
    · exact h.sub.trans (by rw [List.range_succ]; exact List.sublist_append_left ..)
  · rename_i m hf
    obtain ⟨q, h1, h2, _⟩ := firstF_some hf
    have eq : s.rest.getD m zrow = q := by rw [List.getD_eq_getElem?_getD, h1]; rfl
    rw [eq]
    have hm := List.mem_of_getElem? h1
    have l1 : ldOf q k k = 1 := ld_one h2
    have l0 : ∀ j, j < k → ldOf q k j = 0 := fun j hj => by
      show (q.2 k)⁻¹ * q.2 j = 0
      rw [h.zero q hm j hj, Rat.mul_zero]
    have ck : ∀ r : Row, (clr (ldOf q k) k r).2 k = 0 := fun r => by
      rw [clr_eq, l1, Rat.mul_one, Rat.sub_self]
    have cj : ∀ (r : Row) j, j < k → (clr (ldOf q k) k r).2 j = r.2 j := fun r j hj => by
      rw [clr_eq, l0 j hj, sub_zero']
    have sp : ∀ (u : Nat) p, (s.pv ++ [k])[u]? = some p → (s.pv[u]? = some p ∧ p < k) ∨ (u = s.pv.length ∧ p = k) := fun u p hu => by
      by_cases g : u < s.pv.length
      · rw [List.getElem?_append_left g] at hu
        exact .inl ⟨hu, h.lt (List.mem_of_getElem? hu)⟩
      · rw [List.getElem?_append_right (by omega)] at hu
        have : u - s.pv.length = 0 := by
          cases q : u - s.pv.length with
          | zero => rfl
          | succ _ => rw [q] at hu; cases hu
        rw [this] at hu
        cases hu
        exact .inr ⟨by omega, rfl⟩
    have sc : ∀ (t : Nat) r, (s.ch.map (clr (ldOf q k) k) ++ [(false, ldOf q k)])[t]? = some r → (∃ r', s.ch[t]? = some r' ∧ r = clr (ldOf q k) k r') ∨ (t = s.ch.length ∧ r = (false, ldOf q k)) := fun t r ht => by
      by_cases g : t < s.ch.length
      · rw [List.getElem?_append_left (by rw [List.length_map]; exact g), List.getElem?_map] at ht
        cases q' : s.ch[t]? with
        | none => rw [q'] at ht; cases ht
        | some r' => rw [q'] at ht; cases ht; exact .inl ⟨r', rfl, rfl⟩
      · rw [List.getElem?_append_right (by rw [List.length_map]; omega), List.length_map] at ht
        have : t - s.ch.length = 0 := by
          cases q' : t - s.ch.length with
          | zero => rfl
          | succ _ => rw [q'] at ht; cases ht
        rw [this] at ht
        cases ht
        exact .inr ⟨by omega, rfl⟩
    refine ⟨fun r hr j hj => ?_, by simp [h.len], ?_, fun t r p h3 h4 => ?_, fun t u r p ne h3 h4 => ?_⟩
    · obtain ⟨r', hr', rfl⟩ := List.mem_map.mp hr
      by_cases e : j = k
      · subst e; exact ck r'
      · rw [cj r' j (by omega)]
        rcases List.mem_append.mp hr' with g | g
        · exact h.zero r' (List.mem_of_mem_take g) j (by omega)
        · exact h.zero r' (List.mem_of_mem_drop g) j (by omega)
    · rw [List.range_succ]; exact h.sub.append (List.Sublist.refl _)
    · rcases sc t r h3 with ⟨r', g1, rfl⟩ | ⟨g1, rfl⟩
      · rcases sp t p h4 with ⟨g2, g3⟩ | ⟨g2, rfl⟩
        · rw [cj r' p g3]; exact h.one t r' p g1 g2
        · have := (List.getElem?_eq_some_iff.mp g1).1
          have := h.len
          omega
      · rcases sp t p h4 with ⟨g2, g3⟩ | ⟨g2, rfl⟩
        · have := (List.getElem?_eq_some_iff.mp g2).1
          have := h.len
          omega
        · exact l1
    · rcases sc t r h3 with ⟨r', g1, rfl⟩ | ⟨g1, rfl⟩
      · rcases sp u p h4 with ⟨g2, g3⟩ | ⟨g2, rfl⟩
        · rw [cj r' p g3]; exact h.off t u r' p ne g1 g2
        · exact ck r'
      · rcases sp u p h4 with ⟨g2, g3⟩ | ⟨g2, rfl⟩
        · exact l0 p g3
        · have := h.len
          omega
theorem el_done (rs : List Row) : ∀ k, Done (el rs k) k
  | 0 => ⟨fun _ _ _ h => absurd h (Nat.not_lt_zero _), rfl, List.Sublist.refl _, fun _ _ _ h => (nomatch h), fun _ _ _ _ _ h => (nomatch h)⟩
  | k + 1 => done_step (el_done rs k)
end My
set_option autoImplicit false
set_option maxRecDepth 100000
set_option maxHeartbeats 4000000
set_option exponentiation.threshold 100000
namespace My
open PySem PySem.Spec PyProof.Rows L2 Dv Mq
/-! ### sizes, by the number of pivots so far -/
def sg : Nat → Nat
  | 0 => 4
  | p + 1 => 4 * sg p + 1
def rh : Nat → Nat
  | 0 => 37
  | p + 1 => 2 * rh p + 2 * sg p + 1
def bnd (w p j : Nat) : Nat := if j < w then sg p else rh p
def SzB (w p : Nat) (rs : List Row) : Prop := ∀ r ∈ rs, ∀ j, Sz (bnd w p j) (r.2 j)
theorem sg_ge : ∀ p, 4 ≤ sg p
  | 0 => Nat.le_refl _
  | p + 1 => by show 4 ≤ 4 * sg p + 1; have := sg_ge p; omega
theorem step_sz {w : Nat} {s : El} {c : Nat} (hc : c < w) (h : SzB w s.pv.length s.rest ∧ SzB w s.pv.length s.ch) : SzB w (s.step c).pv.length (s.step c).rest ∧ SzB w (s.step c).pv.length (s.step c).ch := by
  unfold El.step
  split
  · exact h
  · rename_i m hf
    obtain ⟨q, h1, h2, _⟩ := firstF_some hf
    have eq : s.rest.getD m zrow = q := by rw [List.getD_eq_getElem?_getD, h1]; rfl
    rw [eq]
    obtain ⟨ha, hb⟩ := h
    have hq := ha q (List.mem_of_getElem? h1)
    have ec : bnd w s.pv.length c = sg s.pv.length := if_pos hc
    have ld : ∀ j, Sz (sg s.pv.length + bnd w s.pv.length j) (ldOf q c j) := fun j => by
      have q1 := hq c
      rw [ec] at q1
      exact (sz_inv q1 h2).mul (hq j)
    have el : ∀ j, 2 * bnd w s.pv.length j + 2 * sg s.pv.length + 1 ≤ bnd w (s.pv.length + 1) j := fun j => by
      unfold bnd
      split
      · show 2 * sg s.pv.length + 2 * sg s.pv.length + 1 ≤ 4 * sg s.pv.length + 1; omega
      · exact Nat.le_refl _
    have cl : ∀ r : Row, (∀ j, Sz (bnd w s.pv.length j) (r.2 j)) → ∀ j, Sz (bnd w (s.pv.length + 1) j) ((clr (ldOf q c) c r).2 j) := fun r hr j => by
      rw [clr_eq]
      have q1 := hr c
      rw [ec] at q1
      exact ((hr j).sub (q1.mul (ld j))).mono (by have := el j; omega)
    have e : (s.pv ++ [c]).length = s.pv.length + 1 := by simp
    show SzB w (s.pv ++ [c]).length _ ∧ SzB w (s.pv ++ [c]).length _
    rw [e]
    constructor
    · intro r hr
      obtain ⟨r', hr', rfl⟩ := List.mem_map.mp hr
      rcases List.mem_append.mp hr' with g | g
      · exact cl r' (ha r' (List.mem_of_mem_take g))
      · exact cl r' (ha r' (List.mem_of_mem_drop g))
    · intro r hr
      rcases List.mem_append.mp hr with g | g
      · obtain ⟨r', hr', rfl⟩ := List.mem_map.mp g
        exact cl r' (hb r' hr')
      · rw [List.mem_singleton.mp g]
        exact fun j => (ld j).mono (by have := el j; omega)
theorem el_sz {w : Nat} {rs : List Row} (h : SzB w 0 rs) : ∀ k, k ≤ w → SzB w (el rs k).pv.length (el rs k).rest ∧ SzB w (el rs k).pv.length (el rs k).ch
  | 0, _ => ⟨h, fun r hr => nomatch hr⟩
  | k + 1, hk => step_sz (by omega) (el_sz h k (by omega))
theorem bnd3 (w j : Nat) : ∀ p, p ≤ 3 → bnd w p j ≤ 541
  | 0, _ => by unfold bnd; split <;> decide
  | 1, _ => by unfold bnd; split <;> decide
  | 2, _ => by unfold bnd; split <;> decide
  | 3, _ => by unfold bnd; split <;> decide
theorem bnd4 (w j : Nat) : ∀ p, p ≤ 4 → bnd w p j ≤ 1637
  | 0, _ => by unfold bnd; split <;> decide
  | 1, _ => by unfold bnd; split <;> decide
  | 2, _ => by unfold bnd; split <;> decide
  | 3, _ => by unfold bnd; split <;> decide
  | 4, _ => by unfold bnd; split <;> decide
theorem pv_le (rs : List Row) (k : Nat) : (el rs k).pv.length ≤ k := by
  have := (el_done rs k).sub.length_le
  rw [List.length_range] at this; exact this
theorem el_900 {w : Nat} {rs : List Row} (h : SzB w 0 rs) (hw : w ≤ 4) : ∀ i, i < w → SzR 900 (el rs i).rest ∧ SzR 900 (el rs i).ch := fun i hi => by
  obtain ⟨h1, h2⟩ := el_sz h i (by omega)
  have hp := pv_le rs i
  exact ⟨fun r hr j => (h1 r hr j).mono (by have := bnd3 w j _ (show (el rs i).pv.length ≤ 3 by omega); omega), fun r hr j => (h2 r hr j).mono (by have := bnd3 w j _ (show (el rs i).pv.length ≤ 3 by omega); omega)⟩
theorem sg3 : ∀ p, p ≤ 3 → sg p ≤ 280
  | 0, _ => by decide
  | 1, _ => by decide
  | 2, _ => by decide
  | 3, _ => by decide
theorem el_280 {w : Nat} {rs : List Row} (h : SzB w 0 rs) (hw : w ≤ 4) : ∀ i, i < w → ∀ r ∈ (el rs i).rest, Sz 280 (r.2 i) := fun i hi r hr => by
  obtain ⟨h1, _⟩ := el_sz h i (by omega)
  have hp := pv_le rs i
  refine (h1 r hr i).mono ?_
  unfold bnd
  rw [if_pos hi]
  exact sg3 _ (by omega)
theorem el_1637 {w : Nat} {rs : List Row} (h : SzB w 0 rs) (hw : w ≤ 4) : SzR 1637 (el rs w).rest ∧ SzR 1637 (el rs w).ch := by
  obtain ⟨h1, h2⟩ := el_sz h w (Nat.le_refl _)
  have hp := pv_le rs w
  exact ⟨fun r hr j => (h1 r hr j).mono (bnd4 w j _ (by omega)), fun r hr j => (h2 r hr j).mono (bnd4 w j _ (by omega))⟩
/-- where a column is free, there are three pivots at most -/
theorem pv_3 {rs : List Row} {w φ : Nat} (hw : w ≤ 4) (hφ : φ < w) (hn : φ ∉ (el rs w).pv) : (el rs w).pv.length ≤ 3 := by
  have hs := (el_done rs w).sub
  have hl := hs.length_le
  rw [List.length_range] at hl
  by_cases e : (el rs w).pv.length = w
  · have := hs.eq_of_length (by rw [List.length_range]; exact e)
    rw [this] at hn
    exact absurd (List.mem_range.mpr hφ) hn
  · omega
theorem el_541 {w φ : Nat} {rs : List Row} (h : SzB w 0 rs) (hw : w ≤ 4) (hφ : φ < w) (hn : φ ∉ (el rs w).pv) : SzR 541 (el rs w).ch := by
  obtain ⟨_, h2⟩ := el_sz h w (Nat.le_refl _)
  exact fun r hr j => (h2 r hr j).mono (bnd3 w j _ (pv_3 hw hφ hn))
/-! ### rows of a matrix -/
def rowsOf (h : Nat) (g : Nat → Nat → Rat) : List Row := (List.range h).map fun i => (true, g i)
theorem rowsOf_rws (h n : Nat) (g : Nat → Nat → Rat) : rws n (rowsOf h g) = rg h fun i => dVc n (g i) := by
  unfold rws rowsOf rg; rw [List.map_map]; rfl
theorem rowsOf_len (h : Nat) (g : Nat → Nat → Rat) : (rowsOf h g).length = h := by unfold rowsOf; simp
theorem rowsOf_mem {h : Nat} {g : Nat → Nat → Rat} {r : Row} (hr : r ∈ rowsOf h g) : ∃ i, i < h ∧ r = (true, g i) := by
  obtain ⟨i, hi, rfl⟩ := List.mem_map.mp hr
  exact ⟨i, List.mem_range.mp hi, rfl⟩
theorem map_rg (F : Row → Dt) (rs : List Row) : rs.map F = rg rs.length fun i => F (rs.getD i zrow) := by
  apply List.ext_getElem?
  intro i
  by_cases h : i < rs.length
  · rw [rg_at h, List.getElem?_map, List.getD_eq_getElem?_getD, List.getElem?_eq_getElem h]; rfl
  · rw [List.getElem?_eq_none (by rw [List.length_map]; omega), List.getElem?_eq_none (by rw [rg_len]; omega)]
section
variable {P : Program} {w : World} {K : PySem.W.Frag} {T : Ct} {mg : Str → Option Value} {base : Heap} {f CR CM : Addr} {fd : FuncData}
/-! ### _placed -/
abbrev sPl : Stmt := topS 20
def RPl (ds : List Dt) (r : Dt) : Prop := ∃ (n : Nat) (l : List (Nat × Rat)), ds = [.lst (l.map fun q => dR q.2), .lst (l.map fun q => Dt.int q.1), .int n] ∧ (l.map (·.1)).Nodup ∧ (∀ q ∈ l, q.1 < n) ∧ n ≤ 8 ∧ l.length ≤ 8 ∧ r = dVc n (vL l)
abbrev nPl : List Str := ["items", "places", "width", "found", "place", "item"]
theorem scPl : FnScope nPl ["items", "places", "width"] (defScope sPl) := ⟨rfl, rfl, rfl, by decide +kernel, rfl, by decide +kernel, by decide +kernel⟩
theorem ok_pl (F : Fun K "_placed" "_placed" sPl f fd) (D : Md K T mg CR CM) (R : RF P w K T mg base CR) : FnOk P w K mg base CX0 4 f fd ["items", "places", "width"] (spD K T RPl) := by
  refine okD F scPl (fun ds r h => by obtain ⟨_, _, rfl, _⟩ := h; rfl) fun cdv A outer s H E pa ds r hr hR => ?_
  obtain ⟨n, l, rfl, hnd, hlt, hn, hll, rfl⟩ := hR
  let at_ : Nat → Nat × Rat := fun t => l.getD t (0, 0)
  let S : Nat → Store := fun t => [some (.fr (.lst (l.map fun q => dR q.2))), some (.fr (.lst (l.map fun q => Dt.int q.1))), some (.fr (.int n)), some (.ow (rg n fun j => dR (vL (l.take t) j))), slot (fun t => .int (at_ t).1) t, slot (fun t => dR (at_ t).2) t]
  have hz : List.zipWith (fun x y => Dt.tup [x, y]) (l.map fun q => Dt.int q.1) (l.map fun q => dR q.2) = l.map fun q => .tup [.int q.1, dR q.2] := by
    rw [List.zipWith_map_left, List.zipWith_map_right, List.zipWith_self]
  refine ⟨_, xs_cons (XP.to (s2 := S 0) (xp_setOw 3 scPl.nd (xl_rep (xd_lst (xa_cons (xd_df0 R.zero rfl (hr.mono (by decide)) ⟨rfl, rfl⟩) xa_nil) (by simp)) (xd_var 2) (by omega) (by omega) (by simp; omega))) (by rw [rep_one]; rfl))
    (xs_cons (XP.to (s2 := S l.length) (xp_forN S l.length (by rw [hz, List.length_map]) (xi_zip (κ1 := .l) (κ2 := .l) (xs := l.map fun q => Dt.int q.1) (ys := l.map fun q => dR q.2) (xa_cons (xd_var 1) (xa_cons (xd_var 0) xa_nil)) .l .l rfl D.zip) ?_) rfl)
    (xs_one (xp_ret (xd_tupleO 3 (s := .ow (rg n fun j => dR (vL l j))) (by show some (some (Sv.ow (rg n fun j => dR (vL (l.take l.length) j)))) = _; rw [List.take_length]) .ow D.tup)))), .inl ⟨_, rfl⟩⟩
  intro t d hd
  rw [hz] at hd
  rw [List.getElem?_map] at hd
  cases e : l[t]? with
  | none => rw [e] at hd; cases hd
  | some q =>
    rw [e] at hd
    cases hd
    have ht : t < l.length := (List.getElem?_eq_some_iff.mp e).1
    have hm : q ∈ l := List.mem_of_getElem? e
    have ea : at_ t = q := by show l.getD t (0, 0) = q; rw [List.getD_eq_getElem?_getD, e]; rfl
    refine Turns.nx (xg_tup (n := 2) rfl rfl (xgs_cons (xg_name 4 scPl.nd) (xgs_cons (xg_name 5 scPl.nd) xgs_nil)) rfl) (xs_one (xp_setI 3 (m := q.1) (s := .ow (rg n fun j => dR (vL (l.take t) j))) (xd_var 5) (xd_var 4) rfl rfl .ow rfl (by rw [rg_len]; exact hlt q hm))) ?_
    have tk : l.take (t + 1) = l.take t ++ [q] := by
      rw [List.take_succ, e]; rfl
    have out : vL (l.take t) q.1 = 0 := vL_out fun q' hq' z => by
      have e1 : l = l.take t ++ l.drop t := (List.take_append_drop t l).symm
      have e2 : q ∈ l.drop t := List.mem_of_getElem? (i := 0) (by rw [List.getElem?_drop]; exact e)
      rw [e1, List.map_append, List.nodup_append] at hnd
      exact hnd.2.2 q'.1 (List.mem_map.mpr ⟨_, hq', rfl⟩) q.1 (List.mem_map.mpr ⟨_, e2, rfl⟩) z
    have es : (rg n fun j => dR (vL (l.take t) j)).set q.1 (dR q.2) = rg n fun j => dR (vL (l.take (t + 1)) j) := by
      apply List.ext_getElem?
      intro j
      by_cases hj : j < n
      · rw [rg_at hj, tk, vL_snoc q.1 q.2 j]
        by_cases g : q.1 = j
        · subst g
          rw [List.getElem?_set_self (by rw [rg_len]; exact hj), out, if_pos rfl, Rat.zero_add]
        · rw [List.getElem?_set_ne g, rg_at hj, if_neg (fun z => g z.symm), Rat.add_zero]
      · rw [List.getElem?_eq_none (by rw [List.length_set, rg_len]; omega), List.getElem?_eq_none (by rw [rg_len]; omega)]
    show [_, _, _, some (Sv.ow ((rg n fun j => dR (vL (l.take t) j)).set q.1 (dR q.2))), _, _] = [_, _, _, _, some (Sv.fr (.int (at_ t).1)), some (Sv.fr (dR (at_ t).2))]
    rw [es, ea]
/-! ### reduced -/
abbrev sMR : Stmt := inClass cMat 11
/-- the matrix of the chosen rows -/
def dChosen (n : Nat) (s : El) : Dt := .obj 1 [.tup (s.ch.map fun r => dVc n r.2), .int n]
def RRed (ds : List Dt) (r : Dt) : Prop := ∃ (h n : Nat) (g : Nat → Nat → Rat), ds = [dMx h n g] ∧ h ≤ 8 ∧ n ≤ 4 ∧ (∀ i j, Sz 4 (g i j)) ∧ r = .tup [dChosen n (el (rowsOf h g) n), .tup (dInts' (el (rowsOf h g) n).pv)]
theorem scMR : FnScope ["self", "chosen", "pivots", "_"] ["self"] (defScope sMR) := ⟨rfl, rfl, rfl, by decide +kernel, rfl, by decide +kernel, by decide +kernel⟩
theorem rowsOf_sz {h n : Nat} {g : Nat → Nat → Rat} (hg : ∀ i j, Sz 4 (g i j)) : SzB n 0 (rowsOf h g) := fun r hr j => by
  obtain ⟨i, _, rfl⟩ := rowsOf_mem hr
  exact (hg i j).mono (by unfold bnd; split <;> decide)
theorem ok_MR (F : Fun K "reduced" "Matrix.reduced" sMR f fd) (D : Md K T mg CR CM) (I : IF' P w K T mg base 1 CM [] 1 RMI) (Fe : DF P w K T mg base "_eliminate" 5 RElim) : FnOk P w K mg base CX0 6 f fd ["self"] (spD K T RRed) := by
  refine okD F scMR (fun ds r h => by obtain ⟨_, _, _, rfl, _⟩ := h; rfl) fun cdv A outer s H E pa ds r hr hR => ?_
  obtain ⟨h, n, g, rfl, hh, hn, hg, rfl⟩ := hR
  have hl := (el_len (rowsOf h g) n).2.1
  have hz := rowsOf_sz (h := h) (n := n) hg
  exact ⟨_, xs_cons (xp_asg (xd_df Fe rfl hr (xa_cons (xd_ff 0 (xd_var 0) D.M rfl D.Mr) (xa_cons (xd_ff 1 (xd_var 0) D.M rfl D.Mw) xa_nil)) ⟨n, n, rowsOf h g, _, rfl, .inr (by rw [rowsOf_rws]), by rw [rowsOf_len]; omega, Nat.le_refl _, by omega, fun i hi _ => ⟨fun r hr j => ((el_900 hz hn i hi).1 r hr j).mono (by decide), fun r hr j => ((el_900 hz hn i hi).2 r hr j).mono (by decide), fun r hr => el_280 hz hn i hi r hr⟩, rfl⟩)
      (xg_tup (n := 3) rfl rfl (xgs_cons (xg_name 1 scMR.nd) (xgs_cons (xg_name 2 scMR.nd) (xgs_cons (xg_name 3 scMR.nd) xgs_nil))) rfl))
    (xs_one (xp_ret (xd_tup (xa_cons (xd_mk D.M I rfl (hr.mono (by decide)) (xa_cons (xd_var 1) (xa_cons (xd_ff 1 (xd_var 0) D.M rfl D.Mw) xa_nil)) ⟨(el (rowsOf h g) n).ch.length, n, fun i => dRow n ((el (rowsOf h g) n).ch.getD i zrow), fun i => rg n fun j => dR (((el (rowsOf h g) n).ch.getD i zrow).2 j), by rw [← map_rg (fun r => dRow n r)]; rfl, by omega, fun i _ => (dRow_or n _).symm, by rw [map_rg (fun r => dVc n r.2)]; rfl⟩) (xa_cons (xd_tuple (xd_var 2) (.inl rfl) rfl D.tup) xa_nil)) (by simp)))), .inl ⟨_, rfl⟩⟩
end
end My
set_option autoImplicit false
set_option maxRecDepth 100000
set_option maxHeartbeats 4000000
set_option exponentiation.threshold 100000
namespace My
open PySem PySem.Spec PyProof.Rows L2 Dv Mq
/-! ### the kernel -/
def frees (n : Nat) (pv : List Nat) : List Nat := (List.range n).filter fun φ => !decide (φ ∈ pv)
/-- places and items of the kernel vector of a free column -/
def kv (s : El) (φ : Nat) : List (Nat × Rat) := s.pv.zip (s.ch.map fun r => -(r.2 φ)) ++ [(φ, 1)]
theorem kv_fst (s : El) (φ k : Nat) (h : Done s k) : (kv s φ).map (·.1) = s.pv ++ [φ] := by
  unfold kv
  rw [List.map_append, List.map_fst_zip (by rw [List.length_map, h.len]; exact Nat.le_refl _)]; rfl
theorem kv_nd (s : El) (φ k : Nat) (h : Done s k) (hn : φ ∉ s.pv) : ((kv s φ).map (·.1)).Nodup := by
  rw [kv_fst s φ k h, List.nodup_append]
  refine ⟨h.sub.nodup List.nodup_range, List.nodup_cons.mpr ⟨fun z => (nomatch z), List.nodup_nil⟩, fun a ha b hb z => ?_⟩
  rw [List.mem_singleton.mp hb] at z
  exact hn (z ▸ ha)
theorem kv_lt (s : El) (φ n : Nat) (h : Done s n) (hφ : φ < n) : ∀ q ∈ kv s φ, q.1 < n := fun q hq => by
  have : q.1 ∈ (kv s φ).map (·.1) := List.mem_map.mpr ⟨q, hq, rfl⟩
  rw [kv_fst s φ n h] at this
  rcases List.mem_append.mp this with g | g
  · exact h.lt g
  · rw [List.mem_singleton.mp g]; exact hφ
/-- the kernel vector is at a right angle to the rows -/
theorem kv_orth (rs : List Row) (n φ : Nat) (hφ : φ < n) (hn : φ ∉ (el rs n).pv) : ∀ r ∈ rs, dt n r.2 (vL (kv (el rs n) φ)) = 0 := by
  have D := el_done rs n
  have nd := kv_nd _ _ _ D hn
  have lt := kv_lt _ _ _ D hφ
  refine (el_orth n rs _ n).mp ⟨fun r hr => sum_zero fun j hj => by rw [D.zero r hr j hj, Rat.zero_mul], fun r hr => ?_⟩
  rw [dt_vL n _ _ lt]
  unfold kv
  rw [sumL_app]
  obtain ⟨t, ht⟩ := List.getElem?_of_mem hr
  have htl : t < (el rs n).pv.length := by rw [← D.len]; exact (List.getElem?_eq_some_iff.mp ht).1
  have hp := List.getElem?_eq_getElem htl
  have hz : ((el rs n).pv.zip ((el rs n).ch.map fun r => -(r.2 φ)))[t]? = some ((el rs n).pv[t], -(r.2 φ)) := by
    rw [List.getElem?_zip_eq_some]
    exact ⟨hp, by rw [List.getElem?_map, ht]; rfl⟩
  have nd1 : (((el rs n).pv.zip ((el rs n).ch.map fun r => -(r.2 φ))).map (·.1)).Nodup := by
    rw [List.map_fst_zip (by rw [List.length_map, D.len]; exact Nat.le_refl _)]
    exact D.sub.nodup List.nodup_range
  rw [sumL_unit nd1 (List.mem_of_getElem? hz) (D.one t r _ ht hp) fun q hq ne => ?_]
  · show -(r.2 φ) + (r.2 φ * 1 + 0) = 0
    rw [Rat.add_zero, Rat.mul_one, Rat.neg_add_cancel]
  · obtain ⟨u, hu⟩ := List.getElem?_of_mem hq
    rw [List.getElem?_zip_eq_some] at hu
    refine D.off t u r q.1 (fun z => ?_) ht hu.1
    subst z
    rw [hp] at hu
    exact ne (Option.some.inj hu.1).symm
section
variable {P : Program} {w : World} {K : PySem.W.Frag} {T : Ct} {mg : Str → Option Value} {base : Heap} {f CR CM : Addr} {fd : FuncData}
theorem dInts'_eq (pv : List Nat) : dInts' pv = (pv.map fun (i : Nat) => (i : Int)).map .int := by unfold dInts'; rw [List.map_map]; rfl
theorem mem_cast {φ : Nat} {pv : List Nat} : decide ((φ : Int) ∈ pv.map fun (i : Nat) => (i : Int)) = decide (φ ∈ pv) := by
  by_cases h : φ ∈ pv
  · rw [decide_eq_true h, decide_eq_true (List.mem_map.mpr ⟨φ, h, rfl⟩)]
  · rw [decide_eq_false h, decide_eq_false fun z => h (by
      obtain ⟨a, ha, e⟩ := List.mem_map.mp z
      have : a = φ := by omega
      exact this ▸ ha)]
theorem frees_succ (i : Nat) (pv : List Nat) : frees (i + 1) pv = frees i pv ++ (if φ_free : i ∈ pv then [] else [i]) := by
  unfold frees
  rw [List.range_succ, List.filter_append]
  congr 1
  by_cases h : i ∈ pv
  · rw [dif_pos h]; simp [h]
  · rw [dif_neg h]; simp [h]
end
end My
set_option autoImplicit false
set_option maxRecDepth 100000
set_option maxHeartbeats 4000000
set_option exponentiation.threshold 100000
namespace My
open PySem PySem.Spec PyProof.Rows L2 Dv Mq
/-! ### every vector of the kernel by its free items -/
theorem dt_scaleR (n : Nat) (a : Rat) (r v : Nat → Rat) : dt n r (fun j => a * v j) = a * dt n r v := by
  rw [dt_comm, dt_scale, dt_comm]
theorem dt_sum (n : Nat) (r : Nat → Rat) (a : Nat → Rat) (V : Nat → Nat → Rat) : ∀ m, dt n r (fun j => sumTo (fun i => a i * V i j) m) = sumTo (fun i => a i * dt n r (V i)) m
  | 0 => sum_zero fun j _ => Rat.mul_zero _
  | m + 1 => by
    show dt n r (fun j => sumTo (fun i => a i * V i j) m + a m * V m j) = sumTo (fun i => a i * dt n r (V i)) m + a m * dt n r (V m)
    rw [dt_add, dt_sum n r a V m, dt_scaleR]
theorem dt_ext {n : Nat} {r v u : Nat → Rat} (h : ∀ j, j < n → v j = u j) : dt n r v = dt n r u := sumTo_ext fun j hj => by rw [h j hj]
theorem frees_mem {n φ : Nat} {pv : List Nat} : φ ∈ frees n pv ↔ φ < n ∧ φ ∉ pv := by
  unfold frees
  rw [List.mem_filter, List.mem_range]
  constructor
  · rintro ⟨h1, h2⟩; exact ⟨h1, by simpa using h2⟩
  · rintro ⟨h1, h2⟩; exact ⟨h1, by simpa using h2⟩
theorem frees_nd (n : Nat) (pv : List Nat) : (frees n pv).Nodup := List.nodup_range.filter _
theorem vL_kv_self {s : El} {n φ : Nat} (h : Done s n) (hn : φ ∉ s.pv) : vL (kv s φ) φ = 1 := vL_in (kv_nd s φ n h hn) (List.mem_append_right _ (List.mem_singleton.mpr rfl))
theorem vL_kv_other {s : El} {n φ ψ : Nat} (h : Done s n) (hψ : ψ ∉ s.pv) (ne : φ ≠ ψ) : vL (kv s φ) ψ = 0 := vL_out fun q hq z => by
  have : q.1 ∈ (kv s φ).map (·.1) := List.mem_map.mpr ⟨q, hq, rfl⟩
  rw [kv_fst s φ n h, z] at this
  rcases List.mem_append.mp this with g | g
  · exact hψ g
  · exact ne (List.mem_singleton.mp g).symm
/-- a vector at a right angle to the chosen rows that is 0 at the free places is 0 -/
theorem zero_of_free {s : El} {n : Nat} {d : Nat → Rat} (h : Done s n) (ho : ∀ r ∈ s.ch, dt n r.2 d = 0) (hf : ∀ j, j < n → j ∉ s.pv → d j = 0) : ∀ j, j < n → d j = 0 := fun j hj => by
  by_cases hp : j ∈ s.pv
  · obtain ⟨t, ht⟩ := List.getElem?_of_mem hp
    have htl : t < s.ch.length := by rw [h.len]; exact (List.getElem?_eq_some_iff.mp ht).1
    have hr := List.getElem?_eq_getElem htl
    have nd : ((s.pv.map fun p => (p, d p)).map (·.1)).Nodup := by
      rw [List.map_map, show ((fun x : Nat × Rat => x.1) ∘ fun p => (p, d p)) = id from rfl, List.map_id]
      exact h.sub.nodup List.nodup_range
    have e : dt n s.ch[t].2 d = dt n s.ch[t].2 (vL (s.pv.map fun p => (p, d p))) := dt_ext fun k hk => by
      by_cases g : k ∈ s.pv
      · exact (vL_in nd (List.mem_map.mpr ⟨k, g, rfl⟩)).symm
      · rw [hf k hk g, vL_out fun q hq z => g (by
          obtain ⟨p, hp, rfl⟩ := List.mem_map.mp hq
          exact z ▸ hp)]
    have z := ho _ (List.mem_of_getElem? hr)
    rw [e, dt_vL n _ _ (fun q hq => by
      obtain ⟨p, hp, rfl⟩ := List.mem_map.mp hq
      exact h.lt hp), sumL_unit nd (List.mem_map.mpr ⟨j, hp, rfl⟩) (h.one t _ j hr ht) fun q hq ne => ?_] at z
    · exact z
    · obtain ⟨p, hp', rfl⟩ := List.mem_map.mp hq
      obtain ⟨u, hu⟩ := List.getElem?_of_mem hp'
      refine h.off t u _ p (fun z => ?_) hr hu
      subst z
      rw [ht] at hu
      exact ne (Option.some.inj hu).symm
  · exact hf j hj hp
theorem ker_comb (rs : List Row) (n : Nat) (z : Nat → Rat) (hz : ∀ r ∈ rs, dt n r.2 z = 0) (j : Nat) (hj : j < n) :
    sumTo (fun i => z ((frees n (el rs n).pv).getD i 0) * vL (kv (el rs n) ((frees n (el rs n).pv).getD i 0)) j) (frees n (el rs n).pv).length = z j := by
  have D := el_done rs n
  have oz := (el_orth n rs z n).mpr hz
  have mem : ∀ i, i < (frees n (el rs n).pv).length → (frees n (el rs n).pv).getD i 0 ∈ frees n (el rs n).pv := fun i hi => by
    rw [List.getD_eq_getElem?_getD, List.getElem?_eq_getElem hi]; exact List.getElem_mem hi
  let u : Nat → Rat := fun j => sumTo (fun i => z ((frees n (el rs n).pv).getD i 0) * vL (kv (el rs n) ((frees n (el rs n).pv).getD i 0)) j) (frees n (el rs n).pv).length
  have ou : ∀ r ∈ (el rs n).ch, dt n r.2 u = 0 := fun r hr => by
    rw [show dt n r.2 u = _ from dt_sum n r.2 (fun i => z ((frees n (el rs n).pv).getD i 0)) (fun i j => vL (kv (el rs n) ((frees n (el rs n).pv).getD i 0)) j) _]
    refine sum_zero fun i hi => ?_
    obtain ⟨h1, h2⟩ := frees_mem.mp (mem i hi)
    rw [((el_orth n rs _ n).mpr (kv_orth rs n _ h1 h2)).2 r hr, Rat.mul_zero]
  have key := zero_of_free (d := fun j => z j - 1 * u j) D (fun r hr => by
    have e : dt n r.2 (fun j => z j - 1 * u j) = dt n r.2 z - 1 * dt n r.2 u := by rw [dt_comm, dt_sub, dt_comm, dt_comm n u]
    rw [e, oz.2 r hr, ou r hr, sub_zero']) fun k hk hn => ?_
  · have := key j hj
    have h2 : z j = u j := by
      have := congrArg (· + u j) this
      simp only [Rat.one_mul, Rat.sub_add_cancel, Rat.zero_add] at this
      exact this
    exact h2.symm
  · obtain ⟨t, ht⟩ := List.getElem?_of_mem (frees_mem.mpr ⟨hk, hn⟩)
    have htl : t < (frees n (el rs n).pv).length := (List.getElem?_eq_some_iff.mp ht).1
    have hg : (frees n (el rs n).pv).getD t 0 = k := by rw [List.getD_eq_getElem?_getD, ht]; rfl
    have e : u k = sumTo (fun i => z ((frees n (el rs n).pv).getD i 0) * (if i = t then 1 else 0)) (frees n (el rs n).pv).length := sumTo_ext fun i hi => by
      congr 1
      by_cases q : i = t
      · subst q; rw [if_pos rfl, hg]; exact vL_kv_self D hn
      · rw [if_neg q]
        refine vL_kv_other D hn fun z => q ?_
        have hi' : (frees n (el rs n).pv)[i]? = some k := by rw [List.getElem?_eq_getElem hi, ← z, List.getD_eq_getElem?_getD, List.getElem?_eq_getElem hi]; rfl
        exact (List.getElem?_inj hi (frees_nd n _)).mp (hi'.trans ht.symm)
    have e2 : u k = z k := by
      rw [e, show sumTo (fun i => z ((frees n (el rs n).pv).getD i 0) * (if i = t then 1 else 0)) _ = dt (frees n (el rs n).pv).length (fun i => z ((frees n (el rs n).pv).getD i 0)) (fun i => if i = t then 1 else 0) from rfl, dt_one _ t htl, hg, Rat.mul_one]
    show z k - 1 * u k = 0
    rw [e2, Rat.one_mul, Rat.sub_self]
theorem sz_vL {b : Nat} {l : List (Nat × Rat)} (hb : 1 ≤ b) (hn : (l.map (·.1)).Nodup) (h : ∀ q ∈ l, Sz b q.2) (j : Nat) : Sz b (vL l j) := by
  by_cases g : ∃ q ∈ l, q.1 = j
  · obtain ⟨q, hq, rfl⟩ := g
    rw [vL_in hn hq]; exact h q hq
  · rw [vL_out fun q hq z => g ⟨q, hq, z⟩]; exact Sz.zero hb
end My
set_option autoImplicit false
set_option maxRecDepth 100000
set_option maxHeartbeats 4000000
set_option exponentiation.threshold 100000
namespace My
open PySem PySem.Spec PyProof.Rows L2 Dv Mq
/-! ### every row of the state is a combination of the rows at the start -/
theorem dt_extL {n : Nat} {r s v : Nat → Rat} (h : ∀ j, j < n → r j = s j) : dt n r v = dt n s v := sumTo_ext fun j hj => by rw [h j hj]
theorem dt_subR (n : Nat) (a : Rat) (r v u : Nat → Rat) : dt n r (fun j => v j - a * u j) = dt n r v - a * dt n r u := by
  rw [dt_comm, dt_sub, dt_comm, dt_comm n u]
def colOf (rs : List Row) (j : Nat) : Nat → Rat := fun i => (rs.getD i zrow).2 j
def InSp (rs : List Row) (f : Nat → Rat) : Prop := ∃ y : Nat → Rat, ∀ j, f j = dt rs.length (colOf rs j) y
theorem sp_mem {rs : List Row} {r : Row} (h : r ∈ rs) : InSp rs r.2 := by
  obtain ⟨i, hi⟩ := List.getElem?_of_mem h
  have hl := (List.getElem?_eq_some_iff.mp hi).1
  refine ⟨fun j => if j = i then 1 else 0, fun j => ?_⟩
  rw [dt_one _ i hl, Rat.mul_one]
  show _ = (rs.getD i zrow).2 j
  rw [List.getD_eq_getElem?_getD, hi]; rfl
theorem sp_scale {rs : List Row} {f : Nat → Rat} (a : Rat) : InSp rs f → InSp rs fun j => a * f j
  | ⟨y, h⟩ => ⟨fun i => a * y i, fun j => by rw [dt_scaleR, ← h]⟩
theorem sp_sub {rs : List Row} {f g : Nat → Rat} (a : Rat) : InSp rs f → InSp rs g → InSp rs fun j => f j - a * g j
  | ⟨y, h⟩, ⟨z, k⟩ => ⟨fun i => y i - a * z i, fun j => by rw [dt_subR, ← h, ← k]⟩
theorem sp_ext {rs : List Row} {f g : Nat → Rat} (e : ∀ j, f j = g j) (h : InSp rs g) : InSp rs f := by
  obtain ⟨y, h⟩ := h
  exact ⟨y, fun j => (e j).trans (h j)⟩
def Spd (rs : List Row) (s : El) : Prop := (∀ r ∈ s.rest, InSp rs r.2) ∧ ∀ r ∈ s.ch, InSp rs r.2
theorem step_sp {rs : List Row} {s : El} (c : Nat) (h : Spd rs s) : Spd rs (s.step c) := by
  unfold El.step
  split
  · exact h
  · rename_i m hf
    obtain ⟨q, h1, h2, _⟩ := firstF_some hf
    have eq : s.rest.getD m zrow = q := by rw [List.getD_eq_getElem?_getD, h1]; rfl
    rw [eq]
    have lq : InSp rs (ldOf q c) := sp_scale _ (h.1 q (List.mem_of_getElem? h1))
    have go : ∀ r : Row, InSp rs r.2 → InSp rs (clr (ldOf q c) c r).2 := fun r hr => sp_ext (fun j => clr_eq _ _ _ j) (sp_sub _ hr lq)
    refine ⟨fun r hr => ?_, fun r hr => ?_⟩
    · obtain ⟨r', hr', rfl⟩ := List.mem_map.mp hr
      rcases List.mem_append.mp hr' with g | g
      · exact go r' (h.1 r' (List.mem_of_mem_take g))
      · exact go r' (h.1 r' (List.mem_of_mem_drop g))
    · rcases List.mem_append.mp hr with g | g
      · obtain ⟨r', hr', rfl⟩ := List.mem_map.mp g
        exact go r' (h.2 r' hr')
      · rw [List.mem_singleton.mp g]; exact lq
theorem el_sp (rs : List Row) : ∀ k, Spd rs (el rs k)
  | 0 => ⟨fun r hr => sp_mem hr, fun r hr => nomatch hr⟩
  | k + 1 => step_sp k (el_sp rs k)
/-! ### sizes where the right side is larger -/
def rh2 : Nat → Nat
  | 0 => 277
  | p + 1 => 2 * rh2 p + 2 * sg p + 1
def bnd2 (w p j : Nat) : Nat := if j < w then sg p else rh2 p
def SzB2 (w p : Nat) (rs : List Row) : Prop := ∀ r ∈ rs, ∀ j, Sz (bnd2 w p j) (r.2 j)
theorem step_sz2 {w : Nat} {s : El} {c : Nat} (hc : c < w) (h : SzB2 w s.pv.length s.rest ∧ SzB2 w s.pv.length s.ch) : SzB2 w (s.step c).pv.length (s.step c).rest ∧ SzB2 w (s.step c).pv.length (s.step c).ch := by
  unfold El.step
  split
  · exact h
  · rename_i m hf
    obtain ⟨q, h1, h2, _⟩ := firstF_some hf
    have eq : s.rest.getD m zrow = q := by rw [List.getD_eq_getElem?_getD, h1]; rfl
    rw [eq]
    obtain ⟨ha, hb⟩ := h
    have hq := ha q (List.mem_of_getElem? h1)
    have ec : bnd2 w s.pv.length c = sg s.pv.length := if_pos hc
    have ld : ∀ j, Sz (sg s.pv.length + bnd2 w s.pv.length j) (ldOf q c j) := fun j => by
      have q1 := hq c
      rw [ec] at q1
      exact (sz_inv q1 h2).mul (hq j)
    have el : ∀ j, 2 * bnd2 w s.pv.length j + 2 * sg s.pv.length + 1 ≤ bnd2 w (s.pv.length + 1) j := fun j => by
      unfold bnd2
      split
      · show 2 * sg s.pv.length + 2 * sg s.pv.length + 1 ≤ 4 * sg s.pv.length + 1; omega
      · exact Nat.le_refl _
    have cl : ∀ r : Row, (∀ j, Sz (bnd2 w s.pv.length j) (r.2 j)) → ∀ j, Sz (bnd2 w (s.pv.length + 1) j) ((clr (ldOf q c) c r).2 j) := fun r hr j => by
      rw [clr_eq]
      have q1 := hr c
      rw [ec] at q1
      exact ((hr j).sub (q1.mul (ld j))).mono (by have := el j; omega)
    have e : (s.pv ++ [c]).length = s.pv.length + 1 := by simp
    show SzB2 w (s.pv ++ [c]).length _ ∧ SzB2 w (s.pv ++ [c]).length _
    rw [e]
    constructor
    · intro r hr
      obtain ⟨r', hr', rfl⟩ := List.mem_map.mp hr
      rcases List.mem_append.mp hr' with g | g
      · exact cl r' (ha r' (List.mem_of_mem_take g))
      · exact cl r' (ha r' (List.mem_of_mem_drop g))
    · intro r hr
      rcases List.mem_append.mp hr with g | g
      · obtain ⟨r', hr', rfl⟩ := List.mem_map.mp g
        exact cl r' (hb r' hr')
      · rw [List.mem_singleton.mp g]
        exact fun j => (ld j).mono (by have := el j; omega)
theorem el_sz2 {w : Nat} {rs : List Row} (h : SzB2 w 0 rs) : ∀ k, k ≤ w → SzB2 w (el rs k).pv.length (el rs k).rest ∧ SzB2 w (el rs k).pv.length (el rs k).ch
  | 0, _ => ⟨h, fun r hr => nomatch hr⟩
  | k + 1, hk => step_sz2 (by omega) (el_sz2 h k (by omega))
/-! ### solving -/
def augF (n : Nat) (g : Nat → Rat) (b : Rat) : Nat → Rat := fun j => if j < n then g j else b
def augR (h n : Nat) (g : Nat → Nat → Rat) (b : Nat → Rat) : List Row := (List.range h).map fun i => (false, augF n (g i) (b i))
/-- places and items of the solution -/
def sv (n : Nat) (s : El) : List (Nat × Rat) := s.pv.zip (s.ch.map fun r => r.2 n)
theorem sv_fst (n k : Nat) (s : El) (h : Done s k) : (sv n s).map (·.1) = s.pv := by
  unfold sv
  rw [List.map_fst_zip (by rw [List.length_map, h.len]; exact Nat.le_refl _)]
theorem dt_aug (n : Nat) (r x : Nat → Rat) (c : Rat) : dt (n + 1) r (augF n x c) = dt n r x + r n * c := by
  show sumTo (fun j => r j * augF n x c j) n + r n * augF n x c n = _
  congr 1
  · exact sumTo_ext fun j hj => by unfold augF; rw [if_pos hj]
  · unfold augF; rw [if_neg (Nat.lt_irrefl n)]
theorem dt_augR (n : Nat) (g x : Nat → Rat) (b c : Rat) : dt (n + 1) (augF n g b) (augF n x c) = dt n g x + b * c := by
  rw [dt_aug]
  congr 1
  · exact sumTo_ext fun j hj => by unfold augF; rw [if_pos hj]
  · unfold augF; rw [if_neg (Nat.lt_irrefl n)]
theorem neg1 (a b : Rat) : a + b * -1 = 0 ↔ a = b := by
  rw [Rat.mul_neg, Rat.mul_one, ← Rat.sub_eq_add_neg]
  constructor
  · intro h
    have := congrArg (· + b) h
    simp only [Rat.sub_add_cancel, Rat.zero_add] at this
    exact this
  · intro h; rw [h, Rat.sub_self]
/-- the rest is 0 on the right where there is a solution -/
theorem rest_zero {h n : Nat} {g : Nat → Nat → Rat} {b x : Nat → Rat} (hx : ∀ i, i < h → dt n (g i) x = b i) : ∀ r ∈ (el (augR h n g b) n).rest, r.2 n = 0 := fun r hr => by
  have o := (el_orth (n + 1) (augR h n g b) (augF n x (-1)) n).mpr fun r hr => by
    obtain ⟨i, hi, rfl⟩ := List.mem_map.mp hr
    rw [dt_augR]
    exact (neg1 _ _).mpr (hx i (List.mem_range.mp hi))
  have z := o.1 r hr
  rw [dt_aug, show dt n r.2 x = 0 from sum_zero fun j hj => by rw [(el_done _ n).zero r hr j hj, Rat.zero_mul]] at z
  exact ((neg1 _ _).mp z).symm
/-- and what is placed solves it -/
theorem sv_solves {h n : Nat} {g : Nat → Nat → Rat} {b : Nat → Rat} (hz : ∀ r ∈ (el (augR h n g b) n).rest, r.2 n = 0) : ∀ i, i < h → dt n (g i) (vL (sv n (el (augR h n g b) n))) = b i := by
  have D := el_done (augR h n g b) n
  have nd : ((sv n (el (augR h n g b) n)).map (·.1)).Nodup := by rw [sv_fst _ _ _ D]; exact D.sub.nodup List.nodup_range
  have lt : ∀ q ∈ sv n (el (augR h n g b) n), q.1 < n := fun q hq => by
    have : q.1 ∈ (sv n (el (augR h n g b) n)).map (·.1) := List.mem_map.mpr ⟨q, hq, rfl⟩
    rw [sv_fst _ _ _ D] at this
    exact D.lt this
  have o : Orth (n + 1) (el (augR h n g b) n) (augF n (vL (sv n (el (augR h n g b) n))) (-1)) := by
    refine ⟨fun r hr => ?_, fun r hr => ?_⟩
    · rw [dt_aug, show dt n r.2 _ = 0 from sum_zero fun j hj => by rw [D.zero r hr j hj, Rat.zero_mul], hz r hr, Rat.zero_mul, Rat.add_zero]
    · rw [dt_aug, dt_vL n _ _ lt]
      obtain ⟨t, ht⟩ := List.getElem?_of_mem hr
      have htl : t < (el (augR h n g b) n).pv.length := by rw [← D.len]; exact (List.getElem?_eq_some_iff.mp ht).1
      have hp := List.getElem?_eq_getElem htl
      have hz : (sv n (el (augR h n g b) n))[t]? = some ((el (augR h n g b) n).pv[t], r.2 n) := by
        unfold sv
        rw [List.getElem?_zip_eq_some]
        exact ⟨hp, by rw [List.getElem?_map, ht]; rfl⟩
      rw [sumL_unit nd (List.mem_of_getElem? hz) (D.one t r _ ht hp) fun q hq ne => ?_]
      · exact (neg1 _ _).mpr rfl
      · obtain ⟨u, hu⟩ := List.getElem?_of_mem hq
        unfold sv at hu
        rw [List.getElem?_zip_eq_some] at hu
        refine D.off t u r q.1 (fun z => ?_) ht hu.1
        subst z
        rw [hp] at hu
        exact ne (Option.some.inj hu.1).symm
  intro i hi
  have z := (el_orth (n + 1) (augR h n g b) _ n).mp o (false, augF n (g i) (b i)) (List.mem_map.mpr ⟨i, List.mem_range.mpr hi, rfl⟩)
  rw [dt_augR] at z
  exact (neg1 _ _).mp z

/-! ### zeros ahead of a pivot -/
def Lead (s : El) : Prop := ∀ (t : Nat) r p, s.ch[t]? = some r → s.pv[t]? = some p → ∀ j, j < p → r.2 j = 0
theorem step_lead {s : El} {k : Nat} (D : Done s k) (h : Lead s) : Lead (s.step k) := by
  unfold El.step
  split
  · exact h
  · rename_i m hf
    obtain ⟨q, h1, h2, _⟩ := firstF_some hf
    have eq : s.rest.getD m zrow = q := by rw [List.getD_eq_getElem?_getD, h1]; rfl
    rw [eq]
    have hm := List.mem_of_getElem? h1
    have l0 : ∀ j, j < k → ldOf q k j = 0 := fun j hj => by
      show (q.2 k)⁻¹ * q.2 j = 0
      rw [D.zero q hm j hj, Rat.mul_zero]
    intro t r p e1 e2 j hj
    by_cases g : t < s.ch.length
    · rw [List.getElem?_append_left (by rw [List.length_map]; exact g), List.getElem?_map] at e1
      rw [List.getElem?_append_left (by rw [← D.len]; exact g)] at e2
      cases q' : s.ch[t]? with
      | none => rw [q'] at e1; cases e1
      | some r' =>
        rw [q'] at e1
        cases e1
        have lp := D.lt (List.mem_of_getElem? e2)
        rw [clr_eq, l0 j (by omega), sub_zero']
        exact h t r' p q' e2 j hj
    · rw [List.getElem?_append_right (by rw [List.length_map]; omega), List.length_map] at e1
      rw [List.getElem?_append_right (by rw [← D.len]; omega), ← D.len] at e2
      have z : t - s.ch.length = 0 := by
        cases q' : t - s.ch.length with
        | zero => rfl
        | succ _ => rw [q'] at e1; cases e1
      rw [z] at e1 e2
      cases e1
      cases e2
      exact l0 j hj
theorem el_lead (rs : List Row) : ∀ k, Lead (el rs k)
  | 0 => fun _ _ _ h => nomatch h
  | k + 1 => step_lead (el_done rs k) (el_lead rs k)
/-! ### a row of the matrix, less its multiples of the chosen rows -/
theorem dt_neg1 (n : Nat) (r v u : Nat → Rat) (a : Rat) : dt n (fun j => v j - a * u j) r = dt n v r - a * dt n u r := dt_sub n a v u r
/-- a vector that is at a right angle to the kernel and 0 at the pivots is 0 -/
theorem zero_of_pv {rs : List Row} {n : Nat} {d : Nat → Rat} (ho : ∀ φ, φ < n → φ ∉ (el rs n).pv → dt n d (vL (kv (el rs n) φ)) = 0) (hp : ∀ p ∈ (el rs n).pv, d p = 0) : ∀ j, j < n → d j = 0 := fun j hj => by
  by_cases q : j ∈ (el rs n).pv
  · exact hp j q
  · have D := el_done rs n
    have z := ho j hj q
    rw [dt_vL n _ _ (kv_lt _ _ _ D hj)] at z
    unfold kv at z
    rw [sumL_app, sumL_zero (fun p hq => hp p.1 (List.of_mem_zip hq).1)] at z
    have e : sumL d [(j, 1)] = d j := by
      show d j * 1 + 0 = d j
      rw [Rat.mul_one, Rat.add_zero]
    rw [e, Rat.zero_add] at z
    exact z
/-- what is left of a vector, line by line -/
def left (ls : List (Nat × (Nat → Rat))) : Nat → (Nat → Rat) → Nat → Rat
  | 0, v => v
  | m + 1, v => fun j => left ls m v j - left ls m v (ls.getD m (0, fun _ => 0)).1 * (ls.getD m (0, fun _ => 0)).2 j
def lns (s : El) : List (Nat × (Nat → Rat)) := s.pv.zip (s.ch.map fun r => r.2)
theorem lns_at {s : El} {k t : Nat} (D : Done s k) (ht : t < s.ch.length) : ∃ r p, s.ch[t]? = some r ∧ s.pv[t]? = some p ∧ (lns s).getD t (0, fun _ => 0) = (p, r.2) := by
  have hp : t < s.pv.length := by rw [← D.len]; exact ht
  refine ⟨s.ch[t], s.pv[t], List.getElem?_eq_getElem ht, List.getElem?_eq_getElem hp, ?_⟩
  have : (lns s)[t]? = some (s.pv[t], s.ch[t].2) := by
    unfold lns
    rw [List.getElem?_zip_eq_some]
    exact ⟨List.getElem?_eq_getElem hp, by rw [List.getElem?_map, List.getElem?_eq_getElem ht]; rfl⟩
  rw [List.getD_eq_getElem?_getD, this]; rfl
theorem left_zero {rs : List Row} {n : Nat} {g : Row} (hg : g ∈ rs) : ∀ j, j < n → left (lns (el rs n)) (el rs n).ch.length g.2 j = 0 := by
  have D := el_done rs n
  -- at the pivots so far 0, at the others as it was; at a right angle to the kernel
  have key : ∀ m, m ≤ (el rs n).ch.length → (∀ (t : Nat) p, (el rs n).pv[t]? = some p → (t < m → left (lns (el rs n)) m g.2 p = 0) ∧ (m ≤ t → left (lns (el rs n)) m g.2 p = g.2 p)) ∧ ∀ φ, φ < n → φ ∉ (el rs n).pv → dt n (left (lns (el rs n)) m g.2) (vL (kv (el rs n) φ)) = 0 := by
    intro m
    induction m with
    | zero =>
      intro _
      exact ⟨fun t p _ => ⟨fun h => absurd h (Nat.not_lt_zero _), fun _ => rfl⟩, fun φ h1 h2 => kv_orth rs n φ h1 h2 g hg⟩
    | succ m ih =>
      intro hm
      obtain ⟨i1, i2⟩ := ih (by omega)
      obtain ⟨r, p, e1, e2, e3⟩ := lns_at D (show m < (el rs n).ch.length by omega)
      have st : ∀ j, left (lns (el rs n)) (m + 1) g.2 j = left (lns (el rs n)) m g.2 j - left (lns (el rs n)) m g.2 p * r.2 j := fun j => by
        show _ - left _ m g.2 ((lns (el rs n)).getD m _).1 * ((lns (el rs n)).getD m _).2 j = _
        rw [e3]
      refine ⟨fun t q hq => ?_, fun φ h1 h2 => ?_⟩
      · rw [st]
        by_cases tm : t = m
        · subst tm
          rw [e2] at hq
          cases hq
          rw [D.one t r p e1 e2, Rat.mul_one, Rat.sub_self]
          exact ⟨fun _ => rfl, fun h => absurd h (by omega)⟩
        · rw [D.off m t r q (fun z => tm z.symm) e1 hq, sub_zero']
          obtain ⟨a, b⟩ := i1 t q hq
          exact ⟨fun h => a (by omega), fun h => b (by omega)⟩
      · have e : dt n (left (lns (el rs n)) (m + 1) g.2) (vL (kv (el rs n) φ)) = dt n (fun j => left (lns (el rs n)) m g.2 j - left (lns (el rs n)) m g.2 p * r.2 j) (vL (kv (el rs n) φ)) := dt_extL fun j _ => st j
        rw [e, dt_sub, i2 φ h1 h2, ((el_orth n rs _ n).mpr (kv_orth rs n φ h1 h2)).2 r (List.mem_of_getElem? e1), sub_zero']
  obtain ⟨k1, k2⟩ := key _ (Nat.le_refl _)
  refine zero_of_pv k2 fun p hp => ?_
  obtain ⟨t, ht⟩ := List.getElem?_of_mem hp
  exact (k1 t p ht).1 (by rw [D.len]; exact (List.getElem?_eq_some_iff.mp ht).1)
/-! ### every chosen row is a combination of the rows, which solve finds -/
theorem line_x {h n : Nat} {g : Nat → Nat → Rat} {r : Row} (hr : r ∈ (el (rowsOf h g) n).ch) : ∃ y : Nat → Rat, ∀ j, j < n → dt h (fun i => g i j) y = r.2 j := by
  obtain ⟨y, hy⟩ := (el_sp (rowsOf h g) n).2 r hr
  rw [rowsOf_len] at hy
  refine ⟨y, fun j _ => ?_⟩
  rw [hy j]
  refine dt_extL fun i hi => ?_
  show g i j = ((rowsOf h g).getD i zrow).2 j
  rw [List.getD_eq_getElem?_getD]
  unfold rowsOf
  rw [List.getElem?_map, List.getElem?_range hi]; rfl
theorem line_rest {h n : Nat} {g : Nat → Nat → Rat} {r : Row} (hr : r ∈ (el (rowsOf h g) n).ch) : ∀ q ∈ (el (augR n h (fun j i => g i j) r.2) h).rest, q.2 h = 0 := by
  obtain ⟨y, hy⟩ := line_x hr
  exact rest_zero hy
theorem line_solved {h n : Nat} {g : Nat → Nat → Rat} {r : Row} (hr : r ∈ (el (rowsOf h g) n).ch) : ∀ j, j < n → sumTo (fun i => vL (sv h (el (augR n h (fun j i => g i j) r.2) h)) i * g i j) h = r.2 j := fun j hj => by
  have := sv_solves (line_rest hr) j hj
  rw [dt_comm] at this
  exact this
/-! ### sizes of that system -/
theorem bndc (w j : Nat) : ∀ p, p ≤ 3 → bnd2 w p j ≤ 2461
  | 0, _ => by unfold bnd2; split <;> decide
  | 1, _ => by unfold bnd2; split <;> decide
  | 2, _ => by unfold bnd2; split <;> decide
  | 3, _ => by unfold bnd2; split <;> decide
theorem aug2_sz {h n : Nat} {g : Nat → Nat → Rat} {b : Nat → Rat} (hg : ∀ i j, Sz 4 (g i j)) (hb : ∀ i, i < h → Sz 277 (b i)) : SzB2 n 0 (augR h n g b) := fun r hr j => by
  obtain ⟨i, hi, rfl⟩ := List.mem_map.mp hr
  show Sz _ (augF n (g i) (b i) j)
  unfold augF bnd2
  split
  · exact hg i j
  · exact hb i (List.mem_range.mp hi)
theorem aug2_el {h n : Nat} {g : Nat → Nat → Rat} {b : Nat → Rat} (hn : n ≤ 4) (hg : ∀ i j, Sz 4 (g i j)) (hb : ∀ i, i < h → Sz 277 (b i)) : ∀ i, i < n → SzR 2470 (el (augR h n g b) i).rest ∧ SzR 2470 (el (augR h n g b) i).ch ∧ ∀ r ∈ (el (augR h n g b) i).rest, Sz 280 (r.2 i) := fun i hi => by
  obtain ⟨h1, h2⟩ := el_sz2 (aug2_sz (h := h) (n := n) hg hb) i (by omega)
  have hp := pv_le (augR h n g b) i
  refine ⟨fun r hr j => (h1 r hr j).mono (by have := bndc n j _ (show (el (augR h n g b) i).pv.length ≤ 3 by omega); omega), fun r hr j => (h2 r hr j).mono (by have := bndc n j _ (show (el (augR h n g b) i).pv.length ≤ 3 by omega); omega), fun r hr => (h1 r hr i).mono ?_⟩
  unfold bnd2
  rw [if_pos hi]
  exact sg3 _ (by omega)
end My
set_option autoImplicit false
set_option maxRecDepth 100000
namespace Dv
open PySem PySem.Spec PyProof.Rows L2
/-! ### a def that hands out a new list of the caller's own -/
def spL (K : PySem.W.Frag) (T : Ct) (R : List Dt → List Dt → Prop) : Sp := fun vs H Q _ => ∃ G ds xs, Ex G H ∧ Reps K T G ds vs ∧ R ds xs ∧
  ∀ p ws G' H', Gr G H G' H' (fun _ => False) (fun _ => False) → Ex G' H' → H p = none → G' p = none → H' p = some (.lst ws) → Reps K T G' xs ws → Q (.ref p) H'
section
variable {c : Ctx} {X : Cx} {st st1 st2 s : Store} {e : Expr} {es : List Expr} {d : Dt} {ds xs : List Dt} {sts rest : List Stmt} {s1 : Stmt} {pos : Pos} {o : Out} {t : Bool} {G G' H H' : Hp} {σ σ' : L2.St}
def tRL (c : Ctx) (st : Store) (xs : List Dt) : TS := fun D σ H => ∃ G, En c.K c.T c.pa G H σ st ∧
  ∀ p ws G' H', Gr G H G' H' (own σ st) (fun _ => False) → Ex G' H' → H p = none → G' p = none → H' p = some (.lst ws) → Reps c.K c.T G' xs ws → D.rt (.ref p) H'
/-- a block that ends by handing out a new list -/
structure XR (c : Ctx) (X : Cx) (sts : List Stmt) (st : Store) (xs : List Dt) : Prop where
  pss : PSs X sts (tRL c st xs)
theorem xr_ret (h : XL c X e st xs st1) : XR c X (.Return (some e) pos :: rest) st xs :=
  ⟨pss_weak (pss_cons (ps_ret h.pe) pss_never') fun D σ H ⟨G, E, kk⟩ => ⟨G, E, fun p vs G1 H1 g1 E1 no hp hn hl r => kk p vs G1 H1 (g1.weakO fun _ h => h.elim) E1.ex hp hn hl r⟩⟩
theorem xr_cons (h1 : XP c X s1 st (.nx st1)) (h2 : XR c X rest st1 xs) : XR c X (s1 :: rest) st xs :=
  ⟨pss_weak (pss_cons h1.ps h2.pss) fun D σ H ⟨G, E, kk⟩ => ⟨G, E, fun σ1 G1 H1 g1 E1 => ⟨G1, E1, fun p ws G2 H2 g2 ex hp hn hl r => kk p ws G2 H2 (g1.trans g2) ex (g1.none hp) hn hl r⟩⟩⟩
end
/-- A DEF that hands out a new list -/
theorem okL {P : Program} {w : World} {K : PySem.W.Frag} {T : Ct} {mg : Str → Option Value} {base : Heap} {x qual : Str} {sd : Stmt} {f : Addr} {fd : FuncData} {N ps : List Str} {k : Nat} {R : List Dt → List Dt → Prop} (F : Fun K x qual sd f fd) (S : FnScope N ps (defScope sd)) (hl : ∀ ds r, R ds r → ds.length = ps.length)
    (body : ∀ (cdv : Value) (A : Around) (outer : List Env) (s : Shared) (H : Hp) (E : XK) (pa : Nat → Addr) (ds xs : List Dt), Room k (A.deeper (envOfC qual (defScope sd) s.heap.objs.size f cdv)) → R ds xs →
      XR ⟨K, T, pa⟩ (bX P w K mg base N qual sd f cdv A outer s H E) (defBody sd) (st0 N ds) xs) : FnOk P w K mg base CX0 (k + 1) f fd ps (spL K T R) := by
  refine F.ok S (fun vs H Q E h => ?_) (fun cdv A outer s H vs Q E hr h => ?_)
  · obtain ⟨G, ds, r, e, rs, hR, _⟩ := h
    rw [← rs.length]; exact hl ds r hR
  · obtain ⟨G, ds, xs, e, rs, hR, kk⟩ := h
    exact ⟨_, (body cdv A outer s H E (fun _ => 0) ds xs hr hR).pss, G, En.start e rs, fun p ws G' H' g ex hp hn hl r => kk p ws G' H' (g.fromO fun p h => own_start h) ex hp hn hl r⟩
/-- the def x of the module hands out a new list -/
structure DL (P : Program) (w : World) (K : PySem.W.Frag) (T : Ct) (mg : Str → Option Value) (base : Heap) (x : Str) (k : Nat) (R : List Dt → List Dt → Prop) : Prop where
  ex : ∃ f fd ps, FnOk P w K mg base CX0 k f fd ps (spL K T R) ∧ mg x = some (.ref f) ∧ PySem.W.keepIn K (.ref f) = true ∧ Binds K fd ps []
section
variable {c : Ctx} {X : Cx} {st st1 st2 s : Store} {e : Expr} {es : List Expr} {d : Dt} {ds xs : List Dt} {pos : Pos}
theorem xl_dl {x : Str} {k : Nat} {R : List Dt → List Dt → Prop} {p : Pos} (F : DL X.prog X.w X.K c.T X.mg X.base x k R) (hK : X.K = c.K) (hr : Room k X.A) (h : XA c X (e :: es) st ds st1) (hR : R ds xs) (hg : Gl X x := by rfl) (hdb : (x == ("__debug__" : Str)) = false := by decide) (he : starEach (e :: es) X.env = (false, eval e X.env) :: starEach es X.env := by rfl) (hpl : (backTo pos (starEach es X.env)).any (·.1) = false := by rfl) :
    XL c X (.Call (.Name x p) (e :: es) [] pos) st xs st1 := by
  obtain ⟨f, fd, ps, F, hm, hk, hb⟩ := F.ex
  have F' : FnOk X.prog X.w X.K X.mg X.base CX0 k f fd ps (spL c.K c.T R) := by rw [hK] at F ⊢; exact F
  have q := pe_call (p := p) (E := fun _ _ _ => False) F' hr hg hm hk hb .nil pass0 h.pa hdb he hpl
  exact ⟨pe_weak q fun σ H Q ⟨G, E, kk⟩ => ⟨G, E, fun vs G1 H1 g1 E1 r1 => ⟨G1, ds, xs, E1.ex, by rw [List.append_nil]; exact r1, hR, fun p ws G2 H2 g2 e2 hp hn hl r =>
    kk p ws G2 H2 (g1.trans (gw_of g2 e2).gr) (E1.g1 (gw_of g2 e2)) (E1.notOwn hp) (g1.none hp) hn hl r⟩⟩⟩
/-! ### slices of the script -/
theorem xd_cutHiR {a b : Expr} {j : Int} (ha : XD c X a st (.ro ds) st1) (hb : XD c X b st1 (.int j) st2) (hj : 0 ≤ j) (hK : X.K = c.K) {p2 : Pos} : XD c X (.Subscript a (.Slice none (some b) none p2) pos) st (.lst (ds.take j.toNat)) st2 :=
  ⟨pe_weak (pe_slice sl_list ha.pe po_none (po_some hb.pe)) fun σ H Q ⟨G, E, kk⟩ => ⟨G, E, fun x G1 H1 g1 E1 r1 => ⟨G1, E1, fun y G2 H2 g2 E2 r2 => by
    obtain ⟨a', vs, rfl, hl, r⟩ := r1.ro_inv
    cases r2
    refine ⟨j, rfl, a', vs, rfl, by rw [hK]; exact E2.ex.sl (g2.ex.sl hl), fun p hp => ?_⟩
    have e : cutV vs none (some j) = vs.take j.toNat := by
      show List.take (HT.sIx vs.length vs.length (some j) - 0) (List.drop 0 vs) = _
      rw [sIx_hi hj, List.drop_zero, Nat.sub_zero]
      by_cases q : j.toNat ≤ vs.length
      · rw [Nat.min_eq_left q]
      · rw [Nat.min_eq_right (by omega), List.take_of_length_le (Nat.le_refl _), List.take_of_length_le (by omega)]
    rw [e]
    exact kk _ _ _ ((g1.trans g2).trans (Gw.new E2.ex hp).gr) (E2.g1 (Gw.new E2.ex hp)) (.lst upd_same ((Reps.take _ (r.ex g2.ex)).ex (Ex.new (E2.ex.none hp))))⟩⟩⟩
end
/-- the def x of the module changes the list that it gets first -/
structure DM (P : Program) (w : World) (K : PySem.W.Frag) (T : Ct) (mg : Str → Option Value) (base : Heap) (x : Str) (k : Nat) (R : List Dt → List Dt → Dt → List Dt → Prop) : Prop where
  ex : ∃ f fd ps, FnOk P w K mg base CX0 k f fd ps (spM K T R) ∧ mg x = some (.ref f) ∧ PySem.W.keepIn K (.ref f) = true ∧ Binds K fd ps []
theorem xd_dm (i : Nat) {c : Ctx} {X : Cx} {st st1 : Store} {es : List Expr} {d : Dt} {ds xs ys : List Dt} {pos : Pos} {s : Sv} {x y : Str} {k : Nat} {R : List Dt → List Dt → Dt → List Dt → Prop} {p py : Pos} (F : DM X.prog X.w X.K c.T X.mg X.base x k R) (hK : X.K = c.K) (hr : Room k X.A) (h : XA c X es st ds st1) (hi : st[i]? = some (some s)) (hi1 : st1[i]? = some (some s)) (hs : s.Has xs) (hR : R xs ds d ys) (hg : Gl X x := by rfl) (hdb : (x == ("__debug__" : Str)) = false := by decide)
    (hN : X.N[i]? = some y := by rfl) (hv : Vis X.env.scope y := by first | exact Or.inl rfl | exact Or.inr (Or.inl rfl) | exact Or.inr (Or.inr rfl)) (hd : (y == ("__debug__" : Str)) = false := by decide) (hcd : (y == ("__classdict__" : Str)) = false := by decide)
    (he : starEach (.Name y py :: es) X.env = (false, eval (.Name y py) X.env) :: starEach es X.env := by rfl) (hpl : (backTo pos (starEach es X.env)).any (·.1) = false := by rfl) :
    XD c X (.Call (.Name x p) (.Name y py :: es) [] pos) st d (st1.set i (some (s.with ys))) := by
  obtain ⟨f, fd, ps, F, hm, hk, hb⟩ := F.ex
  have F' : FnOk X.prog X.w X.K X.mg X.base CX0 k f fd ps (spM c.K c.T R) := by rw [hK] at F ⊢; exact F
  exact xd_callM i (E := fun _ _ _ => False) F' hr hm hk hb pass0 h hi hi1 hs hR hg hdb hN hv hd hcd he hpl
end Dv
set_option autoImplicit false
set_option maxRecDepth 100000
namespace Dv
open PySem PySem.Spec PyProof.Rows L2
/-! ### texts by their signs -/
def sx (l : List Nat) : Str := ⟨l.toArray⟩
theorem sx_len (l : List Nat) : (sx l).length = l.length := by show l.toArray.size = _; simp
theorem sx_app (a b : List Nat) : sx a ++ sx b = sx (a ++ b) := by
  show (⟨a.toArray ++ b.toArray⟩ : Str) = ⟨(a ++ b).toArray⟩
  simp
theorem sx_inj {a b : List Nat} (h : sx a = sx b) : a = b := by
  have := congrArg (fun z : Str => z.cps.toList) h
  simpa [sx] using this
section
variable {c : Ctx} {X : Cx} {st st1 st2 : Store} {a b e tg : Expr} {pos : Pos} {l m : List Nat} {i j : Int} {t : Bool}
theorem xd_addX (ha : XD c X a st (.str (sx l)) st1) (hb : XD c X b st1 (.str (sx m)) st2) (hz : l.length + m.length ≤ 100000) : XD c X (.BinOp a .Add b pos) st (.str (sx (l ++ m))) st2 := by
  have q := xd_bin (pos := pos) ha hb op_add_str (o_str (by rw [sx_len, sx_len]; exact hz))
  rw [sx_app] at q
  exact q
theorem xd_ixX {k q : Nat} (ha : XD c X a st (.str (sx l)) st1) (hb : XD c X b st1 (.int i) st2) (hl : l.length ≤ 100000) (hn : i = k) (hd : l[k]? = some q) (hs : PlainIx b := by exact fun _ _ => rfl) : XD c X (.Subscript a b pos) st (.str (sx [q])) st2 :=
  xd_ixS ha hb (by rw [sx_len]; exact hl) hn (by show l.toArray.toList[k]? = _; exact hd) hs
theorem xd_lenX {p : Pos} (h : XD c X e st (.str (sx l)) st1) (hz : l.length ≤ 100000) (hm : X.mg "len" = none) (hg : Gl X "len" := by rfl) (he : starEach (e :: []) X.env = (false, eval e X.env) :: starEach [] X.env := by rfl) (hpl : (backTo pos (starEach [] X.env)).any (·.1) = false := by rfl) :
    XD c X (.Call (.Name "len" p) [e] [] pos) st (.int (l.length : Int)) st1 := by
  have q := xd_lenS (p := p) h (by rw [sx_len]; exact hz) hm hg he hpl
  rw [sx_len] at q
  exact q
theorem xd_cutHiX (ha : XD c X a st (.str (sx l)) st1) (hb : XD c X b st1 (.int j) st2) (hj : 0 ≤ j) (hz : l.length ≤ 100000) {p2 : Pos} : XD c X (.Subscript a (.Slice none (some b) none p2) pos) st (.str (sx (l.take j.toNat))) st2 :=
  ⟨pe_weak (pe_slice sl_str ha.pe po_none (po_some hb.pe)) fun σ H Q ⟨G, E, kk⟩ => ⟨G, E, fun x G1 H1 g1 E1 r1 => ⟨G1, E1, fun y G2 H2 g2 E2 r2 => by
    cases r1
    cases r2
    refine ⟨j, rfl, sx l, rfl, by rw [sx_len]; exact Nat.le_trans hz (by decide), ?_⟩
    have e : cutS (sx l) none (some j) = sx (l.take j.toNat) := by
      show (⟨(List.take (HT.sIx (sx l).length (sx l).length (some j) - 0) (List.drop 0 l.toArray.toList)).toArray⟩ : Str) = ⟨(l.take j.toNat).toArray⟩
      rw [sIx_hi hj, sx_len, List.drop_zero, Nat.sub_zero]
      by_cases q : j.toNat ≤ l.length
      · rw [Nat.min_eq_left q]
      · rw [Nat.min_eq_right (by omega), List.take_of_length_le (Nat.le_refl _), List.take_of_length_le (by omega)]
    rw [e]
    exact kk _ _ _ (g1.trans g2) E2 .str⟩⟩⟩
theorem xd_cutLoX (ha : XD c X a st (.str (sx l)) st1) (hb : XD c X b st1 (.int j) st2) (hj : 0 ≤ j) (hz : l.length ≤ 100000) {p2 : Pos} : XD c X (.Subscript a (.Slice (some b) none none p2) pos) st (.str (sx (l.drop j.toNat))) st2 :=
  ⟨pe_weak (pe_slice sl_str ha.pe (po_some hb.pe) po_none) fun σ H Q ⟨G, E, kk⟩ => ⟨G, E, fun x G1 H1 g1 E1 r1 => ⟨G1, E1, fun y G2 H2 g2 E2 r2 => by
    cases r1
    cases r2
    refine ⟨j, rfl, sx l, rfl, by rw [sx_len]; exact Nat.le_trans hz (by decide), ?_⟩
    have e : cutS (sx l) (some j) none = sx (l.drop j.toNat) := by
      show (⟨(List.take ((sx l).length - HT.sIx (sx l).length 0 (some j)) (List.drop (HT.sIx (sx l).length 0 (some j)) l.toArray.toList)).toArray⟩ : Str) = ⟨(l.drop j.toNat).toArray⟩
      rw [sIx_hi hj, sx_len, List.take_of_length_le (by rw [List.length_drop]; show l.length - _ ≤ l.length - _; exact Nat.le_refl _)]
      by_cases q : j.toNat ≤ l.length
      · rw [Nat.min_eq_left q]
      · rw [Nat.min_eq_right (by omega), List.drop_eq_nil_of_le (Nat.le_refl _), List.drop_eq_nil_of_le (by omega)]
    rw [e]
    exact kk _ _ _ (g1.trans g2) E2 .str⟩⟩⟩
/-- for sign in text -/
theorem xi_strX (h : XD c X e st (.str (sx l)) st1) : XI c X tg e st (l.map fun q => .str (sx [q])) st1 := by
  have q := xi_str (tg := tg) h
  exact q
end
end Dv
set_option autoImplicit true
set_option maxRecDepth 100000
namespace Dv
open PySem PySem.Spec PyProof.Rows L2

/-! ### what is raised: the class, and what it says of itself -/
structure Xn where
  C : Addr
  at_ : Option (Str × Dt) := none
def ExR (K : PySem.W.Frag) (T : Ct) (G : Hp) (x : Xn) (cls : Value) (d : Option Addr) : Prop := cls = .ref x.C ∧ match x.at_ with
  | none => d = none
  | some (f, v) => ∃ dd vv, d = some dd ∧ G dd = some (.xd [(f, vv)]) ∧ Rep K T G v vv
theorem ExR.ex {K : PySem.W.Frag} {T : Ct} {G G' : Hp} {x : Xn} {cls : Value} {d : Option Addr} (e : Ex G G') (h : ExR K T G x cls d) : ExR K T G' x cls d := by
  obtain ⟨h1, h2⟩ := h
  refine ⟨h1, ?_⟩
  cases q : x.at_ with
  | none => rw [q] at h2; exact h2
  | some p =>
    obtain ⟨f, v⟩ := p
    rw [q] at h2
    obtain ⟨dd, vv, e1, e2, e3⟩ := h2
    exact ⟨dd, vv, e1, e _ _ e2, e3.ex e⟩

variable {c : Ctx} {X : Cx} {st st1 st2 st3 st' : Store} {a b e : Expr} {es : List Expr} {d d1 d2 d' : Dt} {ds xs ys : List Dt} {pos : Pos} {G G' H H' : Hp} {σ σ' : L2.St} {W : WX} {x : Xn} {s : Stmt} {rest : List Stmt} {o : Out}

/-- an expression that raises -/
def tX (c : Ctx) (W : WX) (st : Store) (x : Xn) (st' : Store) : L2.St → Hp → Prop := fun σ H => ∃ G, En c.K c.T c.pa G H σ st ∧
  ∀ G' H' cls d, Gr G H G' H' (own σ st) (own σ st') → En c.K c.T c.pa G' H' σ st' → ExR c.K c.T G' x cls d → W cls d σ H'
structure XX (c : Ctx) (X : Cx) (W : WX) (e : Expr) (st : Store) (x : Xn) (st' : Store) : Prop where
  pe : PE X e (fun σ H _ => tX c W st x st' σ H)
structure XAX (c : Ctx) (X : Cx) (W : WX) (es : List Expr) (st : Store) (x : Xn) (st' : Store) : Prop where
  pa : PA X es (fun σ H _ => tX c W st x st' σ H)
/-- a statement, a block that raises -/
def tXS (c : Ctx) (W : WX) (st : Store) (x : Xn) (st' : Store) : L2.St → Hp → Prop := fun σ H => ∃ G, En c.K c.T c.pa G H σ st ∧
  ∀ σ' G' H' cls d, Gr G H G' H' (own σ st) (own σ' st') → En c.K c.T c.pa G' H' σ' st' → ExR c.K c.T G' x cls d → W cls d σ' H'
structure XPX (c : Ctx) (X : Cx) (W : WX) (s : Stmt) (st : Store) (x : Xn) (st' : Store) : Prop where
  ps : PS X s (fun _ σ H => tXS c W st x st' σ H)
structure XSX (c : Ctx) (X : Cx) (W : WX) (s : List Stmt) (st : Store) (x : Xn) (st' : Store) : Prop where
  pss : PSs X s (fun _ σ H => tXS c W st x st' σ H)
theorem tXS.from (h : ∃ G, En c.K c.T c.pa G H σ st ∧ ∀ σ' G' H' cls d, Gr G H G' H' (own σ st) (own σ' st') → En c.K c.T c.pa G' H' σ' st' → ExR c.K c.T G' x cls d → W cls d σ' H') : tXS c W st x st' σ H := h

theorem xsx_cons (h1 : XP c X s st (.nx st1)) (h2 : XSX c X W rest st1 x st') : XSX c X W (s :: rest) st x st' :=
  ⟨pss_weak (pss_cons h1.ps h2.pss) fun D σ H ⟨G, E, k⟩ => ⟨G, E, fun σ1 G1 H1 g1 E1 => ⟨G1, E1, fun σ2 G2 H2 cls d g2 E2 r => k σ2 G2 H2 cls d (g1.trans g2) E2 r⟩⟩⟩
theorem xsx_here (h1 : XPX c X W s st x st') : XSX c X W (s :: rest) st x st' :=
  ⟨pss_weak (pss_cons h1.ps pss_never') fun D σ H ⟨G, E, k⟩ => ⟨G, E, k⟩⟩
theorem xpx_if {t : Expr} {tb : Bool} {A B : List Stmt} (h : XT c X t st tb st1) (h1 : tb = true → XSX c X W A st1 x st') (h2 : tb = false → XSX c X W B st1 x st') : XPX c X W (.If t A B pos) st x st' := by
  cases tb with
  | true => exact ⟨ps_weak (ps_if h.pt (h1 rfl).pss pss_never') fun D σ H ⟨G, E, k⟩ => ⟨G, E, fun G1 H1 g1 E1 => by refine L2.iteT ?_; exact ⟨G1, E1, fun σ2 G2 H2 cls d g2 E2 r => k σ2 G2 H2 cls d (g1.trans g2) E2 r⟩⟩⟩
  | false => exact ⟨ps_weak (ps_if h.pt pss_never' (h2 rfl).pss) fun D σ H ⟨G, E, k⟩ => ⟨G, E, fun G1 H1 g1 E1 => by refine L2.iteF ?_; exact ⟨G1, E1, fun σ2 G2 H2 cls d g2 E2 r => k σ2 G2 H2 cls d (g1.trans g2) E2 r⟩⟩⟩
theorem xpx_ret (h : XX c X W e st x st') : XPX c X W (.Return (some e) pos) st x st' :=
  ⟨ps_weak (ps_ret h.pe) fun D σ H ⟨G, E, k⟩ => ⟨G, E, fun G' H' cls d g E' r => k σ G' H' cls d g E' r⟩⟩
theorem xpx_expr (h : XX c X W e st x st') (hs : swapsWith e none pos.line X.env = pure false := by rfl) : XPX c X W (.Expr e pos) st x st' :=
  ⟨ps_weak (ps_expr h.pe hs) fun D σ H ⟨G, E, k⟩ => ⟨G, E, fun G' H' cls d g E' r => k σ G' H' cls d g E' r⟩⟩
theorem xpx_set (i : Nat) {y : Str} {pos' : Pos} (hN : X.N.Nodup) (he : XX c X W e st x st') (hi : X.N[i]? = some y := by rfl) (hx : Loc X.env.scope y := by first | exact Or.inl rfl | exact Or.inr rfl) (hs : swapsWith e (some (.Name y pos')) pos.line X.env = pure false := by rfl)
    (hf : X.fn y = true ∨ X.env.scope.names.lookup y = some .local := by first | exact .inl rfl | exact .inr rfl | assumption) : XPX c X W (.Assign [.Name y pos'] e pos) st x st' :=
  ⟨ps_weak (ps_set hN hi hx he.pe hs hf) fun D σ H ⟨G, E, k⟩ => ⟨G, E, fun G' H' cls d g E' r => k σ G' H' cls d g E' r⟩⟩

/-! ### raising itself: an own class without __init__ -/
structure Rz (K : PySem.W.Frag) (mg : Str → Option Value) (x : Str) (C : Addr) : Prop where
  nm : mg x = some (.ref C)
  ex : PySem.W.excIn K C [.type "ValueError", .type "Exception", .type "BaseException", .type "object"] "ValueError.__new__" = true
  kp : PySem.W.keepIn K (.ref C) = true
  sb : PySem.W.subIn K (.ref C) (.type "BaseException") = some true
  ty : PySem.W.typeIn K (.ref C) = some (.type "type")
theorem xpx_raise {y m : Str} {C : Addr} {j : Nat} {p p2 p3 : Pos} (R : Rz X.K X.mg y C) (hc : X.calm = true) (tk : Takes X W) (hg : Gl X y := by rfl) (hdb : (y == ("__debug__" : Str)) = false := by decide) :
    XPX c X W (.Raise (some (.Call (.Name y p) [.Constant (.str m) j p2] [] pos)) none p3) st ⟨C, none⟩ st :=
  ⟨ps_weak (ps_raise hc tk (pmk_own PySem.F.excBase_ValueError R.ex R.nm R.kp (raises_own R.sb R.ty) hg hdb)) fun D σ H ⟨G, E, k⟩ => k σ G H _ _ Gr.refl E ⟨rfl, rfl⟩⟩

/-! ### calls that raise -/
def spX (K : PySem.W.Frag) (T : Ct) (R : List Dt → Xn → Prop) : Sp := fun vs H _ E => ∃ G ds x, Ex G H ∧ Reps K T G ds vs ∧ R ds x ∧
  ∀ cls d G' H', Gr G H G' H' (fun _ => False) (fun _ => False) → Ex G' H' → ExR K T G' x cls d → E cls d H'
theorem okX' {P : Program} {w : World} {K : PySem.W.Frag} {T : Ct} {mg : Str → Option Value} {base : Heap} {y qual : Str} {sd : Stmt} {f : Addr} {fd : FuncData} {N ps : List Str} {k : Nat} {R : List Dt → Xn → Prop} (F : Fun K y qual sd f fd) (S : FnScope N ps (defScope sd)) (hl : ∀ ds x, R ds x → ds.length = ps.length)
    (body : ∀ (cdv : Value) (A : Around) (outer : List Env) (s : Shared) (H : Hp) (E : XK) (pa : Nat → Addr) (ds : List Dt) (x : Xn), Room k (A.deeper (envOfC qual (defScope sd) s.heap.objs.size f cdv)) → R ds x →
      ∃ st', XSX ⟨K, T, pa⟩ (cxOf (L2.CX P w) P w K mg base N qual (defScope sd) f cdv A outer s H E) (fun cls d _ H => E cls d H) (defBody sd) (st0 N ds) x st') : FnOk P w K mg base (L2.CX P w) (k + 1) f fd ps (spX K T R) := by
  refine F.okX S (fun vs H Q E h => ?_) (fun cdv A outer s H vs Q E hr h => ?_)
  · obtain ⟨G, ds, x, e, rs, hR, _⟩ := h
    rw [← rs.length]; exact hl ds x hR
  · obtain ⟨G, ds, x, e, rs, hR, kk⟩ := h
    obtain ⟨st', hb⟩ := body cdv A outer s H E (fun _ => 0) ds x hr hR
    refine ⟨_, hb.pss, G, En.start e rs, fun σ' G' H' cls d g E' r => ?_⟩
    exact kk cls d G' H' ((g.weakO (fun p h => h.elim)).fromO fun p h => own_start h) E'.ex r
theorem sp_x {K : PySem.W.Frag} {T : Ct} {pa : Nat → Addr} {R : List Dt → Xn → Prop} {vs : List V} {Q : VK} (E : En K T pa G H σ st) (r : Reps K T G ds vs) (hR : R ds x)
    (k : ∀ G' H' cls d, Gr G H G' H' (own σ st) (own σ st) → En K T pa G' H' σ st → ExR K T G' x cls d → W cls d σ H') : spX K T R vs H Q (WE W σ) :=
  ⟨G, ds, x, E.ex, r, hR, fun cls d G' H' g e' q => by
    have w := gw_of g e'
    exact k G' H' cls d w.gr (E.g1 w) q⟩
/-- a def by its name, one that raises -/
structure DX (P : Program) (w : World) (K : PySem.W.Frag) (T : Ct) (mg : Str → Option Value) (base : Heap) (x : Str) (k : Nat) (R : List Dt → Xn → Prop) : Prop where
  ex : ∃ f fd ps, FnOk P w K mg base (L2.CX P w) k f fd ps (spX K T R) ∧ mg x = some (.ref f) ∧ PySem.W.keepIn K (.ref f) = true ∧ Binds K fd ps []
structure MX (P : Program) (w : World) (K : PySem.W.Frag) (T : Ct) (mg : Str → Option Value) (base : Heap) (C : Addr) (m : Str) (k : Nat) (R : List Dt → Xn → Prop) : Prop where
  ex : ∃ f fd ps, FnOk P w K mg base (L2.CX P w) k f fd ps (spX K T R) ∧ Meth K C m f ∧ Binds K fd ps []
theorem xx_dx {y : Str} {k : Nat} {R : List Dt → Xn → Prop} {p : Pos} (F : DX X.prog X.w X.K c.T X.mg X.base y k R) (hK : X.K = c.K) (tk : Takes X W) (hr : Room k X.A) (h : XA c X (e :: es) st ds st1) (hR : R ds x) (hg : Gl X y := by rfl) (hdb : (y == ("__debug__" : Str)) = false := by decide) (he : starEach (e :: es) X.env = (false, eval e X.env) :: starEach es X.env := by rfl) (hpl : (backTo pos (starEach es X.env)).any (·.1) = false := by rfl) :
    XX c X W (.Call (.Name y p) (e :: es) [] pos) st x st1 := by
  obtain ⟨f, fd, ps, F, hm, hk, hb⟩ := F.ex
  rw [hK] at F
  exact ⟨pe_weak (pe_callS (by rw [hK]; exact F) hr hg hm hk hb (fun σ => passAt tk σ) h.pa hdb he hpl) fun σ H Q ⟨G, E, k⟩ => ⟨G, E, fun vs G1 H1 g1 E1 r1 =>
    sp_x E1 r1 hR fun G' H' cls d g E' q => k G' H' cls d (g1.trans g) E' q⟩⟩
/-- a + b by the class's own method, one that raises -/
theorem xx_bin {n k : Nat} {fs gs : List Dt} {op : Operator} {R : List Dt → Xn → Prop} {y : Str} {C : Addr} {ns : List Str} (ha : XD c X a st (.obj n fs) st1) (hb1 : XD c X b st1 (.obj n gs) st2) (Q : CF X.K c.T X.mg y n C ns) (hc : PySem.W.selfFirst X.K C = true)
    (F : MX X.prog X.w X.K c.T X.mg X.base C (PySem.dunder op.info.2) k R) (hK : X.K = c.K) (tk : Takes X W) (hr : Room k X.A) (hR : R [.obj n fs, .obj n gs] x) :
    XX c X W (.BinOp a op b pos) st x st2 := by
  obtain ⟨f, fd, ps, F, M, hb⟩ := F.ex
  rw [hK] at F
  refine ⟨⟨fun pins s σ H Q' I h => ?_⟩⟩
  obtain ⟨G, E, kk⟩ := h
  refine wpAny_BinOp (binT ha.pe hb1.pe (R := fun u v H2 => ∃ G2, Gr G H G2 H2 (own σ st) (own σ st2) ∧ En c.K c.T c.pa G2 H2 σ st2 ∧ Rep c.K c.T G2 (.obj n fs) u ∧ Rep c.K c.T G2 (.obj n gs) v) I
    ⟨G, E, fun u G1 H1 g1 E1 r1 => ⟨G1, E1, fun v G2 H2 g2 E2 r2 => ⟨G2, g1.trans g2, E2, r1.ex g2.ex, r2⟩⟩⟩ fun v u s2 vx vy H2 I2 rx ry ⟨G2, g2, E2, r1, r2⟩ => ?_)
  have rs : Reps c.K c.T G2 [.obj n fs, .obj n gs] [vx, vy] := .cons r1 (.cons r2 .nil)
  obtain ⟨C1, ns1, p, dx, vs1, rfl, t1, hp, _, _⟩ := r1.obj_inv
  obtain ⟨C2, ns2, q, dy, vs2, rfl, t2, hq, _, _⟩ := r2.obj_inv
  have eT := Q.at_
  rw [t1] at eT
  cases eT
  rw [t1] at t2
  cases t2
  cases rx
  cases ry
  obtain ⟨mA, J, _⟩ := ins_get I2.hok (E2.ex _ _ hp)
  obtain ⟨mB, J', _⟩ := ins_get I2.hok (E2.ex _ _ hq)
  obtain ⟨od, J, _⟩ := J.look
  obtain ⟨od', J', _⟩ := J'.look
  obtain ⟨m, hF⟩ := I2.fr
  refine PySem.W.binop_K hF I2.ok.mod.kin J J'.type hc M.at_ M.fn (thn (run_fnS (us := [.ref p, .ref q]) (vs := [.ref p, .ref q]) (E := WE W) (by rw [hK]; exact F) hr hb (passAt tk σ) I2 (.cons rfl (.cons rfl .nil)) ?_) fun u s' z => back_of z)
  exact sp_x E2 rs hR fun G' H' cls d g E' z => kk G' H' cls d (g2.trans g) E' z
/-- o.m(e), one that raises -/
theorem xx_mx {n k : Nat} {fs : List Dt} {m : Str} {apos : Pos} {pl : Sem Bool} {R : List Dt → Xn → Prop} {y : Str} {C : Addr} {ns : List Str} (ho : XD c X b st (.obj n fs) st1) (Q : CF X.K c.T X.mg y n C ns) (F : MX X.prog X.w X.K c.T X.mg X.base C m k R) (hK : X.K = c.K) (tk : Takes X W) (hr : Room k X.A)
    (h : XA c X (e :: es) st1 ds st2) (hR : R (.obj n fs :: ds) x) (hno : ns.contains m = false := by decide +kernel) (hst : starEach (e :: es) X.env = (false, eval e X.env) :: starEach es X.env := by rfl) (hpl : (backTo pos (starEach es X.env)).any (·.1) = false := by rfl)
    (ht : eval (.Call (.Attribute b m apos) (e :: es) [] pos) X.env = (do
      let ov ← eval b X.env
      standAt apos.atName
      let (f, first) ← holding [ov] (getMethod ov m pl)
      callWith pos f first (backTo pos (starEach (e :: es) X.env)) (backToKw pos (keywordEach [] X.env))) := by rfl) :
    XX c X W (.Call (.Attribute b m apos) (e :: es) [] pos) st x st2 := by
  obtain ⟨f, fd, ps, F, M, hb⟩ := F.ex
  rw [hK] at F
  refine ⟨⟨fun pins s σ H Q' I h' => ?_⟩⟩
  obtain ⟨G, E, kk⟩ := h'
  refine PySem.W.methodCall_KW (pl := pl) (thn (ho.pe.run pins s σ H (fun u H1 => ∃ G1, Gr G H G1 H1 (own σ st) (own σ st1) ∧ En c.K c.T c.pa G1 H1 σ st1 ∧ Rep c.K c.T G1 (.obj n fs) u) I ⟨G, E, fun u G1 H1 g1 E1 r1 => ⟨G1, g1, E1, r1⟩⟩) fun u s1 ⟨xv, H1, I1, rx, G1, g1, E1, r1⟩ => ?_) ht
  obtain ⟨C1, ns1, p, dx, vs1, rfl, t1, hp, _, _⟩ := id r1.obj_inv
  have eT := Q.at_
  rw [t1] at eT
  cases eT
  obtain rfl : u = Value.ref p := rx
  refine getmeth_ok I1 (E1.ex _ _ hp) Q.cl M (lookup_notin hno) ?_
  refine PySem.W.callWith_K (first := [.ref p]) (h₀ := X.base) I.ok.mod.kin M.kp (thn (h.pa.run pos pins s1 σ H1 (fun vs H2 => ∃ G2, Gr G H G2 H2 (own σ st) (own σ st2) ∧ En c.K c.T c.pa G2 H2 σ st2 ∧ Reps c.K c.T G2 (.obj n fs :: ds) (.ref p :: vs)) I1 ⟨G1, E1, fun vs G2 H2 g2 E2 r2 => ⟨G2, g1.trans g2, E2, .cons (r1.ex g2.ex) r2⟩⟩) fun us s2 ⟨vs, H2, I2, r, G2, g2, E2, rs⟩ => ⟨I2.kIn, ?_⟩) hst hpl
  refine run_fnS (us := .ref p :: us) (vs := .ref p :: vs) (E := WE W) (by rw [hK]; exact F) hr hb (passAt tk σ) I2 (.cons rfl r) ?_
  exact sp_x E2 rs hR fun G' H' cls d g E' z => kk G' H' cls d (g2.trans g) E' z

/-! ### try: its body raises, the clause takes it -/
theorem xp_try {y : Str} {x : Xn} {cv : Value} {body suite : List Stmt} {b0 : Stmt} {np p1 : Pos} (hs : X.stack = X.env :: X.outer) (hf : X.env.frame = some X.env.locals) (hc : Names X y cv) (hK : X.K = c.K) (hm : PySem.W.exmOne X.K (.ref x.C) cv = some true)
    (hb : ∀ (W : WX) (pn : List (Addr × Obj)) (xe : Value → Shared → Prop), Takes (X.tr pn xe) W → PassesOwn (model X.prog X.w) X.A X.env xe → XSX c (X.tr pn xe) W body st x st1)
    (hsu : ∀ (a : Addr) (pn : List (Addr × Obj)), XS c (X.suite a pn) (b0 :: suite) st1 o) :
    XP c X (.Try body [.ExceptHandler (some (.Name y np)) none (b0 :: suite) p1] [] [] pos) st o :=
  ⟨ps_weak (ps_try_only (Wout := fun _ _ _ _ => False) (tb := fun W _ σ H => tXS c W st x st1 σ H) (ts := fun _ _ _ => tO c st1 o) hs hf hc takes0 (fun W pn xe tk pw => (hb W pn xe tk pw).pss) (fun a oe cls d pn _ _ => (hsu a ((a, oe) :: pn)).pss)) fun D σ H ⟨G, E, k⟩ =>
    ⟨G, E, fun σ' G' H' cls d g E' r => by
      obtain ⟨rfl, _⟩ := r
      exact ⟨true, hm, fun _ a ha => ⟨G', E', k.from g⟩, fun z => nomatch z⟩⟩⟩
/-- nothing is raised -/
theorem xp_tryN {body : List Stmt} {h0 : ExceptHandler} {hs : List ExceptHandler} (h : XS c X.nox body st o) : XP c X (.Try body (h0 :: hs) [] [] pos) st o := ⟨ps_try_thru0 h.pss⟩
end Dv
set_option autoImplicit true
set_option maxRecDepth 100000
/-! len(set(text)): a text of unlike ascii signs -/
namespace DvS
open PySem PySem.Spec PyProof.Rows PySem.Froz SS
theorem sub_str_set : isSubtype (.type "str") (.type "set") = pure false := by rw [isSubtype_type]; kernel_rfl
theorem sub_str_frozenset : isSubtype (.type "str") (.type "frozenset") = pure false := by rw [isSubtype_type]; kernel_rfl
section
variable {prog : Program} {w : World} {A : Around} {E : Value → Shared → Prop} {s : Shared}
theorem runD_ok {P : Program} : ∀ (cs : List Nat) (tk : Tok) (D : SD) (l : List Str), TxOk P w D l → TxOk P w (runD w cs tk D) ((cs.map sing).reverse ++ l)
  | [], _, _, _, h => h
  | c :: r, tk, D, l, h => by
    have := runD_ok (P := P) r (tk + 2) _ _ (add_ok (k := sing c) tk h)
    rw [List.map_cons, List.reverse_cons, List.append_assoc]
    exact this
set_option maxHeartbeats 3200000 in
theorem call_set_str {x : Str} {u : Tok} {Q : Value → Shared → Prop}
    (hh : A.handled = none) (ha : x.cps.all (· < 128) = true) (hd : x.cps.toList.Nodup) (hz : x.cps.toList.length < 1000)
    (h : ∀ (h' : Heap) (tk : Nat) (D : SD), h'.get? s.heap.objs.size = some (sObj "set" D) → D.2.2.fits D.1.size = true → D.1.size = x.cps.toList.length →
      (∀ b o, b < s.heap.objs.size → s.heap.get? b = some o → h'.get? b = some o) → Q (.ref s.heap.objs.size) { s with heap := h', toks := tk }) :
    wpAny (model prog w) A (call (.type "set") [.str x u]) Q E s := by
  obtain ⟨c, tl, hmro⟩ := PySem.F.called_set.mro
  have hmade := PySem.F.called_set.made
  have hsub := PySem.F.called_set.sub
  refine wpAny_call (codeAny_of_tree ?_)
  show wpAny _ _ (callAny (.type "set") _) _ _ _
  refine wpAny_pure ⟨Code.quiet_builtin _ (by decide +kernel), codeAny_builtin PySem.F.entry_type_call ?_⟩
  rw [Around.under_plain (weight_type_call_type "set" [.str x u] []) rfl]
  have h1 := PySem.F.called_set.notType
  have h2 := PySem.F.called_set.canCreate
  have hct := PySem.F.typeCall_set_1 (.str x u)
  repeat (any_goals (first | assumption | wp_step))

  refine codeAny_mono (code_set_new_1 (.str x u) (E := E) (Q₁ := fun obj s₁ => ∃ led : Bool, obj = .ref s.heap.objs.size ∧ s₁ = { s with heap := s.heap.push { cls := .type "set", dict := none, data := .set #[] 0 (.fresh 0 0 led) } }) fun led => ⟨led, rfl, rfl⟩) fun r s₁ hr => ?_
  cases r with
  | error e => exact hr
  | ok fl =>
    cases fl with
    | ret obj =>
      obtain ⟨led, rfl, rfl⟩ := hr
      have hS : (s.heap.push { cls := .type "set", dict := none, data := .set #[] 0 (.fresh 0 0 led) }).get? s.heap.objs.size = some { cls := .type "set", dict := none, data := .set #[] 0 (.fresh 0 0 led) } := Heap.get?_push_size _ rfl
      have hT : Shared.TypeIs { s with heap := s.heap.push { cls := .type "set", dict := none, data := .set #[] 0 (.fresh 0 0 led) } } (.ref s.heap.objs.size) "set" := ⟨_, hS, rfl⟩
      have hli := PySem.F.called_set.init.lookup
      have hbi := PySem.F.called_set.init.bind (.ref s.heap.objs.size)
      repeat (any_goals (first | assumption | wp_step))

      refine codeAny_mono (codeAny_call_builtin (R := wants (fun r s₂ => r = .none ∧ ∃ h' tk D, s₂ = { s with heap := h', toks := tk } ∧
          h'.get? s.heap.objs.size = some (sObj "set" D) ∧ D.2.2.fits D.1.size = true ∧ D.1.size = x.cps.toList.length ∧
          (∀ b o, b < s.heap.objs.size → s.heap.get? b = some o → h'.get? b = some o)) E) PySem.F.called_set.init.plain PySem.F.entry_set_init (check_set_init_1 hT ?_)) fun r₂ s₂ hr₂ => ?_
      · have hsls := sub_str_set
        have hslf := sub_str_frozenset
        have hne : (Value.type "str" == Value.type "dict") = false := by decide
        unfold Builtin.«set.__init__» noKeywords Builtin.Frozenset.updateFrom
        generalize hPI : pyIter = PI
        wp_walk
        subst hPI
        refine wpAny_pyIter_ascii ha ?_
        refine wpAny_bind (wpAny_runValue ?_)
        have hne2 : s.heap.objs.size ≠ (s.heap.push { cls := .type "set", dict := none, data := .set #[] 0 (.fresh 0 0 led) }).objs.size := by rw [Heap.size_push]; omega
        have g1 : ((s.heap.push { cls := .type "set", dict := none, data := .set #[] 0 (.fresh 0 0 led) }).push (itObj x u 0)).get? s.heap.objs.size = some (sObj "set" (#[], 0, .fresh 0 0 led)) := Heap.get?_push_of_some _ hS
        have g2 : ((s.heap.push { cls := .type "set", dict := none, data := .set #[] 0 (.fresh 0 0 led) }).push (itObj x u 0)).get? (s.heap.push { cls := .type "set", dict := none, data := .set #[] 0 (.fresh 0 0 led) }).objs.size = some (itObj x u 0) := Heap.get?_push_size _ rfl
        have k0 : TxOk prog w (#[], 0, SetTable.fresh 0 0 led) [] := TxOk.nil (by cases led <;> rfl)
        refine code_update (a := s.heap.objs.size) (u := u) hne2 (by simp [hh]) x.cps.toList 0 (#[], 0, .fresh 0 0 led) [] _ rfl g1 g2 k0 (fun c _ => by simp) hd (by show 0 + x.cps.toList.length < scanBound; unfold scanBound; omega) ?_
        have kk := runD_ok (P := prog) x.cps.toList s.toks (#[], 0, SetTable.fresh 0 0 led) [] k0
        generalize hX : runD w x.cps.toList s.toks (#[], 0, SetTable.fresh 0 0 led) = X at kk
        show wpAny _ _ _ _ _ _
        refine wpAny_pure ?_
        show wpAny _ _ (ret Value.none) _ _ _
        refine wpAny_pure ⟨rfl, _, _, X, rfl, ?_, kk.fit, by rw [kk.sz]; simp, fun b o hb e => ?_⟩
        · refine Heap.get?_push_of_some _ (Heap.get?_push_of_some _ ?_)
          show (two _ _ _ _ _).get? _ = _
          unfold two
          refine PySem.Heap.get?_update_of_ne _ hne2.symm ?_
          have g3 := get_upd (sObj "set" X) g1 rfl
          rw [← hX] at g3 ⊢
          exact g3
        · refine Heap.get?_push_of_some _ (Heap.get?_push_of_some _ ?_)
          show (two _ _ _ _ _).get? _ = _
          unfold two
          have n1 : b ≠ s.heap.objs.size := Nat.ne_of_lt hb
          have n2 : b ≠ (s.heap.push { cls := .type "set", dict := none, data := .set #[] 0 (.fresh 0 0 led) }).objs.size := by rw [Heap.size_push]; omega
          refine PySem.Heap.get?_update_of_ne _ (Ne.symm n2) (PySem.Heap.get?_update_of_ne _ (Ne.symm n1) ?_)
          exact Heap.get?_push_of_some _ (Heap.get?_push_of_some _ e)
      · cases r₂ with
        | error e => exact hr₂
        | ok fl₂ =>
          cases fl₂ with
          | ret r =>
            obtain ⟨rfl, h', tk, D, rfl, q1, q2, q3, hk'⟩ := hr₂
            repeat (any_goals (first | assumption | wp_step))
            exact h _ _ _ q1 q2 q3 hk'
          | _ => exact hr₂.elim
    | _ => exact hr.elim
end
end DvS
namespace Dv
open PySem PySem.Spec PyProof.Rows L2
variable {c : Ctx} {X : Cx} {st st1 st2 st3 st' : Store} {a b e : Expr} {es : List Expr} {d d1 d2 d' : Dt} {ds xs ys : List Dt} {pos : Pos}
def tLenSetX (ta : TE) : TE := fun σ H Q => ta σ H fun x H1 => ∃ z : Str, x = .str z ∧ z.cps.all (· < 128) = true ∧ z.cps.toList.Nodup ∧ z.cps.toList.length < 1000 ∧ Q (.int z.cps.toList.length) H1
theorem pe_lenSetX {a : Expr} {ta : TE} {p p2 q pos : Pos} (hc : X.calm = true) (hg : Gl X "len") (hm : X.mg "len" = none) (hg2 : Gl X "set") (hm2 : X.mg "set" = none) (ha : PE X a ta)
    (na : starEach [a] X.env = (false, eval a X.env) :: starEach [] X.env := by rfl) : PE X (.Call (.Name "len" p) [.Call (.Name "set" p2) [a] [] q] [] pos) (tLenSetX ta) := by
  refine ⟨fun pins s σ H Q I h => ?_⟩
  refine Call_ (ld_blt I hg hm boot_len ?_)
  refine PyProof.Rows.callWith_builtin1 (PyProof.Rows.args_cons ?_ rfl) rfl rfl
  refine Call_ (ld_blt I hg2 hm2 boot_set ?_)
  refine PyProof.Rows.callWith_type1 (PyProof.Rows.args_cons (thn (ha.run pins s σ H _ I h) fun v s1 ⟨x, H1, I1, r1, q1⟩ => PyProof.Rows.args_nil ?_) na) na rfl
  obtain ⟨z, rfl, h1, h2, h3, q1⟩ := q1
  obtain ⟨u, rfl⟩ := r1
  refine DvS.call_set_str (I1.ok.hd hc) h1 h2 h3 fun h' tk D g1 g2 g3 hk => ?_
  refine PyProof.Rows.args_nil ?_
  have I2 : L2.Inv X pins σ H1 { s1 with heap := h', toks := tk } := I1.kept fun b o e => hk b o (Heap.lt_size e) e
  refine call_len_set g1 ⟨rfl, rfl, rfl⟩ rfl g2 (by rw [g3]; omega) ⟨.int z.cps.toList.length, H1, I2.tok _, ⟨_, by rw [g3]⟩, q1⟩
theorem xd_lenSet {l : List Nat} {p p2 q : Pos} (h : XD c X a st (.str (sx l)) st1) (hd : l.Nodup) (hz : l.length < 1000) (hl : ∀ x ∈ l, x < 128) (hc : X.calm = true) (hm : X.mg "len" = none) (hm2 : X.mg "set" = none) (hg : Gl X "len" := by rfl) (hg2 : Gl X "set" := by rfl)
    (na : starEach [a] X.env = (false, eval a X.env) :: starEach [] X.env := by rfl) : XD c X (.Call (.Name "len" p) [.Call (.Name "set" p2) [a] [] q] [] pos) st (.int (l.length : Int)) st1 :=
  ⟨pe_weak (pe_lenSetX hc hg hm hg2 hm2 h.pe na) fun σ H Q ⟨G, E, k⟩ => ⟨G, E, fun v G1 H1 g1 E1 r1 => by
    cases r1
    exact ⟨sx l, rfl, by simpa [sx] using hl, hd, hz, k _ G1 H1 g1 E1 .int⟩⟩⟩
end Dv
set_option autoImplicit true
set_option maxRecDepth 100000
set_option maxHeartbeats 4000000
/-! tuple * 0, tuple * 1 -/
namespace Dv
open PySem PySem.Spec PyProof.Rows L2
theorem tuple_mul0 (l : Addr) (items : Array Value) (n : Nat) (dd : Option Addr) (sl : Array (Option Value)) (u : Tok) (c1 : items.isEmpty = false) :
    Meets (Builtin.«tuple.__mul__» ⟨[.ref l, .int 0 u], []⟩) (fun _ R s => s.heap.get? l = some { cls := .type "tuple", dict := dd, data := .seq items n, slots := sl } ∧
      R (.ok (.ret (Value.ref s.heap.objs.size))) { s with heap := s.heap.push { cls := Value.type "tuple", data := Data.seq #[] } }) :=
  .of_wp fun prog w A R s h => by
    obtain ⟨hp, g, d, tk, os⟩ := s
    obtain ⟨hl, h⟩ := h
    have f1 := AutoSeq1.idx_int
    have e1 : (items.isEmpty || (0 : Int) == 1) = false := by rw [c1]; rfl
    wp_walk using wpAny_loadPart' hl
    repeat (first
      | (refine wpAny_ite_false (decide_eq_false (by rw [e1]; exact Bool.false_ne_true)) ?_; wp_walk using wpAny_loadPart' hl)
      | (refine wpAny_ite_true (decide_eq_true (by decide)) ?_; wp_walk using wpAny_loadPart' hl)
      | (refine wpAny_ite_false (decide_eq_false (by decide)) ?_; wp_walk using wpAny_loadPart' hl))
    exact ⟨_, rfl, h⟩
theorem tuple_mul1 (l : Addr) (items : Array Value) (n : Nat) (dd : Option Addr) (sl : Array (Option Value)) (u : Tok) :
    Meets (Builtin.«tuple.__mul__» ⟨[.ref l, .int 1 u], []⟩) (fun _ R s => s.heap.get? l = some { cls := .type "tuple", dict := dd, data := .seq items n, slots := sl } ∧
      R (.ok (.ret (Value.ref l))) s) :=
  .of_wp fun prog w A R s h => by
    obtain ⟨hp, g, d, tk, os⟩ := s
    obtain ⟨hl, h⟩ := h
    have f1 := AutoSeq1.idx_int
    have e1 : (items.isEmpty || (1 : Int) == 1) = true := by cases items.isEmpty <;> rfl
    wp_walk using wpAny_loadPart' hl
    exact ⟨_, rfl, h⟩
def rRepA (K : PySem.W.Frag) : R2 := fun x y H Q => ∃ l k xs, x = .ref l ∧ y = .int k ∧ SqT K H l xs ∧ xs ≠ [] ∧ 0 ≤ k ∧ k ≤ 1000 ∧ xs.length ≤ 1000 ∧ (k = 1 → Q (.ref l) H) ∧ (k ≠ 1 → ∀ p, H p = none → Q (.ref p) (upd H p (.tup (List.replicate k.toNat xs).flatten)))
variable {c : Ctx} {X : Cx} {st st1 st2 st3 st' : Store} {a b e : Expr} {es : List Expr} {d d1 d2 d' : Dt} {ds xs ys : List Dt} {pos : Pos}
theorem op_repA : OpR X (binaryOp .Mult) (rRepA X.K) := by
  intro pins s σ H x y v u Q I rx ry h
  obtain ⟨l, k, xs, rfl, rfl, hT, hne, h1, h2, hz, q1, q2⟩ := h
  by_cases hk : 2 ≤ k
  · exact op_repT pins s σ H _ _ v u Q I rx ry ⟨l, k, xs, rfl, rfl, hT, hne, hk, h2, hz, q2 (by omega)⟩
  cases rx
  obtain ⟨t, rfl⟩ := ry
  obtain ⟨its, r, ⟨⟨cls, dd, data, sl⟩, ho, hc, n, hd⟩, hs⟩ := I.tuple hT
  simp only at hc hd
  subst hc hd
  have hle : its.length = xs.length := r.length.symm
  have hn : its ≠ [] := fun e => hne (by
    rw [e] at hle
    exact List.eq_nil_of_length_eq_zero hle.symm)
  have hi : its.toArray.isEmpty = false := by
    cases its with
    | nil => exact absurd rfl hn
    | cons a b => rfl
  by_cases k1 : k = 1
  · subst k1
    refine wpAny_binaryOp_repeat_ref (T := "tuple") (U := "int") (by decide) ⟨_, ho, rfl⟩ (fun s' => typeIs_int s' 1 t) noFill_tuple_mul F.fills_int_mul F.slot_int_rmul repeat_tuple F.slot_int_index.lookup
      (call_meets F.slot_int_rmul (typeIs_int s 1 t) F.entry_int_rmul (F.args_int_rmul_2 _ _) (int_rmul_tuple 1 t l its.toArray n dd sl)
        ⟨ho, rfl, ⟨_, ho, rfl⟩, call_meets F.slot_tuple_mul ⟨_, ho, rfl⟩ F.entry_tuple_mul (F.args_tuple_mul_2 _ _) (tuple_mul1 l its.toArray n dd sl t) ⟨ho, ?_⟩⟩)
    exact ⟨.ref l, H, I, rfl, q1 rfl⟩
  · have k0 : k = 0 := by omega
    subst k0
    refine wpAny_binaryOp_repeat_ref (T := "tuple") (U := "int") (by decide) ⟨_, ho, rfl⟩ (fun s' => typeIs_int s' 0 t) noFill_tuple_mul F.fills_int_mul F.slot_int_rmul repeat_tuple F.slot_int_index.lookup
      (call_meets F.slot_int_rmul (typeIs_int s 0 t) F.entry_int_rmul (F.args_int_rmul_2 _ _) (int_rmul_tuple 0 t l its.toArray n dd sl)
        ⟨ho, rfl, ⟨_, ho, rfl⟩, call_meets F.slot_tuple_mul ⟨_, ho, rfl⟩ F.entry_tuple_mul (F.args_tuple_mul_2 _ _) (tuple_mul0 l its.toArray n dd sl t hi) ⟨ho, ?_⟩⟩)
    refine ⟨.ref s.heap.objs.size, _, I.laid (t' := s.toks) (o := .tup (List.replicate (0 : Int).toNat xs).flatten) (fun b ob q => Heap.get?_push_of_some _ q) (Nat.le_refl _) ?_, rfl, q2 (by decide) _ (I.hok.fresh (Nat.le_refl _))⟩
    exact ⟨Nat.zero_le _, [], .nil, IsTup.new _ _⟩
theorem xd_trep {k : Int} (ha : XD c X a st (.tup ds) st1) (hb : XD c X b st1 (.int k) st2) (hK : X.K = c.K) (h0 : ds ≠ []) (h1 : 0 ≤ k) (h2 : k ≤ 1000) (h3 : ds.length ≤ 1000) : XD c X (.BinOp a .Mult b pos) st (.tup (List.replicate k.toNat ds).flatten) st2 :=
  xd_bin ha hb op_repA fun G H x y Q e r1 r2 kk => by
    obtain ⟨l, vs, rfl, h, r⟩ := r1.tup_inv
    cases r2
    refine ⟨l, k, vs, rfl, rfl, by rw [hK]; exact e.st h, fun z => h0 (by rw [z] at r; exact List.eq_nil_of_length_eq_zero r.length), h1, h2, by rw [← r.length]; exact h3, fun hk => ?_, fun _ p hp => ?_⟩
    · subst hk
      exact kk _ G H (Gw.refl e) (.tup h (by show Reps _ _ _ (List.replicate 1 ds).flatten vs; rw [List.replicate_one, List.flatten_cons, List.flatten_nil, List.append_nil]; exact r))
    · exact kk _ _ _ (Gw.new e hp) (.tup (SqT.of upd_same) ((r.replicate k.toNat).ex (Gw.new (o := .tup _) e hp).ex))
theorem xd_tcat (ha : XD c X a st (.tup ds) st1) (hb : XD c X b st1 (.tup xs) st2) (hK : X.K = c.K) (hz : ds.length + xs.length ≤ 100000) : XD c X (.BinOp a .Add b pos) st (.tup (ds ++ xs)) st2 :=
  xd_bin ha hb op_catA fun G H x y Q e r1 r2 kk => by
    obtain ⟨l, vs, rfl, h, r⟩ := r1.tup_inv
    obtain ⟨l2, vs2, rfl, h2, r2⟩ := r2.tup_inv
    refine ⟨l, l2, vs, vs2, rfl, rfl, by rw [hK]; exact e.st h, by rw [hK]; exact e.st h2, by rw [← r.length, ← r2.length]; exact Nat.le_trans hz (by decide), fun z => ?_, fun _ z => ?_, fun _ _ p hp => ?_⟩
    · subst z
      cases r
      exact kk _ G H (Gw.refl e) (.tup h2 r2)
    · subst z
      cases r2
      exact kk _ G H (Gw.refl e) (.tup h (by rw [List.append_nil]; exact r))
    · exact kk _ _ _ (Gw.new e hp) (.tup (SqT.of upd_same) ((r.app r2).ex (Gw.new (o := .tup _) e hp).ex))

/-! ### two comparisons in a row -/
theorem xd_chain {op op' : CmpOp} {r r' : R2} {c3 : Expr} {d3 : Dt} {t u : Bool} (ha : XD c X a st d1 st) (hb : XD c X b st d2 st) (hc : XD c X c3 st d3 st) (ho : OpR X (compareOp op) r) (ho' : OpR X (compareOp op') r') (h1 : Op2 c d1 d2 (.bl t) r) (h2 : Op2 c d2 d3 (.bl u) r') (hm : lastMarks [op, op'] [b, c3] = false := by rfl) : XD c X (.Compare a [op, op'] [b, c3] pos) st (.bl (t && u)) st :=
  ⟨pe_weak (pe_chain ho ho' ha.pe hb.pe hc.pe (hm := hm)) fun σ H Q ⟨G, E, k⟩ => ⟨G, E, fun x G1 H1 g1 E1 r1 => ⟨G1, E1, fun y G2 H2 g2 E2 r2 => h1 G2 H2 x y _ E2.ex (r1.ex g2.ex) r2 fun v G3 H3 g3 r3 => by
    cases r3
    refine ⟨t, rfl, ?_⟩
    cases t with
    | true =>
      refine L2.iteT ?_
      exact ⟨G3, E2.g1 g3, fun z G4 H4 g4 E4 r4 => h2 G4 H4 y z Q E4.ex (r2.ex (g3.ex.trans g4.ex)) r4 fun v G5 H5 g5 r5 => k v G5 H5 ((((g1.trans g2).trans g3.gr).trans g4).trans g5.gr) (E4.g1 g5) (by cases r5; exact .bl)⟩
    | false =>
      refine L2.iteF ?_
      exact k _ G3 H3 ((g1.trans g2).trans g3.gr) (E2.g1 g3) .bl⟩⟩⟩
theorem xd_leleI {i j m : Int} {c3 : Expr} (ha : XD c X a st (.int i) st) (hb : XD c X b st (.int j) st) (hc : XD c X c3 st (.int m) st) (hm : lastMarks [.LtE, .LtE] [b, c3] = false := by rfl) : XD c X (.Compare a [.LtE, .LtE] [b, c3] pos) st (.bl (decide (i ≤ j) && decide (j ≤ m))) st :=
  xd_chain ha hb hc op_le op_le (o_B0 (g := fun i j => decide (i ≤ j))) (o_B0 (g := fun i j => decide (i ≤ j))) hm
theorem lt_one {q r : Nat} : decide ([q] < [r]) = decide (q < r) := by
  by_cases h : q < r
  · rw [decide_eq_true h, decide_eq_true (List.cons_lt_cons_iff.mpr (.inl h))]
  · rw [decide_eq_false h, decide_eq_false fun z => (List.cons_lt_cons_iff.mp z).elim h fun y => absurd y.2 (by simp)]
theorem o_leX {l m : List Nat} : Op2 c (.str (sx l)) (.str (sx m)) (.bl (!decide (m < l))) (fun x y H Q => ∃ i j, x = .str i ∧ y = .str j ∧ Q (.bl (!decide (j.cps.toList < i.cps.toList))) H) := fun G H x y Q e r1 r2 k => by
  cases r1; cases r2
  exact ⟨sx l, sx m, rfl, rfl, kv_same k e .bl⟩
theorem xd_leleX {q r u : Nat} {c3 : Expr} (ha : XD c X a st (.str (sx [r])) st) (hb : XD c X b st (.str (sx [q])) st) (hc : XD c X c3 st (.str (sx [u])) st) (hm : lastMarks [.LtE, .LtE] [b, c3] = false := by rfl) : XD c X (.Compare a [.LtE, .LtE] [b, c3] pos) st (.bl (decide (r ≤ q) && decide (q ≤ u))) st := by
  have h := xd_chain (pos := pos) ha hb hc op_le_str op_le_str o_leX o_leX hm
  have e : ∀ i j : Nat, (!decide ([i] < [j])) = decide (j ≤ i) := fun i j => by
    rw [lt_one]
    by_cases z : i < j
    · rw [decide_eq_true z, decide_eq_false (by omega)]; rfl
    · rw [decide_eq_false z, decide_eq_true (by omega)]; rfl
  rw [e, e] at h
  exact h

/-! ### a sign in a text -/
theorem xt_notinX {q : Nat} {l : List Nat} {t : Bool} (ha : XD c X a st (.str (sx [q])) st1) (hb : XD c X b st1 (.str (sx l)) st2) (ht : (!decide (q ∈ l)) = t) (hm : behindInMarks .NotIn b = false := by rfl) : XT c X (.Compare a [.NotIn] [b] pos) st t st2 :=
  xt_cmp ha hb op_notIn_sign (fun G H x y Q e r1 r2 k => by
    cases r1; cases r2
    refine ⟨q, sx l, rfl, rfl, ?_⟩
    have := kv_same k e (.bl (b := t))
    rw [← ht] at this
    exact this) hm
theorem xd_inX {q : Nat} {l : List Nat} (ha : XD c X a st (.str (sx [q])) st1) (hb : XD c X b st1 (.str (sx l)) st2) (hm : behindInMarks .In b = false := by rfl) : XD c X (.Compare a [.In] [b] pos) st (.bl (decide (q ∈ l))) st2 :=
  xd_cmp ha hb op_in_sign (fun G H x y Q e r1 r2 k => by
    cases r1; cases r2
    exact ⟨q, sx l, rfl, rfl, kv_same k e .bl⟩) hm
end Dv
set_option autoImplicit true
set_option maxRecDepth 100000
set_option maxHeartbeats 4000000
/-! the first place of a sign in a text -/
namespace DvS
open PySem PySem.Spec PySem.StrLaws Builtin Builtin.Str
theorem occ_full (s sub : Str) (hi : Nat) : ∀ (l : List Nat) (st : Array Nat × Nat), st.fst.size = 1 → (forIn l st (occBody s sub hi 1)).run.fst = st.fst
  | [], st, h => rfl
  | a :: l, st, h => by
    rw [List.forIn_cons]
    unfold occBody
    rw [if_neg fun z => by have := z.1.1.1; omega]
    exact occ_full s sub hi l _ h
theorem occ_hit (s sub : Str) (hi k : Nat) (post : List Nat) (hk : k + sub.length ≤ hi ∧ subAt s sub k = true) : ∀ (pre : List Nat) (free : Nat), free ≤ k → (∀ i ∈ pre, ¬ (i + sub.length ≤ hi ∧ subAt s sub i = true)) →
    (forIn (pre ++ k :: post) ((#[] : Array Nat), free) (occBody s sub hi 1)).run.fst = #[k]
  | [], free, hf, _ => by
    rw [List.nil_append, List.forIn_cons]
    unfold occBody
    rw [if_pos ⟨⟨⟨by simp, hf⟩, hk.1⟩, hk.2⟩]
    exact occ_full s sub hi post _ rfl
  | a :: pre, free, hf, hp => by
    rw [List.cons_append, List.forIn_cons]
    unfold occBody
    rw [if_neg fun z => hp a (List.mem_cons_self ..) ⟨z.1.2, z.2⟩]
    exact occ_hit s sub hi k post hk pre free hf fun i hi => hp i (List.mem_cons_of_mem _ hi)
theorem find_sign (x : Str) (c k : Nat) (hk : x.cps.toList[k]? = some c) (hn : ∀ j, j < k → x.cps.toList[j]? ≠ some c) : PySem.Txt.find x ⟨#[c]⟩ = (k : Int) := by
  have hl : k < x.length := by
    obtain ⟨h, _⟩ := List.getElem?_eq_some_iff.mp hk
    simpa [Str.length] using h
  have e : List.range' 0 (x.length + 1 - 0) = List.range' 0 k ++ k :: List.range' (k + 1) (x.length - k) := by
    have e1 : x.length + 1 - 0 = k + (1 + (x.length - k)) := by omega
    rw [e1, ← List.range'_append_1, Nat.zero_add, ← List.range'_append_1]; rfl
  have h : occurrences x ⟨#[c]⟩ 0 x.length 1 = [k] := by
    rw [occ_eq, e, occ_hit x ⟨#[c]⟩ x.length k _ ((subAt_one x c k).mpr hk) (List.range' 0 k) 0 (Nat.zero_le _) fun i hi z => hn i (by simp [List.mem_range'] at hi; omega) ((subAt_one x c i).mp z)]
  unfold Txt.find
  rw [h]
end DvS
namespace Dv
open PySem PySem.Spec PyProof.Rows L2
variable {c : Ctx} {X : Cx} {st st1 st2 st3 st' : Store} {a b e : Expr} {es : List Expr} {d d1 d2 d' : Dt} {ds xs ys : List Dt} {pos apos : Pos}
theorem idx_first {l : List Nat} {q : Nat} : q ∈ l → l[l.idxOf q]? = some q ∧ ∀ j, j < l.idxOf q → l[j]? ≠ some q := by
  intro h
  have hl := List.idxOf_lt_length_of_mem h
  refine ⟨by rw [List.getElem?_eq_getElem hl, List.getElem_idxOf], fun j hj z => ?_⟩
  obtain ⟨h1, h2⟩ := List.getElem?_eq_some_iff.mp z
  have := List.not_of_lt_findIdx (p := (· == q)) (xs := l) (by exact hj)
  simp [h2] at this
theorem xd_findX {l : List Nat} {q : Nat} (ha : XD c X a st (.str (sx l)) st1) (hb : XD c X b st1 (.str (sx [q])) st2) (hq : q ∈ l)
    (hbase : attributeBase a "find" X.env (eval a X.env) = eval a X.env := by rfl)
    (hfew : ((backTo pos (starEach (b :: []) X.env)).all (fun x => !x.1) && (backToKw pos (keywordEach [] X.env)).all (fun x => x.1.isSome)
      && decide ((b :: ([] : List Expr)).length + ([] : List Keyword).length + (if ([] : List Keyword).isEmpty then 0 else 1) < 30)) = true := by rfl)
    (hline : (apos.endLine == pos.line) = true := by rfl) (hs : starEach (b :: []) X.env = (false, eval b X.env) :: starEach [] X.env := by rfl) (hplain : (backTo pos (starEach [] X.env)).any (·.1) = false := by rfl) :
    XD c X (.Call (.Attribute a "find" apos) [b] [] pos) st (.int ((l.idxOf q : Nat) : Int)) st2 :=
  ⟨pe_weak (pe_bm PySem.F.plainAttrs_str PySem.F.slot_str_find PySem.F.type_str_find mt_find ha.pe (pa_cons hb.pe pa_nil hs) hbase hfew hline hs hplain) fun σ H Q ⟨G, E, k⟩ => ⟨G, E, fun x G1 H1 g1 E1 r1 => by
    cases r1
    refine ⟨rfl, G1, E1, fun y G2 H2 g2 E2 r2 => ?_⟩
    cases r2
    refine ⟨sx l, sx [q], rfl, rfl, ?_⟩
    rw [show Txt.find (sx l) (sx [q]) = ((l.idxOf q : Nat) : Int) from DvS.find_sign (sx l) q _ (idx_first hq).1 (idx_first hq).2]
    exact k _ G2 H2 (g1.trans g2) E2 .int⟩⟩
end Dv
set_option autoImplicit true
set_option maxRecDepth 100000
set_option maxHeartbeats 4000000
/-! == and != of tuples, with both answers -/
namespace DvE
open PySem PySem.Spec PyProof.Rows GQ
section
variable {prog : Program} {w : World} {A : Around} {R : Result → Shared → Prop}
theorem tuple_eqB (l b : Addr) (items items2 : Array Value) (n n2 : Nat) (dd dd2 : Option Addr) (sl sl2 : Array (Option Value)) (I : Nat → Shared → Prop) (f : Nat → Bool)
    (turn : ∀ i (h1 : i < items.size) (h2 : i < items2.size) s, I i s → wpAny (model prog w) A.in1 (eqBool items[i] items2[i]) (fun r s' => r = f i ∧ I (i + 1) s') (fun e s' => R (.error e) s') s)
    (finF : ∀ i s, i < items.size → i < items2.size → f i = false → I (i + 1) s → R (.ok (.ret (.bool false))) s)
    (finT : ∀ i s, (∀ j, j < items.size → j < items2.size → f j = true) → I i s → R (.ok (.ret (.bool (items.size == items2.size)))) s) {s : Shared} (hl1 : s.heap.get? l = some { cls := .type "tuple", dict := dd, data := .seq items n, slots := sl }) (hb1 : s.heap.get? b = some { cls := .type "tuple", dict := dd2, data := .seq items2 n2, slots := sl2 }) (h : I 0 s) :
    wpAny (model prog w) A.in1 (Builtin.«tuple.__eq__» ⟨[.ref l, .ref b], []⟩) (FinOf prog w A R) (fun e s' => R (.error e) s') s := by
  have f2 := AutoSeq1.sub_tuple_tuple
  have hZ : (items.toList.zip items2.toList).length = min items.size items2.size := by simp
  have h0 := h
  obtain ⟨hp, g, d, tk, os⟩ := s
  wp_walk using wpAny_loadPart' hl1, wpAny_loadPart' hb1, wpAny_forIn_list _ (fun rest b s' => b.1 = none ∧ ∃ i, rest = (items.toList.zip items2.toList).drop i ∧ (∀ j, j < i → j < items.size → j < items2.size → f j = true) ∧ I i s') _
  case turn =>
    rintro ⟨y, x⟩ rest b s' ⟨hb', i, hz, hi, hI⟩
    have hlt : i < (items.toList.zip items2.toList).length := by
      rcases Nat.lt_or_ge i (items.toList.zip items2.toList).length with h' | h'
      · exact h'
      · rw [List.drop_of_length_le h'] at hz; cases hz
    have h1 : i < items.size := by omega
    have h2 : i < items2.size := by omega
    rw [List.drop_eq_getElem_cons hlt] at hz
    injection hz with hyx hrest
    have hy : y = items[i] := by have := congrArg Prod.fst hyx; simpa using this
    have hx : x = items2[i] := by have := congrArg Prod.snd hyx; simpa using this
    subst hy hx
    refine wpAny_bind (wpAny_mono (turn i h1 h2 s' hI) (fun r s2 q2 => ?_) fun _ _ x => x)
    obtain ⟨hr, q2⟩ := q2
    subst hr
    cases hf : f i with
    | true =>
      wp_walk
      exact ⟨rfl, i + 1, hrest, fun j hj g1 g2 => by
        by_cases q : j = i
        · subst q; exact hf
        · exact hi j (by omega) g1 g2, q2⟩
    | false =>
      have hR := finF i s2 h1 h2 hf q2
      wp_walk
      exact hR
  case fin =>
    rintro ⟨b1, b2⟩ s' ⟨hb', i, hz, hi, hI⟩
    simp only at hb'
    subst hb'
    have hge : min items.size items2.size ≤ i := by
      rcases Nat.lt_or_ge i (items.toList.zip items2.toList).length with h' | h'
      · rw [List.drop_eq_getElem_cons h'] at hz; cases hz
      · exact hZ ▸ h'
    have hR := finT i s' (fun j g1 g2 => hi j (by omega) g1 g2) hI
    wp_walk
    exact hR
  case h =>
    exact ⟨rfl, 0, rfl, fun j hj => absurd hj (Nat.not_lt_zero _), h0⟩
theorem tuple_neB (l b : Addr) (items items2 : Array Value) (n n2 : Nat) (dd dd2 : Option Addr) (sl sl2 : Array (Option Value)) (I : Nat → Shared → Prop) (f : Nat → Bool)
    (turn : ∀ i (h1 : i < items.size) (h2 : i < items2.size) s, I i s → wpAny (model prog w) A.in1 (eqBool items[i] items2[i]) (fun r s' => r = f i ∧ I (i + 1) s') (fun e s' => R (.error e) s') s)
    (finF : ∀ i s, i < items.size → i < items2.size → f i = false → I (i + 1) s → R (.ok (.ret (.bool true))) s)
    (finT : ∀ i s, (∀ j, j < items.size → j < items2.size → f j = true) → I i s → R (.ok (.ret (.bool (items.size != items2.size)))) s) {s : Shared} (hl1 : s.heap.get? l = some { cls := .type "tuple", dict := dd, data := .seq items n, slots := sl }) (hb1 : s.heap.get? b = some { cls := .type "tuple", dict := dd2, data := .seq items2 n2, slots := sl2 }) (h : I 0 s) :
    wpAny (model prog w) A.in1 (Builtin.«tuple.__ne__» ⟨[.ref l, .ref b], []⟩) (FinOf prog w A R) (fun e s' => R (.error e) s') s := by
  have f2 := AutoSeq1.sub_tuple_tuple
  have hZ : (items.toList.zip items2.toList).length = min items.size items2.size := by simp
  have h0 := h
  obtain ⟨hp, g, d, tk, os⟩ := s
  wp_walk using wpAny_loadPart' hl1, wpAny_loadPart' hb1, wpAny_forIn_list _ (fun rest b s' => b.1 = none ∧ ∃ i, rest = (items.toList.zip items2.toList).drop i ∧ (∀ j, j < i → j < items.size → j < items2.size → f j = true) ∧ I i s') _
  case turn =>
    rintro ⟨y, x⟩ rest b s' ⟨hb', i, hz, hi, hI⟩
    have hlt : i < (items.toList.zip items2.toList).length := by
      rcases Nat.lt_or_ge i (items.toList.zip items2.toList).length with h' | h'
      · exact h'
      · rw [List.drop_of_length_le h'] at hz; cases hz
    have h1 : i < items.size := by omega
    have h2 : i < items2.size := by omega
    rw [List.drop_eq_getElem_cons hlt] at hz
    injection hz with hyx hrest
    have hy : y = items[i] := by have := congrArg Prod.fst hyx; simpa using this
    have hx : x = items2[i] := by have := congrArg Prod.snd hyx; simpa using this
    subst hy hx
    refine wpAny_bind (wpAny_mono (turn i h1 h2 s' hI) (fun r s2 q2 => ?_) fun _ _ x => x)
    obtain ⟨hr, q2⟩ := q2
    subst hr
    cases hf : f i with
    | true =>
      wp_walk
      exact ⟨rfl, i + 1, hrest, fun j hj g1 g2 => by
        by_cases q : j = i
        · subst q; exact hf
        · exact hi j (by omega) g1 g2, q2⟩
    | false =>
      have hR := finF i s2 h1 h2 hf q2
      wp_walk
      exact hR
  case fin =>
    rintro ⟨b1, b2⟩ s' ⟨hb', i, hz, hi, hI⟩
    simp only at hb'
    subst hb'
    have hge : min items.size items2.size ≤ i := by
      rcases Nat.lt_or_ge i (items.toList.zip items2.toList).length with h' | h'
      · rw [List.drop_eq_getElem_cons h'] at hz; cases hz
      · exact hZ ▸ h'
    have hR := finT i s' (fun j g1 g2 => hi j (by omega) g1 g2) hI
    wp_walk
    exact hR
  case h =>
    exact ⟨rfl, 0, rfl, fun j hj => absurd hj (Nat.not_lt_zero _), h0⟩
end
end DvE
namespace Dv
open PySem PySem.Spec PyProof.Rows L2
abbrev Eqb := Bool → V → V → Hp → Prop
def MonB (D : Eqb) : Prop := ∀ r x y H H', L2.Ext H H' → D r x y H → D r x y H'
def EqB (X : Cx) (n : Nat) (D : Eqb) : Prop :=
  ∀ (A : Around) (pins : List (Addr × Obj)) (s : Shared) (σ : L2.St) (H : Hp) (x y : V) (u v : Value) (r : Bool), Sub X n A → Inv X pins σ H s → RelV x u → RelV y v → D r x y H →
    wpAny (model X.prog X.w) A (eqBool u v) (fun q s' => q = r ∧ ∃ H', Inv X pins σ H' s' ∧ L2.Ext H H') X.xe s
def RcB (X : Cx) (n : Nat) (op : CmpOp) (g : Bool → Bool) (D : Eqb) : Prop :=
  ∀ (A : Around) (pins : List (Addr × Obj)) (s : Shared) (σ : L2.St) (H : Hp) (x y : V) (u v : Value) (r : Bool), Sub X n A → Inv X pins σ H s → RelV x u → RelV y v → D r x y H →
    wpAny (model X.prog X.w) A (richCompare op u v) (fun q s' => q = .bool (g r) ∧ ∃ H', Inv X pins σ H' s' ∧ L2.Ext H H') X.xe s
section
variable {X : Cx} {n m : Nat} {D D' : Eqb}
def DTupB (K : PySem.W.Frag) (D : Eqb) : Eqb := fun r x y H => ∃ a b xs ys, x = .ref a ∧ y = .ref b ∧ SqT K H a xs ∧ SqT K H b ys ∧ ∃ f : Nat → Bool, (∀ (i : Nat) x y, xs[i]? = some x → ys[i]? = some y → D (f i) x y H) ∧
  (r = true ↔ xs.length = ys.length ∧ ∀ i, i < xs.length → i < ys.length → f i = true)
theorem turnB (hD : MonB D) (h : EqB X n D) {A : Around} (sb : Sub X (n + 1) A) {pins : List (Addr × Obj)} {σ : L2.St} {H : Hp} {xs ys : List V} {its its2 : List Value} {f : Nat → Bool} (p : ∀ (i : Nat) x y, xs[i]? = some x → ys[i]? = some y → D (f i) x y H) (r : Vals xs its) (r2 : Vals ys its2)
    (i : Nat) (h1 : i < its.toArray.size) (h2 : i < its2.toArray.size) (s' : Shared) (l : LoopI X pins σ H s') :
    wpAny (model X.prog X.w) A.in1 (eqBool its.toArray[i] its2.toArray[i]) (fun r s2 => r = f i ∧ LoopI X pins σ H s2) X.xe s' := by
  obtain ⟨H1, I1, e1⟩ := l
  have g1 : its[i]? = some its.toArray[i] := by
    have h1' : i < its.length := by simpa using h1
    rw [List.getElem?_eq_getElem h1'] <;> simp
  have g2 : its2[i]? = some its2.toArray[i] := by
    have h2' : i < its2.length := by simpa using h2
    rw [List.getElem?_eq_getElem h2'] <;> simp
  have k1 : i < xs.length := by rw [r.length]; simpa using h1
  have k2 : i < ys.length := by rw [r2.length]; simpa using h2
  obtain ⟨u, hu, ru⟩ := r.get (List.getElem?_eq_getElem k1)
  obtain ⟨v, hv, rv⟩ := r2.get (List.getElem?_eq_getElem k2)
  rw [g1] at hu
  rw [g2] at hv
  rw [Option.some.inj hu, Option.some.inj hv]
  refine wpAny_mono (h A.in1 pins s' σ H1 _ _ u v _ sb.in1 I1 ru rv (hD _ _ _ _ _ e1 (p i _ _ (List.getElem?_eq_getElem k1) (List.getElem?_eq_getElem k2)))) (fun r s2 q => ?_) fun _ _ x => x
  obtain ⟨hr, H2, I2, e2⟩ := q
  exact ⟨hr, H2, I2, e1.trans e2⟩
theorem rcB_tupEq (hD : MonB D) (h : EqB X n D) : RcB X (n + 1) .Eq id (DTupB X.K D) := by
  intro A pins s σ H x y u v r sb I rx ry d
  obtain ⟨a, b, xs, ys, rfl, rfl, ha, hb, f, p, hr⟩ := d
  cases rx
  cases ry
  obtain ⟨its, q, e, z⟩ := I.tuple ha
  obtain ⟨its2, q2, e2, z2⟩ := I.tuple hb
  have l1 : its.toArray.size = xs.length := by rw [List.size_toArray, ← q.length]
  have l2 : its2.toArray.size = ys.length := by rw [List.size_toArray, ← q2.length]
  obtain ⟨⟨cls, dd, data, sl⟩, ho, hc, n1, hd⟩ := id e
  obtain ⟨⟨cls2, dd2, data2, sl2⟩, ho2, hc2, n2, hd2⟩ := id e2
  simp only at hc hd hc2 hd2
  subst hc hd hc2 hd2
  refine wpAny_richCompare_same_room (op := .Eq) ⟨_, ho, rfl⟩ ⟨_, ho2, rfl⟩ F.slot_tuple_eq (GQ.call_here F.slot_tuple_eq ⟨_, ho, rfl⟩ F.entry_tuple_eq (F.args_tuple_eq_2 _ _) ?_) sb.room.units0
  refine DvE.tuple_eqB (R := wants (fun v s' => v ≠ .notImplemented ∧ (v = .bool (id r) ∧ ∃ H', Inv X pins σ H' s' ∧ L2.Ext H H')) X.xe) a b its.toArray its2.toArray n1 n2 dd dd2 sl sl2 (fun _ s' => LoopI X pins σ H s') f (fun i h1 h2 s' q' => turnB hD h sb p q q2 i h1 h2 s' q') (fun i s' h1 h2 hf q' => ⟨(fun x => nomatch x), ?_, q'⟩) (fun i s' hT q' => ⟨(fun x => nomatch x), ?_, q'⟩) ho ho2 ⟨H, I, Ext.rfl'⟩
  · have : r ≠ true := fun z => by
      have := (hr.mp z).2 i (by omega) (by omega)
      rw [hf] at this; cases this
    cases r with
    | true => exact absurd rfl this
    | false => rfl
  · rw [l1, l2]
    cases r with
    | true => rw [(hr.mp rfl).1]; simp
    | false =>
      have : xs.length ≠ ys.length := fun z => by
        have := hr.mpr ⟨z, fun i g1 g2 => hT i (by omega) (by omega)⟩
        cases this
      show Value.bool _ = Value.bool false
      congr 1
      simpa using this
theorem rcB_tupNe (hD : MonB D) (h : EqB X n D) : RcB X (n + 1) .NotEq not (DTupB X.K D) := by
  intro A pins s σ H x y u v r sb I rx ry d
  obtain ⟨a, b, xs, ys, rfl, rfl, ha, hb, f, p, hr⟩ := d
  cases rx
  cases ry
  obtain ⟨its, q, e, z⟩ := I.tuple ha
  obtain ⟨its2, q2, e2, z2⟩ := I.tuple hb
  have l1 : its.toArray.size = xs.length := by rw [List.size_toArray, ← q.length]
  have l2 : its2.toArray.size = ys.length := by rw [List.size_toArray, ← q2.length]
  obtain ⟨⟨cls, dd, data, sl⟩, ho, hc, n1, hd⟩ := id e
  obtain ⟨⟨cls2, dd2, data2, sl2⟩, ho2, hc2, n2, hd2⟩ := id e2
  simp only at hc hd hc2 hd2
  subst hc hd hc2 hd2
  refine wpAny_richCompare_same_room (op := .NotEq) ⟨_, ho, rfl⟩ ⟨_, ho2, rfl⟩ F.slot_tuple_ne (GQ.call_here F.slot_tuple_ne ⟨_, ho, rfl⟩ F.entry_tuple_ne (F.args_tuple_ne_2 _ _) ?_) sb.room.units0
  refine DvE.tuple_neB (R := wants (fun v s' => v ≠ .notImplemented ∧ (v = .bool (!r) ∧ ∃ H', Inv X pins σ H' s' ∧ L2.Ext H H')) X.xe) a b its.toArray its2.toArray n1 n2 dd dd2 sl sl2 (fun _ s' => LoopI X pins σ H s') f (fun i h1 h2 s' q' => turnB hD h sb p q q2 i h1 h2 s' q') (fun i s' h1 h2 hf q' => ⟨(fun x => nomatch x), ?_, q'⟩) (fun i s' hT q' => ⟨(fun x => nomatch x), ?_, q'⟩) ho ho2 ⟨H, I, Ext.rfl'⟩
  · have : r ≠ true := fun z => by
      have := (hr.mp z).2 i (by omega) (by omega)
      rw [hf] at this; cases this
    cases r with
    | true => exact absurd rfl this
    | false => rfl
  · rw [l1, l2]
    cases r with
    | true => rw [(hr.mp rfl).1]; simp
    | false =>
      have : xs.length ≠ ys.length := fun z => by
        have := hr.mpr ⟨z, fun i g1 g2 => hT i (by omega) (by omega)⟩
        cases this
      show Value.bool _ = Value.bool true
      congr 1
      simpa using this
/-- own instances -/
def DInsB (C : Addr) (R : Bool → Addr → Addr → Hp → Prop) : Eqb := fun r x y H => ∃ a b dx dy fs gs, x = .ref a ∧ y = .ref b ∧ H a = some (.ins C dx fs) ∧ H b = some (.ins C dy gs) ∧ R r a b H ∧ (a = b → r = true)
def spEqB (R : Bool → Addr → Addr → Hp → Prop) : Sp := fun vs H Q _ => ∃ a b r, vs = [.ref a, .ref b] ∧ R r a b H ∧ ∀ H', L2.Ext H H' → Q (.bl r) H'
theorem eqB_ins {CX : CXT} {C f : Addr} {fd : FuncData} {ps : List Str} {R : Bool → Addr → Addr → Hp → Prop} {E : XK} (F : FnOk X.prog X.w X.K X.mg X.base CX n f fd ps (spEqB R))
    (hs : PySem.W.findIn X.K (.ref C) "__eq__" = some (some (.ref f))) (hf : PySem.W.isFn X.K (.ref f) = true) (hb : Binds X.K fd ps []) (hx : Passes CX X E) : EqB X n (DInsB C R) := by
  intro A pins s σ H x y u v r sb I rx ry d
  obtain ⟨a, b, dx, dy, fs, gs, rfl, rfl, ha, hb', hr, hs'⟩ := d
  cases rx
  cases ry
  by_cases hab : a = b
  · subst hab
    have := hs' rfl
    subst this
    exact SeqAt.EqAt.same (A := A) (s := s) (.ref a) X.prog X.w X.xe _ ⟨rfl, H, I, Ext.rfl'⟩
  obtain ⟨mA, J, _⟩ := ins_get I.hok ha
  obtain ⟨mB, J', _⟩ := ins_get I.hok hb'
  obtain ⟨od, J, _⟩ := J.look
  obtain ⟨od', J', _⟩ := J'.look
  obtain ⟨m, hF⟩ := I.fr
  refine GQ.eqBool_refG hab ?_
  refine PySem.W.cmp_K (op := .Eq) (tb := .ref C) sb.room.units0 hF I.ok.mod.kin J J'.type (by simp [PySem.W.notFirst]) hs hf ?_
  have hsp : spEqB R [.ref a, .ref b] H (fun v H' => v = .bl r ∧ L2.Ext H H') E → True := fun _ => trivial
  have hsp : spEqB R [.ref a, .ref b] H (fun v H' => ∃ r', R r' a b H ∧ v = .bl r' ∧ L2.Ext H H') E := ⟨a, b, r, rfl, hr, fun H' e => ⟨r, hr, rfl, e⟩⟩
  have hsp : spEqB (fun r' a b H => R r' a b H ∧ r' = r) [.ref a, .ref b] H (fun v H' => v = .bl r ∧ L2.Ext H H') E := ⟨a, b, r, rfl, ⟨hr, rfl⟩, fun H' e => ⟨rfl, e⟩⟩
  have hsp : spEqB R [.ref a, .ref b] H (fun v H' => v = .bl r ∧ L2.Ext H H') E := ⟨a, b, r, rfl, hr, fun H' e => ⟨rfl, e⟩⟩
  have e0 : Env0 X.prog X.w X.K X.mg X.base A X.stack s H := by
    have e := I.env0
    exact ⟨by rw [sb.fr]; exact e.frames, e.mod, e.bs, e.bsz, e.funs, e.frf, e.hok, e.bare⟩
  have hl := F.len _ _ _ _ hsp
  have r2 : Vals [V.ref a, V.ref b] [Value.ref a, Value.ref b] := .cons rfl (.cons rfl .nil)
  refine wpAny_call (codeAny_mono (F.run A X.stack s H ⟨[.ref a, .ref b], []⟩ [.ref a, .ref b] [.ref a, .ref b] _ E sb.room e0 (by
    have := hb s [.ref a, .ref b] I.kIn (by simpa using hl)
    simpa using this) r2 hsp) fun r s' hq => ?_)
  cases r with
  | error e => exact hx pins σ H s e s' I hq
  | ok fl =>
    cases fl with
    | ret w =>
      obtain ⟨z, H', I', rz, ez, ex⟩ := I.after hq
      subst ez
      cases rz
      exact ⟨_, rfl, rfl, H', I', ex⟩
    | next => exact False.elim hq
    | brk => exact False.elim hq
    | cont => exact False.elim hq
def rEqB (g : Bool → Bool) (D : Eqb) : R2 := fun x y H Q => ∃ r, D r x y H ∧ ∀ H', L2.Ext H H' → Q (.bl (g r)) H'
theorem op_eqB (h : RcB X n .Eq id D) (hr : Room n X.A) : OpR X (compareOp .Eq) (rEqB id D) := by
  intro pins s σ H x y v u Q I rx ry hq
  obtain ⟨r, d, q⟩ := hq
  show wpAny (model X.prog X.w) X.A (richCompare .Eq v u) (EP X pins σ Q) X.xe s
  refine wpAny_mono (h X.A pins s σ H x y v u r ⟨hr, rfl⟩ I rx ry d) (fun r' s' z => ?_) fun _ _ x => x
  obtain ⟨hr', H', I', e⟩ := z
  subst hr'
  exact ⟨.bl (id r), H', I', rfl, q H' e⟩
theorem op_neB (h : RcB X n .NotEq not D) (hr : Room n X.A) : OpR X (compareOp .NotEq) (rEqB not D) := by
  intro pins s σ H x y v u Q I rx ry hq
  obtain ⟨r, d, q⟩ := hq
  show wpAny (model X.prog X.w) X.A (richCompare .NotEq v u) (EP X pins σ Q) X.xe s
  refine wpAny_mono (h X.A pins s σ H x y v u r ⟨hr, rfl⟩ I rx ry d) (fun r' s' z => ?_) fun _ _ x => x
  obtain ⟨hr', H', I', e⟩ := z
  subst hr'
  exact ⟨.bl (!r), H', I', rfl, q H' e⟩
end
end Dv
set_option autoImplicit true
set_option maxRecDepth 100000
set_option maxHeartbeats 4000000
namespace Dv
open PySem PySem.Spec PyProof.Rows L2
variable {c : Ctx} {X : Cx} {st st1 st2 st3 st' : Store} {a b e : Expr} {es : List Expr} {d d1 d2 d' : Dt} {ds xs ys fs gs : List Dt} {pos : Pos} {n m k : Nat} {D : Eqb} {r t : Bool} {G G' H H' : Hp}
theorem mon_tupB {K : PySem.W.Frag} (hD : MonB D) : MonB (DTupB K D) := fun r x y H H' e d => by
  obtain ⟨a, b, xs, ys, hx, hy, h1, h2, f, p, hr⟩ := d
  exact ⟨a, b, xs, ys, hx, hy, L2.SqT.ext h1 e, L2.SqT.ext h2 e, f, fun i x y q1 q2 => hD _ _ _ _ _ e (p i x y q1 q2), hr⟩
theorem mon_insB {C : Addr} {R : Bool → Addr → Addr → Hp → Prop} (hR : ∀ r a b H H', L2.Ext H H' → R r a b H → R r a b H') : MonB (DInsB C R) := fun r x y H H' e d => by
  obtain ⟨a, b, dx, dy, fs, gs, hx, hy, h1, h2, q, z⟩ := d
  exact ⟨a, b, dx, dy, fs, gs, hx, hy, e _ _ h1, e _ _ h2, hR r a b H H' e q, z⟩
def ReflB (D : Eqb) : Prop := ∀ r x H, D r x x H → r = true
theorem refl_insB {C : Addr} {R : Bool → Addr → Addr → Hp → Prop} : ReflB (DInsB C R) := fun r x H d => by
  obtain ⟨a, b, dx, dy, fs, gs, hx, hy, h1, h2, q, z⟩ := d
  rw [hx] at hy
  cases hy
  exact z rfl
theorem eqB_tup (hD : MonB D) (h : EqB X n D) (hR : ReflB D) : EqB X (n + 1) (DTupB X.K D) := by
  intro A pins s σ H x y u v r sb I rx ry d
  obtain ⟨a, b, xs, ys, rfl, rfl, h1, h2, f, p, hr⟩ := id d
  cases rx
  cases ry
  by_cases hab : a = b
  · subst hab
    have e : xs = ys := sqk_inj (κ := .t) I h1 h2
    subst e
    have : r = true := hr.mpr ⟨rfl, fun i g1 g2 => hR _ _ _ (p i _ _ (List.getElem?_eq_getElem g1) (List.getElem?_eq_getElem g1))⟩
    subst this
    exact SeqAt.EqAt.same (A := A) (s := s) (.ref a) X.prog X.w X.xe _ ⟨rfl, H, I, Ext.rfl'⟩
  · refine GQ.eqBool_refG hab (wpAny_mono (rcB_tupEq hD h A pins s σ H (.ref a) (.ref b) _ _ r sb I rfl rfl d) (fun r' s' q => ?_) fun _ _ x => x)
    obtain ⟨hr', q⟩ := q
    exact ⟨r, hr', rfl, q⟩
/-! ### on data -/
def RDB (c : Ctx) (D : Eqb) (r : Bool) (d1 d2 : Dt) : Prop := ∀ (G H : Hp) (x y : V), Ex G H → Rep c.K c.T G d1 x → Rep c.K c.T G d2 y → D r x y H
def OwnRB (c : Ctx) (n : Nat) (R : List Dt → Dt → Prop) (r : Bool) (a b : Addr) (H : Hp) : Prop := ∃ G fs gs, Ex G H ∧ Rep c.K c.T G (.obj n fs) (.ref a) ∧ Rep c.K c.T G (.obj n gs) (.ref b) ∧ R [.obj n fs, .obj n gs] (.bl r)
theorem own_spEqB {P : Program} {w : World} {K : PySem.W.Frag} {mg : Str → Option Value} {base : Heap} {CX : CXT} {k : Nat} {f : Addr} {fd : FuncData} {ps : List Str} {R : List Dt → Dt → Prop} (F : FnOk P w K mg base CX k f fd ps (spD c.K c.T R)) : FnOk P w K mg base CX k f fd ps (spEqB (OwnRB c n R)) :=
  F.imp fun vs H Q E ⟨a, b, r, e1, ⟨G, fs, gs, ex, r1, r2, hR⟩, kk⟩ => ⟨G, [.obj n fs, .obj n gs], .bl r, ex, by rw [e1]; exact .cons r1 (.cons r2 .nil), hR, fun v G' H' g e' r' => by
    cases r'
    exact kk H' (gw_of g e').hx⟩
abbrev DOwn (c : Ctx) (C : Addr) (n : Nat) (R : List Dt → Dt → Prop) : Eqb := DInsB C (OwnRB c n R)
theorem own_monB {C : Addr} {R : List Dt → Dt → Prop} : MonB (DOwn c C n R) := mon_insB fun r a b H H' e ⟨G, fs, gs, ex, q⟩ => ⟨G, fs, gs, ex.trans e, q⟩
theorem own_eqB {C : Addr} {R : List Dt → Dt → Prop} (F : MF X.prog X.w X.K c.T X.mg X.base C "__eq__" k R) (hK : X.K = c.K) : EqB X k (DOwn c C n R) := by
  obtain ⟨f, fd, ps, F, hf, hb⟩ := F.ex
  rw [hK] at F
  exact eqB_ins (E := fun _ _ _ => False) (by rw [hK]; exact own_spEqB F) hf.at_ hf.fn hb pass0
theorem reps_scal {K : PySem.W.Frag} {T : Ct} {G : Hp} : ∀ {fs gs : List Dt} {vs : List V}, fs.all Dt.scal = true → gs.all Dt.scal = true → Reps K T G fs vs → Reps K T G gs vs → fs = gs
  | [], [], _, _, _, _, _ => rfl
  | [], _ :: _, _, _, _, h1, h2 => by cases h1; cases h2
  | _ :: _, [], _, _, _, h1, h2 => by cases h2; cases h1
  | f :: fs, g :: gs, _, a1, a2, h1, h2 => by
    cases h1 with
    | cons r1 t1 =>
      cases h2 with
      | cons r2 t2 =>
        simp only [List.all_cons, Bool.and_eq_true] at a1 a2
        rw [reps_scal a1.2 a2.2 t1 t2]
        congr 1
        cases r1 <;> cases r2 <;> first | rfl | (cases a1.1) | (cases a2.1)
theorem rdb_own {C : Addr} {R : List Dt → Dt → Prop} {ns : List Str} (hT : c.T n = some (C, ns)) (hR : R [.obj n fs, .obj n gs] (.bl r)) (hs : r = true ∨ (fs.all Dt.scal = true ∧ gs.all Dt.scal = true ∧ fs ≠ gs)) : RDB c (DOwn c C n R) r (.obj n fs) (.obj n gs) := fun G H x y ex r1 r2 => by
  obtain ⟨C1, ns1, q, dx, ws, rfl, q1, q2, q3, q4⟩ := id r1.obj_inv
  rw [hT] at q1
  cases q1
  obtain ⟨C1, ns1, q', dx', ws', rfl, q1, q2', q3', q4'⟩ := id r2.obj_inv
  rw [hT] at q1
  cases q1
  refine ⟨q, q', dx, dx', _, _, rfl, rfl, ex _ _ q2, ex _ _ q2', ⟨G, fs, gs, ex, r1, r2, hR⟩, fun z => ?_⟩
  rcases hs with hs | ⟨s1, s2, hn⟩
  · exact hs
  · subst z
    rw [q2] at q2'
    have e1 : ns.zip ws = ns.zip ws' := by
      injection q2' with q2'
      injection q2'
    have e2 : ws = ws' := by
      have := congrArg (List.map Prod.snd) e1
      rwa [List.map_snd_zip (by omega), List.map_snd_zip (by omega)] at this
    subst e2
    exact absurd (reps_scal s1 s2 q4 q4') hn
theorem rdb_tup (f : Nat → Bool) (h : ∀ (i : Nat) d e, xs[i]? = some d → ys[i]? = some e → RDB c D (f i) d e) (hr : r = true ↔ xs.length = ys.length ∧ ∀ i, i < xs.length → i < ys.length → f i = true) : RDB c (DTupB c.K D) r (.tup xs) (.tup ys) := fun G H x y ex r1 r2 => by
  obtain ⟨a, vs, rfl, s1, t1⟩ := r1.tup_inv
  obtain ⟨b, ws, rfl, s2, t2⟩ := r2.tup_inv
  refine ⟨a, b, vs, ws, rfl, rfl, ex.st s1, ex.st s2, f, fun i u w h1 h2 => ?_, by rw [← t1.length, ← t2.length]; exact hr⟩
  obtain ⟨d, q1, q2⟩ := t1.getV h1
  obtain ⟨e, p1, p2⟩ := t2.getV h2
  exact h i d e q1 p1 G H u w ex q2 p2
theorem rdb_tup1 (hl : xs.length = ys.length) (h : ∀ (i : Nat) d e, xs[i]? = some d → ys[i]? = some e → RDB c D true d e) : RDB c (DTupB c.K D) true (.tup xs) (.tup ys) := rdb_tup (fun _ => true) h ⟨fun _ => ⟨hl, fun _ _ _ => rfl⟩, fun _ => rfl⟩
theorem o_eqB {g : Bool → Bool} (h : RDB c D r d1 d2) : Op2 c d1 d2 (.bl (g r)) (rEqB g D) := fun G H x y Q ex r1 r2 kk =>
  ⟨r, h G H x y ex r1 r2, fun H' e => kk _ G H' ⟨Ex.refl G, e, ex.trans e, fun _ _ h => .inl h⟩ .bl⟩
theorem xd_eqB (ha : XD c X a st d1 st1) (hb : XD c X b st1 d2 st2) (h : RcB X m .Eq id D) (hr : Room m X.A) (hd : RDB c D r d1 d2) (hm : behindInMarks .Eq b = false := by exact nomark _) : XD c X (.Compare a [.Eq] [b] pos) st (.bl r) st2 := xd_cmp ha hb (op_eqB h hr) (o_eqB (g := id) hd) hm
theorem xt_eqB (ha : XD c X a st d1 st1) (hb : XD c X b st1 d2 st2) (h : RcB X m .Eq id D) (hr : Room m X.A) (hd : RDB c D r d1 d2) (hm : behindInMarks .Eq b = false := by exact nomark _) : XT c X (.Compare a [.Eq] [b] pos) st r st2 := xt_cmp ha hb (op_eqB h hr) (o_eqB (g := id) hd) hm
theorem xt_neB (ha : XD c X a st d1 st1) (hb : XD c X b st1 d2 st2) (h : RcB X m .NotEq not D) (hr : Room m X.A) (hd : RDB c D r d1 d2) (hm : behindInMarks .NotEq b = false := by exact nomark _) : XT c X (.Compare a [.NotEq] [b] pos) st (!r) st2 := xt_cmp ha hb (op_neB h hr) (o_eqB (g := not) hd) hm
end Dv
set_option autoImplicit true
set_option maxRecDepth 100000
set_option maxHeartbeats 4000000
namespace Dv
open PySem PySem.Spec PyProof.Rows L2
variable {c : Ctx} {X : Cx} {st st1 st2 st3 st' : Store} {a b e : Expr} {es : List Expr} {d d1 d2 d' : Dt} {ds xs ys fs gs : List Dt} {pos : Pos} {n m k : Nat} {r t : Bool} {G G' H H' : Hp}
def tRevX (te : TE) : TE := fun σ H Q => te σ H fun x H1 => ∃ z : Str, x = .str z ∧ z.length ≤ 100000 ∧ Q (.str ⟨z.cps.toList.reverse.toArray⟩) H1
theorem rev_all (l : List Nat) : (List.range l.length).map (fun k => l.toArray.getD (l.length - 1 - k) 0) = l.reverse := by
  apply List.ext_getElem?
  intro i
  rw [List.getElem?_map]
  by_cases h : i < l.length
  · rw [List.getElem?_range h, List.getElem?_reverse h]
    simp
    rw [List.getElem?_eq_getElem (by omega)]; simp
  · rw [List.getElem?_eq_none (by simpa using h), List.getElem?_eq_none (by simpa using h)]; rfl
theorem pe_revX {e : Expr} {te : TE} {k : Nat} {p1 p2 p3 pos : Pos} (he : PE X e te) : PE X (.Subscript e (.Slice none none (some (.UnaryOp .USub (.Constant (.int 1) k p1) p2)) p3) pos) (tRevX te) := by
  refine ⟨fun pins s σ H Q I h => ?_⟩
  refine Subscript_ (thn (he.run pins s σ H _ I h) fun v s1 ⟨x, H1, I1, r1, q1⟩ => ?_)
  obtain ⟨z, ex, hz, q⟩ := q1
  subst ex
  obtain ⟨tk, rfl⟩ := r1
  have hst : PO X (some (.UnaryOp .USub (.Constant (.int 1) k p1) p2)) (tPart (tUn (rU fun i => .int (-i)) (tC (.int 1)))) := po_some (pe_un un_neg pe_int)
  refine wpAny_Slice (thn (po_none.run pins s1 σ H1 (fun o H2 => o = none ∧ H2 = H1) I1 ⟨rfl, rfl⟩) fun vl s2 ⟨l, H2, I2, pl, el, e2⟩ => ?_)
  subst el e2
  refine thn (po_none.run pins s2 σ H2 (fun o H3 => o = none ∧ H3 = H2) I2 ⟨rfl, rfl⟩) fun vu s3 ⟨u, H3, I3, pu, eu, e3⟩ => ?_
  subst eu e3
  refine thn (hst.run pins s3 σ H3 (fun o H4 => o = some (-1) ∧ H4 = H3) I3 ⟨1, rfl, -1, rfl, rfl, rfl⟩) fun vs s4 ⟨o, H4, I4, ps, eo, e4⟩ => ?_
  subst eo e4
  have I5 : Inv X pins σ H4 { s4 with heap := s4.heap.push { cls := .type "slice", data := .fields #[vl, vu, vs] } } := I4.kept (t' := s4.toks) fun b ob q => Heap.get?_push_of_some _ q
  show wpAny (model X.prog X.w) X.A (subscriptTail e (.Slice none none (some (.UnaryOp .USub (.Constant (.int 1) k p1) p2)) p3) (.str z tk) (.ref s4.heap.objs.size)) (EP X pins σ Q) X.xe { s4 with heap := s4.heap.push { cls := .type "slice", data := .fields #[vl, vu, vs] } }
  cases pl
  cases pu
  cases ps with
  | int _ u2 =>
    refine tail_any (ops := [.str z tk, .ref s4.heap.objs.size]) (typeIs_str _ _ _) (PySem.F.slot_str_getitem.lookup) ?_ (by with_unfolding_all rfl)
    refine wpAny_getItem_str_slice (l := none) (u := none) (st := some (-1, u2)) ⟨_, Heap.get?_push_size _ rfl, rfl, rfl⟩ rfl ?_
    have e1 : ((slicePicked z none none (some (-1, u2))).filterMap (z.cps[·]?)) = z.cps.toList.reverse := by
      have e2 : slicePicked z none none (some (-1, u2)) = (List.range z.length).map fun k => z.length - 1 - k := picked_rev z.length
      rw [e2, filterMap_get _ _ (fun i hi => by
        obtain ⟨k, hk, rfl⟩ := List.mem_map.mp hi
        have hk := List.mem_range.mp hk
        have : z.length = z.cps.size := rfl
        omega), List.map_map]
      have := rev_all z.cps.toList
      rw [Array.toArray_toList, Array.length_toList] at this
      exact this
    unfold sliceMade
    rw [if_neg (by show ¬ ((-1 : Int) == 1 && _) = true; simp), e1]
    refine ⟨?_, .str ⟨z.cps.toList.reverse.toArray⟩, H4, I5.tok _, ⟨_, rfl⟩, q⟩
    have : z.length = z.cps.size := rfl
    show z.cps.toList.reverse.toArray.size ≤ sizeLine
    rw [List.size_toArray, List.length_reverse, Array.length_toList, sizeLine_eq]; omega
theorem xd_revX {l : List Nat} {k : Nat} {p1 p2 p3 : Pos} (h : XD c X e st (.str (sx l)) st1) (hz : l.length ≤ 100000) : XD c X (.Subscript e (.Slice none none (some (.UnaryOp .USub (.Constant (.int 1) k p1) p2)) p3) pos) st (.str (sx l.reverse)) st1 :=
  ⟨pe_weak (pe_revX h.pe) fun σ H Q ⟨G, E, k⟩ => ⟨G, E, fun v G1 H1 g1 E1 r1 => by
    cases r1
    exact ⟨sx l, rfl, by rw [sx_len]; exact hz, k _ G1 H1 g1 E1 .str⟩⟩⟩
/-- [elt for x in iter] where a turn changes what the names hold -/
theorem xl_mapS {elt iter : Expr} (jx : Nat) {x : Str} {p : Pos} {scope : Scope} (S : Nat → Store) (vs : List Dt) (hN : X.N.Nodup) (hi : XI c X (.Name x p) iter st ds (S 0)) (hlen : vs.length = ds.length) (hsz : ds.length ≤ 100000) (hn : ∀ i, i ≤ ds.length → (S i)[jx]? = some none)
    (hb : ∀ (i : Nat) d v, ds[i]? = some d → vs[i]? = some v → ∃ s2 : Store, s2.set jx none = S (i + 1) ∧ ∀ sh H C cl fp, XD c (BlkC X sh H scope C cl fp) elt ((S i).set jx (some (.fr d))) v s2)
    (hx : X.N[jx]? = some x := by rfl) (hloc : Loc (relabel scope X.env) x := by first | exact Or.inl rfl | exact Or.inr rfl) (hlocf : (scope.names.lookup x == some .cell) = true ∨ (relabel scope X.env).names.lookup x = some .local := by first | exact Or.inl rfl | exact Or.inr rfl) (ok : BlkOk X.N X.env.scope scope [(x, jx)] := by exact blkOk_by (by first | rfl | decide +kernel))
    (hc : X.calm = true := by rfl) (hs : ∀ x, foldedSetIterable iter X.env x = pure x := by intro _; rfl) :
    XL c X (.ListComp elt [⟨.Name x p, iter, [], 0⟩] scope pos) st vs (S ds.length) := by
  have q := xl_lc (c := c) (X := X) (elt := elt) (pos := pos) (g := gName jx) (ow := [(x, jx)]) S (vs.map some) hN hi (by rw [List.length_map, hlen]) hsz (fun i h q hq => by
      rw [List.mem_singleton.mp hq]; exact hn i h) (fun i d r h1 h2 => by
      rw [List.getElem?_map] at h2
      cases hv : vs[i]? with
      | none => rw [hv] at h2; cases h2
      | some v =>
        rw [hv] at h2
        cases h2
        obtain ⟨s2, e2, hb2⟩ := hb i d v h1 hv
        exact ⟨_, true, _, tgt_name, .nil, .inr ⟨rfl, v, s2, rfl, e2.symm, hb2⟩⟩) (fun s H C cl fp => pg_name (X := BlkC X s H scope C cl fp) hN hx hloc hlocf) (by decide) ok hc hs
  rw [collect_some] at q
  exact q
/-- != of an own instance and a tuple, by the class's own == -/
def rNeX (K : PySem.W.Frag) (C : Addr) (sp : Sp) (E : XK) : R2 := fun x y H Q => (∃ p dx gs, x = .ref p ∧ H p = some (.ins C dx gs)) ∧ (∃ q xs, y = .ref q ∧ SqT K H q xs) ∧ sp [x, y] H (fun v H' => ∃ t, v = .bl t ∧ Q (.bl (!t)) H') E
theorem op_neX {CX : CXT} {f C : Addr} {fd : FuncData} {ps : List Str} {E : XK} {sp : Sp} (F : FnOk X.prog X.w X.K X.mg X.base CX k f fd ps sp) (hr : Room (k + 1) X.A) (M : EqNe X.K C f) (hnt : PySem.W.notFirst X.K C (.type "tuple") = true) (hb : Binds X.K fd ps []) (hx : Passes CX X E) :
    OpR X (compareOp .NotEq) (rNeX X.K C sp E) := by
  intro pins s σ H x y vx vy Q I rx ry h
  obtain ⟨⟨p, dx, gs, rfl, hp⟩, ⟨q, xs, rfl, hq⟩, hsp⟩ := h
  cases rx
  cases ry
  obtain ⟨mA, J, _⟩ := ins_get I.hok hp
  obtain ⟨od, J, _⟩ := J.look
  obtain ⟨its, r, ht, hz⟩ := I.tuple hq
  obtain ⟨o, ho, hc, _⟩ := id ht
  have hl : PySem.W.Looks (model X.prog X.w) s.heap (typeOf (.ref q)) (.type "tuple") := fun A Q E s' k qq => wpAny_typeOf_ref (k _ _ ho) (by rw [hc]; exact qq)
  show wpAny (model X.prog X.w) X.A (richCompare .NotEq (.ref p) (.ref q)) (EP X pins σ Q) X.xe s
  refine ne_rich (K := X.K) (by have := hr.un; omega) I.kIn J M.ob M.eq M.fn M.ne hl hnt (thn (run_in1 (vs := [.ref p, .ref q]) (us := [.ref p, .ref q]) F hr hb hx I (.cons rfl (.cons rfl .nil)) hsp) fun u s' z => ?_)
  obtain ⟨w, H1, I1, r, t, rfl, q1⟩ := z
  cases r
  exact ⟨t, rfl, .bl (!t), H1, I1, rfl, q1⟩
theorem xd_neX {R : List Dt → Dt → Prop} {x : Str} {C : Addr} {ns : List Str} (ha : XD c X a st (.obj n fs) st1) (hb1 : XD c X b st1 (.tup xs) st2) (Q : CF X.K c.T X.mg x n C ns) (F : MF X.prog X.w X.K c.T X.mg X.base C "__eq__" k R) (hK : X.K = c.K) (hr : Room (k + 1) X.A)
    (hne : PySem.W.findIn X.K (.ref C) "__ne__" = some (some (.builtin "object.__ne__"))) (hob : PySem.W.mroIn X.K C (.type "object") = some true) (hnt : PySem.W.notFirst X.K C (.type "tuple") = true)
    (hR : R [.obj n fs, .tup xs] (.bl t)) : XD c X (.Compare a [.NotEq] [b] pos) st (.bl (!t)) st2 := by
  obtain ⟨f, fd, ps, F, hf, hb⟩ := F.ex
  rw [hK] at F
  refine xd_cmp ha hb1 (op_neX (E := fun _ _ _ => False) (sp := spD c.K c.T R) (by rw [hK]; exact F) hr ⟨hf.at_, hf.fn, hne, hob⟩ hnt hb pass0) (fun G H x y Q' ex r1 r2 kk => ?_) (nomark _)
  obtain ⟨C1, ns1, p, dx, vs1, rfl, t1, hp, _, _⟩ := id r1.obj_inv
  have eT := Q.at_
  rw [t1] at eT
  cases eT
  obtain ⟨q, vs, rfl, s2, _⟩ := id r2.tup_inv
  refine ⟨⟨p, dx, _, rfl, ex _ _ hp⟩, ⟨q, vs, rfl, by rw [hK]; exact ex.st s2⟩, G, _, _, ex, .cons r1 (.cons r2 .nil), hR, fun v G' H' g e' r' => ?_⟩
  cases r'
  exact ⟨t, rfl, kk _ G' H' (gw_of g e') .bl⟩
end Dv
set_option autoImplicit true
set_option maxRecDepth 100000
set_option maxHeartbeats 4000000
namespace Dv
open PySem PySem.Spec PyProof.Rows L2
variable {c : Ctx} {X : Cx} {st st1 st2 st3 st' : Store} {a b e : Expr} {es : List Expr} {d d1 d2 d' : Dt} {ds xs ys fs gs : List Dt} {pos : Pos} {n m k : Nat} {r t : Bool} {G G' H H' : Hp}
theorem zip_take_len : ∀ (ns : List Str) (vs : List V), (ns.take vs.length).zip vs = ns.zip vs
  | [], vs => by simp
  | n :: ns, [] => by simp
  | n :: ns, v :: vs => by
    show (n, v) :: (ns.take vs.length).zip vs = (n, v) :: ns.zip vs
    rw [zip_take_len ns vs]
theorem lookup_zip_take {ns : List Str} {vs : List V} {f : Str} {v : V} {i k : Nat} (hi : ns.findIdx? (· == f) = some i) (hv : vs[i]? = some v) (hk : vs.length = k) : ((ns.take k).zip vs).lookup f = some v := by
  have e : (ns.take k).zip vs = ns.zip vs := by
    subst hk
    exact zip_take_len ns vs
  rw [e]
  exact lookup_zip hi hv
/-- a field of the instance that is being made -/
theorem xd_fldB {x f : Str} {C : Addr} {ns : List Str} {p1 : Pos} (i : Nat) (h0 : st[0]? = some (some (.bo n fs))) (hK : X.K = c.K) (hT : c.T n = some (C, ns)) (hc : Cls X.K C) (hna : NoAttr X.K C f) (hi : ns.findIdx? (· == f) = some i) (hd : fs[i]? = some d)
    (hN : X.N[0]? = some x := by rfl) (hv : Vis X.env.scope x := by first | exact Or.inl rfl | exact Or.inr (Or.inl rfl) | exact Or.inr (Or.inr rfl)) (hdb : (x == ("__debug__" : Str)) = false := by decide)
    (hcd : (x == ("__classdict__" : Str)) = false := by decide) (hb : attributeBase (.Name x p1) f X.env (eval (.Name x p1) X.env) = eval (.Name x p1) X.env := by rfl) : XD c X (.Attribute (.Name x p1) f pos) st d st := by
  refine ⟨pe_weak (pe_fld (pe_var hN hv hdb hcd) hb) fun σ H Q ⟨G, E, k⟩ => ?_⟩
  obtain ⟨v, h1, C', ns', dx, vs, t, rfl, n0, l, r⟩ := E.sl 0 _ h0
  rw [hT] at t
  cases t
  obtain ⟨v, g1, g2⟩ := r.get hd
  exact ⟨_, h1, c.pa 0, C, dx, _, v, rfl, l, hc, hna, lookup_zip_take hi g1 r.length.symm, k v G H Gr.refl E g2⟩
theorem xt_chain {op op' : CmpOp} {r r' : R2} {c3 : Expr} {d3 : Dt} {t u : Bool} (ha : XD c X a st d1 st) (hb : XD c X b st d2 st) (hc : XD c X c3 st d3 st) (ho : OpR X (compareOp op) r) (ho' : OpR X (compareOp op') r') (h1 : Op2 c d1 d2 (.bl t) r) (h2 : Op2 c d2 d3 (.bl u) r') (hm : lastMarks [op, op'] [b, c3] = false := by rfl) : XT c X (.Compare a [op, op'] [b, c3] pos) st (t && u) st :=
  ⟨pt_weak (pt_chain ho ho' ha.pe hb.pe hc.pe (hm := hm)) fun σ H Q ⟨G, E, k⟩ => ⟨G, E, fun x G1 H1 g1 E1 r1 => ⟨G1, E1, fun y G2 H2 g2 E2 r2 => h1 G2 H2 x y _ E2.ex (r1.ex g2.ex) r2 fun v G3 H3 g3 r3 => by
    cases r3
    refine ⟨t, rfl, ?_⟩
    cases t with
    | true =>
      refine L2.iteT ?_
      exact ⟨G3, E2.g1 g3, fun z G4 H4 g4 E4 r4 => h2 G4 H4 y z _ E4.ex (r2.ex (g3.ex.trans g4.ex)) r4 fun v G5 H5 g5 r5 => by
        cases r5
        exact ⟨u, rfl, k G5 H5 ((((g1.trans g2).trans g3.gr).trans g4).trans g5.gr) (E4.g1 g5)⟩⟩
    | false =>
      refine L2.iteF ?_
      exact ⟨false, rfl, k G3 H3 ((g1.trans g2).trans g3.gr) (E2.g1 g3)⟩⟩⟩⟩
theorem xt_leleI {i j m : Int} {c3 : Expr} (ha : XD c X a st (.int i) st) (hb : XD c X b st (.int j) st) (hc : XD c X c3 st (.int m) st) (ht : (decide (i ≤ j) && decide (j ≤ m)) = t) (hm : lastMarks [.LtE, .LtE] [b, c3] = false := by rfl) : XT c X (.Compare a [.LtE, .LtE] [b, c3] pos) st t st := by
  rw [← ht]
  exact xt_chain ha hb hc op_le op_le (o_B0 (g := fun i j => decide (i ≤ j))) (o_B0 (g := fun i j => decide (i ≤ j))) hm
theorem XL.to {S : Nat → Store} {m m' : Nat} (h : XL c X e st xs (S m)) (q : m = m') : XL c X e st xs (S m') := q ▸ h
/-- name = [elt for x in iter] where a turn changes what the names hold; m: the number of turns -/
theorem xp_mapS {elt iter : Expr} (k : Nat) (own? : Bool) (jx : Nat) {x y : Str} {py spos : Pos} {p : Pos} {scope : Scope} {m : Nat} (S : Nat → Store) (vs : List Dt) (hm : ds.length = m) (hN : X.N.Nodup) (hi : XI c X (.Name x p) iter st ds (S 0)) (hlen : vs.length = ds.length) (hsz : ds.length ≤ 100000) (hn : ∀ i, i ≤ ds.length → (S i)[jx]? = some none)
    (hb : ∀ (i : Nat) d v, ds[i]? = some d → vs[i]? = some v → ∃ s2 : Store, s2.set jx none = S (i + 1) ∧ ∀ sh H C cl fp, XD c (BlkC X sh H scope C cl fp) elt ((S i).set jx (some (.fr d))) v s2)
    (hx : X.N[jx]? = some x := by rfl) (hloc : Loc (relabel scope X.env) x := by first | exact Or.inl rfl | exact Or.inr rfl) (hlocf : (scope.names.lookup x == some .cell) = true ∨ (relabel scope X.env).names.lookup x = some .local := by first | exact Or.inl rfl | exact Or.inr rfl) (ok : BlkOk X.N X.env.scope scope [(x, jx)] := by exact blkOk_by (by first | rfl | decide +kernel))
    (hy0 : X.N[k]? = some y := by rfl) (hyl : X.env.scope.names.lookup y = some .local := by rfl) (hsw : swapsWith (.ListComp elt [⟨.Name x p, iter, [], 0⟩] scope pos) (some (.Name y py)) spos.line X.env = pure true := by exact sw_true rfl rfl rfl (by first | rfl | decide +kernel))
    (hc : X.calm = true := by rfl) (hs : ∀ x, foldedSetIterable iter X.env x = pure x := by intro _; rfl) :
    XP c X (.Assign [.Name y py] (.ListComp elt [⟨.Name x p, iter, [], 0⟩] scope pos) spos) st (.nx ((S m).set k (some (if own? = true then .ow vs else .fr (.lst vs))))) := by
  subst hm
  have q := xp_setLc (c := c) (X := X) (py := py) (spos := spos) (y := y) k (elt := elt) (pos := pos) (g := gName jx) (ow := [(x, jx)]) S (vs.map some) own? hN hi (by rw [List.length_map, hlen]) hsz (fun i h q hq => by
      rw [List.mem_singleton.mp hq]; exact hn i h) (fun i d r h1 h2 => by
      rw [List.getElem?_map] at h2
      cases hv : vs[i]? with
      | none => rw [hv] at h2; cases h2
      | some v =>
        rw [hv] at h2
        cases h2
        obtain ⟨s2, e2, hb2⟩ := hb i d v h1 hv
        exact ⟨_, true, _, tgt_name, .nil, .inr ⟨rfl, v, s2, rfl, e2.symm, hb2⟩⟩) (fun s H C cl fp => pg_name (X := BlkC X s H scope C cl fp) hN hx hloc hlocf) (by decide) ok hy0 hyl hsw hc hs
  rw [collect_some] at q
  exact q
end Dv
set_option autoImplicit true
set_option maxRecDepth 100000
set_option maxHeartbeats 4000000
/-! an own error that says why: class Refused, its __init__ stores the one word that it is given -/
namespace DvR
open PySem PySem.W PySem.Calls PyProof.Rows PySem.HandSPX
def ia (p1 p2 : Pos) : Arguments := { posonlyargs := [], args := [{ arg := "self", annotation := none, pos := p1 }, { arg := "reason", annotation := none, pos := p2 }], vararg := none, kwonlyargs := [], kw_defaults := [], kwarg := none, defaults := [] }
def ib (q1 q2 q3 q4 : Pos) : List Stmt := [.Assign [.Attribute (.Name "self" q1) "reason" q2] (.Name "reason" q3) q4]
def is : Scope := { kind := .function, names := [(PySem.Str.ofString "self", .local), (PySem.Str.ofString "reason", .local)], isGenerator := false, isCoroutine := false, more := [] }
/-- the class at C, its __init__ at fI -/
structure Rfd (K : Frag) (mg : Str → Option Value) (C fI : Addr) : Prop where
  nm : mg "Refused" = some (.ref C)
  cl : ∃ a q N bs bm sn sub ab col dd k0 k1 k2 k3 k5, K.lookup C = some (excClassObj a q C N bs bm true sn sub ab col dd k0 k1 k2 k3 k5 "ValueError.__new__") ∧ refsVE bm = true
  sa : findIn K (.ref C) "__setattr__" = some (some (.builtin "object.__setattr__"))
  ga : findIn K (.ref C) "__getattribute__" = some (some (.builtin "BaseException.__getattribute__"))
  gg : findIn K (.ref C) "__getattr__" = some none
  na : findIn K (.ref C) "reason" = some none
  ii : findIn K (.ref C) "__init__" = some (some (.ref fI))
  ti : typeIn K (.ref fI) = some (.type "function")
  kp : keepIn K (.ref C) = true
  sb : subIn K (.ref C) (.type "BaseException") = some true
  ty : typeIn K (.ref C) = some (.type "type")
  hd : hasDictIn K C = true
  fn : ∃ (oc : Value) (od : Option Addr) (doc pm : Value) (an : Option Addr) (cdv ct kV : Value) (osl : Array (Option Value)) (p1 p2 q1 q2 q3 q4 : Pos),
    K.lookup fI = some ⟨oc, od, .func (fnOf "__init__" "Refused.__init__" (ia p1 p2) (ib q1 q2 q3 q4) is .none kV doc pm an cdv ct), osl⟩ ∧ codeIn K cdv "Refused.__init__" = true
theorem local_at {M : Model} {s : Shared} {name : Str} {scope : Scope} {L a : Addr} {cd : Value} {m : Str → Option Value} {x : Str} {pos : Pos} {v : Value} {Q : Value → Shared → Prop} {A : Around} {E : Value → Shared → Prop} (hn : s.heap.Ns L m) (hv : m x = some v) (h : Q v s)
    (hk : scope.kind = .function := by rfl) (hl : (envOfC name scope L a cd).kindOf x = some .local := by rfl) (hd : (x == ("__debug__" : Str)) = false := by decide) :
    wpAny M A (eval (.Name x pos) (envOfC name scope L a cd)) Q E s := wpAny_Name (wpAny_loadName_local hk hl hn hv h) hd
/-- behind __init__ -/
structure Born (h h' : Heap) (x C dx t1 : Addr) (v : Value) : Prop where
  kp : ∀ b o, b ≠ x → h.get? b = some o → h'.get? b = some o
  ob : h'.get? x = some { cls := .ref C, dict := some dx, data := .fields #[.ref t1, .none, .none, .none, .bool false, .none] }
  hi : h.objs.size ≤ dx
  ne : dx ≠ x
  ns : h'.Ns1 dx (fun y => if y = "reason" then some v else none)
/-- the error made -/
structure Err (h h' : Heap) (e C d : Addr) (v : Value) : Prop where
  kp : ∀ b o, h.get? b = some o → h'.get? b = some o
  nw : h.objs.size ≤ e
  ob : ∃ oe vs, h'.get? e = some oe ∧ oe.cls = .ref C ∧ oe.dict = some d ∧ oe.data = .fields vs ∧ vs[1]? = some .none
  hi : h.objs.size ≤ d
  ne : d ≠ e
  ns : h'.Ns1 d (fun y => if y = "reason" then some v else none)
section
variable {prog : Program} {w : World} {A : Around} {E : Value → Shared → Prop} {R : Result → Shared → Prop} {s : Shared} {K : Frag} {mg : Str → Option Value} {C fI : Addr}
theorem born (T : Rfd K mg C fI) {x t0 : Addr} {v : Value} (X : K.In s.heap) (hlim : s.heap.NoLimit) (hx : s.heap.get? x = some (excO C t0)) (hroom : A.depth < recursionLimit)
    (hq : ∀ h' tk dx, Born s.heap h' x C dx t0 v → R (.ok (.ret .none)) { s with heap := h', toks := tk }) :
    codeAny (model prog w) A (.call (.ref fI) ⟨[.ref x, v], []⟩) R s := by
  obtain ⟨oc, od, doc, pm, an, cdv, ct, kV, osl, p1, p2, q1, q2, q3, q4, ho, hcd⟩ := T.fn
  obtain ⟨a, q, N, bs, bm, sn, sub, ab, col, dd, k0, k1, k2, k3, k5, hC, hbm⟩ := T.cl
  have hcl : clsIn K C = some { name := a, bases := bs, mro := .ref C :: bm, ns := N, qualname := q, hasDict := true, slotNames := sn, subclasses := sub, abstract := ab, collection := col, hasDel := false } := by unfold clsIn; rw [hC] <;> rfl
  refine Att.call_fn (binds := [("self", .ref x), ("reason", v)]) X hlim ho hcd hroom (BindsTo.of_eq (by with_unfolding_all rfl)) (by with_unfolding_all rfl) (fun s₁ IC => ?_) rfl rfl rfl
  obtain ⟨h₁, tk₁, rfl⟩ := IC.toInCall.same
  have k : ∀ b o, s.heap.get? b = some o → h₁.get? b = some o := IC.toInCall.keep
  have hn := IC.toInCall.ns
  have X₁ : K.In h₁ := X.keeps k
  have hx₁ := k _ _ hx
  show wpAny _ _ (execs _ _) _ _ _
  refine wpAny_execs_cons (plainObj_wpAny_Assign_Attribute ?_)
  refine local_at (v := v) hn (by first | rfl | with_unfolding_all rfl | kernel_rfl) (local_at (v := .ref x) hn (by first | rfl | with_unfolding_all rfl | kernel_rfl) ?_)
  refine set_plain X₁ (ox := excO C t0) (od := none) ⟨hx₁, rfl, rfl, trivial⟩ T.sa ?_
  refine exc_osa X₁ hx₁ hcl (show refsVE (.ref C :: bm) = true from hbm) rfl T.na (fun h₃ tk₃ dx k₃ dn dne hx₃ hn₃ => ?_)
  show wpAny _ _ (execs _ _) _ _ _
  have z : s.heap.objs.size < h₁.objs.size := hn.lt
  exact wpAny_execs_nil (hq h₃ tk₃ dx ⟨fun b o hb e => k₃ b o hb (k b o e), hx₃, Nat.le_of_lt (Nat.lt_of_lt_of_le z dn), dne, hn₃⟩)
theorem made (T : Rfd K mg C fI) {v : Value} (X : K.In s.heap) (hlim : s.heap.NoLimit) (hroom : A.depth + 1 < recursionLimit)
    (hq : ∀ h' tk e d, Err s.heap h' e C d v → R (.ok (.ret (.ref e))) { s with heap := h', toks := tk }) :
    codeAny (model prog w) A (.call (.ref C) ⟨[v], []⟩) R s := by
  obtain ⟨a, q, N, bs, bm, sn, sub, ab, col, dd, k0, k1, k2, k3, k5, hC, hbm⟩ := T.cl
  obtain ⟨hp, g, dr, tk, os⟩ := s
  have k : ∀ b o, hp.get? b = some o → ((hp.push (kdv_tup [v])).push (excO C hp.objs.size)).get? b = some o := fun b o e => Heap.get?_push_of_some _ (Heap.get?_push_of_some _ e)
  have hget : ((hp.push (kdv_tup [v])).push (excO C hp.objs.size)).get? (hp.objs.size + 1) = some (excO C hp.objs.size) := by heap_get
  refine call_own F.excBase_ValueError (fun X => refsVE_contains X bm hbm) (X _ _ hC) (looks_findIn X T.ii) (fun self => bind_fn X self T.ti) (by rw [sizeLine_eq]; exact (by decide : 1 ≤ 16777216)) ?_
  refine born (s := ⟨(hp.push (kdv_tup [v])).push (excO C hp.objs.size), g, dr, tk, os⟩) T (X.keeps k) (hlim.keeps k) hget ?_ fun h' tk' dx ⟨k', hx, dn, dne, hns⟩ => ?_
  · show A.depth + 1 < recursionLimit
    exact hroom
  · have old : ∀ b o, hp.get? b = some o → h'.get? b = some o := fun b o e => k' b o (Nat.ne_of_lt (Nat.lt_succ_of_lt (Heap.lt_size e))) (k b o e)
    have z : hp.objs.size + 1 + 1 ≤ dx := by
      first
        | (simpa only [Heap.size_push] using dn)
        | exact dn
        | (have q := dn; rw [Heap.size_push, Heap.size_push] at q; exact q)
    exact ⟨rfl, hq h' tk' (hp.objs.size + 1) dx ⟨old, Nat.le_succ _, ⟨_, _, hx, rfl, rfl, rfl, rfl⟩, Nat.le_trans (Nat.le_trans (Nat.le_succ _) (Nat.le_succ _)) z, dne, hns⟩⟩
end
end DvR
namespace Dv
open PySem PySem.Spec PyProof.Rows L2
theorem rel_reason {v : V} {v' : Value} (r : RelV v v') (f : Str) : RelO (List.lookup f [(("reason" : Str), v)]) (if f = "reason" then some v' else none) := by
  by_cases hw : f = "reason"
  · subst hw
    rw [if_pos rfl, show List.lookup ("reason" : Str) [(("reason" : Str), v)] = some v by simp [List.lookup]]
    exact r
  · rw [if_neg hw, show List.lookup f [(("reason" : Str), v)] = none by simp [List.lookup, show (f == ("reason" : Str)) = false by simpa using hw]]
    trivial
variable {c : Ctx} {X : Cx} {st st1 st2 st3 st' : Store} {a b e : Expr} {es : List Expr} {d d1 d2 d' : Dt} {ds xs ys : List Dt} {pos : Pos} {G G' H H' : Hp} {σ σ' : L2.St} {W : WX} {x : Xn} {s : Stmt} {rest : List Stmt} {o : Out} {C fI : Addr}
def tMkR (C : Addr) (ta : TA) : L2.St → Hp → XK → Prop := fun σ H Q => ta σ H fun vs H1 => ∃ v, vs = [v] ∧ ∀ d, H1 d = none → Q (.ref C) (some d) (upd H1 d (.xd [(("reason" : Str), v)]))
theorem pmk_R {ta : TA} {p pos : Pos} {k : Nat} (T : DvR.Rfd X.K X.mg C fI) (hr : Room k X.A) (ha : PA X [a] ta) (hg : Gl X "Refused" := by rfl)
    (he : starEach (a :: []) X.env = (false, eval a X.env) :: starEach [] X.env := by rfl) (hpl : (backTo pos (starEach [] X.env)).any (·.1) = false := by rfl) :
    PMk X (.Call (.Name "Refused" p) [a] [] pos) (tMkR C ta) := by
  intro pins s σ H Q I h
  refine wpAny_Call_Name_kw (ld_glob I hg T.nm ?_)
  refine PySem.W.callWith_K (h₀ := X.base) I.ok.mod.kin T.kp (thn (ha.run pos pins s σ H _ I h) fun us s1 hh => ?_) he hpl
  obtain ⟨vs, H1, I1, r1, v, ev, q1⟩ := hh
  subst ev
  refine ⟨I1.kIn, ?_⟩
  cases r1 with
  | cons rv rn =>
    rename_i v' us'
    cases rn
    show wpAny _ _ (call (.ref C) [v']) _ _ _
    have hlim := I1.nolimit
    obtain ⟨hp, g, dr, tk, os⟩ := s1
    refine wpAny_call (DvR.made T I1.kIn hlim (by have := hr.dp; omega) fun h' tk' e d M => ?_)
    show MkP X pins σ Q (.ref e) ⟨h', g, dr, tk', os⟩
    obtain ⟨oe, fv, hoe, hc, hd, hdat, h1⟩ := M.ob
    have hns := M.ns
    obtain ⟨G', g1, g2⟩ := restrict h' fun b => decide (b ≠ e)
    have gk : ∀ b, b ≠ e → G'.get? b = h'.get? b := fun b hb => g1 b (decide_eq_true hb)
    have ge : G'.get? e = none := g2 e (by simp)
    have old : ∀ b o, hp.get? b = some o → G'.get? b = some o := fun b o q => (gk b (Nat.ne_of_lt (Nat.lt_of_lt_of_le (Heap.lt_size q) M.nw))).trans (M.kp b o q)
    have ob : ObjOk X.prog X.w (upd H1 d (.xd [(("reason" : Str), v)])) G' d (.xd [(("reason" : Str), v)]) :=
      ⟨_, hns.at (fun o q => (gk d M.ne).trans q), fun f => rel_reason rv f⟩
    have J : Inv X pins σ (upd H1 d (.xd [(("reason" : Str), v)])) ⟨G', g, dr, tk', os⟩ := I1.laid (t' := tk') old M.hi ob
    refine ⟨e, oe, fv, ⟨G', g, dr, tk', os⟩, _, .ref C, some d, rfl, J, fun b o q => ?_, ge, hoe, ⟨hc, hd⟩, hdat, h1, ?_, rfl, I1.bare, raises_own T.sb T.ty, q1 d (I1.hok.fresh M.hi)⟩
    · by_cases hb : b = e
      · have q' : G'.get? b = some o := q
        rw [hb, ge] at q'; cases q'
      · exact (gk b hb).symm.trans q
    · rw [upd_ne (Ne.symm M.ne)]
      exact I1.hok.fresh M.nw
/-- raise Refused(a) -/
theorem xpx_raiseR {p p3 : Pos} {k : Nat} (T : DvR.Rfd X.K X.mg C fI) (hc : X.calm = true) (hr : Room k X.A) (tk : Takes X W) (ha : XA c X [a] st [d] st1) (hg : Gl X "Refused" := by rfl)
    (he : starEach (a :: []) X.env = (false, eval a X.env) :: starEach [] X.env := by rfl) (hpl : (backTo pos (starEach [] X.env)).any (·.1) = false := by rfl) :
    XPX c X W (.Raise (some (.Call (.Name "Refused" p) [a] [] pos)) none p3) st ⟨C, some ("reason", d)⟩ st1 :=
  ⟨ps_weak (ps_raise hc tk (pmk_R T hr ha.pa hg he hpl)) fun D σ H ⟨G, E, k⟩ => ⟨G, E, fun vs G1 H1 g1 E1 r1 => by
    cases r1 with
    | @cons _ vv _ _ r r1 =>
      cases r1
      refine ⟨vv, rfl, fun dd hd => ?_⟩
      have w := Gw.new (o := .xd [(("reason" : Str), vv)]) E1.ex hd
      exact k σ _ _ _ _ (g1.trans w.gr) (E1.g1 w) ⟨rfl, dd, _, rfl, upd_same, r.ex w.ex⟩⟩⟩
/-- bad.reason -/
def tRsn (C : Addr) (a : Addr) (cls : Value) (d : Option Addr) (te : TE) : TE := fun σ H Q => te σ H fun x H1 => x = .ref a ∧ cls = .ref C ∧ ∃ (dd : Addr) (v : V), d = some dd ∧ H1 dd = some (.xd [(("reason" : Str), v)]) ∧ Q v H1
theorem pe_rsn {a : Addr} {oe : Obj} {cls : Value} {d : Option Addr} {pn : List (Addr × Obj)} {e : Expr} {te : TE} {pos : Pos} (T : DvR.Rfd X.K X.mg C fI) (hz : Zc cls d oe) (hf : ∃ vs, oe.data = .fields vs) (he : PE (X.suite a ((a, oe) :: pn)) e te)
    (hb : attributeBase e "reason" X.env (eval e X.env) = eval e X.env := by rfl) :
    PE (X.suite a ((a, oe) :: pn)) (.Attribute e "reason" pos) (tRsn C a cls d te) := by
  refine ⟨fun pins s σ H Q I h => ?_⟩
  refine attr_of hb (thn (he.run pins s σ H _ I h) fun u s1 hh => ?_)
  obtain ⟨x, H1, I1, rx, ex, ec, dd, v, ed, ea, q⟩ := hh
  subst ex
  obtain rfl : u = Value.ref a := rx
  subst ec
  subst ed
  obtain ⟨ha, _⟩ := I1.pin (a, oe) (List.mem_append_left _ List.mem_cons_self)
  obtain ⟨vs, hd⟩ := hf
  have hx : ObjOk X.prog X.w H1 s1.heap dd (.xd [(("reason" : Str), v)]) := I1.hok dd _ ea
  obtain ⟨mA, hns, hr⟩ := hx
  obtain ⟨od, ho, hl⟩ := lookIn_ns hns
  have l : List.lookup ("reason" : Str) [(("reason" : Str), v)] = some v := by simp [List.lookup]
  obtain ⟨u, hu, ru⟩ := RelO.some_of (v := v) (o := mA "reason") (by rw [← l]; exact hr "reason")
  have J : PySem.W.InstAt s1.heap a oe C (some od) := ⟨ha, hz.1, by unfold PySem.W.notCls; rw [hd] <;> rfl, by rw [hz.2]; exact ho⟩
  exact HandSPX.exc_get I1.kIn J T.ga T.gg T.sb (PySem.W.findObj_own T.hd T.na rfl (by rw [hl, hu])) (handed_of ru) ⟨v, H1, I1.tok _, ru, q⟩
theorem xd_rsn (i : Nat) {y : Str} {a : Addr} {oe : Obj} {dd : Option Addr} {pn : List (Addr × Obj)} {p : Pos} (T : DvR.Rfd X.K X.mg C fI) (hz : Zc (.ref C) dd oe) (hf : ∃ vs, oe.data = .fields vs) (hi : st[i]? = some (some (.ex a dd (some ("reason", d)))) := by rfl)
    (hN : X.N[i]? = some y := by rfl) (hv : Vis X.env.scope y := by first | exact Or.inl rfl | exact Or.inr (Or.inl rfl) | exact Or.inr (Or.inr rfl)) (hdb : (y == ("__debug__" : Str)) = false := by decide)
    (hcd : (y == ("__classdict__" : Str)) = false := by decide) (hb : attributeBase (.Name y p) "reason" X.env (eval (.Name y p) X.env) = eval (.Name y p) X.env := by rfl) :
    XD c (X.suite a ((a, oe) :: pn)) (.Attribute (.Name y p) "reason" pos) st d st :=
  ⟨pe_weak (pe_rsn T hz hf (pe_var hN hv hdb hcd) hb) fun σ H Q ⟨G, E, k⟩ => by
    obtain ⟨v, h1, rfl, q, vv, rfl, h2, h3⟩ := E.sl i _ hi
    exact ⟨_, h1, rfl, rfl, q, vv, rfl, E.ex _ _ h2, k _ G H Gr.refl E h3⟩⟩
end Dv
set_option autoImplicit true
set_option maxRecDepth 100000
set_option maxHeartbeats 4000000
namespace Dv
open PySem PySem.Spec PyProof.Rows L2
variable {c : Ctx} {X : Cx} {st st1 st2 st3 st' : Store} {a b e tg iter : Expr} {es : List Expr} {d d1 d2 d' : Dt} {ds xs ys : List Dt} {pos : Pos} {G G' H H' : Hp} {σ σ' : L2.St} {W : WX} {x : Xn} {s : Stmt} {rest body : List Stmt} {o : Out} {C fI : Addr}
/-! ### isinstance of an exception that a suite holds -/
structure ExcI (K : PySem.W.Frag) (D : Addr) : Prop where
  ic : (PySem.W.clsIn K D).isSome = true
  hg : PySem.W.findIn K (.ref D) "__getattribute__" = some (some (.builtin "BaseException.__getattribute__"))
  hk : PySem.W.findIn K (.ref D) "__getattr__" = some none
  hs : PySem.W.subIn K (.ref D) (.type "BaseException") = some true
  ha : PySem.W.findIn K (.ref D) "__class__" = some (some (.builtin "object.__class__"))
  hn : PySem.W.specialIn K (.builtin "object.__class__") "__get__" = some (some (.builtin "getset_descriptor.__get__"))
  ht : PySem.W.takesIn K (.builtin "object.__class__") = some true
  hm : PySem.W.mroIn K D (.type "object") = some true
def rIsX (K : PySem.W.Frag) (D a : Addr) (dd : Option Addr) : List V → Hp → VK → Prop := fun xs H Q => ∃ (c : V) (cv : Value) (b : Bool), xs = [.ref a, c] ∧ (∀ u, RelV c u → u = cv) ∧ PySem.W.kitOne K (.ref D) cv = some b ∧
  (dd = none ∨ ∃ p f v, dd = some p ∧ H p = some (.xd [(f, v)])) ∧ Q (.bl b) H
theorem call_isX {a D : Addr} {oe : Obj} {pn : List (Addr × Obj)} {dd : Option Addr} (C : ExcI X.K D) (hz : Zc (.ref D) dd oe) (hf : ∃ vs, oe.data = .fields vs) : CallR (X.suite a ((a, oe) :: pn)) (.builtin "isinstance") (rIsX X.K D a dd) := by
  intro pins s σ H xs us Q I r h
  obtain ⟨c, cv, b, rfl, hcv, hk, hd, q⟩ := h
  cases r with
  | cons ra r =>
    cases r with
    | cons rc r =>
      cases r
      cases ra
      have ec := hcv _ rc
      subst ec
      obtain ⟨ha, _⟩ := I.pin (a, oe) (List.mem_append_left _ List.mem_cons_self)
      obtain ⟨vs, hdat⟩ := hf
      have J : ∃ od, PySem.W.InstAt s.heap a oe D od := by
        rcases hd with rfl | ⟨p, f, v, rfl, hp⟩
        · exact ⟨none, ha, hz.1, by unfold PySem.W.notCls; rw [hdat] <;> rfl, by rw [hz.2]; trivial⟩
        · have hx : ObjOk X.prog X.w H s.heap p (.xd [(f, v)]) := I.hok p _ hp
          obtain ⟨mA, hns, hr⟩ := hx
          obtain ⟨od, ho, hl⟩ := lookIn_ns hns
          exact ⟨some od, ha, hz.1, by unfold PySem.W.notCls; rw [hdat] <;> rfl, by rw [hz.2]; exact ho⟩
      obtain ⟨od, J⟩ := J
      exact PySem.W.kia_one (PySem.W.kitx_exc C.ic C.hg C.hk C.hs C.ha C.hn C.ht C.hm) I.kIn J hk (fun z => nomatch z) fun tk => ⟨.bl b, H, I.tok _, rfl, q⟩
theorem xd_isE (i : Nat) {y z : Str} {a D Cz : Addr} {oe : Obj} {dd : Option Addr} {q : Option (Str × Dt)} {pn : List (Addr × Obj)} {r : Bool} {p p1 p2 : Pos} (C : ExcI X.K D) (hz : Zc (.ref D) dd oe) (hf : ∃ vs, oe.data = .fields vs) (hzn : X.mg z = some (.ref Cz)) (hk : PySem.W.kitOne X.K (.ref D) (.ref Cz) = some r) (hm : X.mg "isinstance" = none)
    (hi : st[i]? = some (some (.ex a dd q)) := by rfl) (hN : X.N[i]? = some y := by rfl) (hv : Vis X.env.scope y := by first | exact Or.inl rfl | exact Or.inr (Or.inl rfl) | exact Or.inr (Or.inr rfl)) (hdb : (y == ("__debug__" : Str)) = false := by decide)
    (hcd : (y == ("__classdict__" : Str)) = false := by decide) (hg : Gl X "isinstance" := by rfl) (hgz : Gl X z := by rfl) (hdz : (z == ("__debug__" : Str)) = false := by decide)
    (he : starEach (.Name y p1 :: [.Name z p2]) X.env = (false, eval (.Name y p1) X.env) :: starEach [.Name z p2] X.env := by rfl) (he2 : starEach (.Name z p2 :: []) X.env = (false, eval (.Name z p2) X.env) :: starEach [] X.env := by rfl) (hpl : (backTo pos (starEach [.Name z p2] X.env)).any (·.1) = false := by rfl) :
    XD c (X.suite a ((a, oe) :: pn)) (.Call (.Name "isinstance" p) [.Name y p1, .Name z p2] [] pos) st (.bl r) st :=
  ⟨pe_weak (pe_callB (call_isX C hz hf) hg hm (by decide +kernel) (pa_cons (pe_var hN hv hdb hcd) (pa_cons (pe_glob (v := .ref Cz) hgz hzn rfl hdz) pa_nil he2) he) (by decide) (by decide) he hpl) fun σ H Q ⟨G, E, k⟩ => by
    obtain ⟨v, h1, h2⟩ := E.sl i _ hi
    obtain ⟨rfl, h2⟩ := h2
    refine ⟨_, h1, _, _, r, rfl, fun u ru => ru, hk, ?_, k _ G H Gr.refl E .bl⟩
    cases q with
    | none => exact .inl h2
    | some q =>
      obtain ⟨p, vv, e1, e2, _⟩ := h2
      exact .inr ⟨p, _, vv, e1, E.ex _ _ e2⟩⟩
/-! ### try .. except X as n -/
def Out.drop (i : Nat) : Out → Out
  | .nx s => .nx (s.set i none)
  | .bk s => .bk (s.set i none)
  | .ct s => .ct (s.set i none)
  | .rt d s => .rt d (s.set i none)
  | .rl xs => .rl xs
  | .rq ds j s => .rq ds j (s.set i none)
theorem En.setNone (E : En c.K c.T c.pa G H σ st) (i : Nat) : En c.K c.T c.pa G H (σ.set i none) (st.set i none) where
  ex := E.ex
  sl := fun j s h => by
    rcases set_cases h with ⟨rfl, e, z⟩ | ⟨n, h⟩
    · cases e
    · obtain ⟨w, h1, h2⟩ := E.sl j s h
      exact ⟨w, by rw [List.getElem?_set_ne (Ne.symm n)]; exact h1, h2⟩
  ds := fun j k s t p h1 h2 o1 o2 h3 h4 => by
    rcases set_cases h1 with ⟨rfl, e, z⟩ | ⟨n, h1⟩
    · cases e
    · rcases set_cases h2 with ⟨rfl, e, z⟩ | ⟨n', h2⟩
      · cases e
      · rw [List.getElem?_set_ne (Ne.symm n)] at h3
        rw [List.getElem?_set_ne (Ne.symm n')] at h4
        exact E.ds j k s t p h1 h2 o1 o2 h3 h4
  len := by rw [List.length_set, List.length_set, E.len]
theorem own_setNone {i : Nat} {p : Addr} (h : own (σ.set i none) (st.set i none) p) : own σ st p := by
  obtain ⟨j, s, h1, h2, h3⟩ := h
  rcases set_cases h1 with ⟨rfl, e, z⟩ | ⟨n, h1⟩
  · cases e
  · rw [List.getElem?_set_ne (Ne.symm n)] at h3
    exact ⟨j, s, h1, h2, h3⟩
theorem En.setEx {a : Addr} {dd : Option Addr} {q : Option (Str × Dt)} (E : En c.K c.T c.pa G H σ st) (h : match q with | none => dd = none | some (f, d) => ∃ p vv, dd = some p ∧ G p = some (.xd [(f, vv)]) ∧ Rep c.K c.T G d vv) (i : Nat) : En c.K c.T c.pa G H (σ.set i (some (.ref a))) (st.set i (some (.ex a dd q))) where
  ex := E.ex
  sl := fun j s hj => by
    rcases set_cases hj with ⟨rfl, e, z⟩ | ⟨n, hj⟩
    · cases e
      exact ⟨.ref a, by rw [List.getElem?_set_self (by rw [E.len]; exact z)], rfl, h⟩
    · obtain ⟨w, h1, h2⟩ := E.sl j s hj
      exact ⟨w, by rw [List.getElem?_set_ne (Ne.symm n)]; exact h1, h2⟩
  ds := fun j k s t p h1 h2 o1 o2 h3 h4 => by
    rcases set_cases h1 with ⟨rfl, e, z⟩ | ⟨n, h1⟩
    · cases e; cases o1
    · rcases set_cases h2 with ⟨rfl, e, z⟩ | ⟨n', h2⟩
      · cases e; cases o2
      · rw [List.getElem?_set_ne (Ne.symm n)] at h3
        rw [List.getElem?_set_ne (Ne.symm n')] at h4
        exact E.ds j k s t p h1 h2 o1 o2 h3 h4
  len := by rw [List.length_set, List.length_set, E.len]
theorem own_setEx {i : Nat} {a : Addr} {dd : Option Addr} {q : Option (Str × Dt)} {p : Addr} (h : own (σ.set i (some (.ref a))) (st.set i (some (.ex a dd q))) p) : own σ st p := by
  obtain ⟨j, s, h1, h2, h3⟩ := h
  rcases set_cases h1 with ⟨rfl, e, z⟩ | ⟨n, h1⟩
  · cases e; cases h2
  · rw [List.getElem?_set_ne (Ne.symm n)] at h3
    exact ⟨j, s, h1, h2, h3⟩
theorem OutK.drop {D : Ends} {O : Addr → Prop} (i : Nat) (k : OutK c D G H O (o.drop i)) : OutK c { nx := fun σ' H' => D.nx (σ'.set i none) H', rt := D.rt, bk := fun σ' H' => D.bk (σ'.set i none) H', ct := fun σ' H' => D.ct (σ'.set i none) H' } G H O o := by
  cases o with
  | nx s => exact fun σ' G' H' g E => k _ G' H' (g.weakO fun p h => own_setNone h) (E.setNone i)
  | bk s => exact fun σ' G' H' g E => k _ G' H' (g.weakO fun p h => own_setNone h) (E.setNone i)
  | ct s => exact fun σ' G' H' g E => k _ G' H' (g.weakO fun p h => own_setNone h) (E.setNone i)
  | rt d s => exact fun v σ' G' H' g E r => k v σ' G' H' (g.weakO fun p h => own_drop h) (E.drop i) r
  | rl xs => exact k
  | rq ds j s => exact fun t b vs σ' G' H' g E r1 r2 r3 r4 r5 => k t b vs σ' G' H' (g.weakO fun p h => own_drop h) (E.drop i) r1 r2 r3 (fun z => r4 (own_drop z)) r5
theorem xp_tryAs (i : Nat) {y n : Str} {x : Xn} {cv : Value} {body suite : List Stmt} {b0 : Stmt} {np p1 : Pos} (hN : X.N.Nodup) (hc : Names X y cv) (hm : PySem.W.exmOne X.K (.ref x.C) cv = some true)
    (hb : ∀ (W : WX) (pn : List (Addr × Obj)) (xe : Value → Shared → Prop), Takes (X.tr pn xe) W → PassesOwn (model X.prog X.w) X.A X.env xe → XSX c (X.tr pn xe) W body st x st1)
    {o1 : Addr → Option Addr → Out} (hsu : ∀ (a : Addr) (oe : Obj) (dd : Option Addr) (pn : List (Addr × Obj)), Zc (.ref x.C) dd oe → (∃ vs, oe.data = .fields vs) → XS c (X.suite a ((a, oe) :: pn)) (b0 :: suite) (st1.set i (some (.ex a dd x.at_))) (o1 a dd))
    (ho : ∀ a dd, (o1 a dd).drop i = o := by intro _ _; rfl)
    (hs : X.stack = X.env :: X.outer := by rfl) (hf : X.env.frame = some X.env.locals := by rfl) (hi : X.N[i]? = some n := by rfl) (hln : X.env.kindOf n = some .local := by rfl) :
    XP c X (.Try body [.ExceptHandler (some (.Name y np)) (some n) (b0 :: suite) p1] [] [] pos) st o :=
  ⟨ps_weak (ps_try_as (i := i) (Wout := fun _ _ _ _ => False) (tb := fun W _ σ H => tXS c W st x st1 σ H) (ts := fun a cls dd => fun D σ H => cls = .ref x.C ∧ tO c (st1.set i (some (.ex a dd x.at_))) (o1 a dd) D σ H) hs hf hN hi hln hc takes0 (fun W pn xe tk pw => (hb W pn xe tk pw).pss) (fun a oe cls dd pn hz hfl => by
      by_cases hcl : cls = .ref x.C
      · subst hcl
        exact pss_weak (hsu a oe dd pn hz hfl).pss fun D σ H h => h.2
      · exact pss_weak pss_never' fun D σ H h => hcl h.1)) fun D σ H ⟨G, E, k⟩ =>
    ⟨G, E, fun σ' G' H' cls dd g E' r => by
      obtain ⟨rfl, r2⟩ := r
      refine ⟨true, hm, fun _ a ha => ⟨rfl, G', E'.setEx r2 i, ?_⟩, fun z => nomatch z⟩
      rw [← ho a dd] at k
      exact OutK.drop i (OutK.from k (g.weakO fun p h => own_setEx h))⟩⟩
/-! ### what raises on the way -/
theorem pa_never {es : List Expr} : PA X es (fun _ _ _ => False) := ⟨fun _ _ _ _ _ _ _ h => h.elim⟩
/-- f(e, ..), e raises -/
theorem xx_arg {y : Str} {k : Nat} {R : List Dt → Dt → Prop} {p : Pos} (F : DF X.prog X.w X.K c.T X.mg X.base y k R) (hr : Room k X.A) (h : XX c X W e st x st1) (hg : Gl X y := by rfl) (hdb : (y == ("__debug__" : Str)) = false := by decide) (he : starEach (e :: es) X.env = (false, eval e X.env) :: starEach es X.env := by rfl) (hpl : (backTo pos (starEach es X.env)).any (·.1) = false := by rfl) :
    XX c X W (.Call (.Name y p) (e :: es) [] pos) st x st1 := by
  obtain ⟨f, fd, ps, F, hm, hk, hb⟩ := F.ex
  exact ⟨pe_weak (pe_call (E := fun _ _ _ => False) F hr hg hm hk hb .nil pass0 (pa_cons h.pe pa_never he) hdb he hpl) fun σ H Q h => h⟩
/-- e.m(..), e raises -/
theorem xx_recv {m : Str} {apos : Pos} {pl : Sem Bool} (h : XX c X W b st x st1)
    (ht : eval (.Call (.Attribute b m apos) (e :: es) [] pos) X.env = (do
      let ov ← eval b X.env
      standAt apos.atName
      let (f, first) ← holding [ov] (getMethod ov m pl)
      callWith pos f first (backTo pos (starEach (e :: es) X.env)) (backToKw pos (keywordEach [] X.env))) := by rfl) :
    XX c X W (.Call (.Attribute b m apos) (e :: es) [] pos) st x st1 :=
  ⟨⟨fun pins s σ H Q' I h' => PySem.W.methodCall_KW (pl := pl) (thn (h.pe.run pins s σ H (fun _ _ => False) I h') fun u s1 z => by
    obtain ⟨_, _, _, _, f⟩ := z
    exact f.elim) ht⟩⟩
/-- a[e], e raises -/
theorem xx_ix {r : R2} (ha : XD c X a st d st1) (hb : XX c X W b st1 x st2) (ho : IxR X r) (hs : PlainIx b) : XX c X W (.Subscript a b pos) st x st2 :=
  ⟨pe_weak (pe_ix ho ha.pe hb.pe hs) fun σ H Q ⟨G, E, k⟩ => ⟨G, E, fun y G1 H1 g1 E1 r1 => ⟨G1, E1, fun G2 H2 cls dd g2 E2 r2 => k G2 H2 cls dd (g1.trans g2) E2 r2⟩⟩⟩
def tAnyX (c : Ctx) (X : Cx) (W : WX) (body : List Stmt) : TS := fun D σ H => (∃ st o, XS c X body st o ∧ tO c st o D σ H) ∨ ∃ st x st', XSX c X W body st x st' ∧ tXS c W st x st' σ H
theorem pss_anyX : PSs X body (tAnyX c X W body) := ⟨fun pins s σ H D I q => by
  rcases q with ⟨st, o, h, q⟩ | ⟨st, x, st', h, q⟩
  · exact h.pss.run pins s σ H D I q
  · exact h.pss.run pins s σ H D I q⟩
/-- a loop whose turn m raises -/
theorem xpx_for (S : Nat → Store) (m : Nat) (hm : ds[m]? = some d) (hi : XI c X tg iter st ds (S 0)) (hb : ∀ i d, i < m → ds[i]? = some d → Turns c X tg body d (S i) (S (i + 1))) (hl : ∃ t, XG c X tg d (S m) t ∧ XSX c X W body t x st1) (hc : X.calm = true := by rfl) (hp : PassesOwn (model X.prog X.w) X.A X.env X.xe := by exact PassesOwn.leaving)
    (hs : ∀ x, foldedSetIterable iter X.env x = pure x := by intro _; rfl) : XPX c X W (.For tg iter body [] pos) st x st1 :=
  ⟨ps_weak (ps_for hp hc hi.pi (pg_any (c := c)) (pss_anyX (c := c) (W := W)) hs) fun D σ0 H0 ⟨G, E, k⟩ => ⟨G, E, fun J G1 H1 g1 E1 y => by
    have ml : m < ds.length := (List.getElem?_eq_some_iff.mp hm).1
    refine ⟨fun i n σ H => n = m - i ∧ i ≤ m ∧ ∃ G', Gr G1 H1 G' H (own σ0 (S 0)) (own σ (S i)) ∧ En c.K c.T c.pa G' H σ (S i), ⟨_, rfl, Nat.zero_le _, G1, Gr.refl, E1⟩, ?_⟩
    rintro i n σ H ⟨rfl, hi, G', g', E'⟩
    by_cases hlt : i < m
    · refine .inr ⟨y.go i G' H g'.ex E'.ex (by omega), fun σ2 H2 => ∃ G2, Gr G1 H1 G2 H2 (own σ0 (S 0)) (own σ2 (S (i + 1))) ∧ En c.K c.T c.pa G2 H2 σ2 (S (i + 1)), fun σ2 H2 q => ⟨m - (i + 1), by omega, rfl, hlt, q⟩, fun x H2 yl => ?_⟩
      obtain ⟨G2, d, w, hd, rd⟩ := y.yl i G' H x H2 g'.ex E'.ex (by omega) yl
      obtain ⟨t, hg, hx⟩ := hb i d hlt hd
      refine ⟨d, S i, t, hg, G2, E'.g1 w, rd, fun σ3 G3 H3 g3 E3 => ?_⟩
      have g4 := (g'.trans w.gr).trans g3
      rcases hx with hx | hx
      · exact .inl ⟨t, _, hx, G3, E3, fun σ5 G5 H5 g5 E5 => ⟨G5, g4.trans g5, E5⟩⟩
      · exact .inl ⟨t, _, hx, G3, E3, fun σ5 G5 H5 g5 E5 => ⟨G5, g4.trans g5, E5⟩⟩
    · have e : i = m := by omega
      subst e
      refine .inr ⟨y.go i G' H g'.ex E'.ex ml, fun _ _ => False, fun _ _ q => q.elim, fun x H2 yl => ?_⟩
      obtain ⟨G2, d', w, hd, rd⟩ := y.yl i G' H x H2 g'.ex E'.ex ml yl
      rw [hm] at hd
      cases hd
      obtain ⟨t, hg, hx⟩ := hl
      refine ⟨d, S i, t, hg, G2, E'.g1 w, rd, fun σ3 G3 H3 g3 E3 => ?_⟩
      have g4 := g1.trans ((g'.trans w.gr).trans g3)
      exact .inr ⟨t, _, _, hx, G3, E3, fun σ5 G5 H5 cls dd g5 E5 r5 => k σ5 G5 H5 cls dd (g4.trans g5) E5 r5⟩⟩⟩
end Dv
set_option autoImplicit true
set_option maxRecDepth 100000
set_option maxHeartbeats 4000000
/-! reversed(text) -/
namespace DvV
open PySem PySem.Spec PyProof.Rows
def rsObj (x : Str) (t : Tok) (i : Int) : Obj := { cls := .type "reversed", data := .fields #[.str x t, rawInt i] }
def IsRs (h : Heap) (a : Addr) (x : Str) (t : Tok) (i : Int) : Prop := ∃ o, h.get? a = some o ∧ o.cls = .type "reversed" ∧ o.data = .fields #[.str x t, rawInt i]
theorem norev_str : typeLookup (.type "str") "__reversed__" = pure none := by kernel_rfl
section
variable {prog : Program} {w : World} {A : Around} {E : Value → Shared → Prop} {s : Shared} {it : Addr} {x : Str} {t : Tok} {i : Int}
theorem IsRs.typeIs (h : IsRs s.heap it x t i) : s.TypeIs (.ref it) "reversed" := by
  obtain ⟨o, h1, h2, _⟩ := h
  exact ⟨o, h1, h2⟩
theorem code_reversed_str {Q₁ : Value → Shared → Prop} (hz : x.length ≤ 100000) (h : Q₁ (.ref s.heap.objs.size) { s with heap := s.heap.push (rsObj x t ((x.length : Int) - 1)), toks := s.toks + 1 + 1 }) :
    codeAny (model prog w) A (.call (.builtin "reversed.__new__") ⟨[.type "reversed", .str x t], []⟩) (wants Q₁ E) s := by
  have hT : ∀ s : Shared, s.TypeIs (.str x t) "str" := fun s => typeIs_str s x t
  refine codeAny_of_tree ?_
  refine wpAny_bind (wpAny_of_eq (F.newCall_reversed_1 (.str x t)) (wpAny_pure ⟨plainId_quiet F.plain_reversed_new _, codeAny_builtin F.entry_reversed_new ?_⟩))
  rw [Around.under_plainId F.plain_reversed_new _]
  refine wpAny_bind (wpAny_of_eq (newClass_reversed (.str x t)) ?_)
  refine wpAny_bind (wpAny_of_eq (Eq.refl (Builtin.SmallTypes.refuseKeywords "reversed" (Value.type "reversed") ⟨[.type "reversed", .str x t], []⟩)) ?_)
  refine wpAny_bind (wpAny_of_eq (Eq.refl (checkCount "reversed" 1 1 ([.str x t] : List Value).length)) ?_)
  refine wpAny_bind (wpAny_specialOf (hT _) norev_str ?_)
  refine wpAny_bind ?_
  refine wpAny_bind (wpAny_isInstance (hT _) F.sub_str_dict ?_)
  rw [if_neg Bool.false_ne_true]
  refine wpAny_bind (wpAny_specialOf (hT _) F.slot_str_getitem.lookup ?_)
  refine wpAny_pure ?_
  rw [if_neg (by decide)]
  refine wpAny_bind (PyProof.Rows.len_str (by omega) ?_)
  refine wpAny_bind (wpAny_pure ?_)
  show wpAny _ _ (do let o ← Builtin.SmallTypes.newRecord (Value.type "reversed") [.str x t, rawInt ((x.length : Int) - 1)]; ret o) _ _ _
  refine wpAny_bind ?_
  unfold Builtin.SmallTypes.newRecord
  refine wpAny_newObj_type ?_ ?_
  · exact wpAny_pure h
  · unfold sizeOk; first | (rw [sizeLine_eq]; decide) | (simp [sizeLine_eq]) | trivial
theorem call_reversed_str {Q : Value → Shared → Prop} (hz : x.length ≤ 100000) (h : Q (.ref s.heap.objs.size) { s with heap := s.heap.push (rsObj x t ((x.length : Int) - 1)), toks := s.toks + 1 + 1 }) :
    wpAny (model prog w) A (call (.type "reversed") [.str x t]) Q E s :=
  callType_codes RT.called_rt (F.typeCall_reversed_1 (.str x t)) F.entry_object_init
    (code_reversed_str (Q₁ := fun obj s₁ => s₁.TypeIs obj "reversed" ∧ Q obj s₁) hz ⟨⟨rsObj x t ((x.length : Int) - 1), Heap.get?_push_size s.1 rfl, rfl⟩, h⟩)
    fun obj s₁ h₁ => ⟨h₁.1, F.args_object_init_2 obj (.str x t),
      object_init_meets RT.called_rt.init.lookup RT.called_rt.made (of_decide_eq_true rfl) prog w A.in1 (wants (fun r s₂ => r = .none ∧ Q obj s₂) E) s₁ ⟨h₁.1, rfl, h₁.2⟩⟩
theorem iter_rs {Q : Value → Shared → Prop} (hit : IsRs s.heap it x t i) (h : Q (.ref it) s) : wpAny (model prog w) A (pyIter (.ref it)) Q E s :=
  wpAny_pyIter_slot hit.typeIs RT.slot_rt_iter (wpAny_call_entry RT.slot_rt_iter hit.typeIs RT.entry_rt_iter (wpAny_pure ⟨.ref it, rfl, "reversed", .builtin "reversed.__next__", hit.typeIs, RT.slot_rt_next.lookup, h⟩) (RT.args_rt_iter (.ref it)))
theorem next_rs_item {k c : Nat} {Q : Option Value → Shared → Prop} (hit : IsRs s.heap it x t k) (hx : x.cps[k]? = some c) (hz : x.length ≤ 100000)
    (hQ : ∀ h' tk, IsRs h' it x t ((k : Int) - 1) → Heap.SameBut it s.heap h' → Q (some (.str ⟨#[c]⟩ (s.toks + 1))) { s with heap := h', toks := tk }) :
    wpAny (model prog w) A (pyNext (.ref it)) Q E s := by
  obtain ⟨o, ho, hc, hd⟩ := id hit
  have hk : k < x.length := by
    obtain ⟨h, _⟩ := Array.getElem?_eq_some_iff.mp hx
    exact h
  refine wpAny_bind (wpAny_attempt (wpAny_callSpecial?_slot hit.typeIs RT.slot_rt_next (wpAny_call_entry RT.slot_rt_next hit.typeIs RT.entry_rt_next ?_ (RT.args_rt_next (.ref it)))))
  refine wpAny_bind (wpAny_of_eq rfl ?_)
  refine wpAny_bind (wpAny_field ho hd rfl (wpAny_bind (wpAny_field ho hd rfl ?_)))
  show wpAny _ _ (if (k : Int) < 0 then _ else _) _ _ _
  rw [if_neg (by omega)]
  refine wpAny_bind (wpAny_specialOf (typeIs_str s x t) F.slot_str_getitem.lookup ?_)
  rw [if_neg (by decide)]
  refine wpAny_bind (wpAny_mkInt (wpAny_bind (wpAny_attempt ?_)))
  refine PyProof.Rows.getItem_str (c := c) ?_ ?_ ?_
  · rw [decide_eq_false (by omega), decide_eq_false (by omega)]; rfl
  · rw [seqIndex_of (by omega) (by omega)]
    exact hx
  refine wpAny_bind (wpAny_field ho hd rfl (wpAny_bind (wpAny_setField ho hd (by simp) (wpAny_pure ⟨_, rfl, wpAny_pure ?_⟩))))
  refine hQ _ _ ⟨_, Heap.get?_update_self _ ho (Obj.isFreed_of_fields (Obj.data_mapFields hd _)), (Obj.cls_mapFields o _).trans hc, ?_⟩ (Heap.SameBut.update s.heap it _)
  rw [Obj.data_mapFields hd]; rfl
theorem next_rs_end {Q : Option Value → Shared → Prop} (hh : A.handled = none) (hit : IsRs s.heap it x t (-1)) (hQ : ∀ h', Heap.ExtBut it s.heap h' → Q none { s with heap := h' }) :
    wpAny (model prog w) A (pyNext (.ref it)) Q E s := by
  obtain ⟨o, ho, hc, hd⟩ := id hit
  refine wpAny_bind (wpAny_attempt (wpAny_callSpecial?_slot hit.typeIs RT.slot_rt_next (wpAny_call_entry RT.slot_rt_next hit.typeIs RT.entry_rt_next ?_ (RT.args_rt_next (.ref it)))))
  refine wpAny_bind (wpAny_of_eq rfl ?_)
  refine wpAny_bind (wpAny_field ho hd rfl (wpAny_bind (wpAny_field ho hd rfl ?_)))
  show wpAny _ _ (if (-1 : Int) < 0 then _ else _) _ _ _
  rw [if_pos (by decide)]
  refine wpAny_bind (wpAny_rule (wpAny_bind ?_))
  have ho2 := Heap.get?_update_self (Obj.mapFields fun x => x.setIfInBounds 1 (rawInt (-1))) ho (Obj.isFreed_of_fields (Obj.data_mapFields hd fun x => x.setIfInBounds 1 (rawInt (-1))))
  refine wpAny_bind (wpAny_setField ho hd (by simp) ?_)
  refine wpAny_setField ho2 (Obj.data_mapFields hd _) (by simp) ?_
  refine wpAny_bind ?_
  unfold Builtin.SmallTypes.stopIteration
  refine wpAny_bind ?_
  refine wpAny_bind (wpAny_newObj_type ?_ ?_)
  · refine wpAny_bind (wpAny_of_eq (Eq.refl (firstArgMember (.type "StopIteration") [])) ?_)
    refine wpAny_newObj_type ?_ ?_
    · unfold raiseNew
      refine wpAny_bind (wpAny_handled ?_)
      have h0 : A.in1.handled = none := hh
      rw [h0]
      refine wpAny_throw ?_
      refine wpAny_bind (wpAny_isInstance ⟨_, Heap.get?_push_size _ rfl, rfl⟩ isSubtype_stop ?_)
      refine wpAny_pure (hQ _ ?_)
      intro b o hb e
      refine Heap.get?_push_of_some _ (Heap.get?_push_of_some _ ?_)
      exact Heap.get?_update_of_ne _ (Ne.symm hb) (Heap.get?_update_of_ne _ (Ne.symm hb) e)
    · simp only [List.size_toArray]
      exact sizeOk_excFields _ _ _ _ _ _ _ _
  · show (0 : Nat) ≤ sizeLine
    exact Nat.zero_le _
end
end DvV
namespace Dv
open PySem PySem.Spec PyProof.Rows L2 DvV
/-- the signs from the last one to the first -/
def Itrs (x : Str) : It := ⟨fun i _ => i < x.cps.size, fun i H v H' => H' = H ∧ ∃ c, x.cps[x.cps.size - 1 - i]? = some c ∧ v = .str ⟨#[c]⟩, fun i _ => x.cps.size ≤ i⟩
theorem turn_rs {P : Program} {w : World} {K : PySem.W.Frag} {tg : Expr} {x : Str} {t : Tok} (hz : x.length ≤ 100000) (it : Addr) : Turn P w K tg (Itrs x) [it] it (fun i h => i ≤ x.cps.size ∧ IsRs h it x t ((x.cps.size : Int) - 1 - i)) where
  mem := List.mem_singleton.mpr rfl
  obj := fun i h st b hb => by
    rw [List.mem_singleton.mp hb]
    obtain ⟨_, o, h1, h2, h3⟩ := st
    exact ⟨o, h1, fun v z => by rw [h3] at z; cases z⟩
  keep := fun i h h' st k => by
    obtain ⟨hi, o, h1, h2, h3⟩ := st
    exact ⟨hi, o, k it (List.mem_singleton.mpr rfl) o h1, h2, h3⟩
  item := fun X hP hw hK hc i pins s σ H E I hf st hg => by
    subst hP hw hK
    obtain ⟨f0, f1, f2, f3, f4, f5⟩ := hf it (List.mem_singleton.mpr rfl)
    obtain ⟨hi, hit⟩ := st
    have hg' : i < x.cps.size := hg
    have e1 : (x.cps.size : Int) - 1 - i = ((x.cps.size - 1 - i : Nat) : Int) := by omega
    rw [e1] at hit
    have hx : x.cps[x.cps.size - 1 - i]? = some (x.cps[x.cps.size - 1 - i]'(by omega)) := Array.getElem?_eq_getElem _
    refine next_rs_item hit hx hz fun h' tk st' sb => ?_
    have I1 := I.turned (t' := tk) (fun b o hb e => (sb.2 b hb).trans e) f0 f1 f3 f4 f5
    obtain ⟨o, g1, g2, g3⟩ := id st'
    refine ⟨_, rfl, L2.go_of g1 g2 g3 (by decide) ?_⟩
    exact ⟨.str _, H, I1, ⟨_, rfl⟩, ⟨rfl, _, hx, rfl⟩, ⟨hg', by rw [show (x.cps.size : Int) - 1 - ((i + 1 : Nat) : Int) = ((x.cps.size - 1 - i : Nat) : Int) - 1 by omega]; exact st'⟩, fun b hb => by rw [List.mem_singleton.mp hb]; exact f0⟩
  done := fun X hP hw hK hc i pins s σ H E I hf st hg => by
    subst hP hw hK
    obtain ⟨f0, f1, f2, f3, f4, f5⟩ := hf it (List.mem_singleton.mpr rfl)
    obtain ⟨hi, hit⟩ := st
    have hg' : x.cps.size ≤ i := hg
    have e1 : (x.cps.size : Int) - 1 - i = -1 := by omega
    rw [e1] at hit
    exact next_rs_end (I.ok.hd hc) hit fun h' eb => ⟨rfl, I.turned (fun b o hb e => eb b o hb e) f0 f1 f3 f4 f5⟩
  self := fun A i s Q E st h => iter_rs st.2 h
variable {c : Ctx} {X : Cx} {st st1 : Store} {e tg : Expr} {pos : Pos} {l : List Nat}
theorem xi_revX {p : Pos} (h : XD c X e st (.str (sx l)) st1) (hz : l.length ≤ 100000) (hm : X.mg "reversed" = none) (hg : Gl X "reversed" := by rfl) (hs : starEach [e] X.env = (false, eval e X.env) :: starEach [] X.env := by rfl) : XI c X tg (.Call (.Name "reversed" p) [e] [] pos) st (l.reverse.map fun q => .str (sx [q])) st1 := by
  refine ⟨⟨fun pins s σ H R I h' => ?_⟩⟩
  obtain ⟨G, E, k⟩ := h'
  refine PyProof.Rows.Call_ (L2.ld_blt I hg hm PyProof.Rows.boot_reversed (PyProof.Rows.callWith_type1 (PyProof.Rows.args_cons (L2.thn (h.pe.run pins s σ H (fun v H1 => ∃ G1, v = .str (sx l) ∧ Gr G H G1 H1 (own σ st) (own σ st1) ∧ En c.K c.T c.pa G1 H1 σ st1) I ⟨G, E, fun v G1 H1 g1 E1 r1 => by cases r1; exact ⟨G1, rfl, g1, E1⟩⟩) fun u s1 ⟨v, H1, I1, r1, G1, ev, g1, E1⟩ => PyProof.Rows.args_nil ?_) hs) hs rfl))
  subst ev
  obtain ⟨t, rfl⟩ := r1
  have hl : (sx l).length ≤ 100000 := by rw [sx_len]; exact hz
  refine call_reversed_str hl ?_
  have e0 : ((sx l).length : Int) - 1 = ((sx l).cps.size : Int) - 1 - ((0 : Nat) : Int) := by show ((sx l).cps.size : Int) - 1 = _; omega
  refine iter_rs (i := ((sx l).length : Int) - 1) ⟨_, Heap.get?_push_size _ rfl, rfl, rfl⟩ ?_
  refine pi_one I1 (rsObj (sx l) t (((sx l).length : Int) - 1)) (turn_rs (t := t) hl s1.heap.objs.size) ⟨Nat.zero_le _, ?_⟩ ?_
  · rw [← e0]; exact ⟨_, Heap.get?_push_size _ rfl, rfl, rfl⟩
  · have sz : (sx l).cps.size = l.length := by have := sx_len (l := l); exact this
    refine k _ G1 H1 g1 E1 ⟨fun i G H _ _ hi => ?_, fun i G H _ _ hi => ?_, fun i G H y H' _ e2 hi q => ?_⟩
    · show i < (sx l).cps.size
      rw [sz]; simpa using hi
    · show (sx l).cps.size ≤ i
      rw [sz]; simpa using hi
    · obtain ⟨rfl, q, h1, rfl⟩ := q
      refine ⟨G, _, Gw.refl e2, ?_, .str⟩
      have hi' : i < l.length := by simpa using hi
      rw [List.getElem?_map, List.getElem?_reverse hi']
      rw [sz] at h1
      have h2 : l[l.length - 1 - i]? = some q := by simpa [sx] using h1
      rw [h2]; rfl
end Dv
set_option autoImplicit true
set_option maxRecDepth 100000
set_option maxHeartbeats 4000000
namespace Dv
open PySem PySem.Spec PyProof.Rows L2
variable {c : Ctx} {X : Cx} {st st1 st2 st' : Store} {b e : Expr} {es : List Expr} {d : Dt} {ds xs : List Dt} {pos : Pos} {G G' H H' : Hp} {σ : L2.St} {W : WX} {l : List Nat}
/-! ### list(text), xs[::-1] -/
def rListX : List V → Hp → VK → Prop := fun xs H Q => ∃ z : Str, xs = [.str z] ∧ z.length ≤ 100000 ∧ ∀ p, H p = none → Q (.ref p) (upd H p (.lst (z.cps.toList.map fun q => .str ⟨#[q]⟩)))
theorem call_listX (hc : X.calm = true) : CallR X (.type "list") rListX := by
  intro pins s σ H xs us Q I r h
  obtain ⟨z, rfl, hz, q⟩ := h
  cases r with
  | cons r0 r1 =>
    cases r1
    obtain ⟨t, rfl⟩ := r0
    have hz' : z.cps.size ≤ 100000 := hz
    refine call_list_str (I.ok.hd hc) z t (fun h' tk acc n k ho hi => ?_) (by rw [sizeLine_eq]; omega)
    refine ⟨.ref s.heap.objs.size, _, I.laid (t' := tk) (o := .lst (z.cps.toList.map fun q => .str ⟨#[q]⟩)) k (Nat.le_refl _) ?_, rfl, q _ (I.hok.fresh (Nat.le_refl _))⟩
    refine ⟨by rw [List.length_map, sizeLine_eq, Array.length_toList]; omega, acc.toList, n, ?_, by rw [Array.toArray_toList]; exact ho⟩
    obtain ⟨h1, h2⟩ := hi
    have key : ∀ (a : List Nat) (vs : List Value), a.length = vs.length → (∀ (j : Nat) v, vs[j]? = some v → ∃ c u, a[j]? = some c ∧ v = .str ⟨#[c]⟩ u) → Vals (a.map fun q => V.str ⟨#[q]⟩) vs := by
      intro a
      induction a with
      | nil =>
        intro vs hl _
        cases vs with
        | nil => exact .nil
        | cons v vs => cases hl
      | cons q a ih =>
        intro vs hl hv
        cases vs with
        | nil => cases hl
        | cons v vs =>
          obtain ⟨c, u, e1, e2⟩ := hv 0 v rfl
          have e1 : q = c := Option.some.inj e1
          subst e1 e2
          exact .cons ⟨u, rfl⟩ (ih vs (by simpa using hl) fun j v hj => hv (j + 1) v hj)
    refine key _ _ (by rw [Array.length_toList, Array.length_toList]; exact h1.symm) fun j v hj => ?_
    obtain ⟨c, u, e1, e2⟩ := h2 j v (by simpa using hj)
    exact ⟨c, u, by simpa using e1, e2⟩
theorem reps_signs {K : PySem.W.Frag} {T : Ct} (G : Hp) : ∀ a : List Nat, Reps K T G (a.map fun q => .str (sx [q])) (a.map fun q => .str ⟨#[q]⟩)
  | [] => .nil
  | _ :: a => .cons .str (reps_signs G a)
theorem xd_listX {p : Pos} (h : XD c X e st (.str (sx l)) st1) (hz : l.length ≤ 100000) (hc : X.calm = true) (hm : X.mg "list" = none) (hg : Gl X "list" := by rfl) (he : starEach (e :: []) X.env = (false, eval e X.env) :: starEach [] X.env := by rfl) (hpl : (backTo pos (starEach [] X.env)).any (·.1) = false := by rfl) :
    XD c X (.Call (.Name "list" p) [e] [] pos) st (.lst (l.map fun q => .str (sx [q]))) st1 :=
  xd_callTy (xa_cons h xa_nil he) (call_listX hc) (fun G H vs Q ex r kk => by
    cases r with
    | cons r0 r1 =>
      cases r1
      cases r0
      refine ⟨sx l, rfl, by rw [sx_len]; exact hz, fun p hp => kk _ _ _ (Gw.new ex hp) (.lst upd_same ?_)⟩
      have e1 : (sx l).cps.toList = l := by simp [sx]
      rw [e1]
      exact reps_signs _ l) hm (by decide +kernel) hg (by decide) (by decide) he hpl
theorem Reps.rev {K : PySem.W.Frag} {T : Ct} : ∀ {ds : List Dt} {vs : List V}, Reps K T G ds vs → Reps K T G ds.reverse vs.reverse
  | _, _, .nil => .nil
  | _, _, .cons r t => by rw [List.reverse_cons, List.reverse_cons]; exact (Reps.rev t).app (.cons r .nil)
theorem xd_revL {k : Nat} {p1 p2 p3 : Pos} (h : XD c X e st (.lst ds) st1) (hK : X.K = c.K) : XD c X (.Subscript e (.Slice none none (some (.UnaryOp .USub (.Constant (.int 1) k p1) p2)) p3) pos) st (.lst ds.reverse) st1 :=
  ⟨pe_weak (pe_revL h.pe) fun σ H Q ⟨G, E, k⟩ => ⟨G, E, fun v G1 H1 g1 E1 r1 => by
    obtain ⟨a, vs, rfl, hl, r⟩ := r1.lst_inv
    refine ⟨a, vs, rfl, .inl (.inl (E1.ex _ _ hl)), fun p hp => ?_⟩
    exact k _ _ _ (g1.trans (Gw.new E1.ex hp).gr) (E1.g1 (Gw.new E1.ex hp)) (.lst upd_same (r.rev.ex (Gw.new (o := .lst vs.reverse) E1.ex hp).ex))⟩⟩
/-! ### an instance called -/
theorem run_inst {CX : CXT} {k : Nat} {f C p dx : Addr} {fd : FuncData} {ps : List Str} {sp : Sp} {E : XK} {pins : List (Addr × Obj)} {s : Shared} {Q : VK} {us : List Value} {vs : List V} {gs : List (Str × V)} (F : FnOk X.prog X.w X.K X.mg X.base CX k f fd ps sp) (hr : Room k X.A) (hb : Binds X.K fd ps []) (hx : PassesAt CX X σ E) (M : Meth X.K C "__call__" f) (ht : PySem.W.typeIn X.K (.ref f) = some (.type "function"))
    (hl : ∃ o fd', X.K.lookup f = some o ∧ o.data = .func fd') (I : L2.Inv X pins σ H s) (hp : H p = some (.ins C dx gs)) (r : Vals vs us) (h : sp (.ref p :: vs) H Q E) : wpAny (model X.prog X.w) X.A (call (.ref p) us) (EP X pins σ Q) X.xe s := by
  have ho : ObjOk X.prog X.w H s.heap p (.ins C dx gs) := I.hok p _ hp
  obtain ⟨_, _, _, ho, _⟩ := ho
  obtain ⟨mA, J, _⟩ := ins_get I.hok hp
  obtain ⟨od, J, _⟩ := J.look
  obtain ⟨o, fd', l1, l2⟩ := hl
  have hf : s.heap.get? f = some o := I.kIn _ _ l1
  refine wpAny_call (codeAny_of_tree ?_)
  show wpAny _ _ (callAny (.ref p) ⟨us, []⟩) _ _ _
  refine wpAny_bind (wpAny_load ho ?_)
  show wpAny _ _ (callAny.viaDunder (.ref p) ⟨us, []⟩) _ _ _
  refine wpAny_bind (wpAny_bind (J.type.here ((PySem.W.looks_findIn I.kIn M.at_).here ?_)))
  refine wpAny_bind ((PySem.W.bind_fn I.kIn (.ref p) ht).here ?_)
  refine wpAny_bind (wpAny_bind (wpAny_load hf ?_))
  rw [l2]
  refine wpAny_pure ?_
  show wpAny _ _ (if true = true then _ else _) _ _ _
  rw [if_pos rfl]
  refine wpAny_pure ⟨rfl, ?_⟩
  have r2 : Vals (.ref p :: vs) (.ref p :: us) := .cons rfl r
  have hlen := F.len _ _ _ _ h
  have b := hb s (.ref p :: us) I.kIn (by rw [List.append_nil, ← r2.length]; exact hlen)
  rw [List.append_nil] at b
  refine codeAny_mono (F.run X.A X.stack s H ⟨.ref p :: us, []⟩ (.ref p :: us) (.ref p :: vs) Q E hr I.env0 b r2 h) fun r s' hq => ?_
  cases r with
  | error e => exact hx pins H s e s' I hq
  | ok fl =>
    cases fl with
    | ret v => exact I.after hq
    | _ => exact hq.elim
/-- a class's own __call__ -/
structure MCF (P : Program) (w : World) (K : PySem.W.Frag) (T : Ct) (mg : Str → Option Value) (base : Heap) (C : Addr) (k : Nat) (R : List Dt → Dt → Prop) : Prop where
  ex : ∃ f fd ps, FnOk P w K mg base CX0 k f fd ps (spD K T R) ∧ Meth K C "__call__" f ∧ Binds K fd ps [] ∧ PySem.W.typeIn K (.ref f) = some (.type "function") ∧ ∃ o fd', K.lookup f = some o ∧ o.data = .func fd'
theorem xd_inst {n k : Nat} {fs : List Dt} {R : List Dt → Dt → Prop} {y : Str} {C : Addr} {ns : List Str} (h0 : XD c X b st (.obj n fs) st1) (Q : CF X.K c.T X.mg y n C ns) (F : MCF X.prog X.w X.K c.T X.mg X.base C k R) (hK : X.K = c.K) (hr : Room k X.A) (h : XA c X (e :: es) st1 ds st2) (hR : R (.obj n fs :: ds) d)
    (he : starEach (e :: es) X.env = (false, eval e X.env) :: starEach es X.env := by rfl) (hpl : (backTo pos (starEach es X.env)).any (·.1) = false := by rfl)
    (ht : eval (.Call b (e :: es) [] pos) X.env = (do let f ← eval b X.env; callWith pos f [] (backTo pos (starEach (e :: es) X.env)) (backToKw pos (keywordEach [] X.env))) := by rfl) :
    XD c X (.Call b (e :: es) [] pos) st d st2 := by
  obtain ⟨f, fd, ps, F, M, hb, hty, hl⟩ := F.ex
  rw [hK] at F
  refine ⟨⟨fun pins s σ H Q' I h' => ?_⟩⟩
  obtain ⟨G, E, kk⟩ := h'
  refine PyProof.Rows.Call_ (thn (h0.pe.run pins s σ H (fun u H1 => ∃ G1, Gr G H G1 H1 (own σ st) (own σ st1) ∧ En c.K c.T c.pa G1 H1 σ st1 ∧ Rep c.K c.T G1 (.obj n fs) u) I ⟨G, E, fun u G1 H1 g1 E1 r1 => ⟨G1, g1, E1, r1⟩⟩) fun u s1 ⟨xv, H1, I1, rx, G1, g1, E1, r1⟩ => ?_) ht
  obtain ⟨C1, ns1, p, dx, vs1, rfl, t1, hp, _, _⟩ := id r1.obj_inv
  have eT := Q.at_
  rw [t1] at eT
  cases eT
  obtain rfl : u = Value.ref p := rx
  unfold callWith
  refine wpAny_bind (wpAny_holding ?_)
  rw [he]
  refine Calls.evalArgs_plain ?_
  have hrun := h.pa.run pos pins s1 σ H1 (fun vs H2 => ∃ G2, Gr G H G2 H2 (own σ st) (own σ st2) ∧ En c.K c.T c.pa G2 H2 σ st2 ∧ Reps c.K c.T G2 (.obj n fs :: ds) (.ref p :: vs) ∧ Ex G1 G2) I1 ⟨G1, E1, fun vs G2 H2 g2 E2 r2 => ⟨G2, g1.trans g2, E2, .cons (r1.ex g2.ex) r2, g2.ex⟩⟩
  rw [he] at hrun
  refine thn hrun fun us s2 ⟨vs, H2, I2, r, G2, g2, E2, rs, e12⟩ => ?_
  have hp2 := E2.ex _ _ (e12 _ _ hp)
  have ho : ObjOk X.prog X.w H2 s2.heap p (.ins C dx (ns.zip vs1)) := I2.hok p _ hp2
  obtain ⟨_, _, _, ho, _⟩ := ho
  refine wpAny_bind (wpAny_standAt ?_)
  refine wpAny_bind (wpAny_bind (wpAny_load ho ?_))
  refine wpAny_pure ?_
  refine wpAny_bind (PyProof.Rows.wpAny_operate' ?_)
  refine wpAny_mono (run_inst (E := fun _ _ _ => False) (vs := vs) (Q := Q') (by rw [hK]; exact F) hr hb (fun _ _ _ _ _ I => pass0 _ _ _ _ _ _ I) M hty hl I2 hp2 r ?_) (fun v s3 hv => wpAny_bind (wpAny_holding (wpAny_point (wpAny_pure hv)))) (fun _ _ z => z)
  exact ⟨G2, _, d, E2.ex, rs, hR, fun v G3 H3 g3 e3 r3 => by
    have w := gw_of g3 e3
    exact kk v G3 H3 (g2.trans w.gr) (E2.g1 w) r3⟩
end Dv
set_option autoImplicit true
set_option maxRecDepth 100000
set_option maxHeartbeats 4000000
namespace Dv
open PySem PySem.Spec PyProof.Rows L2
variable {c : Ctx} {X : Cx} {st st1 st2 st' : Store} {b e : Expr} {es : List Expr} {d : Dt} {ds xs : List Dt} {pos : Pos} {G G' H H' : Hp} {σ : L2.St} {W : WX} {x : Xn} {n : Nat} {C : Addr} {ns : List Str}
/-! ### an instance whose __init__ raises -/
def spIX (K : PySem.W.Frag) (T : Ct) (n : Nat) (R : List Dt → Xn → Prop) : Sp := fun vs H _ E => ∃ y vs' G C ns dx ds e, vs = .ref y :: vs' ∧ T n = some (C, ns) ∧ Ex G H ∧ G y = none ∧ H y = some (.ins C dx []) ∧ Reps K T G ds vs' ∧ R ds e ∧
  ∀ cls d G' H', Gr G H G' H' (· = y) (fun _ => False) → Ex G' H' → ExR K T G' e cls d → E cls d H'
theorem okIX {P : Program} {w : World} {K : PySem.W.Frag} {T : Ct} {mg : Str → Option Value} {base : Heap} {y qual : Str} {sd : Stmt} {f : Addr} {fd : FuncData} {N ps : List Str} {k : Nat} {R : List Dt → Xn → Prop} (F : Fun K y qual sd f fd) (S : FnScope N ps (defScope sd)) (hT : T n = some (C, ns)) (hl : ∀ ds x, R ds x → ds.length + 1 = ps.length)
    (body : ∀ (cdv : Value) (A : Around) (outer : List Env) (s : Shared) (H : Hp) (E : XK) (pa : Nat → Addr) (ds : List Dt) (x : Xn), Room k (A.deeper (envOfC qual (defScope sd) s.heap.objs.size f cdv)) → R ds x →
      ∃ st', XSX ⟨K, T, pa⟩ (cxOf (L2.CX P w) P w K mg base N qual (defScope sd) f cdv A outer s H E) (fun cls d _ H => E cls d H) (defBody sd) (st0I N n ds) x st') : FnOk P w K mg base (L2.CX P w) (k + 1) f fd ps (spIX K T n R) := by
  refine F.okX S (fun vs H Q E h => ?_) (fun cdv A outer s H vs Q E hr h => ?_)
  · obtain ⟨y, vs', G, C', ns', dx, ds, e, rfl, hT', ex, hn, hl', r, hR, kk⟩ := h
    rw [List.length_cons, ← r.length]; exact hl ds e hR
  · obtain ⟨y, vs', G, C', ns', dx, ds, e, rfl, hT', ex, hn, hl', r, hR, kk⟩ := h
    rw [hT] at hT'
    cases hT'
    obtain ⟨st', hb⟩ := body cdv A outer s H E (fun _ => y) ds e hr hR
    refine ⟨_, hb.pss, G, En.startI (c := ⟨K, T, fun _ => y⟩) (pa := fun _ => y) hT ex hn hl' r, fun σ' G' H' cls d g E' q => kk cls d G' H' ?_ E'.ex q⟩
    exact ⟨g.ex, fun p o q => (g.nw p o q).imp id (Or.imp id fun z => own_startI (pa := fun _ => y) z), fun p o q nq => g.fr p o q fun z => nq (own_startI (pa := fun _ => y) z), g.al, fun p q => q.elim⟩
theorem run_makeX {CX : CXT} {k : Nat} {f : Addr} {fd : FuncData} {ps : List Str} {sp : Sp} {E : XK} {pins : List (Addr × Obj)} {s : Shared} {Q : VK} {us : List Value} {vs : List V} (M : Mk X.K C f) (F : FnOk X.prog X.w X.K X.mg X.base CX k f fd ps sp) (hr : Room (k + 1) X.A) (hb : Binds X.K fd ps []) (hx : PassesAt CX X σ E) (I : L2.Inv X pins σ H s) (r : Vals vs us)
    (h : ∀ y dx, H y = none → H dx = none → dx ≠ y → sp (.ref y :: vs) (upd (upd H dx (.own y)) y (.ins C dx [])) (fun _ _ => False) E) : wpAny (model X.prog X.w) X.A (call (.ref C) us) (EP X pins σ Q) X.xe s := by
  have hq := h (s.heap.objs.size + 1) s.heap.objs.size (I.hok.fresh (Nat.le_succ _)) (I.hok.fresh (Nat.le_refl _)) (Nat.ne_of_lt (Nat.lt_succ_self _))
  have I2 := Inv.made (C := C) I
  have r2 : Vals (.ref (s.heap.objs.size + 1) :: vs) (.ref (s.heap.objs.size + 1) :: us) := .cons rfl r
  have hlen := F.len _ _ _ _ hq
  have b := hb ⟨(s.heap.push PySem.W.emptyDict).push (PySem.W.instObj C s.heap.objs.size), s.gens, s.drawn, s.toks, s.os⟩ (.ref (s.heap.objs.size + 1) :: us) I2.kIn (by rw [List.append_nil, ← r2.length]; exact hlen)
  rw [List.append_nil] at b
  refine wpAny_call (make_map I.kIn M.makes M.init (beq_iff_eq.mp M.fn) (codeAny_mono (F.run (X.A.under (.builtin "type.__call__" ⟨.ref C :: us, []⟩)) X.stack _ _ ⟨.ref (s.heap.objs.size + 1) :: us, []⟩ _ _ (fun _ _ => False) E (Room.make hr C us []) (Env0.make I2.env0 C us []) b r2 hq) fun r s' hq' => ?_))
  cases r with
  | error e => exact hx pins _ _ e s' I2 hq'
  | ok fl =>
    cases fl with
    | ret v =>
      obtain ⟨_, _, _, _, _, _, _, z⟩ := hq'
      exact z.elim
    | _ => exact hq'.elim
/-- a class by its name, whose __init__ raises -/
structure IX (P : Program) (w : World) (K : PySem.W.Frag) (T : Ct) (mg : Str → Option Value) (base : Heap) (n : Nat) (C : Addr) (k : Nat) (R : List Dt → Xn → Prop) : Prop where
  ex : ∃ f fd ps, FnOk P w K mg base (L2.CX P w) k f fd ps (spIX K T n R) ∧ Mk K C f ∧ Binds K fd ps []
theorem xx_mk {k : Nat} {R : List Dt → Xn → Prop} {y : Str} {p : Pos} (Q : CF X.K c.T X.mg y n C ns) (F : IX X.prog X.w X.K c.T X.mg X.base n C k R) (hK : X.K = c.K) (tk : Takes X W) (hr : Room (k + 1) X.A) (h : XA c X (e :: es) st ds st1) (hR : R ds x) (hg : Gl X y := by rfl) (hdb : (y == ("__debug__" : Str)) = false := by decide)
    (he : starEach (e :: es) X.env = (false, eval e X.env) :: starEach es X.env := by rfl) (hpl : (backTo pos (starEach es X.env)).any (·.1) = false := by rfl) : XX c X W (.Call (.Name y p) (e :: es) [] pos) st x st1 := by
  obtain ⟨f, fd, ps, F, M, hb⟩ := F.ex
  rw [hK] at F
  refine ⟨⟨fun pins s σ H Q' I h' => ?_⟩⟩
  obtain ⟨G, E, kk⟩ := h'
  refine wpAny_Call_Name_kw (ld_glob I hg Q.nm ?_ hdb)
  refine PySem.W.callWith_K (h₀ := X.base) I.ok.mod.kin M.kp (thn (h.pa.run pos pins s σ H (fun vs H1 => ∃ G1, Gr G H G1 H1 (own σ st) (own σ st1) ∧ En c.K c.T c.pa G1 H1 σ st1 ∧ Reps c.K c.T G1 ds vs) I ⟨G, E, fun vs G1 H1 g1 E1 r1 => ⟨G1, g1, E1, r1⟩⟩) fun us s1 ⟨vs, H1, I1, r, G1, g1, E1, rs⟩ => ⟨I1.kIn, ?_⟩) he hpl
  refine run_makeX (E := WE W σ) M (by rw [hK]; exact F) hr hb (passAt tk σ) I1 r fun y dx hy hdx hne => ?_
  have e0 : Ex H1 (upd (upd H1 dx (.own y)) y (.ins C dx [])) := fun p o h => by rw [upd_ne (ne_of_none h hy), upd_ne (ne_of_none h hdx)]; exact h
  refine ⟨y, vs, G1, C, ns, dx, ds, x, rfl, Q.at_, E1.ex.trans e0, E1.ex.none hy, upd_same, rs, hR, fun cls d G' H' g e' q => ?_⟩
  have gw : Gw G1 H1 G' H' := ⟨g.ex, fun p o h => g.fr p o (e0 p o h) (ne_of_none h hy), e', fun p o h => by
    rcases g.nw p o h with z | z | z
    · exact .inl z
    · exact .inr (e0.none z)
    · exact .inr (by rw [show p = y from z]; exact hy)⟩
  exact kk G' H' cls d (g1.trans gw.gr) (E1.g1 gw) q
end Dv
set_option autoImplicit true
set_option maxRecDepth 100000
set_option maxHeartbeats 4000000
namespace Dv
open PySem PySem.Spec PyProof.Rows L2
variable {c : Ctx} {X : Cx} {st st1 st2 st' : Store} {a b e : Expr} {es : List Expr} {d : Dt} {ds xs : List Dt} {pos : Pos} {G G' H H' : Hp} {σ : L2.St} {j : Int}
/-- t[j:] of a tuple, j from 1 on -/
theorem xd_cutLoT (ha : XD c X a st (.tup ds) st1) (hb : XD c X b st1 (.int j) st2) (hj : 0 < j) (hl : 0 < ds.length) (hK : X.K = c.K) {p2 : Pos} : XD c X (.Subscript a (.Slice (some b) none none p2) pos) st (.tup (ds.drop j.toNat)) st2 :=
  ⟨pe_weak (pe_slice sl_tup ha.pe (po_some hb.pe) po_none) fun σ H Q ⟨G, E, kk⟩ => ⟨G, E, fun x G1 H1 g1 E1 r1 => ⟨G1, E1, fun y G2 H2 g2 E2 r2 => by
    obtain ⟨a', vs, rfl, hq, r⟩ := r1.tup_inv
    cases r2
    have hlv : 0 < vs.length := by rw [← r.length]; exact hl
    refine ⟨j, rfl, a', vs, rfl, by rw [hK]; exact E2.ex.st (g2.ex.st hq), fun z => ?_, fun p hp => ?_⟩
    · have z1 := z.1
      rw [sIx_hi (by omega)] at z1
      omega
    · have e : cutV vs (some j) none = vs.drop j.toNat := by
        show List.take (vs.length - HT.sIx vs.length 0 (some j)) (List.drop (HT.sIx vs.length 0 (some j)) vs) = _
        rw [sIx_hi (by omega), List.take_of_length_le (by rw [List.length_drop]; omega)]
        by_cases q : j.toNat ≤ vs.length
        · rw [Nat.min_eq_left q]
        · rw [Nat.min_eq_right (by omega), List.drop_eq_nil_of_le (Nat.le_refl _), List.drop_eq_nil_of_le (by omega)]
      rw [e]
      exact kk _ _ _ ((g1.trans g2).trans (Gw.new E2.ex hp).gr) (E2.g1 (Gw.new E2.ex hp)) (.tup (SqT.of upd_same) ((Reps.drop _ (r.ex g2.ex)).ex (Ex.new (E2.ex.none hp))))⟩⟩⟩
/-- and, its first operand true, the rest may change what is known -/
theorem xd_andT {rest : List Expr} {u : Bool} (h : XD c X a st (.bl true) st1) (h2 : XD c X (.BoolOp .And (b :: rest) pos) st1 (.bl u) st2) : XD c X (.BoolOp .And (a :: b :: rest) pos) st (.bl u) st2 :=
  ⟨pe_weak (pe_and h.pe h2.pe) fun σ H Q ⟨G, E, k⟩ => ⟨G, E, fun v G1 H1 g1 E1 r1 => by cases r1; exact ⟨true, rfl, by refine L2.iteT ?_; exact ⟨G1, E1, fun v G2 H2 g2 E2 r2 => k v G2 H2 (g1.trans g2) E2 r2⟩⟩⟩⟩
end Dv
set_option autoImplicit true
set_option maxRecDepth 100000
set_option maxHeartbeats 4000000
namespace Dv
open PySem PySem.Spec PyProof.Rows L2
variable {c : Ctx} {X : Cx} {st st1 st2 st' : Store} {a b e : Expr} {es : List Expr} {d : Dt} {ds xs : List Dt} {pos : Pos} {G G' H H' : Hp} {σ : L2.St} {j : Int} {t : Bool}
/-- t[:j] of a tuple, j below its length -/
theorem xd_cutHiT (ha : XD c X a st (.tup ds) st1) (hb : XD c X b st1 (.int j) st2) (hj : 0 ≤ j) (hl : j < ds.length) (hK : X.K = c.K) {p2 : Pos} : XD c X (.Subscript a (.Slice none (some b) none p2) pos) st (.tup (ds.take j.toNat)) st2 :=
  ⟨pe_weak (pe_slice sl_tup ha.pe po_none (po_some hb.pe)) fun σ H Q ⟨G, E, kk⟩ => ⟨G, E, fun x G1 H1 g1 E1 r1 => ⟨G1, E1, fun y G2 H2 g2 E2 r2 => by
    obtain ⟨a', vs, rfl, hq, r⟩ := r1.tup_inv
    cases r2
    have hlv : ds.length = vs.length := r.length
    refine ⟨j, rfl, a', vs, rfl, by rw [hK]; exact E2.ex.st (g2.ex.st hq), fun z => ?_, fun p hp => ?_⟩
    · have z2 := z.2
      rw [sIx_hi (by omega)] at z2
      omega
    · have e : cutV vs none (some j) = vs.take j.toNat := by
        show List.take (HT.sIx vs.length vs.length (some j) - 0) (List.drop 0 vs) = _
        rw [sIx_hi (by omega), List.drop_zero, Nat.min_eq_left (by omega)]; rfl
      rw [e]
      exact kk _ _ _ ((g1.trans g2).trans (Gw.new E2.ex hp).gr) (E2.g1 (Gw.new E2.ex hp)) (.tup (SqT.of upd_same) ((Reps.take _ (r.ex g2.ex)).ex (Ex.new (E2.ex.none hp))))⟩⟩⟩
/-- e is not None -/
theorem xt_notN {p2 : Pos} {j : Nat} (h : XD c X e st d st1) (ht : (match d with | .non => false | _ => true) = t) : XT c X (.Compare e [.IsNot] [.Constant .none j p2] pos) st t st1 := by
  refine xt_cmp h xd_non op_notN (fun G H x y Q ex r1 r2 kk => ?_) (nomark _)
  cases r2
  refine ⟨rfl, ?_⟩
  have e1 : (!decide (x = V.non)) = t := by
    rw [← ht]
    cases r1 <;> simp
  rw [e1]
  exact kv_same kk ex .bl
end Dv
set_option autoImplicit false
set_option maxRecDepth 100000
set_option maxHeartbeats 4000000
namespace Dv
open PySem PySem.Spec PyProof.Rows L2
/-! ### an own __iter__ that hands out iter of a tuple that a field holds -/
/-- what stands where the iterator is made -/
def itX (it a : Addr) : HO := .ext fun h => h.IsTupleIter it a 0
section
variable {c : Ctx} {X : Cx} {st st1 : Store} {e tg : PySem.Expr} {d : Dt} {ds ys fs : List Dt}
theorem itX_ok {P : Program} {w : World} {H : Hp} {h : Heap} {it a : Addr} (z : h.IsTupleIter it a 0) : ObjOk P w H h it (itX it a) := by
  obtain ⟨o, h1, h2, h3⟩ := z
  show ObjOk P w H h it (HO.ext _)
  simp only [ObjOk]
  refine ⟨⟨o, h1, h2, h3⟩, ⟨o, h1⟩, fun g1 g2 p q => ?_⟩
  obtain ⟨o', p1, p2, p3⟩ := p
  exact ⟨o', q _ p1, p2, p3⟩
theorem itX_get {P : Program} {w : World} {H : Hp} {h : Heap} {it a : Addr} (z : ObjOk P w H h it (itX it a)) : h.IsTupleIter it a 0 := by
  have z : ObjOk P w H h it (HO.ext fun h => h.IsTupleIter it a 0) := z
  simp only [ObjOk] at z
  exact z.1
theorem cr_iterT : CallR X (.builtin "iter") (fun xs H Q => ∃ a, xs = [.ref a] ∧ (∃ ws, SqT X.K H a ws) ∧ ∀ it, X.base.objs.size ≤ it → H it = none → Q (.ref it) (upd H it (itX it a))) := by
  intro pins s σ H xs us Q I r h
  obtain ⟨a, rfl, ⟨ws, hq⟩, k⟩ := h
  cases r with
  | cons r0 r1 =>
    cases r1
    cases r0
    obtain ⟨its, rv, p, hz⟩ := I.tuple hq
    refine Calls.call_function_entry (b := Builtin.iter) (by decide) (by decide) W.kdk_entry_iter (W.kdk_args_iter (.ref a)) ?_
    show wpAny _ _ (do
      let l ← someArgs "iter" 1 2 { pos := [Value.ref a] }
      _) _ _ _
    refine wpAny_bind (wpAny_of_eq (Eq.refl (someArgs "iter" 1 2 { pos := [Value.ref a] })) ?_)
    show wpAny _ _ (do
      let l ← pyIter (.ref a)
      ret l) _ _ _
    refine wpAny_bind (wpAny_pyIter_tuple p (wpAny_pure ⟨_, rfl, ?_⟩))
    exact ⟨.ref s.heap.objs.size, _, I.laid (t' := s.toks) (o := itX s.heap.objs.size a) (fun b ob q => Heap.get?_push_of_some _ q) (Nat.le_refl _) (itX_ok ⟨_, Heap.get?_push_size s.1 rfl, rfl, rfl⟩), rfl, k _ I.env0.bsz (I.hok.fresh (Nat.le_refl _))⟩
/-- the contract: the items of the field -/
def spIt (base : Heap) (K : PySem.W.Frag) (T : Ct) (n i : Nat) : Sp := fun vs H Q _ => ∃ G fs ys, Ex G H ∧ Reps K T G [.obj n fs] vs ∧ fs[i]? = some (.tup ys) ∧ ∀ it a, base.objs.size ≤ it → H it = none → (∃ ws, SqT K G a ws ∧ Reps K T G ys ws) → Q (.ref it) (upd H it (itX it a))
theorem ok_it {P : Program} {w : World} {K : PySem.W.Frag} {T : Ct} {mg : Str → Option Value} {base : Heap} {qual : Str} {sd : Stmt} {f : Addr} {fd : FuncData} {n i : Nat} {C : Addr} {ns : List Str} {fld : Str} {p1 p2 p3 p4 p5 : PySem.Pos} (F : Fun K "__iter__" qual sd f fd) (S : FnScope ["self"] ["self"] (defScope sd))
    (hB : defBody sd = [.Return (some (.Call (.Name "iter" p1) [.Attribute (.Name "self" p2) fld p3] [] p4)) p5]) (hT : T n = some (C, ns)) (hc : Cls K C) (hna : NoAttr K C fld) (hi : ns.findIdx? (· == fld) = some i) (hmi : mg "iter" = none)
    (hg : ∀ cdv A outer s H E, Gl (bX P w K mg base ["self"] qual sd f cdv A outer s H E) "iter") (hv : ∀ cdv A outer s H E, Vis (bX P w K mg base ["self"] qual sd f cdv A outer s H E).env.scope "self")
    (hb : ∀ cdv A outer s H E, attributeBase (.Name "self" p2) fld (bX P w K mg base ["self"] qual sd f cdv A outer s H E).env (eval (.Name "self" p2) (bX P w K mg base ["self"] qual sd f cdv A outer s H E).env) = eval (.Name "self" p2) (bX P w K mg base ["self"] qual sd f cdv A outer s H E).env)
    (hs : ∀ cdv A outer s H E, starEach [.Attribute (.Name "self" p2) fld p3] (bX P w K mg base ["self"] qual sd f cdv A outer s H E).env = (false, eval (.Attribute (.Name "self" p2) fld p3) (bX P w K mg base ["self"] qual sd f cdv A outer s H E).env) :: starEach [] (bX P w K mg base ["self"] qual sd f cdv A outer s H E).env)
    (hp : ∀ cdv A outer s H E, (backTo p4 (starEach [] (bX P w K mg base ["self"] qual sd f cdv A outer s H E).env)).any (·.1) = false) : FnOk P w K mg base CX0 1 f fd ["self"] (spIt base K T n i) := by
  refine F.ok S (fun vs H Q E h => ?_) (fun cdv A outer s H vs Q E hr h => ?_)
  · obtain ⟨G, fs, ys, e, rs, _, _⟩ := h
    rw [← rs.length]; rfl
  · obtain ⟨G, fs, ys, e, rs, hf, kk⟩ := h
    rw [hB]
    refine ⟨_, pss_one (ps_ret (pe_callB (X := bX P w K mg base ["self"] qual sd f cdv A outer s H E) cr_iterT (hg ..) hmi PyProof.Rows.boot_iter (pa_cons (pe_fld (pe_var (i := 0) rfl (hv ..)) (hb ..)) pa_nil (hs ..)) (by decide) (by decide) (hs ..) (hp ..))), ?_⟩
    cases rs with
    | cons r0 r1 =>
      cases r1
      obtain ⟨C1, ns1, q, dx, ws, rfl, q1, q2, q3, q4⟩ := id r0.obj_inv
      rw [hT] at q1
      cases q1
      obtain ⟨v, h1, h2⟩ := q4.get hf
      obtain ⟨a, vs', rfl, t1, t2⟩ := h2.tup_inv
      refine ⟨.ref q, rfl, q, C, dx, _, .ref a, rfl, e _ _ q2, hc, hna, lookup_zip hi h1, ?_⟩
      refine ⟨a, rfl, ⟨vs', e.st t1⟩, fun it hb hit => ?_⟩
      exact kk it a hb hit ⟨vs', t1, t2⟩
/-- the ground made as long as the heap is -/
def padH (b : Heap) (m : Nat) : Heap := { b with objs := b.objs ++ Array.replicate (m - b.objs.size) { cls := .none, data := .freed } }
theorem pad_get (b : Heap) (m : Nat) (a : Addr) : (padH b m).get? a = b.get? a := by
  unfold Heap.get? padH
  show (match (b.objs ++ Array.replicate (m - b.objs.size) ({ cls := .none, data := .freed } : Obj))[a]? with
    | some { cls := _, dict := _, data := Data.freed, slots := _ } => none
    | o => o) = _
  by_cases q : a < b.objs.size
  · rw [Array.getElem?_append_left q]; rfl
  · have e2 : b.objs[a]? = none := Array.getElem?_eq_none (Nat.le_of_not_lt q)
    rw [Array.getElem?_append_right (Nat.le_of_not_lt q), e2, Array.getElem?_replicate]
    by_cases q2 : a - b.objs.size < m - b.objs.size
    · rw [if_pos q2]
    · rw [if_neg q2]
theorem pad_size {b : Heap} {m : Nat} (h : b.objs.size ≤ m) : (padH b m).objs.size = m := by
  unfold padH
  show (b.objs ++ Array.replicate _ _).size = m
  rw [Array.size_append, Array.size_replicate]
  omega
theorem ns_pad {b : Heap} {m : Nat} {a : Addr} {f : Str → Option Value} (h : b.Ns a f) : (padH b m).Ns a f := by
  obtain ⟨o, es, ep, h1, h2⟩ := h
  exact ⟨o, es, ep, by rw [pad_get]; exact h1, h2⟩
theorem funs_pad {h b : Heap} {m : Nat} : ∀ {l : List Env}, h.FunFrames b l → h.FunFrames (padH b m) l
  | [], _ => by simp only [Heap.FunFrames]
  | e :: l, z => by
    simp only [Heap.FunFrames] at z ⊢
    obtain ⟨z1, ⟨L, o, z2, z3, z4⟩, z5⟩ := z
    exact ⟨z1, ⟨L, o, z2, by rw [pad_get]; exact z3, z4⟩, funs_pad z5⟩
theorem env0_pad {P : Program} {w : World} {K : PySem.W.Frag} {mg : Str → Option Value} {base : Heap} {A : Around} {outer : List Env} {s : Shared} {H : Hp} (e : Env0 P w K mg base A outer s H) : Env0 P w K mg (padH base s.heap.objs.size) A outer s H where
  frames := e.frames
  mod := {
    kin := fun a o h => by rw [pad_get]; exact e.mod.kin a o h
    glob := ns_pad e.mod.glob
    blt := by
      obtain ⟨mb, h1, h2⟩ := e.mod.blt
      exact ⟨mb, ns_pad h1, h2⟩
    nolimit := by
      obtain ⟨mc, h1, h2⟩ := e.mod.nolimit
      exact ⟨mc, ns_pad h1, h2⟩ }
  bs := fun b o h => e.bs b o (by rw [pad_get] at h; exact h)
  bsz := by rw [pad_size e.bsz]; exact Nat.le_refl _
  funs := funs_pad e.funs
  frf := e.frf
  hok := e.hok
  bare := e.bare
theorem pi_own {CX : CXT} {k : Nat} {f C : Addr} {fd : FuncData} {E : XK} {sp : Heap → Sp} {te : TE} (hl : PE X e te) (F : ∀ base, FnOk X.prog X.w X.K X.mg base CX k f fd ["self"] (sp base)) (hr : Room k X.A) (M : OwnOp X.K C "__iter__" f) (hb : Binds X.K fd ["self"] []) (hx : Passes CX X E) :
    PI X tg e (fun σ H R => te σ H fun x H1 => ∃ p dx gs, x = .ref p ∧ H1 p = some (.ins C dx gs) ∧ ∀ base, sp base [x] H1 (fun v H2 => ∃ it a, v = .ref it ∧ base.objs.size ≤ it ∧ H1 it = none ∧ H2 = upd H1 it (itX it a) ∧ (∃ ws, SqT X.K H1 a ws) ∧ R (Itt X.K a) H1) E) :=
  ⟨fun pins s σ H R I h => thn (hl.run pins s σ H _ I h) fun v s1 x => by
    obtain ⟨xv, H1, I1, r1, p, dx, gs, rfl, hp, hsp⟩ := x
    cases r1
    obtain ⟨mA, J, _⟩ := ins_get I1.hok hp
    obtain ⟨od, J, _⟩ := J.look
    obtain ⟨m, hF⟩ := I1.fr
    have b := hb s1 [.ref p] I1.kIn rfl
    rw [List.append_nil] at b
    refine PySem.W.owit_iter hF I1.ok.mod.kin J M.at_ M.fn (wpAny_call (codeAny_mono ((F (padH X.base s1.heap.objs.size)).run X.A X.stack s1 H1 ⟨[.ref p], []⟩ [.ref p] [.ref p] _ E hr (env0_pad I1.env0) b (.cons rfl .nil) (hsp _)) fun r s' hq => ?_))
    cases r with
    | error e => exact hx pins σ H1 s1 e s' I1 hq
    | ok fl =>
      cases fl with
      | next => exact False.elim hq
      | brk => exact False.elim hq
      | cont => exact False.elim hq
      | ret u =>
        obtain ⟨w, H2, os, bare, un, hok, rel, it, a, rfl, hsz, hn, rfl, hq2, hR⟩ := hq
        rw [pad_size I1.env0.bsz] at hsz
        cases rel
        have z := itX_get (hok it _ upd_same)
        have un' : Un (frs X.stack) [] H1 H1 s1.heap s'.heap := ⟨un.keep, un.slot, fun b o _ h _ => h, un.there, fun _ _ h => h, fun _ _ _ h => h, fun b ps h => ⟨#[], by simpa using h⟩⟩
        have hok' : HOk X.prog X.w H1 s'.heap := fun b o hb' => by
          have ne : ∀ d x, H1 d = some x → d ≠ it := fun d x hd q => by rw [q, hn] at hd; cases hd
          have up : ∀ d x, (upd H1 it (itX it a)) d = some x → d ≠ it → H1 d = some x := fun d x hd q => by rw [upd_ne q] at hd; exact hd
          have := hok b o (by rw [upd_ne (ne b o hb')]; exact hb')
          refine this.stay (fun _ _ _ h => h) (fun d hd => up d _ hd fun q => ?_) (fun d xs hd => up d _ hd fun q => ?_)
          · rw [q, upd_same] at hd; cases hd
          · rw [q, upd_same] at hd; cases hd
        obtain ⟨v', H', I', _, rfl⟩ := I1.after (u := .ref it) (Q := fun _ H' => H' = H1) ⟨.ref it, H1, os, bare, un', hok', rfl, rfl⟩
        exact wpAny_specialOf (Heap.IsTupleIter.typeIs z) PySem.F.slot_tuple_iterator_next.lookup ⟨it, [it], fun i h => h.IsTupleIter it a i, Itt X.K a, _, rfl, I', turn_tuple a it, z, fun b hb => by
          rw [List.mem_singleton.mp hb]
          exact I1.fpOk hsz hn, hR⟩⟩
/-- the __iter__ of an own class hands out the items of its field i -/
structure ItF (P : Program) (w : World) (K : PySem.W.Frag) (T : Ct) (mg : Str → Option Value) (C : Addr) (n i : Nat) : Prop where
  ex : ∃ f fd, (∀ base, FnOk P w K mg base CX0 1 f fd ["self"] (spIt base K T n i)) ∧ OwnOp K C "__iter__" f ∧ Binds K fd ["self"] []
theorem xi_own {n i : Nat} {x : Str} {C : Addr} {ns : List Str} (h : XD c X e st (.obj n fs) st1) (Q : CF X.K c.T X.mg x n C ns) (F : ItF X.prog X.w X.K c.T X.mg C n i) (hK : X.K = c.K) (hr : Room 1 X.A) (hf : fs[i]? = some (.tup ys)) : XI c X tg e st ys st1 := by
  obtain ⟨f, fd, F, M, hb⟩ := F.ex
  rw [hK] at F
  refine ⟨pi_weak (pi_own (E := fun _ _ _ => False) h.pe (by rw [hK]; exact F) hr M hb pass0) fun σ H R ⟨G, E, k⟩ => ⟨G, E, fun v G1 H1 g1 E1 r1 => ?_⟩⟩
  obtain ⟨C1, ns1, q, dx, ws, rfl, q1, q2, q3, q4⟩ := id r1.obj_inv
  rw [Q.at_] at q1
  cases q1
  refine ⟨q, dx, _, rfl, E1.ex _ _ q2, fun base => ⟨G1, fs, ys, E1.ex, .cons r1 .nil, hf, fun it a hb hn hw => ?_⟩⟩
  obtain ⟨ws', t1, t2⟩ := hw
  refine ⟨it, a, rfl, hb, hn, rfl, ⟨ws', by rw [hK]; exact E1.ex.st t1⟩, k _ G1 H1 g1 E1 ?_⟩
  rw [hK]
  exact yld_tup rfl t1 t2
end
end Dv
set_option autoImplicit false
set_option maxRecDepth 100000
set_option maxHeartbeats 4000000
/-! the data layer read forward: after an expression, what follows. One rule a construct, to be used by refine. -/
namespace Dv
open PySem PySem.Spec PyProof.Rows L2
section
variable {c : Ctx} {X : Cx} {st st1 st2 st3 : Store} {a b e e2 tg iter elt t : Expr} {es : List Expr} {d d1 d2 d3 d' : Dt} {ds xs ys zs fs gs vs : List Dt} {pos : Pos} {i j : Int} {body rest orelse A B : List Stmt} {s : Stmt} {o : Out} {n k m : Nat} {l l' : List Nat}
def WE (c : Ctx) (X : Cx) (e : Expr) (st : Store) (Q : Dt → Store → Prop) : Prop := ∃ d st', XD c X e st d st' ∧ Q d st'
def WT (c : Ctx) (X : Cx) (e : Expr) (st : Store) (Q : Bool → Store → Prop) : Prop := ∃ r st', XT c X e st r st' ∧ Q r st'
def WW (c : Ctx) (X : Cx) (e : Expr) (st : Store) (Q : Bool → Store → Prop) : Prop := ∃ r st', XW c X e st r st' ∧ Q r st'
def WA (c : Ctx) (X : Cx) (es : List Expr) (st : Store) (Q : List Dt → Store → Prop) : Prop := ∃ ds st', XA c X es st ds st' ∧ Q ds st'
def WL (c : Ctx) (X : Cx) (e : Expr) (st : Store) (Q : List Dt → Store → Prop) : Prop := ∃ xs st', XL c X e st xs st' ∧ Q xs st'
def WI (c : Ctx) (X : Cx) (tg iter : Expr) (st : Store) (Q : List Dt → Store → Prop) : Prop := ∃ ds st', XI c X tg iter st ds st' ∧ Q ds st'
def WG (c : Ctx) (X : Cx) (tg : Expr) (d : Dt) (st : Store) (Q : Store → Prop) : Prop := ∃ st', XG c X tg d st st' ∧ Q st'
def WGs (c : Ctx) (X : Cx) (tgs : List Expr) (ds : List Dt) (st : Store) (Q : Store → Prop) : Prop := ∃ st', XGs c X tgs ds st st' ∧ Q st'
def WP (c : Ctx) (X : Cx) (s : Stmt) (st : Store) (Q : Out → Prop) : Prop := ∃ o, XP c X s st o ∧ Q o
def WS (c : Ctx) (X : Cx) (ss : List Stmt) (st : Store) (Q : Out → Prop) : Prop := ∃ o, XS c X ss st o ∧ Q o
/-- behind a statement -/
def Aft (c : Ctx) (X : Cx) (rest : List Stmt) (Q : Out → Prop) : Out → Prop
  | .nx s => WS c X rest s Q
  | o => Q o
theorem aft_nx {Q : Out → Prop} (h : WS c X rest st Q) : Aft c X rest Q (.nx st) := h
theorem aft_rt {Q : Out → Prop} (h : Q (.rt d st)) : Aft c X rest Q (.rt d st) := h
theorem aft_rl {Q : Out → Prop} (h : Q (.rl xs)) : Aft c X rest Q (.rl xs) := h
theorem aft_rq {j : Nat} {Q : Out → Prop} (h : Q (.rq ds j st)) : Aft c X rest Q (.rq ds j st) := h
theorem aft_bk {Q : Out → Prop} (h : Q (.bk st)) : Aft c X rest Q (.bk st) := h
theorem aft_ct {Q : Out → Prop} (h : Q (.ct st)) : Aft c X rest Q (.ct st) := h
/-- a truth value known, or both ways -/
def IfK (r : Bool) (P1 P2 : Prop) : Prop := (r = true → P1) ∧ (r = false → P2)
theorem ifk_T {r : Bool} {P1 P2 : Prop} (h : r = true) (k : P1) : IfK r P1 P2 := ⟨fun _ => k, fun z => by rw [h] at z; cases z⟩
theorem ifk_F {r : Bool} {P1 P2 : Prop} (h : r = false) (k : P2) : IfK r P1 P2 := ⟨fun z => (by rw [h] at z; cases z), fun _ => k⟩
theorem ifk_S {r : Bool} {P1 P2 : Prop} (k1 : r = true → P1) (k2 : r = false → P2) : IfK r P1 P2 := ⟨k1, k2⟩
theorem ifk_and {r u : Bool} {P1 P2 : Prop} (h : IfK r (IfK u P1 P2) P2) : IfK (r && u) P1 P2 := by
  cases r
  · exact ⟨fun z => (nomatch z), fun _ => h.2 rfl⟩
  · exact h.1 rfl
theorem ifk_or {r u : Bool} {P1 P2 : Prop} (h : IfK r P1 (IfK u P1 P2)) : IfK (r || u) P1 P2 := by
  cases r
  · exact h.2 rfl
  · exact ⟨fun _ => h.1 rfl, fun z => nomatch z⟩
theorem ifk_not {r : Bool} {P1 P2 : Prop} (h : IfK r P2 P1) : IfK (!r) P1 P2 := by
  cases r
  · exact ⟨fun _ => h.2 rfl, fun z => nomatch z⟩
  · exact ⟨fun z => (nomatch z), fun _ => h.1 rfl⟩

/-! ### statements -/
theorem ws_nil {Q : Out → Prop} (h : Q (.nx st)) : WS c X [] st Q := ⟨_, xs_nil, h⟩
theorem ws_of {Q : Out → Prop} (h : WP c X s st (Aft c X rest Q)) : WS c X (s :: rest) st Q := by
  obtain ⟨o, h1, h2⟩ := h
  cases o with
  | nx s1 => obtain ⟨o2, h3, h4⟩ := h2; exact ⟨o2, xs_cons h1 h3, h4⟩
  | rt d s1 => exact ⟨_, xs_ret h1, h2⟩
  | bk s1 => exact ⟨_, xs_bk h1, h2⟩
  | ct s1 => exact ⟨_, xs_ct h1, h2⟩
  | rl xs => exact ⟨_, xs_rl h1, h2⟩
  | rq ds j s1 => exact ⟨_, xs_rq h1, h2⟩
theorem ws_set (i : Nat) {x : Str} {pos' : Pos} {Q : Out → Prop} (hN : X.N.Nodup) (h : WE c X e st fun d st1 => WS c X rest (st1.set i (some (.fr d))) Q) (hi : X.N[i]? = some x := by rfl) (hx : Loc X.env.scope x := by first | exact Or.inl rfl | exact Or.inr rfl) (hs : swapsWith e (some (.Name x pos')) pos.line X.env = pure false := by rfl)
    (hf : X.fn x = true ∨ X.env.scope.names.lookup x = some .local := by first | exact .inl rfl | exact .inr rfl | assumption) : WS c X (.Assign [.Name x pos'] e pos :: rest) st Q := by
  obtain ⟨d, st1, h1, o, h2, h3⟩ := h
  exact ⟨o, xs_cons (xp_set i hN h1 hi hx hs hf) h2, h3⟩
theorem ws_setOw (i : Nat) {x : Str} {pos' : Pos} {Q : Out → Prop} (hN : X.N.Nodup) (h : WL c X e st fun xs st1 => WS c X rest (st1.set i (some (.ow xs))) Q) (hi : X.N[i]? = some x := by rfl) (hx : Loc X.env.scope x := by first | exact Or.inl rfl | exact Or.inr rfl) (hs : swapsWith e (some (.Name x pos')) pos.line X.env = pure false := by rfl)
    (hf : X.fn x = true ∨ X.env.scope.names.lookup x = some .local := by first | exact .inl rfl | exact .inr rfl | assumption) : WS c X (.Assign [.Name x pos'] e pos :: rest) st Q := by
  obtain ⟨xs, st1, h1, o, h2, h3⟩ := h
  exact ⟨o, xs_cons (xp_setOw i hN h1 hi hx hs hf) h2, h3⟩
theorem ws_asg {Q : Out → Prop} (h : WE c X e st fun d st1 => WG c X tg d st1 fun st2 => WS c X rest st2 Q) (hs : swapsWithSole [tg] e pos.line X.env = pure false := by rfl) (hw : swappedStores [tg] e X.env = pure none := by rfl)
    (h1 : (assignEach [tg] X.env).map (·.2) = [assign tg X.env] := by rfl) : WS c X (.Assign [tg] e pos :: rest) st Q := by
  obtain ⟨d, st1, q1, st2, q2, o, q3, q4⟩ := h
  exact ⟨o, xs_cons (xp_asg q1 q2 hs hw h1) q3, q4⟩
theorem wg_name (i : Nat) {x : Str} {Q : Store → Prop} (hN : X.N.Nodup) (h : Q (st.set i (some (.fr d)))) (hi : X.N[i]? = some x := by rfl) (hx : Loc X.env.scope x := by first | exact Or.inl rfl | exact Or.inr rfl) (hf : X.fn x = true ∨ X.env.scope.names.lookup x = some .local := by first | exact .inl rfl | exact .inr rfl | assumption) :
    WG c X (.Name x pos) d st Q := ⟨_, xg_name i hN hi hx hf, h⟩
theorem wg_tup {k : Nat} {n : Nat} {Q : Store → Prop} (hK : X.K = c.K) (hc : X.calm = true) (h : WGs c X es ds st Q) (hl : ds.length = n := by rfl)
    (hn : (assignEach es X.env).length = n := by rfl) (hst : (assignEach es X.env).findIdx? (·.1) = none := by rfl) : WG c X (.Tuple es k pos) (.tup ds) st Q := by
  obtain ⟨s1, h1, h2⟩ := h
  exact ⟨s1, xg_tup hK hc h1 hl hn hst, h2⟩
theorem wgs_nil {Q : Store → Prop} (h : Q st) : WGs c X [] [] st Q := ⟨_, xgs_nil, h⟩
theorem wgs_cons {Q : Store → Prop} (h : WG c X e d st fun st1 => WGs c X es ds st1 Q) (hs : (assignEach (e :: es) X.env).map (·.2) = assign e X.env :: (assignEach es X.env).map (·.2) := by rfl) : WGs c X (e :: es) (d :: ds) st Q := by
  obtain ⟨s1, h1, s2, h2, h3⟩ := h
  exact ⟨s2, xgs_cons h1 h2 hs, h3⟩
/-- a, b = x, y -/
theorem ws_par (i j : Nat) {x y : Str} {px py pt : Pos} {kt k2 pt2} {Q : Out → Prop} (hN : X.N.Nodup) (hc : X.calm = true) (h : WA c X [a, b] st fun ds st1 => ∃ d1 d2, ds = [d1, d2] ∧ WS c X rest ((st1.set i (some (.fr d1))).set j (some (.fr d2))) Q) (hij : i ≠ j := by decide) (hi : X.N[i]? = some x := by rfl) (hj : X.N[j]? = some y := by rfl)
    (hx : X.env.scope.names.lookup x = some .local := by rfl) (hy : X.env.scope.names.lookup y = some .local := by rfl)
    (hw : swappedStores [.Tuple [.Name x px, .Name y py] kt pt] (.Tuple [a, b] k2 pt2) X.env = pure (some [x, y]) := by rfl)
    (hs : swapsWithSole [.Tuple [.Name x px, .Name y py] kt pt] (.Tuple [a, b] k2 pt2) pos.line X.env = pure false := by rfl) :
    WS c X (.Assign [.Tuple [.Name x px, .Name y py] kt pt] (.Tuple [a, b] k2 pt2) pos :: rest) st Q := by
  obtain ⟨ds, st1, h1, d1, d2, rfl, o, h2, h3⟩ := h
  exact ⟨o, xs_cons (xp_par i j hN hc h1 hij hi hj hx hy hw hs) h2, h3⟩
theorem ws_par3 (i j k : Nat) {x y z : Str} {ea eb ec : Expr} {px py pz pt : Pos} {kt k2 pt2} {Q : Out → Prop} (hN : X.N.Nodup) (hc : X.calm = true) (h : WA c X [ea, eb, ec] st fun ds st1 => ∃ d1 d2 d3, ds = [d1, d2, d3] ∧ WS c X rest (((st1.set i (some (.fr d1))).set j (some (.fr d2))).set k (some (.fr d3))) Q) (hij : i ≠ j := by decide) (hik : i ≠ k := by decide) (hjk : j ≠ k := by decide) (hi : X.N[i]? = some x := by rfl) (hj : X.N[j]? = some y := by rfl) (hk : X.N[k]? = some z := by rfl)
    (hx : X.env.scope.names.lookup x = some .local := by rfl) (hy : X.env.scope.names.lookup y = some .local := by rfl) (hz : X.env.scope.names.lookup z = some .local := by rfl)
    (hw : swappedStores [.Tuple [.Name x px, .Name y py, .Name z pz] kt pt] (.Tuple [ea, eb, ec] k2 pt2) X.env = pure (some [x, y, z]) := by rfl)
    (hs : swapsWithSole [.Tuple [.Name x px, .Name y py, .Name z pz] kt pt] (.Tuple [ea, eb, ec] k2 pt2) pos.line X.env = pure false := by rfl) :
    WS c X (.Assign [.Tuple [.Name x px, .Name y py, .Name z pz] kt pt] (.Tuple [ea, eb, ec] k2 pt2) pos :: rest) st Q := by
  obtain ⟨ds, st1, h1, d1, d2, d3, rfl, o, h2, h3⟩ := h
  exact ⟨o, xs_cons (xp_par3 i j k hN hc h1 hij hik hjk hi hj hk hx hy hz hw hs) h2, h3⟩
theorem ws_if {Q : Out → Prop} (h : WT c X t st fun r st1 => IfK r (WS c X A st1 (Aft c X rest Q)) (WS c X B st1 (Aft c X rest Q))) : WS c X (.If t A B pos :: rest) st Q := by
  obtain ⟨r, st1, h1, h2, h3⟩ := h
  refine ws_of ?_
  cases r with
  | true => obtain ⟨o, q1, q2⟩ := h2 rfl; exact ⟨o, xp_if h1 (fun _ => q1) (fun z => nomatch z), q2⟩
  | false => obtain ⟨o, q1, q2⟩ := h3 rfl; exact ⟨o, xp_if h1 (fun z => nomatch z) (fun _ => q1), q2⟩
theorem ws_ret {Q : Out → Prop} (h : WE c X e st fun d st1 => Q (.rt d st1)) : WS c X (.Return (some e) pos :: rest) st Q := by
  obtain ⟨d, st1, h1, h2⟩ := h
  exact ⟨_, xs_ret (xp_ret h1), h2⟩
theorem ws_retN {Q : Out → Prop} (h : Q (.rt .non st)) : WS c X (.Return none pos :: rest) st Q := ⟨_, xs_ret xp_retN, h⟩
/-- a def hands out the list that it made, or a new one -/
theorem ws_retO (i : Nat) {x : Str} {p1 : Pos} {Q : Out → Prop} (hi : st[i]? = some (some (.ow xs))) (h : Q (.rl xs)) (hN : X.N[i]? = some x := by rfl) (hv : Vis X.env.scope x := by first | exact Or.inl rfl | exact Or.inr (Or.inl rfl) | exact Or.inr (Or.inr rfl)) (hd : (x == ("__debug__" : Str)) = false := by decide) (hcd : (x == ("__classdict__" : Str)) = false := by decide) : WS c X (.Return (some (.Name x p1)) pos :: rest) st Q := by
  refine ⟨.rl xs, xs_rl ⟨ps_weak (ps_ret (pe_var hN hv hd hcd)) fun D σ H ⟨G, E, k⟩ => ?_⟩, h⟩
  obtain ⟨a, vs, z1, z2, z3, z4, z5, z6⟩ := E.at hi .ow
  exact ⟨_, z1, k a vs G H (Gr.refl.weakO fun p q => q.elim) E.ex (.inr ⟨i, _, hi, rfl, z1⟩) z2 z3 z4⟩
theorem ws_retL {Q : Out → Prop} (h : WL c X e st fun xs _ => Q (.rl xs)) : WS c X (.Return (some e) pos :: rest) st Q := by
  obtain ⟨xs, st1, h1, h2⟩ := h
  exact ⟨.rl xs, xs_rl ⟨ps_weak (ps_ret h1.pe) fun D σ H ⟨G, E, k⟩ => ⟨G, E, fun p vs G' H' g' E' n1 n2 n3 n4 r => k p vs G' H' (g'.weakO fun p q => q.elim) E'.ex (.inl n2) n3 n4 r⟩⟩, h2⟩
theorem ws_expr {Q : Out → Prop} (h : WE c X e st fun d st1 => WS c X rest st1 Q) (hs : swapsWith e none pos.line X.env = pure false := by rfl) : WS c X (.Expr e pos :: rest) st Q := by
  obtain ⟨d, st1, h1, o, h2, h3⟩ := h
  exact ⟨o, xs_cons (xp_expr h1 hs) h2, h3⟩
theorem ws_pass {Q : Out → Prop} (h : WS c X rest st Q) : WS c X (.Pass pos :: rest) st Q := by
  obtain ⟨o, h2, h3⟩ := h
  exact ⟨o, xs_cons xp_pass h2, h3⟩
theorem ws_break {Q : Out → Prop} (h : Q (.bk st)) : WS c X (.Break pos :: rest) st Q := ⟨_, xs_bk xp_break, h⟩
theorem ws_continue {Q : Out → Prop} (h : Q (.ct st)) : WS c X (.Continue pos :: rest) st Q := ⟨_, xs_ct xp_continue, h⟩
theorem ws_freeze (i : Nat) {Q : Out → Prop} (hi : st[i]? = some (some (.ow xs))) (h : WS c X rest (st.set i (some (.fr (.lst xs)))) Q) : WS c X rest st Q := by
  obtain ⟨o, h2, h3⟩ := h
  exact ⟨o, xs_freeze i hi h2, h3⟩
theorem ws_eq {Q : Out → Prop} (e : st = st1) (h : WS c X rest st1 Q) : WS c X rest st Q := e ▸ h
/-- one turn of a loop ends so -/
abbrev Tn (s : Store) (o : Out) : Prop := o = .nx s ∨ o = .ct s
theorem ws_for (S : Nat → Store) (m : Nat) {Q : Out → Prop} (h : WI c X tg iter st fun ds st1 => st1 = S 0 ∧ ds.length = m ∧ (∀ i d, ds[i]? = some d → WG c X tg d (S i) fun s => WS c X body s (Tn (S (i + 1)))) ∧ WS c X rest (S m) Q) (hc : X.calm = true := by rfl) (hp : PassesOwn (model X.prog X.w) X.A X.env X.xe := by exact PassesOwn.never)
    (hs : ∀ x, foldedSetIterable iter X.env x = pure x := by intro _; rfl) : WS c X (.For tg iter body [] pos :: rest) st Q := by
  obtain ⟨ds, st1, h1, rfl, rfl, h2, o, h3, h4⟩ := h
  refine ⟨o, xs_cons (xp_for S h1 (fun i d hd => ?_) hc hp hs) h3, h4⟩
  obtain ⟨s1, q1, o1, q2, q3 | q3⟩ := h2 i d hd
  · subst q3; exact ⟨s1, q1, .inl q2⟩
  · subst q3; exact ⟨s1, q1, .inr q2⟩
/-- the last turn of a loop that is left on the way -/
def Lv (Q : Out → Prop) : Out → Prop
  | .rt d s => Q (.rt d s)
  | .bk s => Q (.nx s)
  | _ => False
theorem ws_forX (S : Nat → Store) (m : Nat) (d : Dt) {Q : Out → Prop} (h : WI c X tg iter st fun ds st1 => st1 = S 0 ∧ ds[m]? = some d ∧ (∀ i d, i < m → ds[i]? = some d → WG c X tg d (S i) fun s => WS c X body s (Tn (S (i + 1)))) ∧ WG c X tg d (S m) fun s => WS c X body s (Lv (Aft c X rest Q))) (hc : X.calm = true := by rfl) (hp : PassesOwn (model X.prog X.w) X.A X.env X.xe := by exact PassesOwn.never)
    (hs : ∀ x, foldedSetIterable iter X.env x = pure x := by intro _; rfl) : WS c X (.For tg iter body [] pos :: rest) st Q := by
  obtain ⟨ds, st1, h1, rfl, hm, h2, s1, h3, o, h4, h5⟩ := h
  refine ws_of ?_
  have turns : ∀ i d, i < m → ds[i]? = some d → Turns c X tg body d (S i) (S (i + 1)) := fun i d hi hd => by
    obtain ⟨s1, q1, o1, q2, q3 | q3⟩ := h2 i d hi hd
    · subst q3; exact ⟨s1, q1, .inl q2⟩
    · subst q3; exact ⟨s1, q1, .inr q2⟩
  cases o with
  | nx s => exact h5.elim
  | ct s => exact h5.elim
  | rl xs => exact h5.elim
  | rq ds j s => exact h5.elim
  | rt r s => exact ⟨_, xp_forX S m hm h1 turns ⟨s1, h3, .inl ⟨r, s, rfl, h4⟩⟩ hc hp hs, h5⟩
  | bk s => exact ⟨_, xp_forX S m hm h1 turns ⟨s1, h3, .inr ⟨s, rfl, h4⟩⟩ hc hp hs, h5⟩
theorem ws_while (S : Nat → Store) (m : Nat) {Q : Out → Prop} (h0 : st = S 0) (hb : ∀ i, i < m → WT c X t (S i) fun r st1 => r = true ∧ WS c X body st1 (Tn (S (i + 1)))) (he : WT c X t (S m) fun r st1 => r = false ∧ WS c X rest st1 Q) (hp : PassesOwn (model X.prog X.w) X.A X.env X.xe := by exact PassesOwn.never) :
    WS c X (.While t body [] pos :: rest) st Q := by
  subst h0
  obtain ⟨r, st1, h1, rfl, o, h2, h3⟩ := he
  have hb' : ∀ i, i < m → ∃ s1, XT c X t (S i) true s1 ∧ (XS c X body s1 (.nx (S (i + 1))) ∨ XS c X body s1 (.ct (S (i + 1)))) := fun i hi => by
    obtain ⟨r, s1, q1, rfl, o, q2, q3 | q3⟩ := hb i hi
    · subst q3; exact ⟨s1, q1, .inl q2⟩
    · subst q3; exact ⟨s1, q1, .inr q2⟩
  refine ⟨o, xs_cons (xp_while S (fun i => if h : i < m then (hb' i h).choose else []) m (fun i hi => ?_) h1 hp) h2, h3⟩
  have q := (hb' i hi).choose_spec
  simp only [dif_pos hi]
  exact q
theorem ws_append (i : Nat) {s : Sv} {x : Str} {p1 apos cpos p2 : Pos} {Q : Out → Prop} (hi : st[i]? = some (some s)) (hK : X.K = c.K) (h : WE c X e st fun d st1 => ∃ xs, st1[i]? = some (some s) ∧ s.Has xs ∧ xs.length < 100000 ∧ WS c X rest (st1.set i (some (s.with (xs ++ [d])))) Q) (hN : X.N[i]? = some x := by rfl) (hv : Vis X.env.scope x := by first | exact Or.inl rfl | exact Or.inr (Or.inl rfl) | exact Or.inr (Or.inr rfl)) (hd : (x == ("__debug__" : Str)) = false := by decide)
    (hcd : (x == ("__classdict__" : Str)) = false := by decide) (hline : (apos.endLine == cpos.line) = true := by rfl) (hb : attributeBase (.Name x p1) "append" X.env (eval (.Name x p1) X.env) = eval (.Name x p1) X.env := by rfl)
    (hfew : ((backTo cpos (starEach (e :: []) X.env)).all (fun x => !x.1) && (backToKw cpos (keywordEach [] X.env)).all (fun x => x.1.isSome)
      && decide ((e :: []).length + ([] : List Keyword).length + (if ([] : List Keyword).isEmpty then 0 else 1) < 30)) = true := by rfl) (hst : starEach (e :: []) X.env = (false, eval e X.env) :: starEach [] X.env := by rfl) (hsw : swapsWith (.Call (.Attribute (.Name x p1) "append" apos) [e] [] cpos) none p2.line X.env = pure false := by rfl) :
    WS c X (.Expr (.Call (.Attribute (.Name x p1) "append" apos) [e] [] cpos) p2 :: rest) st Q := by
  obtain ⟨d, st1, h1, xs, h3, h4, h5, o, h6, h7⟩ := h
  exact ⟨o, xs_cons (xp_append i h1 hK hi h3 h4 h5 hN hv hd hcd hline hb hfew hst hsw) h6, h7⟩
/-- x[e1] = e2 -/
theorem ws_setI (k : Nat) {s : Sv} {x : Str} {p1 p2 ppos : Pos} {Q : Out → Prop} (hk0 : st[k]? = some (some s)) (h : WE c X e st fun d st1 => WE c X b st1 fun di st2 => ∃ (xs : List Dt) (m : Nat), di = .int m ∧ st1[k]? = some (some s) ∧ st2[k]? = some (some s) ∧ s.Has xs ∧ m < xs.length ∧ WS c X rest (st2.set k (some (s.with (xs.set m d)))) Q) (hN : X.N[k]? = some x := by rfl)
    (hv : Vis X.env.scope x := by first | exact Or.inl rfl | exact Or.inr (Or.inl rfl) | exact Or.inr (Or.inr rfl)) (hdb : (x == ("__debug__" : Str)) = false := by decide) (hcd : (x == ("__classdict__" : Str)) = false := by decide)
    (ha : ∀ v, assign (.Subscript (.Name x p1) b p2) X.env v = (do
      let ov ← holding [v] (eval (.Name x p1) X.env)
      let iv ← holding [v, ov] (eval b X.env)
      standAt p2
      holding [v, ov, iv] (setItem ov iv v)
      release [v, ov, iv] []) := by intro _; rfl)
    (hs1 : swapsWithSole [.Subscript (.Name x p1) b p2] e ppos.line X.env = pure false := by rfl) (hw : swappedStores [.Subscript (.Name x p1) b p2] e X.env = pure none := by rfl)
    (h1 : (assignEach [.Subscript (.Name x p1) b p2] X.env).map (·.2) = [assign (.Subscript (.Name x p1) b p2) X.env] := by rfl) : WS c X (.Assign [.Subscript (.Name x p1) b p2] e ppos :: rest) st Q := by
  obtain ⟨d, st1, q1, di, st2, q2, xs, m, rfl, q3, q4, q5, q6, o, q7, q8⟩ := h
  exact ⟨o, xs_cons (xp_setI k q1 q2 q3 q4 q5 rfl q6 hN hv hdb hcd ha hs1 hw h1) q7, q8⟩
/-- in an __init__: self.f = e -/
theorem ws_fld {n : Nat} {C : Addr} {ns : List Str} {f y : Str} {p1 p2 ppos : Pos} {Q : Out → Prop} (hT : c.T n = some (C, ns)) (hnd : ns.Nodup) (hcl : Cls X.K C) (hna : NoAttr X.K C f) (h : WE c X e st fun d st1 => ∃ fs, st1[0]? = some (some (.bo n fs)) ∧ ns[fs.length]? = some f ∧ fs.length < 1000 ∧ WS c X rest (st1.set 0 (some (.bo n (fs ++ [d])))) Q)
    (hN : X.N[0]? = some y := by rfl) (hv : Vis X.env.scope y := by first | exact Or.inl rfl | exact Or.inr (Or.inl rfl) | exact Or.inr (Or.inr rfl)) (hd : (y == ("__debug__" : Str)) = false := by decide) (hcd : (y == ("__classdict__" : Str)) = false := by decide)
    (hs : swapsWith e (some (.Attribute (.Name y p1) f p2)) ppos.line X.env = pure false := by rfl) : WS c X (.Assign [.Attribute (.Name y p1) f p2] e ppos :: rest) st Q := by
  obtain ⟨d, st1, h1, fs, h2, h3, h4, o, h5, h6⟩ := h
  exact ⟨o, xs_cons (xp_fldset h1 hT hnd hcl hna h2 h3 h4 hN hv hd hcd hs) h5, h6⟩

/-! ### expressions -/
theorem we_int {Q : Dt → Store → Prop} {i : Int} {j} (h : Q (.int i) st) : WE c X (.Constant (.int i) j pos) st Q := ⟨_, _, xd_int, h⟩
theorem we_bl {Q : Dt → Store → Prop} {r : Bool} {j} (h : Q (.bl r) st) : WE c X (.Constant (.bool r) j pos) st Q := ⟨_, _, xd_bl, h⟩
theorem we_non {Q : Dt → Store → Prop} {j} (h : Q .non st) : WE c X (.Constant .none j pos) st Q := ⟨_, _, xd_non, h⟩
theorem we_str {Q : Dt → Store → Prop} (l : List Nat) {x : Str} {j} (h : Q (.str (sx l)) st) (e : x = sx l := by rfl) : WE c X (.Constant (.str x) j pos) st Q := by subst e; exact ⟨_, _, xd_str, h⟩
theorem we_var (i : Nat) {x : Str} {Q : Dt → Store → Prop} (hs : st[i]? = some (some (.fr d))) (h : Q d st) (hN : X.N[i]? = some x := by rfl) (hv : Vis X.env.scope x := by first | exact Or.inl rfl | exact Or.inr (Or.inl rfl) | exact Or.inr (Or.inr rfl)) (hd : (x == ("__debug__" : Str)) = false := by decide)
    (hcd : (x == ("__classdict__" : Str)) = false := by decide) : WE c X (.Name x pos) st Q := ⟨_, _, xd_var i hs hN hv hd hcd, h⟩
theorem we_is {Q : Dt → Store → Prop} (h : XD c X e st d st1) (k : Q d st1) : WE c X e st Q := ⟨_, _, h, k⟩
theorem wt_is {Q : Bool → Store → Prop} {r : Bool} (h : XT c X e st r st1) (k : Q r st1) : WT c X e st Q := ⟨_, _, h, k⟩
theorem wl_is {Q : List Dt → Store → Prop} (h : XL c X e st xs st1) (k : Q xs st1) : WL c X e st Q := ⟨_, _, h, k⟩
theorem wi_is {Q : List Dt → Store → Prop} (h : XI c X tg iter st ds st1) (k : Q ds st1) : WI c X tg iter st Q := ⟨_, _, h, k⟩
theorem we_mono {Q Q' : Dt → Store → Prop} (h : WE c X e st Q) (k : ∀ d s, Q d s → Q' d s) : WE c X e st Q' := by obtain ⟨d, s, h1, h2⟩ := h; exact ⟨d, s, h1, k d s h2⟩
/-- an operator between data -/
def BinR (c : Ctx) (X : Cx) (op : Operator) (d1 d2 : Dt) (Q : Dt → Prop) : Prop := ∃ d, (∀ a b st st1 st2 pos, XD c X a st d1 st1 → XD c X b st1 d2 st2 → XD c X (.BinOp a op b pos) st d st2) ∧ Q d
theorem we_bin {op : Operator} {Q : Dt → Store → Prop} (h : WE c X a st fun d1 st1 => WE c X b st1 fun d2 st2 => BinR c X op d1 d2 fun d => Q d st2) : WE c X (.BinOp a op b pos) st Q := by
  obtain ⟨d1, st1, h1, d2, st2, h2, d, h3, h4⟩ := h
  exact ⟨d, st2, h3 _ _ _ _ _ _ h1 h2, h4⟩
theorem br_add {Q : Dt → Prop} (h : Q (.int (i + j))) : BinR c X .Add (.int i) (.int j) Q := ⟨_, fun _ _ _ _ _ _ h1 h2 => xd_add h1 h2, h⟩
theorem br_sub {Q : Dt → Prop} (h : Q (.int (i - j))) : BinR c X .Sub (.int i) (.int j) Q := ⟨_, fun _ _ _ _ _ _ h1 h2 => xd_sub h1 h2, h⟩
theorem br_mul {Q : Dt → Prop} (k : IntMulOk i j) (h : Q (.int (i * j))) : BinR c X .Mult (.int i) (.int j) Q := ⟨_, fun _ _ _ _ _ _ h1 h2 => xd_mul h1 h2 k, h⟩
theorem br_mod {Q : Dt → Prop} (k : 0 < j) (h : Q (.int (i % j))) : BinR c X .Mod (.int i) (.int j) Q := ⟨_, fun _ _ _ _ _ _ h1 h2 => xd_mod h1 h2 k, h⟩
theorem br_fdiv {Q : Dt → Prop} (k : j ≠ 0) (k2 : j.natAbs.log2 < 9000) (h : Q (.int (i.fdiv j))) : BinR c X .FloorDiv (.int i) (.int j) Q := ⟨_, fun _ _ _ _ _ _ h1 h2 => xd_fdiv h1 h2 k k2, h⟩
theorem br_pow {Q : Dt → Prop} (k : 0 ≤ j) (k1 : j ≤ 1000000) (k2 : i.natAbs < 2 ^ 64) (h : Q (.int (i ^ j.toNat))) : BinR c X .Pow (.int i) (.int j) Q := ⟨_, fun _ _ _ _ _ _ h1 h2 => xd_pow h1 h2 k k1 k2, h⟩
theorem br_addX {Q : Dt → Prop} (k : l.length + l'.length ≤ 100000) (h : Q (.str (sx (l ++ l')))) : BinR c X .Add (.str (sx l)) (.str (sx l')) Q := ⟨_, fun _ _ _ _ _ _ h1 h2 => xd_addX h1 h2 k, h⟩
theorem br_cat {Q : Dt → Prop} (k : xs.length + ys.length ≤ 100000) (h : Q (.lst (xs ++ ys))) : BinR c X .Add (.lst xs) (.lst ys) Q := ⟨_, fun _ _ _ _ _ _ h1 h2 => xd_cat h1 h2 k, h⟩
theorem br_rep {Q : Dt → Prop} (k0 : 0 ≤ i) (k1 : i < 2 ^ 62) (k2 : xs.length * i.toNat ≤ 100000) (h : Q (.lst (List.replicate i.toNat xs).flatten)) : BinR c X .Mult (.lst xs) (.int i) Q := ⟨_, fun _ _ _ _ _ _ h1 h2 => xd_rep h1 h2 k0 k1 k2, h⟩
theorem br_own {op : Operator} {k n : Nat} {R : List Dt → Dt → Prop} {x : Str} {C : Addr} {ns : List Str} {Q : Dt → Prop} (q : CF X.K c.T X.mg x n C ns) (F : MF X.prog X.w X.K c.T X.mg X.base C (PySem.dunder op.info.2) k R) (hK : X.K = c.K) (hr : Room k X.A) (hs : PySem.W.selfFirst X.K C = true)
    (hR : R [.obj n fs, .obj n gs] d) (h : Q d) : BinR c X op (.obj n fs) (.obj n gs) Q := ⟨_, fun _ _ _ _ _ _ h1 h2 => xd_opF h1 h2 q F hK hr hs hR, h⟩
theorem we_neg {Q : Dt → Store → Prop} (h : WE c X a st fun d1 st1 => ∃ i, d1 = .int i ∧ Q (.int (-i)) st1) : WE c X (.UnaryOp .USub a pos) st Q := by
  obtain ⟨d1, st1, h1, i, rfl, h2⟩ := h
  exact ⟨_, _, xd_neg h1, h2⟩
theorem we_not {Q : Dt → Store → Prop} (h : WE c X a st fun d1 st1 => ∃ r, d1 = .bl r ∧ Q (.bl (!r)) st1) : WE c X (.UnaryOp .Not a pos) st Q := by
  obtain ⟨d1, st1, h1, i, rfl, h2⟩ := h
  exact ⟨_, _, xd_not h1, h2⟩
/-- a comparison between data, as a value and as a test -/
def CmpR (c : Ctx) (X : Cx) (op : CmpOp) (d1 d2 : Dt) (Q : Bool → Prop) : Prop := ∃ r, (∀ a b st st1 st2 pos, behindInMarks op b = false → XD c X a st d1 st1 → XD c X b st1 d2 st2 → XD c X (.Compare a [op] [b] pos) st (.bl r) st2 ∧ XT c X (.Compare a [op] [b] pos) st r st2) ∧ Q r
theorem we_cmp {op : CmpOp} {Q : Dt → Store → Prop} (h : WE c X a st fun d1 st1 => WE c X b st1 fun d2 st2 => CmpR c X op d1 d2 fun r => Q (.bl r) st2) (hm : behindInMarks op b = false := by first | rfl | exact nomark _) : WE c X (.Compare a [op] [b] pos) st Q := by
  obtain ⟨d1, st1, h1, d2, st2, h2, r, h3, h4⟩ := h
  exact ⟨_, st2, (h3 _ _ _ _ _ _ hm h1 h2).1, h4⟩
theorem wt_cmp {op : CmpOp} {Q : Bool → Store → Prop} (h : WE c X a st fun d1 st1 => WE c X b st1 fun d2 st2 => CmpR c X op d1 d2 fun r => Q r st2) (hm : behindInMarks op b = false := by first | rfl | exact nomark _) : WT c X (.Compare a [op] [b] pos) st Q := by
  obtain ⟨d1, st1, h1, d2, st2, h2, r, h3, h4⟩ := h
  exact ⟨_, st2, (h3 _ _ _ _ _ _ hm h1 h2).2, h4⟩
theorem cr_of {op : CmpOp} {R : R2} {r : Bool} {Q : Bool → Prop} (ho : OpR X (compareOp op) R) (hv : Op2 c d1 d2 (.bl r) R) (h : Q r) : CmpR c X op d1 d2 Q := ⟨r, fun _ _ _ _ _ _ hm h1 h2 => ⟨xd_cmp h1 h2 ho hv hm, xt_cmp h1 h2 ho hv hm⟩, h⟩
theorem cr_lt {Q : Bool → Prop} (h : Q (decide (i < j))) : CmpR c X .Lt (.int i) (.int j) Q := cr_of op_lt o_B0 h
theorem cr_le {Q : Bool → Prop} (h : Q (decide (i ≤ j))) : CmpR c X .LtE (.int i) (.int j) Q := cr_of op_le o_B0 h
theorem cr_gt {Q : Bool → Prop} (h : Q (decide (j < i))) : CmpR c X .Gt (.int i) (.int j) Q := cr_of op_gt o_B0 h
theorem cr_ge {Q : Bool → Prop} (h : Q (decide (j ≤ i))) : CmpR c X .GtE (.int i) (.int j) Q := cr_of op_ge o_B0 h
theorem cr_eqI {Q : Bool → Prop} (h : Q (decide (i = j))) : CmpR c X .Eq (.int i) (.int j) Q := cr_of op_eq (o_eqS rfl rfl rfl dec_I) h
theorem cr_neI {Q : Bool → Prop} (h : Q (!decide (i = j))) : CmpR c X .NotEq (.int i) (.int j) Q := cr_of op_ne (o_neS rfl rfl rfl (by rw [dec_I])) h
theorem dec_sx : decide (V.str (sx l) = V.str (sx l')) = decide (l = l') := by
  by_cases h : l = l'
  · subst h; rw [decide_eq_true rfl, decide_eq_true rfl]
  · rw [decide_eq_false h, decide_eq_false fun z => h (sx_inj (by injection z))]
theorem cr_eqX {Q : Bool → Prop} (h : Q (decide (l = l'))) : CmpR c X .Eq (.str (sx l)) (.str (sx l')) Q := cr_of op_eq (o_eqS rfl rfl rfl dec_sx) h
theorem cr_neX {Q : Bool → Prop} (h : Q (!decide (l = l'))) : CmpR c X .NotEq (.str (sx l)) (.str (sx l')) Q := cr_of op_ne (o_neS rfl rfl rfl (by rw [dec_sx])) h
theorem dec_bl {r u : Bool} : decide (V.bl r = V.bl u) = decide (r = u) := by cases r <;> cases u <;> rfl
theorem cr_eqB {r u : Bool} {Q : Bool → Prop} (h : Q (decide (r = u))) : CmpR c X .Eq (.bl r) (.bl u) Q := cr_of op_eq (o_eqS rfl rfl rfl dec_bl) h
theorem cr_neB {r u : Bool} {Q : Bool → Prop} (h : Q (!decide (r = u))) : CmpR c X .NotEq (.bl r) (.bl u) Q := cr_of op_ne (o_neS rfl rfl rfl (by rw [dec_bl])) h
/-- tests -/
theorem wt_val {Q : Bool → Store → Prop} (h : WE c X e st fun d st1 => ∃ r, d = .bl r ∧ Q r st1) (he : ∀ whole, isTrue e X.env whole = (do let v ← whole; standAt e.pos; holding [v] (truthy v)) := by intro _; rfl) : WT c X e st Q := by
  obtain ⟨d, st1, h1, r, rfl, h2⟩ := h
  exact ⟨r, st1, xt_val h1 he, h2⟩
theorem wt_not {Q : Bool → Store → Prop} (h : WT c X a st fun r st1 => Q (!r) st1) : WT c X (.UnaryOp .Not a pos) st Q := by
  obtain ⟨r, st1, h1, h2⟩ := h
  exact ⟨_, _, xt_not h1, h2⟩
theorem wt_of {Q : Bool → Store → Prop} (h : WW c X e st Q) : WT c X e st Q := by
  obtain ⟨r, st1, h1, h2⟩ := h
  exact ⟨_, _, xw_pt h1, h2⟩
theorem ww_and {es : List Expr} {Q : Bool → Store → Prop} (h : WT c X a st fun r st1 => IfK r (WW c X (.BoolOp .And (b :: es) pos) st1 Q) (Q false st1)) : WW c X (.BoolOp .And (a :: b :: es) pos) st Q := by
  obtain ⟨r, st1, h1, h2, h3⟩ := h
  cases r with
  | true => obtain ⟨u, st2, q1, q2⟩ := h2 rfl; exact ⟨u, st2, xw_andT h1 q1, q2⟩
  | false => exact ⟨_, _, xw_andF h1, h3 rfl⟩
theorem ww_or {es : List Expr} {Q : Bool → Store → Prop} (h : WT c X a st fun r st1 => IfK r (Q true st1) (WW c X (.BoolOp .Or (b :: es) pos) st1 Q)) : WW c X (.BoolOp .Or (a :: b :: es) pos) st Q := by
  obtain ⟨r, st1, h1, h2, h3⟩ := h
  cases r with
  | true => exact ⟨_, _, xw_orT h1, h2 rfl⟩
  | false => obtain ⟨u, st2, q1, q2⟩ := h3 rfl; exact ⟨u, st2, xw_orF h1 q1, q2⟩
theorem ww_and1 {Q : Bool → Store → Prop} (h : WT c X a st Q) : WW c X (.BoolOp .And [a] pos) st Q := by
  obtain ⟨r, st1, h1, h2⟩ := h; exact ⟨_, _, xw_and1 h1, h2⟩
theorem ww_or1 {Q : Bool → Store → Prop} (h : WT c X a st Q) : WW c X (.BoolOp .Or [a] pos) st Q := by
  obtain ⟨r, st1, h1, h2⟩ := h; exact ⟨_, _, xw_or1 h1, h2⟩
theorem we_one {op} {Q : Dt → Store → Prop} (h : WE c X a st Q) : WE c X (.BoolOp op [a] pos) st Q := by
  obtain ⟨d, st1, h1, h2⟩ := h; exact ⟨_, _, xd_one h1, h2⟩
theorem xd_andV {es : List Expr} (h : XD c X a st (.bl true) st1) (h2 : XD c X (.BoolOp .And (b :: es) pos) st1 d st2) : XD c X (.BoolOp .And (a :: b :: es) pos) st d st2 :=
  ⟨pe_weak (pe_and h.pe h2.pe) fun σ H Q ⟨G, E, k⟩ => ⟨G, E, fun v G1 H1 g1 E1 r1 => by cases r1; exact ⟨true, rfl, by refine L2.iteT ?_; exact ⟨G1, E1, fun v G2 H2 g2 E2 r2 => k v G2 H2 (g1.trans g2) E2 r2⟩⟩⟩⟩
theorem xd_andW {es : List Expr} (h : XD c X a st (.bl false) st1) : XD c X (.BoolOp .And (a :: b :: es) pos) st (.bl false) st1 :=
  ⟨pe_weak (pe_and h.pe pe_never) fun σ H Q ⟨G, E, k⟩ => ⟨G, E, fun v G1 H1 g1 E1 r1 => by cases r1; exact ⟨false, rfl, by refine L2.iteF ?_; exact k _ G1 H1 g1 E1 .bl⟩⟩⟩
theorem xd_orV {es : List Expr} (h : XD c X a st (.bl false) st1) (h2 : XD c X (.BoolOp .Or (b :: es) pos) st1 d st2) : XD c X (.BoolOp .Or (a :: b :: es) pos) st d st2 :=
  ⟨pe_weak (pe_or h.pe h2.pe) fun σ H Q ⟨G, E, k⟩ => ⟨G, E, fun v G1 H1 g1 E1 r1 => by cases r1; exact ⟨false, rfl, by refine L2.iteF ?_; exact ⟨G1, E1, fun v G2 H2 g2 E2 r2 => k v G2 H2 (g1.trans g2) E2 r2⟩⟩⟩⟩
theorem xd_orW {es : List Expr} (h : XD c X a st (.bl true) st1) : XD c X (.BoolOp .Or (a :: b :: es) pos) st (.bl true) st1 :=
  ⟨pe_weak (pe_or h.pe pe_never) fun σ H Q ⟨G, E, k⟩ => ⟨G, E, fun v G1 H1 g1 E1 r1 => by cases r1; exact ⟨true, rfl, by refine L2.iteT ?_; exact k _ G1 H1 g1 E1 .bl⟩⟩⟩
theorem we_and {es : List Expr} {Q : Dt → Store → Prop} (h : WE c X a st fun d st1 => ∃ r, d = .bl r ∧ IfK r (WE c X (.BoolOp .And (b :: es) pos) st1 Q) (Q (.bl false) st1)) : WE c X (.BoolOp .And (a :: b :: es) pos) st Q := by
  obtain ⟨d, st1, h1, r, rfl, h2, h3⟩ := h
  cases r with
  | true => obtain ⟨u, st2, q1, q2⟩ := h2 rfl; exact ⟨u, st2, xd_andV h1 q1, q2⟩
  | false => exact ⟨_, _, xd_andW h1, h3 rfl⟩
theorem we_or {es : List Expr} {Q : Dt → Store → Prop} (h : WE c X a st fun d st1 => ∃ r, d = .bl r ∧ IfK r (Q (.bl true) st1) (WE c X (.BoolOp .Or (b :: es) pos) st1 Q)) : WE c X (.BoolOp .Or (a :: b :: es) pos) st Q := by
  obtain ⟨d, st1, h1, r, rfl, h2, h3⟩ := h
  cases r with
  | true => exact ⟨_, _, xd_orW h1, h2 rfl⟩
  | false => obtain ⟨u, st2, q1, q2⟩ := h3 rfl; exact ⟨u, st2, xd_orV h1 q1, q2⟩
theorem we_if {Q : Dt → Store → Prop} (h : WT c X t st fun r st1 => IfK r (WE c X a st1 Q) (WE c X b st1 Q)) : WE c X (.IfExp t a b pos) st Q := by
  obtain ⟨r, st1, h1, h2, h3⟩ := h
  cases r with
  | true => obtain ⟨d, st2, q1, q2⟩ := h2 rfl; exact ⟨d, st2, xd_if h1 (fun _ => q1) (fun z => nomatch z), q2⟩
  | false => obtain ⟨d, st2, q1, q2⟩ := h3 rfl; exact ⟨d, st2, xd_if h1 (fun z => nomatch z) (fun _ => q1), q2⟩
theorem wa_nil {Q : List Dt → Store → Prop} (h : Q [] st) : WA c X [] st Q := ⟨_, _, xa_nil, h⟩
theorem wa_cons {Q : List Dt → Store → Prop} (h : WE c X e st fun d st1 => WA c X es st1 fun ds st2 => Q (d :: ds) st2) (hs : starEach (e :: es) X.env = (false, eval e X.env) :: starEach es X.env := by rfl) : WA c X (e :: es) st Q := by
  obtain ⟨d, st1, h1, ds, st2, h2, h3⟩ := h
  exact ⟨_, _, xa_cons h1 h2 hs, h3⟩
theorem wa_star {p1 : Pos} {Q : List Dt → Store → Prop} (hK : X.K = c.K) (h : WE c X e st fun d st1 => ∃ ds, (d = .lst ds ∨ d = .tup ds) ∧ WA c X es st1 fun xs st2 => Q (ds ++ xs) st2) (hs : starEach (.Starred e p1 :: es) X.env = (true, eval e X.env) :: starEach es X.env := by rfl) : WA c X (.Starred e p1 :: es) st Q := by
  obtain ⟨d, st1, h1, ds, hd, xs, st2, h2, h3⟩ := h
  exact ⟨_, _, xa_star h1 hd h2 hK hs, h3⟩
theorem we_tup {x1} {Q : Dt → Store → Prop} (h : WA c X es st fun ds st1 => ds.length ≤ 100000 ∧ Q (.tup ds) st1) : WE c X (.Tuple es x1 pos) st Q := by
  obtain ⟨ds, st1, h1, h2, h3⟩ := h
  exact ⟨_, _, xd_tup h1 h2, h3⟩
theorem we_lst {Q : Dt → Store → Prop} (h : WA c X es st fun ds st1 => ds.length ≤ 100000 ∧ Q (.lst ds) st1) : WE c X (.List es pos) st Q := by
  obtain ⟨ds, st1, h1, h2, h3⟩ := h
  exact ⟨_, _, xd_lst h1 h2, h3⟩
theorem wl_lst {Q : List Dt → Store → Prop} (h : WA c X es st fun ds st1 => ds.length ≤ 100000 ∧ Q ds st1) : WL c X (.List es pos) st Q := by
  obtain ⟨ds, st1, h1, h2, h3⟩ := h
  exact ⟨_, _, xl_lst h1 h2, h3⟩
theorem we_xl {Q : Dt → Store → Prop} (h : WL c X e st fun xs st1 => Q (.lst xs) st1) : WE c X e st Q := by
  obtain ⟨xs, st1, h1, h2⟩ := h
  exact ⟨_, _, xd_xl h1, h2⟩
/-- items -/
def IxR (c : Ctx) (X : Cx) (d1 d2 : Dt) (Q : Dt → Prop) : Prop := ∃ d, (∀ a b st st1 st2 pos, PlainIx b → XD c X a st d1 st1 → XD c X b st1 d2 st2 → XD c X (.Subscript a b pos) st d st2) ∧ Q d
theorem we_ix {Q : Dt → Store → Prop} (h : WE c X a st fun d1 st1 => WE c X b st1 fun d2 st2 => Dv.IxR c X d1 d2 fun d => Q d st2) (hs : PlainIx b := by exact fun _ _ => rfl) : WE c X (.Subscript a b pos) st Q := by
  obtain ⟨d1, st1, h1, d2, st2, h2, d, h3, h4⟩ := h
  exact ⟨_, _, h3 _ _ _ _ _ _ hs h1 h2, h4⟩
theorem ix_t {m : Nat} {Q : Dt → Prop} (hK : X.K = c.K) (hn : i = m) (hd : ds[m]? = some d) (h : Q d) : Dv.IxR c X (.tup ds) (.int i) Q := ⟨_, fun _ _ _ _ _ _ hs h1 h2 => xd_ixT h1 h2 hn hd hK hs, h⟩
theorem ix_l {m : Nat} {Q : Dt → Prop} (hK : X.K = c.K) (hn : i = m) (hd : ds[m]? = some d) (h : Q d) : Dv.IxR c X (.lst ds) (.int i) Q := ⟨_, fun _ _ _ _ _ _ hs h1 h2 => xd_ixL h1 h2 hn hd hK hs, h⟩
theorem ix_x {m q : Nat} {Q : Dt → Prop} (hl : l.length ≤ 100000) (hn : i = m) (hd : l[m]? = some q) (h : Q (.str (sx [q]))) : Dv.IxR c X (.str (sx l)) (.int i) Q := ⟨_, fun _ _ _ _ _ _ hs h1 h2 => xd_ixX h1 h2 hl hn hd hs, h⟩
/-- x[e] of one's own list -/
theorem we_ixO (k : Nat) {s : Sv} {x : Str} {p1 : Pos} {Q : Dt → Store → Prop} (hk0 : st[k]? = some (some s)) (h : WE c X b st fun di st1 => ∃ (m : Nat) (d : Dt) (xs : List Dt), st1[k]? = some (some s) ∧ s.Has xs ∧ di = .int m ∧ xs[m]? = some d ∧ Q d st1) (hN : X.N[k]? = some x := by rfl)
    (hv : Vis X.env.scope x := by first | exact Or.inl rfl | exact Or.inr (Or.inl rfl) | exact Or.inr (Or.inr rfl)) (hdb : (x == ("__debug__" : Str)) = false := by decide) (hcd : (x == ("__classdict__" : Str)) = false := by decide) (hp : PlainIx b := by exact fun _ _ => rfl) : WE c X (.Subscript (.Name x p1) b pos) st Q := by
  obtain ⟨di, st1, h1, m, d, xs, h3, h4, rfl, h6, h7⟩ := h
  exact ⟨_, _, xd_ixO k h1 hk0 h3 h4 rfl h6 hN hv hdb hcd hp, h7⟩
/-- slices -/
def CutR (c : Ctx) (X : Cx) (lo : Bool) (d1 d2 : Dt) (Q : Dt → Prop) : Prop := ∃ d, (∀ a b st st1 st2 pos p2, XD c X a st d1 st1 → XD c X b st1 d2 st2 → XD c X (.Subscript a (if lo = true then .Slice (some b) none none p2 else .Slice none (some b) none p2) pos) st d st2) ∧ Q d
theorem we_cutHi {Q : Dt → Store → Prop} {p2 : Pos} (h : WE c X a st fun d1 st1 => WE c X b st1 fun d2 st2 => CutR c X false d1 d2 fun d => Q d st2) : WE c X (.Subscript a (.Slice none (some b) none p2) pos) st Q := by
  obtain ⟨d1, st1, h1, d2, st2, h2, d, h3, h4⟩ := h
  exact ⟨_, _, h3 _ _ _ _ _ _ _ h1 h2, h4⟩
theorem we_cutLo {Q : Dt → Store → Prop} {p2 : Pos} (h : WE c X a st fun d1 st1 => WE c X b st1 fun d2 st2 => CutR c X true d1 d2 fun d => Q d st2) : WE c X (.Subscript a (.Slice (some b) none none p2) pos) st Q := by
  obtain ⟨d1, st1, h1, d2, st2, h2, d, h3, h4⟩ := h
  exact ⟨_, _, h3 _ _ _ _ _ _ _ h1 h2, h4⟩
theorem cut_hiX {Q : Dt → Prop} (hj : 0 ≤ j) (hz : l.length ≤ 100000) (h : Q (.str (sx (l.take j.toNat)))) : CutR c X false (.str (sx l)) (.int j) Q := ⟨_, fun _ _ _ _ _ _ _ h1 h2 => xd_cutHiX h1 h2 hj hz, h⟩
theorem cut_loX {Q : Dt → Prop} (hj : 0 ≤ j) (hz : l.length ≤ 100000) (h : Q (.str (sx (l.drop j.toNat)))) : CutR c X true (.str (sx l)) (.int j) Q := ⟨_, fun _ _ _ _ _ _ _ h1 h2 => xd_cutLoX h1 h2 hj hz, h⟩
theorem cut_hiL {Q : Dt → Prop} (hK : X.K = c.K) (hj : 0 ≤ j) (h : Q (.lst (ds.take j.toNat))) : CutR c X false (.lst ds) (.int j) Q := ⟨_, fun _ _ _ _ _ _ _ h1 h2 => xd_cutHi h1 h2 hj hK, h⟩
theorem cut_loL {Q : Dt → Prop} (hK : X.K = c.K) (hj : 0 ≤ j) (h : Q (.lst (ds.drop j.toNat))) : CutR c X true (.lst ds) (.int j) Q := ⟨_, fun _ _ _ _ _ _ _ h1 h2 => xd_cutLo h1 h2 hj hK, h⟩
theorem cut_hiT {Q : Dt → Prop} (hK : X.K = c.K) (hj : 0 ≤ j) (hl : j < ds.length) (h : Q (.tup (ds.take j.toNat))) : CutR c X false (.tup ds) (.int j) Q := ⟨_, fun _ _ _ _ _ _ _ h1 h2 => xd_cutHiT h1 h2 hj hl hK, h⟩
theorem cut_loT {Q : Dt → Prop} (hK : X.K = c.K) (hj : 0 < j) (hl : 0 < ds.length) (h : Q (.tup (ds.drop j.toNat))) : CutR c X true (.tup ds) (.int j) Q := ⟨_, fun _ _ _ _ _ _ _ h1 h2 => xd_cutLoT h1 h2 hj hl hK, h⟩
end
end Dv
set_option autoImplicit false
set_option maxRecDepth 100000
set_option maxHeartbeats 4000000
namespace Dv
open PySem PySem.Spec PyProof.Rows L2
/-! ### a row of data by its places -/
def rg (n : Nat) (F : Nat → Dt) : List Dt := (List.range n).map F
theorem map_get {α : Type} {l : List α} {F : α → Dt} {i : Nat} {d : Dt} (h : (l.map F)[i]? = some d) : ∃ x, l[i]? = some x ∧ d = F x := by
  rw [List.getElem?_map] at h
  cases e : l[i]? with
  | none => rw [e] at h; cases h
  | some x => rw [e] at h; cases h; exact ⟨x, rfl, rfl⟩
theorem rg_len (n : Nat) (F : Nat → Dt) : (rg n F).length = n := by unfold rg; simp
theorem rg_ext {n : Nat} {F G : Nat → Dt} (h : ∀ j, j < n → F j = G j) : rg n F = rg n G := by
  unfold rg
  exact List.map_congr_left fun j hj => h j (List.mem_range.mp hj)
theorem rg_get {w i : Nat} {g : Nat → Dt} {d : Dt} (h : (rg w g)[i]? = some d) : i < w ∧ d = g i := by
  unfold rg at h
  rw [List.getElem?_map] at h
  by_cases q : i < w
  · rw [List.getElem?_range q] at h; cases h; exact ⟨q, rfl⟩
  · rw [List.getElem?_eq_none (by simpa using q)] at h; cases h
theorem rg_at {w i : Nat} {g : Nat → Dt} (h : i < w) : (rg w g)[i]? = some (g i) := by
  unfold rg
  rw [List.getElem?_map, List.getElem?_range h]; rfl
theorem rg_zip {n : Nat} {F G : Nat → Dt} : List.zipWith (fun x y => Dt.tup [x, y]) (rg n F) (rg n G) = rg n fun i => .tup [F i, G i] := by
  unfold rg
  rw [List.zipWith_map_left, List.zipWith_map_right, List.zipWith_self]
theorem rg_one (n : Nat) (d : Dt) : (List.replicate n [d]).flatten = rg n fun _ => d := by
  rw [List.flatten_replicate_singleton]
  unfold rg
  rw [List.map_const', List.length_range]
theorem rg_snoc (n : Nat) (F : Nat → Dt) : rg n F ++ [F n] = rg (n + 1) F := by
  unfold rg
  rw [List.range_succ, List.map_append]; rfl
theorem rg_succ (n : Nat) (F : Nat → Dt) : rg (n + 1) F = F 0 :: rg n fun i => F (i + 1) := by
  unfold rg
  rw [List.range_succ_eq_map, List.map_cons, List.map_map]; rfl
theorem rg_list (ds : List Dt) : ds = rg ds.length fun i => ds.getD i .non := by
  apply List.ext_getElem?
  intro i
  by_cases h : i < ds.length
  · rw [rg_at h, List.getElem?_eq_getElem h, List.getD_eq_getElem?_getD, List.getElem?_eq_getElem h]; rfl
  · rw [List.getElem?_eq_none (by omega), List.getElem?_eq_none (by rw [rg_len]; omega)]
theorem rg_map {α : Type} (l : List α) (F : α → Dt) (x0 : α) : l.map F = rg l.length fun i => F (l.getD i x0) := by
  apply List.ext_getElem?
  intro i
  rw [List.getElem?_map]
  by_cases h : i < l.length
  · rw [rg_at h, List.getElem?_eq_getElem h, List.getD_eq_getElem?_getD, List.getElem?_eq_getElem h]; rfl
  · rw [List.getElem?_eq_none (by omega), List.getElem?_eq_none (by rw [rg_len]; omega)]; rfl
theorem rg_app (m n : Nat) (F G : Nat → Dt) : rg m F ++ rg n G = rg (m + n) fun i => if i < m then F i else G (i - m) := by
  apply List.ext_getElem?
  intro i
  by_cases h : i < m
  · rw [List.getElem?_append_left (by rw [rg_len]; exact h), rg_at h, rg_at (by omega), if_pos h]
  · rw [List.getElem?_append_right (by rw [rg_len]; omega), rg_len]
    by_cases h2 : i < m + n
    · rw [rg_at (by omega), rg_at h2, if_neg h]
    · rw [List.getElem?_eq_none (by rw [rg_len]; omega), List.getElem?_eq_none (by rw [rg_len]; omega)]
theorem rg_take {n m : Nat} {F : Nat → Dt} (h : m ≤ n) : (rg n F).take m = rg m F := by
  unfold rg
  rw [← List.map_take, List.take_range, Nat.min_eq_left h]
section
variable {c : Ctx} {X : Cx} {st st1 st2 st3 : Store} {a b e e2 tg iter elt t : Expr} {es : List Expr} {d d1 d2 d3 d' : Dt} {ds xs ys zs fs gs vs : List Dt} {pos : Pos} {i j : Int} {body rest orelse A B : List Stmt} {s : Stmt} {o : Out} {n k m : Nat} {l l' : List Nat}

/-! ### calls by names -/
theorem we_df {x : Str} {k : Nat} {R : List Dt → Dt → Prop} {p : Pos} {Q : Dt → Store → Prop} (F : DF X.prog X.w X.K c.T X.mg X.base x k R) (hK : X.K = c.K) (hr : Room k X.A) (h : WA c X (e :: es) st fun ds st1 => ∃ d, R ds d ∧ Q d st1) (hg : Gl X x := by rfl) (hdb : (x == ("__debug__" : Str)) = false := by decide) (he : starEach (e :: es) X.env = (false, eval e X.env) :: starEach es X.env := by rfl) (hpl : (backTo pos (starEach es X.env)).any (·.1) = false := by rfl) :
    WE c X (.Call (.Name x p) (e :: es) [] pos) st Q := by
  obtain ⟨ds, st1, h1, d, h2, h3⟩ := h
  exact ⟨_, _, xd_df F hK hr h1 h2 hg hdb he hpl, h3⟩
theorem we_df0 {x : Str} {k : Nat} {R : List Dt → Dt → Prop} {p : Pos} {Q : Dt → Store → Prop} (F : DF X.prog X.w X.K c.T X.mg X.base x k R) (hK : X.K = c.K) (hr : Room k X.A) (hR : R [] d) (h : Q d st) (hg : Gl X x := by rfl) (hdb : (x == ("__debug__" : Str)) = false := by decide) :
    WE c X (.Call (.Name x p) [] [] pos) st Q := ⟨_, _, xd_df0 F hK hr hR hg hdb, h⟩
/-- a def that changes the list in slot i -/
theorem we_dm (i : Nat) {s : Sv} {x y : Str} {k : Nat} {R : List Dt → List Dt → Dt → List Dt → Prop} {p py : Pos} {Q : Dt → Store → Prop} (hi : st[i]? = some (some s)) (F : DM X.prog X.w X.K c.T X.mg X.base x k R) (hK : X.K = c.K) (hr : Room k X.A) (h : WA c X es st fun ds st1 => ∃ xs d ys, st1[i]? = some (some s) ∧ s.Has xs ∧ R xs ds d ys ∧ Q d (st1.set i (some (s.with ys)))) (hg : Gl X x := by rfl) (hdb : (x == ("__debug__" : Str)) = false := by decide)
    (hN : X.N[i]? = some y := by rfl) (hv : Vis X.env.scope y := by first | exact Or.inl rfl | exact Or.inr (Or.inl rfl) | exact Or.inr (Or.inr rfl)) (hd : (y == ("__debug__" : Str)) = false := by decide) (hcd : (y == ("__classdict__" : Str)) = false := by decide)
    (he : starEach (.Name y py :: es) X.env = (false, eval (.Name y py) X.env) :: starEach es X.env := by rfl) (hpl : (backTo pos (starEach es X.env)).any (·.1) = false := by rfl) :
    WE c X (.Call (.Name x p) (.Name y py :: es) [] pos) st Q := by
  obtain ⟨ds, st1, h1, xs, d, ys, h3, h4, h5, h6⟩ := h
  exact ⟨_, _, xd_dm i F hK hr h1 hi h3 h4 h5 hg hdb hN hv hd hcd he hpl, h6⟩
/-- a def that hands out a new list -/
theorem wl_dl {x : Str} {k : Nat} {R : List Dt → List Dt → Prop} {p : Pos} {Q : List Dt → Store → Prop} (F : DL X.prog X.w X.K c.T X.mg X.base x k R) (hK : X.K = c.K) (hr : Room k X.A) (h : WA c X (e :: es) st fun ds st1 => ∃ xs, R ds xs ∧ Q xs st1) (hg : Gl X x := by rfl) (hdb : (x == ("__debug__" : Str)) = false := by decide) (he : starEach (e :: es) X.env = (false, eval e X.env) :: starEach es X.env := by rfl) (hpl : (backTo pos (starEach es X.env)).any (·.1) = false := by rfl) :
    WL c X (.Call (.Name x p) (e :: es) [] pos) st Q := by
  obtain ⟨ds, st1, h1, xs, h2, h3⟩ := h
  exact ⟨_, _, xl_dl F hK hr h1 h2 hg hdb he hpl, h3⟩
theorem we_mf {m : Str} {apos : Pos} {pl : Sem Bool} {n k : Nat} {R : List Dt → Dt → Prop} {x : Str} {C : Addr} {ns : List Str} {Q : Dt → Store → Prop} (q : CF X.K c.T X.mg x n C ns) (F : MF X.prog X.w X.K c.T X.mg X.base C m k R) (hK : X.K = c.K) (hr : Room k X.A)
    (h : WE c X b st fun d0 st1 => ∃ fs, d0 = .obj n fs ∧ WA c X (e :: es) st1 fun ds st2 => ∃ d, R (.obj n fs :: ds) d ∧ Q d st2) (hno : ns.contains m = false := by decide +kernel)
    (hst : starEach (e :: es) X.env = (false, eval e X.env) :: starEach es X.env := by rfl) (hpl : (backTo pos (starEach es X.env)).any (·.1) = false := by rfl)
    (ht : eval (.Call (.Attribute b m apos) (e :: es) [] pos) X.env = (do
      let ov ← eval b X.env
      standAt apos.atName
      let (f, first) ← holding [ov] (getMethod ov m pl)
      callWith pos f first (backTo pos (starEach (e :: es) X.env)) (backToKw pos (keywordEach [] X.env))) := by rfl) :
    WE c X (.Call (.Attribute b m apos) (e :: es) [] pos) st Q := by
  obtain ⟨d0, st1, h1, fs, rfl, ds, st2, h2, d, h3, h4⟩ := h
  exact ⟨_, _, xd_mf h1 q F hK hr h2 h3 hno hst hpl ht, h4⟩
theorem we_mf0 {m : Str} {apos : Pos} {pl : Sem Bool} {n k : Nat} {R : List Dt → Dt → Prop} {x : Str} {C : Addr} {ns : List Str} {Q : Dt → Store → Prop} (q : CF X.K c.T X.mg x n C ns) (F : MF X.prog X.w X.K c.T X.mg X.base C m k R) (hK : X.K = c.K) (hr : Room k X.A)
    (h : WE c X b st fun d0 st1 => ∃ fs d, d0 = .obj n fs ∧ R [.obj n fs] d ∧ Q d st1) (hno : ns.contains m = false := by decide +kernel)
    (ht : eval (.Call (.Attribute b m apos) [] [] pos) X.env = (do
      let ov ← eval b X.env
      standAt apos.atName
      let (f, first) ← holding [ov] (getMethod ov m pl)
      callWith pos f first (backTo pos (starEach [] X.env)) (backToKw pos (keywordEach [] X.env))) := by rfl) :
    WE c X (.Call (.Attribute b m apos) [] [] pos) st Q := by
  obtain ⟨d0, st1, h1, fs, d, rfl, h3, h4⟩ := h
  exact ⟨_, _, xd_mf0 h1 q F hK hr h3 hno ht, h4⟩
theorem we_mk {n k : Nat} {Rf : List Dt → List Dt → Prop} {x : Str} {C : Addr} {ns : List Str} {p : Pos} {dds : List Dt} {Q : Dt → Store → Prop} (q : CF X.K c.T X.mg x n C ns) (F : IF' X.prog X.w X.K c.T X.mg X.base n C dds k Rf) (hK : X.K = c.K) (hr : Room (k + 1) X.A)
    (h : WA c X (e :: es) st fun ds st1 => ∃ fs, Rf (ds ++ dds) fs ∧ Q (.obj n fs) st1) (hg : Gl X x := by rfl) (hdb : (x == ("__debug__" : Str)) = false := by decide) (he : starEach (e :: es) X.env = (false, eval e X.env) :: starEach es X.env := by rfl) (hpl : (backTo pos (starEach es X.env)).any (·.1) = false := by rfl) :
    WE c X (.Call (.Name x p) (e :: es) [] pos) st Q := by
  obtain ⟨ds, st1, h1, fs, h2, h3⟩ := h
  exact ⟨_, _, xd_mk q F hK hr h1 h2 hg hdb he hpl, h3⟩
theorem we_ff (i : Nat) {n : Nat} {x : Str} {C : Addr} {ns : List Str} {f : Str} {Q : Dt → Store → Prop} (q : CF X.K c.T X.mg x n C ns) (hK : X.K = c.K) (hna : NoAttr X.K C f) (h : WE c X e st fun d0 st1 => ∃ fs d, d0 = .obj n fs ∧ fs[i]? = some d ∧ Q d st1) (hi : ns.findIdx? (· == f) = some i := by decide +kernel)
    (hb : attributeBase e f X.env (eval e X.env) = eval e X.env := by rfl) : WE c X (.Attribute e f pos) st Q := by
  obtain ⟨d0, st1, h1, fs, d, rfl, h2, h3⟩ := h
  exact ⟨_, _, xd_ff i h1 q hK hna h2 hi hb, h3⟩
theorem we_lenF {n k : Nat} {R : List Dt → Dt → Prop} {x : Str} {C : Addr} {ns : List Str} {p : Pos} {Q : Dt → Store → Prop} (q : CF X.K c.T X.mg x n C ns) (F : MF X.prog X.w X.K c.T X.mg X.base C "__len__" k R) (hK : X.K = c.K) (hr : Room (k + 1) X.A) (hm : X.mg "len" = none)
    (h : WE c X e st fun d0 st1 => ∃ fs m, d0 = .obj n fs ∧ R [.obj n fs] (.int m) ∧ 0 ≤ m ∧ m < 2 ^ 63 ∧ Q (.int m) st1) (hg : Gl X "len" := by rfl) (he : starEach (e :: []) X.env = (false, eval e X.env) :: starEach [] X.env := by rfl) (hpl : (backTo pos (starEach [] X.env)).any (·.1) = false := by rfl) :
    WE c X (.Call (.Name "len" p) [e] [] pos) st Q := by
  obtain ⟨d0, st1, h1, fs, m, rfl, h2, h3, h4, h5⟩ := h
  exact ⟨_, _, xd_lenF h1 q F hK hr h2 h3 h4 hm hg he hpl, h5⟩
theorem cr_eqF {n k : Nat} {R : List Dt → Dt → Prop} {x : Str} {C : Addr} {ns : List Str} {r : Bool} {Q : Bool → Prop} (q : CF X.K c.T X.mg x n C ns) (F : MF X.prog X.w X.K c.T X.mg X.base C "__eq__" k R) (hK : X.K = c.K) (hr : Room k X.A)
    (hR : R [.obj n fs, .obj n gs] (.bl r)) (h : Q r) : CmpR c X .Eq (.obj n fs) (.obj n gs) Q := ⟨r, fun _ _ _ _ _ _ _ h1 h2 => ⟨xd_eqF h1 h2 q F hK hr hR, xt_eqF h1 h2 q F hK hr hR⟩, h⟩
theorem cr_neF {n k : Nat} {R : List Dt → Dt → Prop} {x : Str} {C : Addr} {ns : List Str} {r : Bool} {Q : Bool → Prop} (q : CF X.K c.T X.mg x n C ns) (F : MF X.prog X.w X.K c.T X.mg X.base C "__eq__" k R) (hK : X.K = c.K) (hr : Room (k + 1) X.A)
    (hne : PySem.W.findIn X.K (.ref C) "__ne__" = some (some (.builtin "object.__ne__"))) (hob : PySem.W.mroIn X.K C (.type "object") = some true)
    (hR : R [.obj n fs, .obj n gs] (.bl r)) (h : Q (!r)) : CmpR c X .NotEq (.obj n fs) (.obj n gs) Q := ⟨!r, fun _ _ _ _ _ _ _ h1 h2 => ⟨xd_neF h1 h2 q F hK hr hne hob hR, xt_neF h1 h2 q F hK hr hne hob hR⟩, h⟩

/-! ### built-ins -/
def LenR (d : Dt) (Q : Dt → Prop) : Prop := (∃ ds, (d = .lst ds ∨ d = .ro ds ∨ d = .tup ds) ∧ Q (.int (ds.length : Int))) ∨ ∃ l, d = .str (sx l) ∧ l.length ≤ 100000 ∧ Q (.int (l.length : Int))
theorem len_l {Q : Dt → Prop} (h : Q (.int (ds.length : Int))) : LenR (.lst ds) Q := .inl ⟨ds, .inl rfl, h⟩
theorem len_r {Q : Dt → Prop} (h : Q (.int (ds.length : Int))) : LenR (.ro ds) Q := .inl ⟨ds, .inr (.inl rfl), h⟩
theorem len_t {Q : Dt → Prop} (h : Q (.int (ds.length : Int))) : LenR (.tup ds) Q := .inl ⟨ds, .inr (.inr rfl), h⟩
theorem len_x {Q : Dt → Prop} (hz : l.length ≤ 100000) (h : Q (.int (l.length : Int))) : LenR (.str (sx l)) Q := .inr ⟨l, rfl, hz, h⟩
theorem we_len {p : Pos} {Q : Dt → Store → Prop} (hK : X.K = c.K) (hm : X.mg "len" = none) (h : WE c X e st fun d st1 => LenR d fun r => Q r st1) (hg : Gl X "len" := by rfl) (he : starEach (e :: []) X.env = (false, eval e X.env) :: starEach [] X.env := by rfl) (hpl : (backTo pos (starEach [] X.env)).any (·.1) = false := by rfl) :
    WE c X (.Call (.Name "len" p) [e] [] pos) st Q := by
  obtain ⟨d, st1, h1, ⟨ds, h2, h3⟩ | ⟨l, rfl, h2, h3⟩⟩ := h
  · exact ⟨_, _, xd_len h1 h2 hK hm hg he hpl, h3⟩
  · exact ⟨_, _, xd_lenX h1 h2 hm hg he hpl, h3⟩
theorem we_intc {p : Pos} {Q : Dt → Store → Prop} (hm : X.mg "int" = none) (h : WE c X e st fun d st1 => ∃ i, d = .int i ∧ Q (.int i) st1) (hg : Gl X "int" := by rfl) (he : starEach (e :: []) X.env = (false, eval e X.env) :: starEach [] X.env := by rfl) (hpl : (backTo pos (starEach [] X.env)).any (·.1) = false := by rfl) :
    WE c X (.Call (.Name "int" p) [e] [] pos) st Q := by
  obtain ⟨d, st1, h1, i, rfl, h2⟩ := h
  exact ⟨_, _, xd_intI h1 hm hg he hpl, h2⟩
theorem we_abs {p : Pos} {Q : Dt → Store → Prop} (hm : X.mg "abs" = none) (h : WE c X e st fun d st1 => ∃ i, d = .int i ∧ Q (.int (i.natAbs : Int)) st1) (hg : Gl X "abs" := by rfl) (he : starEach (e :: []) X.env = (false, eval e X.env) :: starEach [] X.env := by rfl) (hpl : (backTo pos (starEach [] X.env)).any (·.1) = false := by rfl) :
    WE c X (.Call (.Name "abs" p) [e] [] pos) st Q := by
  obtain ⟨d, st1, h1, i, rfl, h2⟩ := h
  exact ⟨_, _, xd_abs h1 hm hg he hpl, h2⟩
theorem we_tuple {p : Pos} {Q : Dt → Store → Prop} (hK : X.K = c.K) (hm : X.mg "tuple" = none) (h : WE c X e st fun d st1 => ∃ ds, (d = .lst ds ∨ d = .tup ds) ∧ Q (.tup ds) st1) (hg : Gl X "tuple" := by rfl) (he : starEach (e :: []) X.env = (false, eval e X.env) :: starEach [] X.env := by rfl) (hpl : (backTo pos (starEach [] X.env)).any (·.1) = false := by rfl) :
    WE c X (.Call (.Name "tuple" p) [e] [] pos) st Q := by
  obtain ⟨d, st1, h1, ds, h2, h3⟩ := h
  exact ⟨_, _, xd_tuple h1 h2 hK hm hg he hpl, h3⟩
theorem we_tupleO (k : Nat) {s : Sv} {x : Str} {p p1 : Pos} {Q : Dt → Store → Prop} (hk : st[k]? = some (some s)) (hm : X.mg "tuple" = none) (hs : s.Has xs) (h : Q (.tup xs) st) (hg : Gl X "tuple" := by rfl) (hN : X.N[k]? = some x := by rfl)
    (hv : Vis X.env.scope x := by first | exact Or.inl rfl | exact Or.inr (Or.inl rfl) | exact Or.inr (Or.inr rfl)) (hdb : (x == ("__debug__" : Str)) = false := by decide) (hcd : (x == ("__classdict__" : Str)) = false := by decide)
    (he : starEach (.Name x p1 :: []) X.env = (false, eval (.Name x p1) X.env) :: starEach [] X.env := by rfl) (hpl : (backTo pos (starEach [] X.env)).any (·.1) = false := by rfl) :
    WE c X (.Call (.Name "tuple" p) [.Name x p1] [] pos) st Q := ⟨_, _, xd_tupleO k hk hs hm hg hN hv hdb hcd he hpl, h⟩
theorem we_list {p : Pos} {Q : Dt → Store → Prop} (hK : X.K = c.K) (hm : X.mg "list" = none) (h : WE c X e st fun d st1 => ∃ ds, (d = .lst ds ∨ d = .ro ds ∨ d = .tup ds) ∧ Q (.lst ds) st1) (hg : Gl X "list" := by rfl) (he : starEach (e :: []) X.env = (false, eval e X.env) :: starEach [] X.env := by rfl) (hpl : (backTo pos (starEach [] X.env)).any (·.1) = false := by rfl) :
    WE c X (.Call (.Name "list" p) [e] [] pos) st Q := by
  obtain ⟨d, st1, h1, ds, h2, h3⟩ := h
  exact ⟨_, _, xd_list h1 h2 hK hm hg he hpl, h3⟩
theorem we_gcd {ea eb : Expr} {p : Pos} {Q : Dt → Store → Prop} (hm : X.mg "gcd" = some (.builtin "math.gcd")) (h : WA c X [ea, eb] st fun ds st1 => ∃ i j : Int, ds = [.int i, .int j] ∧ Q (.int ((Nat.gcd i.natAbs j.natAbs : Nat) : Int)) st1) (hg : Gl X "gcd" := by rfl) (he : starEach (ea :: [eb]) X.env = (false, eval ea X.env) :: starEach [eb] X.env := by rfl) (hpl : (backTo pos (starEach [eb] X.env)).any (·.1) = false := by rfl) :
    WE c X (.Call (.Name "gcd" p) [ea, eb] [] pos) st Q := by
  obtain ⟨ds, st1, h1, i, j, rfl, h2⟩ := h
  exact ⟨_, _, xd_gcd h1 hm hg he hpl, h2⟩
theorem we_isTy {y : Str} {id : String} {p p2 : Pos} {Q : Dt → Store → Prop} (hK : X.K = c.K) (hm : X.mg "isinstance" = none) (hy : X.mg y = none) (h : WE c X e st fun d st1 => ∃ (tn : String) (r : Bool), HasTy c d (.type tn) ∧ PySem.W.kitOne X.K (.type tn) (.type id) = some r ∧ Q (.bl r) st1) (hb : bootBuiltins y = some (.type id) := by first | rfl | decide +kernel) (hgy : Gl X y := by rfl) (hny : y ≠ "__name__" := by decide) (hdb : (y == ("__debug__" : Str)) = false := by decide) (hg : Gl X "isinstance" := by rfl)
    (he : starEach (e :: [.Name y p2]) X.env = (false, eval e X.env) :: starEach [.Name y p2] X.env := by rfl) (he2 : starEach (.Name y p2 :: []) X.env = (false, eval (.Name y p2) X.env) :: starEach [] X.env := by rfl) (hpl : (backTo pos (starEach [.Name y p2] X.env)).any (·.1) = false := by rfl) :
    WE c X (.Call (.Name "isinstance" p) [e, .Name y p2] [] pos) st Q := by
  obtain ⟨d, st1, h1, tn, r, h2, h3, h4⟩ := h
  exact ⟨_, _, xd_isTy h1 h2 hK hm hy hb h3 hgy hny hdb hg he he2 hpl, h4⟩
theorem we_isOwn {y : Str} {n : Nat} {C : Addr} {ns : List Str} {p p2 : Pos} {Q : Dt → Store → Prop} (q : CF X.K c.T X.mg y n C ns) (hX : ClsX X.K C) (hK : X.K = c.K) (hm : X.mg "isinstance" = none) (h : WE c X e st fun d st1 => ∃ fs, d = .obj n fs ∧ Q (.bl true) st1) (hgy : Gl X y := by rfl) (hdb : (y == ("__debug__" : Str)) = false := by decide) (hg : Gl X "isinstance" := by rfl)
    (he : starEach (e :: [.Name y p2]) X.env = (false, eval e X.env) :: starEach [.Name y p2] X.env := by rfl) (he2 : starEach (.Name y p2 :: []) X.env = (false, eval (.Name y p2) X.env) :: starEach [] X.env := by rfl) (hpl : (backTo pos (starEach [.Name y p2] X.env)).any (·.1) = false := by rfl) :
    WE c X (.Call (.Name "isinstance" p) [e, .Name y p2] [] pos) st Q := by
  obtain ⟨d, st1, h1, fs, rfl, h2⟩ := h
  exact ⟨_, _, xd_isOwn h1 q hX hK hm hgy hdb hg he he2 hpl, h2⟩
theorem we_all {bs : List Bool} {p : Pos} {Q : Dt → Store → Prop} (hc : X.calm = true) (hm : X.mg "all" = none) (h : WE c X e st fun d st1 => d = .lst (bs.map .bl) ∧ Q (.bl (bs.all id)) st1) (hg : Gl X "all" := by rfl) (he : starEach (e :: []) X.env = (false, eval e X.env) :: starEach [] X.env := by rfl) (hpl : (backTo pos (starEach [] X.env)).any (·.1) = false := by rfl) :
    WE c X (.Call (.Name "all" p) [e] [] pos) st Q := by
  obtain ⟨d, st1, h1, rfl, h2⟩ := h
  exact ⟨_, _, xd_all h1 rfl hc hm hg he hpl, h2⟩

/-! ### what is walked -/
def ItR (c : Ctx) (d : Dt) (Q : List Dt → Prop) : Prop := ∃ ds, (d = .lst ds ∨ d = .ro ds ∨ d = .tup ds ∨ ∃ l, d = .str (sx l) ∧ ds = l.map fun q => .str (sx [q])) ∧ Q ds
theorem it_l {Q : List Dt → Prop} (h : Q ds) : ItR c (.lst ds) Q := ⟨ds, .inl rfl, h⟩
theorem it_r {Q : List Dt → Prop} (h : Q ds) : ItR c (.ro ds) Q := ⟨ds, .inr (.inl rfl), h⟩
theorem it_t {Q : List Dt → Prop} (h : Q ds) : ItR c (.tup ds) Q := ⟨ds, .inr (.inr (.inl rfl)), h⟩
theorem it_x {Q : List Dt → Prop} (h : Q (l.map fun q => .str (sx [q]))) : ItR c (.str (sx l)) Q := ⟨_, .inr (.inr (.inr ⟨l, rfl, rfl⟩)), h⟩
theorem wi_val {Q : List Dt → Store → Prop} (hK : X.K = c.K) (h : WE c X e st fun d st1 => ItR c d fun ds => Q ds st1) : WI c X tg e st Q := by
  obtain ⟨d, st1, h1, ds, h2, h3⟩ := h
  rcases h2 with rfl | rfl | rfl | ⟨l, rfl, rfl⟩
  · exact ⟨_, _, xi_list hK h1, h3⟩
  · exact ⟨_, _, xi_ro hK h1, h3⟩
  · exact ⟨_, _, xi_tup hK h1, h3⟩
  · exact ⟨_, _, xi_strX h1, h3⟩
theorem wi_range1 {p : Pos} {Q : List Dt → Store → Prop} (hm : X.mg "range" = none) (h : WE c X a st fun d st1 => ∃ n : Nat, d = .int n ∧ n < 2 ^ 60 ∧ Q (rg n fun i => .int (i : Nat)) st1) (hg : Gl X "range" := by rfl) (hs : starEach [a] X.env = [(false, eval a X.env)] := by rfl) :
    WI c X tg (.Call (.Name "range" p) [a] [] pos) st Q := by
  obtain ⟨d, st1, h1, n, rfl, h2, h3⟩ := h
  exact ⟨_, _, xi_range1 h1 (by omega) (by omega) hm hg hs, h3⟩
theorem wi_range2 {p : Pos} {Q : List Dt → Store → Prop} (hm : X.mg "range" = none) (h : WA c X [a, b] st fun ds st1 => ∃ lo n : Int, ds = [.int lo, .int n] ∧ -(2 ^ 60) ≤ lo ∧ lo < 2 ^ 60 ∧ -(2 ^ 60) ≤ n ∧ n < 2 ^ 60 ∧ Q (rg (n - lo).toNat fun i => .int (lo + (i : Nat))) st1) (hg : Gl X "range" := by rfl) (hs : starEach [a, b] X.env = [(false, eval a X.env), (false, eval b X.env)] := by rfl) (hs2 : starEach [b] X.env = [(false, eval b X.env)] := by rfl) :
    WI c X tg (.Call (.Name "range" p) [a, b] [] pos) st Q := by
  obtain ⟨ds, st1, h1, lo, n, rfl, h2, h3, h4, h5, h6⟩ := h
  exact ⟨_, _, xi_range2 h1 (by omega) hm hg hs hs2, h6⟩
inductive SqL' : Dt → List Dt → Prop where
  | l {ws : List Dt} : SqL' (.lst ws) ws
  | r {ws : List Dt} : SqL' (.ro ws) ws
  | t {ws : List Dt} : SqL' (.tup ws) ws
theorem wi_zip {p tpos : Pos} {elts : List Expr} {kk : Nat} {Q : List Dt → Store → Prop} (hK : X.K = c.K) (hm : X.mg "zip" = none) (h : WA c X [a, b] st fun ds st1 => ∃ d1 d2 xs ys, ds = [d1, d2] ∧ SqL' d1 xs ∧ SqL' d2 ys ∧ Q (List.zipWith (fun x y => .tup [x, y]) xs ys) st1) (hg : Gl X "zip" := by rfl)
    (hs : starEach [a, b] X.env = (false, eval a X.env) :: starEach [b] X.env := by rfl) (hpl : (backTo pos (starEach [b] X.env)).any (·.1) = false := by rfl) :
    WI c X (.Tuple elts kk tpos) (.Call (.Name "zip" p) [a, b] [] pos) st Q := by
  obtain ⟨ds, st1, h1, d1, d2, xs, ys, rfl, h2, h3, h4⟩ := h
  cases h2 with
  | l => cases h3 with
    | l => exact ⟨_, _, xi_zip (κ1 := .l) (κ2 := .l) h1 .l .l hK hm hg hs hpl, h4⟩
    | r => exact ⟨_, _, xi_zip (κ1 := .l) (κ2 := .l) h1 .l .r hK hm hg hs hpl, h4⟩
    | t => exact ⟨_, _, xi_zip (κ1 := .l) (κ2 := .t) h1 .l .t hK hm hg hs hpl, h4⟩
  | r => cases h3 with
    | l => exact ⟨_, _, xi_zip (κ1 := .l) (κ2 := .l) h1 .r .l hK hm hg hs hpl, h4⟩
    | r => exact ⟨_, _, xi_zip (κ1 := .l) (κ2 := .l) h1 .r .r hK hm hg hs hpl, h4⟩
    | t => exact ⟨_, _, xi_zip (κ1 := .l) (κ2 := .t) h1 .r .t hK hm hg hs hpl, h4⟩
  | t => cases h3 with
    | l => exact ⟨_, _, xi_zip (κ1 := .t) (κ2 := .l) h1 .t .l hK hm hg hs hpl, h4⟩
    | r => exact ⟨_, _, xi_zip (κ1 := .t) (κ2 := .l) h1 .t .r hK hm hg hs hpl, h4⟩
    | t => exact ⟨_, _, xi_zip (κ1 := .t) (κ2 := .t) h1 .t .t hK hm hg hs hpl, h4⟩
theorem wi_enum {p tpos : Pos} {elts : List Expr} {kk : Nat} {Q : List Dt → Store → Prop} (hK : X.K = c.K) (hm : X.mg "enumerate" = none) (h : WE c X e st fun d st1 => ∃ ds, d = .lst ds ∧ Q (enumD ds) st1) (hg : Gl X "enumerate" := by rfl) (hs : starEach [e] X.env = [(false, eval e X.env)] := by rfl) (he : starEach (e :: []) X.env = (false, eval e X.env) :: starEach [] X.env := by rfl) :
    WI c X (.Tuple elts kk tpos) (.Call (.Name "enumerate" p) [e] [] pos) st Q := by
  obtain ⟨d, st1, h1, ds, rfl, h2⟩ := h
  exact ⟨_, _, xi_enum h1 hK hm hg hs he, h2⟩
theorem enumD_rg (n : Nat) (F : Nat → Dt) : enumD (rg n F) = rg n fun i => .tup [.int (i : Nat), F i] := by
  apply List.ext_getElem?
  intro i
  unfold enumD
  rw [List.getElem?_mapIdx]
  by_cases h : i < n
  · rw [rg_at h, rg_at h]; rfl
  · rw [List.getElem?_eq_none (by rw [rg_len]; omega), List.getElem?_eq_none (by rw [rg_len]; omega)]; rfl

/-! ### comprehensions -/
/-- what a turn of a comprehension gives, the store as it was -/
abbrev Gv (v : Dt) (s : Store) : Dt → Store → Prop := fun d s' => d = v ∧ s' = s
theorem wl_map1 (jx : Nat) (vs : List Dt) {x : Str} {p : Pos} {scope : Scope} {Q : List Dt → Store → Prop} (hN : X.N.Nodup)
    (h : WI c X (.Name x p) iter st fun ds st1 => vs.length = ds.length ∧ ds.length ≤ 100000 ∧ st1[jx]? = some none ∧ (∀ (i : Nat) d v, ds[i]? = some d → vs[i]? = some v → ∀ sh H C cl fp, WE c (BlkC X sh H scope C cl fp) elt (st1.set jx (some (.fr d))) (Gv v (st1.set jx (some (.fr d))))) ∧ Q vs st1)
    (hx : X.N[jx]? = some x := by rfl) (hloc : Loc (relabel scope X.env) x := by first | exact Or.inl rfl | exact Or.inr rfl) (hlocf : (scope.names.lookup x == some .cell) = true ∨ (relabel scope X.env).names.lookup x = some .local := by first | exact Or.inl rfl | exact Or.inr rfl) (ok : BlkOk X.N X.env.scope scope [(x, jx)] := by exact blkOk_by (by first | rfl | decide +kernel))
    (hc : X.calm = true := by rfl) (hs : ∀ x, foldedSetIterable iter X.env x = pure x := by intro _; rfl) :
    WL c X (.ListComp elt [⟨.Name x p, iter, [], 0⟩] scope pos) st Q := by
  obtain ⟨ds, st1, h1, h2, h3, h4, h5, h6⟩ := h
  refine ⟨_, _, xl_map1 jx vs hN h1 h2 h3 h4 (fun i d v q1 q2 sh H C cl fp => ?_) hx hloc hlocf ok hc hs, h6⟩
  obtain ⟨d', s', z1, rfl, rfl⟩ := h5 i d v q1 q2 sh H C cl fp
  exact z1
theorem wl_map2 (j1 j2 : Nat) (vs : List Dt) {x y : Str} {p p1 p2 : Pos} {kk : Nat} {scope : Scope} {Q : List Dt → Store → Prop} (hN : X.N.Nodup) (hK : X.K = c.K) (hcm : X.calm = true)
    (h : WI c X (.Tuple [.Name x p1, .Name y p2] kk p) iter st fun ds st1 => vs.length = ds.length ∧ ds.length ≤ 100000 ∧ st1[j1]? = some none ∧ st1[j2]? = some none ∧
      (∀ (i : Nat) d v, ds[i]? = some d → vs[i]? = some v → ∃ u w, d = .tup [u, w] ∧ ∀ sh H C cl fp, WE c (BlkC X sh H scope C cl fp) elt ((st1.set j1 (some (.fr u))).set j2 (some (.fr w))) (Gv v ((st1.set j1 (some (.fr u))).set j2 (some (.fr w))))) ∧ Q vs st1) (hj : j1 ≠ j2 := by decide)
    (hx : X.N[j1]? = some x := by rfl) (hy : X.N[j2]? = some y := by rfl) (hlx : Loc (relabel scope X.env) x := by first | exact Or.inl rfl | exact Or.inr rfl) (hlxf : (scope.names.lookup x == some .cell) = true ∨ (relabel scope X.env).names.lookup x = some .local := by first | exact Or.inl rfl | exact Or.inr rfl) (hly : Loc (relabel scope X.env) y := by first | exact Or.inl rfl | exact Or.inr rfl) (hlyf : (scope.names.lookup y == some .cell) = true ∨ (relabel scope X.env).names.lookup y = some .local := by first | exact Or.inl rfl | exact Or.inr rfl) (ok : BlkOk X.N X.env.scope scope [(x, j1), (y, j2)] := by exact blkOk_by (by first | rfl | decide +kernel))
    (hs : ∀ x, foldedSetIterable iter X.env x = pure x := by intro _; rfl) (hst : ∀ env, (assignEach [.Name x p1, .Name y p2] env).map (·.2) = [assign (.Name x p1) env, assign (.Name y p2) env] := by intro _; rfl) :
    WL c X (.ListComp elt [⟨.Tuple [.Name x p1, .Name y p2] kk p, iter, [], 0⟩] scope pos) st Q := by
  obtain ⟨ds, st1, h1, h2, h3, h4, h5, h6, h7⟩ := h
  refine ⟨_, _, xl_map2 j1 j2 vs hN hK hcm h1 h2 h3 hj h4 h5 (fun i d v q1 q2 => ?_) hx hy hlx hlxf hly hlyf ok hs hst, h7⟩
  obtain ⟨u, w, rfl, z⟩ := h6 i d v q1 q2
  refine ⟨u, w, rfl, fun sh H C cl fp => ?_⟩
  obtain ⟨d', s', z1, rfl, rfl⟩ := z sh H C cl fp
  exact z1
/-- name = [elt for x in iter] -/
theorem ws_map1 (k : Nat) (own? : Bool) (jx : Nat) (vs : List Dt) {x y : Str} {py spos : Pos} {p : Pos} {scope : Scope} {Q : Out → Prop} (hN : X.N.Nodup)
    (h : WI c X (.Name x p) iter st fun ds st1 => vs.length = ds.length ∧ ds.length ≤ 100000 ∧ st1[jx]? = some none ∧ (∀ (i : Nat) d v, ds[i]? = some d → vs[i]? = some v → ∀ sh H C cl fp, WE c (BlkC X sh H scope C cl fp) elt (st1.set jx (some (.fr d))) (Gv v (st1.set jx (some (.fr d))))) ∧ WS c X rest (st1.set k (some (if own? = true then .ow vs else .fr (.lst vs)))) Q)
    (hx : X.N[jx]? = some x := by rfl) (hloc : Loc (relabel scope X.env) x := by first | exact Or.inl rfl | exact Or.inr rfl) (hlocf : (scope.names.lookup x == some .cell) = true ∨ (relabel scope X.env).names.lookup x = some .local := by first | exact Or.inl rfl | exact Or.inr rfl) (ok : BlkOk X.N X.env.scope scope [(x, jx)] := by exact blkOk_by (by first | rfl | decide +kernel))
    (hy0 : X.N[k]? = some y := by rfl) (hyl : X.env.scope.names.lookup y = some .local := by rfl) (hsw : swapsWith (.ListComp elt [⟨.Name x p, iter, [], 0⟩] scope pos) (some (.Name y py)) spos.line X.env = pure true := by exact sw_true rfl rfl rfl (by first | rfl | decide +kernel))
    (hc : X.calm = true := by rfl) (hs : ∀ x, foldedSetIterable iter X.env x = pure x := by intro _; rfl) :
    WS c X (.Assign [.Name y py] (.ListComp elt [⟨.Name x p, iter, [], 0⟩] scope pos) spos :: rest) st Q := by
  obtain ⟨ds, st1, h1, h2, h3, h4, h5, o, h6, h7⟩ := h
  refine ⟨o, xs_cons (xp_map1 k own? jx vs hN h1 h2 h3 h4 (fun i d v q1 q2 sh H C cl fp => ?_) hx hloc hlocf ok hy0 hyl hsw hc hs) h6, h7⟩
  obtain ⟨d', s', z1, rfl, rfl⟩ := h5 i d v q1 q2 sh H C cl fp
  exact z1
theorem ws_map2 (k : Nat) (own? : Bool) (j1 j2 : Nat) (vs : List Dt) {x y z : Str} {py spos : Pos} {p p1 p2 : Pos} {kk : Nat} {scope : Scope} {Q : Out → Prop} (hN : X.N.Nodup) (hK : X.K = c.K) (hcm : X.calm = true)
    (h : WI c X (.Tuple [.Name x p1, .Name y p2] kk p) iter st fun ds st1 => vs.length = ds.length ∧ ds.length ≤ 100000 ∧ st1[j1]? = some none ∧ st1[j2]? = some none ∧
      (∀ (i : Nat) d v, ds[i]? = some d → vs[i]? = some v → ∃ u w, d = .tup [u, w] ∧ ∀ sh H C cl fp, WE c (BlkC X sh H scope C cl fp) elt ((st1.set j1 (some (.fr u))).set j2 (some (.fr w))) (Gv v ((st1.set j1 (some (.fr u))).set j2 (some (.fr w))))) ∧ WS c X rest (st1.set k (some (if own? = true then .ow vs else .fr (.lst vs)))) Q) (hj : j1 ≠ j2 := by decide)
    (hx : X.N[j1]? = some x := by rfl) (hy : X.N[j2]? = some y := by rfl) (hlx : Loc (relabel scope X.env) x := by first | exact Or.inl rfl | exact Or.inr rfl) (hlxf : (scope.names.lookup x == some .cell) = true ∨ (relabel scope X.env).names.lookup x = some .local := by first | exact Or.inl rfl | exact Or.inr rfl) (hly : Loc (relabel scope X.env) y := by first | exact Or.inl rfl | exact Or.inr rfl) (hlyf : (scope.names.lookup y == some .cell) = true ∨ (relabel scope X.env).names.lookup y = some .local := by first | exact Or.inl rfl | exact Or.inr rfl) (ok : BlkOk X.N X.env.scope scope [(x, j1), (y, j2)] := by exact blkOk_by (by first | rfl | decide +kernel))
    (hy0 : X.N[k]? = some z := by rfl) (hyl : X.env.scope.names.lookup z = some .local := by rfl) (hsw : swapsWith (.ListComp elt [⟨.Tuple [.Name x p1, .Name y p2] kk p, iter, [], 0⟩] scope pos) (some (.Name z py)) spos.line X.env = pure true := by exact sw_true rfl rfl rfl (by first | rfl | decide +kernel))
    (hs : ∀ x, foldedSetIterable iter X.env x = pure x := by intro _; rfl) (hst : ∀ env, (assignEach [.Name x p1, .Name y p2] env).map (·.2) = [assign (.Name x p1) env, assign (.Name y p2) env] := by intro _; rfl) :
    WS c X (.Assign [.Name z py] (.ListComp elt [⟨.Tuple [.Name x p1, .Name y p2] kk p, iter, [], 0⟩] scope pos) spos :: rest) st Q := by
  obtain ⟨ds, st1, h1, h2, h3, h4, h5, h6, o, h7, h8⟩ := h
  refine ⟨o, xs_cons (xp_map2 k own? j1 j2 vs hN hK hcm h1 h2 h3 hj h4 h5 (fun i d v q1 q2 => ?_) hx hy hlx hlxf hly hlyf ok hy0 hyl hsw hs hst) h7, h8⟩
  obtain ⟨u, w, rfl, z⟩ := h6 i d v q1 q2
  refine ⟨u, w, rfl, fun sh H C cl fp => ?_⟩
  obtain ⟨d', s', z1, rfl, rfl⟩ := z sh H C cl fp
  exact z1
end
end Dv
set_option autoImplicit false
set_option maxRecDepth 100000
set_option maxHeartbeats 4000000
namespace Dv
open PySem PySem.Spec PyProof.Rows L2
/-! ### defs from their bodies, read forward -/
def RtD (r : Dt) : Out → Prop
  | .rt d _ => d = r
  | .nx _ => .non = r
  | _ => False
def RtM (r : Dt) (ys : List Dt) : Out → Prop
  | .rt d st => d = r ∧ st[0]? = some (some (.pr 0 ys))
  | _ => False
def NxI (n : Nat) (fs : List Dt) : Out → Prop
  | .nx st => st[0]? = some (some (.bo n fs))
  | _ => False
section
variable {P : Program} {w : World} {K : PySem.W.Frag} {T : Ct} {mg : Str → Option Value} {base : Heap} {x qual : Str} {sd : Stmt} {f : Addr} {fd : FuncData} {N ps : List Str} {k n : Nat}
theorem okDw {R : List Dt → Dt → Prop} (F : Fun K x qual sd f fd) (S : FnScope N ps (defScope sd)) (hl : ∀ ds r, R ds r → ds.length = ps.length)
    (body : ∀ (cdv : Value) (A : Around) (outer : List Env) (s : Shared) (H : Hp) (E : XK) (pa : Nat → Addr) (ds : List Dt) (r : Dt), Room k (A.deeper (envOfC qual (defScope sd) s.heap.objs.size f cdv)) → R ds r →
      WS ⟨K, T, pa⟩ (bX P w K mg base N qual sd f cdv A outer s H E) (defBody sd) (st0 N ds) (RtD r)) : FnOk P w K mg base CX0 (k + 1) f fd ps (spD K T R) :=
  okD F S hl fun cdv A outer s H E pa ds r hr hR => by
    obtain ⟨o, h1, h2⟩ := body cdv A outer s H E pa ds r hr hR
    refine ⟨o, h1, ?_⟩
    cases o with
    | rt d st => cases h2; exact .inl ⟨st, rfl⟩
    | nx st => cases h2; exact .inr ⟨rfl, st, rfl⟩
    | bk st => exact h2.elim
    | ct st => exact h2.elim
    | rl xs => exact h2.elim
    | rq ds' j st => exact h2.elim
theorem okMw {R : List Dt → List Dt → Dt → List Dt → Prop} (F : Fun K x qual sd f fd) (S : FnScope N ps (defScope sd)) (hl : ∀ xs ds r ys, R xs ds r ys → ds.length + 1 = ps.length)
    (body : ∀ (cdv : Value) (A : Around) (outer : List Env) (s : Shared) (H : Hp) (E : XK) (pa : Nat → Addr) (xs ds : List Dt) (r : Dt) (ys : List Dt), Room k (A.deeper (envOfC qual (defScope sd) s.heap.objs.size f cdv)) → R xs ds r ys →
      WS ⟨K, T, pa⟩ (bX P w K mg base N qual sd f cdv A outer s H E) (defBody sd) (st0M N xs ds) (RtM r ys)) : FnOk P w K mg base CX0 (k + 1) f fd ps (spM K T R) :=
  okM F S hl fun cdv A outer s H E pa xs ds r ys hr hR => by
    obtain ⟨o, h1, h2⟩ := body cdv A outer s H E pa xs ds r ys hr hR
    cases o with
    | rt d st => obtain ⟨rfl, q⟩ := h2; exact ⟨st, h1, q⟩
    | nx st => exact h2.elim
    | bk st => exact h2.elim
    | ct st => exact h2.elim
    | rl xs => exact h2.elim
    | rq ds' j st => exact h2.elim
theorem okIw {C : Addr} {ns : List Str} {Rf : List Dt → List Dt → Prop} (F : Fun K x qual sd f fd) (S : FnScope N ps (defScope sd)) (hT : T n = some (C, ns)) (hl : ∀ ds fs, Rf ds fs → ds.length + 1 = ps.length) (hlenR : ∀ ds fs, Rf ds fs → fs.length = ns.length)
    (body : ∀ (cdv : Value) (A : Around) (outer : List Env) (s : Shared) (H : Hp) (E : XK) (pa : Nat → Addr) (ds fs : List Dt), Room k (A.deeper (envOfC qual (defScope sd) s.heap.objs.size f cdv)) → Rf ds fs →
      WS ⟨K, T, pa⟩ (bX P w K mg base N qual sd f cdv A outer s H E) (defBody sd) (st0I N n ds) (NxI n fs)) : FnOk P w K mg base CX0 (k + 1) f fd ps (spI K T n Rf) :=
  okI F S hT hl hlenR fun cdv A outer s H E pa ds fs hr hR => by
    obtain ⟨o, h1, h2⟩ := body cdv A outer s H E pa ds fs hr hR
    cases o with
    | nx st => exact ⟨st, h1, h2⟩
    | rt d st => exact h2.elim
    | bk st => exact h2.elim
    | ct st => exact h2.elim
    | rl xs => exact h2.elim
    | rq ds' j st => exact h2.elim
theorem okIDw {C : Addr} {ns : List Str} {Rf : List Dt → List Dt → Prop} {dvs : List V} {kws : List (Str × V)} (F : FunD K x qual (defArgs sd) (defBody sd) (defScope sd) dvs kws f fd) (S : FnScope N ps (defScope sd)) (hT : T n = some (C, ns)) (hl : ∀ ds fs, Rf ds fs → ds.length + 1 = ps.length) (hlenR : ∀ ds fs, Rf ds fs → fs.length = ns.length)
    (body : ∀ (cdv : Value) (A : Around) (outer : List Env) (s : Shared) (H : Hp) (E : XK) (pa : Nat → Addr) (ds fs : List Dt), Room k (A.deeper (envOfC qual (defScope sd) s.heap.objs.size f cdv)) → Rf ds fs →
      WS ⟨K, T, pa⟩ (bX P w K mg base N qual sd f cdv A outer s H E) (defBody sd) (st0I N n ds) (NxI n fs)) : FnOk P w K mg base CX0 (k + 1) f fd ps (spI K T n Rf) :=
  okID F S hT hl hlenR fun cdv A outer s H E pa ds fs hr hR => by
    obtain ⟨o, h1, h2⟩ := body cdv A outer s H E pa ds fs hr hR
    cases o with
    | nx st => exact ⟨st, h1, h2⟩
    | rt d st => exact h2.elim
    | bk st => exact h2.elim
    | ct st => exact h2.elim
    | rl xs => exact h2.elim
    | rq ds' j st => exact h2.elim
end
def RtL (xs : List Dt) : Out → Prop
  | .rl ys => ys = xs
  | _ => False
section
variable {P : Program} {w : World} {K : PySem.W.Frag} {T : Ct} {mg : Str → Option Value} {base : Heap} {x qual : Str} {sd : Stmt} {f : Addr} {fd : FuncData} {N ps : List Str} {k n : Nat}
/-- a def that hands out a list of the caller's own -/
theorem okLw {R : List Dt → List Dt → Prop} (F : Fun K x qual sd f fd) (S : FnScope N ps (defScope sd)) (hl : ∀ ds r, R ds r → ds.length = ps.length)
    (body : ∀ (cdv : Value) (A : Around) (outer : List Env) (s : Shared) (H : Hp) (E : XK) (pa : Nat → Addr) (ds xs : List Dt), Room k (A.deeper (envOfC qual (defScope sd) s.heap.objs.size f cdv)) → R ds xs →
      WS ⟨K, T, pa⟩ (bX P w K mg base N qual sd f cdv A outer s H E) (defBody sd) (st0 N ds) (RtL xs)) : FnOk P w K mg base CX0 (k + 1) f fd ps (spL K T R) := by
  refine F.ok S (fun vs H Q E h => ?_) (fun cdv A outer s H vs Q E hr h => ?_)
  · obtain ⟨G, ds, xs, e, rs, hR, _⟩ := h
    rw [← rs.length]; exact hl ds xs hR
  · obtain ⟨G, ds, xs, e, rs, hR, kk⟩ := h
    obtain ⟨o, hb, ho⟩ := body cdv A outer s H E (fun _ => 0) ds xs hr hR
    cases o with
    | rl ys =>
      cases ho
      exact ⟨_, hb.pss, G, En.start e rs, fun p ws G' H' g E' hp hn h1 r => kk p ws G' H' (g.fromO fun p h => own_start h) E' (hp.elim id fun z => (own_start z).elim) hn h1 r⟩
    | rt d st => exact ho.elim
    | rq ds' j st => exact ho.elim
    | nx st => exact ho.elim
    | bk st => exact ho.elim
    | ct st => exact ho.elim
end
end Dv
set_option autoImplicit false
set_option maxRecDepth 100000
set_option maxHeartbeats 4000000
set_option exponentiation.threshold 100000
/-! numbers, vectors, matrices as data; sums; sizes over a common denominator -/
namespace Dv
open PySem PySem.Spec PyProof.Rows L2 Mq
def slot (g : Nat → Dt) : Nat → Option Sv
  | 0 => none
  | i + 1 => some (.fr (g i))
theorem bits64 {i : Int} (h : -2 ^ 64 < i) (h' : i < 2 ^ 64) : Builtin.Int.intBits i ≤ 64 := intBits_le_64 h h'
def dR (q : Rat) : Dt := .obj 0 [.int q.num, .int q.den]
def dVc (n : Nat) (f : Nat → Rat) : Dt := .tup (rg n fun j => dR (f j))
def dLc (n : Nat) (f : Nat → Rat) : Dt := .lst (rg n fun j => dR (f j))
def dMx (h n : Nat) (g : Nat → Nat → Rat) : Dt := .obj 1 [.tup (rg h fun i => dVc n (g i)), .int n]
def dA (l : List Nat) : Dt := .obj 2 [.str (sx l)]
def dMs (L n : Nat) (M : Nat → Nat → Nat → Rat) : List Dt := rg L fun k => dMx n n (M k)
def dW (l : List Nat) (n : Nat) (r : Nat → Rat) (M : Nat → Nat → Nat → Rat) (cl : Nat → Rat) : Dt := .obj 3 [dA l, dVc n r, .tup (dMs l.length n M), dVc n cl]
theorem vc_ext {n : Nat} {f g : Nat → Rat} (h : ∀ j, j < n → f j = g j) : dVc n f = dVc n g := by
  unfold dVc; rw [rg_ext fun j hj => by rw [h j hj]]
theorem lc_ext {n : Nat} {f g : Nat → Rat} (h : ∀ j, j < n → f j = g j) : dLc n f = dLc n g := by
  unfold dLc; rw [rg_ext fun j hj => by rw [h j hj]]
theorem mx_ext {h n : Nat} {f g : Nat → Nat → Rat} (e : ∀ i j, i < h → j < n → f i j = g i j) : dMx h n f = dMx h n g := by
  unfold dMx; rw [rg_ext fun i hi => vc_ext fun j hj => e i j hi hj]
theorem dW_ext {l : List Nat} {n : Nat} {r r' c c' : Nat → Rat} {M M' : Nat → Nat → Nat → Rat} (h1 : ∀ j, j < n → r j = r' j) (h2 : ∀ k i j, k < l.length → i < n → j < n → M k i j = M' k i j) (h3 : ∀ j, j < n → c j = c' j) : dW l n r M c = dW l n r' M' c' := by
  unfold dW dMs
  rw [vc_ext h1, vc_ext h3, rg_ext fun k hk => mx_ext fun i j hi hj => h2 k i j hk hi hj]
/-! ### sums -/
def sumTo (f : Nat → Rat) : Nat → Rat
  | 0 => 0
  | n + 1 => sumTo f n + f n
def sumL : List Rat → Rat
  | [] => 0
  | q :: qs => q + sumL qs
theorem sumTo_ext {f g : Nat → Rat} : ∀ {n : Nat}, (∀ i, i < n → f i = g i) → sumTo f n = sumTo g n
  | 0, _ => rfl
  | n + 1, h => by show sumTo f n + f n = sumTo g n + g n; rw [sumTo_ext (fun i hi => h i (by omega)), h n (by omega)]
theorem sumTo_zero {f : Nat → Rat} : ∀ {n : Nat}, (∀ i, i < n → f i = 0) → sumTo f n = 0
  | 0, _ => rfl
  | n + 1, h => by show sumTo f n + f n = 0; rw [sumTo_zero fun i hi => h i (by omega), h n (by omega), Rat.add_zero]
theorem sumTo_add (f g : Nat → Rat) : ∀ n, sumTo (fun i => f i + g i) n = sumTo f n + sumTo g n
  | 0 => (Rat.add_zero 0).symm
  | n + 1 => by
    show sumTo (fun i => f i + g i) n + (f n + g n) = (sumTo f n + f n) + (sumTo g n + g n)
    rw [sumTo_add f g n, Rat.add_assoc, Rat.add_assoc, ← Rat.add_assoc (sumTo g n), Rat.add_comm (sumTo g n) (f n), Rat.add_assoc]
theorem sumTo_mul (a : Rat) (f : Nat → Rat) : ∀ n, sumTo (fun i => a * f i) n = a * sumTo f n
  | 0 => (Rat.mul_zero a).symm
  | n + 1 => by show sumTo (fun i => a * f i) n + a * f n = a * (sumTo f n + f n); rw [sumTo_mul a f n, Rat.mul_add]
theorem sumTo_mulr (a : Rat) (f : Nat → Rat) : ∀ n, sumTo (fun i => f i * a) n = sumTo f n * a
  | 0 => (Rat.zero_mul a).symm
  | n + 1 => by show sumTo (fun i => f i * a) n + f n * a = (sumTo f n + f n) * a; rw [sumTo_mulr a f n, Rat.add_mul]
theorem sumTo_swap (f : Nat → Nat → Rat) (m : Nat) : ∀ n, sumTo (fun i => sumTo (fun j => f i j) m) n = sumTo (fun j => sumTo (fun i => f i j) n) m
  | 0 => (sumTo_zero fun _ _ => rfl).symm
  | n + 1 => by
    show sumTo (fun i => sumTo (fun j => f i j) m) n + sumTo (fun j => f n j) m = sumTo (fun j => sumTo (fun i => f i j) n + f n j) m
    rw [sumTo_swap f m n, sumTo_add]
theorem sumTo_app (f : Nat → Rat) (m : Nat) : ∀ n, sumTo f (m + n) = sumTo f m + sumTo (fun i => f (m + i)) n
  | 0 => (Rat.add_zero _).symm
  | n + 1 => by
    show sumTo f (m + n) + f (m + n) = sumTo f m + (sumTo (fun i => f (m + i)) n + f (m + n))
    rw [sumTo_app f m n, Rat.add_assoc]
theorem sumTo_one {f : Nat → Rat} {k : Nat} : ∀ {n : Nat}, k < n → (∀ i, i < n → i ≠ k → f i = 0) → sumTo f n = f k
  | n + 1, hk, h => by
    by_cases q : k = n
    · subst q
      show sumTo f k + f k = f k
      rw [sumTo_zero fun i hi => h i (by omega) (by omega), Rat.zero_add]
    · show sumTo f n + f n = f k
      rw [sumTo_one (by omega) fun i hi ne => h i (by omega) ne, h n (by omega) (fun e => q e.symm), Rat.add_zero]
theorem sumL_app : ∀ a b : List Rat, sumL (a ++ b) = sumL a + sumL b
  | [], b => (Rat.zero_add _).symm
  | x :: a, b => by show x + sumL (a ++ b) = x + sumL a + sumL b; rw [sumL_app a b, Rat.add_assoc]
theorem sumL_rg (f : Nat → Rat) : ∀ n, sumL ((List.range n).map f) = sumTo f n
  | 0 => rfl
  | n + 1 => by rw [List.range_succ, List.map_append, sumL_app, sumL_rg f n]; show _ + (f n + 0) = _; rw [Rat.add_zero]; rfl
/-! ### numbers over one denominator -/
def Hd (D m : Nat) (q : Rat) : Prop := ∃ z : Int, z.natAbs ≤ m ∧ q = Rat.divInt z D
theorem Hd.mono {D m m' : Nat} {q : Rat} (h : Hd D m q) (l : m ≤ m') : Hd D m' q := let ⟨z, a, b⟩ := h; ⟨z, Nat.le_trans a l, b⟩
theorem Hd.zero {D m : Nat} : Hd D m 0 := ⟨0, Nat.zero_le _, (Rat.zero_divInt _).symm⟩
theorem Hd.mul {D D' m m' : Nat} {a b : Rat} (h0 : 0 < D) (h0' : 0 < D') (h : Hd D m a) (h' : Hd D' m' b) : Hd (D * D') (m * m') (a * b) := by
  obtain ⟨z, a1, rfl⟩ := h
  obtain ⟨z', b1, rfl⟩ := h'
  refine ⟨z * z', by rw [Int.natAbs_mul]; exact Nat.mul_le_mul a1 b1, ?_⟩
  rw [Rat.divInt_mul_divInt, Int.natCast_mul]
theorem Hd.add {D m m' : Nat} {a b : Rat} (h0 : 0 < D) (h : Hd D m a) (h' : Hd D m' b) : Hd D (m + m') (a + b) := by
  obtain ⟨z, a1, rfl⟩ := h
  obtain ⟨z', b1, rfl⟩ := h'
  have hd : (D : Int) ≠ 0 := by omega
  refine ⟨z + z', by omega, ?_⟩
  rw [Rat.divInt_add_divInt _ _ hd hd]
  refine (Rat.divInt_eq_divInt_iff (Int.mul_ne_zero hd hd) hd).mpr ?_
  rw [Int.add_mul, Int.add_mul, Int.mul_assoc, Int.mul_assoc]
theorem Hd.neg {D m : Nat} {a : Rat} (h : Hd D m a) : Hd D m (-a) := by
  obtain ⟨z, a1, rfl⟩ := h
  exact ⟨-z, by rw [Int.natAbs_neg]; exact a1, by rw [Rat.neg_divInt]⟩
theorem Hd.sum {D m : Nat} {f : Nat → Rat} : ∀ n, 0 < D → (∀ i, i < n → Hd D m (f i)) → Hd D (n * m) (sumTo f n)
  | 0, _, _ => Hd.zero
  | n + 1, h0, h => by
    have := (Hd.sum n h0 fun i hi => h i (by omega)).add h0 (h n (by omega))
    rw [Nat.add_mul, Nat.one_mul]
    exact this
theorem Hd.sumL {D m : Nat} : ∀ qs : List Rat, 0 < D → (∀ q ∈ qs, Hd D m q) → Hd D (qs.length * m) (sumL qs)
  | [], _, _ => Hd.zero
  | q :: qs, h0, h => by
    have := (h q List.mem_cons_self).add h0 (Hd.sumL qs h0 fun x hx => h x (List.mem_cons_of_mem _ hx))
    rw [List.length_cons, Nat.add_mul, Nat.one_mul, Nat.add_comm]
    exact this
theorem Hd.scale {D m : Nat} {q : Rat} (e : Nat) (h0 : 0 < D) (he : 0 < e) (h : Hd D m q) : Hd (D * e) (m * e) q := by
  obtain ⟨z, a1, rfl⟩ := h
  refine ⟨z * e, by rw [Int.natAbs_mul]; exact Nat.mul_le_mul a1 (Nat.le_refl _), ?_⟩
  rw [Int.natCast_mul]
  exact (Rat.divInt_eq_divInt_iff (by omega) (Int.mul_ne_zero (by omega) (by omega))).mpr (by rw [Int.mul_assoc, Int.mul_comm (D : Int) e])
theorem Hd.sz {D m k : Nat} {q : Rat} (h0 : 0 < D) (h : Hd D m q) (hm : m < 2 ^ k) (hD : D < 2 ^ k) : Sz k q := by
  obtain ⟨z, a1, rfl⟩ := h
  exact divInt_sz (by omega) (by omega) (by simpa using hD)
theorem hd_int {f : Int} {m : Nat} (h : f.natAbs ≤ m) : Hd 1 m (f : Rat) := ⟨f, h, by
  have := self_q (f : Rat)
  rw [Rat.num_intCast, Rat.den_intCast] at this
  exact this.symm⟩
/-- the numbers of a vector and a matrix over one denominator -/
def HV (D m n : Nat) (x : Nat → Rat) : Prop := ∀ i, i < n → Hd D m (x i)
def HM (D m h n : Nat) (g : Nat → Nat → Rat) : Prop := ∀ i j, i < h → j < n → Hd D m (g i j)
end Dv
set_option autoImplicit false
set_option maxRecDepth 100000
namespace Dv
open PySem PySem.Spec PyProof.Rows L2
/-! ### is and is not between truth values -/
section
variable {c : Ctx} {X : Cx} {st st1 st2 : Store} {a b : PySem.Expr} {pos : PySem.Pos} {t u r : Bool}
theorem o_isB : Op2 c (.bl t) (.bl u) (.bl (decide (t = u))) L2.rIsB := fun G H x y Q ex r1 r2 kk => by
  cases r1
  cases r2
  exact ⟨t, u, rfl, rfl, kv_same kk ex .bl⟩
theorem o_notB : Op2 c (.bl t) (.bl u) (.bl (!decide (t = u))) L2.rNotB := fun G H x y Q ex r1 r2 kk => by
  cases r1
  cases r2
  exact ⟨t, u, rfl, rfl, kv_same kk ex .bl⟩
theorem xd_isB (ha : XD c X a st (.bl t) st1) (hb : XD c X b st1 (.bl u) st2) (h : decide (t = u) = r) : XD c X (.Compare a [.Is] [b] pos) st (.bl r) st2 := by
  subst h; exact xd_cmp ha hb op_isBl o_isB (nomark _)
theorem xt_notB (ha : XD c X a st (.bl t) st1) (hb : XD c X b st1 (.bl u) st2) (h : (!decide (t = u)) = r) : XT c X (.Compare a [.IsNot] [b] pos) st r st2 := by
  subst h; exact xt_cmp ha hb op_notBl o_notB (nomark _)
end
end Dv
set_option autoImplicit false
set_option maxRecDepth 100000
namespace Dv
open PySem PySem.Spec PyProof.Rows L2
/-! ### the truth of a list or a tuple -/
section
variable {c : Ctx} {X : Cx} {st st1 : Store} {e : PySem.Expr} {d : Dt} {ds : List Dt} {t : Bool}
theorem reps_empty {K : PySem.W.Frag} {T : Ct} {G : Hp} : ∀ {ds : List Dt} {vs : List V}, Reps K T G ds vs → vs.isEmpty = ds.isEmpty
  | _, _, .nil => rfl
  | _, _, .cons _ _ => rfl
theorem xt_tru (hK : X.K = c.K) (h : XD c X e st d st1) (hd : d = .lst ds ∨ d = .tup ds) (ht : (!ds.isEmpty) = t)
    (he : ∀ whole, isTrue e X.env whole = (do let v ← whole; standAt e.pos; holding [v] (truthy v)) := by intro _; rfl) : XT c X e st t st1 :=
  ⟨pt_weak (pt_truth h.pe he) fun σ H Q ⟨G, E, k⟩ => ⟨G, E, fun x G1 H1 g1 E1 r1 => by
    refine ⟨t, ?_, k G1 H1 g1 E1⟩
    rw [← ht, hK]
    rcases hd with rfl | rfl
    · obtain ⟨a, vs, rfl, h1, h2⟩ := r1.lst_inv
      exact .inl ⟨vs, .inl (.inl (E1.ex _ _ h1)), by rw [reps_empty h2]⟩
    · obtain ⟨a, vs, rfl, h1, h2⟩ := r1.tup_inv
      exact .inr (.inl ⟨vs, E1.ex.st h1, by rw [reps_empty h2]⟩)⟩⟩
end
end Dv
set_option autoImplicit false
set_option maxRecDepth 100000
set_option maxHeartbeats 4000000
namespace Dv
open PySem PySem.Spec PyProof.Rows L2
section
variable {c : Ctx} {X : Cx} {st st1 st2 st3 : Store} {a b e e2 tg iter elt t : Expr} {es : List Expr} {d d1 d2 d3 d' : Dt} {ds xs ys zs fs gs vs : List Dt} {pos : Pos} {i j : Int} {body rest orelse A B : List Stmt} {s : Stmt} {o : Out} {n k m : Nat} {l l' : List Nat}
/-! ### own lists looked at -/
theorem we_view {Q : Dt → Store → Prop} (h : WE c X e (fz st) fun d _ => d.scal = true ∧ Q d st) : WE c X e st Q := by
  obtain ⟨d, st1, h1, h2, h3⟩ := h
  exact ⟨d, st, xd_view h1 h2, h3⟩
theorem wt_view {Q : Bool → Store → Prop} (h : WT c X e (fz st) fun r _ => Q r st) : WT c X e st Q := by
  obtain ⟨r, st1, h1, h2⟩ := h
  exact ⟨r, st, xt_view h1, h2⟩
theorem wt_tru {Q : Bool → Store → Prop} (hK : X.K = c.K) (h : WE c X e st fun d st1 => ∃ ds, (d = .lst ds ∨ d = .tup ds) ∧ Q (!ds.isEmpty) st1)
    (he : ∀ whole, isTrue e X.env whole = (do let v ← whole; standAt e.pos; holding [v] (truthy v)) := by intro _; rfl) : WT c X e st Q := by
  obtain ⟨d, st1, h1, ds, h2, h3⟩ := h
  exact ⟨_, _, xt_tru hK h1 h2 rfl he, h3⟩
/-! ### pop -/
theorem xd_popAt (i : Nat) {s : Sv} {x : Str} {p1 apos cpos : Pos} {q : Int} {m : Nat} (he : XD c X e st (.int q) st1) (hK : X.K = c.K) (hi : st[i]? = some (some s)) (hi1 : st1[i]? = some (some s)) (hs : s.Has xs) (hq0 : -(2 ^ 63) ≤ q) (hq1 : q < 2 ^ 63) (hq : seqIndex? q xs.length = some m) (hd0 : xs[m]? = some d) (hN : X.N[i]? = some x := by rfl) (hv : Vis X.env.scope x := by first | exact Or.inl rfl | exact Or.inr (Or.inl rfl) | exact Or.inr (Or.inr rfl)) (hd : (x == ("__debug__" : Str)) = false := by decide)
    (hcd : (x == ("__classdict__" : Str)) = false := by decide) (hline : (apos.endLine == cpos.line) = true := by rfl) (hb : attributeBase (.Name x p1) "pop" X.env (eval (.Name x p1) X.env) = eval (.Name x p1) X.env := by rfl)
    (hfew : ((backTo cpos (starEach (e :: []) X.env)).all (fun x => !x.1) && (backToKw cpos (keywordEach [] X.env)).all (fun x => x.1.isSome)
      && decide ((e :: []).length + ([] : List Keyword).length + (if ([] : List Keyword).isEmpty then 0 else 1) < 30)) = true := by rfl) (hst : starEach (e :: []) X.env = (false, eval e X.env) :: starEach [] X.env := by rfl) :
    XD c X (.Call (.Attribute (.Name x p1) "pop" apos) [e] [] cpos) st d (st1.set i (some (s.with (xs.eraseIdx m)))) :=
  ⟨pe_weak (pe_bm PySem.F.plainAttrs_list PySem.F.slot_list_pop PySem.F.type_list_pop mt_popAt (pe_var hN hv hd hcd) (pa_cons he.pe pa_nil hst) hb hfew hline hst) fun σ H Q ⟨G, E, k⟩ => by
    obtain ⟨a, vs, z1, z2, z3, z4, z5, z6⟩ := E.at hi hs
    refine ⟨_, z1, .inl ⟨rfl, vs, by rw [hK]; exact SqL.of z3⟩, G, E, fun v G1 H1 g1 E1 r1 => ?_⟩
    obtain ⟨a', ws, y1, y2, y3, y4, y5, y6⟩ := E1.at hi1 hs
    rw [z1] at y1
    cases y1
    cases r1
    obtain ⟨u, u1, u2⟩ := y4.get hd0
    refine ⟨a, ws, q, m, u, rfl, rfl, y3, hq0, hq1, by rw [← y4.length]; exact hq, u1, ?_⟩
    obtain ⟨g2, e2⟩ := gr_upd (a := a) (o := .lst (ws.eraseIdx m)) E1.ex y2 (by rw [y3]; simp)
    have rr : Reps c.K c.T G1 (xs.eraseIdx m) (ws.eraseIdx m) := by
      rw [List.eraseIdx_eq_take_drop_succ, List.eraseIdx_eq_take_drop_succ]
      exact (y4.take m).app (y4.drop (m + 1))
    obtain ⟨E3, g3⟩ := E1.mut hi1 hs z1 g2 e2 y2 upd_same rr
    exact k _ _ _ (g1.trans g3) E3 (u2.ex (Ex.refl _))⟩
theorem we_popAt (i : Nat) {s : Sv} {x : Str} {p1 apos cpos : Pos} {Q : Dt → Store → Prop} (hi : st[i]? = some (some s)) (hK : X.K = c.K) (h : WE c X e st fun d0 st1 => ∃ (q : Int) (m : Nat) (xs : List Dt) (d : Dt), d0 = .int q ∧ st1[i]? = some (some s) ∧ s.Has xs ∧ -(2 ^ 63) ≤ q ∧ q < 2 ^ 63 ∧ seqIndex? q xs.length = some m ∧ xs[m]? = some d ∧ Q d (st1.set i (some (s.with (xs.eraseIdx m))))) (hN : X.N[i]? = some x := by rfl) (hv : Vis X.env.scope x := by first | exact Or.inl rfl | exact Or.inr (Or.inl rfl) | exact Or.inr (Or.inr rfl)) (hd : (x == ("__debug__" : Str)) = false := by decide)
    (hcd : (x == ("__classdict__" : Str)) = false := by decide) (hline : (apos.endLine == cpos.line) = true := by rfl) (hb : attributeBase (.Name x p1) "pop" X.env (eval (.Name x p1) X.env) = eval (.Name x p1) X.env := by rfl)
    (hfew : ((backTo cpos (starEach (e :: []) X.env)).all (fun x => !x.1) && (backToKw cpos (keywordEach [] X.env)).all (fun x => x.1.isSome)
      && decide ((e :: []).length + ([] : List Keyword).length + (if ([] : List Keyword).isEmpty then 0 else 1) < 30)) = true := by rfl) (hst : starEach (e :: []) X.env = (false, eval e X.env) :: starEach [] X.env := by rfl) :
    WE c X (.Call (.Attribute (.Name x p1) "pop" apos) [e] [] cpos) st Q := by
  obtain ⟨d0, st1, h1, q, m, xs, d, rfl, h3, h4, h5, h6, h7, h8, h9⟩ := h
  exact ⟨_, _, xd_popAt i h1 hK hi h3 h4 h5 h6 h7 h8 hN hv hd hcd hline hb hfew hst, h9⟩
theorem xd_pop0 (i : Nat) {s : Sv} {x : Str} {p1 apos cpos : Pos} (hK : X.K = c.K) (hi : st[i]? = some (some s)) (hs : s.Has xs) (hd0 : xs[xs.length - 1]? = some d) (hN : X.N[i]? = some x := by rfl) (hv : Vis X.env.scope x := by first | exact Or.inl rfl | exact Or.inr (Or.inl rfl) | exact Or.inr (Or.inr rfl)) (hd : (x == ("__debug__" : Str)) = false := by decide)
    (hcd : (x == ("__classdict__" : Str)) = false := by decide) (hline : (apos.endLine == cpos.line) = true := by rfl) (hb : attributeBase (.Name x p1) "pop" X.env (eval (.Name x p1) X.env) = eval (.Name x p1) X.env := by rfl) :
    XD c X (.Call (.Attribute (.Name x p1) "pop" apos) [] [] cpos) st d (st.set i (some (s.with xs.dropLast))) :=
  ⟨pe_weak (pe_bm0 PySem.F.plainAttrs_list PySem.F.slot_list_pop PySem.F.type_list_pop mt_pop (pe_var hN hv hd hcd) hb hline) fun σ H Q ⟨G, E, k⟩ => by
    obtain ⟨a, vs, z1, z2, z3, z4, z5, z6⟩ := E.at hi hs
    obtain ⟨u, u1, u2⟩ := z4.get hd0
    refine ⟨_, z1, .inl ⟨rfl, vs, by rw [hK]; exact SqL.of z3⟩, a, vs, u, rfl, rfl, z3, by rw [← z4.length]; exact u1, ?_⟩
    obtain ⟨g2, e2⟩ := gr_upd (a := a) (o := .lst vs.dropLast) E.ex z2 (by rw [z3]; simp)
    have rr : Reps c.K c.T G xs.dropLast vs.dropLast := by
      rw [List.dropLast_eq_take, List.dropLast_eq_take, z4.length]
      exact z4.take _
    obtain ⟨E3, g3⟩ := E.mut hi hs z1 g2 e2 z2 upd_same rr
    exact k _ _ _ g3 E3 (u2.ex (Ex.refl _))⟩
theorem we_pop0 (i : Nat) {s : Sv} {x : Str} {p1 apos cpos : Pos} {Q : Dt → Store → Prop} (hi : st[i]? = some (some s)) (hK : X.K = c.K) (hs : s.Has xs) (hd0 : xs[xs.length - 1]? = some d) (h : Q d (st.set i (some (s.with xs.dropLast)))) (hN : X.N[i]? = some x := by rfl) (hv : Vis X.env.scope x := by first | exact Or.inl rfl | exact Or.inr (Or.inl rfl) | exact Or.inr (Or.inr rfl)) (hd : (x == ("__debug__" : Str)) = false := by decide)
    (hcd : (x == ("__classdict__" : Str)) = false := by decide) (hline : (apos.endLine == cpos.line) = true := by rfl) (hb : attributeBase (.Name x p1) "pop" X.env (eval (.Name x p1) X.env) = eval (.Name x p1) X.env := by rfl) :
    WE c X (.Call (.Attribute (.Name x p1) "pop" apos) [] [] cpos) st Q := ⟨_, _, xd_pop0 i hK hi hs hd0 hN hv hd hcd hline hb, h⟩
/-! ### sum, min, max of whole numbers -/
theorem o_sum {K : PySem.W.Frag} (hK : K = c.K) {ns : List Int} (h : d1 = .lst (ns.map .int)) : OpN c [d1] (.int ns.sum) (rSum K) := fun G H vs Q e r k => by
  subst h
  cases r with
  | cons r rs =>
    cases rs
    obtain ⟨a, ws, rfl, h1, h2⟩ := r.lst_inv
    have := ints_inv h2
    subst this
    exact ⟨a, ns, rfl, by rw [hK]; exact SqL.of (e a _ h1), kv_same k e .int⟩
theorem we_sum {p : Pos} {Q : Dt → Store → Prop} (hc : X.calm = true) (hK : X.K = c.K) (hm : X.mg "sum" = none) (h : WE c X e st fun d st1 => ∃ ns : List Int, d = .lst (ns.map .int) ∧ Q (.int ns.sum) st1) (hg : Gl X "sum" := by rfl) (he : starEach (e :: []) X.env = (false, eval e X.env) :: starEach [] X.env := by rfl) (hpl : (backTo pos (starEach [] X.env)).any (·.1) = false := by rfl) :
    WE c X (.Call (.Name "sum" p) [e] [] pos) st Q := by
  obtain ⟨d, st1, h1, ns, h2, h3⟩ := h
  exact ⟨_, _, xd_callB (xa_cons h1 xa_nil he) (cr_sum hc) (o_sum hK h2) hm (by first | rfl | decide +kernel) hg (by decide) (by decide) he hpl, h3⟩
theorem o_min2 : OpN c [.int i, .int j] (.int (min i j)) (fun xs H Q => ∃ i j, xs = [.int i, .int j] ∧ Q (.int (if j < i then j else i)) H) := fun G H vs Q e r k => by
  cases r with
  | cons r rs => cases rs with
    | cons r' rs' =>
      cases rs'; cases r; cases r'
      refine ⟨i, j, rfl, kv_same k e ?_⟩
      have : (if j < i then j else i) = min i j := by rw [Int.min_def]; split <;> split <;> omega
      rw [this]; exact .int
theorem o_max2 : OpN c [.int i, .int j] (.int (max i j)) (fun xs H Q => ∃ i j, xs = [.int i, .int j] ∧ Q (.int (if j > i then j else i)) H) := fun G H vs Q e r k => by
  cases r with
  | cons r rs => cases rs with
    | cons r' rs' =>
      cases rs'; cases r; cases r'
      refine ⟨i, j, rfl, kv_same k e ?_⟩
      have : (if j > i then j else i) = max i j := by rw [Int.max_def]; split <;> split <;> omega
      rw [this]; exact .int
theorem we_min2 {p : Pos} {Q : Dt → Store → Prop} (hc : X.calm = true) (hm : X.mg "min" = none) (h : WA c X [a, b] st fun ds st1 => ∃ i j : Int, ds = [.int i, .int j] ∧ Q (.int (min i j)) st1) (hg : Gl X "min" := by rfl) (he : starEach (a :: [b]) X.env = (false, eval a X.env) :: starEach [b] X.env := by rfl) (hpl : (backTo pos (starEach [b] X.env)).any (·.1) = false := by rfl) :
    WE c X (.Call (.Name "min" p) [a, b] [] pos) st Q := by
  obtain ⟨ds, st1, h1, i, j, rfl, h3⟩ := h
  exact ⟨_, _, xd_callB h1 (call_min2 hc) o_min2 hm (by first | rfl | decide +kernel) hg (by decide) (by decide) he hpl, h3⟩
theorem we_max2 {p : Pos} {Q : Dt → Store → Prop} (hc : X.calm = true) (hm : X.mg "max" = none) (h : WA c X [a, b] st fun ds st1 => ∃ i j : Int, ds = [.int i, .int j] ∧ Q (.int (max i j)) st1) (hg : Gl X "max" := by rfl) (he : starEach (a :: [b]) X.env = (false, eval a X.env) :: starEach [b] X.env := by rfl) (hpl : (backTo pos (starEach [b] X.env)).any (·.1) = false := by rfl) :
    WE c X (.Call (.Name "max" p) [a, b] [] pos) st Q := by
  obtain ⟨ds, st1, h1, i, j, rfl, h3⟩ := h
  exact ⟨_, _, xd_callB h1 (call_max2 hc) o_max2 hm (by first | rfl | decide +kernel) hg (by decide) (by decide) he hpl, h3⟩
/-! ### comprehensions with a test, and such whose turns change what the names hold -/
/-- a turn with a test: r is what it gives -/
abbrev Fv (c : Ctx) (X : Cx) (elt : Expr) (s : Store) (r : Option Dt) : Bool → Store → Prop := fun b s' => s' = s ∧ ((b = false ∧ r = none) ∨ (b = true ∧ ∃ v, r = some v ∧ WE c X elt s (Gv v s)))
theorem wl_map1F (jx : Nat) (rs : List (Option Dt)) {x : Str} {p : Pos} {scope : Scope} {Q : List Dt → Store → Prop} (hN : X.N.Nodup)
    (h : WI c X (.Name x p) iter st fun ds st1 => rs.length = ds.length ∧ ds.length ≤ 100000 ∧ st1[jx]? = some none ∧
      (∀ (i : Nat) d r, ds[i]? = some d → rs[i]? = some r → ∃ b, ((b = false ∧ r = none) ∨ (b = true ∧ ∃ v, r = some v ∧ ∀ sh H C cl fp, WE c (BlkC X sh H scope C cl fp) elt (st1.set jx (some (.fr d))) (Gv v (st1.set jx (some (.fr d)))))) ∧
        ∀ sh H C cl fp, WT c (BlkC X sh H scope C cl fp) t (st1.set jx (some (.fr d))) (fun b' s' => b' = b ∧ s' = st1.set jx (some (.fr d)))) ∧ Q (collect rs) st1)
    (hx : X.N[jx]? = some x := by rfl) (hloc : Loc (relabel scope X.env) x := by first | exact Or.inl rfl | exact Or.inr rfl) (hlocf : (scope.names.lookup x == some .cell) = true ∨ (relabel scope X.env).names.lookup x = some .local := by first | exact Or.inl rfl | exact Or.inr rfl) (ok : BlkOk X.N X.env.scope scope [(x, jx)] := by exact blkOk_by (by first | rfl | decide +kernel))
    (hc : X.calm = true := by rfl) (hs : ∀ x, foldedSetIterable iter X.env x = pure x := by intro _; rfl) :
    WL c X (.ListComp elt [⟨.Name x p, iter, [t], 0⟩] scope pos) st Q := by
  obtain ⟨ds, st1, h1, h2, h3, h4, h5, h6⟩ := h
  refine ⟨_, _, xl_lc (g := gName jx) (ow := [(x, jx)]) (fun _ => st1) rs hN h1 h2 h3 (fun i _ q hq => by rw [List.mem_singleton.mp hq]; exact h4) (fun i d r q1 q2 => ?_) (fun s H C cl fp => pg_name (X := BlkC X s H scope C cl fp) hN hx hloc hlocf) (by simp) ok hc hs, h6⟩
  obtain ⟨b, hb, ht⟩ := h5 i d r q1 q2
  refine ⟨st1.set jx (some (.fr d)), b, st1.set jx (some (.fr d)), tgt_name, .one fun sh H C cl fp => ?_, ?_⟩
  · obtain ⟨b', s', z1, rfl, rfl⟩ := ht sh H C cl fp
    exact z1
  · rcases hb with ⟨rfl, rfl⟩ | ⟨rfl, v, rfl, z⟩
    · exact .inl ⟨rfl, rfl, (set_none h4 (some (.fr d))).symm⟩
    · refine .inr ⟨rfl, v, st1.set jx (some (.fr d)), rfl, (set_none h4 _).symm, fun sh H C cl fp => ?_⟩
      obtain ⟨d', s', z1, rfl, rfl⟩ := z sh H C cl fp
      exact z1
theorem wl_map2F (j1 j2 : Nat) (rs : List (Option Dt)) {x y : Str} {p p1 p2 : Pos} {kk : Nat} {scope : Scope} {Q : List Dt → Store → Prop} (hN : X.N.Nodup) (hK : X.K = c.K) (hcm : X.calm = true)
    (h : WI c X (.Tuple [.Name x p1, .Name y p2] kk p) iter st fun ds st1 => rs.length = ds.length ∧ ds.length ≤ 100000 ∧ st1[j1]? = some none ∧ st1[j2]? = some none ∧
      (∀ (i : Nat) d r, ds[i]? = some d → rs[i]? = some r → ∃ u w b, d = .tup [u, w] ∧ ((b = false ∧ r = none) ∨ (b = true ∧ ∃ v, r = some v ∧ ∀ sh H C cl fp, WE c (BlkC X sh H scope C cl fp) elt ((st1.set j1 (some (.fr u))).set j2 (some (.fr w))) (Gv v ((st1.set j1 (some (.fr u))).set j2 (some (.fr w)))))) ∧
        ∀ sh H C cl fp, WT c (BlkC X sh H scope C cl fp) t ((st1.set j1 (some (.fr u))).set j2 (some (.fr w))) (fun b' s' => b' = b ∧ s' = (st1.set j1 (some (.fr u))).set j2 (some (.fr w)))) ∧ Q (collect rs) st1) (hj : j1 ≠ j2 := by decide)
    (hx : X.N[j1]? = some x := by rfl) (hy : X.N[j2]? = some y := by rfl) (hlx : Loc (relabel scope X.env) x := by first | exact Or.inl rfl | exact Or.inr rfl) (hlxf : (scope.names.lookup x == some .cell) = true ∨ (relabel scope X.env).names.lookup x = some .local := by first | exact Or.inl rfl | exact Or.inr rfl) (hly : Loc (relabel scope X.env) y := by first | exact Or.inl rfl | exact Or.inr rfl) (hlyf : (scope.names.lookup y == some .cell) = true ∨ (relabel scope X.env).names.lookup y = some .local := by first | exact Or.inl rfl | exact Or.inr rfl) (ok : BlkOk X.N X.env.scope scope [(x, j1), (y, j2)] := by exact blkOk_by (by first | rfl | decide +kernel))
    (hs : ∀ x, foldedSetIterable iter X.env x = pure x := by intro _; rfl) (hst : ∀ env, (assignEach [.Name x p1, .Name y p2] env).map (·.2) = [assign (.Name x p1) env, assign (.Name y p2) env] := by intro _; rfl) :
    WL c X (.ListComp elt [⟨.Tuple [.Name x p1, .Name y p2] kk p, iter, [t], 0⟩] scope pos) st Q := by
  obtain ⟨ds, st1, h1, h2, h3, h4, h5, h6, h7⟩ := h
  refine ⟨_, _, xl_lc (g := gTup X.K 2 (gCons (gName j1) (gCons (gName j2) gNil))) (ow := [(x, j1), (y, j2)]) (fun _ => st1) rs hN h1 h2 h3 (fun i _ q hq => by
      rcases List.mem_cons.mp hq with z | z
      · rw [z]; exact h4
      · rw [List.mem_singleton.mp z]; exact h5) (fun i d r q1 q2 => ?_) (fun s H C cl fp => pg_tup hcm (pgs_cons (pg_name (X := BlkC X s H scope C cl fp) hN hx hlx hlxf) (pgs_cons (pg_name (X := BlkC X s H scope C cl fp) hN hy hly hlyf) pgs_nil rfl) rfl) rfl rfl) (by simp) ok hcm hs, h7⟩
  obtain ⟨u, w, b, rfl, hb, ht⟩ := h6 i d r q1 q2
  have back : st1 = ((((st1.set j1 (some (.fr u))).set j2 (some (.fr w))).set j2 none).set j1 none) := by
    rw [set_none (by rw [List.getElem?_set_ne hj]; exact h5), set_none h4]
  refine ⟨(st1.set j1 (some (.fr u))).set j2 (some (.fr w)), b, (st1.set j1 (some (.fr u))).set j2 (some (.fr w)), tgt_pair hK.symm hj, .one fun sh H C cl fp => ?_, ?_⟩
  · obtain ⟨b', s', z1, rfl, rfl⟩ := ht sh H C cl fp
    exact z1
  · rcases hb with ⟨rfl, rfl⟩ | ⟨rfl, v, rfl, z⟩
    · exact .inl ⟨rfl, rfl, back⟩
    · refine .inr ⟨rfl, v, (st1.set j1 (some (.fr u))).set j2 (some (.fr w)), rfl, back, fun sh H C cl fp => ?_⟩
      obtain ⟨d', s', z1, rfl, rfl⟩ := z sh H C cl fp
      exact z1
theorem wl_mapS (jx m : Nat) (S : Nat → Store) (vs : List Dt) {x : Str} {p : Pos} {scope : Scope} {Q : List Dt → Store → Prop} (hN : X.N.Nodup)
    (h : WI c X (.Name x p) iter st fun ds st1 => st1 = S 0 ∧ vs.length = m ∧ ds.length = m ∧ m ≤ 100000 ∧ (∀ i, i ≤ m → (S i)[jx]? = some none) ∧ (∀ (i : Nat) d v, ds[i]? = some d → vs[i]? = some v → ∀ sh H C cl fp, WE c (BlkC X sh H scope C cl fp) elt ((S i).set jx (some (.fr d))) (Gv v ((S (i + 1)).set jx (some (.fr d))))) ∧ Q vs (S m))
    (hx : X.N[jx]? = some x := by rfl) (hloc : Loc (relabel scope X.env) x := by first | exact Or.inl rfl | exact Or.inr rfl) (hlocf : (scope.names.lookup x == some .cell) = true ∨ (relabel scope X.env).names.lookup x = some .local := by first | exact Or.inl rfl | exact Or.inr rfl) (ok : BlkOk X.N X.env.scope scope [(x, jx)] := by exact blkOk_by (by first | rfl | decide +kernel))
    (hc : X.calm = true := by rfl) (hs : ∀ x, foldedSetIterable iter X.env x = pure x := by intro _; rfl) :
    WL c X (.ListComp elt [⟨.Name x p, iter, [], 0⟩] scope pos) st Q := by
  obtain ⟨ds, st1, h1, rfl, h2, rfl, h3, h4, h5, h6⟩ := h
  refine ⟨_, _, xl_mapS jx S vs hN h1 h2 h3 h4 (fun i d v q1 q2 => ⟨(S (i + 1)).set jx (some (.fr d)), ?_, fun sh H C cl fp => ?_⟩) hx hloc hlocf ok hc hs, h6⟩
  · have hi : i < ds.length := by
      rcases Nat.lt_or_ge i ds.length with z | z
      · exact z
      · rw [List.getElem?_eq_none z] at q1; cases q1
    exact set_none (h4 (i + 1) hi) _
  · obtain ⟨d', s', z1, rfl, rfl⟩ := h5 i d v q1 q2 sh H C cl fp
    exact z1
theorem ws_mapS (k : Nat) (own? : Bool) (jx m : Nat) (S : Nat → Store) (vs : List Dt) {x y : Str} {py spos : Pos} {p : Pos} {scope : Scope} {Q : Out → Prop} (hN : X.N.Nodup)
    (h : WI c X (.Name x p) iter st fun ds st1 => st1 = S 0 ∧ vs.length = m ∧ ds.length = m ∧ m ≤ 100000 ∧ (∀ i, i ≤ m → (S i)[jx]? = some none) ∧ (∀ (i : Nat) d v, ds[i]? = some d → vs[i]? = some v → ∀ sh H C cl fp, WE c (BlkC X sh H scope C cl fp) elt ((S i).set jx (some (.fr d))) (Gv v ((S (i + 1)).set jx (some (.fr d))))) ∧ WS c X rest ((S m).set k (some (if own? = true then .ow vs else .fr (.lst vs)))) Q)
    (hx : X.N[jx]? = some x := by rfl) (hloc : Loc (relabel scope X.env) x := by first | exact Or.inl rfl | exact Or.inr rfl) (hlocf : (scope.names.lookup x == some .cell) = true ∨ (relabel scope X.env).names.lookup x = some .local := by first | exact Or.inl rfl | exact Or.inr rfl) (ok : BlkOk X.N X.env.scope scope [(x, jx)] := by exact blkOk_by (by first | rfl | decide +kernel))
    (hy0 : X.N[k]? = some y := by rfl) (hyl : X.env.scope.names.lookup y = some .local := by rfl) (hsw : swapsWith (.ListComp elt [⟨.Name x p, iter, [], 0⟩] scope pos) (some (.Name y py)) spos.line X.env = pure true := by exact sw_true rfl rfl rfl (by first | rfl | decide +kernel))
    (hc : X.calm = true := by rfl) (hs : ∀ x, foldedSetIterable iter X.env x = pure x := by intro _; rfl) :
    WS c X (.Assign [.Name y py] (.ListComp elt [⟨.Name x p, iter, [], 0⟩] scope pos) spos :: rest) st Q := by
  obtain ⟨ds, st1, h1, rfl, h2, rfl, h3, h4, h5, o, h6, h7⟩ := h
  refine ⟨o, xs_cons (xp_mapS k own? jx S vs rfl hN h1 h2 h3 h4 (fun i d v q1 q2 => ⟨(S (i + 1)).set jx (some (.fr d)), ?_, fun sh H C cl fp => ?_⟩) hx hloc hlocf ok hy0 hyl hsw hc hs) h6, h7⟩
  · have hi : i < ds.length := by
      rcases Nat.lt_or_ge i ds.length with z | z
      · exact z
      · rw [List.getElem?_eq_none z] at q1; cases q1
    exact set_none (h4 (i + 1) hi) _
  · obtain ⟨d', s', z1, rfl, rfl⟩ := h5 i d v q1 q2 sh H C cl fp
    exact z1
end
end Dv
namespace Dv
/-- what turns with a test give, by their places -/
def rgo (n : Nat) (F : Nat → Option Dt) : List (Option Dt) := (List.range n).map F
theorem rgo_len (n : Nat) (F : Nat → Option Dt) : (rgo n F).length = n := by unfold rgo; simp
theorem rgo_get {w i : Nat} {g : Nat → Option Dt} {d : Option Dt} (h : (rgo w g)[i]? = some d) : i < w ∧ d = g i := by
  unfold rgo at h
  rw [List.getElem?_map] at h
  by_cases q : i < w
  · rw [List.getElem?_range q] at h; cases h; exact ⟨q, rfl⟩
  · rw [List.getElem?_eq_none (by simpa using q)] at h; cases h
end Dv
set_option autoImplicit false
set_option maxRecDepth 100000
set_option maxHeartbeats 4000000
set_option exponentiation.threshold 100000
namespace Dv
open PySem PySem.Spec PyProof.Rows L2 Mq
/-! ### sums of what is not zero -/
def nzL (f : Nat → Option Rat) (n : Nat) : List Rat := (List.range n).filterMap f
theorem collect_one (o : Option Dt) : collect [o] = o.toList := by cases o <;> rfl
theorem nzL_succ (f : Nat → Option Rat) (n : Nat) : nzL f (n + 1) = nzL f n ++ (f n).toList := by
  unfold nzL
  rw [List.range_succ, List.filterMap_append]
  cases h : f n with
  | none => rw [List.filterMap_cons_none h]; rfl
  | some q => rw [List.filterMap_cons_some h]; rfl
theorem collect_nz (f : Nat → Option Rat) : ∀ n, collect (rgo n fun i => (f i).map dR) = (nzL f n).map dR
  | 0 => rfl
  | n + 1 => by
    have e : (rgo (n + 1) fun i => (f i).map dR) = (rgo n fun i => (f i).map dR) ++ [(f n).map dR] := by
      unfold rgo
      rw [List.range_succ, List.map_append]; rfl
    rw [e, collect_app, collect_nz f n, nzL_succ, List.map_append, collect_one]
    cases f n <;> rfl
theorem sumL_nz (f : Nat → Option Rat) : ∀ n, sumL (nzL f n) = sumTo (fun i => (f i).getD 0) n
  | 0 => rfl
  | n + 1 => by
    rw [nzL_succ, sumL_app, sumL_nz f n]
    show _ = sumTo _ n + (f n).getD 0
    cases f n with
    | none => rfl
    | some q => show _ + (q + 0) = _; rw [Rat.add_zero]; rfl
theorem nzL_len (f : Nat → Option Rat) (n : Nat) : (nzL f n).length ≤ n := by
  have := List.length_filterMap_le f (List.range n)
  rw [List.length_range] at this
  exact this
theorem nzL_mem {f : Nat → Option Rat} {n : Nat} {q : Rat} (h : q ∈ nzL f n) : ∃ i, i < n ∧ f i = some q := by
  obtain ⟨i, hi, e⟩ := List.mem_filterMap.mp h
  exact ⟨i, List.mem_range.mp hi, e⟩
theorem sumL_take {qs : List Rat} {i : Nat} {q : Rat} (h : qs[i]? = some q) : sumL (qs.take (i + 1)) = sumL (qs.take i) + q := by
  rw [List.take_succ, h, sumL_app]
  show _ + (q + 0) = _
  rw [Rat.add_zero]
/-- the sizes that a sum of products may have -/
structure Sq (n D1 m1 D2 m2 : Nat) : Prop where
  p1 : 0 < D1
  p2 : 0 < D2
  d : D1 * D2 < 2 ^ 3000
  m : n * (m1 * m2) < 2 ^ 3000
theorem pw (k : Nat) : 0 < 2 ^ k := Nat.pow_pos (by decide)
theorem Sq.at {n D1 m1 D2 m2 : Nat} (h : Sq n D1 m1 D2 m2) {i : Nat} (hi : i ≤ n) {q : Rat} (hq : Hd (D1 * D2) (i * (m1 * m2)) q) : Sz 3000 q :=
  Hd.sz (Nat.mul_pos h.p1 h.p2) hq (Nat.lt_of_le_of_lt (Nat.mul_le_mul_right _ hi) h.m) h.d
theorem Sq.prod {n D1 m1 D2 m2 : Nat} (h : Sq n D1 m1 D2 m2) (hn : 0 < n) {a b : Rat} (ha : Hd D1 m1 a) (hb : Hd D2 m2 b) : Sz 3000 (a * b) :=
  h.at (i := 1) hn (by rw [Nat.one_mul]; exact ha.mul h.p1 h.p2 hb)
theorem Sq.one {n D1 m1 D2 m2 : Nat} (h : Sq n D1 m1 D2 m2) (hn : 0 < n) {a b : Rat} (ha : Hd D1 m1 a) (hb : Hd D2 m2 b) (hz : a ≠ 0) (hz' : b ≠ 0) : Sz 3000 a ∧ Sz 3000 b := by
  have hD1 : D1 ≤ D1 * D2 := Nat.le_mul_of_pos_right _ h.p2
  have hD2 : D2 ≤ D1 * D2 := Nat.le_mul_of_pos_left _ h.p1
  have k1 : 0 < m1 := by
    rcases Nat.eq_zero_or_pos m1 with e | e
    · obtain ⟨z, a1, rfl⟩ := ha
      rw [e] at a1
      exact absurd (by rw [show z = 0 from by omega, Rat.zero_divInt]) hz
    · exact e
  have k2 : 0 < m2 := by
    rcases Nat.eq_zero_or_pos m2 with e | e
    · obtain ⟨z, a1, rfl⟩ := hb
      rw [e] at a1
      exact absurd (by rw [show z = 0 from by omega, Rat.zero_divInt]) hz'
    · exact e
  have m12 : m1 * m2 ≤ n * (m1 * m2) := Nat.le_mul_of_pos_left _ hn
  have hm1 : m1 ≤ m1 * m2 := Nat.le_mul_of_pos_right _ k2
  have hm2 : m2 ≤ m1 * m2 := Nat.le_mul_of_pos_left _ k1
  have hd := h.d
  have hm := h.m
  exact ⟨ha.sz h.p1 (by omega) (by omega), hb.sz h.p2 (by omega) (by omega)⟩
theorem num_zero {q : Rat} (h : q.num = 0) : q = 0 := Rat.num_eq_zero.mp h
theorem num_ne {q : Rat} (h : ¬q.num = 0) : q ≠ 0 := fun e => h (by rw [e]; rfl)
end Dv
set_option autoImplicit false
set_option maxRecDepth 100000
set_option maxHeartbeats 4000000
set_option exponentiation.threshold 100000
namespace My
open PySem PySem.Spec PyProof.Rows L2 Dv Mq
theorem bool_iff {a b : Bool} (h : a = true ↔ b = true) : a = b := by cases a <;> cases b <;> simp_all
section
variable {P : Program} {w : World} {K : PySem.W.Frag} {T : Ct} {mg : Str → Option Value} {base : Heap} {f CR CM : Addr} {fd : FuncData}
abbrev sTotal : Stmt := topS 12
abbrev sDotP : Stmt := topS 14
abbrev sMX : Stmt := inClass cMat 8
abbrev sMRk : Stmt := inClass cMat 12
abbrev sMV : Stmt := inClass cMat 14
abbrev sMIt : Stmt := inClass cMat 2
theorem rdb_vec {c : Dv.Ctx} {CR : Addr} {n n' : Nat} {r r' : Nat → Rat} {t : Bool} (hT : c.T 0 = some (CR, (["n", "d"] : List Str))) (ht : t = true ↔ n = n' ∧ ∀ i, i < n → r i = r' i) : RDB c (DTupB c.K (DOwn c CR 0 RREq)) t (dVc n r) (dVc n' r') := by
  refine rdb_tup (fun i => decide (r i = r' i)) (fun i d e h1 h2 => ?_) ?_
  · obtain ⟨_, rfl⟩ := rg_get h1
    obtain ⟨_, rfl⟩ := rg_get h2
    refine rdb_own hT ⟨r i, r' i, rfl, rfl⟩ ?_
    by_cases q : r i = r' i
    · exact .inl (decide_eq_true q)
    · refine .inr ⟨rfl, rfl, fun z => q ?_⟩
      have e1 : (r i).num = (r' i).num := by injection z with z1 z2; injection z1
      have e2 : ((r i).den : Int) = (r' i).den := by injection z with z1 z2; injection z2 with z2 z3; injection z2
      exact Rat.ext e1 (by omega)
  · rw [ht, rg_len, rg_len]
    constructor
    · rintro ⟨h1, h2⟩
      exact ⟨h1, fun i g1 g2 => decide_eq_true (h2 i g1)⟩
    · rintro ⟨h1, h2⟩
      exact ⟨h1, fun i g1 => of_decide_eq_true (h2 i g1 (by omega))⟩
theorem rdb_mx {c : Dv.Ctx} {CR : Addr} {h h' n : Nat} {g g' : Nat → Nat → Rat} {t : Bool} (hT : c.T 0 = some (CR, (["n", "d"] : List Str))) (ht : t = true ↔ h = h' ∧ ∀ i j, i < h → j < n → g i j = g' i j) : RDB c (DTupB c.K (DTupB c.K (DOwn c CR 0 RREq))) t (.tup (rg h fun i => dVc n (g i))) (.tup (rg h' fun i => dVc n (g' i))) := by
  classical
  refine rdb_tup (fun i => decide (∀ j, j < n → g i j = g' i j)) (fun i d e h1 h2 => ?_) ?_
  · obtain ⟨hi, rfl⟩ := rg_get h1
    obtain ⟨_, rfl⟩ := rg_get h2
    refine rdb_vec hT ⟨fun z => ⟨rfl, of_decide_eq_true z⟩, fun z => decide_eq_true z.2⟩
  · rw [ht, rg_len, rg_len]
    constructor
    · rintro ⟨e, z⟩
      exact ⟨e, fun i g1 _ => decide_eq_true fun j hj => z i j g1 hj⟩
    · rintro ⟨e, z⟩
      exact ⟨e, fun i j hi hj => of_decide_eq_true (z i hi (by omega)) j hj⟩
def RMT (ds : List Dt) (r : Dt) : Prop := ∃ (h n : Nat) (g : Nat → Nat → Rat), ds = [dMx h n g] ∧ h ≤ 8 ∧ n ≤ 8 ∧ r = dMx n h fun i j => g j i
theorem scMT : FnScope ["self", "at", "row"] ["self"] (defScope sMT) := ⟨rfl, rfl, rfl, by decide +kernel, rfl, by decide +kernel, by decide +kernel⟩
theorem ok_MT (F : Fun K "transposed" "Matrix.transposed" sMT f fd) (D : Md K T mg CR CM) (I : IF' P w K T mg base 1 CM [] 1 RMI) : FnOk P w K mg base CX0 3 f fd ["self"] (spD K T RMT) := by
  refine okD F scMT (fun ds r h => by obtain ⟨_, _, _, rfl, _⟩ := h; rfl) fun cdv A outer s H E pa ds r hr hR => ?_
  obtain ⟨h, n, g, rfl, hh, hn, rfl⟩ := hR
  have hl : (h : Int) = ((rg h fun i => dVc n (g i)).length : Int) := by rw [rg_len]
  refine ⟨_, xs_one (xp_ret (xd_mk D.M I rfl hr (xa_cons (xd_xl (xl_map1 1 (rg n fun i => dLc h fun j => g j i) scMT.nd (xi_range1 (n := (n : Int)) (xd_ff 1 (xd_var 0) D.M rfl D.Mw) (by omega) (by omega) D.ran) (by rw [rg_len]; simp) (by simp; omega) rfl ?_)) (xa_cons (xd_len (xd_ff 0 (xd_var 0) D.M rfl D.Mr) (.inr (.inr rfl)) rfl D.len) xa_nil)) ⟨n, h, fun i => dLc h fun j => g j i, fun i => rg h fun j => dR (g j i), by rw [← hl]; rfl, hn, fun i _ => .inl rfl, rfl⟩)), .inl ⟨_, rfl⟩⟩
  intro i d v h1 h2 sh H C cl fp
  obtain ⟨hi, rfl⟩ := rng_get (n := n) (by simpa using h1)
  obtain ⟨_, rfl⟩ := rg_get h2
  refine xd_xl (xl_map1 2 (rg h fun j => dR (g j i)) scMT.nd (xi_tup rfl (xd_ff 0 (xd_var 0) D.M rfl D.Mr)) (by rw [rg_len, rg_len]) (by rw [rg_len]; omega) rfl ?_)
  intro j d v h1 h2 sh H C cl fp
  obtain ⟨hj, rfl⟩ := rg_get h1
  obtain ⟨_, rfl⟩ := rg_get h2
  exact xd_ixT (m := i) (xd_var 2) (xd_var 1) rfl (rg_at hi) rfl
def RTotal (ds : List Dt) (r : Dt) : Prop := ∃ (qs : List Rat), ds = [.lst (qs.map dR)] ∧ qs.length ≤ 8 ∧ (∀ q ∈ qs, Sz 200 q) ∧ r = dR (Dv.sumL qs)
theorem scTotal : FnScope ["numbers", "found", "number"] ["numbers"] (defScope sTotal) := ⟨rfl, rfl, rfl, by decide +kernel, rfl, by decide +kernel, by decide +kernel⟩
theorem sz_sumL {b : Nat} : ∀ qs : List Rat, (∀ q ∈ qs, Sz b q) → Sz (qs.length * (b + 1) + 1) (Dv.sumL qs)
  | [], _ => Sz.zero (by omega)
  | q :: qs, h => by
    have z := (h q (List.mem_cons_self ..)).add (sz_sumL qs fun x hx => h x (List.mem_cons_of_mem _ hx))
    exact z.mono (by rw [List.length_cons, Nat.add_mul]; omega)
theorem ok_total (F : Fun K "total" "total" sTotal f fd) (D : Md K T mg CR CM) (R : RF P w K T mg base CR) : FnOk P w K mg base CX0 4 f fd ["numbers"] (spD K T RTotal) := by
  refine okD F scTotal (fun ds r h => by obtain ⟨_, rfl, _⟩ := h; rfl) fun cdv A outer s H E pa ds r hr hR => ?_
  obtain ⟨qs, rfl, hn, hg, rfl⟩ := hR
  have e0 : Dv.sumL qs = Dv.sumL (qs.take qs.length) := by rw [List.take_length]
  rw [e0]
  let S : Nat → Store := fun i => [some (.fr (.lst (qs.map dR))), some (.fr (dR (Dv.sumL (qs.take i)))), slot (fun i => dR (qs.getD i 0)) i]
  refine ⟨_, xs_cons (XP.to (s2 := S 0) (xp_set 1 scTotal.nd (xd_df0 R.zero rfl hr ⟨rfl, rfl⟩)) rfl)
    (xs_cons (XP.to (s2 := S qs.length) (xp_forN S qs.length (List.length_map ..) (xi_list rfl (xd_var 0)) ?_) rfl) (xs_one (xp_ret (xd_var 1)))), .inl ⟨_, rfl⟩⟩
  intro i d hd
  obtain ⟨q, hq1, rfl⟩ := Dv.map_get hd
  have hi : i < qs.length := (List.getElem?_eq_some_iff.mp hq1).1
  have hs : Sz 4000 (Dv.sumL (qs.take i)) := (sz_sumL _ fun x hx => hg x (List.mem_of_mem_take hx)).mono (by rw [List.length_take]; omega)
  have hq := hg q (List.mem_of_getElem? hq1)
  have e : qs.getD i 0 = q := by rw [List.getD_eq_getElem?_getD, hq1]; rfl
  refine Turns.nx (xg_name 2 scTotal.nd) (xs_one (xp_set 1 scTotal.nd (xd_opF (op := .Add) (xd_var 1) (xd_var 2) D.R R.add rfl hr D.Rf ⟨_, _, rfl, hs, hq.mono (by decide), rfl⟩))) ?_
  show _ = [_, some (Sv.fr (dR (Dv.sumL (qs.take (i + 1))))), some (Sv.fr (dR (qs.getD i 0)))]
  rw [Dv.sumL_take hq1, e]; rfl
def RDotP (ds : List Dt) (r : Dt) : Prop := ∃ (n : Nat) (x y : Nat → Rat), ds = [dVc n x, dVc n y] ∧ n ≤ 8 ∧ (∀ i, Sz 100 (x i)) ∧ (∀ i, Sz 100 (y i)) ∧ r = dR (sumTo (fun t => x t * y t) n)
theorem scDotP : FnScope ["a", "b", "x", "y"] ["a", "b"] (defScope sDotP) := ⟨rfl, rfl, rfl, by decide +kernel, rfl, by decide +kernel, by decide +kernel⟩
theorem sumTo_dv (g : Nat → Rat) : ∀ n, sumTo g n = Dv.sumTo g n
  | 0 => rfl
  | n + 1 => by show sumTo g n + g n = Dv.sumTo g n + g n; rw [sumTo_dv g n]
theorem ok_dotP (F : Fun K "dot" "dot" sDotP f fd) (D : Md K T mg CR CM) (R : RF P w K T mg base CR) (Dt : DF P w K T mg base "total" 4 RTotal) : FnOk P w K mg base CX0 5 f fd ["a", "b"] (spD K T RDotP) := by
  refine okDw F scDotP (fun ds r h => by obtain ⟨_, _, _, rfl, _⟩ := h; rfl) fun cdv A outer s' H E pa ds r hr hR => ?_
  obtain ⟨n, x, y, rfl, hn, hx, hy, rfl⟩ := hR
  let q : Nat → Option Rat := fun i => if (x i).num = 0 ∨ (y i).num = 0 then none else some (x i * y i)
  have hz : ∀ i, (q i).getD 0 = x i * y i := fun i => by
    show (if _ then _ else _ : Option Rat).getD 0 = _
    split
    · rename_i h
      rcases h with h | h
      · rw [Rat.num_eq_zero.mp h, Rat.zero_mul]; rfl
      · rw [Rat.num_eq_zero.mp h, Rat.mul_zero]; rfl
    · rfl
  have e0 : sumTo (fun t => x t * y t) n = Dv.sumL (Dv.nzL q n) := by rw [sumTo_dv, Dv.sumL_nz]; exact Dv.sumTo_ext fun i _ => (hz i).symm
  refine ws_ret ?_
  refine we_df Dt rfl hr ?_
  refine wa_cons ?_
  refine we_xl ?_
  refine wl_map2F 2 3 (Dv.rgo n fun i => (q i).map dR) scDotP.nd rfl rfl ?_
  refine wi_zip rfl D.zip ?_
  refine wa_cons ?_
  refine we_var 0 rfl ?_
  refine wa_cons ?_
  refine we_var 1 rfl ?_
  refine wa_nil ?_
  refine ⟨_, _, _, _, rfl, by constructor, by constructor, ?_⟩
  rw [rg_zip]
  refine ⟨by rw [Dv.rgo_len, rg_len], by rw [rg_len]; omega, rfl, rfl, ?_, ?_⟩
  · intro i d r hg1 hg2
    obtain ⟨hi, rfl⟩ := rg_get hg1
    obtain ⟨_, rfl⟩ := Dv.rgo_get hg2
    refine ⟨_, _, (decide (¬((x i).num = 0 ∨ (y i).num = 0))), rfl, ?_, fun sh H C cl fp => ?_⟩
    · show _ ∨ _
      by_cases h : (x i).num = 0 ∨ (y i).num = 0
      · exact .inl ⟨decide_eq_false (not_not_intro h), by show Option.map dR (if _ then _ else _) = _; rw [if_pos h]; rfl⟩
      refine .inr ⟨decide_eq_true h, dR (x i * y i), by show Option.map dR (if _ then _ else _) = _; rw [if_neg h]; rfl, fun sh H C cl fp => ?_⟩
      refine we_bin ?_
      refine we_var 2 rfl ?_
      refine we_var 3 rfl ?_
      refine br_own D.R R.mul rfl (hr.mono (by decide)) D.Rf ⟨_, _, rfl, (hx i).mono (by decide), (hy i).mono (by decide), rfl⟩ ?_
      exact ⟨rfl, rfl⟩
    · refine wt_of ?_
      refine ww_and ?_
      refine wt_cmp ?_
      refine we_ff 0 D.R rfl D.Rn ?_
      refine we_var 2 rfl ?_
      refine ⟨_, _, rfl, rfl, ?_⟩
      refine we_int ?_
      refine cr_neI ?_
      refine ifk_S (fun h1 => ?_) (fun h1 => ?_)
      rotate_left
      · simp only [Bool.not_eq_false', decide_eq_true_eq] at h1
        exact ⟨(decide_eq_false (not_not_intro (.inl h1))).symm, rfl⟩
      simp only [Bool.not_eq_true', decide_eq_false_iff_not] at h1
      refine ww_and1 ?_
      refine wt_cmp ?_
      refine we_ff 0 D.R rfl D.Rn ?_
      refine we_var 3 rfl ?_
      refine ⟨_, _, rfl, rfl, ?_⟩
      refine we_int ?_
      refine cr_neI ?_
      exact ⟨by simp [h1], rfl⟩
  refine wa_nil ?_
  refine ⟨_, ⟨Dv.nzL q n, congrArg (fun z => [Dv.Dt.lst z]) (Dv.collect_nz q n), Nat.le_trans (Dv.nzL_len q n) hn, fun z hz' => ?_, rfl⟩, ?_⟩
  rotate_left
  · exact congrArg dR e0.symm
  · obtain ⟨i, hi, e⟩ := Dv.nzL_mem hz'
    have e : (if (x i).num = 0 ∨ (y i).num = 0 then none else some (x i * y i)) = some z := e
    split at e
    · cases e
    · cases e
      exact ((hx i).mul (hy i)).mono (by decide)
/-- the matrix times a column -/
def RTim (ds : List Dt) (r : Dt) : Prop := ∃ (h n : Nat) (g : Nat → Nat → Rat) (x : Nat → Rat), ds = [dMx h n g, dVc n x] ∧ h ≤ 8 ∧ n ≤ 8 ∧ (∀ i j, Sz 100 (g i j)) ∧ (∀ i, Sz 100 (x i)) ∧ r = dVc h fun i => sumTo (fun t => g i t * x t) n
theorem scMX : FnScope ["self", "x", "row"] ["self", "x"] (defScope sMX) := ⟨rfl, rfl, rfl, by decide +kernel, rfl, by decide +kernel, by decide +kernel⟩
theorem ok_MX (F : Fun K "times" "Matrix.times" sMX f fd) (D : Md K T mg CR CM) (Dp : DF P w K T mg base "dot" 5 RDotP) : FnOk P w K mg base CX0 6 f fd ["self", "x"] (spD K T RTim) := by
  refine okD F scMX (fun ds r h => by obtain ⟨_, _, _, _, rfl, _⟩ := h; rfl) fun cdv A outer s H E pa ds r hr hR => ?_
  obtain ⟨h, n, g, x, rfl, hh, hn, hg, hx, rfl⟩ := hR
  refine ⟨_, xs_one (xp_ret (xd_tuple (xd_xl (xl_map1 2 (rg h fun i => dR (sumTo (fun t => g i t * x t) n)) scMX.nd (xi_tup rfl (xd_ff 0 (xd_var 0) D.M rfl D.Mr)) (by rw [rg_len, rg_len]) (by rw [rg_len]; omega) rfl ?_)) (.inl rfl) rfl D.tup)), .inl ⟨_, rfl⟩⟩
  intro i d v h1 h2 sh H C cl fp
  obtain ⟨hi, rfl⟩ := rg_get h1
  obtain ⟨_, rfl⟩ := rg_get h2
  exact xd_df Dp rfl hr (xa_cons (xd_var 2) (xa_cons (xd_var 1) xa_nil)) ⟨n, g i, x, rfl, hn, hg i, hx, rfl⟩
/-! ### == of matrices of one width, and with a tuple -/
inductive RMEqX : List Dt → Dt → Prop where
  | mx {h h' n : Nat} {g g' : Nat → Nat → Rat} {t : Bool} : (t = true ↔ h = h' ∧ ∀ i j, i < h → j < n → g i j = g' i j) → RMEqX [dMx h n g, dMx h' n g'] (.bl t)
  | tup {h n : Nat} {g : Nat → Nat → Rat} {xs : List Dt} : RMEqX [dMx h n g, .tup xs] (.bl false)
theorem scME : FnScope ["self", "other"] ["self", "other"] (defScope sME) := ⟨rfl, rfl, rfl, by decide +kernel, rfl, by decide +kernel, by decide +kernel⟩
theorem ok_MEX (F : Fun K "__eq__" "Matrix.__eq__" sME f fd) (D : Md K T mg CR CM) (R : RF P w K T mg base CR) (hk : PySem.W.kitOne K (.type "tuple") (.ref CM) = some false) : FnOk P w K mg base CX0 5 f fd ["self", "other"] (spD K T RMEqX) := by
  refine okD F scME (fun ds r h => by cases h <;> rfl) fun cdv A outer s H E' pa ds r hr hR => ?_
  let X := bX P w K mg base ["self", "other"] "Matrix.__eq__" sME f cdv A outer s H E'
  have vE : RcB X 3 .Eq id (DTupB X.K (DTupB X.K (DOwn ⟨K, T, pa⟩ CR 0 RREq))) := rcB_tupEq (mon_tupB own_monB) (eqB_tup own_monB (own_eqB R.eq rfl) refl_insB)
  cases hR with
  | @mx h h' n g g' t ht =>
    have e : Dt.bl t = .bl (true && (true && t)) := by cases t <;> rfl
    rw [e]
    exact ⟨_, xs_one (xp_ret (xd_and (t := true) (u := true && t) (xd_isOwn (xd_var 1) D.M D.MX rfl D.isi) fun _ => xd_and (t := true) (u := t) (XD.to (xd_eqI (xd_ff 1 (xd_var 0) D.M rfl D.Mw) (xd_ff 1 (xd_var 1) D.M rfl D.Mw)) (by rw [decide_eq_true rfl])) fun _ =>
      xd_one (xd_eqB (xd_ff 0 (xd_var 0) D.M rfl D.Mr) (xd_ff 0 (xd_var 1) D.M rfl D.Mr) vE (hr.mono (by decide)) (rdb_mx D.R.at_ ht)))), .inl ⟨_, rfl⟩⟩
  | @tup h n g xs =>
    exact ⟨_, xs_one (xp_ret (xd_and (t := false) (u := false) (xd_isi (x := "Matrix") (u := .ref CM) (cv := .ref CM) (xd_var 1) (pe_glob rfl D.M.nm rfl (by decide)) (.own _) .tup hk rfl D.isi) fun z => nomatch z)), .inl ⟨_, rfl⟩⟩
/-! ### __iter__, rank -/
theorem scMIt : FnScope ["self"] ["self"] (defScope sMIt) := ⟨rfl, rfl, rfl, by decide +kernel, rfl, by decide +kernel, by decide +kernel⟩
theorem ok_MIt (F : Fun K "__iter__" "Matrix.__iter__" sMIt f fd) (D : Md K T mg CR CM) (hmi : mg "iter" = none) : FnOk P w K mg base CX0 1 f fd ["self"] (spIt base K T 1 0) :=
  ok_it (ns := ["rows", "width"]) (fld := "rows") F scMIt rfl D.M.at_ D.M.cl D.Mr (by decide +kernel) hmi (fun _ _ _ _ _ _ => rfl) (fun _ _ _ _ _ _ => .inl rfl) (fun _ _ _ _ _ _ => rfl) (fun _ _ _ _ _ _ => rfl) (fun _ _ _ _ _ _ => rfl)
def RRank (ds : List Dt) (r : Dt) : Prop := ∃ (h n : Nat) (g : Nat → Nat → Rat), ds = [dMx h n g] ∧ h ≤ 8 ∧ n ≤ 4 ∧ (∀ i j, Sz 4 (g i j)) ∧ r = .int (el (rowsOf h g) n).pv.length
theorem scMRk : FnScope ["self", "_", "pivots"] ["self"] (defScope sMRk) := ⟨rfl, rfl, rfl, by decide +kernel, rfl, by decide +kernel, by decide +kernel⟩
theorem ok_MRk (F : Fun K "rank" "Matrix.rank" sMRk f fd) (D : Md K T mg CR CM) (Rd : MF P w K T mg base CM "reduced" 6 RRed) : FnOk P w K mg base CX0 7 f fd ["self"] (spD K T RRank) := by
  refine okD F scMRk (fun ds r h => by obtain ⟨_, _, _, rfl, _⟩ := h; rfl) fun cdv A outer s H E pa ds r hr hR => ?_
  obtain ⟨h, n, g, rfl, hh, hn, hg, rfl⟩ := hR
  have e : (((el (rowsOf h g) n).pv.length : Nat) : Int) = ((dInts' (el (rowsOf h g) n).pv).length : Int) := by unfold dInts'; rw [List.length_map]
  rw [e]
  exact ⟨_, xs_cons (xp_asg (xd_mf0 (xd_var 0) D.M Rd rfl hr ⟨h, n, g, rfl, hh, hn, hg, rfl⟩) (xg_tup (n := 2) rfl rfl (xgs_cons (xg_name 1 scMRk.nd) (xgs_cons (xg_name 2 scMRk.nd) xgs_nil)) rfl))
    (xs_one (xp_ret (xd_len (xd_var 2) (.inr (.inr rfl)) rfl D.len))), .inl ⟨_, rfl⟩⟩
/-! ### solve where there is a solution -/
abbrev nMVx : Nat := 0
def RSol (ds : List Dt) (r : Dt) : Prop := ∃ (h n : Nat) (g : Nat → Nat → Rat) (b : Nat → Rat), ds = [dMx h n g, dVc h b] ∧ h ≤ 8 ∧ n ≤ 4 ∧ (∀ i j, Sz 4 (g i j)) ∧ (∀ i, i < h → Sz 277 (b i)) ∧ (∀ r ∈ (el (augR h n g b) n).rest, r.2 n = 0) ∧ r = .tup [.str "solution", dVc n (vL (sv n (el (augR h n g b) n)))]
abbrev nMV : List Str := ["self", "right", "rows", "chosen", "pivots", "rest", "columns", "goal", "_", "y", "row", "item"]
theorem scMV : FnScope nMV ["self", "right"] (defScope sMV) := ⟨rfl, rfl, rfl, by decide +kernel, rfl, by decide +kernel, by decide +kernel⟩
theorem augR_rws (h n : Nat) (g : Nat → Nat → Rat) (b : Nat → Rat) : rws (n + 1) (augR h n g b) = rg h fun i => dLc (n + 1) (augF n (g i) (b i)) := by
  unfold rws augR rg; rw [List.map_map]; rfl
theorem ok_MV (F : Fun K "solve" "Matrix.solve" sMV f fd) (D : Md K T mg CR CM) (R : RF P w K T mg base CR) (Fe : DF P w K T mg base "_eliminate" 5 RElim) (Pl : DF P w K T mg base "_placed" 4 RPl) (hall : mg "all" = none) : FnOk P w K mg base CX0 6 f fd ["self", "right"] (spD K T RSol) := by
  refine okD F scMV (fun ds r h => by obtain ⟨_, _, _, _, rfl, _⟩ := h; rfl) fun cdv A outer s H E pa ds r hr hR => ?_
  obtain ⟨h, n, g, b, rfl, hh, hn, hg, hb, rz, rfl⟩ := hR
  have r1 : Room 1 (A.deeper (envOfC "Matrix.solve" (defScope sMV) s.heap.objs.size f cdv)) := hr.mono (by decide)
  have Dn := el_done (augR h n g b) n
  have h9 := aug2_el (h := h) hn hg hb
  have hpl := pv_le (augR h n g b) n
  have lr := (el_len (augR h n g b) n).1
  have hra : (augR h n g b).length = h := by unfold augR; simp
  generalize hs : el (augR h n g b) n = s1 at *
  have hall1 : (s1.rest.map fun r => decide ((r.2 n).num = 0)).all id = true := by
    rw [List.all_map]
    exact List.all_eq_true.mpr fun r hr => by
      show decide ((r.2 n).num = 0) = true
      rw [rz r hr]; rfl
  have nd : ((sv n s1).map (·.1)).Nodup := by rw [sv_fst _ _ _ Dn]; exact Dn.sub.nodup List.nodup_range
  have lt : ∀ q ∈ sv n s1, q.1 < n := fun q hq => by
    have : q.1 ∈ (sv n s1).map (·.1) := List.mem_map.mpr ⟨q, hq, rfl⟩
    rw [sv_fst _ _ _ Dn] at this
    exact Dn.lt this
  have e1 : (sv n s1).map (fun q => dR q.2) = s1.ch.map fun r => dR (r.2 n) := by
    unfold sv
    rw [show (fun q : Nat × Rat => dR q.2) = dR ∘ Prod.snd from rfl, ← List.map_map, List.map_snd_zip (by rw [List.length_map, Dn.len]; exact Nat.le_refl _), List.map_map]; rfl
  have e2 : (sv n s1).map (fun q => Dt.int q.1) = dInts' s1.pv := by
    rw [show (fun q : Nat × Rat => Dt.int q.1) = (fun (i : Nat) => Dt.int i) ∘ Prod.fst from rfl, ← List.map_map, sv_fst n n s1 Dn]; rfl
  have sl : (sv n s1).length ≤ 8 := by
    have : (sv n s1).length = ((sv n s1).map (·.1)).length := by rw [List.length_map]
    rw [this, sv_fst n n s1 Dn]; omega
  refine ⟨_, xs_cons (xp_map2 2 false 10 11 (rws (n + 1) (augR h n g b)) scMV.nd rfl rfl (xi_zip (κ1 := .t) (κ2 := .t) (xs := rg h fun i => dVc n (g i)) (ys := rg h fun i => dR (b i)) (xa_cons (xd_ff 0 (xd_var 0) D.M rfl D.Mr) (xa_cons (xd_var 1) xa_nil)) .t .t rfl D.zip) (by rw [rg_zip, augR_rws, rg_len, rg_len]) (by rw [rg_zip, rg_len]; omega) (by decide) rfl rfl ?_)
    (xs_cons (xp_asg (xd_df (d := dEl (n + 1) s1) Fe rfl hr (xa_cons (xd_var 2) (xa_cons (xd_ff 1 (xd_var 0) D.M rfl D.Mw) xa_nil)) ⟨n + 1, n, augR h n g b, _, rfl, .inl rfl, by omega, by omega, by omega, fun i hi _ => h9 i hi, by rw [hs]⟩)
      (xg_tup (n := 3) rfl rfl (xgs_cons (xg_name 3 scMV.nd) (xgs_cons (xg_name 4 scMV.nd) (xgs_cons (xg_name 5 scMV.nd) xgs_nil))) rfl))
    (xs_ret (xp_if (tb := true) (xt_val (xd_all (bs := s1.rest.map fun r => decide ((r.2 n).num = 0)) (xd_xl (xl_map1 10 ((s1.rest.map fun r => decide ((r.2 n).num = 0)).map .bl) scMV.nd (xi_list rfl (xd_var 5)) (by rw [List.length_map, List.length_map, rws_len]) (by rw [rws_len]; omega) rfl ?_)) hall1 rfl hall))
      (fun _ => xs_one (xp_ret (xd_tup (xa_cons xd_str (xa_cons (xd_df (d := dVc n (vL (sv n s1))) Pl rfl (hr.mono (by decide)) (xa_cons (xd_xl (xl_map1 10 (s1.ch.map fun r => dR (r.2 n)) scMV.nd (xi_list rfl (xd_var 3)) (by rw [List.length_map, rws_len]) (by rw [rws_len, Dn.len]; omega) rfl ?_)) (xa_cons (xd_var 4) (xa_cons (xd_ff 1 (xd_var 0) D.M rfl D.Mw) xa_nil))) ⟨n, sv n s1, by rw [e1, e2], nd, lt, by omega, sl, rfl⟩) xa_nil)) (by simp)))) (fun z => nomatch z)))), .inl ⟨_, rfl⟩⟩
  · intro i d v h1 h2
    rw [rg_zip] at h1
    obtain ⟨hi, rfl⟩ := rg_get h1
    rw [augR_rws] at h2
    obtain ⟨_, rfl⟩ := rg_get h2
    refine ⟨_, _, rfl, fun sh H C cl fp => ?_⟩
    have e : dLc (n + 1) (augF n (g i) (b i)) = .lst ((rg n fun j => dR (g i j)) ++ [dR (b i)]) := by
      unfold dLc
      rw [← rg_snoc]
      congr 2
      · exact rg_ext fun j hj => by unfold augF; rw [if_pos hj]
      · unfold augF; rw [if_neg (Nat.lt_irrefl n)]
    rw [e]
    exact xd_lst (xa_star (xd_var 10) (.inr rfl) (xa_cons (xd_var 11) xa_nil) rfl) (by rw [List.length_append, rg_len]; simp; omega)
  · intro i d v h1 h2 sh H C cl fp
    obtain ⟨r, g1, rfl⟩ := rws_get h1
    rw [List.map_map] at h2
    obtain ⟨r', g2, rfl⟩ := map_get h2
    rw [g1] at g2
    cases g2
    exact xd_mf0 (xd_ixLast (ds := rg (n + 1) fun j => dR (r.2 j)) (xd_var 10) (dRow_or (n + 1) r).symm (xd_neg xd_int) (by rw [rg_len]; exact rg_at (by omega)) rfl) D.R R.isz rfl r1 ⟨r.2 n, rfl, rfl⟩
  · intro i d v h1 h2 sh H C cl fp
    obtain ⟨r, g1, rfl⟩ := rws_get h1
    obtain ⟨r', g2, rfl⟩ := map_get h2
    rw [g1] at g2
    cases g2
    exact xd_ixLast (ds := rg (n + 1) fun j => dR (r.2 j)) (xd_var 10) (dRow_or (n + 1) r).symm (xd_neg xd_int) (by rw [rg_len]; exact rg_at (by omega)) rfl
end
end My
set_option autoImplicit false
set_option maxRecDepth 100000
set_option maxHeartbeats 4000000
set_option exponentiation.threshold 100000
namespace My
open PySem PySem.Spec PyProof.Rows L2 Dv Mq
theorem xw_to {c : Dv.Ctx} {X : Cx} {e : PySem.Expr} {st st1 : Store} {t t' : Bool} (h : XW c X e st t st1) (q : t = t') : XW c X e st t' st1 := q ▸ h
/-! ### plain data compared, both answers -/
theorem xd_eqP2 {c : Dv.Ctx} {X : Cx} {st st1 st2 : Store} {a b : PySem.Expr} {k m : Nat} {d d' : Dt} {p q : PyData} {t : Bool} {pos : PySem.Pos} (ha : XD c X a st d st1) (hb : XD c X b st1 d' st2) (h : Pl k d p) (h' : Pl k d' q) (hk : k ≤ 64) (ht : PyData.eqv p q = t) (hK : X.K = c.K) (hr : Room m X.A) : XD c X (.Compare a [.Eq] [b] pos) st (.bl t) st2 := by
  have z := o_eqD (c := c) h.py h'.py (h.shaped hk) (h'.shaped hk)
  rw [ht, ← hK] at z
  exact xd_cmp ha hb (op_eqD (by have := hr.un; omega)) z (nomark _)
theorem xt_neP2 {c : Dv.Ctx} {X : Cx} {st st1 st2 : Store} {a b : PySem.Expr} {k m : Nat} {d d' : Dt} {p q : PyData} {t : Bool} {pos : PySem.Pos} (ha : XD c X a st d st1) (hb : XD c X b st1 d' st2) (h : Pl k d p) (h' : Pl k d' q) (hk : k ≤ 64) (ht : (!PyData.eqv p q) = t) (hK : X.K = c.K) (hr : Room m X.A) : XT c X (.Compare a [.NotEq] [b] pos) st t st2 := by
  have z := o_neD (c := c) h.py h'.py (h.shaped hk) (h'.shaped hk)
  rw [ht, ← hK] at z
  exact xt_cmp ha hb (op_neD (by have := hr.un; omega)) z (nomark _)
def pP (q : Rat) : PyData := .tuple [.int q.num, .int q.den]
theorem eqv_pP (a b : Rat) : PyData.eqv (pP a) (pP b) = true ↔ a = b := by
  unfold pP
  rw [PyData.eqv.eq_8, PyData.eqvAll.eq_2, PyData.eqvAll.eq_2, PyData.eqvAll.eq_1, PyData.eqv.eq_5, PyData.eqv.eq_5]
  simp only [Bool.and_true, Bool.and_eq_true, beq_iff_eq]
  constructor
  · rintro ⟨h1, h2⟩
    exact Rat.ext h1 (by omega)
  · rintro rfl; exact ⟨rfl, rfl⟩
theorem eqv_all (f g : Nat → Rat) : ∀ l : List Nat, PyData.eqvAll (l.map fun j => pP (f j)) (l.map fun j => pP (g j)) = true ↔ ∀ j ∈ l, f j = g j
  | [] => by simp [PyData.eqvAll.eq_1]
  | a :: l => by
    rw [List.map_cons, List.map_cons, PyData.eqvAll.eq_2, Bool.and_eq_true, eqv_pP, eqv_all f g l]
    constructor
    · rintro ⟨h1, h2⟩ j hj
      rcases List.mem_cons.mp hj with rfl | h
      · exact h1
      · exact h2 j h
    · intro h
      exact ⟨h a (List.mem_cons_self ..), fun j hj => h j (List.mem_cons_of_mem _ hj)⟩
theorem eqv_vec (n : Nat) (f g : Nat → Rat) : PyData.eqv (.tuple ((List.range n).map fun j => pP (f j))) (.tuple ((List.range n).map fun j => pP (g j))) = true ↔ ∀ j, j < n → f j = g j := by
  rw [PyData.eqv.eq_8, eqv_all]
  exact ⟨fun h j hj => h j (List.mem_range.mpr hj), fun h j hj => h j (List.mem_range.mp hj)⟩
theorem firstNot {p : Nat → Prop} : ∀ n : Nat, (∀ i, i < n → p i) ∨ ∃ m, m < n ∧ ¬ p m ∧ ∀ i, i < m → p i
  | 0 => .inl fun i hi => absurd hi (Nat.not_lt_zero _)
  | n + 1 => by
    rcases firstNot (p := p) n with h | ⟨m, h1, h2, h3⟩
    · by_cases q : p n
      · exact .inl fun i hi => by
          by_cases e : i = n
          · rw [e]; exact q
          · exact h i (by omega)
      · exact .inr ⟨n, by omega, q, h⟩
    · exact .inr ⟨m, by omega, h2, h3⟩
section
variable {P : Program} {w : World} {K : PySem.W.Frag} {T : Ct} {mg : Str → Option Value} {base : Heap} {f CR CM : Addr} {fd : FuncData}
abbrev sDot : Stmt := topS 34
abbrev sPiv : Stmt := topS 36
abbrev sIsRed : Stmt := topS 37
abbrev sLeft : Stmt := topS 38
/-! ### the law's own sums, with larger numbers -/
def RAddW (ds : List Dt) (r : Dt) : Prop := ∃ (a b : Rat) (s t : Nat), ds = [dP a, dP b] ∧ Sz s a ∧ Sz t b ∧ s + t ≤ 8000 ∧ r = dP (a + b)
theorem ok_addW (F : Fun K "_law_add" "_law_add" sAdd f fd) (Dr : DF P w K T mg base "_law_rat" 2 RRat) : FnOk P w K mg base CX0 3 f fd ["a", "b"] (spD K T RAddW) := by
  refine okD F scAdd (fun ds r h => by obtain ⟨_, _, _, _, rfl, _⟩ := h; rfl) fun cdv A outer s' H E pa ds r hr hR => ?_
  obtain ⟨a, b, s, t, rfl, ha, hb, hst, rfl⟩ := hR
  have hd : (a.den : Int) * b.den ≠ 0 := Int.mul_ne_zero (den_ne a) (den_ne b)
  have hl : ((a.den : Int) * b.den).natAbs.log2 < 9000 := log2_lt hd (ha.lin hb).2.2 (by omega)
  have hs : s ≤ 2 ^ 20 := by omega
  have ht : t ≤ 2 ^ 20 := by omega
  rw [← add_q]
  exact ⟨_, xs_one (xp_ret (xd_df Dr rfl hr (xa_cons
    (xd_add (xd_mul (xd_ixT (xd_var 0) xd_int (m := 0) rfl rfl rfl) (xd_ixT (xd_var 1) xd_int (m := 1) rfl rfl rfl) (mulOk ha.1 hb.2 hs ht)) (xd_mul (xd_ixT (xd_var 1) xd_int (m := 0) rfl rfl rfl) (xd_ixT (xd_var 0) xd_int (m := 1) rfl rfl rfl) (mulOk hb.1 ha.2 ht hs)))
    (xa_cons (xd_mul (xd_ixT (xd_var 0) xd_int (m := 1) rfl rfl rfl) (xd_ixT (xd_var 1) xd_int (m := 1) rfl rfl rfl) (mulOk ha.2 hb.2 hs ht)) xa_nil)) ⟨_, _, rfl, hd, hl, rfl⟩)), .inl ⟨_, rfl⟩⟩
/-! ### _law_pivot -/
def RPiv (ds : List Dt) (r : Dt) : Prop := ∃ (n p : Nat) (x : Nat → Rat), ds = [dPv n x] ∧ n ≤ 8 ∧ p < n ∧ x p ≠ 0 ∧ (∀ j, j < p → x j = 0) ∧ r = .int p
theorem scPiv : FnScope ["row", "at"] ["row"] (defScope sPiv) := ⟨rfl, rfl, rfl, by decide +kernel, rfl, by decide +kernel, by decide +kernel⟩
theorem ok_piv (F : Fun K "_law_pivot" "_law_pivot" sPiv f fd) (D : Md K T mg CR CM) : FnOk P w K mg base CX0 1 f fd ["row"] (spD K T RPiv) := by
  refine okD F scPiv (fun ds r h => by obtain ⟨_, _, _, rfl, _⟩ := h; rfl) fun cdv A outer s H E pa ds r hr hR => ?_
  obtain ⟨n, p, x, rfl, hn, hp, h1, h0, rfl⟩ := hR
  let S : Nat → Store := fun i => [some (.fr (dPv n x)), some (.fr (.int i))]
  have xa : ∀ i, i < n → (rg n fun j => dP (x j))[i]? = some (.tup [.int (x i).num, .int (x i).den]) := fun i hi => rg_at hi
  have el : ((rg n fun j => dP (x j)).length : Int) = n := by rw [rg_len]
  refine ⟨_, xs_cons (XP.to (s2 := S 0) (xp_set 1 scPiv.nd xd_int) rfl) (xs_cons (xp_while (st1 := S p) S S p (fun i hi => ⟨xw_pt (xw_to (xw_and (t := true) (u := true) (xt_lt (xd_var 1) (xd_len (xd_var 0) (.inr (.inr rfl)) rfl D.len) (by rw [el]; exact decide_eq_true (by omega))) fun _ => xw_and1 (xt_eqI (xd_ixT (m := 0) (xd_ixT (m := i) (xd_var 0) (xd_var 1) rfl (xa i (by omega)) rfl) xd_int rfl rfl rfl) xd_int ?_)) rfl), .inl ?_⟩) (xw_pt (xw_to (xw_and (t := true) (u := false) (xt_lt (xd_var 1) (xd_len (xd_var 0) (.inr (.inr rfl)) rfl D.len) (by rw [el]; exact decide_eq_true (by omega))) fun _ => xw_and1 (xt_eqI (xd_ixT (m := 0) (xd_ixT (m := p) (xd_var 0) (xd_var 1) rfl (xa p hp) rfl) xd_int rfl rfl rfl) xd_int ?_)) rfl))) (xs_one (xp_ret (xd_var 1)))), .inl ⟨_, rfl⟩⟩
  · rw [h0 i hi]; rfl
  · exact XS.to (xs_one (xp_set 1 scPiv.nd (xd_add (xd_var 1) xd_int))) rfl
  · exact decide_eq_false fun z => h1 (Rat.num_eq_zero.mp z)
/-! ### _law_left -/
def RLeft (ds : List Dt) (r : Dt) : Prop := ∃ (n m : Nat) (ls : List (Nat × (Nat → Rat))) (v : Nat → Rat), ds = [.lst (rg m fun t => dPv n (ls.getD t (0, fun _ => 0)).2), dPv n v] ∧ n ≤ 4 ∧ m ≤ 4 ∧ m = ls.length ∧ (∀ t, t < m → (ls.getD t (0, fun _ => 0)).1 < n ∧ (ls.getD t (0, fun _ => 0)).2 (ls.getD t (0, fun _ => 0)).1 = 1 ∧ (∀ j, j < (ls.getD t (0, fun _ => 0)).1 → (ls.getD t (0, fun _ => 0)).2 j = 0) ∧ ∀ j, j < n → Sz 277 ((ls.getD t (0, fun _ => 0)).2 j)) ∧ (∀ j, Sz 4 (v j)) ∧ r = dPv n (left ls m v)
abbrev nLeft : List Str := ["rows", "v", "rest", "row", "factor", "minus", "k"]
theorem scLeft : FnScope nLeft ["rows", "v"] (defScope sLeft) := ⟨rfl, rfl, rfl, by decide +kernel, rfl, by decide +kernel, by decide +kernel⟩
def lz : Nat → Nat
  | 0 => 4
  | m + 1 => 2 * lz m + 278
theorem left_sz {ls : List (Nat × (Nat → Rat))} {v : Nat → Rat} {m n : Nat} (hl : ∀ t, t < m → (ls.getD t (0, fun _ => 0)).1 < n ∧ ∀ j, j < n → Sz 277 ((ls.getD t (0, fun _ => 0)).2 j)) (hv : ∀ j, Sz 4 (v j)) : ∀ t, t ≤ m → ∀ j, j < n → Sz (lz t) (left ls t v j)
  | 0, _, j, _ => hv j
  | t + 1, ht, j, hj => by
    have i1 := left_sz hl hv t (by omega)
    show Sz _ (left ls t v j - left ls t v (ls.getD t (0, fun _ => 0)).1 * (ls.getD t (0, fun _ => 0)).2 j)
    exact ((i1 j hj).sub ((i1 _ (hl t (by omega)).1).mul ((hl t (by omega)).2 j hj))).mono (by show lz t + (lz t + 277) + 1 ≤ 2 * lz t + 278; omega)
theorem lz_le : ∀ t, t ≤ 3 → lz t ≤ 1978
  | 0, _ => by decide
  | 1, _ => by decide
  | 2, _ => by decide
  | 3, _ => by decide
theorem dP_neg' (q : Rat) : dP (-q) = .tup [.int (-q.num), .int q.den] := by unfold dP; rw [Rat.neg_num, Rat.neg_den]
theorem sz_neg' {k : Nat} {q : Rat} (h : Sz k q) : Sz k (-q) := ⟨by rw [Rat.neg_num]; have := h.1; omega, by rw [Rat.neg_den]; exact h.2⟩
theorem ok_left (F : Fun K "_law_left" "_law_left" sLeft f fd) (D : Md K T mg CR CM) (Dp : DF P w K T mg base "_law_pivot" 1 RPiv) (Da : DF P w K T mg base "_law_add" 3 RAddW) (Dm : DF P w K T mg base "_law_mul" 3 RMul) (hlist : mg "list" = none) : FnOk P w K mg base CX0 4 f fd ["rows", "v"] (spD K T RLeft) := by
  refine okD F scLeft (fun ds r h => by obtain ⟨_, _, _, _, rfl, _⟩ := h; rfl) fun cdv A outer s H E pa ds r hr hR => ?_
  obtain ⟨n, m, ls, v, rfl, hn, hm, hml, hl, hv, rfl⟩ := hR
  have r1 : Room 1 (A.deeper (envOfC "_law_left" (defScope sLeft) s.heap.objs.size f cdv)) := hr.mono (by decide)
  let ln : Nat → Nat × (Nat → Rat) := fun t => ls.getD t (0, fun _ => 0)
  let d := left ls
  have sz : ∀ t, t ≤ m → ∀ j, j < n → Sz (lz t) (d t v j) := left_sz (fun t ht => ⟨(hl t ht).1, (hl t ht).2.2.2⟩) hv
  let S : Nat → Store := fun t => [some (.fr (.lst (rg m fun t => dPv n (ln t).2))), some (.fr (dPv n v)), some (.fr (.lst (rg n fun j => dP (d t v j)))), slot (fun t => dPv n (ln t).2) t, slot (fun t => dP (d t v (ln t).1)) t, slot (fun t => dP (-(d t v (ln t).1))) t, none]
  refine ⟨_, xs_cons (XP.to (s2 := S 0) (xp_set 2 scLeft.nd (xd_list (xd_var 1) (.inr (.inr rfl)) rfl hlist)) rfl)
    (xs_cons (XP.to (s2 := S m) (xp_forN S m (rg_len _ _) (xi_list rfl (xd_var 0)) ?_) rfl)
    (xs_one (xp_ret (xd_tuple (xd_var 2) (.inl rfl) rfl D.tup)))), .inl ⟨_, rfl⟩⟩
  intro t dd hd
  obtain ⟨ht, rfl⟩ := rg_get hd
  obtain ⟨q1, q2, q3, q4⟩ := hl t ht
  have q1 : (ln t).1 < n := q1
  have hf : Sz 1978 (d t v (ln t).1) := (sz t (by omega) _ q1).mono (lz_le t (by omega))
  have el : ((rg n fun j => dP (d t v j)).length : Int) = n := by rw [rg_len]
  refine Turns.nx (xg_name 3 scLeft.nd) (xs_cons (xp_set 4 scLeft.nd (xd_ixL (m := (ln t).1) (xd_var 2) (xd_df Dp rfl r1 (xa_cons (xd_var 3) xa_nil) ⟨n, (ln t).1, (ln t).2, rfl, by omega, q1, by show (ln t).2 (ln t).1 ≠ 0; rw [show (ln t).2 (ln t).1 = 1 from q2]; decide, q3, rfl⟩) rfl (rg_at q1) rfl))
    (xs_cons (xp_set 5 scLeft.nd (XD.to (d' := dP (-(d t v (ln t).1))) (xd_tup (xa_cons (xd_neg (xd_ixT (m := 0) (xd_var 4) xd_int rfl rfl rfl)) (xa_cons (xd_ixT (m := 1) (xd_var 4) xd_int rfl rfl rfl) xa_nil)) (by simp)) (dP_neg' _).symm))
    (xs_one (xp_set 2 scLeft.nd (xd_xl (xl_map1 6 (rg n fun j => dP (d (t + 1) v j)) scLeft.nd (xi_range1 (n := ((rg n fun j => dP (d t v j)).length : Int)) (xd_len (xd_var 2) (.inl rfl) rfl D.len) (by rw [el]; omega) (by rw [el]; omega) D.ran) (by rw [rg_len, el]; simp) (by rw [el]; simp; omega) rfl ?_)))))) rfl
  intro j d' v' h1 h2 sh H C cl fp
  rw [el] at h1
  obtain ⟨hj, rfl⟩ := rng_get (n := n) (by simpa using h1)
  obtain ⟨_, rfl⟩ := rg_get h2
  refine XD.to (xd_df Da rfl hr (xa_cons (xd_ixL (m := j) (xd_var 2) (xd_var 6) rfl (rg_at hj) rfl) (xa_cons (xd_df Dm rfl hr (xa_cons (xd_var 5) (xa_cons (xd_ixT (m := j) (xd_var 3) (xd_var 6) rfl (rg_at hj) rfl) xa_nil)) ⟨-(d t v (ln t).1), (ln t).2 j, rfl, (sz_neg' hf).mono (by decide), (q4 j hj).mono (by decide), rfl⟩) xa_nil)) ⟨d t v j, -(d t v (ln t).1) * (ln t).2 j, 1978, 2255, rfl, (sz t (by omega) j hj).mono (lz_le t (by omega)), ((sz_neg' hf).mul (q4 j hj)).mono (by decide), by decide, rfl⟩) ?_
  show dP _ = dP (left ls t v j - left ls t v (ln t).1 * (ln t).2 j)
  rw [Rat.neg_mul, ← Rat.sub_eq_add_neg]
/-! ### _law_is_reduced -/
def RIsRed (ds : List Dt) (r : Dt) : Prop := ∃ (n m : Nat) (L : Nat → Nat → Rat) (p : Nat → Nat), ds = [.lst (rg m fun t => dPv n (L t)), .tup (rg m fun t => .int (p t)), .int n] ∧ n ≤ 4 ∧ m ≤ 4 ∧ (∀ t, t < m → p t < n ∧ L t (p t) = 1 ∧ ∀ j, j < p t → L t j = 0) ∧ (∀ t u, t < m → u < m → t ≠ u → L u (p t) = 0) ∧ (∀ t, t + 1 < m → p t < p (t + 1)) ∧ r = .bl true
abbrev nRed : List Str := ["rows", "pivots", "width", "before", "k", "at", "j"]
theorem scRed : FnScope nRed ["rows", "pivots", "width"] (defScope sIsRed) := ⟨rfl, rfl, rfl, by decide +kernel, rfl, by decide +kernel, by decide +kernel⟩
theorem ok_isRed (F : Fun K "_law_is_reduced" "_law_is_reduced" sIsRed f fd) (D : Md K T mg CR CM) (Di : DF P w K T mg base "_law_is_integer" 1 RIsI) (Dp : DF P w K T mg base "_law_pivot" 1 RPiv) : FnOk P w K mg base CX0 2 f fd ["rows", "pivots", "width"] (spD K T RIsRed) := by
  refine okD F scRed (fun ds r h => by obtain ⟨_, _, _, _, rfl, _⟩ := h; rfl) fun cdv A outer s H E pa ds r hr hR => ?_
  obtain ⟨n, m, L, p, rfl, hn, hm, hL, ho, hi, rfl⟩ := hR
  let rows : Dt := .lst (rg m fun t => dPv n (L t))
  let pvs : Dt := .tup (rg m fun t => .int (p t))
  have el : ((rg m fun t => dPv n (L t)).length : Int) = m := by rw [rg_len]
  have ep : ((rg m fun t => Dt.int (p t)).length : Int) = m := by rw [rg_len]
  let bf : Nat → Int := fun t => match t with | 0 => -1 | t + 1 => p t
  let S : Nat → Store := fun t => [some (.fr rows), some (.fr pvs), some (.fr (.int n)), some (.fr (.int (bf t))), slot (fun t => .int t) t, slot (fun t => .int (p t)) t, slot (fun _ => .int ((m - 1 : Nat) : Int)) t]
  let U : Nat → Nat → Store := fun t j => [some (.fr rows), some (.fr pvs), some (.fr (.int n)), some (.fr (.int (bf t))), some (.fr (.int t)), some (.fr (.int (p t))), (match j with | 0 => slot (fun _ => .int ((m - 1 : Nat) : Int)) t | j + 1 => some (.fr (.int j)))]
  have rk : ∀ {k : Nat} {d' : Dt}, ((List.range ((rg m fun t => dPv n (L t)).length : Int).toNat).map fun (i : Nat) => Dt.int i)[k]? = some d' → k < m ∧ d' = .int k := fun {k d'} q => by
    rw [el] at q
    exact rng_get (n := m) (by simpa using q)
  have lt_bf : ∀ t, t < m → bf t < p t := fun t ht => by
    cases t with
    | zero => show (-1 : Int) < p 0; omega
    | succ t => show ((p t : Nat) : Int) < p (t + 1); have := hi t ht; omega
  refine ⟨_, xs_cons (xp_if (tb := false) (xw_pt (xw_orF (xt_not (t := true) (xt_val (xd_isTy (id := "tuple") (xd_var 1) .tup rfl D.isi D.tup (by decide +kernel) rfl))) (xw_or1 (xt_neI (xd_len (xd_var 0) (.inl rfl) rfl D.len) (xd_len (xd_var 1) (.inr (.inr rfl)) rfl D.len) (by rw [el, ep, decide_eq_true rfl]; rfl))))) (fun z => nomatch z) (fun _ => xs_nil))
    (xs_cons (XP.to (s2 := S 0) (xp_set 3 scRed.nd (xd_neg xd_int)) rfl)
    (xs_cons (XP.to (s2 := S m) (xp_forN S m (by rw [el]; simp) (xi_range1 (n := ((rg m fun t => dPv n (L t)).length : Int)) (xd_len (xd_var 0) (.inl rfl) rfl D.len) (by rw [el]; omega) (by rw [el]; omega) D.ran) ?_) rfl)
    (xs_one (xp_ret xd_bl)))), .inl ⟨_, rfl⟩⟩
  intro t d1 hd1
  obtain ⟨ht, rfl⟩ := rk hd1
  obtain ⟨l1, l2, l3⟩ := hL t ht
  have lb := lt_bf t ht
  have e11 : dP (L t (p t)) = .tup [.int 1, .int 1] := by rw [l2]; rfl
  refine Turns.nx (s1 := S (t + 1)) (xg_name 4 scRed.nd) (xs_cons (xp_if (tb := false) (xw_pt (xw_orF (xt_isN (xd_ixL (m := t) (xd_var 0) (xd_var 4) rfl (rg_at ht) rfl) rfl) (xw_or1 (xt_not (t := true) (xt_val (xd_df Di rfl hr (xa_cons (xd_ixT (m := t) (xd_var 1) (xd_var 4) rfl (rg_at ht) rfl) xa_nil) ⟨_, rfl, rfl⟩)))))) (fun z => nomatch z) (fun _ => xs_nil))
    (xs_cons (xp_set 5 scRed.nd (xd_df (d := .int (p t)) Dp rfl hr (xa_cons (xd_ixL (m := t) (xd_var 0) (xd_var 4) rfl (rg_at ht) rfl) xa_nil) ⟨n, p t, L t, rfl, by omega, l1, by rw [l2]; decide, l3, rfl⟩))
    (xs_cons (xp_if (tb := false) (xw_pt (xw_orF (xt_neI (xd_var 5) (xd_ixT (m := t) (xd_var 1) (xd_var 4) rfl (rg_at ht) rfl) (by rw [decide_eq_true rfl]; rfl)) (xw_orF (xt_le (xd_var 5) (xd_var 3) (decide_eq_false (by omega))) (xw_orF (xt_ge (xd_var 5) (xd_var 2) (decide_eq_false (by omega))) (xw_or1 (xt_neP (k := 1) (XD.to (xd_ixT (m := p t) (xd_ixL (m := t) (xd_var 0) (xd_var 4) rfl (rg_at ht) rfl) (xd_var 5) rfl (rg_at l1) rfl) e11) (xd_tup (xa_cons xd_int (xa_cons xd_int xa_nil)) (by simp)) (pl_dP (k := 0) 1) (by decide) rfl hr)))))) (fun z => nomatch z) (fun _ => xs_nil))
    (xs_cons (XP.to (s2 := U t m) (xp_forN (U t) m (by rw [el]; simp) (xi_range1 (n := ((rg m fun t => dPv n (L t)).length : Int)) (xd_len (xd_var 0) (.inl rfl) rfl D.len) (by rw [el]; omega) (by rw [el]; omega) D.ran) ?_) rfl)
    (xs_one (XP.to (s2 := S (t + 1)) (xp_set 3 scRed.nd (xd_var 5)) ?_)))))) rfl
  · intro j d2 hd2
    obtain ⟨hj, rfl⟩ := rk hd2
    by_cases e : j = t
    · exact Turns.nx (xg_name 6 scRed.nd) (xs_one (xp_if (tb := false) (xw_pt (xw_and (t := false) (u := false) (xt_neI (xd_var 6) (xd_var 4) (by rw [e, decide_eq_true rfl]; rfl)) fun z => nomatch z)) (fun z => nomatch z) (fun _ => xs_nil))) rfl
    · exact Turns.nx (xg_name 6 scRed.nd) (xs_one (xp_if (tb := false) (xw_pt (xw_and (t := true) (u := false) (xt_neI (xd_var 6) (xd_var 4) (by rw [decide_eq_false (by omega)]; rfl)) fun _ => xw_and (t := true) (u := false) (xt_notN (xd_ixL (m := j) (xd_var 0) (xd_var 6) rfl (rg_at hj) rfl) rfl) fun _ => xw_and1 (xt_neI (xd_ixT (m := 0) (xd_ixT (m := p t) (xd_ixL (m := j) (xd_var 0) (xd_var 6) rfl (rg_at hj) rfl) (xd_var 5) rfl (rg_at l1) rfl) xd_int rfl rfl rfl) xd_int (by rw [ho t j ht hj (fun z => e z.symm)]; rfl)))) (fun z => nomatch z) (fun _ => xs_nil))) rfl
  · cases m with
    | zero => omega
    | succ m' => rfl
end
end My
set_option autoImplicit false
set_option maxRecDepth 100000
set_option maxHeartbeats 4000000
set_option exponentiation.threshold 100000
namespace My
open PySem PySem.Spec PyProof.Rows L2 Dv Mq
/-! ### the pivots depend on the first columns alone -/
def RowEq (n : Nat) (r r' : Row) : Prop := ∀ j, j < n → r.2 j = r'.2 j
def SameTo (n : Nat) (rs rs' : List Row) : Prop := rs.length = rs'.length ∧ ∀ (i : Nat) r r', rs[i]? = some r → rs'[i]? = some r' → RowEq n r r'
theorem SameTo.nil {n : Nat} : SameTo n [] [] := ⟨rfl, fun _ _ _ h => nomatch h⟩
theorem SameTo.get {n i : Nat} {rs rs' : List Row} {r : Row} (h : SameTo n rs rs') (e : rs[i]? = some r) : ∃ r', rs'[i]? = some r' ∧ RowEq n r r' := by
  have hi := (List.getElem?_eq_some_iff.mp e).1
  have hi' : i < rs'.length := h.1 ▸ hi
  exact ⟨rs'[i], List.getElem?_eq_getElem hi', h.2 i _ _ e (List.getElem?_eq_getElem hi')⟩
theorem SameTo.app {n : Nat} {a a' b b' : List Row} (h : SameTo n a a') (k : SameTo n b b') : SameTo n (a ++ b) (a' ++ b') := by
  refine ⟨by rw [List.length_append, List.length_append, h.1, k.1], fun i r r' e e' => ?_⟩
  by_cases g : i < a.length
  · rw [List.getElem?_append_left g] at e
    rw [List.getElem?_append_left (h.1 ▸ g)] at e'
    exact h.2 i r r' e e'
  · rw [List.getElem?_append_right (by omega)] at e
    rw [List.getElem?_append_right (by rw [← h.1]; omega), ← h.1] at e'
    exact k.2 _ r r' e e'
theorem SameTo.take {n : Nat} {a a' : List Row} (m : Nat) (h : SameTo n a a') : SameTo n (a.take m) (a'.take m) := by
  refine ⟨by rw [List.length_take, List.length_take, h.1], fun i r r' e e' => ?_⟩
  rw [List.getElem?_take] at e e'
  split at e
  · rename_i g
    rw [if_pos g] at e'
    exact h.2 i r r' e e'
  · cases e
theorem SameTo.drop {n : Nat} {a a' : List Row} (m : Nat) (h : SameTo n a a') : SameTo n (a.drop m) (a'.drop m) := by
  refine ⟨by rw [List.length_drop, List.length_drop, h.1], fun i r r' e e' => ?_⟩
  rw [List.getElem?_drop] at e e'
  exact h.2 _ r r' e e'
theorem SameTo.map {n : Nat} {a a' : List Row} {f f' : Row → Row} (h : SameTo n a a') (k : ∀ r r', RowEq n r r' → RowEq n (f r) (f' r')) : SameTo n (a.map f) (a'.map f') := by
  refine ⟨by rw [List.length_map, List.length_map, h.1], fun i r r' e e' => ?_⟩
  rw [List.getElem?_map] at e e'
  cases q : a[i]? with
  | none => rw [q] at e; cases e
  | some x =>
    cases q' : a'[i]? with
    | none => rw [q'] at e'; cases e'
    | some x' =>
      rw [q] at e
      rw [q'] at e'
      cases e
      cases e'
      exact k _ _ (h.2 i _ _ q q')
theorem SameTo.one {n : Nat} {r r' : Row} (h : RowEq n r r') : SameTo n [r] [r'] := ⟨rfl, fun i a b e e' => by
  cases i with
  | zero => cases e; cases e'; exact h
  | succ i => cases e⟩
theorem firstF_same {n c : Nat} {a a' : List Row} (h : SameTo n a a') (hc : c < n) : firstF a c = firstF a' c := by
  cases e : firstF a c with
  | none =>
    have q := firstF_none e
    cases e' : firstF a' c with
    | none => rfl
    | some m =>
      obtain ⟨r', h1, h2, _⟩ := firstF_some e'
      have hm : m < a.length := h.1 ▸ (List.getElem?_eq_some_iff.mp h1).1
      have := h.2 m _ _ (List.getElem?_eq_getElem hm) h1 c hc
      exact absurd (this ▸ q m _ (List.getElem?_eq_getElem hm)) h2
  | some m =>
    obtain ⟨r, h1, h2, h3⟩ := firstF_some e
    obtain ⟨r', g1, g2⟩ := h.get h1
    cases e' : firstF a' c with
    | none => exact absurd ((g2 c hc).trans (firstF_none e' m r' g1)) h2
    | some m' =>
      obtain ⟨s', k1, k2, k3⟩ := firstF_some e'
      rcases Nat.lt_trichotomy m m' with l | l | l
      · exact absurd ((g2 c hc).trans (k3 m r' l g1)) h2
      · rw [l]
      · have hm : m' < a.length := h.1 ▸ (List.getElem?_eq_some_iff.mp k1).1
        have := h.2 m' _ _ (List.getElem?_eq_getElem hm) k1 c hc
        exact absurd (this ▸ h3 m' _ l (List.getElem?_eq_getElem hm)) k2
structure SameEl (n : Nat) (s s' : El) : Prop where
  rest : SameTo n s.rest s'.rest
  ch : SameTo n s.ch s'.ch
  pv : s.pv = s'.pv
theorem step_same {n c : Nat} {s s' : El} (h : SameEl n s s') (hc : c < n) : SameEl n (s.step c) (s'.step c) := by
  have e := firstF_same h.rest hc
  unfold El.step
  rw [← e]
  split
  · exact h
  · rename_i m hf
    obtain ⟨q, h1, h2, _⟩ := firstF_some hf
    obtain ⟨q', g1, g2⟩ := h.rest.get h1
    have eq : s.rest.getD m zrow = q := by rw [List.getD_eq_getElem?_getD, h1]; rfl
    have eq' : s'.rest.getD m zrow = q' := by rw [List.getD_eq_getElem?_getD, g1]; rfl
    rw [eq, eq']
    have ld : ∀ j, j < n → ldOf q c j = ldOf q' c j := fun j hj => by
      show (q.2 c)⁻¹ * q.2 j = (q'.2 c)⁻¹ * q'.2 j
      rw [g2 c hc, g2 j hj]
    have go : ∀ r r', RowEq n r r' → RowEq n (clr (ldOf q c) c r) (clr (ldOf q' c) c r') := fun r r' k j hj => by
      rw [clr_eq, clr_eq, k j hj, k c hc, ld j hj]
    exact ⟨((h.rest.take m).app (h.rest.drop (m + 1))).map go, (h.ch.map go).app (.one ld), by rw [h.pv]⟩
theorem el_same {n : Nat} {rs rs' : List Row} (h : SameTo n rs rs') : ∀ k, k ≤ n → SameEl n (el rs k) (el rs' k)
  | 0, _ => ⟨h, .nil, rfl⟩
  | k + 1, hk => step_same (el_same h k (by omega)) (by omega)
theorem same_aug (h n : Nat) (g : Nat → Nat → Rat) (b : Nat → Rat) : (el (rowsOf h g) n).pv = (el (augR h n g b) n).pv := by
  refine (el_same (n := n) ⟨by unfold rowsOf augR; simp, fun i r r' e e' j hj => ?_⟩ n (Nat.le_refl _)).pv
  unfold rowsOf at e
  unfold augR at e'
  rw [List.getElem?_map] at e e'
  by_cases q : i < h
  · rw [List.getElem?_range q] at e e'
    cases e
    cases e'
    show g i j = augF n (g i) (b i) j
    unfold augF
    rw [if_pos hj]
  · rw [List.getElem?_eq_none (by simpa using q)] at e
    cases e
theorem el_cnt (rs : List Row) : ∀ k, (el rs k).rest.length + (el rs k).pv.length = rs.length
  | 0 => rfl
  | k + 1 => by
    have ih := el_cnt rs k
    show ((el rs k).step k).rest.length + ((el rs k).step k).pv.length = _
    unfold El.step
    split
    · exact ih
    · rename_i m hf
      obtain ⟨q, h1, _, _⟩ := firstF_some hf
      have hm := (List.getElem?_eq_some_iff.mp h1).1
      show (List.map _ _).length + ((el rs k).pv ++ [k]).length = _
      rw [List.length_map, List.length_append, List.length_take, List.length_drop, List.length_append, List.length_singleton]
      omega
/-! ### rows with a unit row behind them -/
def apU (n : Nat) (f : Nat → Rat) (i j : Nat) : Rat := if j < n then f j else if j = n + i then 1 else 0
def augU (h n : Nat) (g : Nat → Nat → Rat) : List Row := (List.range h).map fun i => (true, apU n (g i) i)
theorem augU_len (h n : Nat) (g : Nat → Nat → Rat) : (augU h n g).length = h := by unfold augU; simp
theorem augU_get {h n i : Nat} {g : Nat → Nat → Rat} {r : Row} (e : (augU h n g)[i]? = some r) : i < h ∧ r = (true, apU n (g i) i) := by
  unfold augU at e
  rw [List.getElem?_map] at e
  by_cases q : i < h
  · rw [List.getElem?_range q] at e; cases e; exact ⟨q, rfl⟩
  · rw [List.getElem?_eq_none (by simpa using q)] at e; cases e
theorem dt_split (n : Nat) (r v : Nat → Rat) : ∀ h, dt (n + h) r v = dt n r v + dt h (fun i => r (n + i)) (fun i => v (n + i))
  | 0 => by show dt n r v = dt n r v + 0; rw [Rat.add_zero]
  | h + 1 => by
    show dt (n + h) r v + r (n + h) * v (n + h) = dt n r v + (dt h (fun i => r (n + i)) (fun i => v (n + i)) + r (n + h) * v (n + h))
    rw [dt_split n r v h, Rat.add_assoc]
/-- a vector with one item behind its first n -/
def vU (n : Nat) (f : Nat → Rat) (a : Nat) (x : Rat) (j : Nat) : Rat := if j < n then f j else if j = n + a then x else 0
theorem dt_vU (n h a : Nat) (ha : a < h) (r f : Nat → Rat) (x : Rat) : dt (n + h) r (vU n f a x) = dt n r f + r (n + a) * x := by
  rw [dt_split]
  congr 1
  · exact dt_ext fun j hj => by unfold vU; rw [if_pos hj]
  · rw [show dt h (fun i => r (n + i)) (fun i => vU n f a x (n + i)) = dt h (fun i => r (n + i)) (fun i => if i = a then x else 0) from dt_ext fun i _ => by
      unfold vU
      rw [if_neg (by omega)]
      by_cases q : i = a
      · rw [if_pos q, if_pos (by omega)]
      · rw [if_neg q, if_neg (by omega)]]
    exact dt_one h a ha _ x
theorem apU_at (n : Nat) (f : Nat → Rat) (i a : Nat) : apU n f i (n + a) = if a = i then 1 else 0 := by
  unfold apU
  rw [if_neg (by omega)]
  by_cases q : a = i
  · rw [if_pos q, if_pos (by omega)]
  · rw [if_neg q, if_neg (by omega)]
/-! ### no row that is not chosen is 0 -/
def Sep (N : Nat) (s : El) : Prop := ∀ (i : Nat) r, s.rest[i]? = some r → ∃ v, dt N r.2 v = 1 ∧ (∀ (k : Nat) q, k ≠ i → s.rest[k]? = some q → dt N q.2 v = 0) ∧ ∀ q ∈ s.ch, dt N q.2 v = 0
theorem step_sep {N : Nat} {s : El} (c : Nat) (h : Sep N s) : Sep N (s.step c) := by
  unfold El.step
  split
  · exact h
  · rename_i m hf
    obtain ⟨q0, h1, h2, _⟩ := firstF_some hf
    have eq : s.rest.getD m zrow = q0 := by rw [List.getD_eq_getElem?_getD, h1]; rfl
    rw [eq]
    have hm := (List.getElem?_eq_some_iff.mp h1).1
    have at_ : ∀ (i : Nat) r', ((s.rest.take m ++ s.rest.drop (m + 1)).map (clr (ldOf q0 c) c))[i]? = some r' → ∃ r, s.rest[if i < m then i else i + 1]? = some r ∧ r' = clr (ldOf q0 c) c r := fun i r' e => by
      rw [List.getElem?_map] at e
      cases q : (s.rest.take m ++ s.rest.drop (m + 1))[i]? with
      | none => rw [q] at e; cases e
      | some r =>
        rw [q] at e
        cases e
        refine ⟨r, ?_, rfl⟩
        by_cases g : i < m
        · rw [List.getElem?_append_left (by rw [List.length_take]; omega), List.getElem?_take, if_pos g] at q
          rw [if_pos g]; exact q
        · rw [List.getElem?_append_right (by rw [List.length_take]; omega), List.getElem?_drop, List.length_take, show m + 1 + (i - min m s.rest.length) = i + 1 by omega] at q
          rw [if_neg g]; exact q
    intro i r' e
    obtain ⟨r, e1, rfl⟩ := at_ i r' e
    obtain ⟨v, v1, v2, v3⟩ := h _ r e1
    have l0 : dt N (ldOf q0 c) v = 0 := by
      rw [show dt N (ldOf q0 c) v = (q0.2 c)⁻¹ * dt N q0.2 v from dt_scale N _ _ _, v2 m q0 (by split <;> omega) h1, Rat.mul_zero]
    refine ⟨v, by rw [dt_clr, l0, sub_zero', v1], fun k q hk hq => ?_, fun q hq => ?_⟩
    · obtain ⟨q', g1, rfl⟩ := at_ k q hq
      rw [dt_clr, l0, sub_zero']
      refine v2 _ q' (fun z => hk ?_) g1
      by_cases a : k < m
      · rw [if_pos a] at z
        by_cases b : i < m
        · rw [if_pos b] at z; exact z
        · rw [if_neg b] at z; omega
      · rw [if_neg a] at z
        by_cases b : i < m
        · rw [if_pos b] at z; omega
        · rw [if_neg b] at z; omega
    · rcases List.mem_append.mp hq with g | g
      · obtain ⟨q', g1, rfl⟩ := List.mem_map.mp g
        rw [dt_clr, l0, sub_zero']; exact v3 q' g1
      · rw [List.mem_singleton.mp g]; exact l0
theorem el_sep {N : Nat} {rs : List Row} (h : Sep N ⟨rs, [], []⟩) : ∀ k, Sep N (el rs k)
  | 0 => h
  | k + 1 => step_sep k (el_sep h k)
theorem augU_sep (h n : Nat) (g : Nat → Nat → Rat) : Sep (n + h) ⟨augU h n g, [], []⟩ := fun i r e => by
  obtain ⟨hi, rfl⟩ := augU_get e
  have z : ∀ k, k < h → dt (n + h) (apU n (g k) k) (vU n (fun _ => 0) i 1) = if i = k then 1 else 0 := fun k _ => by
    rw [dt_vU n h i hi, Rat.mul_one, show dt n (apU n (g k) k) (fun _ => 0) = 0 from sum_zero fun j _ => Rat.mul_zero _, Rat.zero_add, apU_at]
  refine ⟨vU n (fun _ => 0) i 1, by rw [z i hi, if_pos rfl], fun k q hk hq => ?_, fun q hq => nomatch hq⟩
  obtain ⟨hk', rfl⟩ := augU_get hq
  rw [z k hk', if_neg (fun z => hk z.symm)]
/-- rows of which one is not chosen are dependent -/
theorem rest_dep {h n : Nat} {g : Nat → Nat → Rat} (hr : (el (augU h n g) n).rest ≠ []) : ∃ y : Nat → Rat, (∃ i, i < h ∧ y i ≠ 0) ∧ ∀ j, j < n → sumTo (fun i => y i * g i j) h = 0 := by
  obtain ⟨r, hm⟩ := List.exists_mem_of_ne_nil _ hr
  obtain ⟨i, hi⟩ := List.getElem?_of_mem hm
  obtain ⟨v, v1, _, _⟩ := el_sep (augU_sep h n g) n i r hi
  obtain ⟨y, hy⟩ := (el_sp (augU h n g) n).1 r hm
  rw [augU_len] at hy
  have r0 : ∀ j, j < n → r.2 j = 0 := fun j hj => (el_done (augU h n g) n).zero r hm j hj
  have co : ∀ i, i < h → ∀ j, colOf (augU h n g) j i = apU n (g i) i j := fun i hi j => by
    show ((augU h n g).getD i zrow).2 j = _
    rw [List.getD_eq_getElem?_getD]
    unfold augU
    rw [List.getElem?_map, List.getElem?_range hi]; rfl
  have ry : ∀ a, a < h → r.2 (n + a) = y a := fun a ha => by
    rw [hy]
    rw [show dt h (colOf (augU h n g) (n + a)) y = dt h (fun i => if i = a then 1 else 0) y from dt_extL fun i hi => by
      rw [co i hi, apU_at]
      by_cases q : a = i
      · rw [if_pos q, if_pos q.symm]
      · rw [if_neg q, if_neg (fun z : i = a => q z.symm)]]
    rw [dt_comm, dt_one h a ha, Rat.mul_one]
  refine ⟨y, Classical.byContradiction fun q => ?_, fun j hj => ?_⟩
  · have y0 : ∀ a, a < h → y a = 0 := fun a ha => Classical.byContradiction fun z => q ⟨a, ha, z⟩
    rw [dt_split, show dt n r.2 v = 0 from sum_zero fun j hj => by rw [r0 j hj, Rat.zero_mul], show dt h (fun i => r.2 (n + i)) (fun i => v (n + i)) = 0 from sum_zero fun a ha => by show r.2 (n + a) * v (n + a) = 0; rw [ry a ha, y0 a ha, Rat.zero_mul], Rat.add_zero] at v1
    cases v1
  · rw [← r0 j hj, hy j]
    show dt h y (fun i => g i j) = _
    rw [dt_comm]
    exact (dt_extL fun i hi => by rw [co i hi]; unfold apU; rw [if_pos hj]).symm
theorem sg4 : ∀ p, p ≤ 4 → sg p ≤ 1109
  | 0, _ => by decide
  | 1, _ => by decide
  | 2, _ => by decide
  | 3, _ => by decide
  | 4, _ => by decide
theorem sz_svA {h n : Nat} {g : Nat → Nat → Rat} {b : Nat → Rat} (hn : n ≤ 4) (hg : ∀ i j, Sz 4 (g i j)) (hb : ∀ i, Sz 4 (b i)) (j : Nat) : Sz 1109 (vL (sv n (el (augR h n g b) n)) j) := by
  have D := el_done (augR h n g b) n
  have z0 : SzB (n + 1) 0 (augR h n g b) := fun r hr j => by
    obtain ⟨i, hi, rfl⟩ := List.mem_map.mp hr
    show Sz _ (augF n (g i) (b i) j)
    have q : Sz 4 (augF n (g i) (b i) j) := by
      unfold augF
      split
      · exact hg i j
      · exact hb i
    exact q.mono (by unfold bnd; split <;> decide)
  have z := (el_sz z0 n (by omega)).2
  have hp := pv_le (augR h n g b) n
  refine sz_vL (by decide) (by rw [sv_fst _ _ _ D]; exact D.sub.nodup List.nodup_range) (fun q hq => ?_) j
  unfold sv at hq
  obtain ⟨r, hr, e⟩ := List.mem_map.mp (List.of_mem_zip hq).2
  rw [← e]
  refine (z r hr n).mono ?_
  unfold bnd
  rw [if_pos (by omega)]
  exact sg4 _ (by omega)

theorem same_augU (h n : Nat) (g : Nat → Nat → Rat) : SameEl n (el (rowsOf h g) n) (el (augU h n g) n) := by
  refine el_same (n := n) ⟨by unfold rowsOf augU; simp, fun i r r' e e' j hj => ?_⟩ n (Nat.le_refl _)
  obtain ⟨hi, rfl⟩ := augU_get e'
  unfold rowsOf at e
  rw [List.getElem?_map, List.getElem?_range hi] at e
  cases e
  show g i j = apU n (g i) i j
  unfold apU
  rw [if_pos hj]
theorem range_eq {l : List Nat} {n : Nat} (h : l.Sublist (List.range n)) (e : l.length = n) : l = List.range n := h.eq_of_length (by rw [List.length_range]; exact e)
/-- where the system of the columns has four pivots, the lines are rows of the unit matrix -/
theorem unit_lines {h n : Nat} {g : Nat → Nat → Rat} {b : Nat → Rat} (hh : h ≤ 4) (hn : n ≤ 4) (h4 : (el (augR n h (fun j i => g i j) b) h).pv.length = 4) {r : Row} (hr : r ∈ (el (rowsOf h g) n).ch) : ∀ j, j < n → r.2 j = 0 ∨ r.2 j = 1 := by
  have e1 := same_aug n h (fun j i => g i j) b
  have l1 := pv_le (augR n h (fun j i => g i j) b) h
  have c1 := el_cnt (augR n h (fun j i => g i j) b) h
  have c2 : (augR n h (fun j i => g i j) b).length = n := by unfold augR; simp
  have eh : h = 4 := by omega
  have en : n = 4 := by omega
  have pT : (el (rowsOf n fun j i => g i j) h).pv = List.range h := range_eq (el_done _ h).sub (by rw [e1, h4, eh])
  have rest : (el (rowsOf h g) n).rest = [] := by
    refine Classical.byContradiction fun q => ?_
    have q' : (el (augU h n g) n).rest ≠ [] := fun z => q (by
      have := (same_augU h n g).rest.1
      rw [z] at this
      exact List.eq_nil_of_length_eq_zero this)
    obtain ⟨y, ⟨i, hi, ny⟩, hy⟩ := rest_dep q'
    refine ny (zero_of_free (el_done (rowsOf n fun j i => g i j) h) (d := y) ((el_orth h (rowsOf n fun j i => g i j) y h).mpr fun r hr => ?_).2 (fun j hj hp => absurd (by rw [pT]; exact List.mem_range.mpr hj) hp) i hi)
    obtain ⟨j, hj, rfl⟩ := rowsOf_mem hr
    have := hy j hj
    show dt h (fun i => g i j) y = 0
    rw [dt_comm]; exact this
  have D := el_done (rowsOf h g) n
  have c := el_cnt (rowsOf h g) n
  rw [rest, rowsOf_len] at c
  have pv : (el (rowsOf h g) n).pv = List.range n := range_eq D.sub (by simp at c; omega)
  intro j hj
  obtain ⟨t, ht⟩ := List.getElem?_of_mem hr
  have hu : (el (rowsOf h g) n).pv[j]? = some j := by rw [pv, List.getElem?_range hj]
  by_cases e : t = j
  · subst e; exact .inr (D.one t r t ht hu)
  · exact .inl (D.off t j r j e ht hu)
theorem four_in {l : List Nat} (a : 0 ∈ l) (b : 1 ∈ l) (c : 2 ∈ l) (d : 3 ∈ l) : 4 ≤ l.length := by
  have e0 := List.length_erase_of_mem a
  have b1 : 1 ∈ l.erase 0 := (List.mem_erase_of_ne (by decide)).mpr b
  have c1 : 2 ∈ l.erase 0 := (List.mem_erase_of_ne (by decide)).mpr c
  have d1 : 3 ∈ l.erase 0 := (List.mem_erase_of_ne (by decide)).mpr d
  have e1 := List.length_erase_of_mem b1
  have c2 : 2 ∈ (l.erase 0).erase 1 := (List.mem_erase_of_ne (by decide)).mpr c1
  have d2 : 3 ∈ (l.erase 0).erase 1 := (List.mem_erase_of_ne (by decide)).mpr d1
  have e2 := List.length_erase_of_mem c2
  have d3 : 3 ∈ ((l.erase 0).erase 1).erase 2 := (List.mem_erase_of_ne (by decide)).mpr d2
  have p0 := List.length_pos_of_mem a
  have p1 := List.length_pos_of_mem b1
  have p2 := List.length_pos_of_mem c2
  have p3 := List.length_pos_of_mem d3
  omega
/-- sizes of sums, item by item -/
def ps (c : Nat → Nat) : Nat → Nat
  | 0 => 1
  | m + 1 => ps c m + (c m + 4) + 1
theorem ps_sz {h : Nat} {c : Nat → Nat} {y : Nat → Rat} {g : Nat → Nat → Rat} (hg : ∀ i j, Sz 4 (g i j)) (hy : ∀ i, i < h → Sz (c i) (y i)) (j : Nat) : ∀ i, i ≤ h → Sz (ps c i) (sumTo (fun t => y t * g t j) i)
  | 0, _ => Sz.zero (show 1 ≤ ps c 0 from Nat.le_refl _)
  | i + 1, hi => (ps_sz hg hy j i (by omega)).add ((hy i (by omega)).mul (hg i j))
theorem ps_mono (c : Nat → Nat) {i k : Nat} (h : i ≤ k) : ps c i ≤ ps c k := by
  induction k with
  | zero => rw [show i = 0 by omega]; exact Nat.le_refl _
  | succ k ih =>
    by_cases e : i = k + 1
    · rw [e]; exact Nat.le_refl _
    · have := ih (by omega)
      show ps c i ≤ ps c k + (c k + 4) + 1
      omega
theorem weights_ok {h n : Nat} {g : Nat → Nat → Rat} (hh : h ≤ 4) (hn : n ≤ 4) (hg : ∀ i j, Sz 4 (g i j)) {r : Row} (hr : r ∈ (el (rowsOf h g) n).ch) (h277 : ∀ j, j < n → Sz 277 (r.2 j)) :
    ∃ c : Nat → Nat, (∀ i, i < h → Sz (c i) (vL (sv h (el (augR n h (fun j i => g i j) r.2) h)) i)) ∧ (∀ i, c i ≤ 4000) ∧ ps c h ≤ 8000 := by
  have D := el_done (augR n h (fun j i => g i j) r.2) h
  have hp := pv_le (augR n h (fun j i => g i j) r.2) h
  by_cases h4 : (el (augR n h (fun j i => g i j) r.2) h).pv.length = 4
  · have un := unit_lines hh hn h4 hr
    refine ⟨fun _ => 1109, fun i _ => ?_, fun _ => by show 1109 ≤ 4000; omega, ?_⟩
    · have e : augR n h (fun j i => g i j) r.2 = augR n h (fun j i => g i j) (fun j => if j < n then r.2 j else 0) := by
        unfold augR
        refine List.map_congr_left fun j hj => ?_
        show (false, augF h (fun i => g i j) (r.2 j)) = (false, augF h (fun i => g i j) (if j < n then r.2 j else 0))
        rw [if_pos (List.mem_range.mp hj)]
      rw [e]
      refine sz_svA hh (fun i j => hg j i) (fun j => ?_) i
      by_cases q : j < n
      · rw [if_pos q]
        rcases un j q with z | z
        · rw [z]; exact Sz.zero (by decide)
        · rw [z]; exact Sz.one (by decide)
      · rw [if_neg q]; exact Sz.zero (by decide)
    · have : ps (fun _ => 1109) h ≤ ps (fun _ => 1109) 4 := ps_mono _ hh
      exact Nat.le_trans this (by decide)
  · have hp3 : (el (augR n h (fun j i => g i j) r.2) h).pv.length ≤ 3 := by omega
    have z := (el_sz2 (aug2_sz (h := n) (n := h) (g := fun j i => g i j) (b := r.2) (fun i j => hg j i) h277) h (Nat.le_refl _)).2
    let c : Nat → Nat := fun i => if i ∈ (el (augR n h (fun j i => g i j) r.2) h).pv then 2461 else 1
    have c1 : ∀ i, c i ≤ 2461 := fun i => by show (if _ then 2461 else 1) ≤ 2461; split <;> omega
    refine ⟨c, fun i _ => ?_, fun i => Nat.le_trans (c1 i) (by decide), ?_⟩
    · by_cases q : i ∈ (el (augR n h (fun j i => g i j) r.2) h).pv
      · rw [show c i = 2461 from if_pos q]
        refine sz_vL (by decide) (by rw [sv_fst _ _ _ D]; exact D.sub.nodup List.nodup_range) (fun p hq => ?_) i
        unfold sv at hq
        obtain ⟨r', hr', e⟩ := List.mem_map.mp (List.of_mem_zip hq).2
        rw [← e]
        exact (z r' hr' h).mono (bndc h h _ hp3)
      · rw [show c i = 1 from if_neg q, vL_out fun p hq e => q (by
          have : p.1 ∈ (sv h (el (augR n h (fun j i => g i j) r.2) h)).map (·.1) := List.mem_map.mpr ⟨p, hq, rfl⟩
          rw [sv_fst _ _ _ D] at this
          exact e ▸ this)]
        exact Sz.zero (by decide)
    · by_cases e4 : h = 4
      · have ex : ∃ t, t < 4 ∧ c t = 1 := by
          refine Classical.byContradiction fun q => ?_
          have all : ∀ t, t < 4 → t ∈ (el (augR n h (fun j i => g i j) r.2) h).pv := fun t ht => Classical.byContradiction fun q' => q ⟨t, ht, if_neg q'⟩
          have := four_in (all 0 (by omega)) (all 1 (by omega)) (all 2 (by omega)) (all 3 (by omega))
          omega
        obtain ⟨t, ht, e⟩ := ex
        rw [e4]
        show 1 + (c 0 + 4) + 1 + (c 1 + 4) + 1 + (c 2 + 4) + 1 + (c 3 + 4) + 1 ≤ 8000
        have a0 := c1 0
        have a1 := c1 1
        have a2 := c1 2
        have a3 := c1 3
        have : t = 0 ∨ t = 1 ∨ t = 2 ∨ t = 3 := by omega
        rcases this with rfl | rfl | rfl | rfl <;> omega
      · have : ps c h ≤ ps c 3 := ps_mono _ (by omega)
        refine Nat.le_trans this ?_
        show 1 + (c 0 + 4) + 1 + (c 1 + 4) + 1 + (c 2 + 4) + 1 ≤ 8000
        have a0 := c1 0
        have a1 := c1 1
        have a2 := c1 2
        omega
/-- the lines are small -/
theorem line_sz {h n : Nat} {g : Nat → Nat → Rat} (hn : n ≤ 4) (hg : ∀ i j, Sz 4 (g i j)) {r : Row} (hr : r ∈ (el (rowsOf h g) n).ch) : ∀ j, j < n → Sz 277 (r.2 j) := fun j hj => by
  have D := el_done (rowsOf h g) n
  have z := (el_sz (rowsOf_sz (h := h) (n := n) hg) n (Nat.le_refl _)).2
  have hp := pv_le (rowsOf h g) n
  by_cases h3 : (el (rowsOf h g) n).pv.length ≤ 3
  · refine (z r hr j).mono ?_
    unfold bnd
    rw [if_pos hj]
    have : ∀ p, p ≤ 3 → sg p ≤ 277 := fun p hp => by
      match p, hp with
      | 0, _ => decide
      | 1, _ => decide
      | 2, _ => decide
      | 3, _ => decide
    exact this _ h3
  · have pv : (el (rowsOf h g) n).pv = List.range n := range_eq D.sub (by omega)
    obtain ⟨t, ht⟩ := List.getElem?_of_mem hr
    have hu : (el (rowsOf h g) n).pv[j]? = some j := by rw [pv, List.getElem?_range hj]
    by_cases e : t = j
    · subst e; rw [D.one t r t ht hu]; exact Sz.one (by decide)
    · rw [D.off t j r j e ht hu]; exact Sz.zero (by decide)
end My
set_option autoImplicit false
set_option maxRecDepth 100000
set_option maxHeartbeats 4000000
set_option exponentiation.threshold 100000
namespace My
open PySem PySem.Spec PyProof.Rows L2 Dv Mq
theorem map_rgN (F : Nat → Dt) (l : List Nat) : l.map F = rg l.length fun i => F (l.getD i 0) := by
  apply List.ext_getElem?
  intro i
  by_cases h : i < l.length
  · rw [rg_at h, List.getElem?_map, List.getD_eq_getElem?_getD, List.getElem?_eq_getElem h]; rfl
  · rw [List.getElem?_eq_none (by rw [List.length_map]; omega), List.getElem?_eq_none (by rw [rg_len]; omega)]
section
variable {P : Program} {w : World} {K : PySem.W.Frag} {T : Ct} {mg : Str → Option Value} {base : Heap} {f CR CM : Addr} {fd : FuncData}
abbrev sLaw : Stmt := topS 40
def RLCombG (ds : List Dt) (r : Dt) : Prop := ∃ (h n : Nat) (g : Nat → Nat → Rat) (y : Nat → Rat) (c : Nat → Nat), ds = [.tup (rg h fun i => dPv n (g i)), .int n, dPv h y] ∧ h ≤ 8 ∧ n ≤ 8 ∧ (∀ i j, Sz 4 (g i j)) ∧ (∀ i, i < h → Sz (c i) (y i)) ∧ (∀ i, c i ≤ 4000) ∧ ps c h ≤ 8000 ∧ r = dPv n fun j => sumTo (fun t => y t * g t j) h
theorem ok_lcombG (F : Fun K "_law_combine" "_law_combine" sLComb f fd) (D : Md K T mg CR CM) (Da : DF P w K T mg base "_law_add" 3 RAddW) (Dm : DF P w K T mg base "_law_mul" 3 RMul) : FnOk P w K mg base CX0 4 f fd ["rows", "width", "y"] (spD K T RLCombG) := by
  refine okD F scLComb (fun ds r h => by obtain ⟨_, _, _, _, _, rfl, _⟩ := h; rfl) fun cdv A outer s H E pa ds r hr hR => ?_
  obtain ⟨h, n, g, y, c, rfl, hh, hn, hg, hy, hc, hps, rfl⟩ := hR
  have hsz : ∀ i, i ≤ h → ∀ j, Sz (ps c i) (sumTo (fun t => y t * g t j) i) := fun i hi j => ps_sz hg hy j i hi
  let ac : Nat → Nat → Rat := fun i j => sumTo (fun t => y t * g t j) i
  let S : Nat → Store := fun i => [some (.fr (.tup (rg h fun i => dPv n (g i)))), some (.fr (.int n)), some (.fr (dPv h y)), some (.fr (.lst (rg n fun j => dP (ac i j)))), slot (fun i => .int i) i, none]
  have el : ((rg h fun i => dPv n (g i)).length : Int) = h := by rw [rg_len]
  refine ⟨_, xs_cons (XP.to (s2 := S 0) (xp_set 3 scLComb.nd (xd_xl (xl_map1 4 (rg n fun _ => dP 0) scLComb.nd (xi_range1 (n := (n : Int)) (xd_var 1) (by omega) (by omega) D.ran) (by rw [rg_len]; simp) (by simp; omega) rfl ?_))) rfl)
    (xs_cons (xp_forN S h (by rw [el]; simp) (xi_range1 (n := ((rg h fun i => dPv n (g i)).length : Int)) (xd_len (xd_var 0) (.inr (.inr rfl)) rfl D.len) (by rw [el]; omega) (by rw [el]; omega) D.ran) ?_)
    (xs_one (xp_ret (xd_tuple (xd_var 3) (.inl rfl) rfl D.tup)))), .inl ⟨_, rfl⟩⟩
  · intro i d v h1 h2 sh H C cl fp
    obtain ⟨_, rfl⟩ := rg_get h2
    exact xd_tup (xa_cons xd_int (xa_cons xd_int xa_nil)) (by simp)
  · intro i d' hd'
    rw [el] at hd'
    obtain ⟨hi, rfl⟩ := rng_get (n := h) (by simpa using hd')
    refine Turns.nx (xg_name 4 scLComb.nd) (xs_one (xp_set 3 scLComb.nd (xd_xl (xl_map1 5 (rg n fun j => dP (ac (i + 1) j)) scLComb.nd (xi_range1 (n := (n : Int)) (xd_var 1) (by omega) (by omega) D.ran) (by rw [rg_len]; simp) (by simp; omega) rfl ?_)))) rfl
    intro j d' v h1 h2 sh H C cl fp
    obtain ⟨hj, rfl⟩ := rng_get (n := n) (by simpa using h1)
    obtain ⟨_, rfl⟩ := rg_get h2
    exact xd_df Da rfl hr (xa_cons (xd_ixL (m := j) (xd_var 3) (xd_var 5) rfl (rg_at hj) rfl) (xa_cons (xd_df Dm rfl hr (xa_cons (xd_ixT (m := i) (xd_var 2) (xd_var 4) rfl (rg_at hi) rfl) (xa_cons (xd_ixT (m := j) (xd_ixT (m := i) (xd_var 0) (xd_var 4) rfl (rg_at hi) rfl) (xd_var 5) rfl (rg_at hj) rfl) xa_nil)) ⟨y i, g i j, rfl, (hy i hi).mono (hc i), (hg i j).mono (by decide), rfl⟩) xa_nil)) ⟨ac i j, y i * g i j, ps c i, c i + 4, rfl, hsz i (by omega) j, (hy i hi).mul (hg i j), by have := ps_mono c (show i + 1 ≤ h by omega); have e : ps c (i + 1) = ps c i + (c i + 4) + 1 := rfl; omega, rfl⟩

def RDotL (ds : List Dt) (r : Dt) : Prop := ∃ (n : Nat) (x y : Nat → Rat), ds = [dPv n x, .lst (rg n fun j => dP (y j))] ∧ n ≤ 4 ∧ (∀ j, Sz 4 (x j)) ∧ (∀ j, Sz 4 (y j)) ∧ r = dP (sumTo (fun j => x j * y j) n)
theorem scDot : FnScope ["a", "b", "total_v", "k"] ["a", "b"] (defScope sDot) := ⟨rfl, rfl, rfl, by decide +kernel, rfl, by decide +kernel, by decide +kernel⟩
theorem ok_dotL (F : Fun K "_law_dot" "_law_dot" sDot f fd) (D : Md K T mg CR CM) (Da : DF P w K T mg base "_law_add" 3 RAdd) (Dm : DF P w K T mg base "_law_mul" 3 RMul) : FnOk P w K mg base CX0 4 f fd ["a", "b"] (spD K T RDotL) := by
  refine okD F scDot (fun ds r h => by obtain ⟨_, _, _, rfl, _⟩ := h; rfl) fun cdv A outer s H E pa ds r hr hR => ?_
  obtain ⟨n, x, y, rfl, hn, hx, hy, rfl⟩ := hR
  have hsz : ∀ i, i ≤ 4 → Sz 4000 (sumTo (fun j => x j * y j) i) := fun i hi => (sz_sum (b := 8) (fun t => (hx t).mul (hy t)) i).mono (by omega)
  let S : Nat → Store := fun i => [some (.fr (dPv n x)), some (.fr (.lst (rg n fun j => dP (y j)))), some (.fr (dP (sumTo (fun j => x j * y j) i))), slot (fun i => .int i) i]
  have el : ((rg n fun j => dP (x j)).length : Int) = n := by rw [rg_len]
  refine ⟨_, xs_cons (XP.to (s2 := S 0) (xp_set 2 scDot.nd (xd_tup (xa_cons xd_int (xa_cons xd_int xa_nil)) (by simp))) rfl)
    (xs_cons (XP.to (s2 := S n) (xp_forN S n (by rw [el]; simp) (xi_range1 (n := ((rg n fun j => dP (x j)).length : Int)) (xd_len (xd_var 0) (.inr (.inr rfl)) rfl D.len) (by rw [el]; omega) (by rw [el]; omega) D.ran) ?_) rfl)
    (xs_one (xp_ret (xd_var 2)))), .inl ⟨_, rfl⟩⟩
  intro i d' hd'
  rw [el] at hd'
  obtain ⟨hi, rfl⟩ := rng_get (n := n) (by simpa using hd')
  exact Turns.nx (xg_name 3 scDot.nd) (xs_one (xp_set 2 scDot.nd (xd_df Da rfl hr (xa_cons (xd_var 2) (xa_cons (xd_df Dm rfl hr (xa_cons (xd_ixT (m := i) (xd_var 0) (xd_var 3) rfl (rg_at hi) rfl) (xa_cons (xd_ixL (m := i) (xd_var 1) (xd_var 3) rfl (rg_at hi) rfl) xa_nil)) ⟨x i, y i, rfl, (hx i).mono (by decide), (hy i).mono (by decide), rfl⟩) xa_nil)) ⟨_, _, rfl, hsz i (by omega), ((hx i).mul (hy i)).mono (by decide), rfl⟩))) rfl
def RToMG (ds : List Dt) (r : Dt) : Prop := ∃ (h n : Nat) (g : Nat → Nat → Rat) (F : Nat → Dt), ds = [.tup (rg h F), .int n] ∧ (∀ i, i < h → F i = dPv n (g i) ∨ F i = .lst (rg n fun j => dP (g i j))) ∧ h ≤ 8 ∧ n ≤ 8 ∧ (∀ i j, Sz 100 (g i j)) ∧ r = dMx h n g
theorem ok_toMG (F : Fun K "_law_to_matrix" "_law_to_matrix" sToM f fd) (D : Md K T mg CR CM) (I : IF' P w K T mg base 1 CM [] 1 RMI) (Dr : DF P w K T mg base "_law_ratios" 3 RRatios) : FnOk P w K mg base CX0 4 f fd ["rows", "width"] (spD K T RToMG) := by
  refine okD F scToM (fun ds r h => by obtain ⟨_, _, _, _, rfl, _⟩ := h; rfl) fun cdv A outer s H E pa ds r hr hR => ?_
  obtain ⟨h, n, g, FF, rfl, hF, hh, hn, hg, rfl⟩ := hR
  refine ⟨_, xs_one (xp_ret (xd_mk D.M I rfl (hr.mono (by decide)) (xa_cons (xd_xl (xl_map1 2 (rg h fun i => dVc n (g i)) scToM.nd (xi_tup rfl (xd_var 0)) (by rw [rg_len, rg_len]) (by rw [rg_len]; omega) rfl ?_)) (xa_cons (xd_var 1) xa_nil)) ⟨h, n, _, _, rfl, hh, fun i _ => .inr rfl, rfl⟩)), .inl ⟨_, rfl⟩⟩
  intro i d v h1 h2 sh H C cl fp
  obtain ⟨hi, rfl⟩ := rg_get h1
  obtain ⟨_, rfl⟩ := rg_get h2
  exact xd_df Dr rfl hr (xa_cons (xd_var 2) xa_nil) ⟨n, g i, _, rfl, hF i hi, hn, fun j _ => (hg i j).mono (by decide), rfl⟩
/-- the facts of Matrix -/
structure MFs (P : Program) (w : World) (K : PySem.W.Frag) (T : Ct) (mg : Str → Option Value) (base : Heap) (CM : Addr) : Prop where
  red : MF P w K T mg base CM "reduced" 6 RRed
  rank : MF P w K T mg base CM "rank" 7 RRank
  sol : MF P w K T mg base CM "solve" 6 RSol
  tr : MF P w K T mg base CM "transposed" 3 RMT
  tm : MF P w K T mg base CM "times" 6 RTim
  len : MF P w K T mg base CM "__len__" 1 RLen
  eq : MF P w K T mg base CM "__eq__" 5 RMEqX
  it : ItF P w K T mg CM 1 0
  ne : PySem.W.findIn K (.ref CM) "__ne__" = some (some (.builtin "object.__ne__"))
  ob : PySem.W.mroIn K CM (.type "object") = some true
  nt : PySem.W.notFirst K CM (.type "tuple") = true
/-- the facts of the law's own defs -/
structure LFs (P : Program) (w : World) (K : PySem.W.Frag) (T : Ct) (mg : Str → Option Value) (base : Heap) : Prop where
  draws : DF P w K T mg base "_law_draws" 3 RDraws
  small : DF P w K T mg base "_law_small" 3 RSmall
  mat : DF P w K T mg base "_law_matrix" 4 RMat
  comb : DF P w K T mg base "_law_combine" 4 RLCombG
  dot : DF P w K T mg base "_law_dot" 4 RDotL
  toM : DF P w K T mg base "_law_to_matrix" 4 RToMG
  pairs : DF P w K T mg base "_law_pairs" 3 RPairs
  ratios : DF P w K T mg base "_law_ratios" 3 RRatios
  isRed : DF P w K T mg base "_law_is_reduced" 2 RIsRed
  left : DF P w K T mg base "_law_left" 4 RLeft
def RLaw (ds : List Dt) (r : Dt) : Prop := ∃ ns : List Int, ds = [.ro (dInts ns)] ∧ r = .bl true
abbrev nLaw : List Str := ["script", "row", "height", "width", "rows", "m", "found", "pivots", "lines", "nothing", "given", "columns", "line", "word", "weights", "x", "told", "k"]
theorem scLaw : FnScope nLaw ["script"] (defScope sLaw) := ⟨rfl, rfl, rfl, by decide +kernel, rfl, by decide +kernel, by decide +kernel⟩
theorem ok_law (F : Fun K "law" "law" sLaw f fd) (D : Md K T mg CR CM) (R : RF P w K T mg base CR) (M : MFs P w K T mg base CM) (L : LFs P w K T mg base) : FnOk P w K mg base CX0 9 f fd ["script"] (spD K T RLaw) := by
  refine okD F scLaw (fun ds r h => by obtain ⟨_, rfl, _⟩ := h; rfl) fun cdv Ar outer s H E pa ds r hr hR => ?_
  obtain ⟨ns, rfl, rfl⟩ := hR
  obtain ⟨hd0, hd1⟩ := drawL_lt (ns := ns) (at_ := 0) (b := 36) (by decide) 0
  obtain ⟨h, eh, hh⟩ : ∃ h : Nat, drawL ns 0 36 0 % 5 = h ∧ h ≤ 4 := ⟨(drawL ns 0 36 0 % 5).toNat, by omega, by omega⟩
  obtain ⟨n, en, hn⟩ : ∃ h : Nat, (drawL ns 0 36 0).fdiv 5 % 5 = h ∧ h ≤ 4 := ⟨((drawL ns 0 36 0).fdiv 5 % 5).toNat, by omega, by omega⟩
  have g0 := fun t (ht : t < 4) => draws_get (ns := ns) (at_ := 0) (b := 36) ht
  generalize hL : dInts (draws ns 0 4 36) = LL at g0
  obtain ⟨A, hA⟩ : ∃ A, A = ent ns 1 h n := ⟨_, rfl⟩
  have sA : ∀ i j, Sz 4 (A i j) := fun i j => by rw [hA]; exact sz_ent ..
  have mA : RMat [.ro (dInts ns), .int 1, .int h, .int n] (.tup (rg h fun i => dPv n (A i))) := ⟨ns, 1, h, n, rfl, by decide, by decide, by omega, by omega, by rw [hA]⟩
  clear hA
  let c : Dv.Ctx := ⟨K, T, pa⟩
  let X := bX P w K mg base nLaw "law" sLaw f cdv Ar outer s H E
  have r1 : Room 1 X.A := hr.mono (by decide)
  have r2 : Room 2 X.A := hr.mono (by decide)
  have r3 : Room 3 X.A := hr.mono (by decide)
  have r4 : Room 4 X.A := hr.mono (by decide)
  have r5 : Room 5 X.A := hr.mono (by decide)
  have r6 : Room 6 X.A := hr.mono (by decide)
  have r7 : Room 7 X.A := hr.mono (by decide)
  -- the lines
  have Dn := el_done (rowsOf h A) n
  have ld := el_lead (rowsOf h A) n
  have lz0 : ∀ i, i < h → ∀ j, j < n → left (lns (el (rowsOf h A) n)) (el (rowsOf h A) n).ch.length (A i) j = 0 := fun i hi => left_zero (g := (true, A i)) (List.mem_map.mpr ⟨i, List.mem_range.mpr hi, rfl⟩)
  have l277 := fun (r : Row) (hr : r ∈ (el (rowsOf h A) n).ch) => line_sz (h := h) hn sA hr
  have lrest := fun (r : Row) (hr : r ∈ (el (rowsOf h A) n).ch) => line_rest (h := h) (n := n) (g := A) hr
  have lsol := fun (r : Row) (hr : r ∈ (el (rowsOf h A) n).ch) => line_solved (h := h) (n := n) (g := A) hr
  have lw := fun (r : Row) (hr : r ∈ (el (rowsOf h A) n).ch) => weights_ok hh hn sA hr (line_sz (h := h) hn sA hr)
  have eR : RRed [dMx h n A] (.tup [dChosen n (el (rowsOf h A) n), .tup (dInts' (el (rowsOf h A) n).pv)]) := ⟨h, n, A, rfl, by omega, hn, sA, rfl⟩
  have eRk : RRank [dMx h n A] (.int (el (rowsOf h A) n).pv.length) := ⟨h, n, A, rfl, by omega, hn, sA, rfl⟩
  have hpl := pv_le (rowsOf h A) n
  generalize hs : el (rowsOf h A) n = s1 at *
  let p : Nat := s1.ch.length
  have hp4 : p ≤ 4 := by show s1.ch.length ≤ 4; rw [Dn.len]; omega
  let Ln : Nat → Nat → Rat := fun t => (s1.ch.getD t zrow).2
  let Pv : Nat → Nat := fun t => s1.pv.getD t 0
  have at_ : ∀ t, t < p → ∃ r q, s1.ch[t]? = some r ∧ s1.pv[t]? = some q ∧ Ln t = r.2 ∧ Pv t = q ∧ r ∈ s1.ch ∧ q < n ∧ (lns s1).getD t (0, fun _ => 0) = (Pv t, Ln t) := fun t ht => by
    obtain ⟨r, q, e1, e2, e3⟩ := lns_at Dn ht
    have a1 : Ln t = r.2 := by show (s1.ch.getD t zrow).2 = _; rw [List.getD_eq_getElem?_getD, e1]; rfl
    have a2 : Pv t = q := by show s1.pv.getD t 0 = _; rw [List.getD_eq_getElem?_getD, e2]; rfl
    exact ⟨r, q, e1, e2, a1, a2, List.mem_of_getElem? e1, Dn.lt (List.mem_of_getElem? e2), by rw [e3, a1, a2]⟩
  have eF : dChosen n s1 = dMx p n Ln := by unfold dChosen dMx; rw [map_rg (fun r => dVc n r.2)]
  have eP : dInts' s1.pv = rg p fun t => .int (Pv t) := by
    have : dInts' s1.pv = rg s1.pv.length fun t => .int (s1.pv.getD t 0) := map_rgN _ _
    rw [this, ← Dn.len]
  rw [eF, eP] at eR
  have eRk : RRank [dMx h n A] (.int p) := by
    have : (s1.pv.length : Int) = (p : Int) := by show (s1.pv.length : Int) = (s1.ch.length : Int); rw [Dn.len]
    rw [← this]; exact eRk
  -- what the three walks want
  have hRed : RIsRed [.lst (rg p fun t => dPv n (Ln t)), .tup (rg p fun t => .int (Pv t)), .int n] (.bl true) := by
    refine ⟨n, p, Ln, Pv, rfl, hn, hp4, fun t ht => ?_, fun t u ht hu ne => ?_, fun t ht => ?_, rfl⟩
    · obtain ⟨r, q, e1, e2, a1, a2, _, a3, _⟩ := at_ t ht
      rw [a1, a2]
      exact ⟨a3, Dn.one t r q e1 e2, ld t r q e1 e2⟩
    · obtain ⟨r, q, e1, e2, a1, a2, _⟩ := at_ t ht
      obtain ⟨r', q', e1', e2', a1', a2', _⟩ := at_ u hu
      rw [a1', a2]
      exact Dn.off u t r' q (fun z => ne z.symm) e1' e2
    · obtain ⟨r, q, e1, e2, a1, a2, _⟩ := at_ t (by omega)
      obtain ⟨r', q', e1', e2', a1', a2', _⟩ := at_ (t + 1) ht
      rw [a2, a2']
      have sl : s1.pv.Pairwise (· < ·) := List.Pairwise.sublist Dn.sub List.pairwise_lt_range
      have h1 := (List.getElem?_eq_some_iff.mp e2)
      have h2 := (List.getElem?_eq_some_iff.mp e2')
      have := List.pairwise_iff_getElem.mp sl t (t + 1) h1.1 h2.1 (by omega)
      rw [h1.2, h2.2] at this
      exact this
  have hLeft : ∀ i, i < h → RLeft [.lst (rg p fun t => dPv n (Ln t)), dPv n (A i)] (dPv n fun _ => 0) := fun i hi => by
    refine ⟨n, p, lns s1, A i, ?_, hn, hp4, ?_, fun t ht => ?_, sA i, ?_⟩
    · have : rg p (fun t => dPv n (Ln t)) = rg p fun t => dPv n ((lns s1).getD t (0, fun _ => 0)).2 := rg_ext fun t ht => by
        obtain ⟨_, _, _, _, _, _, _, _, e⟩ := at_ t ht
        rw [e]
      rw [this]
    · unfold lns
      rw [List.length_zip, List.length_map, ← Dn.len, Nat.min_self]
    · obtain ⟨r, q, e1, e2, a1, a2, hm, a3, e⟩ := at_ t ht
      rw [e]
      show Pv t < n ∧ Ln t (Pv t) = 1 ∧ (∀ j, j < Pv t → Ln t j = 0) ∧ ∀ j, j < n → Sz 277 (Ln t j)
      rw [a1, a2]
      exact ⟨a3, Dn.one t r q e1 e2, ld t r q e1 e2, l277 r hm⟩
    · unfold dPv
      exact congrArg Dt.tup (rg_ext fun j hj => by rw [lz0 i hi j hj])
  let Wt : Nat → Nat → Rat := fun t => vL (sv h (el (augR n h (fun j i => A i j) (Ln t)) h))
  have hSol : ∀ t, t < p → RSol [dMx n h (fun j i => A i j), dVc n (Ln t)] (.tup [.str "solution", dVc h (Wt t)]) := fun t ht => by
    obtain ⟨r, q, e1, e2, a1, a2, hm, _⟩ := at_ t ht
    refine ⟨n, h, fun j i => A i j, Ln t, rfl, by omega, hh, fun i j => sA j i, ?_, ?_, rfl⟩
    · rw [a1]; exact l277 r hm
    · rw [a1]; exact lrest r hm
  have hComb : ∀ t, t < p → RLCombG [.tup (rg h fun i => dPv n (A i)), .int n, dPv h (Wt t)] (dPv n (Ln t)) := fun t ht => by
    obtain ⟨r, q, e1, e2, a1, a2, hm, _⟩ := at_ t ht
    obtain ⟨cc, c1, c2, c3⟩ := lw r hm
    refine ⟨h, n, A, Wt t, cc, rfl, by omega, by omega, sA, ?_, c2, c3, ?_⟩
    · show ∀ i, i < h → Sz (cc i) (vL (sv h (el (augR n h (fun j i => A i j) (Ln t)) h)) i)
      rw [a1]; exact c1
    · unfold dPv
      refine congrArg Dt.tup (rg_ext fun j hj => ?_)
      have := lsol r hm j hj
      show dP (Ln t j) = dP (sumTo (fun i => vL (sv h (el (augR n h (fun j i => A i j) (Ln t)) h)) i * A i j) h)
      rw [a1, this]
  have sLn : ∀ t, t < p → ∀ j, j < n → Sz 4000 (Ln t j) := fun t ht j hj => by
    obtain ⟨r, q, e1, e2, a1, a2, hm, _⟩ := at_ t ht
    rw [a1]; exact (l277 r hm j hj).mono (by decide)
  let xv : Nat → Rat := fun k => small (drawL ns 0 36 1 + 2 * k) (drawL ns 0 36 2 + k)
  have sx : ∀ j, Sz 4 (xv j) := fun j => small_sz _ _
  have m64 : ∀ i : Int, IntMulOk 2 i := fun i => IntMulOk.of_left (bits64 (by decide) (by decide))
  let B : Store := [some (.fr (.ro (dInts ns))), some (.fr (.lst LL)), some (.fr (.int h)), some (.fr (.int n)), some (.fr (.tup (rg h fun i => dPv n (A i)))), some (.fr (dMx h n A)), some (.fr (dMx p n Ln)), some (.fr (.tup (rg p fun t => .int (Pv t)))), some (.fr (.lst (rg p fun t => dPv n (Ln t)))), some (.fr (dPv n fun _ => 0))]
  let S1 : Nat → Store := fun i => B ++ [slot (fun i => dPv n (A i)) i, none, none, none, none, none, none, none]
  let S2 : Nat → Store := fun t => B ++ [none, some (.fr (dMx n h fun j i => A i j)), slot (fun t => dPv n (Ln t)) t, slot (fun _ => .str "solution") t, slot (fun t => dPv h (Wt t)) t, none, none, none]
  have el1 : ((rg p fun t => Dt.int (Pv t)).length : Int) = p := by rw [rg_len]
  have el2 : ((rg p fun t => dPv n (Ln t)).length : Int) = p := by rw [rg_len]
  have zeros : ∀ (st : Store), True := fun _ => trivial
  have p1 : ∀ o, XS c X ((defBody sLaw).drop 10) (S1 0) o → XS c X (defBody sLaw) (st0 nLaw [.ro (dInts ns)]) o := fun o z => by
    refine xs_cons (xp_set 1 scLaw.nd (xd_df L.draws rfl r3 (xa_cons (xd_var 0) (xa_cons xd_int (xa_cons xd_int (xa_cons xd_int xa_nil)))) ⟨ns, 0, 4, 36, rfl, by decide, by decide, by decide, by decide, by decide, by rw [hL]⟩))
      (xs_cons (xp_set 2 scLaw.nd (XD.to (xd_mod (xd_ixL (m := 0) (xd_var 1) xd_int rfl (g0 0 (by decide)) rfl) xd_int (by decide)) (congrArg Dt.int eh)))
      (xs_cons (xp_set 3 scLaw.nd (XD.to (xd_mod (xd_fdiv (xd_ixL (m := 0) (xd_var 1) xd_int rfl (g0 0 (by decide)) rfl) xd_int (by decide) (by decide)) xd_int (by decide)) (congrArg Dt.int en)))
      (xs_cons (xp_set 4 scLaw.nd (xd_df L.mat rfl r4 (xa_cons (xd_var 0) (xa_cons xd_int (xa_cons (xd_var 2) (xa_cons (xd_var 3) xa_nil)))) mA))
      (xs_cons (xp_set 5 scLaw.nd (xd_df L.toM rfl r4 (xa_cons (xd_var 4) (xa_cons (xd_var 3) xa_nil)) ⟨h, n, A, fun i => dPv n (A i), rfl, fun i _ => .inl rfl, by omega, by omega, fun i j => (sA i j).mono (by decide), rfl⟩))
      (xs_cons (xp_asg (xd_mf0 (xd_var 5) D.M M.red rfl r6 eR) (xg_tup (n := 2) rfl rfl (xgs_cons (xg_name 6 scLaw.nd) (xgs_cons (xg_name 7 scLaw.nd) xgs_nil)) rfl))
      (xs_cons (xp_if (tb := false) (xw_pt (xw_orF (xt_not (t := true) (xt_val (xd_isOwn (xd_var 6) D.M D.MX rfl D.isi))) (xw_orF (xt_neI (xd_ff 1 (xd_var 6) D.M rfl D.Mw) (xd_var 3) (by rw [decide_eq_true rfl]; rfl)) (xw_or1 (xt_neI (xd_mf0 (xd_var 5) D.M M.rank rfl r7 eRk) (xd_len (xd_var 7) (.inr (.inr rfl)) rfl D.len) (by rw [el1, decide_eq_true rfl]; rfl)))))) (fun z => nomatch z) (fun _ => xs_nil))
      (xs_cons (xp_map1 8 false 12 (rg p fun t => dPv n (Ln t)) scLaw.nd (xi_own (ys := rg p fun t => dVc n (Ln t)) (xd_var 6) D.M M.it rfl r1 rfl) (by rw [rg_len, rg_len]) (by rw [rg_len]; omega) rfl ?_)
      (xs_cons (xp_if (tb := false) (xw_pt (xw_orF (xt_neI (xd_lenF (xd_var 6) D.M M.len rfl r2 ⟨p, n, Ln, rfl, rfl⟩ (by omega) (by omega) D.len) (xd_len (xd_var 8) (.inl rfl) rfl D.len) (by rw [el2, decide_eq_true rfl]; rfl)) (xw_or1 (xt_not (t := true) (xt_val (xd_df L.isRed rfl r2 (xa_cons (xd_var 8) (xa_cons (xd_var 7) (xa_cons (xd_var 3) xa_nil))) hRed)))))) (fun z => nomatch z) (fun _ => xs_nil))
      (xs_cons (xp_set 9 scLaw.nd (xd_tuple (xd_xl (xl_map1 17 (rg n fun _ => dP 0) scLaw.nd (xi_range1 (n := (n : Int)) (xd_var 3) (by omega) (by omega) D.ran) (by rw [rg_len]; simp) (by simp; omega) rfl ?_)) (.inl rfl) rfl D.tup))
      z)))))))))
    · intro t d v h1 h2 sh H C cl fp
      obtain ⟨ht, rfl⟩ := rg_get h1
      obtain ⟨_, rfl⟩ := rg_get h2
      exact xd_df L.pairs rfl r3 (xa_cons (xd_var 12) (xa_cons (xd_var 3) xa_nil)) ⟨n, Ln t, rfl, by omega, rfl⟩
    · intro k d v h1 h2 sh H C cl fp
      obtain ⟨_, rfl⟩ := rg_get h2
      exact xd_tup (xa_cons xd_int (xa_cons xd_int xa_nil)) (by simp)
  have p2 : ∀ o, XS c X ((defBody sLaw).drop 13) (S2 0) o → XS c X ((defBody sLaw).drop 10) (S1 0) o := fun o z => by
    refine xs_cons (XP.to (s2 := (S1 h).set 10 none) (XP.drop 10 (XP.to (s2 := S1 h) (xp_forN S1 h (ds := rg h fun i => dPv n (A i)) (by rw [rg_len]) (xi_tup rfl (xd_var 4)) ?_) rfl)) rfl)
      (xs_cons (xp_set 11 scLaw.nd (xd_mf0 (d := dMx n h fun j i => A i j) (xd_var 5) D.M M.tr rfl r3 ⟨h, n, A, rfl, by omega, by omega, rfl⟩))
      (xs_cons (xp_if (tb := false) (xw_pt (xw_orF (xt_neI (xd_ff 1 (xd_var 11) D.M rfl D.Mw) (xd_var 2) (by rw [decide_eq_true rfl]; rfl)) (xw_orF (xt_neI (xd_lenF (xd_var 11) D.M M.len rfl r2 ⟨n, h, fun j i => A i j, rfl, rfl⟩ (by omega) (by omega) D.len) (xd_var 3) (by rw [decide_eq_true rfl]; rfl))
        (xw_or1 (xt_neF (t := true) (xd_mf0 (d := dMx h n A) (xd_mf0 (d := dMx n h fun j i => A i j) (xd_var 5) D.M M.tr rfl r3 ⟨h, n, A, rfl, by omega, by omega, rfl⟩) D.M M.tr rfl r3 ⟨n, h, fun j i => A i j, rfl, by omega, by omega, rfl⟩) (xd_var 5) D.M M.eq rfl r6 M.ne M.ob (.mx ⟨fun _ => ⟨rfl, fun _ _ _ _ => rfl⟩, fun _ => rfl⟩)))))) (fun z => nomatch z) (fun _ => xs_nil))
      z))
    intro i d hd
    obtain ⟨hi, rfl⟩ := rg_get hd
    exact Turns.nx (xg_name 10 scLaw.nd) (xs_one (xp_if (tb := false) (xt_neP (k := 2) (xd_df L.left rfl r4 (xa_cons (xd_var 8) (xa_cons (xd_var 10) xa_nil)) (hLeft i hi)) (xd_var 9) (pl_dPv (k := 0) _) (by decide) rfl r4) (fun z => nomatch z) (fun _ => xs_nil))) rfl
  refine ⟨_, p1 _ (p2 _ (xs_cons (XP.to (s2 := S2 p) (xp_forN S2 p (ds := rg p fun t => dPv n (Ln t)) (by rw [rg_len]) (xi_list rfl (xd_var 8)) ?_) rfl)
    (xs_cons (xp_set 15 scLaw.nd (xd_xl (xl_map1 17 (rg n fun k => dP (xv k)) scLaw.nd (xi_range1 (n := (n : Int)) (xd_var 3) (by omega) (by omega) D.ran) (by rw [rg_len]; simp) (by simp; omega) rfl ?_)))
    (xs_cons (xp_set 16 scLaw.nd (xd_df (d := dPv h fun i => sumTo (fun t => A i t * xv t) n) L.pairs rfl r3 (xa_cons (xd_mf (d := dVc h fun i => sumTo (fun t => A i t * xv t) n) (xd_var 5) D.M M.tm rfl r6 (xa_cons (xd_df (d := dVc n xv) L.ratios rfl r3 (xa_cons (xd_var 15) xa_nil) ⟨n, xv, _, rfl, .inr rfl, by omega, fun j _ => (sx j).mono (by decide), rfl⟩) xa_nil) ⟨h, n, A, xv, rfl, by omega, by omega, fun i j => (sA i j).mono (by decide), fun i => (sx i).mono (by decide), rfl⟩) (xa_cons (xd_var 2) xa_nil)) ⟨h, _, rfl, by omega, rfl⟩))
    (xs_cons (xp_if (tb := false) (xt_neP (k := 2) (xd_var 16) (xd_tuple (xd_xl (xl_map1 10 (rg h fun i => dP (sumTo (fun t => A i t * xv t) n)) scLaw.nd (xi_tup rfl (xd_var 4)) (by rw [rg_len, rg_len]) (by rw [rg_len]; omega) rfl ?_)) (.inl rfl) rfl D.tup) (pl_dPv (k := 0) _) (by decide) rfl r4) (fun z => nomatch z) (fun _ => xs_nil))
    (xs_one (xp_ret (xd_and (t := true) (u := true) (xd_eqF (xd_var 5) (xd_df (d := dMx h n A) L.toM rfl r4 (xa_cons (xd_var 4) (xa_cons (xd_var 3) xa_nil)) ⟨h, n, A, fun i => dPv n (A i), rfl, fun i _ => .inl rfl, by omega, by omega, fun i j => (sA i j).mono (by decide), rfl⟩) D.M M.eq rfl r5 (.mx ⟨fun _ => ⟨rfl, fun _ _ _ _ => rfl⟩, fun _ => rfl⟩)) fun _ =>
      xd_and (t := true) (u := true) (xd_neF (t := false) (xd_var 5) (xd_df (d := dMx (h + 1) n fun i j => if i < h then A i j else xv j) L.toM rfl r4 (xa_cons (xd_tcat (xd_var 4) (xd_tup (xa_cons (xd_var 15) xa_nil) (by simp)) rfl (by rw [rg_len]; simp; omega)) (xa_cons (xd_var 3) xa_nil)) ⟨h + 1, n, fun i j => if i < h then A i j else xv j, fun i => if i < h then dPv n (A i) else .lst (rg n fun j => dP (xv j)), ?_, ?_, by omega, by omega, ?_, rfl⟩) D.M M.eq rfl r6 M.ne M.ob (.mx ⟨(fun z => nomatch z), fun z => absurd z.1 (by omega)⟩)) fun _ =>
      xd_and (t := true) (u := true) (XD.to (xd_eqI (xd_lenF (xd_var 5) D.M M.len rfl r2 ⟨h, n, A, rfl, rfl⟩ (by omega) (by omega) D.len) (xd_var 2)) (by rw [decide_eq_true rfl])) fun _ =>
      xd_one (xd_neX (t := false) (xd_var 5) (xd_var 4) D.M M.eq rfl r6 M.ne M.ob M.nt .tup))))))))), .inl ⟨_, rfl⟩⟩
  · intro t d hd
    obtain ⟨ht, rfl⟩ := rg_get hd
    exact Turns.nx (xg_name 12 scLaw.nd) (xs_cons (xp_asg (xd_mf (xd_var 11) D.M M.sol rfl r6 (xa_cons (xd_df (d := dVc n (Ln t)) L.ratios rfl r3 (xa_cons (xd_var 12) xa_nil) ⟨n, Ln t, _, rfl, .inl rfl, by omega, sLn t ht, rfl⟩) xa_nil) (hSol t ht)) (xg_tup (n := 2) rfl rfl (xgs_cons (xg_name 13 scLaw.nd) (xgs_cons (xg_name 14 scLaw.nd) xgs_nil)) rfl))
      (xs_cons (xp_set 14 scLaw.nd (xd_df (d := dPv h (Wt t)) L.pairs rfl r3 (xa_cons (xd_var 14) (xa_cons (xd_var 2) xa_nil)) ⟨h, Wt t, rfl, by omega, rfl⟩))
      (xs_one (xp_if (tb := false) (xw_pt (xw_orF (xt_neS (xd_var 13) xd_str rfl rfl rfl (by decide)) (xw_orF (xt_isN (xd_var 14) rfl) (xw_or1 (xt_neP (k := 2) (xd_df L.comb rfl r4 (xa_cons (xd_var 4) (xa_cons (xd_var 3) (xa_cons (xd_var 14) xa_nil))) (hComb t ht)) (xd_var 12) (pl_dPv (k := 0) _) (by decide) rfl r4))))) (fun z => nomatch z) (fun _ => xs_nil))))) rfl
  · intro k d v h1 h2 sh H C cl fp
    obtain ⟨hk, rfl⟩ := rng_get (n := n) (by simpa using h1)
    obtain ⟨_, rfl⟩ := rg_get h2
    exact xd_df L.small rfl r3 (xa_cons (xd_add (xd_ixL (m := 1) (xd_var 1) xd_int rfl (g0 1 (by decide)) rfl) (xd_mul xd_int (xd_var 17) (m64 _))) (xa_cons (xd_add (xd_ixL (m := 2) (xd_var 1) xd_int rfl (g0 2 (by decide)) rfl) (xd_var 17)) xa_nil)) ⟨_, _, rfl, rfl⟩
  · intro i d v h1 h2 sh H C cl fp
    obtain ⟨hi, rfl⟩ := rg_get h1
    obtain ⟨_, rfl⟩ := rg_get h2
    exact xd_df L.dot rfl r4 (xa_cons (xd_var 10) (xa_cons (xd_var 15) xa_nil)) ⟨n, A i, xv, rfl, hn, sA i, sx, rfl⟩
  · have e : (rg h fun i => dPv n (A i)) ++ [Dt.lst (rg n fun j => dP (xv j))] = rg (h + 1) fun i => if i < h then dPv n (A i) else .lst (rg n fun j => dP (xv j)) := by
      rw [← rg_snoc, if_neg (Nat.lt_irrefl h)]
      congr 1
      exact rg_ext fun i hi => by rw [if_pos hi]
    rw [e]
  · intro i hi
    show (if i < h then dPv n (A i) else .lst (rg n fun j => dP (xv j))) = _ ∨ (if i < h then dPv n (A i) else .lst (rg n fun j => dP (xv j))) = _
    by_cases q : i < h
    · rw [if_pos q]
      exact .inl (congrArg Dt.tup (rg_ext fun j _ => by show dP (A i j) = dP (if i < h then A i j else xv j); rw [if_pos q]))
    · rw [if_neg q]
      exact .inr (congrArg Dt.lst (rg_ext fun j _ => by show dP (xv j) = dP (if i < h then A i j else xv j); rw [if_neg q]))
  · intro i j
    show Sz 100 (if i < h then A i j else xv j)
    split
    · exact (sA i j).mono (by decide)
    · exact (sx j).mono (by decide)
end
end My
set_option autoImplicit false
set_option maxRecDepth 100000
set_option maxHeartbeats 4000000
namespace My
open PySem PySem.Spec PyProof.Rows L2 Dv Mq
/-! ### what the module holds, def by def -/
def DefAt (K : PySem.W.Frag) (x : Str) (st : Stmt) : Prop := ∃ (f : Addr) (oc : Value) (od an : Option Addr) (kV dc pm cd ct : Value) (sl : Array (Option Value)), PySem.W.nsIn K mainGlobals x = some (some (.ref f)) ∧
  K.lookup f = some ⟨oc, od, .func (PySem.W.fnOf x x (defArgs st) (defBody st) (defScope st) .none kV dc pm an cd ct), sl⟩ ∧ PySem.W.codeIn K cd x = true ∧ PySem.W.keepIn K (.ref f) = true
def MethAt (K : PySem.W.Frag) (C : Addr) (m q : Str) (st : Stmt) : Prop := ∃ (f : Addr) (oc : Value) (od an : Option Addr) (kV dc pm cd ct : Value) (sl : Array (Option Value)), PySem.W.findIn K (.ref C) m = some (some (.ref f)) ∧ PySem.W.isFn K (.ref f) = true ∧
  K.lookup f = some ⟨oc, od, .func (PySem.W.fnOf m q (defArgs st) (defBody st) (defScope st) .none kV dc pm an cd ct), sl⟩ ∧ PySem.W.codeIn K cd q = true ∧ PySem.W.keepIn K (.ref f) = true
/-- a method whose last arguments have defaults -/
def MethDAt (K : PySem.W.Frag) (C : Addr) (m q : Str) (st : Stmt) (i : Int) : Prop := ∃ (f : Addr) (oc : Value) (od an : Option Addr) (kV dc pm cd ct : Value) (sl : Array (Option Value)) (t : Addr) (oc2 : Value) (od2 : Option Addr) (sl2 : Array (Option Value)) (tk : Tok) (n2 : Nat), PySem.W.findIn K (.ref C) m = some (some (.ref f)) ∧ PySem.W.isFn K (.ref f) = true ∧
  K.lookup f = some ⟨oc, od, .func (PySem.W.fnOf m q (defArgs st) (defBody st) (defScope st) (.ref t) kV dc pm an cd ct), sl⟩ ∧ K.lookup t = some ⟨oc2, od2, .seq #[.int i tk] n2, sl2⟩ ∧ PySem.W.codeIn K cd q = true ∧ PySem.W.keepIn K (.ref f) = true
/-- an own class -/
structure ClsOf (K : PySem.W.Frag) (x : Str) (C : Addr) : Prop where
  at_ : PySem.W.nsIn K mainGlobals x = some (some (.ref C))
  pg : PySem.W.plainGet K C Str.empty = true
  hd : PySem.W.hasDictIn K C = true
  po : PySem.W.plainOver K C = true
  sa : PySem.W.findIn K (.ref C) "__setattr__" = some (some (.builtin "object.__setattr__"))
  mks : PySem.W.makesIn K C = true
  kp : PySem.W.keepIn K (.ref C) = true
  ha : PySem.W.findIn K (.ref C) "__class__" = some (some (.builtin "object.__class__"))
  hn : PySem.W.specialIn K (.builtin "object.__class__") "__get__" = some (some (.builtin "getset_descriptor.__get__"))
  tk : PySem.W.takesIn K (.builtin "object.__class__") = some true
  ob : PySem.W.mroIn K C (.type "object") = some true
  sf : PySem.W.selfFirst K C = true
theorem def_mk {K : PySem.W.Frag} {x : Str} {st : Stmt} {f : Addr} {oc : Value} {od an : Option Addr} {kV dc pm cd ct : Value} {sl : Array (Option Value)} (a : PySem.W.nsIn K mainGlobals x = some (some (.ref f)))
  (l : K.lookup f = some ⟨oc, od, .func (PySem.W.fnOf x x (defArgs st) (defBody st) (defScope st) .none kV dc pm an cd ct), sl⟩) (c : PySem.W.codeIn K cd x = true) (k : PySem.W.keepIn K (.ref f) = true) : DefAt K x st := ⟨f, oc, od, an, kV, dc, pm, cd, ct, sl, a, l, c, k⟩
theorem meth_mk {K : PySem.W.Frag} {C : Addr} {m q : Str} {st : Stmt} {f : Addr} {oc : Value} {od an : Option Addr} {kV dc pm cd ct : Value} {sl : Array (Option Value)} (a : PySem.W.findIn K (.ref C) m = some (some (.ref f))) (i : PySem.W.isFn K (.ref f) = true)
  (l : K.lookup f = some ⟨oc, od, .func (PySem.W.fnOf m q (defArgs st) (defBody st) (defScope st) .none kV dc pm an cd ct), sl⟩) (c : PySem.W.codeIn K cd q = true) (k : PySem.W.keepIn K (.ref f) = true) : MethAt K C m q st := ⟨f, oc, od, an, kV, dc, pm, cd, ct, sl, a, i, l, c, k⟩
theorem methd_mk {K : PySem.W.Frag} {C : Addr} {m q : Str} {st : Stmt} {n : Int} {f : Addr} {oc : Value} {od an : Option Addr} {kV dc pm cd ct : Value} {sl : Array (Option Value)} {t : Addr} {oc2 : Value} {od2 : Option Addr} {sl2 : Array (Option Value)} {tk : Tok} {n2 : Nat} (a : PySem.W.findIn K (.ref C) m = some (some (.ref f))) (i : PySem.W.isFn K (.ref f) = true)
  (l : K.lookup f = some ⟨oc, od, .func (PySem.W.fnOf m q (defArgs st) (defBody st) (defScope st) (.ref t) kV dc pm an cd ct), sl⟩) (l2 : K.lookup t = some ⟨oc2, od2, .seq #[.int n tk] n2, sl2⟩) (c : PySem.W.codeIn K cd q = true) (k : PySem.W.keepIn K (.ref f) = true) : MethDAt K C m q st n := ⟨f, oc, od, an, kV, dc, pm, cd, ct, sl, t, oc2, od2, sl2, tk, n2, a, i, l, l2, c, k⟩
section
variable {P : Program} {w : World} {K : PySem.W.Frag} {T : Ct} {mg : Str → Option Value} {base : Heap}
theorem DefAt.df {x : Str} {st : Stmt} {k : Nat} {R : List Dt → Dt → Prop} {ps : List Str} {h : Heap} (D : DefAt K x st) (X : K.In h) (G : h.Ns mainGlobals mg)
    (ok : ∀ f fd, Fun K x x st f fd → FnOk P w K mg base CX0 k f fd ps (spD K T R)) (hb : ∀ (kV doc pm : Value) (an : Option Addr) (cdv ct : Value) (us : List Value), us.length = ps.length → bindArgs (PySem.W.fnOf x x (defArgs st) (defBody st) (defScope st) .none kV doc pm an cdv ct) { pos := us } = pure (ps.zip us)) : DF P w K T mg base x k R := by
  obtain ⟨f, oc, od, an, kV, dc, pm, cd, ct, sl, a, l, c, kp⟩ := D
  have F := fun_mk (st := st) l c kp
  exact ⟨f, _, ps, ok f _ F, PySem.W.mg_of X G a, kp, F.binds hb⟩
theorem MethAt.mf {C : Addr} {m q : Str} {st : Stmt} {k : Nat} {R : List Dt → Dt → Prop} {ps : List Str} (D : MethAt K C m q st)
    (ok : ∀ f fd, Fun K m q st f fd → FnOk P w K mg base CX0 k f fd ps (spD K T R)) (hb : ∀ (kV doc pm : Value) (an : Option Addr) (cdv ct : Value) (us : List Value), us.length = ps.length → bindArgs (PySem.W.fnOf m q (defArgs st) (defBody st) (defScope st) .none kV doc pm an cdv ct) { pos := us } = pure (ps.zip us)) : MF P w K T mg base C m k R := by
  obtain ⟨f, oc, od, an, kV, dc, pm, cd, ct, sl, a, i, l, c, kp⟩ := D
  have F := fun_mk (st := st) l c kp
  exact ⟨f, _, ps, ok f _ F, ⟨a, i, kp⟩, F.binds hb⟩
theorem MethAt.init {C : Addr} {q : Str} {st : Stmt} {k n : Nat} {Rf : List Dt → List Dt → Prop} {ps : List Str} {x : Str} (D : MethAt K C "__init__" q st) (Q : ClsOf K x C)
    (ok : ∀ f fd, Fun K "__init__" q st f fd → FnOk P w K mg base CX0 k f fd ps (spI K T n Rf)) (hb : ∀ (kV doc pm : Value) (an : Option Addr) (cdv ct : Value) (us : List Value), us.length = ps.length → bindArgs (PySem.W.fnOf "__init__" q (defArgs st) (defBody st) (defScope st) .none kV doc pm an cdv ct) { pos := us } = pure (ps.zip us)) : IF' P w K T mg base n C [] k Rf := by
  obtain ⟨f, oc, od, an, kV, dc, pm, cd, ct, sl, a, i, l, c, kp⟩ := D
  have F := fun_mk (st := st) l c kp
  exact ⟨f, _, ps, [], [], ok f _ F, ⟨Q.mks, a, i, Q.kp⟩, F.binds hb, .nil, fun G => .nil⟩
theorem ClsOf.cf {x : Str} {C : Addr} {n : Nat} {ns : List Str} {h : Heap} (Q : ClsOf K x C) (hT : T n = some (C, ns)) (X : K.In h) (G : h.Ns mainGlobals mg) : CF K T mg x n C ns := ⟨hT, ⟨Q.pg, Q.hd, Q.po, Q.sa⟩, PySem.W.mg_of X G Q.at_⟩
theorem ClsOf.cx {x : Str} {C : Addr} (Q : ClsOf K x C) : ClsX K C := ⟨⟨Q.pg, Q.hd, Q.po, Q.sa⟩, Q.ha, Q.hn, Q.tk, Q.ob⟩
theorem kit_tup {C : Addr} (h2 : PySem.W.isClsIn K C = true) (h3 : PySem.W.typeIn K (.ref C) = some (.type "type")) (h4 : PySem.W.subIn K (.type "tuple") (.ref C) = some false) : PySem.W.kitOne K (.type "tuple") (.ref C) = some false := by
  unfold PySem.W.kitOne PySem.W.kitCls
  unfold PySem.W.isClsIn at h2
  simp [h2, h3, h4]
theorem MethAt.itf {C : Addr} {q : Str} {st : Stmt} {n i : Nat} (D : MethAt K C "__iter__" q st)
    (ok : ∀ f fd, Fun K "__iter__" q st f fd → ∀ base, FnOk P w K mg base CX0 1 f fd ["self"] (spIt base K T n i)) (hb : ∀ (kV doc pm : Value) (an : Option Addr) (cdv ct : Value) (us : List Value), us.length = 1 → bindArgs (PySem.W.fnOf "__iter__" q (defArgs st) (defBody st) (defScope st) .none kV doc pm an cdv ct) { pos := us } = pure ((["self"] : List Str).zip us)) : ItF P w K T mg C n i := by
  obtain ⟨f, oc, od, an, kV, dc, pm, cd, ct, sl, a, i, l, c, kp⟩ := D
  have F := fun_mk (st := st) l c kp
  exact ⟨f, _, fun base => ok f _ F base, ⟨a, i⟩, F.binds hb⟩
end
end My
set_option autoImplicit false
set_option maxRecDepth 100000
set_option maxHeartbeats 4000000
namespace My
open PySem PySem.Spec PyProof.Rows L2 Dv Mq
/-- law's promise, by places -/
def spTop (K : PySem.W.Frag) : Sp := fun vs H Q _ => ∃ (a : Addr) (ns : List Int), vs = [.ref a] ∧ SqL K H a (ns.map V.int) ∧ ∀ H', Q (.bl true) H'
theorem reps_ints {K : PySem.W.Frag} {T : Ct} {G : Hp} : ∀ ns : List Int, Reps K T G (dInts ns) (ns.map V.int)
  | [] => .nil
  | n :: ns => .cons .int (reps_ints ns)
def tabl (CR CM : Addr) : Ct := fun n => match n with
  | 0 => some (CR, ["n", "d"])
  | 1 => some (CM, ["rows", "width"])
  | _ => none
theorem all_mk {l : PySem.W.OpenLaw} {w : World} {K : PySem.W.Frag} {h : Heap} {mg : Str → Option Value} {fa CR CM : Addr} (X : K.In h) (G : h.Ns mainGlobals mg) (hfa : mg "law" = some (.ref fa))
    (cR : ClsOf K "Ratio" CR) (cM : ClsOf K "Matrix" CM)
    (nn : PySem.W.findIn K (.ref CR) "n" = some none) (nd : PySem.W.findIn K (.ref CR) "d" = some none) (nr : PySem.W.findIn K (.ref CM) "rows" = some none) (nw : PySem.W.findIn K (.ref CM) "width" = some none)
    (zg : PySem.W.nsIn K mainGlobals "gcd" = some (some (.builtin "math.gcd")))
    (zi : PySem.W.nsIn K mainGlobals "isinstance" = some none) (zl : PySem.W.nsIn K mainGlobals "len" = some none) (zt : PySem.W.nsIn K mainGlobals "tuple" = some none) (zz : PySem.W.nsIn K mainGlobals "zip" = some none) (zr : PySem.W.nsIn K mainGlobals "range" = some none) (zn : PySem.W.nsIn K mainGlobals "int" = some none) (zb : PySem.W.nsIn K mainGlobals "bool" = some none) (za : PySem.W.nsIn K mainGlobals "abs" = some none) (ze : PySem.W.nsIn K mainGlobals "enumerate" = some none) (zs : PySem.W.nsIn K mainGlobals "list" = some none) (zk : PySem.W.nsIn K mainGlobals "all" = some none) (zv : PySem.W.nsIn K mainGlobals "iter" = some none)
    (ne : PySem.W.findIn K (.ref CM) "__ne__" = some (some (.builtin "object.__ne__"))) (nt : PySem.W.notFirst K CM (.type "tuple") = true) (iw : PySem.W.isClsIn K CM = true) (tw : PySem.W.typeIn K (.ref CM) = some (.type "type")) (sw : PySem.W.subIn K (.type "tuple") (.ref CM) = some false)
    (mRI : MethDAt K CR "__init__" "Ratio.__init__" sRI 1) (mRA : MethAt K CR "__add__" "Ratio.__add__" sRA) (mRS : MethAt K CR "__sub__" "Ratio.__sub__" sRS) (mRM : MethAt K CR "__mul__" "Ratio.__mul__" sRM) (mRE : MethAt K CR "__eq__" "Ratio.__eq__" sRE) (mRV : MethAt K CR "inverse" "Ratio.inverse" sRV) (mRZ : MethAt K CR "is_zero" "Ratio.is_zero" sRZ) (mMI : MethAt K CM "__init__" "Matrix.__init__" sMI) (mML : MethAt K CM "__len__" "Matrix.__len__" sML) (mMJ : MethAt K CM "__iter__" "Matrix.__iter__" sMIt) (mME : MethAt K CM "__eq__" "Matrix.__eq__" sME) (mMT : MethAt K CM "transposed" "Matrix.transposed" sMT) (mMX : MethAt K CM "times" "Matrix.times" sMX) (mMR : MethAt K CM "reduced" "Matrix.reduced" sMR) (mMQ : MethAt K CM "rank" "Matrix.rank" sMRk) (mMV : MethAt K CM "solve" "Matrix.solve" sMV)
    (dZ : DefAt K "zero" sZero) (dO : DefAt K "one" sOne) (dE : DefAt K "_eliminate" sElim) (dF : DefAt K "_first_filled" sFirst) (dC : DefAt K "_cleared" sClr) (dPl : DefAt K "_placed" sPl) (d1 : DefAt K "_law_cell" sCell) (d2 : DefAt K "_law_draws" sDraws) (d3 : DefAt K "_law_gcd" sGcd) (d4 : DefAt K "_law_rat" sRat) (d5 : DefAt K "_law_add" sAdd) (d6 : DefAt K "_law_mul" sMul) (d7 : DefAt K "_law_is_integer" sIsI) (d8 : DefAt K "_law_pair" sPair) (d9 : DefAt K "_law_pairs" sPairs) (d10 : DefAt K "_law_ratios" sRatios) (d11 : DefAt K "_law_small" sSmall) (d12 : DefAt K "_law_matrix" sMat) (d13 : DefAt K "_law_combine" sLComb) (d14 : DefAt K "_law_to_matrix" sToM) (d15 : DefAt K "_law_dot" sDot) (d17 : DefAt K "_law_pivot" sPiv) (d18 : DefAt K "_law_is_reduced" sIsRed) (d19 : DefAt K "total" sTotal) (d20 : DefAt K "dot" sDotP) (d21 : DefAt K "_law_left" sLeft) (d16 : DefAt K "law" sLaw) :
    ∃ fd : FuncData, (∀ (s : Shared) (v : Value), BindsTo s fd ⟨[v], []⟩ [("script", v)]) ∧ ∀ base : Heap, K.In base → base.Ns mainGlobals mg → FnOk l.prog w K mg base CX0 9 fa fd ["script"] (spTop K) := by
  obtain ⟨f16, oc, od, an, kV, dc, pm, cd, ct, sl, a16, l16, c16, k16⟩ := d16
  have e := hfa.symm.trans (PySem.W.mg_of X G a16)
  cases e
  have F16 := fun_mk (st := sLaw) l16 c16 k16
  refine ⟨PySem.W.fnOf "law" "law" (defArgs sLaw) (defBody sLaw) (defScope sLaw) .none kV dc pm an cd ct, fun s v => .of_eq rfl, fun base X' G' => ?_⟩
  have hT0 : tabl CR CM 0 = some (CR, (["n", "d"] : List Str)) := rfl
  have hT1 : tabl CR CM 1 = some (CM, (["rows", "width"] : List Str)) := rfl
  have D : Md K (tabl CR CM) mg CR CM := ⟨cR.cf hT0 X G, cM.cf hT1 X G, nn, nd, nr, nw, cR.cx, cM.cx, cR.sf, cM.sf, PySem.W.mg_of X G zg, PySem.W.mg_none_of X G zi, PySem.W.mg_none_of X G zl, PySem.W.mg_none_of X G zt, PySem.W.mg_none_of X G zz, PySem.W.mg_none_of X G zr, PySem.W.mg_none_of X G zn, PySem.W.mg_none_of X G zb⟩
  have habs := PySem.W.mg_none_of X G za
  have henum := PySem.W.mg_none_of X G ze
  have hlist := PySem.W.mg_none_of X G zs
  have hall := PySem.W.mg_none_of X G zk
  -- Ratio
  obtain ⟨fI, ocI, odI, anI, kVI, dcI, pmI, cdI, ctI, slI, tI, oc2, od2, sl2, tk, n2, aI, iI, lI, lT, cI, kI⟩ := mRI
  have FI : FunD K "__init__" "Ratio.__init__" (defArgs sRI) (defBody sRI) (defScope sRI) [V.int 1] [] fI _ := ⟨⟨_, _, _, _, _, _, _, _, _, _, rfl, lI, cI, .inr ⟨by simp, tI, _, _, _, rfl, lT, rfl, .cons ⟨tk, rfl⟩ .nil⟩, .inl rfl⟩, kI⟩
  have okI : FnOk l.prog w K mg base CX0 1 fI _ ["self", "n", "d"] (spI K (tabl CR CM) 0 RIn) := ok_RI FI D
  have MkI : Mk K CR fI := ⟨cR.mks, aI, iI, cR.kp⟩
  obtain ⟨us2, v2, b2⟩ := FI.binds1 (ps := ["self", "n", "d"]) 3 1 (by simp) rfl (fun T kV doc pm an cdv ct us its h1 h2 => match us, its, h1, h2 with | [_, _, _], [_], _, _ => ⟨_, rfl, rfl⟩)
  obtain ⟨us1, v1, b1⟩ := FI.binds1 (ps := ["self", "n", "d"]) 2 0 (by simp) rfl (fun T kV doc pm an cdv ct us its h1 h2 => match us, its, h1, h2 with | [_, _], [_], _, _ => ⟨_, rfl, rfl⟩)
  have i2 : IF' l.prog w K (tabl CR CM) mg base 0 CR [] 1 RIn := ⟨fI, _, _, _, us2, okI, MkI, b2, v2, fun G => .nil⟩
  have i1 : IF' l.prog w K (tabl CR CM) mg base 0 CR [.int 1] 1 RIn := ⟨fI, _, _, _, us1, okI, MkI, b1, v1, fun G => .cons .int .nil⟩
  have radd : MF l.prog w K (tabl CR CM) mg base CR "__add__" 3 (RA2 (· + ·)) := mRA.mf (ps := ["self", "other"]) (fun f fd F => ok_RA F D i2) fun _ _ _ _ _ _ us hl => match us, hl with | [_, _], _ => rfl
  have rsub : MF l.prog w K (tabl CR CM) mg base CR "__sub__" 3 (RA2 (· - ·)) := mRS.mf (ps := ["self", "other"]) (fun f fd F => ok_RS F D i2) fun _ _ _ _ _ _ us hl => match us, hl with | [_, _], _ => rfl
  have rmul : MF l.prog w K (tabl CR CM) mg base CR "__mul__" 3 (RA2 (· * ·)) := mRM.mf (ps := ["self", "other"]) (fun f fd F => ok_RM F D i2) fun _ _ _ _ _ _ us hl => match us, hl with | [_, _], _ => rfl
  have rinv : MF l.prog w K (tabl CR CM) mg base CR "inverse" 3 RRV := mRV.mf (ps := ["self"]) (fun f fd F => ok_RV F D i2) fun _ _ _ _ _ _ us hl => match us, hl with | [_], _ => rfl
  have req : MF l.prog w K (tabl CR CM) mg base CR "__eq__" 1 RREq := mRE.mf (ps := ["self", "other"]) (fun f fd F => ok_RE F D) fun _ _ _ _ _ _ us hl => match us, hl with | [_, _], _ => rfl
  have rz : MF l.prog w K (tabl CR CM) mg base CR "is_zero" 1 RZe := mRZ.mf (ps := ["self"]) (fun f fd F => ok_RZ F D) fun _ _ _ _ _ _ us hl => match us, hl with | [_], _ => rfl
  have hzero : DF l.prog w K (tabl CR CM) mg base "zero" 3 (RC0 0) := dZ.df (ps := []) X G (fun f fd F => ok_zero F D i1) fun _ _ _ _ _ _ us hl => match us, hl with | [], _ => rfl
  have hone : DF l.prog w K (tabl CR CM) mg base "one" 3 (RC0 1) := dO.df (ps := []) X G (fun f fd F => ok_one F D i1) fun _ _ _ _ _ _ us hl => match us, hl with | [], _ => rfl
  have raddw : MF l.prog w K (tabl CR CM) mg base CR "__add__" 3 RAW := mRA.mf (ps := ["self", "other"]) (fun f fd F => ok_RAW F D i2) fun _ _ _ _ _ _ us hl => match us, hl with | [_, _], _ => rfl
  have rsubw : MF l.prog w K (tabl CR CM) mg base CR "__sub__" 3 RSW := mRS.mf (ps := ["self", "other"]) (fun f fd F => ok_RSW F D i2) fun _ _ _ _ _ _ us hl => match us, hl with | [_, _], _ => rfl
  have R : RF l.prog w K (tabl CR CM) mg base CR := ⟨i2, i1, radd, raddw, rsub, rsubw, rmul, req, rz, hzero, hone⟩
  have I : IF' l.prog w K (tabl CR CM) mg base 1 CM [] 1 RMI := mMI.init (ps := ["self", "rows", "width"]) cM (fun f fd F => ok_MI F D) fun _ _ _ _ _ _ us hl => match us, hl with | [_, _, _], _ => rfl
  have hfirst : DF l.prog w K (tabl CR CM) mg base "_first_filled" 2 RFirst := dF.df (ps := ["rows", "column"]) X G (fun f fd F => ok_first F D R henum) fun _ _ _ _ _ _ us hl => match us, hl with | [_, _], _ => rfl
  have hclr : DF l.prog w K (tabl CR CM) mg base "_cleared" 4 RClr := dC.df (ps := ["row", "lead", "column"]) X G (fun f fd F => ok_clr F D R) fun _ _ _ _ _ _ us hl => match us, hl with | [_, _, _], _ => rfl
  have helim : DF l.prog w K (tabl CR CM) mg base "_eliminate" 5 RElim := dE.df (ps := ["rows", "width"]) X G (fun f fd F => ok_elim F D R rinv hfirst hclr hlist) fun _ _ _ _ _ _ us hl => match us, hl with | [_, _], _ => rfl
  have hpl : DF l.prog w K (tabl CR CM) mg base "_placed" 4 RPl := dPl.df (ps := ["items", "places", "width"]) X G (fun f fd F => ok_pl F D R) fun _ _ _ _ _ _ us hl => match us, hl with | [_, _, _], _ => rfl
  have mred : MF l.prog w K (tabl CR CM) mg base CM "reduced" 6 RRed := mMR.mf (ps := ["self"]) (fun f fd F => ok_MR F D I helim) fun _ _ _ _ _ _ us hl => match us, hl with | [_], _ => rfl
  have msol : MF l.prog w K (tabl CR CM) mg base CM "solve" 6 RSol := mMV.mf (ps := ["self", "right"]) (fun f fd F => ok_MV F D R helim hpl hall) fun _ _ _ _ _ _ us hl => match us, hl with | [_, _], _ => rfl
  have mtr : MF l.prog w K (tabl CR CM) mg base CM "transposed" 3 RMT := mMT.mf (ps := ["self"]) (fun f fd F => ok_MT F D I) fun _ _ _ _ _ _ us hl => match us, hl with | [_], _ => rfl
  have mlen : MF l.prog w K (tabl CR CM) mg base CM "__len__" 1 RLen := mML.mf (ps := ["self"]) (fun f fd F => ok_ML F D) fun _ _ _ _ _ _ us hl => match us, hl with | [_], _ => rfl
  have mrank : MF l.prog w K (tabl CR CM) mg base CM "rank" 7 RRank := mMQ.mf (ps := ["self"]) (fun f fd F => ok_MRk F D mred) fun _ _ _ _ _ _ us hl => match us, hl with | [_], _ => rfl
  have htot : DF l.prog w K (tabl CR CM) mg base "total" 4 RTotal := d19.df (ps := ["numbers"]) X G (fun f fd F => ok_total F D R) fun _ _ _ _ _ _ us hl => match us, hl with | [_], _ => rfl
  have hdotp : DF l.prog w K (tabl CR CM) mg base "dot" 5 RDotP := d20.df (ps := ["a", "b"]) X G (fun f fd F => ok_dotP F D R htot) fun _ _ _ _ _ _ us hl => match us, hl with | [_, _], _ => rfl
  have mtim : MF l.prog w K (tabl CR CM) mg base CM "times" 6 RTim := mMX.mf (ps := ["self", "x"]) (fun f fd F => ok_MX F D hdotp) fun _ _ _ _ _ _ us hl => match us, hl with | [_, _], _ => rfl
  have hk := kit_tup iw tw sw
  have meq : MF l.prog w K (tabl CR CM) mg base CM "__eq__" 5 RMEqX := mME.mf (ps := ["self", "other"]) (fun f fd F => ok_MEX F D R hk) fun _ _ _ _ _ _ us hl => match us, hl with | [_, _], _ => rfl
  have hiter := PySem.W.mg_none_of X G zv
  have mit : ItF l.prog w K (tabl CR CM) mg CM 1 0 := mMJ.itf (fun f fd F base => ok_MIt F D hiter) fun _ _ _ _ _ _ us hl => match us, hl with | [_], _ => rfl
  have M : MFs l.prog w K (tabl CR CM) mg base CM := ⟨mred, mrank, msol, mtr, mtim, mlen, meq, mit, ne, cM.ob, nt⟩
  have hcell : DF l.prog w K (tabl CR CM) mg base "_law_cell" 1 RCell := d1.df (ps := ["script", "k"]) X G (fun f fd F => ok_cell F D.len) fun _ _ _ _ _ _ us hl => match us, hl with | [_, _], _ => rfl
  have hdraws : DF l.prog w K (tabl CR CM) mg base "_law_draws" 3 RDraws := d2.df (ps := ["script", "at", "count", "bound"]) X G (fun f fd F => ok_draws F hcell D.int D.ran) fun _ _ _ _ _ _ us hl => match us, hl with | [_, _, _, _], _ => rfl
  have hgcd : DF l.prog w K (tabl CR CM) mg base "_law_gcd" 1 RGcd := d3.df (ps := ["a", "b"]) X G (fun f fd F => ok_gcd F D.int habs) fun _ _ _ _ _ _ us hl => match us, hl with | [_, _], _ => rfl
  have hrat : DF l.prog w K (tabl CR CM) mg base "_law_rat" 2 RRat := d4.df (ps := ["n", "d"]) X G (fun f fd F => ok_rat F hgcd) fun _ _ _ _ _ _ us hl => match us, hl with | [_, _], _ => rfl
  have hadd : DF l.prog w K (tabl CR CM) mg base "_law_add" 3 RAdd := d5.df (ps := ["a", "b"]) X G (fun f fd F => ok_add F hrat) fun _ _ _ _ _ _ us hl => match us, hl with | [_, _], _ => rfl
  have haddw : DF l.prog w K (tabl CR CM) mg base "_law_add" 3 RAddW := d5.df (ps := ["a", "b"]) X G (fun f fd F => ok_addW F hrat) fun _ _ _ _ _ _ us hl => match us, hl with | [_, _], _ => rfl
  have hmul : DF l.prog w K (tabl CR CM) mg base "_law_mul" 3 RMul := d6.df (ps := ["a", "b"]) X G (fun f fd F => ok_mul F hrat) fun _ _ _ _ _ _ us hl => match us, hl with | [_, _], _ => rfl
  have hisi : DF l.prog w K (tabl CR CM) mg base "_law_is_integer" 1 RIsI := d7.df (ps := ["value"]) X G (fun f fd F => ok_isI F D) fun _ _ _ _ _ _ us hl => match us, hl with | [_], _ => rfl
  have hpair : DF l.prog w K (tabl CR CM) mg base "_law_pair" 2 RPair := d8.df (ps := ["value"]) X G (fun f fd F => ok_pair F D hisi hgcd) fun _ _ _ _ _ _ us hl => match us, hl with | [_], _ => rfl
  have hpairs : DF l.prog w K (tabl CR CM) mg base "_law_pairs" 3 RPairs := d9.df (ps := ["values", "size"]) X G (fun f fd F => ok_pairs F D hpair) fun _ _ _ _ _ _ us hl => match us, hl with | [_, _], _ => rfl
  have hratios : DF l.prog w K (tabl CR CM) mg base "_law_ratios" 3 RRatios := d10.df (ps := ["row"]) X G (fun f fd F => ok_ratios F D R) fun _ _ _ _ _ _ us hl => match us, hl with | [_], _ => rfl
  have hsmall : DF l.prog w K (tabl CR CM) mg base "_law_small" 3 RSmall := d11.df (ps := ["n", "d"]) X G (fun f fd F => ok_small F hrat) fun _ _ _ _ _ _ us hl => match us, hl with | [_, _], _ => rfl
  have hmat : DF l.prog w K (tabl CR CM) mg base "_law_matrix" 4 RMat := d12.df (ps := ["script", "at", "rows", "width"]) X G (fun f fd F => ok_mat F D hdraws hsmall) fun _ _ _ _ _ _ us hl => match us, hl with | [_, _, _, _], _ => rfl
  have hlcomb : DF l.prog w K (tabl CR CM) mg base "_law_combine" 4 RLCombG := d13.df (ps := ["rows", "width", "y"]) X G (fun f fd F => ok_lcombG F D haddw hmul) fun _ _ _ _ _ _ us hl => match us, hl with | [_, _, _], _ => rfl
  have htom : DF l.prog w K (tabl CR CM) mg base "_law_to_matrix" 4 RToMG := d14.df (ps := ["rows", "width"]) X G (fun f fd F => ok_toMG F D I hratios) fun _ _ _ _ _ _ us hl => match us, hl with | [_, _], _ => rfl
  have hdot : DF l.prog w K (tabl CR CM) mg base "_law_dot" 4 RDotL := d15.df (ps := ["a", "b"]) X G (fun f fd F => ok_dotL F D hadd hmul) fun _ _ _ _ _ _ us hl => match us, hl with | [_, _], _ => rfl
  have hpiv : DF l.prog w K (tabl CR CM) mg base "_law_pivot" 1 RPiv := d17.df (ps := ["row"]) X G (fun f fd F => ok_piv F D) fun _ _ _ _ _ _ us hl => match us, hl with | [_], _ => rfl
  have hisr : DF l.prog w K (tabl CR CM) mg base "_law_is_reduced" 2 RIsRed := d18.df (ps := ["rows", "pivots", "width"]) X G (fun f fd F => ok_isRed F D hisi hpiv) fun _ _ _ _ _ _ us hl => match us, hl with | [_, _, _], _ => rfl
  have hleft : DF l.prog w K (tabl CR CM) mg base "_law_left" 4 RLeft := d21.df (ps := ["rows", "v"]) X G (fun f fd F => ok_left F D hpiv haddw hmul hlist) fun _ _ _ _ _ _ us hl => match us, hl with | [_, _], _ => rfl
  have L : LFs l.prog w K (tabl CR CM) mg base := ⟨hdraws, hsmall, hmat, hlcomb, hdot, htom, hpairs, hratios, hisr, hleft⟩
  refine (ok_law F16 D R M L).imp fun vs H Q E ⟨a, ns, e1, hS, kk⟩ => ?_
  subst e1
  exact ⟨H, [.ro (dInts ns)], .bl true, Ex.refl H, .cons (.ro hS (reps_ints ns)) .nil, ⟨ns, rfl, rfl⟩, fun v G' H' _ _ r => by cases r; exact kk H'⟩
theorem walk {l : PySem.W.OpenLaw} {q : Program} {loose : List Str} {XP : (Str → Option Value) → Heap → Prop} {YP : World → Heap → Prop} {d : DefRec} {K : Params → PySem.W.Frag} (hn : l.most = some 63) (hdf : d.params.defaults = [])
    (hY : ∀ (w : World) (h : Heap), YP w h → (K w.params).In h)
    (F : ∀ (w : World) (mg : Str → Option Value) (fa : Addr) (h : Heap), (K w.params).In h → h.Ns mainGlobals mg → mg d.name = some (.ref fa) →
      ∃ fd : FuncData, (∀ (s : Shared) (u : Value), BindsTo s fd ⟨[u], []⟩ [("script", u)]) ∧ ∀ base : Heap, (K w.params).In base → base.Ns mainGlobals mg → FnOk l.prog w (K w.params) mg base CX0 9 fa fd ["script"] (spTop (K w.params))) :
    PySem.W.WalkO q loose XP YP l.row.toRowW d [] (fun f vs => PySem.call f vs) :=
  L2.walk_of (n := 63) (k := 9) (x := "script") (CX := fun _ => CX0) (sp := fun w => spTop (K w.params)) hn (by decide) hdf ⟨rfl, by decide, by decide⟩ hY F (fun _ _ a ns hl _ hS => ⟨a, ns, rfl, hS, fun _ => rfl⟩) fun _ _ _ _ _ z => z
end My
set_option autoImplicit true
open PySem PySem.W PyProof.Rows My
set_option maxRecDepth 100000 in
set_option maxHeartbeats 0 in
theorem PySem.Challenge.cw_wordweight_k03_reduced_rows_holds : PySem.Challenge.rw_wordweight_k03_reduced_rows.Holds := by
  w_on; o_law; k_head; (case hw => w_witness2)
  k_fill
  refine My.walk (l := PySem.Challenge.rw_wordweight_k03_reduced_rows) rfl rfl (fun w h Y => PySem.W.kIn_of Y) ?F
  case F =>
    intro w mg fa h KX G hmg
    refine' My.all_mk KX G hmg ?cR ?cM ?nn ?nd ?nr ?nw ?zg ?zi ?zl ?zt ?zz ?zr ?zn ?zb ?za ?ze ?zs ?zk ?zv ?ne ?nt ?iw ?tw ?sw ?mRI ?mRA ?mRS ?mRM ?mRE ?mRV ?mRZ ?mMI ?mML ?mMJ ?mME ?mMT ?mMX ?mMR ?mMQ ?mMV ?dZ ?dO ?dE ?dF ?dC ?dPl ?d1 ?d2 ?d3 ?d4 ?d5 ?d6 ?d7 ?d8 ?d9 ?d10 ?d11 ?d12 ?d13 ?d14 ?d15 ?d17 ?d18 ?d19 ?d20 ?d21 ?d16
    (case cR => (refine' ⟨?a_cR, ?b_cR, ?c_cR, ?d_cR, ?e_cR, ?f_cR, ?g_cR, ?h_cR, ?i_cR, ?j_cR, ?k_cR, ?l_cR⟩; (case a_cR => k_is); (case b_cR => k_is); (case c_cR => k_is); (case d_cR => k_is); (case e_cR => k_is); (case f_cR => k_is); (case g_cR => k_is); (case h_cR => k_is); (case i_cR => k_is); (case j_cR => k_is); (case k_cR => k_is); (case l_cR => k_is)))
    (case cM => (refine' ⟨?a_cM, ?b_cM, ?c_cM, ?d_cM, ?e_cM, ?f_cM, ?g_cM, ?h_cM, ?i_cM, ?j_cM, ?k_cM, ?l_cM⟩; (case a_cM => k_is); (case b_cM => k_is); (case c_cM => k_is); (case d_cM => k_is); (case e_cM => k_is); (case f_cM => k_is); (case g_cM => k_is); (case h_cM => k_is); (case i_cM => k_is); (case j_cM => k_is); (case k_cM => k_is); (case l_cM => k_is)))
    (case nn => k_is)
    (case nd => k_is)
    (case nr => k_is)
    (case nw => k_is)
    (case zg => k_is)
    (case zi => k_is)
    (case zl => k_is)
    (case zt => k_is)
    (case zz => k_is)
    (case zr => k_is)
    (case zn => k_is)
    (case zb => k_is)
    (case za => k_is)
    (case ze => k_is)
    (case zs => k_is)
    (case zk => k_is)
    (case zv => k_is)
    (case ne => k_is)
    (case nt => k_is)
    (case iw => k_is)
    (case tw => k_is)
    (case sw => k_is)
    (case mRI => (refine' methd_mk ?a_mRI ?i_mRI ?l_mRI ?t_mRI ?c_mRI ?k_mRI; (case a_mRI => k_is); (case i_mRI => k_is); (case l_mRI => k_is); (case t_mRI => k_is); (case c_mRI => k_is); (case k_mRI => k_is)))
    (case mRA => (refine' meth_mk ?a_mRA ?i_mRA ?l_mRA ?c_mRA ?k_mRA; (case a_mRA => k_is); (case i_mRA => k_is); (case l_mRA => k_is); (case c_mRA => k_is); (case k_mRA => k_is)))
    (case mRS => (refine' meth_mk ?a_mRS ?i_mRS ?l_mRS ?c_mRS ?k_mRS; (case a_mRS => k_is); (case i_mRS => k_is); (case l_mRS => k_is); (case c_mRS => k_is); (case k_mRS => k_is)))
    (case mRM => (refine' meth_mk ?a_mRM ?i_mRM ?l_mRM ?c_mRM ?k_mRM; (case a_mRM => k_is); (case i_mRM => k_is); (case l_mRM => k_is); (case c_mRM => k_is); (case k_mRM => k_is)))
    (case mRE => (refine' meth_mk ?a_mRE ?i_mRE ?l_mRE ?c_mRE ?k_mRE; (case a_mRE => k_is); (case i_mRE => k_is); (case l_mRE => k_is); (case c_mRE => k_is); (case k_mRE => k_is)))
    (case mRV => (refine' meth_mk ?a_mRV ?i_mRV ?l_mRV ?c_mRV ?k_mRV; (case a_mRV => k_is); (case i_mRV => k_is); (case l_mRV => k_is); (case c_mRV => k_is); (case k_mRV => k_is)))
    (case mRZ => (refine' meth_mk ?a_mRZ ?i_mRZ ?l_mRZ ?c_mRZ ?k_mRZ; (case a_mRZ => k_is); (case i_mRZ => k_is); (case l_mRZ => k_is); (case c_mRZ => k_is); (case k_mRZ => k_is)))
    (case mMI => (refine' meth_mk ?a_mMI ?i_mMI ?l_mMI ?c_mMI ?k_mMI; (case a_mMI => k_is); (case i_mMI => k_is); (case l_mMI => k_is); (case c_mMI => k_is); (case k_mMI => k_is)))
    (case mML => (refine' meth_mk ?a_mML ?i_mML ?l_mML ?c_mML ?k_mML; (case a_mML => k_is); (case i_mML => k_is); (case l_mML => k_is); (case c_mML => k_is); (case k_mML => k_is)))
    (case mMJ => (refine' meth_mk ?a_mMJ ?i_mMJ ?l_mMJ ?c_mMJ ?k_mMJ; (case a_mMJ => k_is); (case i_mMJ => k_is); (case l_mMJ => k_is); (case c_mMJ => k_is); (case k_mMJ => k_is)))
    (case mME => (refine' meth_mk ?a_mME ?i_mME ?l_mME ?c_mME ?k_mME; (case a_mME => k_is); (case i_mME => k_is); (case l_mME => k_is); (case c_mME => k_is); (case k_mME => k_is)))
    (case mMT => (refine' meth_mk ?a_mMT ?i_mMT ?l_mMT ?c_mMT ?k_mMT; (case a_mMT => k_is); (case i_mMT => k_is); (case l_mMT => k_is); (case c_mMT => k_is); (case k_mMT => k_is)))
    (case mMX => (refine' meth_mk ?a_mMX ?i_mMX ?l_mMX ?c_mMX ?k_mMX; (case a_mMX => k_is); (case i_mMX => k_is); (case l_mMX => k_is); (case c_mMX => k_is); (case k_mMX => k_is)))
    (case mMR => (refine' meth_mk ?a_mMR ?i_mMR ?l_mMR ?c_mMR ?k_mMR; (case a_mMR => k_is); (case i_mMR => k_is); (case l_mMR => k_is); (case c_mMR => k_is); (case k_mMR => k_is)))
    (case mMQ => (refine' meth_mk ?a_mMQ ?i_mMQ ?l_mMQ ?c_mMQ ?k_mMQ; (case a_mMQ => k_is); (case i_mMQ => k_is); (case l_mMQ => k_is); (case c_mMQ => k_is); (case k_mMQ => k_is)))
    (case mMV => (refine' meth_mk ?a_mMV ?i_mMV ?l_mMV ?c_mMV ?k_mMV; (case a_mMV => k_is); (case i_mMV => k_is); (case l_mMV => k_is); (case c_mMV => k_is); (case k_mMV => k_is)))
    (case dZ => (refine' def_mk ?a_dZ ?l_dZ ?c_dZ ?k_dZ; (case a_dZ => k_is); (case l_dZ => k_is); (case c_dZ => k_is); (case k_dZ => k_is)))
    (case dO => (refine' def_mk ?a_dO ?l_dO ?c_dO ?k_dO; (case a_dO => k_is); (case l_dO => k_is); (case c_dO => k_is); (case k_dO => k_is)))
    (case dE => (refine' def_mk ?a_dE ?l_dE ?c_dE ?k_dE; (case a_dE => k_is); (case l_dE => k_is); (case c_dE => k_is); (case k_dE => k_is)))
    (case dF => (refine' def_mk ?a_dF ?l_dF ?c_dF ?k_dF; (case a_dF => k_is); (case l_dF => k_is); (case c_dF => k_is); (case k_dF => k_is)))
    (case dC => (refine' def_mk ?a_dC ?l_dC ?c_dC ?k_dC; (case a_dC => k_is); (case l_dC => k_is); (case c_dC => k_is); (case k_dC => k_is)))
    (case dPl => (refine' def_mk ?a_dPl ?l_dPl ?c_dPl ?k_dPl; (case a_dPl => k_is); (case l_dPl => k_is); (case c_dPl => k_is); (case k_dPl => k_is)))
    (case d1 => (refine' def_mk ?a_d1 ?l_d1 ?c_d1 ?k_d1; (case a_d1 => k_is); (case l_d1 => k_is); (case c_d1 => k_is); (case k_d1 => k_is)))
    (case d2 => (refine' def_mk ?a_d2 ?l_d2 ?c_d2 ?k_d2; (case a_d2 => k_is); (case l_d2 => k_is); (case c_d2 => k_is); (case k_d2 => k_is)))
    (case d3 => (refine' def_mk ?a_d3 ?l_d3 ?c_d3 ?k_d3; (case a_d3 => k_is); (case l_d3 => k_is); (case c_d3 => k_is); (case k_d3 => k_is)))
    (case d4 => (refine' def_mk ?a_d4 ?l_d4 ?c_d4 ?k_d4; (case a_d4 => k_is); (case l_d4 => k_is); (case c_d4 => k_is); (case k_d4 => k_is)))
    (case d5 => (refine' def_mk ?a_d5 ?l_d5 ?c_d5 ?k_d5; (case a_d5 => k_is); (case l_d5 => k_is); (case c_d5 => k_is); (case k_d5 => k_is)))
    (case d6 => (refine' def_mk ?a_d6 ?l_d6 ?c_d6 ?k_d6; (case a_d6 => k_is); (case l_d6 => k_is); (case c_d6 => k_is); (case k_d6 => k_is)))
    (case d7 => (refine' def_mk ?a_d7 ?l_d7 ?c_d7 ?k_d7; (case a_d7 => k_is); (case l_d7 => k_is); (case c_d7 => k_is); (case k_d7 => k_is)))
    (case d8 => (refine' def_mk ?a_d8 ?l_d8 ?c_d8 ?k_d8; (case a_d8 => k_is); (case l_d8 => k_is); (case c_d8 => k_is); (case k_d8 => k_is)))
    (case d9 => (refine' def_mk ?a_d9 ?l_d9 ?c_d9 ?k_d9; (case a_d9 => k_is); (case l_d9 => k_is); (case c_d9 => k_is); (case k_d9 => k_is)))
    (case d10 => (refine' def_mk ?a_d10 ?l_d10 ?c_d10 ?k_d10; (case a_d10 => k_is); (case l_d10 => k_is); (case c_d10 => k_is); (case k_d10 => k_is)))
    (case d11 => (refine' def_mk ?a_d11 ?l_d11 ?c_d11 ?k_d11; (case a_d11 => k_is); (case l_d11 => k_is); (case c_d11 => k_is); (case k_d11 => k_is)))
    (case d12 => (refine' def_mk ?a_d12 ?l_d12 ?c_d12 ?k_d12; (case a_d12 => k_is); (case l_d12 => k_is); (case c_d12 => k_is); (case k_d12 => k_is)))
    (case d13 => (refine' def_mk ?a_d13 ?l_d13 ?c_d13 ?k_d13; (case a_d13 => k_is); (case l_d13 => k_is); (case c_d13 => k_is); (case k_d13 => k_is)))
    (case d14 => (refine' def_mk ?a_d14 ?l_d14 ?c_d14 ?k_d14; (case a_d14 => k_is); (case l_d14 => k_is); (case c_d14 => k_is); (case k_d14 => k_is)))
    (case d15 => (refine' def_mk ?a_d15 ?l_d15 ?c_d15 ?k_d15; (case a_d15 => k_is); (case l_d15 => k_is); (case c_d15 => k_is); (case k_d15 => k_is)))
    (case d17 => (refine' def_mk ?a_d17 ?l_d17 ?c_d17 ?k_d17; (case a_d17 => k_is); (case l_d17 => k_is); (case c_d17 => k_is); (case k_d17 => k_is)))
    (case d18 => (refine' def_mk ?a_d18 ?l_d18 ?c_d18 ?k_d18; (case a_d18 => k_is); (case l_d18 => k_is); (case c_d18 => k_is); (case k_d18 => k_is)))
    (case d19 => (refine' def_mk ?a_d19 ?l_d19 ?c_d19 ?k_d19; (case a_d19 => k_is); (case l_d19 => k_is); (case c_d19 => k_is); (case k_d19 => k_is)))
    (case d20 => (refine' def_mk ?a_d20 ?l_d20 ?c_d20 ?k_d20; (case a_d20 => k_is); (case l_d20 => k_is); (case c_d20 => k_is); (case k_d20 => k_is)))
    (case d21 => (refine' def_mk ?a_d21 ?l_d21 ?c_d21 ?k_d21; (case a_d21 => k_is); (case l_d21 => k_is); (case c_d21 => k_is); (case k_d21 => k_is)))
    (case d16 => (refine' def_mk ?a_d16 ?l_d16 ?c_d16 ?k_d16; (case a_d16 => k_is); (case l_d16 => k_is); (case c_d16 => k_is); (case k_d16 => k_is)))
