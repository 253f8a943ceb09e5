import PyProof.Rows.All
import Wide.All
import OpenK.AllK
import Wide.FinOn
import HandS.ForMost
import HandS.ForExc
import HandS.WideMore
import HandS.Gcd
import HandS.IsInst
import HandS.TupAny
import HandS.OwnEq
import HandS.Deep
import HandS.TupMul
import HandS.Zip
import HandS.Style
import HandS.Defaults
import HandS.Zip0
import HandS.Iter
import HandS.Star
import HandS.TryOnly
import HandS.WordsExc
import HandS.ExcOwn
import HandS.SetTxt0
import HandS.Strs
import PyProof.ListMulRoad
import PyProof.FactsAll.tuple_2
import PyProof.StrLawsIn
import PyProof.SliceStr2
import PyProof.Rows.StrRev
import HandS.ExcIs
import KE.KExcIs
import HandS.Rev
import KE.GoesEnum
import HandS.EndBits
import HandS.Property
import HandS.FStr
import KE.KxField
import HandS.Exc
import KE.GoesComp
import HandS.Text
import HandS.StrMore
import HandS.Flow
import KE.KUnpack
import KE.KFmtOwn
import HandS.GenList
import HandS.OwnIter
import HandS.WideBits
import HandS.ForDict
import KE.GoesNew
import KE.GoesMore
import HandS.SetFor
import HandS.More
import KE.KUnpackStar
import HandS.Conv
import PySem.Challenge.RW_wordweight_k08_order_of_words
import KE.OsRunLaw
set_option Elab.async false
set_option linter.all false
set_option autoImplicit true
set_option maxRecDepth 100000
namespace Dv
open PySem PySem.Spec PyProof.Rows L2
inductive Dt where
  | non | bl (b : Bool) | int (i : Int) | str (x : Str) | lst (xs : List Dt) | ro (xs : List Dt) | tup (xs : List Dt) | obj (c : Nat) (fs : List Dt) | ext (F : PySem.W.Frag → (Nat → Option (Addr × List Str)) → Hp → HO → Prop)
/-- own classes by number: the class's address, its attributes in order -/
abbrev Ct := Nat → Option (Addr × List Str)
mutual
inductive Rep (K : PySem.W.Frag) (T : Ct) (G : Hp) : Dt → V → Prop where
  | non : Rep K T G .non .non
  | bl {b} : Rep K T G (.bl b) (.bl b)
  | int {i} : Rep K T G (.int i) (.int i)
  | str {x} : Rep K T G (.str x) (.str x)
  | lst {a xs vs} : G a = some (.lst vs) → Reps K T G xs vs → Rep K T G (.lst xs) (.ref a)
  | ro {a xs vs} : SqL K G a vs → Reps K T G xs vs → Rep K T G (.ro xs) (.ref a)
  | tup {a xs vs} : SqT K G a vs → Reps K T G xs vs → Rep K T G (.tup xs) (.ref a)
  | obj {c C ns a dx fs vs} : T c = some (C, ns) → G a = some (.ins C dx (ns.zip vs)) → ns.length = vs.length → Reps K T G fs vs → Rep K T G (.obj c fs) (.ref a)
  /-- anything else that a place holds: what is known of it, and stays so while G grows -/
  | ext {a o F} : G a = some o → (∀ G' : Hp, (∀ b u, G b = some u → G' b = some u) → F K T G' o) → Rep K T G (.ext F) (.ref a)
inductive Reps (K : PySem.W.Frag) (T : Ct) (G : Hp) : List Dt → List V → Prop where
  | nil : Reps K T G [] []
  | cons {d v ds vs} : Rep K T G d v → Reps K T G ds vs → Reps K T G (d :: ds) (v :: vs)
end
def Ex (H H' : Hp) : Prop := ∀ a o, H a = some o → H' a = some o
theorem Ex.refl (H : Hp) : Ex H H := fun _ _ h => h
theorem Ex.trans {H H1 H2 : Hp} (a : Ex H H1) (b : Ex H1 H2) : Ex H H2 := fun x o h => b x o (a x o h)
theorem Ex.new {H : Hp} {p : Addr} {o : HO} (h : H p = none) : Ex H (upd H p o) := fun a u e => by
  rw [upd_ne (ne_of_none e h)]; exact e
theorem Ex.none {H H' : Hp} (e : Ex H H') {p : Addr} (h : H' p = none) : H p = none := by
  cases q : H p with
  | none => rfl
  | some o => rw [e p o q] at h; cases h
theorem Ex.rd {H H' : Hp} {a : Addr} {u : HO} (e : Ex H H') (h : Rd H a u) : Rd H' a u := by
  rcases h with h | ⟨o, h⟩
  · exact Or.inl (e a _ h)
  · exact Or.inr ⟨o, e a _ h⟩
theorem Ex.sl {K : PySem.W.Frag} {H H' : Hp} {a : Addr} {xs : List V} (e : Ex H H') (h : SqL K H a xs) : SqL K H' a xs := h.elim (fun h => .inl (e.rd h)) .inr
theorem Ex.st {K : PySem.W.Frag} {H H' : Hp} {a : Addr} {xs : List V} (e : Ex H H') (h : SqT K H a xs) : SqT K H' a xs := h.elim (fun h => .inl (e.rd h)) .inr
variable {K : PySem.W.Frag} {T : Ct} {G G' G1 G2 H H' H1 H2 : Hp}
mutual
theorem Rep.ex {d : Dt} {v : V} (e : Ex G G') : Rep K T G d v → Rep K T G' d v
  | .non => .non
  | .bl => .bl
  | .int => .int
  | .str => .str
  | .lst h r => .lst (e _ _ h) (r.ex e)
  | .ro h r => .ro (e.sl h) (r.ex e)
  | .tup h r => .tup (e.st h) (r.ex e)
  | .obj t h l r => .obj t (e _ _ h) l (r.ex e)
  | .ext h r => .ext (e _ _ h) fun G' e' => r G' fun b u z => e' b u (e b u z)
theorem Reps.ex {ds : List Dt} {vs : List V} (e : Ex G G') : Reps K T G ds vs → Reps K T G' ds vs
  | .nil => .nil
  | .cons r rs => .cons (r.ex e) (rs.ex e)
end
theorem Reps.length : ∀ {ds : List Dt} {vs : List V}, Reps K T G ds vs → ds.length = vs.length
  | _, _, .nil => rfl
  | _, _, .cons _ r => congrArg Nat.succ (Reps.length r)
theorem Reps.get : ∀ {ds : List Dt} {vs : List V} {i : Nat} {d : Dt}, Reps K T G ds vs → ds[i]? = some d → ∃ v, vs[i]? = some v ∧ Rep K T G d v
  | _, _, _, _, .nil, e => by simp at e
  | _, _, 0, _, .cons r _, e => by simp at e; subst e; exact ⟨_, rfl, r⟩
  | _, _, i + 1, d, .cons _ t, e => by
    obtain ⟨u, h1, h2⟩ := Reps.get (i := i) (d := d) t (by simpa using e)
    exact ⟨u, by simpa using h1, h2⟩
theorem Reps.getV : ∀ {ds : List Dt} {vs : List V} {i : Nat} {v : V}, Reps K T G ds vs → vs[i]? = some v → ∃ d, ds[i]? = some d ∧ Rep K T G d v
  | _, _, _, _, .nil, e => by simp at e
  | _, _, 0, _, .cons r _, e => by simp at e; subst e; exact ⟨_, rfl, r⟩
  | _, _, i + 1, v, .cons _ t, e => by
    obtain ⟨u, h1, h2⟩ := Reps.getV (i := i) (v := v) t (by simpa using e)
    exact ⟨u, by simpa using h1, h2⟩
theorem Reps.app : ∀ {ds es : List Dt} {vs ws : List V}, Reps K T G ds vs → Reps K T G es ws → Reps K T G (ds ++ es) (vs ++ ws)
  | _, _, _, _, .nil, s => s
  | _, _, _, _, .cons r t, s => .cons r (Reps.app t s)
theorem Reps.set {d : Dt} {v : V} (r : Rep K T G d v) : ∀ {ds : List Dt} {vs : List V} (i : Nat), Reps K T G ds vs → Reps K T G (ds.set i d) (vs.set i v)
  | _, _, _, .nil => .nil
  | _, _, 0, .cons _ t => .cons r t
  | _, _, i + 1, .cons q t => .cons q (Reps.set r i t)
theorem Reps.take : ∀ {ds : List Dt} {vs : List V} (n : Nat), Reps K T G ds vs → Reps K T G (ds.take n) (vs.take n)
  | _, _, 0, _ => .nil
  | _, _, _ + 1, .nil => .nil
  | _, _, n + 1, .cons r t => .cons r (Reps.take n t)
theorem Reps.drop : ∀ {ds : List Dt} {vs : List V} (n : Nat), Reps K T G ds vs → Reps K T G (ds.drop n) (vs.drop n)
  | _, _, 0, r => r
  | _, _, _ + 1, .nil => .nil
  | _, _, n + 1, .cons _ t => Reps.drop n t
inductive Sv where
  /-- known, never changed -/
  | fr (d : Dt)
  /-- a list of this def's own, unshared -/
  | ow (xs : List Dt)
  /-- a list that the caller handed in to be changed -/
  | pr (k : Nat) (xs : List Dt)
  /-- an instance that is being made (by its __init__): the attributes that it has so far -/
  | bo (n : Nat) (fs : List Dt)
  /-- another object of this def's own, unshared -/
  | oo (F : PySem.W.Frag → (Nat → Option (Addr × List Str)) → Hp → HO → Prop)
  /-- an exception that is held: its place, its own dict, what it says of itself -/
  | ex (a : Addr) (dd : Option Addr) (at_ : Option (Str × Dt))
def Sv.isOw : Sv → Bool
  | .fr _ => false
  | .ex _ _ _ => false
  | _ => true
abbrev Store := List (Option Sv)
def SvR (K : PySem.W.Frag) (T : Ct) (pa : Nat → Addr) (G H : Hp) : Sv → V → Prop
  | .fr d, v => Rep K T G d v
  | .ow xs, v => ∃ a vs, v = .ref a ∧ G a = none ∧ H a = some (.lst vs) ∧ Reps K T G xs vs
  | .pr k xs, v => ∃ vs, v = .ref (pa k) ∧ G (pa k) = none ∧ H (pa k) = some (.lst vs) ∧ Reps K T G xs vs
  | .bo n fs, v => ∃ C ns dx vs, T n = some (C, ns) ∧ v = .ref (pa 0) ∧ G (pa 0) = none ∧ H (pa 0) = some (.ins C dx ((ns.take fs.length).zip vs)) ∧ Reps K T G fs vs
  | .oo F, v => ∃ a o, v = .ref a ∧ G a = none ∧ H a = some o ∧ ∀ G' : Hp, Ex G G' → F K T G' o
  | .ex a dd at_, v => v = .ref a ∧ match at_ with
    | none => dd = none
    | some (f, d) => ∃ p vv, dd = some p ∧ G p = some (.xd [(f, vv)]) ∧ Rep K T G d vv
structure En (K : PySem.W.Frag) (T : Ct) (pa : Nat → Addr) (G H : Hp) (σ : L2.St) (st : Store) : Prop where
  ex : Ex G H
  sl : ∀ (i : Nat) s, st[i]? = some (some s) → ∃ v, σ[i]? = some (some v) ∧ SvR K T pa G H s v
  ds : ∀ (i j : Nat) s t a, st[i]? = some (some s) → st[j]? = some (some t) → s.isOw = true → t.isOw = true → σ[i]? = some (some (.ref a)) → σ[j]? = some (some (.ref a)) → i = j
  len : σ.length = st.length
def own (σ : L2.St) (st : Store) (p : Addr) : Prop := ∃ (i : Nat) (s : Sv), st[i]? = some (some s) ∧ s.isOw = true ∧ σ[i]? = some (some (.ref p))
structure Gr (G H G' H' : Hp) (O O' : Addr → Prop) : Prop where
  ex : Ex G G'
  nw : ∀ p o, G' p = some o → G p = some o ∨ H p = none ∨ O p
  fr : ∀ p o, H p = some o → ¬ O p → H' p = some o
  al : ∀ p, H p ≠ none → H' p ≠ none
  ow : ∀ p, O' p → O p ∨ H p = none
theorem Gr.refl {O : Addr → Prop} : Gr G H G H O O := ⟨Ex.refl G, fun _ _ h => .inl h, fun _ _ h _ => h, fun _ h => h, fun _ h => .inl h⟩
theorem Gr.trans {O O1 O2 : Addr → Prop} (a : Gr G H G1 H1 O O1) (b : Gr G1 H1 G2 H2 O1 O2) : Gr G H G2 H2 O O2 where
  ex := a.ex.trans b.ex
  nw := fun p o h => by
    rcases b.nw p o h with h | h | h
    · exact a.nw p o h
    · exact .inr (.inl (by
        cases q : H p with
        | none => rfl
        | some u => exact absurd h (a.al p (by rw [q]; simp))))
    · rcases a.ow p h with h | h
      · exact .inr (.inr h)
      · exact .inr (.inl h)
  fr := fun p o h n => b.fr p o (a.fr p o h n) fun z => (a.ow p z).elim n fun q => by rw [h] at q; cases q
  al := fun p h => b.al p (a.al p h)
  ow := fun p h => by
    rcases b.ow p h with h | h
    · exact a.ow p h
    · exact .inr (by
        cases q : H p with
        | none => rfl
        | some u => exact absurd h (a.al p (by rw [q]; simp)))
/-- growth alone -/
structure Gw (G H G' H' : Hp) : Prop where
  ex : Ex G G'
  hx : Ex H H'
  gh : Ex G' H'
  nw : ∀ p o, G' p = some o → G p = some o ∨ H p = none
theorem Gw.refl (e : Ex G H) : Dv.Gw G H G H := ⟨Ex.refl G, Ex.refl H, e, fun _ _ h => .inl h⟩
theorem Gw.new (e : Ex G H) {p : Addr} {o : HO} (hp : H p = none) : Dv.Gw G H (upd G p o) (upd H p o) where
  ex := Ex.new (e.none hp)
  hx := Ex.new hp
  gh := fun a u h => by
    by_cases q : a = p
    · subst q; rw [upd_same] at h ⊢; exact h
    · rw [upd_ne q] at h ⊢; exact e a u h
  nw := fun a u h => by
    by_cases q : a = p
    · subst q; exact .inr hp
    · rw [upd_ne q] at h; exact .inl h
theorem Gw.gr {O : Addr → Prop} (g : Dv.Gw G H G' H') : Gr G H G' H' O O :=
  ⟨g.ex, fun p o h => (g.nw p o h).elim .inl fun z => .inr (.inl z), fun p o h _ => g.hx p o h, fun p h => by
    cases q : H p with
    | none => exact absurd q h
    | some u => rw [g.hx p u q]; simp, fun p h => .inl h⟩
theorem Gw.trans (a : Dv.Gw G H G1 H1) (b : Dv.Gw G1 H1 G2 H2) : Dv.Gw G H G2 H2 :=
  ⟨a.ex.trans b.ex, a.hx.trans b.hx, b.gh, fun p o h => by
    rcases b.nw p o h with h | h
    · exact a.nw p o h
    · exact .inr (a.hx.none h)⟩
theorem SvR.exE {pa : Nat → Addr} (e : Ex G G') {a : Addr} {dd : Option Addr} {at_ : Option (Str × Dt)} {v : V} (h : SvR K T pa G H (.ex a dd at_) v) : SvR K T pa G' H' (.ex a dd at_) v := by
  obtain ⟨h1, h2⟩ := h
  refine ⟨h1, ?_⟩
  cases at_ with
  | none => exact h2
  | some q =>
    obtain ⟨p, vv, e1, e2, e3⟩ := h2
    exact ⟨p, vv, e1, e _ _ e2, e3.ex e⟩
theorem SvR.g1 {pa : Nat → Addr} (g : Dv.Gw G H G' H') {s : Sv} {v : V} (h : SvR K T pa G H s v) : SvR K T pa G' H' s v := by
  cases s with
  | fr d => exact Rep.ex g.ex h
  | ex _ _ _ => exact SvR.exE g.ex h
  | ow xs =>
    obtain ⟨a, vs, e, n, l, r⟩ := h
    refine ⟨a, vs, e, ?_, g.hx _ _ l, r.ex g.ex⟩
    cases q : G' a with
    | none => rfl
    | some o =>
      rcases g.nw a o q with z | z
      · rw [n] at z; cases z
      · rw [l] at z; cases z
  | pr k xs =>
    obtain ⟨vs, e, n, l, r⟩ := h
    refine ⟨vs, e, ?_, g.hx _ _ l, r.ex g.ex⟩
    cases q : G' (pa k) with
    | none => rfl
    | some o =>
      rcases g.nw _ o q with z | z
      · rw [n] at z; cases z
      · rw [l] at z; cases z
  | oo F =>
    obtain ⟨a, o, e, n, l, r⟩ := h
    refine ⟨a, o, e, ?_, g.hx _ _ l, fun G2 z => r G2 (g.ex.trans z)⟩
    cases q : G' a with
    | none => rfl
    | some o =>
      rcases g.nw a o q with z | z
      · rw [n] at z; cases z
      · rw [l] at z; cases z
  | bo m fs =>
    obtain ⟨C, ns, dx, vs, t, e, n, l, r⟩ := h
    refine ⟨C, ns, dx, vs, t, e, ?_, g.hx _ _ l, r.ex g.ex⟩
    cases q : G' (pa 0) with
    | none => rfl
    | some o =>
      rcases g.nw _ o q with z | z
      · rw [n] at z; cases z
      · rw [l] at z; cases z
theorem En.g1 {pa : Nat → Addr} {σ : L2.St} {st : Store} (E : En K T pa G H σ st) (g : Dv.Gw G H G' H') : En K T pa G' H' σ st :=
  ⟨g.gh, fun i s h => let ⟨v, a, b⟩ := E.sl i s h; ⟨v, a, b.g1 g⟩, E.ds, E.len⟩
end Dv
set_option autoImplicit true
set_option maxRecDepth 100000
namespace Dv
open PySem PySem.Spec PyProof.Rows L2
theorem pe_weak {X : Cx} {e : Expr} {t t' : TE} (h : PE X e t) (w : ∀ σ H Q, t' σ H Q → t σ H Q) : PE X e t' := ⟨fun pins s σ H Q I q => h.run pins s σ H Q I (w _ _ _ q)⟩
theorem pt_weak {X : Cx} {e : Expr} {t t' : TT} (h : PT X e t) (w : ∀ σ H Q, t' σ H Q → t σ H Q) : PT X e t' := ⟨fun pins s σ H Q I q => h.run pins s σ H Q I (w _ _ _ q)⟩
theorem pw_weak {X : Cx} {e : Expr} {t t' : TT} (h : PW X e t) (w : ∀ σ H Q, t' σ H Q → t σ H Q) : PW X e t' := ⟨fun wh pins s σ H Q I q => h.run wh pins s σ H Q I (w _ _ _ q)⟩
theorem pa_weak {X : Cx} {e : List Expr} {t t' : TA} (h : PA X e t) (w : ∀ σ H Q, t' σ H Q → t σ H Q) : PA X e t' := ⟨fun pos pins s σ H Q I q => h.run pos pins s σ H Q I (w _ _ _ q)⟩
theorem ps_weak {X : Cx} {e : Stmt} {t t' : TS} (h : PS X e t) (w : ∀ D σ H, t' D σ H → t D σ H) : PS X e t' := ⟨fun pins s σ H D I q => h.run pins s σ H D I (w _ _ _ q)⟩
theorem pss_weak {X : Cx} {e : List Stmt} {t t' : TS} (h : PSs X e t) (w : ∀ D σ H, t' D σ H → t D σ H) : PSs X e t' := ⟨fun pins s σ H D I q => h.run pins s σ H D I (w _ _ _ q)⟩
theorem pg_weak {X : Cx} {e : Expr} {t t' : TG} (h : PG X e t) (w : ∀ v σ H Q, t' v σ H Q → t v σ H Q) : PG X e t' := ⟨fun pins s σ H v u Q I r q => h.run pins s σ H v u Q I r (w _ _ _ _ q)⟩
theorem pi_weak {X : Cx} {tg e : Expr} {t t' : TI} (h : PI X tg e t) (w : ∀ σ H R, t' σ H R → t σ H R) : PI X tg e t' := ⟨fun pins s σ H R I q => h.run pins s σ H R I (w _ _ _ q)⟩
/-- the context of the readings: class table, the places of the lists handed in -/
structure Ctx where
  K : PySem.W.Frag
  T : Ct
  pa : Nat → Addr
def tD (c : Ctx) (st : Store) (d : Dt) (st' : Store) : TE := fun σ H Q => ∃ G, En c.K c.T c.pa G H σ st ∧
  ∀ v G' H', Gr G H G' H' (own σ st) (own σ st') → En c.K c.T c.pa G' H' σ st' → Rep c.K c.T G' d v → Q v H'
def tB' (c : Ctx) (st : Store) (b : Bool) (st' : Store) : TT := fun σ H Q => ∃ G, En c.K c.T c.pa G H σ st ∧
  ∀ G' H', Gr G H G' H' (own σ st) (own σ st') → En c.K c.T c.pa G' H' σ st' → Q b H'
def tDs (c : Ctx) (st : Store) (ds : List Dt) (st' : Store) : TA := fun σ H Q => ∃ G, En c.K c.T c.pa G H σ st ∧
  ∀ vs G' H', Gr G H G' H' (own σ st) (own σ st') → En c.K c.T c.pa G' H' σ st' → Reps c.K c.T G' ds vs → Q vs H'
structure XD (c : Ctx) (X : Cx) (e : Expr) (st : Store) (d : Dt) (st' : Store) : Prop where
  pe : PE X e (tD c st d st')
structure XT (c : Ctx) (X : Cx) (e : Expr) (st : Store) (b : Bool) (st' : Store) : Prop where
  pt : PT X e (tB' c st b st')
structure XW (c : Ctx) (X : Cx) (e : Expr) (st : Store) (b : Bool) (st' : Store) : Prop where
  pw : PW X e (tB' c st b st')
structure XA (c : Ctx) (X : Cx) (es : List Expr) (st : Store) (ds : List Dt) (st' : Store) : Prop where
  pa : PA X es (tDs c st ds st')
variable {c : Ctx} {X : Cx} {st st1 st2 st3 st' : Store} {a b e : Expr} {es : List Expr} {d d1 d2 d' : Dt} {ds : List Dt} {pos : Pos}
/-- a value by values: what comes of an operation that only makes things -/
abbrev KV' (c : Ctx) (G H : Hp) (d : Dt) (Q : VK) : Prop := ∀ v G' H', Gw G H G' H' → Rep c.K c.T G' d v → Q v H'
def Op1 (c : Ctx) (d1 d : Dt) (r : V → Hp → VK → Prop) : Prop := ∀ (G H : Hp) (x : V) (Q : VK), Ex G H → Rep c.K c.T G d1 x → KV' c G H d Q → r x H Q
def Op2 (c : Ctx) (d1 d2 d : Dt) (r : R2) : Prop := ∀ (G H : Hp) (x y : V) (Q : VK), Ex G H → Rep c.K c.T G d1 x → Rep c.K c.T G d2 y → KV' c G H d Q → r x y H Q
def OpN (c : Ctx) (ds : List Dt) (d : Dt) (r : List V → Hp → VK → Prop) : Prop := ∀ (G H : Hp) (vs : List V) (Q : VK), Ex G H → Reps c.K c.T G ds vs → KV' c G H d Q → r vs H Q
theorem kv_same {G H : Hp} {Q : VK} {v : V} (k : KV' c G H d Q) (e : Ex G H) (r : Rep c.K c.T G d v) : Q v H := k v G H (Gw.refl e) r
theorem xd_int {i j} : XD c X (.Constant (.int i) j pos) st (.int i) st := ⟨pe_weak pe_int fun σ H Q ⟨G, E, k⟩ => k _ G H Gr.refl E .int⟩
theorem xd_bl {i j} : XD c X (.Constant (.bool i) j pos) st (.bl i) st := ⟨pe_weak pe_bl fun σ H Q ⟨G, E, k⟩ => k _ G H Gr.refl E .bl⟩
theorem xd_non {j} : XD c X (.Constant .none j pos) st .non st := ⟨pe_weak pe_non fun σ H Q ⟨G, E, k⟩ => k _ G H Gr.refl E .non⟩
theorem xd_str {x j} : XD c X (.Constant (.str x) j pos) st (.str x) st := ⟨pe_weak pe_str fun σ H Q ⟨G, E, k⟩ => k _ G H Gr.refl E .str⟩
theorem xd_var (i : Nat) {x : Str} (hs : st[i]? = some (some (.fr d)) := by rfl) (hN : X.N[i]? = some x := by rfl) (hv : Vis X.env.scope x := by first | exact Or.inl rfl | exact Or.inr (Or.inl rfl) | exact Or.inr (Or.inr rfl)) (hd : (x == ("__debug__" : Str)) = false := by decide)
    (hcd : (x == ("__classdict__" : Str)) = false := by decide) : XD c X (.Name x pos) st d st := ⟨pe_weak (pe_var hN hv hd hcd) fun σ H Q ⟨G, E, k⟩ => by
  obtain ⟨v, h1, h2⟩ := E.sl i _ hs
  exact ⟨v, h1, k v G H Gr.refl E h2⟩⟩
theorem xd_bin {op : Operator} {r : R2} (ha : XD c X a st d1 st1) (hb : XD c X b st1 d2 st2) (ho : OpR X (binaryOp op) r) (hv : Op2 c d1 d2 d r) : XD c X (.BinOp a op b pos) st d st2 :=
  ⟨pe_weak (pe_op ho ha.pe hb.pe) fun σ H Q ⟨G, E, k⟩ => ⟨G, E, fun x G1 H1 g1 E1 r1 => ⟨G1, E1, fun y G2 H2 g2 E2 r2 =>
    hv G2 H2 x y Q E2.ex (r1.ex g2.ex) r2 fun v G3 H3 g3 r3 => k v G3 H3 ((g1.trans g2).trans g3.gr) (E2.g1 g3) r3⟩⟩⟩
theorem xd_cmp {op : CmpOp} {r : R2} (ha : XD c X a st d1 st1) (hb : XD c X b st1 d2 st2) (ho : OpR X (compareOp op) r) (hv : Op2 c d1 d2 d r) (hm : behindInMarks op b = false) : XD c X (.Compare a [op] [b] pos) st d st2 :=
  ⟨pe_weak (pe_cmpR ho ha.pe hb.pe hm) fun σ H Q ⟨G, E, k⟩ => ⟨G, E, fun x G1 H1 g1 E1 r1 => ⟨G1, E1, fun y G2 H2 g2 E2 r2 =>
    hv G2 H2 x y Q E2.ex (r1.ex g2.ex) r2 fun v G3 H3 g3 r3 => k v G3 H3 ((g1.trans g2).trans g3.gr) (E2.g1 g3) r3⟩⟩⟩
theorem xt_cmp {op : CmpOp} {r : R2} {t : Bool} (ha : XD c X a st d1 st1) (hb : XD c X b st1 d2 st2) (ho : OpR X (compareOp op) r) (hv : Op2 c d1 d2 (.bl t) r) (hm : behindInMarks op b = false) : XT c X (.Compare a [op] [b] pos) st t st2 :=
  ⟨pt_weak (pt_cmpR ho ha.pe hb.pe hm) fun σ H Q ⟨G, E, k⟩ => ⟨G, E, fun x G1 H1 g1 E1 r1 => ⟨G1, E1, fun y G2 H2 g2 E2 r2 =>
    hv G2 H2 x y _ E2.ex (r1.ex g2.ex) r2 fun v G3 H3 g3 r3 => by cases r3; exact ⟨t, rfl, k G3 H3 ((g1.trans g2).trans g3.gr) (E2.g1 g3)⟩⟩⟩⟩
theorem xd_un {op : UnaryOp} {r : V → Hp → VK → Prop} (ha : XD c X a st d1 st1) (ho : UnR X (unaryOp op) r) (hv : Op1 c d1 d r) : XD c X (.UnaryOp op a pos) st d st1 :=
  ⟨pe_weak (pe_un ho ha.pe) fun σ H Q ⟨G, E, k⟩ => ⟨G, E, fun x G1 H1 g1 E1 r1 => hv G1 H1 x Q E1.ex r1 fun v G3 H3 g3 r3 => k v G3 H3 (g1.trans g3.gr) (E1.g1 g3) r3⟩⟩
theorem xd_ix {r : R2} (ha : XD c X a st d1 st1) (hb : XD c X b st1 d2 st2) (ho : IxR X r) (hv : Op2 c d1 d2 d r) (hs : PlainIx b) : XD c X (.Subscript a b pos) st d st2 :=
  ⟨pe_weak (pe_ix ho ha.pe hb.pe hs) fun σ H Q ⟨G, E, k⟩ => ⟨G, E, fun x G1 H1 g1 E1 r1 => ⟨G1, E1, fun y G2 H2 g2 E2 r2 =>
    hv G2 H2 x y Q E2.ex (r1.ex g2.ex) r2 fun v G3 H3 g3 r3 => k v G3 H3 ((g1.trans g2).trans g3.gr) (E2.g1 g3) r3⟩⟩⟩
theorem xt_val {t : Bool} (h : XD c X e st (.bl t) st1) (he : ∀ whole, isTrue e X.env whole = (do let v ← whole; standAt e.pos; holding [v] (truthy v)) := by intro _; rfl) : XT c X e st t st1 :=
  ⟨pt_weak (pt_val h.pe he) fun σ H Q ⟨G, E, k⟩ => ⟨G, E, fun x G1 H1 g1 E1 r1 => by cases r1; exact ⟨t, rfl, k G1 H1 g1 E1⟩⟩⟩
theorem xw_pt {t : Bool} (h : XW c X e st t st1) : XT c X e st t st1 := ⟨h.pw.pt⟩
theorem xt_not {t : Bool} (h : XT c X a st t st1) : XT c X (.UnaryOp .Not a pos) st (!t) st1 := ⟨pt_weak (pt_not h.pt) fun σ H Q h => h⟩
theorem xw_and1 {t : Bool} (h : XT c X a st t st1) : XW c X (.BoolOp .And [a] pos) st t st1 := ⟨pw_and1 h.pt⟩
theorem xw_or1 {t : Bool} (h : XT c X a st t st1) : XW c X (.BoolOp .Or [a] pos) st t st1 := ⟨pw_or1 h.pt⟩
theorem pw_never {X : Cx} {e : Expr} : PW X e (fun _ _ _ => False) := ⟨fun _ _ _ _ _ _ _ h => h.elim⟩
theorem pe_never {X : Cx} {e : Expr} : PE X e (fun _ _ _ => False) := ⟨fun _ _ _ _ _ _ h => h.elim⟩
theorem pss_never' {X : Cx} {e : List Stmt} : PSs X e (fun _ _ _ => False) := ⟨fun _ _ _ _ _ _ h => h.elim⟩
theorem xw_andT {rest : List Expr} {t : Bool} (h : XT c X a st true st1) (h2 : XW c X (.BoolOp .And (b :: rest) pos) st1 t st2) : XW c X (.BoolOp .And (a :: b :: rest) pos) st t st2 :=
  ⟨pw_weak (pw_and h.pt h2.pw) fun σ H Q ⟨G, E, k⟩ => ⟨G, E, fun G1 H1 g1 E1 => by refine L2.iteT ?_; exact ⟨G1, E1, fun G2 H2 g2 E2 => k G2 H2 (g1.trans g2) E2⟩⟩⟩
theorem xw_andF {rest : List Expr} (h : XT c X a st false st1) : XW c X (.BoolOp .And (a :: b :: rest) pos) st false st1 :=
  ⟨pw_weak (pw_and h.pt pw_never) fun σ H Q ⟨G, E, k⟩ => ⟨G, E, fun G1 H1 g1 E1 => by refine L2.iteF ?_; exact k G1 H1 g1 E1⟩⟩
theorem xw_orF {rest : List Expr} {t : Bool} (h : XT c X a st false st1) (h2 : XW c X (.BoolOp .Or (b :: rest) pos) st1 t st2) : XW c X (.BoolOp .Or (a :: b :: rest) pos) st t st2 :=
  ⟨pw_weak (pw_or h.pt h2.pw) fun σ H Q ⟨G, E, k⟩ => ⟨G, E, fun G1 H1 g1 E1 => by refine L2.iteF ?_; exact ⟨G1, E1, fun G2 H2 g2 E2 => k G2 H2 (g1.trans g2) E2⟩⟩⟩
theorem xw_orT {rest : List Expr} (h : XT c X a st true st1) : XW c X (.BoolOp .Or (a :: b :: rest) pos) st true st1 :=
  ⟨pw_weak (pw_or h.pt pw_never) fun σ H Q ⟨G, E, k⟩ => ⟨G, E, fun G1 H1 g1 E1 => by refine L2.iteT ?_; exact k G1 H1 g1 E1⟩⟩
/-- and, or as values -/
theorem xd_one {op} (h : XD c X a st d st1) : XD c X (.BoolOp op [a] pos) st d st1 := ⟨pe_one h.pe⟩
theorem xd_if {t : Expr} {tb : Bool} (h : XT c X t st tb st1) (h1 : tb = true → XD c X a st1 d st2) (h2 : tb = false → XD c X b st1 d st2) : XD c X (.IfExp t a b pos) st d st2 := by
  cases tb with
  | true => exact ⟨pe_weak (pe_ifExp h.pt (h1 rfl).pe pe_never) fun σ H Q ⟨G, E, k⟩ => ⟨G, E, fun G1 H1 g1 E1 => by refine L2.iteT ?_; exact ⟨G1, E1, fun v G2 H2 g2 E2 r2 => k v G2 H2 (g1.trans g2) E2 r2⟩⟩⟩
  | false => exact ⟨pe_weak (pe_ifExp h.pt pe_never (h2 rfl).pe) fun σ H Q ⟨G, E, k⟩ => ⟨G, E, fun G1 H1 g1 E1 => by refine L2.iteF ?_; exact ⟨G1, E1, fun v G2 H2 g2 E2 r2 => k v G2 H2 (g1.trans g2) E2 r2⟩⟩⟩
theorem xa_nil : XA c X [] st [] st := ⟨pa_weak pa_nil fun σ H Q ⟨G, E, k⟩ => k [] G H Gr.refl E .nil⟩
theorem xa_cons (h : XD c X e st d st1) (h2 : XA c X es st1 ds st2) (hs : starEach (e :: es) X.env = (false, eval e X.env) :: starEach es X.env := by rfl) : XA c X (e :: es) st (d :: ds) st2 :=
  ⟨pa_weak (pa_cons h.pe h2.pa hs) fun σ H Q ⟨G, E, k⟩ => ⟨G, E, fun v G1 H1 g1 E1 r1 => ⟨G1, E1, fun vs G2 H2 g2 E2 r2 => k (v :: vs) G2 H2 (g1.trans g2) E2 (.cons (r1.ex g2.ex) r2)⟩⟩⟩
theorem xd_tup {x1} (h : XA c X es st ds st1) (hl : ds.length ≤ 100000) : XD c X (.Tuple es x1 pos) st (.tup ds) st1 :=
  ⟨pe_weak (pe_tup h.pa) fun σ H Q ⟨G, E, k⟩ => ⟨G, E, fun vs G1 H1 g1 E1 r1 => ⟨by rw [← r1.length]; exact Nat.le_trans hl (by decide), fun p hp => k _ _ _ (g1.trans (Gw.new E1.ex hp).gr) (E1.g1 (Gw.new E1.ex hp)) (.tup (SqT.of upd_same) (r1.ex (Gw.new (o := .tup vs) E1.ex hp).ex))⟩⟩⟩
theorem xd_lst (h : XA c X es st ds st1) (hl : ds.length ≤ 100000) : XD c X (.List es pos) st (.lst ds) st1 :=
  ⟨pe_weak (pe_lst h.pa) fun σ H Q ⟨G, E, k⟩ => ⟨G, E, fun vs G1 H1 g1 E1 r1 => ⟨by rw [← r1.length]; exact Nat.le_trans hl (by decide), fun p hp => k _ _ _ (g1.trans (Gw.new E1.ex hp).gr) (E1.g1 (Gw.new E1.ex hp)) (.lst upd_same (r1.ex (Gw.new (o := .lst vs) E1.ex hp).ex))⟩⟩⟩
/-- a built-in's call by its name, by values -/
theorem xd_callB {x : Str} {p : Pos} {id : String} {r : List V → Hp → VK → Prop} (h : XA c X (e :: es) st ds st1) (hc : CallR X (.builtin id) r) (hv : OpN c ds d r) (hm : X.mg x = none) (hb : bootBuiltins x = some (.builtin id)) (hg : Gl X x := by rfl)
    (hn : x ≠ "__name__" := by decide) (hdb : (x == ("__debug__" : Str)) = false := by decide)
    (he : starEach (e :: es) X.env = (false, eval e X.env) :: starEach es X.env := by rfl) (hpl : (backTo pos (starEach es X.env)).any (·.1) = false := by rfl) : XD c X (.Call (.Name x p) (e :: es) [] pos) st d st1 :=
  ⟨pe_weak (pe_callB hc hg hm hb h.pa hn hdb he hpl) fun σ H Q ⟨G, E, k⟩ => ⟨G, E, fun vs G1 H1 g1 E1 r1 => hv G1 H1 vs Q E1.ex r1 fun v G3 H3 g3 r3 => k v G3 H3 (g1.trans g3.gr) (E1.g1 g3) r3⟩⟩
theorem xd_callTy {x : Str} {p : Pos} {id : String} {r : List V → Hp → VK → Prop} (h : XA c X (e :: es) st ds st1) (hc : CallR X (.type id) r) (hv : OpN c ds d r) (hm : X.mg x = none) (hb : bootBuiltins x = some (.type id)) (hg : Gl X x := by rfl)
    (hn : x ≠ "__name__" := by decide) (hdb : (x == ("__debug__" : Str)) = false := by decide)
    (he : starEach (e :: es) X.env = (false, eval e X.env) :: starEach es X.env := by rfl) (hpl : (backTo pos (starEach es X.env)).any (·.1) = false := by rfl) : XD c X (.Call (.Name x p) (e :: es) [] pos) st d st1 :=
  ⟨pe_weak (pe_callTy hc hg hm hb h.pa hn hdb he hpl) fun σ H Q ⟨G, E, k⟩ => ⟨G, E, fun vs G1 H1 g1 E1 r1 => hv G1 H1 vs Q E1.ex r1 fun v G3 H3 g3 r3 => k v G3 H3 (g1.trans g3.gr) (E1.g1 g3) r3⟩⟩
section ops
variable {i j : Int} {x y : Str}
theorem o_I0 {g : Int → Int → Int} : Op2 c (.int i) (.int j) (.int (g i j)) (rI0 fun i j => .int (g i j)) := fun G H v u Q e r1 r2 k => by
  cases r1; cases r2; exact ⟨i, j, rfl, rfl, kv_same k e .int⟩
theorem o_I {C : Int → Int → Prop} {g : Int → Int → Int} (hc : C i j) : Op2 c (.int i) (.int j) (.int (g i j)) (rI C fun i j => .int (g i j)) := fun G H v u Q e r1 r2 k => by
  cases r1; cases r2; exact ⟨i, j, rfl, rfl, hc, kv_same k e .int⟩
theorem o_B0 {g : Int → Int → Bool} : Op2 c (.int i) (.int j) (.bl (g i j)) (rI0 fun i j => .bl (g i j)) := fun G H v u Q e r1 r2 k => by
  cases r1; cases r2; exact ⟨i, j, rfl, rfl, kv_same k e .bl⟩
theorem o_neg : Op1 c (.int i) (.int (-i)) (rU fun i => .int (-i)) := fun G H v Q e r1 k => by
  cases r1; exact ⟨i, rfl, kv_same k e .int⟩
end ops
end Dv
set_option autoImplicit true
set_option maxRecDepth 100000
namespace Dv
open PySem PySem.Spec PyProof.Rows L2
variable {c : Ctx} {X : Cx} {st st1 st2 st3 st' : Store} {a b e : Expr} {es : List Expr} {d d1 d2 d' : Dt} {ds xs ys : List Dt} {pos : Pos} {G G' H H' : Hp} {σ σ' : L2.St} {v : V} {i j : Nat}
theorem set_cases {α : Type} {l : List α} {i j : Nat} {x y : α} (h : (l.set i x)[j]? = some y) : (j = i ∧ x = y ∧ i < l.length) ∨ (j ≠ i ∧ l[j]? = some y) := by
  by_cases q : j = i
  · subst q
    rw [List.getElem?_set] at h
    by_cases z : j < l.length
    · rw [if_pos rfl, if_pos z] at h; exact .inl ⟨rfl, Option.some.inj h, z⟩
    · rw [if_pos rfl, if_neg z] at h; cases h
  · rw [List.getElem?_set_ne (Ne.symm q)] at h
    exact .inr ⟨q, h⟩
theorem En.setFr (E : En c.K c.T c.pa G H σ st) (r : Rep c.K c.T G d v) (i : Nat) : En c.K c.T c.pa G H (σ.set i (some v)) (st.set i (some (.fr d))) where
  ex := E.ex
  sl := fun j s h => by
    rcases set_cases h with ⟨rfl, e, z⟩ | ⟨n, h⟩
    · cases e
      exact ⟨v, by rw [List.getElem?_set_self (by rw [E.len]; exact z)], r⟩
    · obtain ⟨w, h1, h2⟩ := E.sl j s h
      exact ⟨w, by rw [List.getElem?_set_ne (Ne.symm n)]; exact h1, h2⟩
  ds := fun j k s t p h1 h2 o1 o2 h3 h4 => by
    rcases set_cases h1 with ⟨rfl, e, z⟩ | ⟨n, h1⟩
    · cases e; cases o1
    · rcases set_cases h2 with ⟨rfl, e, z⟩ | ⟨n', h2⟩
      · cases e; cases o2
      · rw [List.getElem?_set_ne (Ne.symm n)] at h3
        rw [List.getElem?_set_ne (Ne.symm n')] at h4
        exact E.ds j k s t p h1 h2 o1 o2 h3 h4
  len := by rw [List.length_set, List.length_set, E.len]
theorem own_setFr {p : Addr} (h : own (σ.set i (some v)) (st.set i (some (.fr d))) p) : own σ st p := by
  obtain ⟨j, s, h1, h2, h3⟩ := h
  rcases set_cases h1 with ⟨rfl, e, z⟩ | ⟨n, h1⟩
  · cases e; cases h2
  · rw [List.getElem?_set_ne (Ne.symm n)] at h3
    exact ⟨j, s, h1, h2, h3⟩
theorem Gr.weakO {O O' O'' : Addr → Prop} (g : Gr G H G' H' O O') (h : ∀ p, O'' p → O' p) : Gr G H G' H' O O'' := ⟨g.ex, g.nw, g.fr, g.al, fun p q => g.ow p (h p q)⟩
inductive Out where
  | nx (st : Store) | rt (d : Dt) (st : Store) | bk (st : Store) | ct (st : Store) | rl (xs : List Dt) | rq (ds : List Dt) (j : Nat) (st : Store)
def OutK (c : Ctx) (D : Ends) (G H : Hp) (O : Addr → Prop) : Out → Prop
  | .nx st' => ∀ σ' G' H', Gr G H G' H' O (own σ' st') → En c.K c.T c.pa G' H' σ' st' → D.nx σ' H'
  | .bk st' => ∀ σ' G' H', Gr G H G' H' O (own σ' st') → En c.K c.T c.pa G' H' σ' st' → D.bk σ' H'
  | .ct st' => ∀ σ' G' H', Gr G H G' H' O (own σ' st') → En c.K c.T c.pa G' H' σ' st' → D.ct σ' H'
  | .rt d st' => ∀ v σ' G' H', Gr G H G' H' O (own σ' st') → En c.K c.T c.pa G' H' σ' st' → Rep c.K c.T G' d v → D.rt v H'
  | .rl xs => ∀ p ws G' H', Gr G H G' H' O (fun _ => False) → Ex G' H' → (H p = none ∨ O p) → G' p = none → H' p = some (.lst ws) → Reps c.K c.T G' xs ws → D.rt (.ref p) H'
  | .rq ds j st' => ∀ t b vs σ' G' H', Gr G H G' H' O (own σ' st') → En c.K c.T c.pa G' H' σ' st' → Reps c.K c.T G' ds vs → σ'[j]? = some (some (.ref b)) → G' t = none → ¬ own σ' st' t → H' t = some (.tup (vs ++ [.ref b])) → D.rt (.ref t) H'
theorem OutK.from {D : Ends} {G H G1 H1 : Hp} {O O1 : Addr → Prop} {o : Out} (k : OutK c D G H O o) (g : Gr G H G1 H1 O O1) : OutK c D G1 H1 O1 o := by
  cases o with
  | nx s => exact fun σ' G' H' g' E => k σ' G' H' (g.trans g') E
  | bk s => exact fun σ' G' H' g' E => k σ' G' H' (g.trans g') E
  | ct s => exact fun σ' G' H' g' E => k σ' G' H' (g.trans g') E
  | rt d s => exact fun v σ' G' H' g' E r => k v σ' G' H' (g.trans g') E r
  | rq ds j s => exact fun t b vs σ' G' H' g' E r1 r2 r3 r4 r5 => k t b vs σ' G' H' (g.trans g') E r1 r2 r3 r4 r5
  | rl xs => exact fun p ws G' H' g' e hp hn hl r => k p ws G' H' (g.trans g') e (hp.elim (fun z => .inl (by
      cases q : H p with
      | none => rfl
      | some u => exact absurd z (g.al p (by rw [q]; simp)))) fun z => (g.ow p z).elim .inr .inl) hn hl r
def tO (c : Ctx) (st : Store) (o : Out) : TS := fun D σ H => ∃ G, En c.K c.T c.pa G H σ st ∧ OutK c D G H (own σ st) o
structure XP (c : Ctx) (X : Cx) (s : Stmt) (st : Store) (o : Out) : Prop where
  ps : PS X s (tO c st o)
structure XS (c : Ctx) (X : Cx) (s : List Stmt) (st : Store) (o : Out) : Prop where
  pss : PSs X s (tO c st o)
variable {s : Stmt} {rest body orelse : List Stmt} {o : Out}
theorem xs_nil : XS c X [] st (.nx st) := ⟨pss_weak pss_nil fun D σ H ⟨G, E, k⟩ => k σ G H Gr.refl E⟩
theorem xs_cons (h1 : XP c X s st (.nx st1)) (h2 : XS c X rest st1 o) : XS c X (s :: rest) st o :=
  ⟨pss_weak (pss_cons h1.ps h2.pss) fun D σ H ⟨G, E, k⟩ => ⟨G, E, fun σ1 G1 H1 g1 E1 => ⟨G1, E1, k.from g1⟩⟩⟩
theorem xs_ret (h1 : XP c X s st (.rt d st')) : XS c X (s :: rest) st (.rt d st') :=
  ⟨pss_weak (pss_cons h1.ps pss_never') fun D σ H ⟨G, E, k⟩ => ⟨G, E, k⟩⟩
theorem xs_bk (h1 : XP c X s st (.bk st')) : XS c X (s :: rest) st (.bk st') :=
  ⟨pss_weak (pss_cons h1.ps pss_never') fun D σ H ⟨G, E, k⟩ => ⟨G, E, k⟩⟩
theorem xs_ct (h1 : XP c X s st (.ct st')) : XS c X (s :: rest) st (.ct st') :=
  ⟨pss_weak (pss_cons h1.ps pss_never') fun D σ H ⟨G, E, k⟩ => ⟨G, E, k⟩⟩
theorem xs_rl (h1 : XP c X s st (.rl xs)) : XS c X (s :: rest) st (.rl xs) :=
  ⟨pss_weak (pss_cons h1.ps pss_never') fun D σ H ⟨G, E, k⟩ => ⟨G, E, k⟩⟩
theorem xs_rq {j : Nat} (h1 : XP c X s st (.rq ds j st')) : XS c X (s :: rest) st (.rq ds j st') :=
  ⟨pss_weak (pss_cons h1.ps pss_never') fun D σ H ⟨G, E, k⟩ => ⟨G, E, k⟩⟩
theorem xp_ret (h : XD c X e st d st1) : XP c X (.Return (some e) pos) st (.rt d st1) :=
  ⟨ps_weak (ps_ret h.pe) fun D σ H ⟨G, E, k⟩ => ⟨G, E, fun v G1 H1 g1 E1 r1 => k v σ G1 H1 g1 E1 r1⟩⟩
theorem xp_if {t : Expr} {tb : Bool} {A B : List Stmt} (h : XT c X t st tb st1) (h1 : tb = true → XS c X A st1 o) (h2 : tb = false → XS c X B st1 o) : XP c X (.If t A B pos) st o := by
  cases tb with
  | true => exact ⟨ps_weak (ps_if h.pt (h1 rfl).pss pss_never') fun D σ H ⟨G, E, k⟩ => ⟨G, E, fun G1 H1 g1 E1 => by refine L2.iteT ?_; exact ⟨G1, E1, k.from g1⟩⟩⟩
  | false => exact ⟨ps_weak (ps_if h.pt pss_never' (h2 rfl).pss) fun D σ H ⟨G, E, k⟩ => ⟨G, E, fun G1 H1 g1 E1 => by refine L2.iteF ?_; exact ⟨G1, E1, k.from g1⟩⟩⟩
def gD (c : Ctx) (d : Dt) (st st' : Store) : TG := fun v σ H Q => ∃ G, En c.K c.T c.pa G H σ st ∧ Rep c.K c.T G d v ∧ ∀ σ' G' H', Gr G H G' H' (own σ st) (own σ' st') → En c.K c.T c.pa G' H' σ' st' → Q σ' H'
def gDs (c : Ctx) (ds : List Dt) (st st' : Store) : TGs := fun vs σ H Q => ∃ G, En c.K c.T c.pa G H σ st ∧ Reps c.K c.T G ds vs ∧ ∀ σ' G' H', Gr G H G' H' (own σ st) (own σ' st') → En c.K c.T c.pa G' H' σ' st' → Q σ' H'
structure XG (c : Ctx) (X : Cx) (tg : Expr) (d : Dt) (st st' : Store) : Prop where
  pg : PG X tg (gD c d st st')
structure XGs (c : Ctx) (X : Cx) (tg : List Expr) (ds : List Dt) (st st' : Store) : Prop where
  pgs : PGs X tg (gDs c ds st st')
theorem xg_name (i : Nat) {x : Str} (hN : X.N.Nodup) (hi : X.N[i]? = some x := by rfl) (hx : Loc X.env.scope x := by first | exact Or.inl rfl | exact Or.inr rfl) (hf : X.fn x = true ∨ X.env.scope.names.lookup x = some .local := by first | exact .inl rfl | exact .inr rfl | assumption) :
    XG c X (.Name x pos) d st (st.set i (some (.fr d))) := ⟨pg_weak (pg_name hN hi hx hf) fun v σ H Q ⟨G, E, r, k⟩ => k _ G H (Gr.refl.weakO fun p h => own_setFr h) (E.setFr r i)⟩
theorem pgs_weak {X : Cx} {e : List Expr} {t t' : TGs} (h : PGs X e t) (w : ∀ v σ H Q, t' v σ H Q → t v σ H Q) : PGs X e t' := ⟨fun pins s σ H v u Q I r q => h.run pins s σ H v u Q I r (w _ _ _ _ q)⟩
theorem xgs_nil : XGs c X [] [] st st := ⟨pgs_weak pgs_nil fun v σ H Q ⟨G, E, r, k⟩ => by cases r; exact ⟨rfl, k _ G H Gr.refl E⟩⟩
theorem xgs_cons (h : XG c X e d st st1) (h2 : XGs c X es ds st1 st2) (hs : (assignEach (e :: es) X.env).map (·.2) = assign e X.env :: (assignEach es X.env).map (·.2) := by rfl) : XGs c X (e :: es) (d :: ds) st st2 :=
  ⟨pgs_weak (pgs_cons h.pg h2.pgs hs) fun v σ H Q ⟨G, E, r, k⟩ => by
    cases r with
    | cons r rs => exact ⟨_, _, rfl, G, E, r, fun σ1 G1 H1 g1 E1 => ⟨G1, E1, rs.ex g1.ex, fun σ2 G2 H2 g2 E2 => k σ2 G2 H2 (g1.trans g2) E2⟩⟩⟩
theorem Rep.tup_inv {K : PySem.W.Frag} {T : Ct} {xs : List Dt} {v : V} (r : Rep K T G (.tup xs) v) : ∃ a vs, v = .ref a ∧ SqT K G a vs ∧ Reps K T G xs vs := by
  cases r with
  | tup h r => exact ⟨_, _, rfl, h, r⟩
theorem Rep.ro_inv {K : PySem.W.Frag} {T : Ct} {xs : List Dt} {v : V} (r : Rep K T G (.ro xs) v) : ∃ a vs, v = .ref a ∧ SqL K G a vs ∧ Reps K T G xs vs := by
  cases r with
  | ro h r => exact ⟨_, _, rfl, h, r⟩
theorem Rep.lst_inv {K : PySem.W.Frag} {T : Ct} {xs : List Dt} {v : V} (r : Rep K T G (.lst xs) v) : ∃ a vs, v = .ref a ∧ G a = some (.lst vs) ∧ Reps K T G xs vs := by
  cases r with
  | lst h r => exact ⟨_, _, rfl, h, r⟩
theorem Rep.obj_inv {K : PySem.W.Frag} {T : Ct} {n : Nat} {fs : List Dt} {v : V} (r : Rep K T G (.obj n fs) v) : ∃ C ns a dx vs, v = .ref a ∧ T n = some (C, ns) ∧ G a = some (.ins C dx (ns.zip vs)) ∧ ns.length = vs.length ∧ Reps K T G fs vs := by
  cases r with
  | obj h1 h2 h3 r => exact ⟨_, _, _, _, _, rfl, h1, h2, h3, r⟩
theorem xg_tup {k : Nat} {n : Nat} (hK : X.K = c.K) (hc : X.calm = true) (h : XGs c X es ds st st1) (hl : ds.length = n)
    (hn : (assignEach es X.env).length = n := by rfl) (hst : (assignEach es X.env).findIdx? (·.1) = none := by rfl) : XG c X (.Tuple es k pos) (.tup ds) st st1 :=
  ⟨pg_weak (pg_tup hc h.pgs hn hst) fun v σ H Q ⟨G, E, r, k⟩ => by
    obtain ⟨a, vs, rfl, h1, h2⟩ := r.tup_inv
    exact ⟨a, vs, rfl, by rw [hK]; exact E.ex.st h1, by rw [← h2.length]; exact hl, G, E, h2, k⟩⟩
theorem xp_set (i : Nat) {x : Str} {pos' : Pos} (hN : X.N.Nodup) (he : XD c X e st d st1) (hi : X.N[i]? = some x := by rfl) (hx : Loc X.env.scope x := by first | exact Or.inl rfl | exact Or.inr rfl) (hs : swapsWith e (some (.Name x pos')) pos.line X.env = pure false := by rfl)
    (hf : X.fn x = true ∨ X.env.scope.names.lookup x = some .local := by first | exact .inl rfl | exact .inr rfl | assumption) : XP c X (.Assign [.Name x pos'] e pos) st (.nx (st1.set i (some (.fr d)))) :=
  ⟨ps_weak (ps_set hN hi hx he.pe hs hf) fun D σ H ⟨G, E, k⟩ => ⟨G, E, fun v G1 H1 g1 E1 r1 => k _ G1 H1 (g1.weakO fun p h => own_setFr h) (E1.setFr r1 i)⟩⟩
/-- a, b = x, y -/
theorem xp_par (i j : Nat) {x y : Str} {px py pt : Pos} {kt k2 pt2} (hN : X.N.Nodup) (hc : X.calm = true) (ha : XA c X [a, b] st [d1, d2] st1) (hij : i ≠ j) (hi : X.N[i]? = some x := by rfl) (hj : X.N[j]? = some y := by rfl)
    (hx : X.env.scope.names.lookup x = some .local := by rfl) (hy : X.env.scope.names.lookup y = some .local := by rfl)
    (hw : swappedStores [.Tuple [.Name x px, .Name y py] kt pt] (.Tuple [a, b] k2 pt2) X.env = pure (some [x, y]) := by rfl)
    (hs : swapsWithSole [.Tuple [.Name x px, .Name y py] kt pt] (.Tuple [a, b] k2 pt2) pos.line X.env = pure false := by rfl) :
    XP c X (.Assign [.Tuple [.Name x px, .Name y py] kt pt] (.Tuple [a, b] k2 pt2) pos) st (.nx ((st1.set i (some (.fr d1))).set j (some (.fr d2)))) :=
  ⟨ps_weak (ps_par hc hN hi hj hij hx hy ha.pa hw hs) fun D σ H ⟨G, E, k⟩ => ⟨G, E, fun vs G1 H1 g1 E1 r1 => by
    cases r1 with
    | cons r r1 =>
      cases r1 with
      | cons r' r1 =>
        cases r1
        exact ⟨_, _, rfl, k _ G1 H1 (g1.weakO fun p h => own_setFr (own_setFr h)) ((E1.setFr r i).setFr r' j)⟩⟩⟩
def spD (K : PySem.W.Frag) (T : Ct) (R : List Dt → Dt → Prop) : Sp := fun vs H Q _ => ∃ G ds r, Ex G H ∧ Reps K T G ds vs ∧ R ds r ∧
  ∀ v G' H', Gr G H G' H' (fun _ => False) (fun _ => False) → Ex G' H' → Rep K T G' r v → Q v H'
theorem xd_call {CX : CXT} {k : Nat} {f : Addr} {fd : FuncData} {ps : List Str} {R : List Dt → Dt → Prop} {x : Str} {p : Pos} {dds : List Dt} {dvs : List V} {dus : List Value}
    (F : FnOk X.prog X.w X.K X.mg X.base CX k f fd ps (spD c.K c.T R)) (hr : Room k X.A) (hm : X.mg x = some (.ref f)) (hk : PySem.W.keepIn X.K (.ref f) = true) (hb : Binds X.K fd ps dus) (hd : Vals dvs dus) (hdd : ∀ G, Reps c.K c.T G dds dvs)
    {E : XK} (hx : Passes CX X E) (h : XA c X (e :: es) st ds st1) (hR : R (ds ++ dds) d) (hg : Gl X x := by rfl) (hdb : (x == ("__debug__" : Str)) = false := by decide) (he : starEach (e :: es) X.env = (false, eval e X.env) :: starEach es X.env := by rfl) (hpl : (backTo pos (starEach es X.env)).any (·.1) = false := by rfl) :
    XD c X (.Call (.Name x p) (e :: es) [] pos) st d st1 :=
  ⟨pe_weak (pe_call F hr hg hm hk hb hd hx h.pa hdb he hpl) fun σ H Q ⟨G, E, k⟩ => ⟨G, E, fun vs G1 H1 g1 E1 r1 => ⟨G1, ds ++ dds, d, E1.ex, r1.app (hdd G1), hR, fun v G2 H2 g2 e2 r2 => by
    have w : Gw G1 H1 G2 H2 := ⟨g2.ex, fun p o h => g2.fr p o h id, e2, fun p o h => (g2.nw p o h).elim .inl fun z => z.elim .inr False.elim⟩
    exact k v G2 H2 (g1.trans w.gr) (E1.g1 w) r2⟩⟩⟩
/-- a def's store at its entry -/
def st0 (N : List Str) (ds : List Dt) : Store := ds.map (fun d => some (.fr d)) ++ List.replicate (N.length - ds.length) none
theorem En.start {N : List Str} {ds : List Dt} {vs : List V} (e : Ex G H) (r : Reps c.K c.T G ds vs) : En c.K c.T c.pa G H (L2.start N vs) (st0 N ds) where
  ex := e
  sl := fun i s h => by
    unfold st0 at h
    unfold L2.start
    by_cases q : i < ds.length
    · rw [List.getElem?_append_left (by simpa using q)] at h
      rw [List.getElem?_map] at h
      cases z : ds[i]? with
      | none => rw [z] at h; cases h
      | some d =>
        rw [z] at h
        cases h
        obtain ⟨v, h1, h2⟩ := r.get z
        refine ⟨v, ?_, h2⟩
        rw [List.getElem?_append_left (by rw [List.length_map, ← r.length]; exact q), List.getElem?_map, h1]
        rfl
    · rw [List.getElem?_append_right (by simpa using q), List.getElem?_replicate] at h
      split at h <;> cases h
  ds := fun i j s t a h1 h2 o1 => by
    exfalso
    unfold st0 at h1
    by_cases q : i < ds.length
    · rw [List.getElem?_append_left (by simpa using q), List.getElem?_map] at h1
      cases z : ds[i]? with
      | none => rw [z] at h1; cases h1
      | some d => rw [z] at h1; cases h1; cases o1
    · rw [List.getElem?_append_right (by simpa using q), List.getElem?_replicate] at h1
      split at h1 <;> cases h1
  len := by unfold L2.start st0; rw [List.length_append, List.length_append, List.length_map, List.length_map, r.length]; simp
theorem own_start {N : List Str} {ds : List Dt} {σ : L2.St} {p : Addr} (h : own σ (st0 N ds) p) : False := by
  obtain ⟨i, s, h1, o1, _⟩ := h
  unfold st0 at h1
  by_cases q : i < ds.length
  · rw [List.getElem?_append_left (by simpa using q), List.getElem?_map] at h1
    cases z : ds[i]? with
    | none => rw [z] at h1; cases h1
    | some d => rw [z] at h1; cases h1; cases o1
  · rw [List.getElem?_append_right (by simpa using q), List.getElem?_replicate] at h1
    split at h1 <;> cases h1
theorem Gr.fromO {O O1 O' : Addr → Prop} (g : Gr G H G' H' O O') (h : ∀ p, O p → O1 p) : Gr G H G' H' O1 O' :=
  ⟨g.ex, fun p o q => (g.nw p o q).imp id (Or.imp id (h p)), fun p o q n => g.fr p o q fun z => n (h p z), g.al, fun p q => (g.ow p q).imp (h p) id⟩
/-- the context of a def's body that lets no exception out -/
abbrev bX (P : Program) (w : World) (K : PySem.W.Frag) (mg : Str → Option Value) (base : Heap) (N : List Str) (qual : Str) (sd : Stmt) (f : Addr) (cdv : Value) (A : Around) (outer : List Env) (s : Shared) (H : Hp) (E : XK) : Cx :=
  (cxOf CX0 P w K mg base N qual (defScope sd) f cdv A outer s H E).nox
/-- A DEF: its body on data -/
theorem okD {P : Program} {w : World} {K : PySem.W.Frag} {T : Ct} {mg : Str → Option Value} {base : Heap} {x qual : Str} {sd : Stmt} {f : Addr} {fd : FuncData} {N ps : List Str} {k : Nat} {R : List Dt → Dt → Prop} (F : Fun K x qual sd f fd) (S : FnScope N ps (defScope sd)) (hl : ∀ ds r, R ds r → ds.length = ps.length)
    (body : ∀ (cdv : Value) (A : Around) (outer : List Env) (s : Shared) (H : Hp) (E : XK) (pa : Nat → Addr) (ds : List Dt) (r : Dt), Room k (A.deeper (envOfC qual (defScope sd) s.heap.objs.size f cdv)) → R ds r →
      ∃ o, XS ⟨K, T, pa⟩ (bX P w K mg base N qual sd f cdv A outer s H E) (defBody sd) (st0 N ds) o ∧ ((∃ st', o = .rt r st') ∨ (r = .non ∧ ∃ st', o = .nx st'))) : FnOk P w K mg base CX0 (k + 1) f fd ps (spD K T R) := by
  refine F.ok S (fun vs H Q E h => ?_) (fun cdv A outer s H vs Q E hr h => ?_)
  · obtain ⟨G, ds, r, e, rs, hR, _⟩ := h
    rw [← rs.length]; exact hl ds r hR
  · obtain ⟨G, ds, r, e, rs, hR, kk⟩ := h
    obtain ⟨o, hb, ho⟩ := body cdv A outer s H E (fun _ => 0) ds r hr hR
    refine ⟨_, hb.pss, G, En.start e rs, ?_⟩
    rcases ho with ⟨st', rfl⟩ | ⟨rfl, st', rfl⟩
    · exact fun v σ' G' H' g E' r' => kk v G' H' ((g.weakO (fun p h => h.elim)).fromO fun p h => own_start h) E'.ex r'
    · exact fun σ' G' H' g E' => kk .non G' H' ((g.weakO (fun p h => h.elim)).fromO fun p h => own_start h) E'.ex .non
end Dv
set_option autoImplicit true
set_option maxRecDepth 100000
namespace Dv
open PySem PySem.Spec PyProof.Rows L2
open Classical in
/-- the frozen part with the own lists beside it -/
noncomputable def Gz (σ : L2.St) (st : Store) (G H : Hp) : Hp := fun p => if own σ st p then H p else G p
variable {c : Ctx} {X : Cx} {st st1 st2 st3 st' : Store} {a b e : Expr} {es : List Expr} {d d1 d2 d' : Dt} {ds xs ys : List Dt} {pos : Pos} {G G' H H' : Hp} {σ σ' : L2.St} {v : V} {i j : Nat}
def Sv.fz : Sv → Option Sv
  | .fr d => some (.fr d)
  | .ow xs => some (.fr (.lst xs))
  | .pr _ xs => some (.fr (.lst xs))
  | .bo _ _ => none
  | .oo F => some (.fr (.ext F))
  | .ex _ _ _ => none
def fz (st : Store) : Store := st.map fun o => o.bind Sv.fz
theorem fz_get {s : Sv} (h : (fz st)[i]? = some (some s)) : ∃ t, st[i]? = some (some t) ∧ t.fz = some s := by
  unfold fz at h
  rw [List.getElem?_map] at h
  cases q : st[i]? with
  | none => rw [q] at h; cases h
  | some o =>
    rw [q] at h
    cases o with
    | none => cases h
    | some t => exact ⟨t, rfl, Option.some.inj h⟩
theorem fz_notOw {s t : Sv} (h : t.fz = some s) : s.isOw = false := by cases t <;> cases h <;> rfl
theorem own_fz {p : Addr} : ¬ own σ (fz st) p := fun ⟨i, s, h1, h2, _⟩ => by
  obtain ⟨t, _, e⟩ := fz_get h1
  rw [fz_notOw e] at h2; cases h2
theorem En.ownAt (E : En c.K c.T c.pa G H σ st) {p : Addr} (h : own σ st p) : G p = none ∧ H p ≠ none := by
  obtain ⟨i, s, h1, h2, h3⟩ := h
  obtain ⟨v, h4, h5⟩ := E.sl i s h1
  rw [h3] at h4
  cases h4
  cases s with
  | fr d => cases h2
  | ex _ _ _ => cases h2
  | ow xs =>
    obtain ⟨a, vs, e, n, l, r⟩ := h5
    cases e
    exact ⟨n, by rw [l]; simp⟩
  | pr k xs =>
    obtain ⟨vs, e, n, l, r⟩ := h5
    cases e
    exact ⟨n, by rw [l]; simp⟩
  | bo m fs =>
    obtain ⟨C, ns, dx, vs, t, e, n, l, r⟩ := h5
    cases e
    exact ⟨n, by rw [l]; simp⟩
  | oo F =>
    obtain ⟨a, o, e, n, l, r⟩ := h5
    cases e
    exact ⟨n, by rw [l]; simp⟩
theorem En.gz (E : En c.K c.T c.pa G H σ st) : Ex G (Gz σ st G H) := fun p o h => by
  unfold Gz
  by_cases q : own σ st p
  · rw [if_pos q]; exact E.ex _ _ h
  · rw [if_neg q]; exact h
theorem En.frz (E : En c.K c.T c.pa G H σ st) : En c.K c.T c.pa (Gz σ st G H) H σ (fz st) where
  ex := fun p o h => by
    unfold Gz at h
    by_cases q : own σ st p
    · rw [if_pos q] at h; exact h
    · rw [if_neg q] at h; exact E.ex _ _ h
  sl := fun i s h => by
    obtain ⟨t, h1, e⟩ := fz_get h
    obtain ⟨v, h2, h3⟩ := E.sl i t h1
    refine ⟨v, h2, ?_⟩
    cases t with
    | bo _ _ => cases e
    | ex _ _ _ => cases e
    | fr d => cases e; exact Rep.ex E.gz h3
    | ow xs =>
      cases e
      obtain ⟨a, vs, rfl, n, l, r⟩ := h3
      exact .lst (show Gz σ st G H a = _ by unfold Gz; rw [if_pos ⟨i, _, h1, rfl, h2⟩]; exact l) (r.ex E.gz)
    | oo F =>
      cases e
      obtain ⟨a, o, rfl, n, l, r⟩ := h3
      exact .ext (show Gz σ st G H a = _ by unfold Gz; rw [if_pos ⟨i, _, h1, rfl, h2⟩]; exact l) fun G' z => r G' (E.gz.trans z)
    | pr k xs =>
      cases e
      obtain ⟨vs, rfl, n, l, r⟩ := h3
      exact .lst (show Gz σ st G H _ = _ by unfold Gz; rw [if_pos ⟨i, _, h1, rfl, h2⟩]; exact l) (r.ex E.gz)
  ds := fun i j s t a h1 _ o1 => by
    obtain ⟨u, _, e⟩ := fz_get h1
    rw [fz_notOw e] at o1; cases o1
  len := by unfold Dv.fz; rw [List.length_map]; exact E.len
def Dt.scal : Dt → Bool
  | .non | .bl _ | .int _ | .str _ => true
  | _ => false
theorem Rep.scal {K : PySem.W.Frag} {T : Ct} {G G' : Hp} {d : Dt} {v : V} (h : d.scal = true) (r : Rep K T G d v) : Rep K T G' d v := by
  cases r <;> first | (cases h; done) | constructor
/-- behind a look at everything -/
theorem En.unfz {O' : Addr → Prop} {G2 : Hp} (E : En c.K c.T c.pa G H σ st) (g : Gr (Gz σ st G H) H G2 H' (own σ (fz st)) O') : Gr G H G H' (own σ st) (own σ st) ∧ En c.K c.T c.pa G H' σ st := by
  have keep : ∀ p o, H p = some o → H' p = some o := fun p o h => g.fr p o h own_fz
  refine ⟨⟨Ex.refl G, fun _ _ h => .inl h, fun p o h _ => keep p o h, g.al, fun _ h => .inl h⟩, ⟨fun p o h => keep p o (E.ex p o h), fun i s h => ?_, E.ds, E.len⟩⟩
  obtain ⟨v, h1, h2⟩ := E.sl i s h
  refine ⟨v, h1, ?_⟩
  cases s with
  | fr d => exact h2
  | ex _ _ _ => exact h2
  | ow xs => obtain ⟨a, vs, e, n, l, r⟩ := h2; exact ⟨a, vs, e, n, keep _ _ l, r⟩
  | pr k xs => obtain ⟨vs, e, n, l, r⟩ := h2; exact ⟨vs, e, n, keep _ _ l, r⟩
  | bo m fs => obtain ⟨C, ns, dx, vs, t, e, n, l, r⟩ := h2; exact ⟨C, ns, dx, vs, t, e, n, keep _ _ l, r⟩
  | oo F => obtain ⟨a, o, e, n, l, r⟩ := h2; exact ⟨a, o, e, n, keep _ _ l, r⟩
theorem xt_view {t : Bool} (h : XT c X e (fz st) t st1) : XT c X e st t st :=
  ⟨pt_weak h.pt fun σ H Q ⟨G, E, k⟩ => ⟨_, E.frz, fun G2 H2 g2 E2 => by
    obtain ⟨g, E'⟩ := E.unfz g2
    exact k G H2 g E'⟩⟩
theorem xs_freeze {s : List Stmt} {o : Out} (i : Nat) (hi : st[i]? = some (some (.ow xs)) := by rfl) (h : XS c X s (st.set i (some (.fr (.lst xs)))) o) : XS c X s st o :=
  ⟨pss_weak h.pss fun D σ H ⟨G, E, k⟩ => by
    obtain ⟨v, h1, h2⟩ := E.sl i _ hi
    obtain ⟨a, vs, rfl, n, l, r⟩ := h2
    have ho : own σ st a := ⟨i, _, hi, rfl, h1⟩
    have eG : Ex G (upd G a (.lst vs)) := Ex.new n
    have eq : σ.set i (some (V.ref a)) = σ := by
      have q := (List.getElem?_eq_some_iff.mp h1)
      obtain ⟨q1, q2⟩ := q
      apply List.ext_getElem?
      intro j
      by_cases z : j = i
      · subst z; rw [List.getElem?_set_self q1, h1]
      · rw [List.getElem?_set_ne (Ne.symm z)]
    have E1 : En c.K c.T c.pa (upd G a (.lst vs)) H σ (st.set i (some (.fr (.lst xs)))) := by
      refine ⟨fun p o q => ?_, fun j s q => ?_, fun j k s t p q1 q2 o1 o2 q3 q4 => ?_, by rw [List.length_set]; exact E.len⟩
      · by_cases z : p = a
        · subst z; rw [upd_same] at q; cases q; exact l
        · rw [upd_ne z] at q; exact E.ex p o q
      · rcases set_cases q with ⟨rfl, e, z⟩ | ⟨nj, q⟩
        · cases e; exact ⟨_, h1, .lst upd_same (r.ex eG)⟩
        · obtain ⟨w, z1, z2⟩ := E.sl j s q
          refine ⟨w, z1, ?_⟩
          cases s with
          | fr d => exact Rep.ex eG z2
          | ex _ _ _ => exact SvR.exE eG z2
          | ow ys =>
            obtain ⟨b, ws, rfl, m1, m2, m3⟩ := z2
            refine ⟨b, ws, rfl, ?_, m2, m3.ex eG⟩
            have nb : b ≠ a := fun z => nj (E.ds j i _ _ a q hi rfl rfl (by rw [z1, z]) h1)
            rw [upd_ne nb]; exact m1
          | pr k ys =>
            obtain ⟨ws, rfl, m1, m2, m3⟩ := z2
            refine ⟨ws, rfl, ?_, m2, m3.ex eG⟩
            have nb : c.pa k ≠ a := fun z => nj (E.ds j i _ _ a q hi rfl rfl (by rw [z1, z]) h1)
            rw [upd_ne nb]; exact m1
          | oo F =>
            obtain ⟨b, o, rfl, m1, m2, m3⟩ := z2
            refine ⟨b, o, rfl, ?_, m2, fun G' z => m3 G' (eG.trans z)⟩
            have nb : b ≠ a := fun z => nj (E.ds j i _ _ a q hi rfl rfl (by rw [z1, z]) h1)
            rw [upd_ne nb]; exact m1
          | bo mm fs =>
            obtain ⟨C, ns, dx, ws, t, rfl, m1, m2, m3⟩ := z2
            refine ⟨C, ns, dx, ws, t, rfl, ?_, m2, m3.ex eG⟩
            have nb : c.pa 0 ≠ a := fun z => nj (E.ds j i _ _ a q hi rfl rfl (by rw [z1, z]) h1)
            rw [upd_ne nb]; exact m1
      · rcases set_cases q1 with ⟨rfl, e, z⟩ | ⟨n1, q1⟩
        · cases e; cases o1
        · rcases set_cases q2 with ⟨rfl, e, z⟩ | ⟨n2, q2⟩
          · cases e; cases o2
          · exact E.ds j k s t p q1 q2 o1 o2 q3 q4
    have g1 : Gr G H (upd G a (.lst vs)) H (own σ st) (own σ (st.set i (some (.fr (.lst xs))))) := by
      refine ⟨eG, fun p o q => ?_, fun _ _ q _ => q, fun _ q => q, fun p q => .inl ?_⟩
      · by_cases z : p = a
        · subst z; exact .inr (.inr ho)
        · rw [upd_ne z] at q; exact .inl q
      · have q' : own (σ.set i (some (V.ref a))) (st.set i (some (.fr (.lst xs)))) p := by rw [eq]; exact q
        exact own_setFr q'
    exact ⟨_, E1, k.from g1⟩⟩
def tL (c : Ctx) (st : Store) (xs : List Dt) (st' : Store) : TE := fun σ H Q => ∃ G, En c.K c.T c.pa G H σ st ∧
  ∀ p vs G' H', Gr G H G' H' (own σ st) (own σ st') → En c.K c.T c.pa G' H' σ st' → ¬ own σ st' p → H p = none → G' p = none → H' p = some (.lst vs) → Reps c.K c.T G' xs vs → Q (.ref p) H'
structure XL (c : Ctx) (X : Cx) (e : Expr) (st : Store) (xs : List Dt) (st' : Store) : Prop where
  pe : PE X e (tL c st xs st')
theorem Gr.none {O O' : Addr → Prop} (g : Gr G H G' H' O O') {p : Addr} (h : H' p = Option.none) : H p = Option.none := by
  cases q : H p with
  | none => rfl
  | some o => exact absurd h (g.al p (by rw [q]; simp))
/-- a new list at p is known -/
theorem En.know {p : Addr} {vs : List V} (E : En c.K c.T c.pa G H σ st) (n : ¬ own σ st p) (hn : G p = none) (hp : H p = some (.lst vs)) : En c.K c.T c.pa (upd G p (.lst vs)) H σ st where
  ex := fun q o z => by
    by_cases y : q = p
    · subst y; rw [upd_same] at z; cases z; exact hp
    · rw [upd_ne y] at z; exact E.ex q o z
  sl := fun j s h => by
    have eG : Ex G (upd G p (.lst vs)) := Ex.new hn
    obtain ⟨w, z1, z2⟩ := E.sl j s h
    refine ⟨w, z1, ?_⟩
    cases s with
    | fr d => exact Rep.ex eG z2
    | ex _ _ _ => exact SvR.exE eG z2
    | ow ys =>
      obtain ⟨b, ws, rfl, m1, m2, m3⟩ := z2
      exact ⟨b, ws, rfl, by rw [upd_ne (fun z => n ⟨j, _, h, rfl, by rw [z1, z]⟩)]; exact m1, m2, m3.ex eG⟩
    | pr k ys =>
      obtain ⟨ws, rfl, m1, m2, m3⟩ := z2
      exact ⟨ws, rfl, by rw [upd_ne (fun z => n ⟨j, _, h, rfl, by rw [z1, z]⟩)]; exact m1, m2, m3.ex eG⟩
    | oo F =>
      obtain ⟨b, o, rfl, m1, m2, m3⟩ := z2
      exact ⟨b, o, rfl, by rw [upd_ne (fun z => n ⟨j, _, h, rfl, by rw [z1, z]⟩)]; exact m1, m2, fun G' z => m3 G' (eG.trans z)⟩
    | bo mm fs =>
      obtain ⟨C, ns, dx, ws, t, rfl, m1, m2, m3⟩ := z2
      exact ⟨C, ns, dx, ws, t, rfl, by rw [upd_ne (fun z => n ⟨j, _, h, rfl, by rw [z1, z]⟩)]; exact m1, m2, m3.ex eG⟩
  ds := E.ds
  len := E.len
theorem xd_xl (h : XL c X e st xs st1) : XD c X e st (.lst xs) st1 :=
  ⟨pe_weak h.pe fun σ H Q ⟨G, E, k⟩ => ⟨G, E, fun p vs G1 H1 g1 E1 no hp hn hl r => by
    refine k _ (upd G1 p (.lst vs)) H1 ⟨g1.ex.trans (Ex.new hn), fun q o z => ?_, g1.fr, g1.al, g1.ow⟩ (E1.know no hn hl) (.lst upd_same (r.ex (Ex.new hn)))
    by_cases y : q = p
    · subst y; exact .inr (.inl hp)
    · rw [upd_ne y] at z; exact g1.nw q o z⟩⟩
theorem En.notOwn {p : Addr} (E : En c.K c.T c.pa G H σ st) (h : H p = none) : ¬ own σ st p := fun q => by
  exact (E.ownAt q).2 h
/-- a new list is laid beside all -/
theorem En.lay {p : Addr} {o : HO} (E : En c.K c.T c.pa G H σ st) (h : H p = none) : En c.K c.T c.pa G (upd H p o) σ st ∧ Gr G H G (upd H p o) (own σ st) (own σ st) := by
  have kp : ∀ q u, H q = some u → upd H p o q = some u := fun q u z => by rw [upd_ne (ne_of_none z h)]; exact z
  refine ⟨⟨fun q u z => kp q u (E.ex q u z), fun j s z => ?_, E.ds, E.len⟩, ⟨Ex.refl G, fun _ _ z => .inl z, fun q u z _ => kp q u z, fun q z => ?_, fun _ z => .inl z⟩⟩
  · obtain ⟨w, z1, z2⟩ := E.sl j s z
    refine ⟨w, z1, ?_⟩
    cases s with
    | fr d => exact z2
    | ex _ _ _ => exact z2
    | ow ys => obtain ⟨b, ws, e, m1, m2, m3⟩ := z2; exact ⟨b, ws, e, m1, kp _ _ m2, m3⟩
    | pr k ys => obtain ⟨ws, e, m1, m2, m3⟩ := z2; exact ⟨ws, e, m1, kp _ _ m2, m3⟩
    | bo mm fs => obtain ⟨C, ns, dx, ws, t, e, m1, m2, m3⟩ := z2; exact ⟨C, ns, dx, ws, t, e, m1, kp _ _ m2, m3⟩
    | oo F => obtain ⟨b, ws, e, m1, m2, m3⟩ := z2; exact ⟨b, ws, e, m1, kp _ _ m2, m3⟩
  · cases y : H q with
    | none => exact absurd y z
    | some u => rw [kp q u y]; simp
theorem xl_lst (h : XA c X es st ds st1) (hl : ds.length ≤ 100000) : XL c X (.List es pos) st ds st1 :=
  ⟨pe_weak (pe_lst h.pa) fun σ H Q ⟨G, E, k⟩ => ⟨G, E, fun vs G1 H1 g1 E1 r1 => ⟨by rw [← r1.length]; exact Nat.le_trans hl (by decide), fun p hp => by
    obtain ⟨E2, g2⟩ := E1.lay (o := .lst vs) hp
    exact k p vs G1 _ (g1.trans g2) E2 (E1.notOwn hp) (g1.none hp) (E1.ex.none hp) upd_same r1⟩⟩⟩
/-- name = a new list, kept as one's own -/
theorem En.setOw {p : Addr} {vs : List V} (E : En c.K c.T c.pa G H σ st) (n : ¬ own σ st p) (hn : G p = none) (hp : H p = some (.lst vs)) (r : Reps c.K c.T G xs vs) (i : Nat) : En c.K c.T c.pa G H (σ.set i (some (.ref p))) (st.set i (some (.ow xs))) where
  ex := E.ex
  sl := fun j s h => by
    rcases set_cases h with ⟨rfl, e, z⟩ | ⟨nj, h⟩
    · cases e
      exact ⟨_, by rw [List.getElem?_set_self (by rw [E.len]; exact z)], p, vs, rfl, hn, hp, r⟩
    · obtain ⟨w, h1, h2⟩ := E.sl j s h
      exact ⟨w, by rw [List.getElem?_set_ne (Ne.symm nj)]; exact h1, h2⟩
  ds := fun j k s t q h1 h2 o1 o2 h3 h4 => by
    rcases set_cases h1 with ⟨ej, e, z⟩ | ⟨n1, g1⟩
    · rcases set_cases h2 with ⟨ek, e', z'⟩ | ⟨n2, g2⟩
      · rw [ej, ek]
      · rw [ej, List.getElem?_set_self (by rw [E.len]; exact z)] at h3
        rw [List.getElem?_set_ne (Ne.symm n2)] at h4
        cases h3
        exact absurd ⟨k, t, g2, o2, h4⟩ n
    · rcases set_cases h2 with ⟨ek, e', z'⟩ | ⟨n2, g2⟩
      · rw [ek, List.getElem?_set_self (by rw [E.len]; exact z')] at h4
        rw [List.getElem?_set_ne (Ne.symm n1)] at h3
        cases h4
        exact absurd ⟨j, s, g1, o1, h3⟩ n
      · rw [List.getElem?_set_ne (Ne.symm n1)] at h3
        rw [List.getElem?_set_ne (Ne.symm n2)] at h4
        exact E.ds j k s t q g1 g2 o1 o2 h3 h4
  len := by rw [List.length_set, List.length_set, E.len]
theorem own_setOw {p q : Addr} (h : own (σ.set i (some (.ref p))) (st.set i (some (.ow xs))) q) : own σ st q ∨ q = p := by
  obtain ⟨j, s, h1, h2, h3⟩ := h
  rcases set_cases h1 with ⟨rfl, e, z⟩ | ⟨n, h1⟩
  · by_cases y : j < σ.length
    · rw [List.getElem?_set_self y] at h3; cases h3; exact .inr rfl
    · rw [List.getElem?_eq_none (by rw [List.length_set]; omega)] at h3; cases h3
  · rw [List.getElem?_set_ne (Ne.symm n)] at h3
    exact .inl ⟨j, s, h1, h2, h3⟩
theorem xp_setOw (i : Nat) {x : Str} {pos' : Pos} (hN : X.N.Nodup) (he : XL c X e st xs st1) (hi : X.N[i]? = some x := by rfl) (hx : Loc X.env.scope x := by first | exact Or.inl rfl | exact Or.inr rfl) (hs : swapsWith e (some (.Name x pos')) pos.line X.env = pure false := by rfl)
    (hf : X.fn x = true ∨ X.env.scope.names.lookup x = some .local := by first | exact .inl rfl | exact .inr rfl | assumption) : XP c X (.Assign [.Name x pos'] e pos) st (.nx (st1.set i (some (.ow xs)))) :=
  ⟨ps_weak (ps_set hN hi hx he.pe hs hf) fun D σ H ⟨G, E, k⟩ => ⟨G, E, fun p vs G1 H1 g1 E1 no hp hn hl r =>
    k _ G1 H1 ⟨g1.ex, g1.nw, g1.fr, g1.al, fun q z => (own_setOw z).elim (g1.ow q) fun y => .inr (by rw [y]; exact hp)⟩ (E1.setOw no hn hl r i)⟩⟩
def Sv.with (s : Sv) (xs : List Dt) : Sv := match s with
  | .fr d => .fr d
  | .ow _ => .ow xs
  | .pr k _ => .pr k xs
  | .bo n fs => .bo n fs
  | .oo F => .oo F
  | .ex a p q => .ex a p q
inductive Sv.Has : Sv → List Dt → Prop where
  | ow {zs : List Dt} : Sv.Has (.ow zs) zs
  | pr {k : Nat} {zs : List Dt} : Sv.Has (.pr k zs) zs
theorem En.at (E : En c.K c.T c.pa G H σ st) {s : Sv} (hi : st[i]? = some (some s)) (hs : s.Has xs) : ∃ a vs, σ[i]? = some (some (.ref a)) ∧ G a = none ∧ H a = some (.lst vs) ∧ Reps c.K c.T G xs vs ∧ s.isOw = true ∧ (∀ k ys, s = .pr k ys → a = c.pa k) := by
  obtain ⟨v, h1, h2⟩ := E.sl i s hi
  cases hs with
  | ow => obtain ⟨a, vs, rfl, n, l, r⟩ := h2; exact ⟨a, vs, h1, n, l, r, rfl, fun _ _ e => nomatch e⟩
  | pr => obtain ⟨vs, rfl, n, l, r⟩ := h2; exact ⟨_, vs, h1, n, l, r, rfl, fun _ _ e => by cases e; rfl⟩
/-- the list in slot i is another one now -/
theorem En.mut {a : Addr} {vs : List V} {s : Sv} (E : En c.K c.T c.pa G H σ st) (hi : st[i]? = some (some s)) (hs : s.Has xs) (hσ : σ[i]? = some (some (.ref a))) (g : Gr G H G' H' (· = a) (· = a)) (e : Ex G' H') (hn : G' a = none) (hl : H' a = some (.lst vs)) (r : Reps c.K c.T G' ys vs) :
    En c.K c.T c.pa G' H' σ (st.set i (some (s.with ys))) ∧ Gr G H G' H' (own σ st) (own σ (st.set i (some (s.with ys)))) := by
  obtain ⟨a', ws, z1, z2, z3, z4, z5, z6⟩ := E.at hi hs
  rw [hσ] at z1
  cases z1
  have ho : own σ st a := ⟨i, s, hi, z5, hσ⟩
  have il : i < st.length := (List.getElem?_eq_some_iff.mp hi).1
  have oth : ∀ (j : Nat) t b, j ≠ i → st[j]? = some (some t) → t.isOw = true → σ[j]? = some (some (.ref b)) → b ≠ a := fun j t b nj h1 h2 h3 z => nj (E.ds j i t s a h1 hi h2 z5 (by rw [h3, z]) hσ)
  have out : ∀ b ob, G b = none → H b = some ob → b ≠ a → G' b = none ∧ H' b = some ob := fun b ob h1 h2 h3 => by
    refine ⟨?_, g.fr b ob h2 h3⟩
    cases q : G' b with
    | none => rfl
    | some u =>
      rcases g.nw b u q with y | y | y
      · rw [h1] at y; cases y
      · rw [h2] at y; cases y
      · exact absurd y h3
  refine ⟨⟨e, fun j t h => ?_, fun j k t u b h1 h2 o1 o2 h3 h4 => ?_, by rw [List.length_set]; exact E.len⟩, ⟨g.ex, fun p o q => (g.nw p o q).imp id (Or.imp id fun z => by rw [z]; exact ho), fun p o q n => g.fr p o q fun z => n (by rw [z]; exact ho), g.al, fun p q => .inl ?_⟩⟩
  · rcases set_cases h with ⟨rfl, q, z⟩ | ⟨nj, h⟩
    · cases q
      refine ⟨_, hσ, ?_⟩
      cases hs with
      | ow => exact ⟨a, vs, rfl, hn, hl, r⟩
      | pr =>
        have q := z6 _ _ rfl
        subst q
        exact ⟨vs, rfl, hn, hl, r⟩
    · obtain ⟨w, h1, h2⟩ := E.sl j t h
      refine ⟨w, h1, ?_⟩
      cases t with
      | fr d => exact Rep.ex g.ex h2
      | ex _ _ _ => exact SvR.exE g.ex h2
      | ow zs =>
        obtain ⟨b, us, rfl, m1, m2, m3⟩ := h2
        obtain ⟨q1, q2⟩ := out b _ m1 m2 (oth j _ b nj h rfl h1)
        exact ⟨b, us, rfl, q1, q2, m3.ex g.ex⟩
      | pr k zs =>
        obtain ⟨us, rfl, m1, m2, m3⟩ := h2
        obtain ⟨q1, q2⟩ := out _ _ m1 m2 (oth j _ _ nj h rfl h1)
        exact ⟨us, rfl, q1, q2, m3.ex g.ex⟩
      | oo F =>
        obtain ⟨b, us, rfl, m1, m2, m3⟩ := h2
        obtain ⟨q1, q2⟩ := out b _ m1 m2 (oth j _ b nj h rfl h1)
        exact ⟨b, us, rfl, q1, q2, fun G2 z => m3 G2 (g.ex.trans z)⟩
      | bo mm fs =>
        obtain ⟨C, ns, dx, us, t, rfl, m1, m2, m3⟩ := h2
        obtain ⟨q1, q2⟩ := out _ _ m1 m2 (oth j _ _ nj h rfl h1)
        exact ⟨C, ns, dx, us, t, rfl, q1, q2, m3.ex g.ex⟩
  · have base : ∀ (j : Nat) t, (st.set i (some (s.with ys)))[j]? = some (some t) → t.isOw = true → ∃ t', st[j]? = some (some t') ∧ t'.isOw = true := fun j t h o => by
      rcases set_cases h with ⟨rfl, q, z⟩ | ⟨nj, h⟩
      · exact ⟨s, hi, z5⟩
      · exact ⟨t, h, o⟩
    obtain ⟨t', q1, q2⟩ := base j t h1 o1
    obtain ⟨u', q3, q4⟩ := base k u h2 o2
    exact E.ds j k t' u' b q1 q3 q2 q4 h3 h4
  · obtain ⟨j, t, h1, h2, h3⟩ := q
    rcases set_cases h1 with ⟨rfl, q, z⟩ | ⟨nj, h1⟩
    · exact ⟨_, s, hi, z5, h3⟩
    · exact ⟨j, t, h1, h2, h3⟩
theorem gr_upd {a : Addr} {o : HO} (e : Ex G H) (hn : G a = none) (hl : H a ≠ none) : Gr G H G (upd H a o) (· = a) (· = a) ∧ Ex G (upd H a o) :=
  ⟨⟨Ex.refl G, fun _ _ h => .inl h, fun p u h n => by rw [upd_ne n]; exact h, fun p h => by
    by_cases q : p = a
    · subst q; rw [upd_same]; simp
    · rw [upd_ne q]; exact h, fun _ h => .inl h⟩, fun p u h => by
    have n : p ≠ a := fun z => by subst z; rw [hn] at h; cases h
    rw [upd_ne n]; exact e p u h⟩
/-- x.append(e) -/
theorem xp_append (i : Nat) {s : Sv} {x : Str} {p1 apos cpos p2 : Pos} (he : XD c X e st d st1) (hK : X.K = c.K) (hi : st[i]? = some (some s)) (hi1 : st1[i]? = some (some s)) (hs : s.Has xs) (hl : xs.length < 100000) (hN : X.N[i]? = some x := by rfl) (hv : Vis X.env.scope x := by first | exact Or.inl rfl | exact Or.inr (Or.inl rfl) | exact Or.inr (Or.inr rfl)) (hd : (x == ("__debug__" : Str)) = false := by decide)
    (hcd : (x == ("__classdict__" : Str)) = false := by decide) (hline : (apos.endLine == cpos.line) = true := by rfl) (hb : attributeBase (.Name x p1) "append" X.env (eval (.Name x p1) X.env) = eval (.Name x p1) X.env := by rfl)
    (hfew : ((backTo cpos (starEach (e :: []) X.env)).all (fun x => !x.1) && (backToKw cpos (keywordEach [] X.env)).all (fun x => x.1.isSome)
      && decide ((e :: []).length + ([] : List Keyword).length + (if ([] : List Keyword).isEmpty then 0 else 1) < 30)) = true := by rfl) (hst : starEach (e :: []) X.env = (false, eval e X.env) :: starEach [] X.env := by rfl) (hsw : swapsWith (.Call (.Attribute (.Name x p1) "append" apos) [e] [] cpos) none p2.line X.env = pure false := by rfl) :
    XP c X (.Expr (.Call (.Attribute (.Name x p1) "append" apos) [e] [] cpos) p2) st (.nx (st1.set i (some (s.with (xs ++ [d]))))) :=
  ⟨ps_weak (ps_expr (pe_bm PySem.F.plainAttrs_list PySem.F.slot_list_append PySem.F.type_list_append mt_append (pe_var hN hv hd hcd) (pa_cons he.pe pa_nil hst) hb hfew hline hst) hsw) fun D σ H ⟨G, E, k⟩ => by
    obtain ⟨a, vs, z1, z2, z3, z4, z5, z6⟩ := E.at hi hs
    refine ⟨_, z1, .inl ⟨rfl, vs, by rw [hK]; exact SqL.of z3⟩, G, E, fun v G1 H1 g1 E1 r1 => ?_⟩
    obtain ⟨a', ws, y1, y2, y3, y4, y5, y6⟩ := E1.at hi1 hs
    rw [z1] at y1
    cases y1
    refine ⟨a, ws, v, rfl, rfl, y3, by rw [← y4.length]; exact Nat.lt_of_lt_of_le hl (by decide), ?_⟩
    obtain ⟨g2, e2⟩ := gr_upd (a := a) (o := .lst (ws ++ [v])) E1.ex y2 (by rw [y3]; simp)
    obtain ⟨E3, g3⟩ := E1.mut hi1 hs z1 g2 e2 y2 upd_same (y4.app (.cons r1 .nil))
    exact k _ _ _ (g1.trans g3) E3⟩
end Dv
set_option autoImplicit true
set_option maxRecDepth 100000
namespace Dv
open PySem PySem.Spec PyProof.Rows L2
variable {c : Ctx} {X : Cx} {st st1 st2 st3 st' : Store} {a b e tg iter : Expr} {es : List Expr} {d d1 d2 d' : Dt} {ds xs ys : List Dt} {pos : Pos} {G G' H H' : Hp} {σ σ' : L2.St} {v : V} {i j : Nat} {body : List Stmt} {o : Out}
structure Yld (c : Ctx) (J : It) (G0 : Hp) (ds : List Dt) : Prop where
  go : ∀ i G H, Ex G0 G → Ex G H → i < ds.length → J.go i H
  stop : ∀ i G H, Ex G0 G → Ex G H → ds.length ≤ i → J.stop i H
  yl : ∀ i G H x H', Ex G0 G → Ex G H → i < ds.length → J.yld i H x H' → ∃ G' d, Gw G H G' H' ∧ ds[i]? = some d ∧ Rep c.K c.T G' d x
def tI (c : Ctx) (st : Store) (ds : List Dt) (st' : Store) : TI := fun σ H R => ∃ G, En c.K c.T c.pa G H σ st ∧
  ∀ J G' H', Gr G H G' H' (own σ st) (own σ st') → En c.K c.T c.pa G' H' σ st' → Yld c J G' ds → R J H'
structure XI (c : Ctx) (X : Cx) (tg iter : Expr) (st : Store) (ds : List Dt) (st' : Store) : Prop where
  pi : PI X tg iter (tI c st ds st')
theorem yld_list {a : Addr} {vs : List V} {G0 : Hp} {K : PySem.W.Frag} (hK : c.K = K) (h : SqL K G0 a vs) (r : Reps c.K c.T G0 ds vs) : Yld c (Itl K a) G0 ds where
  go := fun i G H e1 e2 hi => ⟨vs, vs[i]'(by rw [← r.length]; exact hi), (e1.trans e2).sl h, List.getElem?_eq_getElem _⟩
  stop := fun i G H e1 e2 hi => ⟨vs, (e1.trans e2).sl h, by rw [← r.length]; exact hi⟩
  yl := fun i G H x H' e1 e2 hi y => by
    obtain ⟨rfl, y⟩ := y
    obtain ⟨d, h1, h2⟩ := r.getV (y vs ((e1.trans e2).sl h))
    exact ⟨G, d, Gw.refl e2, h1, h2.ex e1⟩
theorem yld_tup {a : Addr} {vs : List V} {G0 : Hp} {K : PySem.W.Frag} (hK : c.K = K) (h : SqT K G0 a vs) (r : Reps c.K c.T G0 ds vs) : Yld c (Itt K a) G0 ds where
  go := fun i G H e1 e2 hi => ⟨vs, vs[i]'(by rw [← r.length]; exact hi), (e1.trans e2).st h, List.getElem?_eq_getElem _⟩
  stop := fun i G H e1 e2 hi => ⟨vs, (e1.trans e2).st h, by rw [← r.length]; exact hi⟩
  yl := fun i G H x H' e1 e2 hi y => by
    obtain ⟨rfl, y⟩ := y
    obtain ⟨d, h1, h2⟩ := r.getV (y vs ((e1.trans e2).st h))
    exact ⟨G, d, Gw.refl e2, h1, h2.ex e1⟩
theorem xi_list (hK : X.K = c.K) (h : XD c X e st (.lst ds) st1) : XI c X tg e st ds st1 :=
  ⟨pi_weak (pi_list h.pe) fun σ H R ⟨G, E, k⟩ => ⟨G, E, fun v G1 H1 g1 E1 r1 => by
    obtain ⟨a, vs, rfl, hl, r⟩ := r1.lst_inv
    exact ⟨a, rfl, ⟨vs, .inl (.inl (E1.ex _ _ hl))⟩, k _ G1 H1 g1 E1 (yld_list hK.symm (.inl (.inl hl)) r)⟩⟩⟩
theorem xi_ro (hK : X.K = c.K) (h : XD c X e st (.ro ds) st1) : XI c X tg e st ds st1 :=
  ⟨pi_weak (pi_list h.pe) fun σ H R ⟨G, E, k⟩ => ⟨G, E, fun v G1 H1 g1 E1 r1 => by
    obtain ⟨a, vs, rfl, hl, r⟩ := r1.ro_inv
    rw [← hK] at hl
    exact ⟨a, rfl, ⟨vs, E1.ex.sl hl⟩, k _ G1 H1 g1 E1 (yld_list hK.symm hl r)⟩⟩⟩
theorem xi_tup (hK : X.K = c.K) (h : XD c X e st (.tup ds) st1) : XI c X tg e st ds st1 :=
  ⟨pi_weak (pi_tup h.pe) fun σ H R ⟨G, E, k⟩ => ⟨G, E, fun v G1 H1 g1 E1 r1 => by
    obtain ⟨a, vs, rfl, hl, r⟩ := r1.tup_inv
    rw [← hK] at hl
    exact ⟨a, rfl, ⟨vs, E1.ex.st hl⟩, k _ G1 H1 g1 E1 (yld_tup hK.symm hl r)⟩⟩⟩
/-- an own list walked by a name -/
theorem yld_range {G0 : Hp} {lo : Int} {n : Nat} : Yld c (Itr lo n) G0 ((List.range n).map fun (i : Nat) => .int (lo + (i : Int))) where
  go := fun i G H _ _ hi => by
    show i < n
    simpa using hi
  stop := fun i G H _ _ hi => by
    show n ≤ i
    simpa using hi
  yl := fun i G H x H' _ e2 hi y => by
    obtain ⟨rfl, rfl⟩ := y
    have hi' : i < n := by simpa using hi
    exact ⟨G, _, Gw.refl e2, by rw [List.getElem?_map, List.getElem?_range hi']; rfl, .int⟩
theorem xi_range1 {a : Expr} {p pos : Pos} {n : Int} (ha : XD c X a st (.int n) st1) (hn : n < 2 ^ 62) (hn0 : -(2 ^ 62) ≤ n) (hm : X.mg "range" = none) (hg : Gl X "range" := by rfl) (hs : starEach [a] X.env = [(false, eval a X.env)] := by rfl) :
    XI c X tg (.Call (.Name "range" p) [a] [] pos) st ((List.range n.toNat).map fun (i : Nat) => .int (i : Int)) st1 :=
  ⟨pi_weak (pi_range1 hg hm (pa_cons ha.pe pa_nil (by rw [hs]; rfl)) hs) fun σ H R ⟨G, E, k⟩ => ⟨G, E, fun v G1 H1 g1 E1 r1 => by
    cases r1
    refine ⟨n, rfl, hn0, hn, k _ G1 H1 g1 E1 ?_⟩
    have q := yld_range (c := c) (G0 := G1) (lo := 0) (n := n.toNat)
    have e : (fun i : Nat => Dt.int (0 + (i : Int))) = fun i : Nat => Dt.int (i : Int) := by funext i; rw [Int.zero_add]
    rw [e] at q
    exact q⟩⟩
theorem xi_str {x : Str} (h : XD c X e st (.str x) st1) : XI c X tg e st (x.cps.toList.map fun q => .str ⟨#[q]⟩) st1 :=
  ⟨pi_weak (pi_str h.pe) fun σ H R ⟨G, E, k⟩ => ⟨G, E, fun v G1 H1 g1 E1 r1 => by
    cases r1
    refine ⟨x, rfl, k _ G1 H1 g1 E1 ⟨fun i G H _ _ hi => ?_, fun i G H _ _ hi => ?_, fun i G H y H' _ e2 hi q => ?_⟩⟩
    · show i < x.cps.size
      simpa using hi
    · show x.cps.size ≤ i
      simpa using hi
    · obtain ⟨rfl, q, h1, rfl⟩ := q
      exact ⟨G, _, Gw.refl e2, by rw [List.getElem?_map]; simp [h1], .str⟩⟩⟩
def tAny (c : Ctx) (X : Cx) (body : List Stmt) : TS := fun D σ H => ∃ st o, XS c X body st o ∧ tO c st o D σ H
theorem pss_any : PSs X body (tAny c X body) := ⟨fun pins s σ H D I ⟨st, o, h, q⟩ => h.pss.run pins s σ H D I q⟩
def gAny (c : Ctx) (X : Cx) (tg : Expr) : TG := fun v σ H Q => ∃ d st st', XG c X tg d st st' ∧ gD c d st st' v σ H Q
theorem pg_any : PG X tg (gAny c X tg) := ⟨fun pins s σ H v u Q I r ⟨d, st, st', h, q⟩ => h.pg.run pins s σ H v u Q I r q⟩
def ttAny (c : Ctx) (X : Cx) (t : Expr) : TT := fun σ H Q => ∃ st b st', XT c X t st b st' ∧ tB' c st b st' σ H Q
theorem pt_any {t : Expr} : PT X t (ttAny c X t) := ⟨fun pins s σ H Q I ⟨st, b, st', h, q⟩ => h.pt.run pins s σ H Q I q⟩
/-- one turn that goes on -/
def Turns (c : Ctx) (X : Cx) (tg : Expr) (body : List Stmt) (d : Dt) (s s' : Store) : Prop := ∃ t, XG c X tg d s t ∧ (XS c X body t (.nx s') ∨ XS c X body t (.ct s'))
/-- the last turn -/
def Leaves (c : Ctx) (X : Cx) (tg : Expr) (body : List Stmt) (d : Dt) (s : Store) (o : Out) : Prop := ∃ t, XG c X tg d s t ∧ ((∃ r s', o = .rt r s' ∧ XS c X body t (.rt r s')) ∨ (∃ s', o = .nx s' ∧ XS c X body t (.bk s')))
theorem xp_for (S : Nat → Store) (hi : XI c X tg iter st ds (S 0)) (hb : ∀ i d, ds[i]? = some d → Turns c X tg body d (S i) (S (i + 1))) (hc : X.calm = true := by rfl) (hp : PassesOwn (model X.prog X.w) X.A X.env X.xe := by exact PassesOwn.never)
    (hs : ∀ x, foldedSetIterable iter X.env x = pure x := by intro _; rfl) : XP c X (.For tg iter body [] pos) st (.nx (S ds.length)) :=
  ⟨ps_weak (ps_for hp hc hi.pi (pg_any (c := c)) (pss_any (c := c)) hs) fun D σ0 H0 ⟨G, E, k⟩ => ⟨G, E, fun J G1 H1 g1 E1 y => by
    refine ⟨fun i m σ H => m = ds.length - i ∧ i ≤ ds.length ∧ ∃ G', Gr G1 H1 G' H (own σ0 (S 0)) (own σ (S i)) ∧ En c.K c.T c.pa G' H σ (S i), ⟨_, rfl, Nat.zero_le _, G1, Gr.refl, E1⟩, ?_⟩
    rintro i m σ H ⟨rfl, hi, G', g', E'⟩
    by_cases hlt : i < ds.length
    · refine .inr ⟨y.go i G' H g'.ex E'.ex hlt, fun σ2 H2 => ∃ G2, Gr G1 H1 G2 H2 (own σ0 (S 0)) (own σ2 (S (i + 1))) ∧ En c.K c.T c.pa G2 H2 σ2 (S (i + 1)), fun σ2 H2 q => ⟨ds.length - (i + 1), by omega, rfl, hlt, q⟩, fun x H2 yl => ?_⟩
      obtain ⟨G2, d, w, hd, rd⟩ := y.yl i G' H x H2 g'.ex E'.ex hlt yl
      obtain ⟨t, hg, hx⟩ := hb i d hd
      refine ⟨d, S i, t, hg, G2, E'.g1 w, rd, fun σ3 G3 H3 g3 E3 => ?_⟩
      have g4 := (g'.trans w.gr).trans g3
      rcases hx with hx | hx
      · exact ⟨t, _, hx, G3, E3, fun σ5 G5 H5 g5 E5 => ⟨G5, g4.trans g5, E5⟩⟩
      · exact ⟨t, _, hx, G3, E3, fun σ5 G5 H5 g5 E5 => ⟨G5, g4.trans g5, E5⟩⟩
    · have e : i = ds.length := by omega
      subst e
      exact .inl ⟨y.stop _ G' H g'.ex E'.ex (Nat.le_refl _), k σ G' H (g1.trans g') E'⟩⟩⟩
theorem xp_forX (S : Nat → Store) (m : Nat) (hm : ds[m]? = some d) (hi : XI c X tg iter st ds (S 0)) (hb : ∀ i d, i < m → ds[i]? = some d → Turns c X tg body d (S i) (S (i + 1))) (hl : Leaves c X tg body d (S m) o) (hc : X.calm = true := by rfl) (hp : PassesOwn (model X.prog X.w) X.A X.env X.xe := by exact PassesOwn.never)
    (hs : ∀ x, foldedSetIterable iter X.env x = pure x := by intro _; rfl) : XP c X (.For tg iter body [] pos) st o :=
  ⟨ps_weak (ps_for hp hc hi.pi (pg_any (c := c)) (pss_any (c := c)) hs) fun D σ0 H0 ⟨G, E, k⟩ => ⟨G, E, fun J G1 H1 g1 E1 y => by
    have ml : m < ds.length := (List.getElem?_eq_some_iff.mp hm).1
    refine ⟨fun i n σ H => n = m - i ∧ i ≤ m ∧ ∃ G', Gr G1 H1 G' H (own σ0 (S 0)) (own σ (S i)) ∧ En c.K c.T c.pa G' H σ (S i), ⟨_, rfl, Nat.zero_le _, G1, Gr.refl, E1⟩, ?_⟩
    rintro i n σ H ⟨rfl, hi, G', g', E'⟩
    by_cases hlt : i < m
    · refine .inr ⟨y.go i G' H g'.ex E'.ex (by omega), fun σ2 H2 => ∃ G2, Gr G1 H1 G2 H2 (own σ0 (S 0)) (own σ2 (S (i + 1))) ∧ En c.K c.T c.pa G2 H2 σ2 (S (i + 1)), fun σ2 H2 q => ⟨m - (i + 1), by omega, rfl, hlt, q⟩, fun x H2 yl => ?_⟩
      obtain ⟨G2, d, w, hd, rd⟩ := y.yl i G' H x H2 g'.ex E'.ex (by omega) yl
      obtain ⟨t, hg, hx⟩ := hb i d hlt hd
      refine ⟨d, S i, t, hg, G2, E'.g1 w, rd, fun σ3 G3 H3 g3 E3 => ?_⟩
      have g4 := (g'.trans w.gr).trans g3
      rcases hx with hx | hx
      · exact ⟨t, _, hx, G3, E3, fun σ5 G5 H5 g5 E5 => ⟨G5, g4.trans g5, E5⟩⟩
      · exact ⟨t, _, hx, G3, E3, fun σ5 G5 H5 g5 E5 => ⟨G5, g4.trans g5, E5⟩⟩
    · have e : i = m := by omega
      subst e
      refine .inr ⟨y.go i G' H g'.ex E'.ex ml, fun _ _ => False, fun _ _ q => q.elim, fun x H2 yl => ?_⟩
      obtain ⟨G2, d', w, hd, rd⟩ := y.yl i G' H x H2 g'.ex E'.ex ml yl
      rw [hm] at hd
      cases hd
      obtain ⟨t, hg, hx⟩ := hl
      refine ⟨d, S i, t, hg, G2, E'.g1 w, rd, fun σ3 G3 H3 g3 E3 => ?_⟩
      have g4 := g1.trans ((g'.trans w.gr).trans g3)
      rcases hx with ⟨r, s', rfl, hx⟩ | ⟨s', rfl, hx⟩
      · exact ⟨t, _, hx, G3, E3, fun v σ5 G5 H5 g5 E5 r5 => k v σ5 G5 H5 (g4.trans g5) E5 r5⟩
      · exact ⟨t, _, hx, G3, E3, fun σ5 G5 H5 g5 E5 => k σ5 G5 H5 (g4.trans g5) E5⟩⟩⟩
theorem xp_while {t : Expr} (S S' : Nat → Store) (n : Nat) (hb : ∀ i, i < n → XT c X t (S i) true (S' i) ∧ (XS c X body (S' i) (.nx (S (i + 1))) ∨ XS c X body (S' i) (.ct (S (i + 1))))) (he : XT c X t (S n) false st1) (hp : PassesOwn (model X.prog X.w) X.A X.env X.xe := by exact PassesOwn.never) :
    XP c X (.While t body [] pos) (S 0) (.nx st1) :=
  ⟨ps_weak (ps_while hp (pt_any (c := c)) (pss_any (c := c))) fun D σ0 H0 ⟨G, E, k⟩ => by
    refine ⟨fun m σ H => ∃ i, i ≤ n ∧ m = n - i ∧ ∃ G', Gr G H0 G' H (own σ0 (S 0)) (own σ (S i)) ∧ En c.K c.T c.pa G' H σ (S i), ⟨n, 0, Nat.zero_le _, rfl, G, Gr.refl, E⟩, ?_⟩
    rintro m σ H ⟨i, hi, rfl, G', g', E'⟩
    by_cases hlt : i < n
    · obtain ⟨ht, hx⟩ := hb i hlt
      refine ⟨_, _, _, ht, G', E', fun G1 H1 g1 E1 => ?_⟩
      refine L2.iteT ⟨fun σ2 H2 => ∃ G2, Gr G H0 G2 H2 (own σ0 (S 0)) (own σ2 (S (i + 1))) ∧ En c.K c.T c.pa G2 H2 σ2 (S (i + 1)), fun σ2 H2 q => ⟨n - (i + 1), by omega, i + 1, hlt, rfl, q⟩, ?_⟩
      have g4 := g'.trans g1
      rcases hx with hx | hx
      · exact ⟨_, _, hx, G1, E1, fun σ5 G5 H5 g5 E5 => ⟨G5, g4.trans g5, E5⟩⟩
      · exact ⟨_, _, hx, G1, E1, fun σ5 G5 H5 g5 E5 => ⟨G5, g4.trans g5, E5⟩⟩
    · have e : i = n := by omega
      subst e
      refine ⟨_, _, _, he, G', E', fun G1 H1 g1 E1 => ?_⟩
      exact L2.iteF (k σ G1 H1 (g'.trans g1) E1)⟩
theorem wipe_get {σ : L2.St} {i : Nat} : ∀ {vs : List Nat}, i ∉ vs → (wipe σ vs)[i]? = σ[i]?
  | [], _ => rfl
  | q :: vs, ni => by
    unfold wipe
    rw [List.getElem?_set_ne (fun z => ni (by rw [z]; exact List.mem_cons_self))]
    exact wipe_get fun z => ni (List.mem_cons_of_mem _ z)
theorem En.forget {vs : List Nat} (E : En c.K c.T c.pa G H σ st) (hn : ∀ i ∈ vs, st[i]? = some none) : En c.K c.T c.pa G H (wipe σ vs) st := by
  have keep : ∀ (i : Nat) (s : Sv), st[i]? = some (some s) → (wipe σ vs)[i]? = σ[i]? := fun i s h => wipe_get fun z => by rw [hn i z] at h; cases h
  exact ⟨E.ex, fun i s h => by rw [keep i s h]; exact E.sl i s h, fun i j s t a h1 h2 o1 o2 h3 h4 => E.ds i j s t a h1 h2 o1 o2 (by rw [← keep i s h1]; exact h3) (by rw [← keep j t h2]; exact h4), by rw [wipe_length]; exact E.len⟩
theorem En.remember {vs : List Nat} (E : En c.K c.T c.pa G H (wipe σ vs) st) (hn : ∀ i ∈ vs, st[i]? = some none) : En c.K c.T c.pa G H σ st := by
  have keep : ∀ (i : Nat) (s : Sv), st[i]? = some (some s) → (wipe σ vs)[i]? = σ[i]? := fun i s h => wipe_get fun z => by rw [hn i z] at h; cases h
  exact ⟨E.ex, fun i s h => by rw [← keep i s h]; exact E.sl i s h, fun i j s t a h1 h2 o1 o2 h3 h4 => E.ds i j s t a h1 h2 o1 o2 (by rw [keep i s h1]; exact h3) (by rw [keep j t h2]; exact h4), by rw [← wipe_length σ vs]; exact E.len⟩
theorem own_wipe {vs : List Nat} {p : Addr} (hn : ∀ i ∈ vs, st[i]? = some none) : own (wipe σ vs) st p ↔ own σ st p := by
  have keep : ∀ (i : Nat) (s : Sv), st[i]? = some (some s) → (wipe σ vs)[i]? = σ[i]? := fun i s h => wipe_get fun z => by rw [hn i z] at h; cases h
  exact ⟨fun ⟨i, s, h1, h2, h3⟩ => ⟨i, s, h1, h2, by rw [← keep i s h1]; exact h3⟩, fun ⟨i, s, h1, h2, h3⟩ => ⟨i, s, h1, h2, by rw [keep i s h1]; exact h3⟩⟩
/-- the block's context -/
abbrev BlkC (X : Cx) (s : Shared) (H : Hp) (scope : Scope) (C : Addr) (cl : List (Str × Addr)) (fp : List Addr) : Cx := X.blk s H scope (compEnvC scope cl C X.env) fp
/-- what a turn gives: nothing, or a value -/
def collect : List (Option Dt) → List Dt
  | [] => []
  | none :: r => collect r
  | some d :: r => d :: collect r
theorem collect_app : ∀ (xs ys : List (Option Dt)), collect (xs ++ ys) = collect xs ++ collect ys
  | [], _ => rfl
  | none :: r, ys => collect_app r ys
  | some d :: r, ys => congrArg (d :: ·) (collect_app r ys)
theorem collect_len : ∀ (xs : List (Option Dt)), (collect xs).length ≤ xs.length
  | [] => Nat.le_refl _
  | none :: r => Nat.le_succ_of_le (collect_len r)
  | some d :: r => Nat.succ_le_succ (collect_len r)
/-- the tests of one turn -/
inductive Tests (c : Ctx) (X : Cx) (scope : Scope) : List Expr → Store → Bool → Store → Prop where
  | nil {s} : Tests c X scope [] s true s
  | one {t s b s'} : (∀ sh H C cl fp, XT c (BlkC X sh H scope C cl fp) t s b s') → Tests c X scope [t] s b s'
def ttTests (c : Ctx) (X : Cx) (scope : Scope) : List Expr → TT
  | [] => tYes
  | [t] => fun σ H Q => ∃ s b s', (∀ sh H C cl fp, XT c (BlkC X sh H scope C cl fp) t s b s') ∧ tB' c s b s' σ H Q
  | _ => fun _ _ _ => False
theorem pts_tests {scope : Scope} (ifs : List Expr) (hl : ifs.length ≤ 1) (s : Shared) (H : Hp) (C : Addr) (cl : List (Str × Addr)) (fp : List Addr) : PTs (BlkC X s H scope C cl fp) ifs (ttTests c X scope ifs) := by
  match ifs, hl with
  | [], _ => exact pts_nil
  | [t], _ => exact pts_one ⟨fun pins s' σ H' Q I ⟨st, b, st', h, q⟩ => (h s H C cl fp).pt.run pins s' σ H' Q I q⟩
/-- the slots of the comprehension's names are empty again -/
def wipeS (s : Store) : List Nat → Store
  | [] => s
  | v :: vs => (wipeS s vs).set v none
theorem En.unset {i : Nat} (E : En c.K c.T c.pa G H σ st) : En c.K c.T c.pa G H (σ.set i none) (st.set i none) where
  ex := E.ex
  sl := fun j s h => by
    rcases set_cases h with ⟨_, e, _⟩ | ⟨n, h⟩
    · cases e
    · obtain ⟨w, h1, h2⟩ := E.sl j s h
      exact ⟨w, by rw [List.getElem?_set_ne (Ne.symm n)]; exact h1, h2⟩
  ds := fun j k s t p h1 h2 o1 o2 h3 h4 => by
    rcases set_cases h1 with ⟨_, e, _⟩ | ⟨n, h1⟩
    · cases e
    · rcases set_cases h2 with ⟨_, e, _⟩ | ⟨n', h2⟩
      · cases e
      · rw [List.getElem?_set_ne (Ne.symm n)] at h3
        rw [List.getElem?_set_ne (Ne.symm n')] at h4
        exact E.ds j k s t p h1 h2 o1 o2 h3 h4
  len := by rw [List.length_set, List.length_set, E.len]
theorem own_unset {i : Nat} {p : Addr} (h : own (σ.set i none) (st.set i none) p) : own σ st p := by
  obtain ⟨j, s, h1, h2, h3⟩ := h
  rcases set_cases h1 with ⟨_, e, _⟩ | ⟨n, h1⟩
  · cases e
  · rw [List.getElem?_set_ne (Ne.symm n)] at h3
    exact ⟨j, s, h1, h2, h3⟩
theorem En.wipeS (E : En c.K c.T c.pa G H σ st) : ∀ vs : List Nat, En c.K c.T c.pa G H (wipe σ vs) (wipeS st vs)
  | [] => E
  | _ :: vs => (E.wipeS vs).unset
theorem own_wipeS {p : Addr} : ∀ {vs : List Nat}, own (wipe σ vs) (wipeS st vs) p → own σ st p
  | [], h => h
  | _ :: _, h => own_wipeS (own_unset h)
/-- a target of a comprehension, on data: d is stored, s becomes s' -/
structure Tgt (c : Ctx) (g : TG) (vs : List Nat) (d : Dt) (s s' : Store) : Prop where
  go : ∀ (σ : L2.St) (G H : Hp) (x : V) (Q : L2.St → Hp → Prop), En c.K c.T c.pa G H (wipe σ vs) s → Rep c.K c.T G d x →
    (∀ σ2, wipe σ2 vs = wipe σ vs → En c.K c.T c.pa G H σ2 s' → (∀ p, own σ2 s' p → own (wipe σ vs) s p) → Q σ2 H) → g x (wipe σ vs) H Q
theorem tgt_name {jx : Nat} {s : Store} : Tgt c (gName jx) [jx] d s (s.set jx (some (.fr d))) := ⟨fun σ G H x Q E r k => by
  refine k _ ?_ (E.setFr r jx) fun p h => own_setFr h
  show (((σ.set jx none).set jx (some x)).set jx none) = σ.set jx none
  rw [List.set_set, List.set_set]⟩
/-- one turn: the item is stored; then the tests; then the element -/
def LcTurn (c : Ctx) (X : Cx) (g : TG) (vs : List Nat) (scope : Scope) (ifs : List Expr) (elt : Expr) (d : Dt) (s : Store) (r : Option Dt) (s' : Store) : Prop :=
  ∃ s0 b s1, Tgt c g vs d s s0 ∧ Tests c X scope ifs s0 b s1 ∧
    ((b = false ∧ r = none ∧ s' = wipeS s1 vs) ∨ (b = true ∧ ∃ v s2, r = some v ∧ s' = wipeS s2 vs ∧ ∀ sh H C cl fp, XD c (BlkC X sh H scope C cl fp) elt s1 v s2))
def teAny (c : Ctx) (X : Cx) (scope : Scope) (elt : Expr) : TE := fun σ H Q => ∃ s v s2, (∀ sh H C cl fp, XD c (BlkC X sh H scope C cl fp) elt s v s2) ∧ tD c s v s2 σ H Q
theorem pe_teAny {scope : Scope} {elt : Expr} (s : Shared) (H : Hp) (C : Addr) (cl : List (Str × Addr)) (fp : List Addr) : PE (BlkC X s H scope C cl fp) elt (teAny c X scope elt) :=
  ⟨fun pins s' σ H' Q I ⟨st, v, s2, h, q⟩ => (h s H C cl fp).pe.run pins s' σ H' Q I q⟩
/-- the comprehension's reading, from its turns: rs what they give, S the stores between them -/
theorem lc_go {g : TG} {vw : List Nat} {scope : Scope} {ifs : List Expr} {elt : Expr} {wi : TI} {S : Nat → Store} {rs : List (Option Dt)} (hwi : ∀ σ H R, tI c st ds (S 0) σ H R → wi σ H R) (hlen : rs.length = ds.length) (hsz : ds.length ≤ 100000)
    (hn : ∀ i, i ≤ ds.length → ∀ q ∈ vw, (S i)[q]? = some none) (hb : ∀ i d r, ds[i]? = some d → rs[i]? = some r → LcTurn c X g vw scope ifs elt d (S i) r (S (i + 1))) :
    ∀ σ H Q, tL c st (collect rs) (S ds.length) σ H Q → tLc wi g (ttTests c X scope ifs) (teAny c X scope elt) vw σ H Q := fun σ H Q ⟨G, E, k⟩ => hwi σ H _ ⟨G, E, fun J G1 H1 g1 E1 y D hD => by
  have F1 := E1.forget (hn 0 (Nat.zero_le _))
  let I := fun (i m : Nat) (H' : Hp) => m = ds.length - i ∧ i ≤ ds.length ∧ ∃ G' vs, Gr G1 H1 G' H' (own σ (S 0)) (own σ (S i)) ∧ En c.K c.T c.pa G' H' (wipe σ vw) (S i) ∧ G' D = none ∧ ¬ own σ (S i) D ∧ H' D = some (.lst vs) ∧ Reps c.K c.T G' (collect (rs.take i)) vs
  have nO : ¬ own σ (S 0) D := E1.notOwn hD
  refine ⟨I, ⟨_, rfl, Nat.zero_le _, G1, [], (E1.lay hD).2, (F1.lay hD).1, E1.ex.none hD, nO, upd_same, .nil⟩, ?_⟩
  rintro i m H' ⟨rfl, hi, G', vs, g', E', hGD, hOD, hHD, rv⟩
  by_cases hlt : i < ds.length
  · refine .inr ⟨y.go i G' H' g'.ex E'.ex hlt, fun H2 => I (i + 1) (ds.length - (i + 1)) H2, fun H2 q => ⟨_, by omega, q⟩, fun x H2 yl => ?_⟩
    obtain ⟨G2, d, w, hd, rd⟩ := y.yl i G' H' x H2 g'.ex E'.ex hlt yl
    have hri : rs[i]? = some (rs[i]'(by omega)) := List.getElem?_eq_getElem _
    obtain ⟨s0, b, s1, hg, hT, hE⟩ := hb i d _ hd hri
    refine hg.go σ G2 H2 x _ (E'.g1 w) rd fun σ2 hw E2 ho2 => ⟨hw, ?_⟩
    have ow : ∀ p, own (wipe σ vw) (S i) p ↔ own σ (S i) p := fun p => own_wipe (hn i hi)
    have g2 : Gr G1 H1 G2 H2 (own σ (S 0)) (own σ2 s0) := g'.trans ((w.gr.weakO ho2).fromO fun p h => (ow p).mp h)
    have notO : ∀ (O2 O3 : Addr → Prop) (Ga Ha Gb Hb : Hp), Gr Ga Ha Gb Hb O2 O3 → Ha D ≠ none → ¬ O2 D → ¬ O3 D := fun O2 O3 Ga Ha Gb Hb g h1 h2 h3 => (g.ow D h3).elim h2 h1
    have hHD2 : H2 D = some (.lst vs) := w.hx _ _ hHD
    have hGD2 : G2 D = none := by
      cases q : G2 D with
      | none => rfl
      | some u =>
        rcases w.nw D u q with z | z
        · rw [hGD] at z; cases z
        · rw [hHD] at z; cases z
    have hOD2 : ¬ own σ2 s0 D := fun z => hOD ((ow D).mp (ho2 D z))
    -- the slots behind the turn
    have back : ∀ {Ga Ha : Hp} {sx : Store}, En c.K c.T c.pa Ga Ha σ2 sx → S (i + 1) = wipeS sx vw → En c.K c.T c.pa Ga Ha (wipe σ vw) (S (i + 1)) := fun {Ga Ha sx} E es => by
      rw [es, ← hw]; exact E.wipeS vw
    have ownB : ∀ {sx : Store}, S (i + 1) = wipeS sx vw → ∀ p, own σ (S (i + 1)) p → own σ2 sx p := fun {sx} es p h => by
      have h' := (own_wipe (hn (i + 1) hlt)).mpr h
      rw [es, ← hw] at h'
      exact own_wipeS h'
    have key : ∀ G3 H3, Gr G2 H2 G3 H3 (own σ2 s0) (own σ2 s1) → En c.K c.T c.pa G3 H3 σ2 s1 →
        (if b = true then teAny c X scope elt σ2 H3 (fun y' H4 => ∃ acc, H4 D = some (.lst acc) ∧ acc.length < sizeLine ∧ I (i + 1) (ds.length - (i + 1)) (upd H4 D (.lst (acc ++ [y'])))) else I (i + 1) (ds.length - (i + 1)) H3) := fun G3 H3 g3 E3 => by
      have hOD3 := notO _ _ _ _ _ _ g3 (by rw [hHD2]; simp) hOD2
      have hHD3 : H3 D = some (.lst vs) := g3.fr D _ hHD2 hOD2
      have stay : ∀ {Ga Ha Gb Hb : Hp} {O2 O3 : Addr → Prop}, Gr Ga Ha Gb Hb O2 O3 → Ga D = none → (∃ u, Ha D = some u) → ¬ O2 D → Gb D = none := fun {Ga Ha Gb Hb O2 O3} g h1 ⟨u, h2⟩ h3 => by
        cases q : Gb D with
        | none => rfl
        | some u =>
          rcases g.nw D u q with z | z | z
          · rw [h1] at z; cases z
          · rw [h2] at z; cases z
          · exact absurd z h3
      have hGD3 : G3 D = none := stay g3 hGD2 ⟨_, hHD2⟩ hOD2
      have take : rs.take (i + 1) = rs.take i ++ [rs[i]'(by omega)] := by rw [List.take_succ, hri]; rfl
      rcases hE with ⟨rfl, er, es'⟩ | ⟨rfl, v, s2, er, es', hv⟩
      · refine L2.iteF ?_
        refine ⟨rfl, hlt, G3, vs, (g2.trans g3).weakO (ownB es'), back E3 es', hGD3, fun z => hOD3 (ownB es' D z), hHD3, ?_⟩
        rw [take, collect_app, er]
        show Reps _ _ _ (collect (rs.take i) ++ []) vs
        rw [List.append_nil]
        exact (rv.ex w.ex).ex g3.ex
      · refine L2.iteT ?_
        refine ⟨s1, v, s2, hv, G3, E3, fun y' G4 H4 g4 E4 r4 => ?_⟩
        have hOD4 := notO _ _ _ _ _ _ g4 (by rw [hHD3]; simp) hOD3
        have hHD4 : H4 D = some (.lst vs) := g4.fr D _ hHD3 hOD3
        have hGD4 : G4 D = none := stay g4 hGD3 ⟨_, hHD3⟩ hOD3
        have lv : vs.length ≤ ds.length := by
          rw [← rv.length]
          refine Nat.le_trans (collect_len _) ?_
          rw [List.length_take]; omega
        refine ⟨vs, hHD4, Nat.lt_of_le_of_lt lv (Nat.lt_of_le_of_lt hsz (by decide)), ?_⟩
        have E5 := back E4 es'
        have nD5 : ¬ own σ (S (i + 1)) D := fun z => hOD4 (ownB es' D z)
        have g5 := (g2.trans (g3.trans g4)).weakO (ownB es')
        refine ⟨rfl, hlt, G4, vs ++ [y'], ⟨g5.ex, g5.nw, fun p o h n => ?_, fun p h => ?_, g5.ow⟩, ⟨fun p o h => ?_, fun j s h => ?_, E5.ds, E5.len⟩, hGD4, nD5, upd_same, ?_⟩
        · rw [upd_ne (ne_of_none h hD)]; exact g5.fr p o h n
        · by_cases z : p = D
          · subst z; rw [upd_same]; simp
          · rw [upd_ne z]; exact g5.al p h
        · have z : p ≠ D := fun z => by subst z; rw [hGD4] at h; cases h
          rw [upd_ne z]; exact E5.ex p o h
        · obtain ⟨w', q1, q2⟩ := E5.sl j s h
          have noD : ∀ q, s.isOw = true → w' = .ref q → q ≠ D := fun q o z1 z2 => nD5 ((own_wipe (hn (i + 1) hlt)).mp ⟨j, s, h, o, by rw [q1, z1, z2]⟩)
          refine ⟨w', q1, ?_⟩
          cases s with
          | fr d => exact q2
          | ex _ _ _ => exact q2
          | ow ys =>
            obtain ⟨b, ws, e, m1, m2, m3⟩ := q2
            exact ⟨b, ws, e, m1, by rw [upd_ne (noD b rfl e)]; exact m2, m3⟩
          | pr kk ys =>
            obtain ⟨ws, e, m1, m2, m3⟩ := q2
            exact ⟨ws, e, m1, by rw [upd_ne (noD _ rfl e)]; exact m2, m3⟩
          | oo F =>
            obtain ⟨b, ws, e, m1, m2, m3⟩ := q2
            exact ⟨b, ws, e, m1, by rw [upd_ne (noD b rfl e)]; exact m2, m3⟩
          | bo mm fs =>
            obtain ⟨C, ns, dx, ws, t, e, m1, m2, m3⟩ := q2
            exact ⟨C, ns, dx, ws, t, e, m1, by rw [upd_ne (noD _ rfl e)]; exact m2, m3⟩
        · rw [take, collect_app, er]
          exact ((((rv.ex w.ex).ex g3.ex).ex g4.ex)).app (.cons r4 .nil)
    cases hT with
    | nil => exact key G2 H2 Gr.refl E2
    | one h => exact ⟨_, b, s1, h, G2, E2, fun G3 H3 g3 E3 => key G3 H3 g3 E3⟩
  · have e : i = ds.length := by omega
    subst e
    refine .inl ⟨y.stop _ G' H' g'.ex E'.ex (Nat.le_refl _), ?_⟩
    rw [List.take_of_length_le (by omega)] at rv
    exact k D vs G' H' (g1.trans g') (E'.remember (hn _ (Nat.le_refl _))) hOD (g1.none hD) hGD hHD rv⟩
theorem xl_lc {scope : Scope} {ifs : List Expr} {elt tg : Expr} {g : TG} {ow : List (Str × Nat)} (S : Nat → Store) (rs : List (Option Dt)) (hN : X.N.Nodup) (hi : XI c X tg iter st ds (S 0)) (hlen : rs.length = ds.length) (hsz : ds.length ≤ 100000) (hn : ∀ i, i ≤ ds.length → ∀ q ∈ ow.map (·.2), (S i)[q]? = some none)
    (hb : ∀ i d r, ds[i]? = some d → rs[i]? = some r → LcTurn c X g (ow.map (·.2)) scope ifs elt d (S i) r (S (i + 1)))
    (hg : ∀ (s : Shared) (H : Hp) (C : Addr) (cl : List (Str × Addr)) (fp : List Addr), PG (BlkC X s H scope C cl fp) tg g) (hifs : ifs.length ≤ 1 := by decide) (ok : BlkOk X.N X.env.scope scope ow := by exact blkOk_by (by decide +kernel))
    (hc : X.calm = true := by rfl) (hs : ∀ x, foldedSetIterable iter X.env x = pure x := by intro _; rfl) :
    XL c X (.ListComp elt [⟨tg, iter, ifs, 0⟩] scope pos) st (collect rs) (S ds.length) :=
  ⟨pe_weak (pe_lc (own := ow) hc hN hi.pi ok hg (pts_tests ifs hifs) (pe_teAny (c := c) (scope := scope)) hs) (lc_go (fun _ _ _ h => h) hlen hsz hn hb)⟩
end Dv
set_option autoImplicit true
set_option maxRecDepth 100000
namespace Dv
open PySem PySem.Spec PyProof.Rows L2
variable {c : Ctx} {X : Cx} {st st1 st2 st3 st' : Store} {a b e tg iter : Expr} {es : List Expr} {d d1 d2 d' : Dt} {ds xs ys zs : List Dt} {pos : Pos} {G G' H H' : Hp} {σ σ' : L2.St} {v : V} {i j : Nat} {body : List Stmt} {o : Out}
def spM (K : PySem.W.Frag) (T : Ct) (R : List Dt → List Dt → Dt → List Dt → Prop) : Sp := fun vs H Q _ => ∃ a vs' G ws xs ds r xs', vs = .ref a :: vs' ∧ Ex G H ∧ G a = none ∧ H a = some (.lst ws) ∧ Reps K T G xs ws ∧ Reps K T G ds vs' ∧ R xs ds r xs' ∧
  ∀ v G' H' ws', Gr G H G' H' (· = a) (· = a) → Ex G' H' → G' a = none → H' a = some (.lst ws') → Reps K T G' xs' ws' → Rep K T G' r v → Q v H'
theorem xd_callM (i : Nat) {s : Sv} {CX : CXT} {k : Nat} {f : Addr} {fd : FuncData} {ps : List Str} {R : List Dt → List Dt → Dt → List Dt → Prop} {x y : Str} {p py : Pos}
    (F : FnOk X.prog X.w X.K X.mg X.base CX k f fd ps (spM c.K c.T R)) (hr : Room k X.A) (hm : X.mg x = some (.ref f)) (hk : PySem.W.keepIn X.K (.ref f) = true) (hb : Binds X.K fd ps [])
    {E : XK} (hx : Passes CX X E) (h : XA c X es st ds st1) (hi : st[i]? = some (some s)) (hi1 : st1[i]? = some (some s)) (hs : s.Has xs) (hR : R xs ds d ys) (hg : Gl X x := by rfl) (hdb : (x == ("__debug__" : Str)) = false := by decide)
    (hN : X.N[i]? = some y := by rfl) (hv : Vis X.env.scope y := by first | exact Or.inl rfl | exact Or.inr (Or.inl rfl) | exact Or.inr (Or.inr rfl)) (hd : (y == ("__debug__" : Str)) = false := by decide) (hcd : (y == ("__classdict__" : Str)) = false := by decide)
    (he : starEach (.Name y py :: es) X.env = (false, eval (.Name y py) X.env) :: starEach es X.env := by rfl) (hpl : (backTo pos (starEach es X.env)).any (·.1) = false := by rfl) :
    XD c X (.Call (.Name x p) (.Name y py :: es) [] pos) st d (st1.set i (some (s.with ys))) :=
  ⟨pe_weak (pe_call F hr hg hm hk hb .nil hx (pa_cons (pe_var hN hv hd hcd) h.pa he) hdb he hpl) fun σ H Q ⟨G, E, k⟩ => by
    obtain ⟨a, ws0, z1, z2, z3, z4, z5, z6⟩ := E.at hi hs
    refine ⟨_, z1, G, E, fun vs G1 H1 g1 E1 r1 => ?_⟩
    obtain ⟨a', ws, y1, y2, y3, y4, y5, y6⟩ := E1.at hi1 hs
    rw [z1] at y1
    cases y1
    refine ⟨a, vs, G1, ws, xs, ds, d, ys, by simp, E1.ex, y2, y3, y4, r1, hR, fun v G2 H2 ws' g2 e2 n2 l2 r2 rv => ?_⟩
    obtain ⟨E3, g3⟩ := E1.mut hi1 hs z1 g2 e2 n2 l2 r2
    exact k v G2 H2 (g1.trans g3) E3 rv⟩
def st0M (N : List Str) (xs ds : List Dt) : Store := some (.pr 0 xs) :: (ds.map (fun d => some (.fr d)) ++ List.replicate (N.length - (ds.length + 1)) none)
theorem En.startM {pa : Nat → Addr} {N : List Str} {vs ws : List V} (e : Ex G H) (hn : G (pa 0) = none) (hl : H (pa 0) = some (.lst ws)) (rx : Reps c.K c.T G xs ws) (r : Reps c.K c.T G ds vs) : En c.K c.T pa G H (L2.start N (.ref (pa 0) :: vs)) (st0M N xs ds) := by
  have base := En.start (c := ⟨c.K, c.T, pa⟩) (N := N.tail) e r
  have e1 : L2.start N (.ref (pa 0) :: vs) = some (.ref (pa 0)) :: (vs.map some ++ List.replicate (N.length - (vs.length + 1)) none) := rfl
  rw [e1]
  refine ⟨e, fun i s h => ?_, fun i j s t a h1 h2 o1 o2 h3 h4 => ?_, by unfold st0M; simp [r.length]⟩
  · cases i with
    | zero => cases h; exact ⟨_, rfl, ws, rfl, hn, hl, rx⟩
    | succ i =>
      have h' : (ds.map (fun d => some (Sv.fr d)) ++ List.replicate (N.length - (ds.length + 1)) none)[i]? = some (some s) := h
      by_cases q : i < ds.length
      · rw [List.getElem?_append_left (by simpa using q), List.getElem?_map] at h'
        cases z : ds[i]? with
        | none => rw [z] at h'; cases h'
        | some d =>
          rw [z] at h'
          cases h'
          obtain ⟨v, h1, h2⟩ := r.get z
          refine ⟨v, ?_, h2⟩
          show (vs.map some ++ _)[i]? = _
          rw [List.getElem?_append_left (by rw [List.length_map, ← r.length]; exact q), List.getElem?_map, h1]; rfl
      · rw [List.getElem?_append_right (by simpa using q), List.getElem?_replicate] at h'
        split at h' <;> cases h'
  · have z : ∀ (i : Nat) s, (st0M N xs ds)[i]? = some (some s) → s.isOw = true → i = 0 := fun i s h o => by
      cases i with
      | zero => rfl
      | succ i =>
        exfalso
        have h' : (ds.map (fun d => some (Sv.fr d)) ++ List.replicate (N.length - (ds.length + 1)) none)[i]? = some (some s) := h
        by_cases q : i < ds.length
        · rw [List.getElem?_append_left (by simpa using q), List.getElem?_map] at h'
          cases z : ds[i]? with
          | none => rw [z] at h'; cases h'
          | some d => rw [z] at h'; cases h'; cases o
        · rw [List.getElem?_append_right (by simpa using q), List.getElem?_replicate] at h'
          split at h' <;> cases h'
    rw [z i s h1 o1, z j t h2 o2]
theorem own_startM {pa : Nat → Addr} {N : List Str} {vs : List V} {p : Addr} (h : own (L2.start N (.ref (pa 0) :: vs)) (st0M N xs ds) p) : p = pa 0 := by
  obtain ⟨i, s, h1, o1, h3⟩ := h
  cases i with
  | zero => cases h3; rfl
  | succ i =>
    exfalso
    have h' : (ds.map (fun d => some (Sv.fr d)) ++ List.replicate (N.length - (ds.length + 1)) none)[i]? = some (some s) := h1
    by_cases q : i < ds.length
    · rw [List.getElem?_append_left (by simpa using q), List.getElem?_map] at h'
      cases z : ds[i]? with
      | none => rw [z] at h'; cases h'
      | some d => rw [z] at h'; cases h'; cases o1
    · rw [List.getElem?_append_right (by simpa using q), List.getElem?_replicate] at h'
      split at h' <;> cases h'
theorem okM {P : Program} {w : World} {K : PySem.W.Frag} {T : Ct} {mg : Str → Option Value} {base : Heap} {x qual : Str} {sd : Stmt} {f : Addr} {fd : FuncData} {N ps : List Str} {k : Nat} {R : List Dt → List Dt → Dt → List Dt → Prop} (F : Fun K x qual sd f fd) (S : FnScope N ps (defScope sd)) (hl : ∀ xs ds r ys, R xs ds r ys → ds.length + 1 = ps.length)
    (body : ∀ (cdv : Value) (A : Around) (outer : List Env) (s : Shared) (H : Hp) (E : XK) (pa : Nat → Addr) (xs ds : List Dt) (r : Dt) (ys : List Dt), Room k (A.deeper (envOfC qual (defScope sd) s.heap.objs.size f cdv)) → R xs ds r ys →
      ∃ st', XS ⟨K, T, pa⟩ (bX P w K mg base N qual sd f cdv A outer s H E) (defBody sd) (st0M N xs ds) (.rt r st') ∧ st'[0]? = some (some (.pr 0 ys))) : FnOk P w K mg base CX0 (k + 1) f fd ps (spM K T R) := by
  refine F.ok S (fun vs H Q E h => ?_) (fun cdv A outer s H vs Q E hr h => ?_)
  · obtain ⟨a, vs', G, ws, xs, ds, r, ys, rfl, e, n, l, rx, rs, hR, _⟩ := h
    rw [List.length_cons, ← rs.length]; exact hl xs ds r ys hR
  · obtain ⟨a, vs', G, ws, xs, ds, r, ys, rfl, e, n, l, rx, rs, hR, kk⟩ := h
    obtain ⟨st', hb, hst⟩ := body cdv A outer s H E (fun _ => a) xs ds r ys hr hR
    refine ⟨_, hb.pss, G, En.startM (pa := fun _ => a) e n l rx rs, ?_⟩
    intro v σ' G' H' g E' r'
    obtain ⟨u, h1, h2⟩ := E'.sl 0 _ hst
    obtain ⟨ws', rfl, n', l', r2⟩ := h2
    refine kk v G' H' ws' ⟨g.ex, fun p o q => (g.nw p o q).imp id (Or.imp id fun z => own_startM (pa := fun _ => a) z), fun p o q nq => g.fr p o q fun z => nq (own_startM (pa := fun _ => a) z), g.al, fun p q => .inl q⟩ E'.ex n' l' r2 r'
theorem lookup_zip {ns : List Str} {vs : List V} {f : Str} {v : V} {i : Nat} (hi : ns.findIdx? (· == f) = some i) (hv : vs[i]? = some v) : (ns.zip vs).lookup f = some v := by
  induction ns generalizing vs i with
  | nil => cases hi
  | cons n ns ih =>
    cases vs with
    | nil => simp at hv
    | cons u vs =>
      rw [List.findIdx?_cons] at hi
      by_cases q : (n == f) = true
      · rw [if_pos q] at hi
        cases hi
        have : n = f := by simpa using q
        subst this
        simpa [List.zip, List.lookup] using hv
      · rw [if_neg q] at hi
        cases z : ns.findIdx? (· == f) with
        | none => rw [z] at hi; cases hi
        | some k =>
          rw [z] at hi
          cases hi
          have q' : (f == n) = false := by
            cases y : (f == n) with
            | false => rfl
            | true =>
              exfalso; apply q
              have : f = n := by simpa using y
              simp [this]
          show List.lookup f ((n, u) :: ns.zip vs) = some v
          unfold List.lookup
          rw [q']
          exact ih z (by simpa using hv)
/-- e.f: the i-th attribute -/
theorem xd_fld {n : Nat} {C : Addr} {ns : List Str} {fs : List Dt} {f : Str} {i : Nat} (h : XD c X e st (.obj n fs) st1) (hK : X.K = c.K) (hT : c.T n = some (C, ns)) (hc : Cls X.K C) (hna : NoAttr X.K C f) (hi : ns.findIdx? (· == f) = some i) (hd : fs[i]? = some d)
    (hb : attributeBase e f X.env (eval e X.env) = eval e X.env := by rfl) : XD c X (.Attribute e f pos) st d st1 :=
  ⟨pe_weak (pe_fld h.pe hb) fun σ H Q ⟨G, E, k⟩ => ⟨G, E, fun x G1 H1 g1 E1 r1 => by
    obtain ⟨C', ns', a, dx, vs, rfl, q1, q2, q3, q4⟩ := r1.obj_inv
    rw [hT] at q1
    cases q1
    obtain ⟨v, h1, h2⟩ := q4.get hd
    exact ⟨a, C, dx, _, v, rfl, E1.ex _ _ q2, hc, hna, lookup_zip hi h1, k v G1 H1 g1 E1 h2⟩⟩⟩
theorem o_str {x y : Str} (hl : x.length + y.length ≤ 100000) : Op2 c (.str x) (.str y) (.str (x ++ y)) (fun x y H Q => ∃ i j, x = .str i ∧ y = .str j ∧ i.length + j.length ≤ sizeLine ∧ Q (.str (i ++ j)) H) := fun G H v u Q e r1 r2 k => by
  cases r1; cases r2; exact ⟨x, y, rfl, rfl, Nat.le_trans hl (by decide), kv_same k e .str⟩
theorem o_ixT {i : Int} {n : Nat} (hn : i = n) (hd : ds[n]? = some d) : Op2 c (.tup ds) (.int i) d (rIxT c.K) := fun G H v u Q e r1 r2 k => by
  obtain ⟨a, vs, rfl, h, r⟩ := r1.tup_inv
  cases r2
  obtain ⟨w, h1, h2⟩ := r.get hd
  exact ⟨a, vs, i, w, rfl, rfl, e.st h, by rw [hn]; exact atI_nat h1, kv_same k e h2⟩
theorem o_ixL {i : Int} {n : Nat} (hn : i = n) (hd : ds[n]? = some d) : Op2 c (.lst ds) (.int i) d (rIxL c.K) := fun G H v u Q e r1 r2 k => by
  obtain ⟨a, vs, rfl, h, r⟩ := r1.lst_inv
  cases r2
  obtain ⟨w, h1, h2⟩ := r.get hd
  exact ⟨a, vs, i, w, rfl, rfl, .inl (.inl (e _ _ h)), by rw [hn]; exact atI_nat h1, kv_same k e h2⟩
theorem o_ixS {x : Str} {i : Int} {n : Nat} {q : Nat} (hl : x.length ≤ 100000) (hn : i = n) (hd : x.cps.toList[n]? = some q) : Op2 c (.str x) (.int i) (.str ⟨#[q]⟩) rIxS := fun G H v u Q e r1 r2 k => by
  cases r1; cases r2
  exact ⟨x, i, q, rfl, rfl, Nat.le_trans hl (by decide), by rw [hn]; exact atI_nat hd, kv_same k e .str⟩
theorem o_len (h : d1 = .lst ds ∨ d1 = .ro ds ∨ d1 = .tup ds) : OpN c [d1] (.int (ds.length : Int)) (fun xs H Q => ∃ p ys, xs = [.ref p] ∧ (SqL c.K H p ys ∨ SqT c.K H p ys) ∧ Q (.int ys.length) H) := fun G H vs Q e r k => by
  cases r with
  | cons r r' =>
    cases r'
    rcases h with rfl | rfl | rfl
    · obtain ⟨a, vs, rfl, h, r⟩ := r.lst_inv
      exact ⟨a, vs, rfl, .inl (.inl (.inl (e _ _ h))), by rw [← r.length]; exact kv_same k e .int⟩
    · obtain ⟨a, vs, rfl, h, r⟩ := r.ro_inv
      exact ⟨a, vs, rfl, .inl (e.sl h), by rw [← r.length]; exact kv_same k e .int⟩
    · obtain ⟨a, vs, rfl, h, r⟩ := r.tup_inv
      exact ⟨a, vs, rfl, .inr (e.st h), by rw [← r.length]; exact kv_same k e .int⟩
theorem o_int1 {i : Int} : OpN c [.int i] (.int i) (fun xs H Q => (∃ i, xs = [.int i] ∧ Q (.int i) H) ∨ ∃ k, xs = [.bl k] ∧ Q (.int (if k then 1 else 0)) H) := fun G H vs Q e r k => by
  cases r with
  | cons r r' => cases r'; cases r; exact .inl ⟨i, rfl, kv_same k e .int⟩
theorem o_intB {t : Bool} : OpN c [.bl t] (.int (if t then 1 else 0)) (fun xs H Q => (∃ i, xs = [.int i] ∧ Q (.int i) H) ∨ ∃ k, xs = [.bl k] ∧ Q (.int (if k then 1 else 0)) H) := fun G H vs Q e r k => by
  cases r with
  | cons r r' => cases r'; cases r; exact .inr ⟨t, rfl, kv_same k e .int⟩
theorem o_abs {i : Int} : OpN c [.int i] (.int (if i < 0 then -i else i)) (fun xs H Q => ∃ i, xs = [.int i] ∧ Q (.int (if i < 0 then -i else i)) H) := fun G H vs Q e r k => by
  cases r with
  | cons r r' => cases r'; cases r; exact ⟨i, rfl, kv_same k e .int⟩
mutual
def Dt.py : Dt → Option PyData
  | .non => some .none
  | .bl b => some (.bool b)
  | .int i => some (.int i)
  | .str x => some (.str x)
  | .lst xs => (Dt.pys xs).map .list
  | .ro xs => (Dt.pys xs).map .list
  | .tup xs => (Dt.pys xs).map .tuple
  | .obj _ _ => none
  | .ext _ => none
def Dt.pys : List Dt → Option (List PyData)
  | [] => some []
  | d :: r => match Dt.py d, Dt.pys r with
    | some p, some q => some (p :: q)
    | _, _ => none
end
end Dv
set_option autoImplicit true
set_option maxRecDepth 100000
namespace Dv
open PySem PySem.Spec PyProof.Rows L2
variable {c : Ctx} {X : Cx} {st st1 st2 st3 st' : Store} {a b e tg iter : Expr} {es : List Expr} {d d1 d2 d' : Dt} {ds xs ys zs fs : List Dt} {pos : Pos} {G G' H H' : Hp} {σ σ' : L2.St} {v : V} {i j : Nat} {body : List Stmt} {o : Out}
theorem back_of {pins : List (Addr × Obj)} {Q : VK} {u : Value} {s' : Shared} (h : EP X pins σ Q u s') : PySem.W.CmpBack (EP X pins σ Q) u s' := by
  obtain ⟨w, H1, I1, r, q⟩ := id h
  cases w with
  | non => cases r; exact h
  | bl _ => cases r; exact h
  | int _ => obtain ⟨t, rfl⟩ := r; exact h
  | str _ => obtain ⟨t, rfl⟩ := r; exact h
  | byt _ => obtain ⟨t, rfl⟩ := r; exact h
  | flt _ => obtain ⟨t, rfl⟩ := r; exact h
  | ref _ => cases r; exact h
  | ty _ => cases r; exact h
/-- a method of the class at C, as it is called by an operator -/
structure OwnOp (K : PySem.W.Frag) (C : Addr) (m : Str) (f : Addr) : Prop where
  at_ : PySem.W.findIn K (.ref C) m = some (some (.ref f))
  fn : PySem.W.isFn K (.ref f) = true
section
variable {CX : CXT} {k : Nat} {f C : Addr} {fd : FuncData} {ps : List Str} {E : XK}
/-- x == y by the class's own __eq__, y of a known type -/
def rOwnEq (K : PySem.W.Frag) (C : Addr) (sp : Sp) (E : XK) : R2 := fun x y H Q => (∃ p dx gs, x = .ref p ∧ H p = some (.ins C dx gs)) ∧ (∃ q dy hs, y = .ref q ∧ H q = some (.ins C dy hs)) ∧ sp [x, y] H Q E
theorem op_ownEq {sp : Sp} (F : FnOk X.prog X.w X.K X.mg X.base CX k f fd ps sp) (hr : Room k X.A) (M : OwnOp X.K C "__eq__" f) (hb : Binds X.K fd ps []) (hx : Passes CX X E) :
    OpR X (compareOp .Eq) (rOwnEq X.K C sp E) := by
  intro pins s σ H x y vx vy Q I rx ry h
  obtain ⟨⟨p, dx, gs, rfl, hp⟩, ⟨q, dy, hs, rfl, hq⟩, hsp⟩ := h
  cases rx
  cases ry
  obtain ⟨mA, J, _⟩ := ins_get I.hok hp
  obtain ⟨mB, J', _⟩ := ins_get I.hok hq
  obtain ⟨od, J, _⟩ := J.look
  obtain ⟨od', J', _⟩ := J'.look
  obtain ⟨m, hF⟩ := I.fr
  show wpAny (model X.prog X.w) X.A (richCompare .Eq (.ref p) (.ref q)) (EP X pins σ Q) X.xe s
  exact PySem.W.cmp_K (op := .Eq) hr.units0 hF I.ok.mod.kin J J'.type (by simp [PySem.W.notFirst]) M.at_ M.fn (thn (run_fn (dvs := []) (vs := [.ref p, .ref q]) (us := [.ref p, .ref q]) F hr hb .nil hx I (.cons rfl (.cons rfl .nil)) hsp) fun u s' z => back_of z)
end
section
variable {CX : CXT} {k : Nat} {f C : Addr} {fd : FuncData} {ps : List Str} {E : XK}
theorem run_in1 {pins : List (Addr × Obj)} {s : Shared} {Q : VK} {us : List Value} {vs : List V} {sp : Sp} (F : FnOk X.prog X.w X.K X.mg X.base CX k f fd ps sp) (hr : Room (k + 1) X.A) (hb : Binds X.K fd ps []) (hx : Passes CX X E)
    (I : Inv X pins σ H s) (r : Vals vs us) (h : sp vs H Q E) : wpAny (model X.prog X.w) X.A.in1 (call (.ref f) us) (EP X pins σ Q) X.xe s := by
  have hl : us.length = ps.length := by rw [← r.length]; exact F.len _ _ _ _ h
  have b := hb s us I.kIn (by rw [List.append_nil]; exact hl)
  rw [List.append_nil] at b
  refine wpAny_call (codeAny_mono (F.run X.A.in1 X.stack s H ⟨us, []⟩ us vs Q E hr.in1 I.env0.in1 b r h) fun r s' hq => ?_)
  cases r with
  | error e => exact hx pins σ H s e s' I hq
  | ok fl =>
    cases fl with
    | ret u => exact I.after hq
    | next => exact False.elim hq
    | brk => exact False.elim hq
    | cont => exact False.elim hq
end
end Dv
set_option autoImplicit true
set_option maxRecDepth 100000
namespace Dv
open PySem PySem.Spec PyProof.Rows L2
variable {c : Ctx} {X : Cx} {st st1 st2 st3 st' : Store} {a b e tg iter : Expr} {es : List Expr} {d d1 d2 d' : Dt} {ds xs ys zs fs gs : List Dt} {pos : Pos} {G G' H H' : Hp} {σ σ' : L2.St} {v : V} {i j n : Nat} {body : List Stmt} {o : Out}
theorem gw_of {G H G' H' : Hp} (g : Gr G H G' H' (fun _ => False) (fun _ => False)) (e : Ex G' H') : Gw G H G' H' :=
  ⟨g.ex, fun p o h => g.fr p o h id, e, fun p o h => (g.nw p o h).elim .inl fun z => z.elim .inr False.elim⟩
section
variable {CX : CXT} {k : Nat} {f C : Addr} {fd : FuncData} {ps : List Str} {E : XK} {R : List Dt → Dt → Prop} {ns : List Str}
theorem o_ownEq (hT : c.T n = some (C, ns)) (hR : R [.obj n fs, .obj n gs] d) : Op2 c (.obj n fs) (.obj n gs) d (rOwnEq X.K C (spD c.K c.T R) E) := fun G H x y Q e r1 r2 kk => by
  obtain ⟨C1, ns1, p, dx, vs, rfl, q1, q2, q3, q4⟩ := id r1.obj_inv
  obtain ⟨C2, ns2, q, dy, ws, rfl, p1, p2, p3, p4⟩ := id r2.obj_inv
  rw [hT] at q1 p1
  cases q1
  cases p1
  exact ⟨⟨p, dx, _, rfl, e _ _ q2⟩, ⟨q, dy, _, rfl, e _ _ p2⟩, G, [.obj n fs, .obj n gs], d, e, .cons r1 (.cons r2 .nil), hR, fun v G' H' g e' r' => kk v G' H' (gw_of g e') r'⟩
theorem lookup_notin {ns : List Str} {vs : List V} {m : Str} (h : ns.contains m = false) : (ns.zip vs).lookup m = none := by
  induction ns generalizing vs with
  | nil => rfl
  | cons q ns ih =>
    cases vs with
    | nil => rfl
    | cons u vs =>
      have h' : (m == q) = false ∧ ns.contains m = false := by
        rw [List.contains_cons] at h
        exact Bool.or_eq_false_iff.mp h
      show List.lookup m ((q, u) :: ns.zip vs) = none
      unfold List.lookup
      rw [h'.1]
      exact ih h'.2
/-- o.m(e, ..) -/
theorem xd_meth {m : Str} {apos : Pos} {pl : Sem Bool} (ho : XD c X b st (.obj n fs) st1) (hT : c.T n = some (C, ns)) (hcl : Cls X.K C) (hm : Meth X.K C m f) (F : FnOk X.prog X.w X.K X.mg X.base CX k f fd ps (spD c.K c.T R)) (hr : Room k X.A) (hb : Binds X.K fd ps []) (hx : Passes CX X E)
    (h : XA c X (e :: es) st1 ds st2) (hR : R (.obj n fs :: ds) d) (hno : ns.contains m = false := by decide +kernel)
    (hst : starEach (e :: es) X.env = (false, eval e X.env) :: starEach es X.env := by rfl) (hpl : (backTo pos (starEach es X.env)).any (·.1) = false := by rfl)
    (ht : eval (.Call (.Attribute b m apos) (e :: es) [] pos) X.env = (do
      let ov ← eval b X.env
      standAt apos.atName
      let (f, first) ← holding [ov] (getMethod ov m pl)
      callWith pos f first (backTo pos (starEach (e :: es) X.env)) (backToKw pos (keywordEach [] X.env))) := by rfl) :
    XD c X (.Call (.Attribute b m apos) (e :: es) [] pos) st d st2 :=
  ⟨pe_weak (pe_meth ho.pe hcl hm F hr hb .nil hx h.pa hst hpl ht) fun σ H Q ⟨G, E, kk⟩ => ⟨G, E, fun x G1 H1 g1 E1 r1 => by
    obtain ⟨C1, ns1, p, dx, vs, rfl, q1, q2, q3, q4⟩ := id r1.obj_inv
    rw [hT] at q1
    cases q1
    refine ⟨p, dx, _, rfl, E1.ex _ _ q2, lookup_notin hno, G1, E1, fun ws G2 H2 g2 E2 r2 => ?_⟩
    refine ⟨G2, .obj n fs :: ds, d, E2.ex, ?_, hR, fun v G3 H3 g3 e3 r3 => kk v G3 H3 ((g1.trans g2).trans (gw_of g3 e3).gr) (E2.g1 (gw_of g3 e3)) r3⟩
    rw [List.append_nil]
    exact .cons (r1.ex g2.ex) r2⟩⟩
/-- what an __init__ promises: the attributes from the arguments -/
def spI (K : PySem.W.Frag) (T : Ct) (n : Nat) (R : List Dt → List Dt → Prop) : Sp := fun vs H Q _ => ∃ x vs' G C ns dx ds fs, vs = .ref x :: vs' ∧ T n = some (C, ns) ∧ Ex G H ∧ G x = none ∧ H x = some (.ins C dx []) ∧ Reps K T G ds vs' ∧ R ds fs ∧
  ∀ G' H' dx' ws, Gr G H G' H' (· = x) (· = x) → Ex G' H' → G' x = none → H' x = some (.ins C dx' (ns.zip ws)) → ns.length = ws.length → Reps K T G' fs ws → Q .non H'
theorem made_of {Rf : List Dt → List Dt → Prop} {vs dvs : List V} {dds : List Dt} {Q : VK} {x dx : Addr} (hT : c.T n = some (C, ns)) (E1 : En c.K c.T c.pa G H σ st) (r : Reps c.K c.T G ds vs) (hdd : ∀ G, Reps c.K c.T G dds dvs) (hR : Rf (ds ++ dds) fs)
    (hx : H x = none) (hdx : H dx = none) (hne : dx ≠ x) (k : ∀ v G' H', Gr G H G' H' (own σ st) (own σ st) → En c.K c.T c.pa G' H' σ st → Rep c.K c.T G' (.obj n fs) v → Q v H') (E0 : XK) :
    spI c.K c.T n Rf (.ref x :: (vs ++ dvs)) (upd (upd H dx (.own x)) x (.ins C dx [])) (fun v H2 => v = .non ∧ Q (.ref x) H2) E0 := by
  have e0 : Ex H (upd (upd H dx (.own x)) x (.ins C dx [])) := fun p o h => by rw [upd_ne (ne_of_none h hx), upd_ne (ne_of_none h hdx)]; exact h
  refine ⟨x, vs ++ dvs, G, C, ns, dx, ds ++ dds, fs, rfl, hT, E1.ex.trans e0, E1.ex.none hx, upd_same, r.app (hdd G), hR, fun G' H' dx' ws g e' n' l' hl r' => ⟨rfl, ?_⟩⟩
  -- the new instance is known
  have gw : Gw G H (upd G' x (.ins C dx' (ns.zip ws))) H' := by
    refine ⟨g.ex.trans (Ex.new n'), fun p o h => g.fr p o (e0 p o h) (ne_of_none h hx), fun p o h => ?_, fun p o h => ?_⟩
    · by_cases q : p = x
      · subst q; rw [upd_same] at h; cases h; exact l'
      · rw [upd_ne q] at h; exact e' p o h
    · by_cases q : p = x
      · subst q; exact .inr hx
      · rw [upd_ne q] at h
        rcases g.nw p o h with z | z | z
        · exact .inl z
        · exact .inr (e0.none z)
        · exact absurd z q
  exact k _ _ _ gw.gr (E1.g1 gw) (.obj hT upd_same hl (r'.ex (Ex.new n')))
theorem xd_make {x : Str} {p : Pos} {dds : List Dt} {dvs : List V} {dus : List Value} {Rf : List Dt → List Dt → Prop} (hT : c.T n = some (C, ns)) (M : Mk X.K C f) (F : FnOk X.prog X.w X.K X.mg X.base CX k f fd ps (spI c.K c.T n Rf)) (hr : Room (k + 1) X.A) (hm : X.mg x = some (.ref C)) (hb : Binds X.K fd ps dus) (hd : Vals dvs dus) (hdd : ∀ G, Reps c.K c.T G dds dvs) (hx : Passes CX X E)
    (h : XA c X (e :: es) st ds st1) (hR : Rf (ds ++ dds) fs) (hg : Gl X x := by rfl) (hdb : (x == ("__debug__" : Str)) = false := by decide) (he : starEach (e :: es) X.env = (false, eval e X.env) :: starEach es X.env := by rfl) (hpl : (backTo pos (starEach es X.env)).any (·.1) = false := by rfl) :
    XD c X (.Call (.Name x p) (e :: es) [] pos) st (.obj n fs) st1 :=
  ⟨pe_weak (pe_make M F hr hg hm hb hd hx h.pa hdb he hpl) fun σ H Q ⟨G, E0, kk⟩ => ⟨G, E0, fun vs G1 H1 g1 E1 r1 => fun y dx hy hdx hne =>
    made_of hT E1 r1 hdd hR hy hdx hne (fun v G' H' g E' r' => kk v G' H' (g1.trans g) E' r') E⟩⟩
/-- in an __init__: self.f = e, the next attribute -/
theorem putF_next {ns : List Str} {vs : List V} {f : Str} {v : V} (hn : ns.Nodup) (k : Nat) (hk : vs.length = k) (hf : ns[k]? = some f) : putF f v ((ns.take k).zip vs) = (ns.take (k + 1)).zip (vs ++ [v]) := by
  induction ns generalizing vs k with
  | nil => simp at hf
  | cons q ns ih =>
    cases k with
    | zero =>
      have : vs = [] := List.length_eq_zero_iff.mp hk
      subst this
      have : q = f := by simpa using hf
      subst this
      rfl
    | succ k =>
      cases vs with
      | nil => simp at hk
      | cons u vs =>
        have hf' : ns[k]? = some f := by simpa using hf
        have nq : ¬ q = f := fun z => by
          subst z
          exact (List.nodup_cons.mp hn).1 (List.mem_of_getElem? hf')
        show (if q = f then _ else (q, u) :: putF f v ((ns.take k).zip vs)) = _
        rw [if_neg nq, ih (List.nodup_cons.mp hn).2 k (by simpa using hk) hf']
        rfl
theorem xp_fldset {C : Addr} {f y : Str} {p1 p2 ppos : Pos} (he : XD c X e st d st1) (hT : c.T n = some (C, ns)) (hnd : ns.Nodup) (hcl : Cls X.K C) (hna : NoAttr X.K C f) (h0 : st1[0]? = some (some (.bo n fs))) (hf : ns[fs.length]? = some f) (hlen : fs.length < 1000 := by first | decide | simp)
    (hN : X.N[0]? = some y := by rfl) (hv : Vis X.env.scope y := by first | exact Or.inl rfl | exact Or.inr (Or.inl rfl) | exact Or.inr (Or.inr rfl)) (hd : (y == ("__debug__" : Str)) = false := by decide) (hcd : (y == ("__classdict__" : Str)) = false := by decide)
    (hs : swapsWith e (some (.Attribute (.Name y p1) f p2)) ppos.line X.env = pure false := by rfl) :
    XP c X (.Assign [.Attribute (.Name y p1) f p2] e ppos) st (.nx (st1.set 0 (some (.bo n (fs ++ [d]))))) :=
  ⟨ps_weak (ps_fld (pe_var hN hv hd hcd) he.pe hs) fun D σ H ⟨G, E, kk⟩ => ⟨G, E, fun w G1 H1 g1 E1 r1 => by
    obtain ⟨u, z1, C', ns', dx, vs, t, rfl, m1, m2, m3⟩ := E1.sl 0 _ h0
    rw [hT] at t
    cases t
    refine ⟨_, z1, c.pa 0, C, dx, _, rfl, m2, hcl, hna, ?_, ?_⟩
    · rw [List.length_zip, List.length_take]; omega
    · rw [putF_next hnd fs.length m3.length.symm hf]
      obtain ⟨g2, e2⟩ := gr_upd (a := c.pa 0) (o := .ins C dx ((ns.take (fs.length + 1)).zip (vs ++ [w]))) E1.ex m1 (by rw [m2]; simp)
      have ho : own σ st1 (c.pa 0) := ⟨0, _, h0, rfl, z1⟩
      have il : 0 < st1.length := (List.getElem?_eq_some_iff.mp h0).1
      have oth : ∀ (j : Nat) t b, j ≠ 0 → st1[j]? = some (some t) → t.isOw = true → σ[j]? = some (some (.ref b)) → b ≠ c.pa 0 := fun j t b nj h1 h2 h3 z => nj (E1.ds j 0 _ _ _ h1 h0 h2 rfl (by rw [h3, z]) z1)
      have E3 : En c.K c.T c.pa G1 (upd H1 (c.pa 0) (.ins C dx ((ns.take (fs.length + 1)).zip (vs ++ [w])))) σ (st1.set 0 (some (.bo n (fs ++ [d])))) := by
        refine ⟨e2, fun j t h => ?_, fun j k s t b h1 h2 o1 o2 h3 h4 => ?_, by rw [List.length_set]; exact E1.len⟩
        · rcases set_cases h with ⟨rfl, q, z⟩ | ⟨nj, h⟩
          · cases q
            exact ⟨_, z1, C, ns, dx, vs ++ [w], hT, rfl, m1, by rw [upd_same, List.length_append]; rfl, m3.app (.cons r1 .nil)⟩
          · obtain ⟨w', q1, q2⟩ := E1.sl j t h
            refine ⟨w', q1, ?_⟩
            cases t with
            | fr d => exact q2
            | ex _ _ _ => exact q2
            | ow zs =>
              obtain ⟨b, us, rfl, y1, y2, y3⟩ := q2
              exact ⟨b, us, rfl, y1, by rw [upd_ne (oth j _ b nj h rfl q1)]; exact y2, y3⟩
            | pr k zs =>
              obtain ⟨us, rfl, y1, y2, y3⟩ := q2
              exact ⟨us, rfl, y1, by rw [upd_ne (oth j _ _ nj h rfl q1)]; exact y2, y3⟩
            | oo F =>
              obtain ⟨b, us, rfl, y1, y2, y3⟩ := q2
              exact ⟨b, us, rfl, y1, by rw [upd_ne (oth j _ b nj h rfl q1)]; exact y2, y3⟩
            | bo mm zs =>
              obtain ⟨C2, ns2, dx2, us, t2, rfl, y1, y2, y3⟩ := q2
              exact ⟨C2, ns2, dx2, us, t2, rfl, y1, by rw [upd_ne (oth j _ _ nj h rfl q1)]; exact y2, y3⟩
        · have base : ∀ (j : Nat) t, (st1.set 0 (some (.bo n (fs ++ [d]))))[j]? = some (some t) → t.isOw = true → ∃ t', st1[j]? = some (some t') ∧ t'.isOw = true := fun j t h o => by
            rcases set_cases h with ⟨rfl, q, z⟩ | ⟨nj, h⟩
            · exact ⟨_, h0, rfl⟩
            · exact ⟨t, h, o⟩
          obtain ⟨t', q1, q2⟩ := base j s h1 o1
          obtain ⟨u', q3, q4⟩ := base k t h2 o2
          exact E1.ds j k t' u' b q1 q3 q2 q4 h3 h4
      have g3 : Gr G1 H1 G1 (upd H1 (c.pa 0) (.ins C dx ((ns.take (fs.length + 1)).zip (vs ++ [w])))) (own σ st1) (own σ (st1.set 0 (some (.bo n (fs ++ [d]))))) := by
        refine ⟨g2.ex, fun p o q => .inl q, fun p o q nn => g2.fr p o q fun z => nn (by rw [z]; exact ho), g2.al, fun p q => .inl ?_⟩
        obtain ⟨j, t, h1, h2, h3⟩ := q
        rcases set_cases h1 with ⟨rfl, q, z⟩ | ⟨nj, h1⟩
        · exact ⟨0, _, h0, rfl, h3⟩
        · exact ⟨j, t, h1, h2, h3⟩
      exact kk _ _ _ (g1.trans g3) E3⟩⟩
end
end Dv
set_option autoImplicit true
set_option maxRecDepth 100000
namespace Dv
open PySem PySem.Spec PyProof.Rows L2
variable {c : Ctx} {X : Cx} {st st1 st2 st3 st' : Store} {a b e tg iter : Expr} {es : List Expr} {d d1 d2 d' : Dt} {ds xs ys zs fs gs : List Dt} {pos : Pos} {G G' H H' : Hp} {σ σ' : L2.St} {v : V} {i j n : Nat} {body : List Stmt} {o : Out}
def st0I (N : List Str) (n : Nat) (ds : List Dt) : Store := some (.bo n []) :: (ds.map (fun d => some (.fr d)) ++ List.replicate (N.length - (ds.length + 1)) none)
theorem tail_get {m : Nat} {s : Sv} {i : Nat} (h : (ds.map (fun d => some (Sv.fr d)) ++ List.replicate m none)[i]? = some (some s)) : ∃ d, ds[i]? = some d ∧ s = .fr d := by
  by_cases q : i < ds.length
  · rw [List.getElem?_append_left (by simpa using q), List.getElem?_map] at h
    cases z : ds[i]? with
    | none => rw [z] at h; cases h
    | some d => rw [z] at h; cases h; exact ⟨d, rfl, rfl⟩
  · rw [List.getElem?_append_right (by simpa using q), List.getElem?_replicate] at h
    split at h <;> cases h
theorem En.startI {pa : Nat → Addr} {N : List Str} {vs : List V} {C dx : Addr} {ns : List Str} (hT : c.T n = some (C, ns)) (e : Ex G H) (hn : G (pa 0) = none) (hl : H (pa 0) = some (.ins C dx [])) (r : Reps c.K c.T G ds vs) : En c.K c.T pa G H (L2.start N (.ref (pa 0) :: vs)) (st0I N n ds) := by
  have e1 : L2.start N (.ref (pa 0) :: vs) = some (.ref (pa 0)) :: (vs.map some ++ List.replicate (N.length - (vs.length + 1)) none) := rfl
  rw [e1]
  refine ⟨e, fun i s h => ?_, fun i j s t a h1 h2 o1 o2 h3 h4 => ?_, by unfold st0I; simp [r.length]⟩
  · cases i with
    | zero => cases h; exact ⟨_, rfl, C, ns, dx, [], hT, rfl, hn, hl, .nil⟩
    | succ i =>
      obtain ⟨d, z, rfl⟩ := tail_get (ds := ds) (i := i) h
      obtain ⟨v, h1, h2⟩ := r.get z
      refine ⟨v, ?_, h2⟩
      have q : i < ds.length := (List.getElem?_eq_some_iff.mp z).1
      show (vs.map some ++ _)[i]? = _
      rw [List.getElem?_append_left (by rw [List.length_map, ← r.length]; exact q), List.getElem?_map, h1]; rfl
  · have z : ∀ (i : Nat) s, (st0I N n ds)[i]? = some (some s) → s.isOw = true → i = 0 := fun i s h o => by
      cases i with
      | zero => rfl
      | succ i => obtain ⟨d, z, rfl⟩ := tail_get (ds := ds) (i := i) h; cases o
    rw [z i s h1 o1, z j t h2 o2]
theorem own_startI {pa : Nat → Addr} {N : List Str} {vs : List V} {p : Addr} (h : own (L2.start N (.ref (pa 0) :: vs)) (st0I N n ds) p) : p = pa 0 := by
  obtain ⟨i, s, h1, o1, h3⟩ := h
  cases i with
  | zero => cases h3; rfl
  | succ i => obtain ⟨d, z, rfl⟩ := tail_get (ds := ds) (i := i) h1; cases o1
section
variable {P : Program} {w : World} {K : PySem.W.Frag} {T : Ct} {mg : Str → Option Value} {base : Heap} {x qual : Str} {sd : Stmt} {f : Addr} {fd : FuncData} {N ps : List Str} {k : Nat} {Rf : List Dt → List Dt → Prop} {C : Addr} {ns : List Str}
/-- the reading, once the body is shown -/
theorem initEnd {X : Cx} {sts : List Stmt} (hT : T n = some (C, ns)) (hlenR : ∀ ds fs, Rf ds fs → fs.length = ns.length) {vs : List V} {H : Hp} {Q : VK} {E : XK}
    (body : ∀ (pa : Nat → Addr) (ds fs : List Dt), Rf ds fs → ∃ st', XS ⟨K, T, pa⟩ X sts (st0I N n ds) (.nx st') ∧ st'[0]? = some (some (.bo n fs))) (h : spI K T n Rf vs H Q E) :
    ∃ t, PSs X sts t ∧ t { nx := fun _ H' => Q .non H', rt := Q } (L2.start N vs) H := by
  obtain ⟨y, vs', G, C', ns', dx, ds, fs, rfl, hT', e, hn, hl, r, hR, kk⟩ := h
  rw [hT] at hT'
  cases hT'
  obtain ⟨st', hb, hst⟩ := body (fun _ => y) ds fs hR
  refine ⟨_, hb.pss, G, En.startI (c := ⟨K, T, fun _ => y⟩) (pa := fun _ => y) hT e hn hl r, fun σ' G' H' g E' => ?_⟩
  obtain ⟨u, z1, C2, ns2, dx2, ws, t2, rfl, m1, m2, m3⟩ := E'.sl 0 _ hst
  have t3 := hT.symm.trans t2
  cases t3
  have hlf := hlenR ds fs hR
  rw [hlf, List.take_length] at m2
  refine kk G' H' dx2 ws ?_ E'.ex m1 m2 ?_ m3
  · exact ⟨g.ex, fun p o q => (g.nw p o q).imp id (Or.imp id fun z => own_startI (pa := fun _ => y) z), fun p o q nq => g.fr p o q fun z => nq (own_startI (pa := fun _ => y) z), g.al, fun p q => .inl q⟩
  · rw [← m3.length, hlf]
theorem okI (F : Fun K x qual sd f fd) (S : FnScope N ps (defScope sd)) (hT : T n = some (C, ns)) (hl : ∀ ds fs, Rf ds fs → ds.length + 1 = ps.length) (hlenR : ∀ ds fs, Rf ds fs → fs.length = ns.length)
    (body : ∀ (cdv : Value) (A : Around) (outer : List Env) (s : Shared) (H : Hp) (E : XK) (pa : Nat → Addr) (ds fs : List Dt), Room k (A.deeper (envOfC qual (defScope sd) s.heap.objs.size f cdv)) → Rf ds fs →
      ∃ st', XS ⟨K, T, pa⟩ (bX P w K mg base N qual sd f cdv A outer s H E) (defBody sd) (st0I N n ds) (.nx st') ∧ st'[0]? = some (some (.bo n fs))) : FnOk P w K mg base CX0 (k + 1) f fd ps (spI K T n Rf) := by
  refine F.ok S (fun vs H Q E h => ?_) (fun cdv A outer s H vs Q E hr h => ?_)
  · obtain ⟨y, vs', G, C', ns', dx, ds, fs, rfl, hT', e, hn, hl', r, hR, kk⟩ := h
    rw [List.length_cons, ← r.length]; exact hl ds fs hR
  · exact initEnd hT hlenR (fun pa ds fs hR => body cdv A outer s H E pa ds fs hr hR) h
end
theorem Reps.replicate {K : PySem.W.Frag} {T : Ct} {G : Hp} : ∀ (m : Nat) {ds : List Dt} {vs : List V}, Reps K T G ds vs → Reps K T G (List.replicate m ds).flatten (List.replicate m vs).flatten
  | 0, _, _, _ => .nil
  | m + 1, ds, vs, r => by
    rw [List.replicate_succ, List.replicate_succ, List.flatten_cons, List.flatten_cons]
    exact r.app (Reps.replicate m r)
/-- xs + ys -/
theorem o_cat (hz : ds.length + xs.length ≤ 100000) : Op2 c (.lst ds) (.lst xs) (.lst (ds ++ xs)) rCat := fun G H x y Q e r1 r2 kk => by
  obtain ⟨a, vs, rfl, h, r⟩ := r1.lst_inv
  obtain ⟨b, ws, rfl, h2, r2⟩ := r2.lst_inv
  exact ⟨a, b, vs, ws, rfl, rfl, e _ _ h, e _ _ h2, by rw [← r.length, ← r2.length]; exact Nat.le_trans hz (by decide), fun p hp => kk _ _ _ (Gw.new e hp) (.lst upd_same ((r.app r2).ex (Ex.new (e.none hp))))⟩
/-- list(xs) -/
theorem o_list (h : d1 = .lst ds ∨ d1 = .ro ds ∨ d1 = .tup ds) : OpN c [d1] (.lst ds) (fun xs H Q => ∃ p ys, xs = [.ref p] ∧ (SqL c.K H p ys ∨ SqT c.K H p ys) ∧ ∀ l, H l = none → Q (.ref l) (upd H l (.lst ys))) := fun G H vs Q e r kk => by
  cases r with
  | cons r r' =>
    cases r'
    rcases h with rfl | rfl | rfl
    · obtain ⟨a, vs, rfl, h, r⟩ := r.lst_inv
      exact ⟨a, vs, rfl, .inl (.inl (.inl (e _ _ h))), fun p hp => kk _ _ _ (Gw.new e hp) (.lst upd_same (r.ex (Ex.new (e.none hp))))⟩
    · obtain ⟨a, vs, rfl, h, r⟩ := r.ro_inv
      exact ⟨a, vs, rfl, .inl (e.sl h), fun p hp => kk _ _ _ (Gw.new e hp) (.lst upd_same (r.ex (Ex.new (e.none hp))))⟩
    · obtain ⟨a, vs, rfl, h, r⟩ := r.tup_inv
      exact ⟨a, vs, rfl, .inr (e.st h), fun p hp => kk _ _ _ (Gw.new e hp) (.lst upd_same (r.ex (Ex.new (e.none hp))))⟩
theorem o_lenS {x : Str} (hz : x.length ≤ 100000) : OpN c [.str x] (.int (x.length : Int)) (fun xs H Q => ∃ z, xs = [.str z] ∧ z.length ≤ sizeLine ∧ Q (.int z.length) H) := fun G H vs Q e r kk => by
  cases r with
  | cons r r' => cases r'; cases r; exact ⟨x, rfl, Nat.le_trans hz (by decide), kv_same kk e .int⟩
mutual
theorem Rep.dp {K : PySem.W.Frag} {T : Ct} {G H : Hp} (e : Ex G H) : ∀ {d : Dt} {v : V} {p : PyData}, Rep K T G d v → d.py = some p → Dp K H v p
  | _, _, _, .non, h => by cases h; exact .non
  | _, _, _, .bl, h => by cases h; exact .bl _
  | _, _, _, .int, h => by cases h; exact .int _
  | _, _, _, .str, h => by cases h; exact .str _
  | _, _, p, .lst h1 r, h => by
    unfold Dt.py at h
    cases q : Dt.pys _ with
    | none => rw [q] at h; cases h
    | some ps => rw [q] at h; cases h; exact .lst (.inl (.inl (e _ _ h1))) (Reps.dp e r q)
  | _, _, p, .ro h1 r, h => by
    unfold Dt.py at h
    cases q : Dt.pys _ with
    | none => rw [q] at h; cases h
    | some ps => rw [q] at h; cases h; exact .lst (e.sl h1) (Reps.dp e r q)
  | _, _, p, .tup h1 r, h => by
    unfold Dt.py at h
    cases q : Dt.pys _ with
    | none => rw [q] at h; cases h
    | some ps => rw [q] at h; cases h; exact .tup (e.st h1) (Reps.dp e r q)
  | _, _, _, .obj _ _ _ _, h => by cases h
theorem Reps.dp {K : PySem.W.Frag} {T : Ct} {G H : Hp} (e : Ex G H) : ∀ {ds : List Dt} {vs : List V} {ps : List PyData}, Reps K T G ds vs → Dt.pys ds = some ps → DpAll K H vs ps
  | _, _, _, .nil, h => by cases h; exact .nil
  | _, _, ps, .cons r rs, h => by
    unfold Dt.pys at h
    split at h
    · rename_i p q h1 h2
      cases h
      exact .cons (Rep.dp e r h1) (Reps.dp e rs h2)
    · cases h
end
theorem o_neD {p q : PyData} (h1 : d1.py = some p) (h2 : d2.py = some q) (s1 : SeqAt.shaped p = true) (s2 : SeqAt.shaped q = true) : Op2 c d1 d2 (.bl (!PyData.eqv p q)) (rNeD c.K) := fun G H x y Q e r1 r2 kk =>
  ⟨p, q, r1.dp e h1, r2.dp e h2, s1, s2, kv_same kk e .bl⟩
/-- what isinstance asks of an own class -/
structure ClsX (K : PySem.W.Frag) (C : Addr) : Prop where
  cl : Cls K C
  ha : PySem.W.findIn K (.ref C) "__class__" = some (some (.builtin "object.__class__"))
  hn : PySem.W.specialIn K (.builtin "object.__class__") "__get__" = some (some (.builtin "getset_descriptor.__get__"))
  tk : PySem.W.takesIn K (.builtin "object.__class__") = some true
  ob : PySem.W.mroIn K C (.type "object") = some true
inductive HasTy (c : Ctx) : Dt → Value → Prop where
  | non : HasTy c .non (.type "NoneType")
  | bl {t : Bool} : HasTy c (.bl t) (.type "bool")
  | int {k : Int} : HasTy c (.int k) (.type "int")
  | str {x : Str} : HasTy c (.str x) (.type "str")
  | lst {ws : List Dt} : HasTy c (.lst ws) (.type "list")
  | tup {ws : List Dt} : HasTy c (.tup ws) (.type "tuple")
  | obj {m : Nat} {ws : List Dt} {C : Addr} {ns : List Str} : c.T m = some (C, ns) → ClsX c.K C → HasTy c (.obj m ws) (.ref C)
theorem HasTy.tyx {t : Value} {G H : Hp} (h : HasTy c d t) (e : Ex G H) (r : Rep c.K c.T G d v) : TyX c.K H v t := by
  cases h with
  | non => cases r; exact .base .non
  | bl => cases r; exact .base (.bl _)
  | int => cases r; exact .base (.int _)
  | str => cases r; exact .base (.str _)
  | lst => obtain ⟨a, vs, rfl, h, _⟩ := r.lst_inv; exact .base (.lst (e _ _ h))
  | tup =>
    obtain ⟨a, vs, rfl, h, _⟩ := r.tup_inv
    rcases e.st h with (h | ⟨ob, h⟩) | ⟨ob, _, _, h, hc, _⟩
    · exact .base (.tup h)
    · exact .fTuple h
    · exact .kTuple h hc
  | obj t x =>
    obtain ⟨C', ns', a, dx, vs, rfl, q1, q2, _, _⟩ := r.obj_inv
    rw [t] at q1
    cases q1
    exact .base (.ins (e _ _ q2) x.cl x.ha x.hn x.tk x.ob)
theorem xd_isi {ce : Expr} {cv : V} {u t : Value} {r : Bool} {x : Str} {p : Pos} (h : XD c X e st d st1) (hc : PE X ce (tC cv)) (hu : ClsV cv u) (ht : HasTy c d t) (hk : PySem.W.kitOne X.K t u = some r) (hK : X.K = c.K) (hm : X.mg "isinstance" = none) (hg : Gl X "isinstance" := by rfl)
    (he : starEach (e :: [ce]) X.env = (false, eval e X.env) :: starEach [ce] X.env := by rfl) (he2 : starEach (ce :: []) X.env = (false, eval ce X.env) :: starEach [] X.env := by rfl) (hpl : (backTo pos (starEach [ce] X.env)).any (·.1) = false := by rfl) :
    XD c X (.Call (.Name "isinstance" p) [e, ce] [] pos) st (.bl r) st1 :=
  ⟨pe_weak (pe_callB call_isi hg hm (by decide +kernel) (pa_cons h.pe (pa_cons hc pa_nil he2) he) (by decide) (by decide) he hpl) fun σ H Q ⟨G, E, kk⟩ => ⟨G, E, fun v G1 H1 g1 E1 r1 => ⟨v, cv, t, u, r, rfl, hu, by rw [hK]; exact ht.tyx E1.ex r1, hk, kk _ G1 H1 g1 E1 .bl⟩⟩⟩
end Dv
set_option autoImplicit true
set_option maxRecDepth 100000
set_option maxHeartbeats 1000000
namespace Zk
open PySem
/-- what kind of sequence -/
inductive Kd where
  | l | t
def Kd.cls : Kd → String
  | .l => "list_iterator"
  | .t => "tuple_iterator"
def Kd.Sq : Kd → Heap → Addr → Array Value → Prop
  | .l => Heap.IsList
  | .t => Heap.IsTuple
/-- the walker at it stands ahead of the place i of the sequence at q -/
def Wk (κ : Kd) (h : Heap) (it q : Addr) (i : Nat) : Prop := ∃ o, h.get? it = some o ∧ o.cls = .type κ.cls ∧ o.data = .fields #[.ref q, .int i 0]
section
variable {prog : Program} {w : World} {A : Around} {E : Value → Shared → Prop} {s : Shared} {κ κ1 κ2 : Kd} {it q : Addr} {i : Nat} {vs : Array Value}
theorem Sq.push {h : Heap} (x : κ.Sq h q vs) (o : Obj) : κ.Sq (h.push o) q vs := by
  cases κ with
  | l => exact Heap.IsList.push x o
  | t => exact Heap.IsTuple.push x o
variable {z TI TO i1 i2 q1 q2 : Addr} {k1 k2 : Nat} {xs ys : Array Value} {x y a b : Value}
abbrev H1 (κ1 : Kd) (h : Heap) (q1 : Addr) : Heap := h.push { cls := .type κ1.cls, data := .fields #[.ref q1, .int 0 0] }
abbrev H2 (κ1 κ2 : Kd) (h : Heap) (q1 q2 : Addr) : Heap := (H1 κ1 h q1).push { cls := .type κ2.cls, data := .fields #[.ref q2, .int 0 0] }
abbrev H3 (κ1 κ2 : Kd) (h : Heap) (q1 q2 : Addr) : Heap := (H2 κ1 κ2 h q1 q2).push { cls := .type "tuple", data := .seq #[.ref h.objs.size, .ref (H1 κ1 h q1).objs.size] }
abbrev H4 (κ1 κ2 : Kd) (h : Heap) (q1 q2 : Addr) : Heap := (H3 κ1 κ2 h q1 q2).push { cls := .type "tuple", data := .seq #[.none, .none] }
abbrev H5 (κ1 κ2 : Kd) (h : Heap) (q1 q2 : Addr) : Heap := (H4 κ1 κ2 h q1 q2).push { cls := .type "zip", data := .fields #[.none, .bool false, .bool false, .ref (H2 κ1 κ2 h q1 q2).objs.size, .ref (H3 κ1 κ2 h q1 q2).objs.size] }
end
end Zk
set_option autoImplicit true
set_option maxRecDepth 100000
namespace Dv
open PySem PySem.Spec PyProof.Rows L2 Zk
variable {c : Ctx} {X : Cx} {st st1 st2 st3 st' : Store} {a b e e2 tg iter : Expr} {es : List Expr} {d d1 d2 d' : Dt} {ds xs ys zs fs gs : List Dt} {pos : Pos} {G G' H H' : Hp} {σ σ' : L2.St} {v : V} {i j n : Nat} {body : List Stmt} {o : Out}
def SqK (κ : Kd) (K : PySem.W.Frag) (H : Hp) (a : Addr) (xs : List V) : Prop := match κ with
  | .l => SqL K H a xs
  | .t => SqT K H a xs
/-- the data of a list or a tuple -/
inductive SqD : Kd → Dt → List Dt → Prop where
  | l {ws : List Dt} : SqD .l (.lst ws) ws
  | r {ws : List Dt} : SqD .l (.ro ws) ws
  | t {ws : List Dt} : SqD .t (.tup ws) ws
theorem SqD.at {κ : Kd} (h : SqD κ d ds) (r : Rep c.K c.T G d v) : ∃ a vs, v = .ref a ∧ SqK κ c.K G a vs ∧ Reps c.K c.T G ds vs := by
  cases h with
  | l => obtain ⟨a, vs, e, h, r⟩ := r.lst_inv; exact ⟨a, vs, e, .inl (.inl h), r⟩
  | r => obtain ⟨a, vs, e, h, r⟩ := r.ro_inv; exact ⟨a, vs, e, h, r⟩
  | t => obtain ⟨a, vs, e, h, r⟩ := r.tup_inv; exact ⟨a, vs, e, h, r⟩
theorem SqK.ex {κ : Kd} {K : PySem.W.Frag} {a : Addr} {vs : List V} (e : Ex G H) (h : SqK κ K G a vs) : SqK κ K H a vs := by
  cases κ with
  | l => exact e.sl h
  | t => exact e.st h
theorem zipWith_get {α β γ : Type} {f : α → β → γ} {xs : List α} {ys : List β} {i : Nat} {x : α} {y : β} (h1 : xs[i]? = some x) (h2 : ys[i]? = some y) : (List.zipWith f xs ys)[i]? = some (f x y) := by
  rw [List.getElem?_zipWith, h1, h2]
end Dv
set_option autoImplicit true
set_option maxRecDepth 100000
namespace Dv
open PySem PySem.Spec PyProof.Rows L2
variable {c : Ctx} {X : Cx} {st st1 st2 st3 st' : Store} {a b e e2 tg iter : Expr} {es : List Expr} {d d1 d2 d' : Dt} {ds xs ys zs fs gs : List Dt} {pos : Pos} {G G' H H' : Hp} {σ σ' : L2.St} {v : V} {n : Nat} {body : List Stmt} {o : Out} {i j : Int} {t : Bool}
theorem xd_add (ha : XD c X a st (.int i) st1) (hb : XD c X b st1 (.int j) st2) : XD c X (.BinOp a .Add b pos) st (.int (i + j)) st2 := xd_bin ha hb op_add (o_I0 (g := fun i j => i + j))
theorem xd_sub (ha : XD c X a st (.int i) st1) (hb : XD c X b st1 (.int j) st2) : XD c X (.BinOp a .Sub b pos) st (.int (i - j)) st2 := xd_bin ha hb op_sub (o_I0 (g := fun i j => i - j))
theorem op_mulB : OpR X (binaryOp .Mult) (rI IntMulOk fun i j => .int (i * j)) := opI fun _ _ _ _ _ _ _ hc q => mul_int q hc
theorem xd_mul (ha : XD c X a st (.int i) st1) (hb : XD c X b st1 (.int j) st2) (h : IntMulOk i j) : XD c X (.BinOp a .Mult b pos) st (.int (i * j)) st2 := xd_bin ha hb op_mulB (o_I (g := fun i j => i * j) h)
theorem xd_mod (ha : XD c X a st (.int i) st1) (hb : XD c X b st1 (.int j) st2) (h : 0 < j) : XD c X (.BinOp a .Mod b pos) st (.int (i % j)) st2 := xd_bin ha hb op_mod (o_I (g := fun i j => i % j) h)
def CDv (_ j : Int) : Prop := j ≠ 0 ∧ j.natAbs.log2 < 9000
theorem op_fdivV : OpR X (binaryOp .FloorDiv) (rI CDv fun i j => .int (i.fdiv j)) := opI fun _ _ _ _ _ _ _ hc q => floordiv_int hc.1 q (.inl (PyProof.noPylong_of_log2 hc.2))
theorem xd_fdiv (ha : XD c X a st (.int i) st1) (hb : XD c X b st1 (.int j) st2) (h : j ≠ 0) (hs : j.natAbs.log2 < 9000) : XD c X (.BinOp a .FloorDiv b pos) st (.int (i.fdiv j)) st2 := xd_bin ha hb op_fdivV (o_I (g := fun i j => i.fdiv j) ⟨h, hs⟩)
theorem xd_neg (ha : XD c X a st (.int i) st1) : XD c X (.UnaryOp .USub a pos) st (.int (-i)) st1 := xd_un ha un_neg o_neg
/-- the scalar as a value -/
def Dt.v? : Dt → Option V
  | .non => some .non
  | .bl b => some (.bl b)
  | .int i => some (.int i)
  | .str x => some (.str x)
  | _ => none
theorem Rep.v? {K : PySem.W.Frag} {T : Ct} {u : V} (h : d.v? = some u) (r : Rep K T G d v) : v = u := by
  cases r <;> first | (cases h; rfl) | cases h
theorem o_eqS {u w : V} (h1 : d1.v? = some u) (h2 : d2.v? = some w) (hs : L2.scal u w = true) (ht : decide (u = w) = t) : Op2 c d1 d2 (.bl t) rEq := fun G H x y Q e r1 r2 k => by
  rw [r1.v? h1, r2.v? h2]; exact ⟨hs, by rw [ht]; exact kv_same k e .bl⟩
theorem o_neS {u w : V} (h1 : d1.v? = some u) (h2 : d2.v? = some w) (hs : L2.scal u w = true) (ht : (!decide (u = w)) = t) : Op2 c d1 d2 (.bl t) rNe := fun G H x y Q e r1 r2 k => by
  rw [r1.v? h1, r2.v? h2]; exact ⟨hs, by rw [ht]; exact kv_same k e .bl⟩
theorem dec_I {i j : Int} : decide (V.int i = V.int j) = decide (i = j) := by
  by_cases h : i = j
  · subst h; simp
  · have : ¬ V.int i = V.int j := fun z => h (by injection z)
    rw [decide_eq_false h, decide_eq_false this]
theorem xd_len {p : Pos} (h : XD c X e st d st1) (hd : d = .lst ds ∨ d = .ro ds ∨ d = .tup ds) (hK : X.K = c.K) (hm : X.mg "len" = none) (hg : Gl X "len" := by rfl) (he : starEach (e :: []) X.env = (false, eval e X.env) :: starEach [] X.env := by rfl) (hpl : (backTo pos (starEach [] X.env)).any (·.1) = false := by rfl) :
    XD c X (.Call (.Name "len" p) [e] [] pos) st (.int (ds.length : Int)) st1 := by
  have q := o_len (c := c) hd
  rw [← hK] at q
  exact xd_callB (xa_cons h xa_nil he) call_len_seq q hm PySem.boot_len hg (by decide) (by decide) he hpl
theorem xd_lenS {x : Str} {p : Pos} (h : XD c X e st (.str x) st1) (hz : x.length ≤ 100000) (hm : X.mg "len" = none) (hg : Gl X "len" := by rfl) (he : starEach (e :: []) X.env = (false, eval e X.env) :: starEach [] X.env := by rfl) (hpl : (backTo pos (starEach [] X.env)).any (·.1) = false := by rfl) :
    XD c X (.Call (.Name "len" p) [e] [] pos) st (.int (x.length : Int)) st1 := xd_callB (xa_cons h xa_nil he) call_len_str (o_lenS hz) hm PySem.boot_len hg (by decide) (by decide) he hpl
theorem xd_intI {p : Pos} (h : XD c X e st (.int i) st1) (hm : X.mg "int" = none) (hg : Gl X "int" := by rfl) (he : starEach (e :: []) X.env = (false, eval e X.env) :: starEach [] X.env := by rfl) (hpl : (backTo pos (starEach [] X.env)).any (·.1) = false := by rfl) :
    XD c X (.Call (.Name "int" p) [e] [] pos) st (.int i) st1 := xd_callTy (xa_cons h xa_nil he) call_int1 o_int1 hm (by decide +kernel) hg (by decide) (by decide) he hpl
theorem xd_intB {p : Pos} (h : XD c X e st (.bl t) st1) (hm : X.mg "int" = none) (hg : Gl X "int" := by rfl) (he : starEach (e :: []) X.env = (false, eval e X.env) :: starEach [] X.env := by rfl) (hpl : (backTo pos (starEach [] X.env)).any (·.1) = false := by rfl) :
    XD c X (.Call (.Name "int" p) [e] [] pos) st (.int (if t then 1 else 0)) st1 := xd_callTy (xa_cons h xa_nil he) call_int1 o_intB hm (by decide +kernel) hg (by decide) (by decide) he hpl
theorem xd_abs {p : Pos} (h : XD c X e st (.int i) st1) (hm : X.mg "abs" = none) (hg : Gl X "abs" := by rfl) (he : starEach (e :: []) X.env = (false, eval e X.env) :: starEach [] X.env := by rfl) (hpl : (backTo pos (starEach [] X.env)).any (·.1) = false := by rfl) :
    XD c X (.Call (.Name "abs" p) [e] [] pos) st (.int (i.natAbs : Int)) st1 := by
  have q := xd_callB (pos := pos) (p := p) (x := "abs") (xa_cons h xa_nil he) call_abs o_abs hm (by decide +kernel) hg (by decide) (by decide) he hpl
  have e1 : (if i < 0 then -i else i) = (i.natAbs : Int) := by split <;> omega
  rw [e1] at q
  exact q
theorem xd_list {p : Pos} (h : XD c X e st d st1) (hd : d = .lst ds ∨ d = .ro ds ∨ d = .tup ds) (hK : X.K = c.K) (hm : X.mg "list" = none) (hg : Gl X "list" := by rfl) (he : starEach (e :: []) X.env = (false, eval e X.env) :: starEach [] X.env := by rfl) (hpl : (backTo pos (starEach [] X.env)).any (·.1) = false := by rfl) :
    XD c X (.Call (.Name "list" p) [e] [] pos) st (.lst ds) st1 := by
  have q := o_list (c := c) hd
  rw [← hK] at q
  exact xd_callTy (xa_cons h xa_nil he) call_list_of q hm (by decide +kernel) hg (by decide) (by decide) he hpl
/-- items -/
theorem xd_ixT {m : Nat} (ha : XD c X a st (.tup ds) st1) (hb : XD c X b st1 (.int i) st2) (hn : i = m) (hd : ds[m]? = some d) (hK : X.K = c.K) (hs : PlainIx b := by exact fun _ _ => rfl) : XD c X (.Subscript a b pos) st d st2 := by
  have q := o_ixT (c := c) hn hd
  rw [← hK] at q
  exact xd_ix ha hb ix_tup q hs
theorem xd_ixL {m : Nat} (ha : XD c X a st (.lst ds) st1) (hb : XD c X b st1 (.int i) st2) (hn : i = m) (hd : ds[m]? = some d) (hK : X.K = c.K) (hs : PlainIx b := by exact fun _ _ => rfl) : XD c X (.Subscript a b pos) st d st2 := by
  have q := o_ixL (c := c) hn hd
  rw [← hK] at q
  exact xd_ix ha hb ix_list q hs
theorem xd_ixS {x : Str} {m q : Nat} (ha : XD c X a st (.str x) st1) (hb : XD c X b st1 (.int i) st2) (hl : x.length ≤ 100000) (hn : i = m) (hd : x.cps.toList[m]? = some q) (hs : PlainIx b := by exact fun _ _ => rfl) : XD c X (.Subscript a b pos) st (.str ⟨#[q]⟩) st2 := xd_ix ha hb ix_str (o_ixS hl hn hd) hs
/-- x[e], an item -/
theorem xd_ixO (k : Nat) {s : Sv} {x : Str} {p1 : Pos} {m : Nat} (hb : XD c X b st (.int i) st1) (hk : st[k]? = some (some s)) (hk1 : st1[k]? = some (some s)) (hs : s.Has xs) (hn : i = m) (hd : xs[m]? = some d) (hN : X.N[k]? = some x := by rfl)
    (hv : Vis X.env.scope x := by first | exact Or.inl rfl | exact Or.inr (Or.inl rfl) | exact Or.inr (Or.inr rfl)) (hdb : (x == ("__debug__" : Str)) = false := by decide) (hcd : (x == ("__classdict__" : Str)) = false := by decide) (hp : PlainIx b := by exact fun _ _ => rfl) :
    XD c X (.Subscript (.Name x p1) b pos) st d st1 :=
  ⟨pe_weak (pe_ix ix_list (pe_var hN hv hdb hcd) hb.pe hp) fun σ H Q ⟨G, E, kk⟩ => by
    obtain ⟨a, ws0, z1, _⟩ := E.at hk hs
    refine ⟨_, z1, G, E, fun w G1 H1 g1 E1 r1 => ?_⟩
    obtain ⟨a', ws, y1, y2, y3, y4, _⟩ := E1.at hk1 hs
    rw [z1] at y1
    cases y1
    cases r1
    obtain ⟨u, q1, q2⟩ := y4.get hd
    exact ⟨a, ws, i, u, rfl, rfl, .inl (.inl y3), by rw [hn]; exact atI_nat q1, kk u G1 H1 g1 E1 q2⟩⟩
/-- x[e1] = e2 -/
theorem xp_setI (k : Nat) {s : Sv} {x : Str} {p1 p2 ppos : Pos} {m : Nat} (he : XD c X e st d st1) (hb : XD c X b st1 (.int i) st2) (hk1 : st1[k]? = some (some s)) (hk2 : st2[k]? = some (some s)) (hs : s.Has xs) (hn : i = m) (hm : m < xs.length) (hN : X.N[k]? = some x := by rfl)
    (hv : Vis X.env.scope x := by first | exact Or.inl rfl | exact Or.inr (Or.inl rfl) | exact Or.inr (Or.inr rfl)) (hdb : (x == ("__debug__" : Str)) = false := by decide) (hcd : (x == ("__classdict__" : Str)) = false := by decide)
    (ha : ∀ v, assign (.Subscript (.Name x p1) b p2) X.env v = (do
      let ov ← holding [v] (eval (.Name x p1) X.env)
      let iv ← holding [v, ov] (eval b X.env)
      standAt p2
      holding [v, ov, iv] (setItem ov iv v)
      release [v, ov, iv] []) := by intro _; rfl)
    (hs1 : swapsWithSole [.Subscript (.Name x p1) b p2] e ppos.line X.env = pure false := by rfl) (hw : swappedStores [.Subscript (.Name x p1) b p2] e X.env = pure none := by rfl)
    (h1 : (assignEach [.Subscript (.Name x p1) b p2] X.env).map (·.2) = [assign (.Subscript (.Name x p1) b p2) X.env] := by rfl) : XP c X (.Assign [.Subscript (.Name x p1) b p2] e ppos) st (.nx (st2.set k (some (s.with (xs.set m d))))) :=
  ⟨ps_weak (ps_asg he.pe (pg_sub (pe_var hN hv hdb hcd) hb.pe set_list ha) hs1 hw h1) fun D σ H ⟨G, E, kk⟩ => ⟨G, E, fun w G1 H1 g1 E1 r1 => by
    obtain ⟨a, ws0, z1, _⟩ := E1.at hk1 hs
    refine ⟨_, z1, G1, E1, fun u G2 H2 g2 E2 r2 => ?_⟩
    obtain ⟨a', ws, y1, y2, y3, y4, _⟩ := E2.at hk2 hs
    rw [z1] at y1
    cases y1
    cases r2
    refine ⟨a, ws, i, m, rfl, rfl, y3, ?_, ?_⟩
    · have : m < ws.length := by rw [← y4.length]; exact hm
      unfold ixN
      rw [hn, if_pos (by omega), if_pos (by omega)]; simp
    · obtain ⟨g3, e3⟩ := gr_upd (a := a) (o := .lst (ws.set m w)) E2.ex y2 (by rw [y3]; simp)
      obtain ⟨E4, g4⟩ := E2.mut hk2 hs z1 g3 e3 y2 upd_same (Reps.set (r1.ex g2.ex) m y4)
      exact kk _ _ _ ((g1.trans g2).trans g4) E4⟩⟩
end Dv
set_option autoImplicit true
set_option maxRecDepth 100000
namespace Dv
open PySem PySem.Spec PyProof.Rows L2
variable {c : Ctx} {X : Cx} {st st1 st2 st3 st' : Store} {a b e e2 e3 tg iter : Expr} {es : List Expr} {d d1 d2 d3 d' : Dt} {ds xs ys zs fs gs : List Dt} {pos : Pos} {G G' H H' : Hp} {σ σ' : L2.St} {v : V} {n : Nat} {body : List Stmt} {o : Out} {i j : Int} {t : Bool}
section
variable {CX : CXT} {k : Nat} {f C : Addr} {fd : FuncData} {ps : List Str} {E : XK} {R : List Dt → Dt → Prop} {ns : List Str}
theorem call_len_own {sp : Sp} (F : FnOk X.prog X.w X.K X.mg X.base CX k f fd ps sp) (hr : Room (k + 1) X.A) (M : OwnOp X.K C "__len__" f) (hb : Binds X.K fd ps []) (hx : Passes CX X E) :
    CallR X (.builtin "len") (fun xs H Q => ∃ p dx gs, xs = [.ref p] ∧ H p = some (.ins C dx gs) ∧ sp xs H (fun v H' => ∃ n : Int, v = .int n ∧ 0 ≤ n ∧ n < 2 ^ 63 ∧ Q (.int n) H') E) := by
  intro pins s σ H xs us Q I r h
  obtain ⟨p, dx, gs, rfl, hp, hsp⟩ := h
  obtain ⟨mA, J, _⟩ := ins_get I.hok hp
  obtain ⟨od, J, _⟩ := J.look
  obtain ⟨m, hF⟩ := I.fr
  cases r with
  | cons r0 r1 =>
    cases r1
    cases r0
    refine PySem.W.len_K hF I.ok.mod.kin J M.at_ M.fn (thn (run_in1 (vs := [.ref p]) (us := [.ref p]) F hr hb hx I (.cons rfl .nil) hsp) fun u s' z => ?_)
    obtain ⟨w, H1, I1, r, n, rfl, q1, q2, q3⟩ := z
    obtain ⟨t, rfl⟩ := r
    exact ⟨⟨q1, q2⟩, .int n, H1, I1.un Un.refl I1.hok, ⟨_, rfl⟩, q3⟩
theorem xd_lenO {p : Pos} {m : Int} (h : XD c X e st (.obj n fs) st1) (hT : c.T n = some (C, ns)) (F : FnOk X.prog X.w X.K X.mg X.base CX k f fd ps (spD c.K c.T R)) (hr : Room (k + 1) X.A) (M : OwnOp X.K C "__len__" f) (hb : Binds X.K fd ps []) (hx : Passes CX X E)
    (hR : R [.obj n fs] (.int m)) (h0 : 0 ≤ m) (h1 : m < 2 ^ 63) (hm : X.mg "len" = none) (hg : Gl X "len" := by rfl) (he : starEach (e :: []) X.env = (false, eval e X.env) :: starEach [] X.env := by rfl) (hpl : (backTo pos (starEach [] X.env)).any (·.1) = false := by rfl) :
    XD c X (.Call (.Name "len" p) [e] [] pos) st (.int m) st1 := by
  refine xd_callB (xa_cons h xa_nil he) (call_len_own (E := E) F hr M hb hx) (fun G H vs Q ex r kk => ?_) hm PySem.boot_len hg (by decide) (by decide) he hpl
  cases r with
  | cons r0 r1 =>
    cases r1
    obtain ⟨C1, ns1, q, dx, ws, rfl, q1, q2, q3, q4⟩ := id r0.obj_inv
    rw [hT] at q1
    cases q1
    refine ⟨q, dx, _, rfl, ex _ _ q2, G, [.obj n fs], _, ex, .cons r0 .nil, hR, fun v G' H' g e' r' => ?_⟩
    cases r'
    exact ⟨m, rfl, h0, h1, kk _ G' H' (gw_of g e') .int⟩
end
/-- the def x of the module keeps the promise R -/
structure DF (P : Program) (w : World) (K : PySem.W.Frag) (T : Ct) (mg : Str → Option Value) (base : Heap) (x : Str) (k : Nat) (R : List Dt → Dt → Prop) : Prop where
  ex : ∃ f fd ps, FnOk P w K mg base CX0 k f fd ps (spD K T R) ∧ mg x = some (.ref f) ∧ PySem.W.keepIn K (.ref f) = true ∧ Binds K fd ps []
theorem xd_df {x : Str} {k : Nat} {R : List Dt → Dt → Prop} {p : Pos} (F : DF X.prog X.w X.K c.T X.mg X.base x k R) (hK : X.K = c.K) (hr : Room k X.A) (h : XA c X (e :: es) st ds st1) (hR : R ds d) (hg : Gl X x := by rfl) (hdb : (x == ("__debug__" : Str)) = false := by decide) (he : starEach (e :: es) X.env = (false, eval e X.env) :: starEach es X.env := by rfl) (hpl : (backTo pos (starEach es X.env)).any (·.1) = false := by rfl) :
    XD c X (.Call (.Name x p) (e :: es) [] pos) st d st1 := by
  obtain ⟨f, fd, ps, F, hm, hk, hb⟩ := F.ex
  rw [hK] at F
  exact xd_call (dds := []) (dvs := []) (dus := []) (E := fun _ _ _ => False) (by rw [hK]; exact F) hr hm hk hb .nil (fun G => .nil) pass0 h (by rw [List.append_nil]; exact hR) hg hdb he hpl
/-- the class number n: its place, its fields, its name in the module -/
structure CF (K : PySem.W.Frag) (T : Ct) (mg : Str → Option Value) (x : Str) (n : Nat) (C : Addr) (ns : List Str) : Prop where
  at_ : T n = some (C, ns)
  cl : Cls K C
  nm : mg x = some (.ref C)
/-- its method m keeps the promise R -/
structure MF (P : Program) (w : World) (K : PySem.W.Frag) (T : Ct) (mg : Str → Option Value) (base : Heap) (C : Addr) (m : Str) (k : Nat) (R : List Dt → Dt → Prop) : Prop where
  ex : ∃ f fd ps, FnOk P w K mg base CX0 k f fd ps (spD K T R) ∧ Meth K C m f ∧ Binds K fd ps []
theorem xd_mf {m : Str} {apos : Pos} {pl : Sem Bool} {k : Nat} {R : List Dt → Dt → Prop} {x : Str} {C : Addr} {ns : List Str} (ho : XD c X b st (.obj n fs) st1) (Q : CF X.K c.T X.mg x n C ns) (F : MF X.prog X.w X.K c.T X.mg X.base C m k R) (hK : X.K = c.K) (hr : Room k X.A)
    (h : XA c X (e :: es) st1 ds st2) (hR : R (.obj n fs :: ds) d) (hno : ns.contains m = false := by decide +kernel)
    (hst : starEach (e :: es) X.env = (false, eval e X.env) :: starEach es X.env := by rfl) (hpl : (backTo pos (starEach es X.env)).any (·.1) = false := by rfl)
    (ht : eval (.Call (.Attribute b m apos) (e :: es) [] pos) X.env = (do
      let ov ← eval b X.env
      standAt apos.atName
      let (f, first) ← holding [ov] (getMethod ov m pl)
      callWith pos f first (backTo pos (starEach (e :: es) X.env)) (backToKw pos (keywordEach [] X.env))) := by rfl) :
    XD c X (.Call (.Attribute b m apos) (e :: es) [] pos) st d st2 := by
  obtain ⟨f, fd, ps, F, hm, hb⟩ := F.ex
  rw [hK] at F
  exact xd_meth (E := fun _ _ _ => False) ho Q.at_ Q.cl hm (by rw [hK]; exact F) hr hb pass0 h hR hno hst hpl ht
/-- len(o) of an own class -/
theorem xd_lenF {k : Nat} {R : List Dt → Dt → Prop} {x : Str} {C : Addr} {ns : List Str} {p : Pos} {m : Int} (h : XD c X e st (.obj n fs) st1) (Q : CF X.K c.T X.mg x n C ns) (F : MF X.prog X.w X.K c.T X.mg X.base C "__len__" k R) (hK : X.K = c.K) (hr : Room (k + 1) X.A)
    (hR : R [.obj n fs] (.int m)) (h0 : 0 ≤ m) (h1 : m < 2 ^ 63) (hm : X.mg "len" = none) (hg : Gl X "len" := by rfl) (he : starEach (e :: []) X.env = (false, eval e X.env) :: starEach [] X.env := by rfl) (hpl : (backTo pos (starEach [] X.env)).any (·.1) = false := by rfl) :
    XD c X (.Call (.Name "len" p) [e] [] pos) st (.int m) st1 := by
  obtain ⟨f, fd, ps, F, hf, hb⟩ := F.ex
  rw [hK] at F
  exact xd_lenO (E := fun _ _ _ => False) h Q.at_ (by rw [hK]; exact F) hr ⟨hf.at_, hf.fn⟩ hb pass0 hR h0 h1 hm hg he hpl
/-- a == b of an own class -/
theorem xd_eqF {k : Nat} {R : List Dt → Dt → Prop} {x : Str} {C : Addr} {ns : List Str} (ha : XD c X a st (.obj n fs) st1) (hb1 : XD c X b st1 (.obj n gs) st2) (Q : CF X.K c.T X.mg x n C ns) (F : MF X.prog X.w X.K c.T X.mg X.base C "__eq__" k R) (hK : X.K = c.K) (hr : Room k X.A)
    (hR : R [.obj n fs, .obj n gs] d) : XD c X (.Compare a [.Eq] [b] pos) st d st2 := by
  obtain ⟨f, fd, ps, F, hf, hb⟩ := F.ex
  rw [hK] at F
  refine xd_cmp ha hb1 (op_ownEq (E := fun _ _ _ => False) (sp := spD c.K c.T R) (by rw [hK]; exact F) hr ⟨hf.at_, hf.fn⟩ hb pass0) (o_ownEq (X := X) Q.at_ hR) (nomark _)
/-- the class makes objects: the promise of its __init__, with the defaults of the last arguments -/
structure IF' (P : Program) (w : World) (K : PySem.W.Frag) (T : Ct) (mg : Str → Option Value) (base : Heap) (n : Nat) (C : Addr) (dds : List Dt) (k : Nat) (Rf : List Dt → List Dt → Prop) : Prop where
  ex : ∃ f fd ps dvs dus, FnOk P w K mg base CX0 k f fd ps (spI K T n Rf) ∧ Mk K C f ∧ Binds K fd ps dus ∧ Vals dvs dus ∧ ∀ G, Reps K T G dds dvs
theorem xd_mk {k : Nat} {Rf : List Dt → List Dt → Prop} {x : Str} {C : Addr} {ns : List Str} {p : Pos} {dds : List Dt} (Q : CF X.K c.T X.mg x n C ns) (F : IF' X.prog X.w X.K c.T X.mg X.base n C dds k Rf) (hK : X.K = c.K) (hr : Room (k + 1) X.A)
    (h : XA c X (e :: es) st ds st1) (hR : Rf (ds ++ dds) fs) (hg : Gl X x := by rfl) (hdb : (x == ("__debug__" : Str)) = false := by decide) (he : starEach (e :: es) X.env = (false, eval e X.env) :: starEach es X.env := by rfl) (hpl : (backTo pos (starEach es X.env)).any (·.1) = false := by rfl) :
    XD c X (.Call (.Name x p) (e :: es) [] pos) st (.obj n fs) st1 := by
  obtain ⟨f, fd, ps, dvs, dus, F, hf, hb, hv, hd⟩ := F.ex
  rw [hK] at F
  exact xd_make (E := fun _ _ _ => False) Q.at_ hf (by rw [hK]; exact F) hr Q.nm hb hv (fun G => by rw [← hK]; exact hd G) pass0 h hR hg hdb he hpl
/-- o.f -/
theorem xd_ff (i : Nat) {x : Str} {C : Addr} {ns : List Str} {f : Str} (h : XD c X e st (.obj n fs) st1) (Q : CF X.K c.T X.mg x n C ns) (hK : X.K = c.K) (hna : NoAttr X.K C f) (hd : fs[i]? = some d := by rfl) (hi : ns.findIdx? (· == f) = some i := by decide +kernel)
    (hb : attributeBase e f X.env (eval e X.env) = eval e X.env := by rfl) : XD c X (.Attribute e f pos) st d st1 := xd_fld h hK Q.at_ Q.cl hna hi hd hb
theorem Turns.nx {s s1 s' t : Store} (hg : XG c X tg d s t) (h : XS c X body t (.nx s1)) (e : s1 = s') : Turns c X tg body d s s' := ⟨t, hg, .inl (e ▸ h)⟩
theorem Turns.ct {s s1 s' t : Store} (hg : XG c X tg d s t) (h : XS c X body t (.ct s1)) (e : s1 = s') : Turns c X tg body d s s' := ⟨t, hg, .inr (e ▸ h)⟩
theorem log2_small {j : Int} (h : 1 ≤ j) (h' : j < 2 ^ 64) : j.natAbs.log2 < 9000 := by
  have : j.natAbs.log2 < 64 := (Nat.log2_lt (by omega)).mpr (by omega)
  omega
/-- isinstance(e, a built-in type) -/
theorem xd_isTy {y : Str} {tn id : String} {p p2 : Pos} (h : XD c X e st d st1) (ht : HasTy c d (.type tn)) (hK : X.K = c.K) (hm : X.mg "isinstance" = none) (hy : X.mg y = none) (hb : bootBuiltins y = some (.type id)) (hk : PySem.W.kitOne X.K (.type tn) (.type id) = some t) (hgy : Gl X y := by rfl) (hny : y ≠ "__name__" := by decide) (hdb : (y == ("__debug__" : Str)) = false := by decide) (hg : Gl X "isinstance" := by rfl)
    (he : starEach (e :: [.Name y p2]) X.env = (false, eval e X.env) :: starEach [.Name y p2] X.env := by rfl) (he2 : starEach (.Name y p2 :: []) X.env = (false, eval (.Name y p2) X.env) :: starEach [] X.env := by rfl) (hpl : (backTo pos (starEach [.Name y p2] X.env)).any (·.1) = false := by rfl) :
    XD c X (.Call (.Name "isinstance" p) [e, .Name y p2] [] pos) st (.bl t) st1 :=
  xd_isi (x := y) (u := .type id) (cv := .ty id) h (pe_bltn hgy hy hb rfl hny hdb) (.ty _) ht hk hK hm hg he he2 hpl
/-- isinstance(e, its own class) -/
theorem xd_isOwn {y : Str} {C : Addr} {ns : List Str} {p p2 : Pos} (h : XD c X e st (.obj n fs) st1) (Q : CF X.K c.T X.mg y n C ns) (hX : ClsX X.K C) (hK : X.K = c.K) (hm : X.mg "isinstance" = none) (hgy : Gl X y := by rfl) (hdb : (y == ("__debug__" : Str)) = false := by decide) (hg : Gl X "isinstance" := by rfl)
    (he : starEach (e :: [.Name y p2]) X.env = (false, eval e X.env) :: starEach [.Name y p2] X.env := by rfl) (he2 : starEach (.Name y p2 :: []) X.env = (false, eval (.Name y p2) X.env) :: starEach [] X.env := by rfl) (hpl : (backTo pos (starEach [.Name y p2] X.env)).any (·.1) = false := by rfl) :
    XD c X (.Call (.Name "isinstance" p) [e, .Name y p2] [] pos) st (.bl true) st1 :=
  xd_isi (x := y) (u := .ref C) (cv := .ref C) h (pe_glob hgy Q.nm rfl hdb) (.own _) (.obj Q.at_ (by rw [← hK]; exact hX)) (by simp [PySem.W.kitOne]) hK hm hg he he2 hpl
end Dv
set_option autoImplicit false
set_option maxRecDepth 100000
namespace Dv
open PySem PySem.Spec PyProof.Rows L2
section
variable {c : Ctx} {X : Cx} {st st1 st2 st3 st' : Store} {a b e e2 e3 iter elt : Expr} {es : List Expr} {d d1 d2 d3 d' : Dt} {ds xs ys zs fs gs vs : List Dt} {pos : Pos} {v : V} {n : Nat} {body : List Stmt} {o : Out} {i j : Int} {t : Bool}
theorem collect_some : ∀ vs : List Dt, Dv.collect (vs.map some) = vs
  | [] => rfl
  | v :: vs => by show v :: Dv.collect (vs.map some) = _; rw [collect_some vs]
theorem set_none {s : Store} {k : Nat} (h : s[k]? = some none) (x : Option Sv) : (s.set k x).set k none = s := by
  rw [List.set_set]
  apply List.ext_getElem?
  intro i
  by_cases q : k = i
  · subst q
    rw [List.getElem?_set_self (by exact (List.getElem?_eq_some_iff.mp h).1), h]
  · rw [List.getElem?_set_ne q]
/-- [elt for x in iter], the store as it was -/
theorem xl_map1 (jx : Nat) {x : Str} {p : Pos} {scope : Scope} (vs : List Dt) (hN : X.N.Nodup) (hi : XI c X (.Name x p) iter st ds st1) (hlen : vs.length = ds.length) (hsz : ds.length ≤ 100000) (hn : st1[jx]? = some none)
    (hb : ∀ (i : Nat) d v, ds[i]? = some d → vs[i]? = some v → ∀ sh H C cl fp, XD c (BlkC X sh H scope C cl fp) elt (st1.set jx (some (.fr d))) v (st1.set jx (some (.fr d))))
    (hx : X.N[jx]? = some x := by rfl) (hloc : Loc (relabel scope X.env) x := by first | exact Or.inl rfl | exact Or.inr rfl) (hlocf : (scope.names.lookup x == some .cell) = true ∨ (relabel scope X.env).names.lookup x = some .local := by first | exact Or.inl rfl | exact Or.inr rfl) (ok : BlkOk X.N X.env.scope scope [(x, jx)] := by exact blkOk_by (by first | rfl | decide +kernel))
    (hc : X.calm = true := by rfl) (hs : ∀ x, foldedSetIterable iter X.env x = pure x := by intro _; rfl) :
    XL c X (.ListComp elt [⟨.Name x p, iter, [], 0⟩] scope pos) st vs st1 := by
  have q := xl_lc (c := c) (X := X) (elt := elt) (pos := pos) (g := gName jx) (ow := [(x, jx)]) (fun _ => st1) (vs.map some) hN hi (by rw [List.length_map, hlen]) hsz (fun i _ q hq => by
      rw [List.mem_singleton.mp hq]; exact hn) (fun i d r h1 h2 => by
      rw [List.getElem?_map] at h2
      cases hv : vs[i]? with
      | none => rw [hv] at h2; cases h2
      | some v =>
        rw [hv] at h2
        cases h2
        exact ⟨_, true, _, tgt_name, .nil, .inr ⟨rfl, v, _, rfl, (set_none hn _).symm, hb i d v h1 hv⟩⟩) (fun s H C cl fp => pg_name (X := BlkC X s H scope C cl fp) hN hx hloc hlocf) (by decide) ok hc hs
  rw [collect_some] at q
  exact q
end
end Dv
set_option autoImplicit false
set_option maxRecDepth 100000
namespace Dv
open PySem PySem.Spec PyProof.Rows L2
structure Pl (k : Nat) (d : Dt) (p : PyData) : Prop where
  py : d.py = some p
  lay : p.canLay0 = true
  dep : p.depth ≤ k
  self : PyData.eqv p p = true
structure PlL (k : Nat) (ds : List Dt) (ps : List PyData) : Prop where
  py : Dt.pys ds = some ps
  lay : PyData.canLayAll0 ps = true
  dep : PyData.depthAll ps ≤ k
  self : PyData.eqvAll ps ps = true
theorem pll_nil {k : Nat} : PlL k [] [] := ⟨rfl, rfl, by rw [PyData.depthAll.eq_1]; omega, by rw [PyData.eqvAll.eq_1]⟩
theorem pll_cons {k : Nat} {d : Dt} {p : PyData} {ds : List Dt} {ps : List PyData} (h : Pl k d p) (t : PlL k ds ps) : PlL k (d :: ds) (p :: ps) where
  py := by unfold Dt.pys; rw [h.py, t.py]
  lay := by show (p.canLay0 && PyData.canLayAll0 ps) = true; rw [h.lay, t.lay]; rfl
  dep := by rw [PyData.depthAll.eq_2]; exact Nat.max_le.mpr ⟨h.dep, t.dep⟩
  self := by rw [PyData.eqvAll.eq_2, h.self, t.self]; rfl
theorem pl_lst {k : Nat} {ds : List Dt} {ps : List PyData} (h : PlL k ds ps) : Pl (k + 1) (.lst ds) (.list ps) where
  py := by unfold Dt.py; rw [h.py]; rfl
  lay := by rw [PyData.canLay0.eq_5]; exact h.lay
  dep := by rw [PyData.depth.eq_1]; exact Nat.succ_le_succ h.dep
  self := by rw [PyData.eqv.eq_7]; exact h.self
theorem Pl.shaped {k : Nat} {d : Dt} {p : PyData} (h : Pl k d p) (hk : k ≤ 64) : SeqAt.shaped p = true := by
  show (p.canLay0 && decide (p.depth ≤ 64)) = true
  rw [h.lay, decide_eq_true (Nat.le_trans h.dep hk)]; rfl
section
variable {c : Ctx} {X : Cx} {st st1 st2 st3 st' : Store} {a b e e2 e3 iter elt : Expr} {es : List Expr} {d d1 d2 d3 d' : Dt} {ds xs ys zs fs gs vs : List Dt} {pos : Pos} {v : V} {n k m : Nat} {p q : PyData} {body : List Stmt} {o : Out} {i j : Int} {t : Bool}
theorem xt_eqF {R : List Dt → Dt → Prop} {x : Str} {C : Addr} {ns : List Str} (ha : XD c X a st (.obj n fs) st1) (hb1 : XD c X b st1 (.obj n gs) st2) (Q : CF X.K c.T X.mg x n C ns) (F : MF X.prog X.w X.K c.T X.mg X.base C "__eq__" k R) (hK : X.K = c.K) (hr : Room k X.A)
    (hR : R [.obj n fs, .obj n gs] (.bl t)) : XT c X (.Compare a [.Eq] [b] pos) st t st2 := by
  obtain ⟨f, fd, ps, F, hf, hb⟩ := F.ex
  rw [hK] at F
  refine xt_cmp ha hb1 (op_ownEq (E := fun _ _ _ => False) (sp := spD c.K c.T R) (by rw [hK]; exact F) hr ⟨hf.at_, hf.fn⟩ hb pass0) (o_ownEq (X := X) Q.at_ hR) (nomark _)
end
end Dv
set_option autoImplicit false
set_option maxRecDepth 100000
namespace Dv
open PySem PySem.Spec PyProof.Rows L2
section
variable {c : Ctx} {X : Cx} {st st1 st2 st3 st' : Store} {a b e e2 e3 tg iter elt : Expr} {es : List Expr} {d d1 d2 d3 d' : Dt} {ds xs ys zs fs gs vs : List Dt} {pos : Pos} {v : V} {n k m : Nat} {p q : PyData} {body : List Stmt} {o : Out} {i j : Int} {t : Bool} {G G' H H' : Hp} {σ σ' : L2.St}
theorem sIx_hi {m : Nat} (h : 0 ≤ j) (l : Nat) : HT.sIx l m (some j) = min j.toNat l := by
  show (if j < 0 then _ else _) = _
  rw [if_neg (by omega)]
/-- xs + ys, a value -/
theorem xd_cat (ha : XD c X a st (.lst ds) st1) (hb : XD c X b st1 (.lst xs) st2) (hz : ds.length + xs.length ≤ 100000) : XD c X (.BinOp a .Add b pos) st (.lst (ds ++ xs)) st2 := xd_bin ha hb op_cat (o_cat hz)
theorem bls_inv {K : PySem.W.Frag} {T : Ct} : ∀ {bs : List Bool} {vs : List V}, Reps K T G (bs.map .bl) vs → vs = bs.map V.bl
  | [], _, h => by cases h; rfl
  | n :: ns, _, h => by
    cases h with
    | cons r rs => cases r; rw [bls_inv rs]; rfl
theorem xd_all {bs : List Bool} {p : Pos} (h : XD c X e st (.lst (bs.map .bl)) st1) (ht : bs.all id = t) (hc : X.calm = true) (hm : X.mg "all" = none) (hg : Gl X "all" := by rfl) (he : starEach (e :: []) X.env = (false, eval e X.env) :: starEach [] X.env := by rfl) (hpl : (backTo pos (starEach [] X.env)).any (·.1) = false := by rfl) :
    XD c X (.Call (.Name "all" p) [e] [] pos) st (.bl t) st1 :=
  xd_callB (xa_cons h xa_nil he) (cr_all hc) (fun G H vs Q ex r kk => by
    cases r with
    | cons r0 r1 =>
      cases r1
      obtain ⟨a, ws, rfl, hl, r⟩ := r0.lst_inv
      rw [bls_inv r] at hl
      exact ⟨a, bs, rfl, .inl (.inl (ex _ _ hl)), by rw [ht]; exact kv_same kk ex .bl⟩) hm (by decide +kernel) hg (by decide) (by decide) he hpl
end
end Dv
set_option autoImplicit false
set_option maxRecDepth 100000
namespace Dv
open PySem PySem.Spec PyProof.Rows L2
section
variable {c : Ctx} {X : Cx} {st st1 st2 s : Store} {e : Expr} {d : Dt} {sts : List Stmt} {pos : Pos} {o : Out} {t : Bool} {G G' H H' : Hp} {σ σ' : L2.St}
/-- what is known of a name is dropped -/
theorem En.drop (E : En c.K c.T c.pa G H σ st) (k : Nat) : En c.K c.T c.pa G H σ (st.set k none) where
  ex := E.ex
  sl := fun i s h => by
    rcases set_cases h with ⟨_, q, _⟩ | ⟨_, h⟩
    · cases q
    · exact E.sl i s h
  ds := fun i j s t a h1 h2 => by
    rcases set_cases h1 with ⟨_, q, _⟩ | ⟨_, h1⟩
    · cases q
    · rcases set_cases h2 with ⟨_, q, _⟩ | ⟨_, h2⟩
      · cases q
      · exact E.ds i j s t a h1 h2
  len := by rw [List.length_set]; exact E.len
theorem own_drop {k : Nat} {p : Addr} (h : own σ (st.set k none) p) : own σ st p := by
  obtain ⟨i, s, h1, h2, h3⟩ := h
  rcases set_cases h1 with ⟨_, q, _⟩ | ⟨_, h1⟩
  · cases q
  · exact ⟨i, s, h1, h2, h3⟩
theorem XS.drop (k : Nat) (h : XS c X sts st (.nx s)) : XS c X sts st (.nx (s.set k none)) :=
  ⟨pss_weak h.pss fun D σ H ⟨G, E, kk⟩ => ⟨G, E, fun σ1 G1 H1 g1 E1 => kk σ1 G1 H1 (g1.weakO fun p h => own_drop h) (E1.drop k)⟩⟩
theorem XP.drop {s1 : Stmt} (k : Nat) (h : XP c X s1 st (.nx s)) : XP c X s1 st (.nx (s.set k none)) :=
  ⟨ps_weak h.ps fun D σ H ⟨G, E, kk⟩ => ⟨G, E, fun σ1 G1 H1 g1 E1 => kk σ1 G1 H1 (g1.weakO fun p h => own_drop h) (E1.drop k)⟩⟩
end
end Dv
set_option autoImplicit false
set_option maxRecDepth 100000
namespace Dv
open PySem PySem.Spec PyProof.Rows L2
def spL (K : PySem.W.Frag) (T : Ct) (R : List Dt → List Dt → Prop) : Sp := fun vs H Q _ => ∃ G ds xs, Ex G H ∧ Reps K T G ds vs ∧ R ds xs ∧
  ∀ p ws G' H', Gr G H G' H' (fun _ => False) (fun _ => False) → Ex G' H' → H p = none → G' p = none → H' p = some (.lst ws) → Reps K T G' xs ws → Q (.ref p) H'
/-- the def x of the module hands out a new list -/
structure DL (P : Program) (w : World) (K : PySem.W.Frag) (T : Ct) (mg : Str → Option Value) (base : Heap) (x : Str) (k : Nat) (R : List Dt → List Dt → Prop) : Prop where
  ex : ∃ f fd ps, FnOk P w K mg base CX0 k f fd ps (spL K T R) ∧ mg x = some (.ref f) ∧ PySem.W.keepIn K (.ref f) = true ∧ Binds K fd ps []
section
variable {c : Ctx} {X : Cx} {st st1 st2 s : Store} {e : Expr} {es : List Expr} {d : Dt} {ds xs : List Dt} {pos : Pos}
theorem xl_dl {x : Str} {k : Nat} {R : List Dt → List Dt → Prop} {p : Pos} (F : DL X.prog X.w X.K c.T X.mg X.base x k R) (hK : X.K = c.K) (hr : Room k X.A) (h : XA c X (e :: es) st ds st1) (hR : R ds xs) (hg : Gl X x := by rfl) (hdb : (x == ("__debug__" : Str)) = false := by decide) (he : starEach (e :: es) X.env = (false, eval e X.env) :: starEach es X.env := by rfl) (hpl : (backTo pos (starEach es X.env)).any (·.1) = false := by rfl) :
    XL c X (.Call (.Name x p) (e :: es) [] pos) st xs st1 := by
  obtain ⟨f, fd, ps, F, hm, hk, hb⟩ := F.ex
  have F' : FnOk X.prog X.w X.K X.mg X.base CX0 k f fd ps (spL c.K c.T R) := by rw [hK] at F ⊢; exact F
  have q := pe_call (p := p) (E := fun _ _ _ => False) F' hr hg hm hk hb .nil pass0 h.pa hdb he hpl
  exact ⟨pe_weak q fun σ H Q ⟨G, E, kk⟩ => ⟨G, E, fun vs G1 H1 g1 E1 r1 => ⟨G1, ds, xs, E1.ex, by rw [List.append_nil]; exact r1, hR, fun p ws G2 H2 g2 e2 hp hn hl r =>
    kk p ws G2 H2 (g1.trans (gw_of g2 e2).gr) (E1.g1 (gw_of g2 e2)) (E1.notOwn hp) (g1.none hp) hn hl r⟩⟩⟩
theorem xd_cutHiR {a b : Expr} {j : Int} (ha : XD c X a st (.ro ds) st1) (hb : XD c X b st1 (.int j) st2) (hj : 0 ≤ j) (hK : X.K = c.K) {p2 : Pos} : XD c X (.Subscript a (.Slice none (some b) none p2) pos) st (.lst (ds.take j.toNat)) st2 :=
  ⟨pe_weak (pe_slice sl_list ha.pe po_none (po_some hb.pe)) fun σ H Q ⟨G, E, kk⟩ => ⟨G, E, fun x G1 H1 g1 E1 r1 => ⟨G1, E1, fun y G2 H2 g2 E2 r2 => by
    obtain ⟨a', vs, rfl, hl, r⟩ := r1.ro_inv
    cases r2
    refine ⟨j, rfl, a', vs, rfl, by rw [hK]; exact E2.ex.sl (g2.ex.sl hl), fun p hp => ?_⟩
    have e : cutV vs none (some j) = vs.take j.toNat := by
      show List.take (HT.sIx vs.length vs.length (some j) - 0) (List.drop 0 vs) = _
      rw [sIx_hi hj, List.drop_zero, Nat.sub_zero]
      by_cases q : j.toNat ≤ vs.length
      · rw [Nat.min_eq_left q]
      · rw [Nat.min_eq_right (by omega), List.take_of_length_le (Nat.le_refl _), List.take_of_length_le (by omega)]
    rw [e]
    exact kk _ _ _ ((g1.trans g2).trans (Gw.new E2.ex hp).gr) (E2.g1 (Gw.new E2.ex hp)) (.lst upd_same ((Reps.take _ (r.ex g2.ex)).ex (Ex.new (E2.ex.none hp))))⟩⟩⟩
end
/-- the def x of the module changes the list that it gets first -/
structure DM (P : Program) (w : World) (K : PySem.W.Frag) (T : Ct) (mg : Str → Option Value) (base : Heap) (x : Str) (k : Nat) (R : List Dt → List Dt → Dt → List Dt → Prop) : Prop where
  ex : ∃ f fd ps, FnOk P w K mg base CX0 k f fd ps (spM K T R) ∧ mg x = some (.ref f) ∧ PySem.W.keepIn K (.ref f) = true ∧ Binds K fd ps []
theorem xd_dm (i : Nat) {c : Ctx} {X : Cx} {st st1 : Store} {es : List Expr} {d : Dt} {ds xs ys : List Dt} {pos : Pos} {s : Sv} {x y : Str} {k : Nat} {R : List Dt → List Dt → Dt → List Dt → Prop} {p py : Pos} (F : DM X.prog X.w X.K c.T X.mg X.base x k R) (hK : X.K = c.K) (hr : Room k X.A) (h : XA c X es st ds st1) (hi : st[i]? = some (some s)) (hi1 : st1[i]? = some (some s)) (hs : s.Has xs) (hR : R xs ds d ys) (hg : Gl X x := by rfl) (hdb : (x == ("__debug__" : Str)) = false := by decide)
    (hN : X.N[i]? = some y := by rfl) (hv : Vis X.env.scope y := by first | exact Or.inl rfl | exact Or.inr (Or.inl rfl) | exact Or.inr (Or.inr rfl)) (hd : (y == ("__debug__" : Str)) = false := by decide) (hcd : (y == ("__classdict__" : Str)) = false := by decide)
    (he : starEach (.Name y py :: es) X.env = (false, eval (.Name y py) X.env) :: starEach es X.env := by rfl) (hpl : (backTo pos (starEach es X.env)).any (·.1) = false := by rfl) :
    XD c X (.Call (.Name x p) (.Name y py :: es) [] pos) st d (st1.set i (some (s.with ys))) := by
  obtain ⟨f, fd, ps, F, hm, hk, hb⟩ := F.ex
  have F' : FnOk X.prog X.w X.K X.mg X.base CX0 k f fd ps (spM c.K c.T R) := by rw [hK] at F ⊢; exact F
  exact xd_callM i (E := fun _ _ _ => False) F' hr hm hk hb pass0 h hi hi1 hs hR hg hdb hN hv hd hcd he hpl
end Dv
set_option autoImplicit false
set_option maxRecDepth 100000
namespace Dv
open PySem PySem.Spec PyProof.Rows L2
def sx (l : List Nat) : Str := ⟨l.toArray⟩
theorem sx_len (l : List Nat) : (sx l).length = l.length := by show l.toArray.size = _; simp
theorem sx_app (a b : List Nat) : sx a ++ sx b = sx (a ++ b) := by
  show (⟨a.toArray ++ b.toArray⟩ : Str) = ⟨(a ++ b).toArray⟩
  simp
theorem sx_inj {a b : List Nat} (h : sx a = sx b) : a = b := by
  have := congrArg (fun z : Str => z.cps.toList) h
  simpa [sx] using this
section
variable {c : Ctx} {X : Cx} {st st1 st2 : Store} {a b e tg : Expr} {pos : Pos} {l m : List Nat} {i j : Int} {t : Bool}
theorem xd_addX (ha : XD c X a st (.str (sx l)) st1) (hb : XD c X b st1 (.str (sx m)) st2) (hz : l.length + m.length ≤ 100000) : XD c X (.BinOp a .Add b pos) st (.str (sx (l ++ m))) st2 := by
  have q := xd_bin (pos := pos) ha hb op_add_str (o_str (by rw [sx_len, sx_len]; exact hz))
  rw [sx_app] at q
  exact q
theorem xd_ixX {k q : Nat} (ha : XD c X a st (.str (sx l)) st1) (hb : XD c X b st1 (.int i) st2) (hl : l.length ≤ 100000) (hn : i = k) (hd : l[k]? = some q) (hs : PlainIx b := by exact fun _ _ => rfl) : XD c X (.Subscript a b pos) st (.str (sx [q])) st2 :=
  xd_ixS ha hb (by rw [sx_len]; exact hl) hn (by show l.toArray.toList[k]? = _; exact hd) hs
theorem xd_lenX {p : Pos} (h : XD c X e st (.str (sx l)) st1) (hz : l.length ≤ 100000) (hm : X.mg "len" = none) (hg : Gl X "len" := by rfl) (he : starEach (e :: []) X.env = (false, eval e X.env) :: starEach [] X.env := by rfl) (hpl : (backTo pos (starEach [] X.env)).any (·.1) = false := by rfl) :
    XD c X (.Call (.Name "len" p) [e] [] pos) st (.int (l.length : Int)) st1 := by
  have q := xd_lenS (p := p) h (by rw [sx_len]; exact hz) hm hg he hpl
  rw [sx_len] at q
  exact q
theorem xd_cutHiX (ha : XD c X a st (.str (sx l)) st1) (hb : XD c X b st1 (.int j) st2) (hj : 0 ≤ j) (hz : l.length ≤ 100000) {p2 : Pos} : XD c X (.Subscript a (.Slice none (some b) none p2) pos) st (.str (sx (l.take j.toNat))) st2 :=
  ⟨pe_weak (pe_slice sl_str ha.pe po_none (po_some hb.pe)) fun σ H Q ⟨G, E, kk⟩ => ⟨G, E, fun x G1 H1 g1 E1 r1 => ⟨G1, E1, fun y G2 H2 g2 E2 r2 => by
    cases r1
    cases r2
    refine ⟨j, rfl, sx l, rfl, by rw [sx_len]; exact Nat.le_trans hz (by decide), ?_⟩
    have e : cutS (sx l) none (some j) = sx (l.take j.toNat) := by
      show (⟨(List.take (HT.sIx (sx l).length (sx l).length (some j) - 0) (List.drop 0 l.toArray.toList)).toArray⟩ : Str) = ⟨(l.take j.toNat).toArray⟩
      rw [sIx_hi hj, sx_len, List.drop_zero, Nat.sub_zero]
      by_cases q : j.toNat ≤ l.length
      · rw [Nat.min_eq_left q]
      · rw [Nat.min_eq_right (by omega), List.take_of_length_le (Nat.le_refl _), List.take_of_length_le (by omega)]
    rw [e]
    exact kk _ _ _ (g1.trans g2) E2 .str⟩⟩⟩
theorem xd_cutLoX (ha : XD c X a st (.str (sx l)) st1) (hb : XD c X b st1 (.int j) st2) (hj : 0 ≤ j) (hz : l.length ≤ 100000) {p2 : Pos} : XD c X (.Subscript a (.Slice (some b) none none p2) pos) st (.str (sx (l.drop j.toNat))) st2 :=
  ⟨pe_weak (pe_slice sl_str ha.pe (po_some hb.pe) po_none) fun σ H Q ⟨G, E, kk⟩ => ⟨G, E, fun x G1 H1 g1 E1 r1 => ⟨G1, E1, fun y G2 H2 g2 E2 r2 => by
    cases r1
    cases r2
    refine ⟨j, rfl, sx l, rfl, by rw [sx_len]; exact Nat.le_trans hz (by decide), ?_⟩
    have e : cutS (sx l) (some j) none = sx (l.drop j.toNat) := by
      show (⟨(List.take ((sx l).length - HT.sIx (sx l).length 0 (some j)) (List.drop (HT.sIx (sx l).length 0 (some j)) l.toArray.toList)).toArray⟩ : Str) = ⟨(l.drop j.toNat).toArray⟩
      rw [sIx_hi hj, sx_len, List.take_of_length_le (by rw [List.length_drop]; show l.length - _ ≤ l.length - _; exact Nat.le_refl _)]
      by_cases q : j.toNat ≤ l.length
      · rw [Nat.min_eq_left q]
      · rw [Nat.min_eq_right (by omega), List.drop_eq_nil_of_le (Nat.le_refl _), List.drop_eq_nil_of_le (by omega)]
    rw [e]
    exact kk _ _ _ (g1.trans g2) E2 .str⟩⟩⟩
/-- for sign in text -/
theorem xi_strX (h : XD c X e st (.str (sx l)) st1) : XI c X tg e st (l.map fun q => .str (sx [q])) st1 := by
  have q := xi_str (tg := tg) h
  exact q
end
end Dv
set_option autoImplicit true
set_option maxRecDepth 100000
namespace Dv
open PySem PySem.Spec PyProof.Rows L2
structure Xn where
  C : Addr
  at_ : Option (Str × Dt) := none
def ExR (K : PySem.W.Frag) (T : Ct) (G : Hp) (x : Xn) (cls : Value) (d : Option Addr) : Prop := cls = .ref x.C ∧ match x.at_ with
  | none => d = none
  | some (f, v) => ∃ dd vv, d = some dd ∧ G dd = some (.xd [(f, vv)]) ∧ Rep K T G v vv
theorem ExR.ex {K : PySem.W.Frag} {T : Ct} {G G' : Hp} {x : Xn} {cls : Value} {d : Option Addr} (e : Ex G G') (h : ExR K T G x cls d) : ExR K T G' x cls d := by
  obtain ⟨h1, h2⟩ := h
  refine ⟨h1, ?_⟩
  cases q : x.at_ with
  | none => rw [q] at h2; exact h2
  | some p =>
    obtain ⟨f, v⟩ := p
    rw [q] at h2
    obtain ⟨dd, vv, e1, e2, e3⟩ := h2
    exact ⟨dd, vv, e1, e _ _ e2, e3.ex e⟩
variable {c : Ctx} {X : Cx} {st st1 st2 st3 st' : Store} {a b e : Expr} {es : List Expr} {d d1 d2 d' : Dt} {ds xs ys : List Dt} {pos : Pos} {G G' H H' : Hp} {σ σ' : L2.St} {W : WX} {x : Xn} {s : Stmt} {rest : List Stmt} {o : Out}
/-- an expression that raises -/
def tX (c : Ctx) (W : WX) (st : Store) (x : Xn) (st' : Store) : L2.St → Hp → Prop := fun σ H => ∃ G, En c.K c.T c.pa G H σ st ∧
  ∀ G' H' cls d, Gr G H G' H' (own σ st) (own σ st') → En c.K c.T c.pa G' H' σ st' → ExR c.K c.T G' x cls d → W cls d σ H'
structure XX (c : Ctx) (X : Cx) (W : WX) (e : Expr) (st : Store) (x : Xn) (st' : Store) : Prop where
  pe : PE X e (fun σ H _ => tX c W st x st' σ H)
/-- a statement, a block that raises -/
def tXS (c : Ctx) (W : WX) (st : Store) (x : Xn) (st' : Store) : L2.St → Hp → Prop := fun σ H => ∃ G, En c.K c.T c.pa G H σ st ∧
  ∀ σ' G' H' cls d, Gr G H G' H' (own σ st) (own σ' st') → En c.K c.T c.pa G' H' σ' st' → ExR c.K c.T G' x cls d → W cls d σ' H'
structure XPX (c : Ctx) (X : Cx) (W : WX) (s : Stmt) (st : Store) (x : Xn) (st' : Store) : Prop where
  ps : PS X s (fun _ σ H => tXS c W st x st' σ H)
structure XSX (c : Ctx) (X : Cx) (W : WX) (s : List Stmt) (st : Store) (x : Xn) (st' : Store) : Prop where
  pss : PSs X s (fun _ σ H => tXS c W st x st' σ H)
theorem tXS.from (h : ∃ G, En c.K c.T c.pa G H σ st ∧ ∀ σ' G' H' cls d, Gr G H G' H' (own σ st) (own σ' st') → En c.K c.T c.pa G' H' σ' st' → ExR c.K c.T G' x cls d → W cls d σ' H') : tXS c W st x st' σ H := h
theorem xsx_cons (h1 : XP c X s st (.nx st1)) (h2 : XSX c X W rest st1 x st') : XSX c X W (s :: rest) st x st' :=
  ⟨pss_weak (pss_cons h1.ps h2.pss) fun D σ H ⟨G, E, k⟩ => ⟨G, E, fun σ1 G1 H1 g1 E1 => ⟨G1, E1, fun σ2 G2 H2 cls d g2 E2 r => k σ2 G2 H2 cls d (g1.trans g2) E2 r⟩⟩⟩
theorem xsx_here (h1 : XPX c X W s st x st') : XSX c X W (s :: rest) st x st' :=
  ⟨pss_weak (pss_cons h1.ps pss_never') fun D σ H ⟨G, E, k⟩ => ⟨G, E, k⟩⟩
theorem xpx_if {t : Expr} {tb : Bool} {A B : List Stmt} (h : XT c X t st tb st1) (h1 : tb = true → XSX c X W A st1 x st') (h2 : tb = false → XSX c X W B st1 x st') : XPX c X W (.If t A B pos) st x st' := by
  cases tb with
  | true => exact ⟨ps_weak (ps_if h.pt (h1 rfl).pss pss_never') fun D σ H ⟨G, E, k⟩ => ⟨G, E, fun G1 H1 g1 E1 => by refine L2.iteT ?_; exact ⟨G1, E1, fun σ2 G2 H2 cls d g2 E2 r => k σ2 G2 H2 cls d (g1.trans g2) E2 r⟩⟩⟩
  | false => exact ⟨ps_weak (ps_if h.pt pss_never' (h2 rfl).pss) fun D σ H ⟨G, E, k⟩ => ⟨G, E, fun G1 H1 g1 E1 => by refine L2.iteF ?_; exact ⟨G1, E1, fun σ2 G2 H2 cls d g2 E2 r => k σ2 G2 H2 cls d (g1.trans g2) E2 r⟩⟩⟩
theorem xpx_expr (h : XX c X W e st x st') (hs : swapsWith e none pos.line X.env = pure false := by rfl) : XPX c X W (.Expr e pos) st x st' :=
  ⟨ps_weak (ps_expr h.pe hs) fun D σ H ⟨G, E, k⟩ => ⟨G, E, fun G' H' cls d g E' r => k σ G' H' cls d g E' r⟩⟩
structure Rz (K : PySem.W.Frag) (mg : Str → Option Value) (x : Str) (C : Addr) : Prop where
  nm : mg x = some (.ref C)
  ex : PySem.W.excIn K C [.type "ValueError", .type "Exception", .type "BaseException", .type "object"] "ValueError.__new__" = true
  kp : PySem.W.keepIn K (.ref C) = true
  sb : PySem.W.subIn K (.ref C) (.type "BaseException") = some true
  ty : PySem.W.typeIn K (.ref C) = some (.type "type")
theorem xpx_raise {y m : Str} {C : Addr} {j : Nat} {p p2 p3 : Pos} (R : Rz X.K X.mg y C) (hc : X.calm = true) (tk : Takes X W) (hg : Gl X y := by rfl) (hdb : (y == ("__debug__" : Str)) = false := by decide) :
    XPX c X W (.Raise (some (.Call (.Name y p) [.Constant (.str m) j p2] [] pos)) none p3) st ⟨C, none⟩ st :=
  ⟨ps_weak (ps_raise hc tk (pmk_own PySem.F.excBase_ValueError R.ex R.nm R.kp (raises_own R.sb R.ty) hg hdb)) fun D σ H ⟨G, E, k⟩ => k σ G H _ _ Gr.refl E ⟨rfl, rfl⟩⟩
def spX (K : PySem.W.Frag) (T : Ct) (R : List Dt → Xn → Prop) : Sp := fun vs H _ E => ∃ G ds x, Ex G H ∧ Reps K T G ds vs ∧ R ds x ∧
  ∀ cls d G' H', Gr G H G' H' (fun _ => False) (fun _ => False) → Ex G' H' → ExR K T G' x cls d → E cls d H'
theorem okX' {P : Program} {w : World} {K : PySem.W.Frag} {T : Ct} {mg : Str → Option Value} {base : Heap} {y qual : Str} {sd : Stmt} {f : Addr} {fd : FuncData} {N ps : List Str} {k : Nat} {R : List Dt → Xn → Prop} (F : Fun K y qual sd f fd) (S : FnScope N ps (defScope sd)) (hl : ∀ ds x, R ds x → ds.length = ps.length)
    (body : ∀ (cdv : Value) (A : Around) (outer : List Env) (s : Shared) (H : Hp) (E : XK) (pa : Nat → Addr) (ds : List Dt) (x : Xn), Room k (A.deeper (envOfC qual (defScope sd) s.heap.objs.size f cdv)) → R ds x →
      ∃ st', XSX ⟨K, T, pa⟩ (cxOf (L2.CX P w) P w K mg base N qual (defScope sd) f cdv A outer s H E) (fun cls d _ H => E cls d H) (defBody sd) (st0 N ds) x st') : FnOk P w K mg base (L2.CX P w) (k + 1) f fd ps (spX K T R) := by
  refine F.okX S (fun vs H Q E h => ?_) (fun cdv A outer s H vs Q E hr h => ?_)
  · obtain ⟨G, ds, x, e, rs, hR, _⟩ := h
    rw [← rs.length]; exact hl ds x hR
  · obtain ⟨G, ds, x, e, rs, hR, kk⟩ := h
    obtain ⟨st', hb⟩ := body cdv A outer s H E (fun _ => 0) ds x hr hR
    refine ⟨_, hb.pss, G, En.start e rs, fun σ' G' H' cls d g E' r => ?_⟩
    exact kk cls d G' H' ((g.weakO (fun p h => h.elim)).fromO fun p h => own_start h) E'.ex r
theorem sp_x {K : PySem.W.Frag} {T : Ct} {pa : Nat → Addr} {R : List Dt → Xn → Prop} {vs : List V} {Q : VK} (E : En K T pa G H σ st) (r : Reps K T G ds vs) (hR : R ds x)
    (k : ∀ G' H' cls d, Gr G H G' H' (own σ st) (own σ st) → En K T pa G' H' σ st → ExR K T G' x cls d → W cls d σ H') : spX K T R vs H Q (WE W σ) :=
  ⟨G, ds, x, E.ex, r, hR, fun cls d G' H' g e' q => by
    have w := gw_of g e'
    exact k G' H' cls d w.gr (E.g1 w) q⟩
structure MX (P : Program) (w : World) (K : PySem.W.Frag) (T : Ct) (mg : Str → Option Value) (base : Heap) (C : Addr) (m : Str) (k : Nat) (R : List Dt → Xn → Prop) : Prop where
  ex : ∃ f fd ps, FnOk P w K mg base (L2.CX P w) k f fd ps (spX K T R) ∧ Meth K C m f ∧ Binds K fd ps []
/-- o.m(e), one that raises -/
theorem xx_mx {n k : Nat} {fs : List Dt} {m : Str} {apos : Pos} {pl : Sem Bool} {R : List Dt → Xn → Prop} {y : Str} {C : Addr} {ns : List Str} (ho : XD c X b st (.obj n fs) st1) (Q : CF X.K c.T X.mg y n C ns) (F : MX X.prog X.w X.K c.T X.mg X.base C m k R) (hK : X.K = c.K) (tk : Takes X W) (hr : Room k X.A)
    (h : XA c X (e :: es) st1 ds st2) (hR : R (.obj n fs :: ds) x) (hno : ns.contains m = false := by decide +kernel) (hst : starEach (e :: es) X.env = (false, eval e X.env) :: starEach es X.env := by rfl) (hpl : (backTo pos (starEach es X.env)).any (·.1) = false := by rfl)
    (ht : eval (.Call (.Attribute b m apos) (e :: es) [] pos) X.env = (do
      let ov ← eval b X.env
      standAt apos.atName
      let (f, first) ← holding [ov] (getMethod ov m pl)
      callWith pos f first (backTo pos (starEach (e :: es) X.env)) (backToKw pos (keywordEach [] X.env))) := by rfl) :
    XX c X W (.Call (.Attribute b m apos) (e :: es) [] pos) st x st2 := by
  obtain ⟨f, fd, ps, F, M, hb⟩ := F.ex
  rw [hK] at F
  refine ⟨⟨fun pins s σ H Q' I h' => ?_⟩⟩
  obtain ⟨G, E, kk⟩ := h'
  refine PySem.W.methodCall_KW (pl := pl) (thn (ho.pe.run pins s σ H (fun u H1 => ∃ G1, Gr G H G1 H1 (own σ st) (own σ st1) ∧ En c.K c.T c.pa G1 H1 σ st1 ∧ Rep c.K c.T G1 (.obj n fs) u) I ⟨G, E, fun u G1 H1 g1 E1 r1 => ⟨G1, g1, E1, r1⟩⟩) fun u s1 ⟨xv, H1, I1, rx, G1, g1, E1, r1⟩ => ?_) ht
  obtain ⟨C1, ns1, p, dx, vs1, rfl, t1, hp, _, _⟩ := id r1.obj_inv
  have eT := Q.at_
  rw [t1] at eT
  cases eT
  obtain rfl : u = Value.ref p := rx
  refine getmeth_ok I1 (E1.ex _ _ hp) Q.cl M (lookup_notin hno) ?_
  refine PySem.W.callWith_K (first := [.ref p]) (h₀ := X.base) I.ok.mod.kin M.kp (thn (h.pa.run pos pins s1 σ H1 (fun vs H2 => ∃ G2, Gr G H G2 H2 (own σ st) (own σ st2) ∧ En c.K c.T c.pa G2 H2 σ st2 ∧ Reps c.K c.T G2 (.obj n fs :: ds) (.ref p :: vs)) I1 ⟨G1, E1, fun vs G2 H2 g2 E2 r2 => ⟨G2, g1.trans g2, E2, .cons (r1.ex g2.ex) r2⟩⟩) fun us s2 ⟨vs, H2, I2, r, G2, g2, E2, rs⟩ => ⟨I2.kIn, ?_⟩) hst hpl
  refine run_fnS (us := .ref p :: us) (vs := .ref p :: vs) (E := WE W) (by rw [hK]; exact F) hr hb (passAt tk σ) I2 (.cons rfl r) ?_
  exact sp_x E2 rs hR fun G' H' cls d g E' z => kk G' H' cls d (g2.trans g) E' z
end Dv
set_option autoImplicit true
set_option maxRecDepth 100000
namespace DvS
open PySem PySem.Spec PyProof.Rows PySem.Froz SS
theorem sub_str_set : isSubtype (.type "str") (.type "set") = pure false := by rw [isSubtype_type]; kernel_rfl
theorem sub_str_frozenset : isSubtype (.type "str") (.type "frozenset") = pure false := by rw [isSubtype_type]; kernel_rfl
section
variable {prog : Program} {w : World} {A : Around} {E : Value → Shared → Prop} {s : Shared}
theorem runD_ok {P : Program} : ∀ (cs : List Nat) (tk : Tok) (D : SD) (l : List Str), TxOk P w D l → TxOk P w (runD w cs tk D) ((cs.map sing).reverse ++ l)
  | [], _, _, _, h => h
  | c :: r, tk, D, l, h => by
    have := runD_ok (P := P) r (tk + 2) _ _ (add_ok (k := sing c) tk h)
    rw [List.map_cons, List.reverse_cons, List.append_assoc]
    exact this
set_option maxHeartbeats 3200000 in
theorem call_set_str {x : Str} {u : Tok} {Q : Value → Shared → Prop}
    (hh : A.handled = none) (ha : x.cps.all (· < 128) = true) (hd : x.cps.toList.Nodup) (hz : x.cps.toList.length < 1000)
    (h : ∀ (h' : Heap) (tk : Nat) (D : SD), h'.get? s.heap.objs.size = some (sObj "set" D) → D.2.2.fits D.1.size = true → D.1.size = x.cps.toList.length →
      (∀ b o, b < s.heap.objs.size → s.heap.get? b = some o → h'.get? b = some o) → Q (.ref s.heap.objs.size) { s with heap := h', toks := tk }) :
    wpAny (model prog w) A (call (.type "set") [.str x u]) Q E s := by
  obtain ⟨c, tl, hmro⟩ := PySem.F.called_set.mro
  have hmade := PySem.F.called_set.made
  have hsub := PySem.F.called_set.sub
  refine wpAny_call (codeAny_of_tree ?_)
  show wpAny _ _ (callAny (.type "set") _) _ _ _
  refine wpAny_pure ⟨Code.quiet_builtin _ (by decide +kernel), codeAny_builtin PySem.F.entry_type_call ?_⟩
  rw [Around.under_plain (weight_type_call_type "set" [.str x u] []) rfl]
  have h1 := PySem.F.called_set.notType
  have h2 := PySem.F.called_set.canCreate
  have hct := PySem.F.typeCall_set_1 (.str x u)
  repeat (any_goals (first | assumption | wp_step))

  refine codeAny_mono (code_set_new_1 (.str x u) (E := E) (Q₁ := fun obj s₁ => ∃ led : Bool, obj = .ref s.heap.objs.size ∧ s₁ = { s with heap := s.heap.push { cls := .type "set", dict := none, data := .set #[] 0 (.fresh 0 0 led) } }) fun led => ⟨led, rfl, rfl⟩) fun r s₁ hr => ?_
  cases r with
  | error e => exact hr
  | ok fl =>
    cases fl with
    | ret obj =>
      obtain ⟨led, rfl, rfl⟩ := hr
      have hS : (s.heap.push { cls := .type "set", dict := none, data := .set #[] 0 (.fresh 0 0 led) }).get? s.heap.objs.size = some { cls := .type "set", dict := none, data := .set #[] 0 (.fresh 0 0 led) } := Heap.get?_push_size _ rfl
      have hT : Shared.TypeIs { s with heap := s.heap.push { cls := .type "set", dict := none, data := .set #[] 0 (.fresh 0 0 led) } } (.ref s.heap.objs.size) "set" := ⟨_, hS, rfl⟩
      have hli := PySem.F.called_set.init.lookup
      have hbi := PySem.F.called_set.init.bind (.ref s.heap.objs.size)
      repeat (any_goals (first | assumption | wp_step))

      refine codeAny_mono (codeAny_call_builtin (R := wants (fun r s₂ => r = .none ∧ ∃ h' tk D, s₂ = { s with heap := h', toks := tk } ∧
          h'.get? s.heap.objs.size = some (sObj "set" D) ∧ D.2.2.fits D.1.size = true ∧ D.1.size = x.cps.toList.length ∧
          (∀ b o, b < s.heap.objs.size → s.heap.get? b = some o → h'.get? b = some o)) E) PySem.F.called_set.init.plain PySem.F.entry_set_init (check_set_init_1 hT ?_)) fun r₂ s₂ hr₂ => ?_
      · have hsls := sub_str_set
        have hslf := sub_str_frozenset
        have hne : (Value.type "str" == Value.type "dict") = false := by decide
        unfold Builtin.«set.__init__» noKeywords Builtin.Frozenset.updateFrom
        generalize hPI : pyIter = PI
        wp_walk
        subst hPI
        refine wpAny_pyIter_ascii ha ?_
        refine wpAny_bind (wpAny_runValue ?_)
        have hne2 : s.heap.objs.size ≠ (s.heap.push { cls := .type "set", dict := none, data := .set #[] 0 (.fresh 0 0 led) }).objs.size := by rw [Heap.size_push]; omega
        have g1 : ((s.heap.push { cls := .type "set", dict := none, data := .set #[] 0 (.fresh 0 0 led) }).push (itObj x u 0)).get? s.heap.objs.size = some (sObj "set" (#[], 0, .fresh 0 0 led)) := Heap.get?_push_of_some _ hS
        have g2 : ((s.heap.push { cls := .type "set", dict := none, data := .set #[] 0 (.fresh 0 0 led) }).push (itObj x u 0)).get? (s.heap.push { cls := .type "set", dict := none, data := .set #[] 0 (.fresh 0 0 led) }).objs.size = some (itObj x u 0) := Heap.get?_push_size _ rfl
        have k0 : TxOk prog w (#[], 0, SetTable.fresh 0 0 led) [] := TxOk.nil (by cases led <;> rfl)
        refine code_update (a := s.heap.objs.size) (u := u) hne2 (by simp [hh]) x.cps.toList 0 (#[], 0, .fresh 0 0 led) [] _ rfl g1 g2 k0 (fun c _ => by simp) hd (by show 0 + x.cps.toList.length < scanBound; unfold scanBound; omega) ?_
        have kk := runD_ok (P := prog) x.cps.toList s.toks (#[], 0, SetTable.fresh 0 0 led) [] k0
        generalize hX : runD w x.cps.toList s.toks (#[], 0, SetTable.fresh 0 0 led) = X at kk
        show wpAny _ _ _ _ _ _
        refine wpAny_pure ?_
        show wpAny _ _ (ret Value.none) _ _ _
        refine wpAny_pure ⟨rfl, _, _, X, rfl, ?_, kk.fit, by rw [kk.sz]; simp, fun b o hb e => ?_⟩
        · refine Heap.get?_push_of_some _ (Heap.get?_push_of_some _ ?_)
          show (two _ _ _ _ _).get? _ = _
          unfold two
          refine PySem.Heap.get?_update_of_ne _ hne2.symm ?_
          have g3 := get_upd (sObj "set" X) g1 rfl
          rw [← hX] at g3 ⊢
          exact g3
        · refine Heap.get?_push_of_some _ (Heap.get?_push_of_some _ ?_)
          show (two _ _ _ _ _).get? _ = _
          unfold two
          have n1 : b ≠ s.heap.objs.size := Nat.ne_of_lt hb
          have n2 : b ≠ (s.heap.push { cls := .type "set", dict := none, data := .set #[] 0 (.fresh 0 0 led) }).objs.size := by rw [Heap.size_push]; omega
          refine PySem.Heap.get?_update_of_ne _ (Ne.symm n2) (PySem.Heap.get?_update_of_ne _ (Ne.symm n1) ?_)
          exact Heap.get?_push_of_some _ (Heap.get?_push_of_some _ e)
      · cases r₂ with
        | error e => exact hr₂
        | ok fl₂ =>
          cases fl₂ with
          | ret r =>
            obtain ⟨rfl, h', tk, D, rfl, q1, q2, q3, hk'⟩ := hr₂
            repeat (any_goals (first | assumption | wp_step))
            exact h _ _ _ q1 q2 q3 hk'
          | _ => exact hr₂.elim
    | _ => exact hr.elim
end
end DvS
namespace Dv
open PySem PySem.Spec PyProof.Rows L2
variable {c : Ctx} {X : Cx} {st st1 st2 st3 st' : Store} {a b e : Expr} {es : List Expr} {d d1 d2 d' : Dt} {ds xs ys : List Dt} {pos : Pos}
def tLenSetX (ta : TE) : TE := fun σ H Q => ta σ H fun x H1 => ∃ z : Str, x = .str z ∧ z.cps.all (· < 128) = true ∧ z.cps.toList.Nodup ∧ z.cps.toList.length < 1000 ∧ Q (.int z.cps.toList.length) H1
theorem pe_lenSetX {a : Expr} {ta : TE} {p p2 q pos : Pos} (hc : X.calm = true) (hg : Gl X "len") (hm : X.mg "len" = none) (hg2 : Gl X "set") (hm2 : X.mg "set" = none) (ha : PE X a ta)
    (na : starEach [a] X.env = (false, eval a X.env) :: starEach [] X.env := by rfl) : PE X (.Call (.Name "len" p) [.Call (.Name "set" p2) [a] [] q] [] pos) (tLenSetX ta) := by
  refine ⟨fun pins s σ H Q I h => ?_⟩
  refine Call_ (ld_blt I hg hm boot_len ?_)
  refine PyProof.Rows.callWith_builtin1 (PyProof.Rows.args_cons ?_ rfl) rfl rfl
  refine Call_ (ld_blt I hg2 hm2 boot_set ?_)
  refine PyProof.Rows.callWith_type1 (PyProof.Rows.args_cons (thn (ha.run pins s σ H _ I h) fun v s1 ⟨x, H1, I1, r1, q1⟩ => PyProof.Rows.args_nil ?_) na) na rfl
  obtain ⟨z, rfl, h1, h2, h3, q1⟩ := q1
  obtain ⟨u, rfl⟩ := r1
  refine DvS.call_set_str (I1.ok.hd hc) h1 h2 h3 fun h' tk D g1 g2 g3 hk => ?_
  refine PyProof.Rows.args_nil ?_
  have I2 : L2.Inv X pins σ H1 { s1 with heap := h', toks := tk } := I1.kept fun b o e => hk b o (Heap.lt_size e) e
  refine call_len_set g1 ⟨rfl, rfl, rfl⟩ rfl g2 (by rw [g3]; omega) ⟨.int z.cps.toList.length, H1, I2.tok _, ⟨_, by rw [g3]⟩, q1⟩
theorem xd_lenSet {l : List Nat} {p p2 q : Pos} (h : XD c X a st (.str (sx l)) st1) (hd : l.Nodup) (hz : l.length < 1000) (hl : ∀ x ∈ l, x < 128) (hc : X.calm = true) (hm : X.mg "len" = none) (hm2 : X.mg "set" = none) (hg : Gl X "len" := by rfl) (hg2 : Gl X "set" := by rfl)
    (na : starEach [a] X.env = (false, eval a X.env) :: starEach [] X.env := by rfl) : XD c X (.Call (.Name "len" p) [.Call (.Name "set" p2) [a] [] q] [] pos) st (.int (l.length : Int)) st1 :=
  ⟨pe_weak (pe_lenSetX hc hg hm hg2 hm2 h.pe na) fun σ H Q ⟨G, E, k⟩ => ⟨G, E, fun v G1 H1 g1 E1 r1 => by
    cases r1
    exact ⟨sx l, rfl, by simpa [sx] using hl, hd, hz, k _ G1 H1 g1 E1 .int⟩⟩⟩
end Dv
set_option autoImplicit true
set_option maxRecDepth 100000
set_option maxHeartbeats 4000000
namespace Dv
open PySem PySem.Spec PyProof.Rows L2
variable {c : Ctx} {X : Cx} {st st1 st2 st3 st' : Store} {a b e : Expr} {es : List Expr} {d d1 d2 d' : Dt} {ds xs ys : List Dt} {pos : Pos}
theorem xd_tcat (ha : XD c X a st (.tup ds) st1) (hb : XD c X b st1 (.tup xs) st2) (hK : X.K = c.K) (hz : ds.length + xs.length ≤ 100000) : XD c X (.BinOp a .Add b pos) st (.tup (ds ++ xs)) st2 :=
  xd_bin ha hb op_catA fun G H x y Q e r1 r2 kk => by
    obtain ⟨l, vs, rfl, h, r⟩ := r1.tup_inv
    obtain ⟨l2, vs2, rfl, h2, r2⟩ := r2.tup_inv
    refine ⟨l, l2, vs, vs2, rfl, rfl, by rw [hK]; exact e.st h, by rw [hK]; exact e.st h2, by rw [← r.length, ← r2.length]; exact Nat.le_trans hz (by decide), fun z => ?_, fun _ z => ?_, fun _ _ p hp => ?_⟩
    · subst z
      cases r
      exact kk _ G H (Gw.refl e) (.tup h2 r2)
    · subst z
      cases r2
      exact kk _ G H (Gw.refl e) (.tup h (by rw [List.append_nil]; exact r))
    · exact kk _ _ _ (Gw.new e hp) (.tup (SqT.of upd_same) ((r.app r2).ex (Gw.new (o := .tup _) e hp).ex))
theorem xd_chain {op op' : CmpOp} {r r' : R2} {c3 : Expr} {d3 : Dt} {t u : Bool} (ha : XD c X a st d1 st) (hb : XD c X b st d2 st) (hc : XD c X c3 st d3 st) (ho : OpR X (compareOp op) r) (ho' : OpR X (compareOp op') r') (h1 : Op2 c d1 d2 (.bl t) r) (h2 : Op2 c d2 d3 (.bl u) r') (hm : lastMarks [op, op'] [b, c3] = false := by rfl) : XD c X (.Compare a [op, op'] [b, c3] pos) st (.bl (t && u)) st :=
  ⟨pe_weak (pe_chain ho ho' ha.pe hb.pe hc.pe (hm := hm)) fun σ H Q ⟨G, E, k⟩ => ⟨G, E, fun x G1 H1 g1 E1 r1 => ⟨G1, E1, fun y G2 H2 g2 E2 r2 => h1 G2 H2 x y _ E2.ex (r1.ex g2.ex) r2 fun v G3 H3 g3 r3 => by
    cases r3
    refine ⟨t, rfl, ?_⟩
    cases t with
    | true =>
      refine L2.iteT ?_
      exact ⟨G3, E2.g1 g3, fun z G4 H4 g4 E4 r4 => h2 G4 H4 y z Q E4.ex (r2.ex (g3.ex.trans g4.ex)) r4 fun v G5 H5 g5 r5 => k v G5 H5 ((((g1.trans g2).trans g3.gr).trans g4).trans g5.gr) (E4.g1 g5) (by cases r5; exact .bl)⟩
    | false =>
      refine L2.iteF ?_
      exact k _ G3 H3 ((g1.trans g2).trans g3.gr) (E2.g1 g3) .bl⟩⟩⟩
theorem lt_one {q r : Nat} : decide ([q] < [r]) = decide (q < r) := by
  by_cases h : q < r
  · rw [decide_eq_true h, decide_eq_true (List.cons_lt_cons_iff.mpr (.inl h))]
  · rw [decide_eq_false h, decide_eq_false fun z => (List.cons_lt_cons_iff.mp z).elim h fun y => absurd y.2 (by simp)]
theorem o_leX {l m : List Nat} : Op2 c (.str (sx l)) (.str (sx m)) (.bl (!decide (m < l))) (fun x y H Q => ∃ i j, x = .str i ∧ y = .str j ∧ Q (.bl (!decide (j.cps.toList < i.cps.toList))) H) := fun G H x y Q e r1 r2 k => by
  cases r1; cases r2
  exact ⟨sx l, sx m, rfl, rfl, kv_same k e .bl⟩
theorem xd_leleX {q r u : Nat} {c3 : Expr} (ha : XD c X a st (.str (sx [r])) st) (hb : XD c X b st (.str (sx [q])) st) (hc : XD c X c3 st (.str (sx [u])) st) (hm : lastMarks [.LtE, .LtE] [b, c3] = false := by rfl) : XD c X (.Compare a [.LtE, .LtE] [b, c3] pos) st (.bl (decide (r ≤ q) && decide (q ≤ u))) st := by
  have h := xd_chain (pos := pos) ha hb hc op_le_str op_le_str o_leX o_leX hm
  have e : ∀ i j : Nat, (!decide ([i] < [j])) = decide (j ≤ i) := fun i j => by
    rw [lt_one]
    by_cases z : i < j
    · rw [decide_eq_true z, decide_eq_false (by omega)]; rfl
    · rw [decide_eq_false z, decide_eq_true (by omega)]; rfl
  rw [e, e] at h
  exact h
theorem xt_notinX {q : Nat} {l : List Nat} {t : Bool} (ha : XD c X a st (.str (sx [q])) st1) (hb : XD c X b st1 (.str (sx l)) st2) (ht : (!decide (q ∈ l)) = t) (hm : behindInMarks .NotIn b = false := by rfl) : XT c X (.Compare a [.NotIn] [b] pos) st t st2 :=
  xt_cmp ha hb op_notIn_sign (fun G H x y Q e r1 r2 k => by
    cases r1; cases r2
    refine ⟨q, sx l, rfl, rfl, ?_⟩
    have := kv_same k e (.bl (b := t))
    rw [← ht] at this
    exact this) hm
end Dv
set_option autoImplicit true
set_option maxRecDepth 100000
set_option maxHeartbeats 4000000
namespace DvS
open PySem PySem.Spec PySem.StrLaws Builtin Builtin.Str
theorem occ_full (s sub : Str) (hi : Nat) : ∀ (l : List Nat) (st : Array Nat × Nat), st.fst.size = 1 → (forIn l st (occBody s sub hi 1)).run.fst = st.fst
  | [], st, h => rfl
  | a :: l, st, h => by
    rw [List.forIn_cons]
    unfold occBody
    rw [if_neg fun z => by have := z.1.1.1; omega]
    exact occ_full s sub hi l _ h
theorem occ_hit (s sub : Str) (hi k : Nat) (post : List Nat) (hk : k + sub.length ≤ hi ∧ subAt s sub k = true) : ∀ (pre : List Nat) (free : Nat), free ≤ k → (∀ i ∈ pre, ¬ (i + sub.length ≤ hi ∧ subAt s sub i = true)) →
    (forIn (pre ++ k :: post) ((#[] : Array Nat), free) (occBody s sub hi 1)).run.fst = #[k]
  | [], free, hf, _ => by
    rw [List.nil_append, List.forIn_cons]
    unfold occBody
    rw [if_pos ⟨⟨⟨by simp, hf⟩, hk.1⟩, hk.2⟩]
    exact occ_full s sub hi post _ rfl
  | a :: pre, free, hf, hp => by
    rw [List.cons_append, List.forIn_cons]
    unfold occBody
    rw [if_neg fun z => hp a (List.mem_cons_self ..) ⟨z.1.2, z.2⟩]
    exact occ_hit s sub hi k post hk pre free hf fun i hi => hp i (List.mem_cons_of_mem _ hi)
theorem find_sign (x : Str) (c k : Nat) (hk : x.cps.toList[k]? = some c) (hn : ∀ j, j < k → x.cps.toList[j]? ≠ some c) : PySem.Txt.find x ⟨#[c]⟩ = (k : Int) := by
  have hl : k < x.length := by
    obtain ⟨h, _⟩ := List.getElem?_eq_some_iff.mp hk
    simpa [Str.length] using h
  have e : List.range' 0 (x.length + 1 - 0) = List.range' 0 k ++ k :: List.range' (k + 1) (x.length - k) := by
    have e1 : x.length + 1 - 0 = k + (1 + (x.length - k)) := by omega
    rw [e1, ← List.range'_append_1, Nat.zero_add, ← List.range'_append_1]; rfl
  have h : occurrences x ⟨#[c]⟩ 0 x.length 1 = [k] := by
    rw [occ_eq, e, occ_hit x ⟨#[c]⟩ x.length k _ ((subAt_one x c k).mpr hk) (List.range' 0 k) 0 (Nat.zero_le _) fun i hi z => hn i (by simp [List.mem_range'] at hi; omega) ((subAt_one x c i).mp z)]
  unfold Txt.find
  rw [h]
end DvS
namespace Dv
open PySem PySem.Spec PyProof.Rows L2
variable {c : Ctx} {X : Cx} {st st1 st2 st3 st' : Store} {a b e : Expr} {es : List Expr} {d d1 d2 d' : Dt} {ds xs ys : List Dt} {pos apos : Pos}
theorem idx_first {l : List Nat} {q : Nat} : q ∈ l → l[l.idxOf q]? = some q ∧ ∀ j, j < l.idxOf q → l[j]? ≠ some q := by
  intro h
  have hl := List.idxOf_lt_length_of_mem h
  refine ⟨by rw [List.getElem?_eq_getElem hl, List.getElem_idxOf], fun j hj z => ?_⟩
  obtain ⟨h1, h2⟩ := List.getElem?_eq_some_iff.mp z
  have := List.not_of_lt_findIdx (p := (· == q)) (xs := l) (by exact hj)
  simp [h2] at this
theorem xd_findX {l : List Nat} {q : Nat} (ha : XD c X a st (.str (sx l)) st1) (hb : XD c X b st1 (.str (sx [q])) st2) (hq : q ∈ l)
    (hbase : attributeBase a "find" X.env (eval a X.env) = eval a X.env := by rfl)
    (hfew : ((backTo pos (starEach (b :: []) X.env)).all (fun x => !x.1) && (backToKw pos (keywordEach [] X.env)).all (fun x => x.1.isSome)
      && decide ((b :: ([] : List Expr)).length + ([] : List Keyword).length + (if ([] : List Keyword).isEmpty then 0 else 1) < 30)) = true := by rfl)
    (hline : (apos.endLine == pos.line) = true := by rfl) (hs : starEach (b :: []) X.env = (false, eval b X.env) :: starEach [] X.env := by rfl) (hplain : (backTo pos (starEach [] X.env)).any (·.1) = false := by rfl) :
    XD c X (.Call (.Attribute a "find" apos) [b] [] pos) st (.int ((l.idxOf q : Nat) : Int)) st2 :=
  ⟨pe_weak (pe_bm PySem.F.plainAttrs_str PySem.F.slot_str_find PySem.F.type_str_find mt_find ha.pe (pa_cons hb.pe pa_nil hs) hbase hfew hline hs hplain) fun σ H Q ⟨G, E, k⟩ => ⟨G, E, fun x G1 H1 g1 E1 r1 => by
    cases r1
    refine ⟨rfl, G1, E1, fun y G2 H2 g2 E2 r2 => ?_⟩
    cases r2
    refine ⟨sx l, sx [q], rfl, rfl, ?_⟩
    rw [show Txt.find (sx l) (sx [q]) = ((l.idxOf q : Nat) : Int) from DvS.find_sign (sx l) q _ (idx_first hq).1 (idx_first hq).2]
    exact k _ G2 H2 (g1.trans g2) E2 .int⟩⟩
end Dv
set_option autoImplicit true
set_option maxRecDepth 100000
set_option maxHeartbeats 4000000
namespace Dv
open PySem PySem.Spec PyProof.Rows L2
end Dv
set_option autoImplicit true
set_option maxRecDepth 100000
set_option maxHeartbeats 4000000
namespace Dv
open PySem PySem.Spec PyProof.Rows L2
end Dv
set_option autoImplicit true
set_option maxRecDepth 100000
set_option maxHeartbeats 4000000
namespace Dv
open PySem PySem.Spec PyProof.Rows L2
variable {c : Ctx} {X : Cx} {st st1 st2 st3 st' : Store} {a b e : Expr} {es : List Expr} {d d1 d2 d' : Dt} {ds xs ys fs gs : List Dt} {pos : Pos} {n m k : Nat} {r t : Bool} {G G' H H' : Hp}
def tRevX (te : TE) : TE := fun σ H Q => te σ H fun x H1 => ∃ z : Str, x = .str z ∧ z.length ≤ 100000 ∧ Q (.str ⟨z.cps.toList.reverse.toArray⟩) H1
theorem rev_all (l : List Nat) : (List.range l.length).map (fun k => l.toArray.getD (l.length - 1 - k) 0) = l.reverse := by
  apply List.ext_getElem?
  intro i
  rw [List.getElem?_map]
  by_cases h : i < l.length
  · rw [List.getElem?_range h, List.getElem?_reverse h]
    simp
    rw [List.getElem?_eq_getElem (by omega)]; simp
  · rw [List.getElem?_eq_none (by simpa using h), List.getElem?_eq_none (by simpa using h)]; rfl
theorem pe_revX {e : Expr} {te : TE} {k : Nat} {p1 p2 p3 pos : Pos} (he : PE X e te) : PE X (.Subscript e (.Slice none none (some (.UnaryOp .USub (.Constant (.int 1) k p1) p2)) p3) pos) (tRevX te) := by
  refine ⟨fun pins s σ H Q I h => ?_⟩
  refine Subscript_ (thn (he.run pins s σ H _ I h) fun v s1 ⟨x, H1, I1, r1, q1⟩ => ?_)
  obtain ⟨z, ex, hz, q⟩ := q1
  subst ex
  obtain ⟨tk, rfl⟩ := r1
  have hst : PO X (some (.UnaryOp .USub (.Constant (.int 1) k p1) p2)) (tPart (tUn (rU fun i => .int (-i)) (tC (.int 1)))) := po_some (pe_un un_neg pe_int)
  refine wpAny_Slice (thn (po_none.run pins s1 σ H1 (fun o H2 => o = none ∧ H2 = H1) I1 ⟨rfl, rfl⟩) fun vl s2 ⟨l, H2, I2, pl, el, e2⟩ => ?_)
  subst el e2
  refine thn (po_none.run pins s2 σ H2 (fun o H3 => o = none ∧ H3 = H2) I2 ⟨rfl, rfl⟩) fun vu s3 ⟨u, H3, I3, pu, eu, e3⟩ => ?_
  subst eu e3
  refine thn (hst.run pins s3 σ H3 (fun o H4 => o = some (-1) ∧ H4 = H3) I3 ⟨1, rfl, -1, rfl, rfl, rfl⟩) fun vs s4 ⟨o, H4, I4, ps, eo, e4⟩ => ?_
  subst eo e4
  have I5 : Inv X pins σ H4 { s4 with heap := s4.heap.push { cls := .type "slice", data := .fields #[vl, vu, vs] } } := I4.kept (t' := s4.toks) fun b ob q => Heap.get?_push_of_some _ q
  show wpAny (model X.prog X.w) X.A (subscriptTail e (.Slice none none (some (.UnaryOp .USub (.Constant (.int 1) k p1) p2)) p3) (.str z tk) (.ref s4.heap.objs.size)) (EP X pins σ Q) X.xe { s4 with heap := s4.heap.push { cls := .type "slice", data := .fields #[vl, vu, vs] } }
  cases pl
  cases pu
  cases ps with
  | int _ u2 =>
    refine tail_any (ops := [.str z tk, .ref s4.heap.objs.size]) (typeIs_str _ _ _) (PySem.F.slot_str_getitem.lookup) ?_ (by with_unfolding_all rfl)
    refine wpAny_getItem_str_slice (l := none) (u := none) (st := some (-1, u2)) ⟨_, Heap.get?_push_size _ rfl, rfl, rfl⟩ rfl ?_
    have e1 : ((slicePicked z none none (some (-1, u2))).filterMap (z.cps[·]?)) = z.cps.toList.reverse := by
      have e2 : slicePicked z none none (some (-1, u2)) = (List.range z.length).map fun k => z.length - 1 - k := picked_rev z.length
      rw [e2, filterMap_get _ _ (fun i hi => by
        obtain ⟨k, hk, rfl⟩ := List.mem_map.mp hi
        have hk := List.mem_range.mp hk
        have : z.length = z.cps.size := rfl
        omega), List.map_map]
      have := rev_all z.cps.toList
      rw [Array.toArray_toList, Array.length_toList] at this
      exact this
    unfold sliceMade
    rw [if_neg (by show ¬ ((-1 : Int) == 1 && _) = true; simp), e1]
    refine ⟨?_, .str ⟨z.cps.toList.reverse.toArray⟩, H4, I5.tok _, ⟨_, rfl⟩, q⟩
    have : z.length = z.cps.size := rfl
    show z.cps.toList.reverse.toArray.size ≤ sizeLine
    rw [List.size_toArray, List.length_reverse, Array.length_toList, sizeLine_eq]; omega
theorem xd_revX {l : List Nat} {k : Nat} {p1 p2 p3 : Pos} (h : XD c X e st (.str (sx l)) st1) (hz : l.length ≤ 100000) : XD c X (.Subscript e (.Slice none none (some (.UnaryOp .USub (.Constant (.int 1) k p1) p2)) p3) pos) st (.str (sx l.reverse)) st1 :=
  ⟨pe_weak (pe_revX h.pe) fun σ H Q ⟨G, E, k⟩ => ⟨G, E, fun v G1 H1 g1 E1 r1 => by
    cases r1
    exact ⟨sx l, rfl, by rw [sx_len]; exact hz, k _ G1 H1 g1 E1 .str⟩⟩⟩
end Dv
set_option autoImplicit true
set_option maxRecDepth 100000
set_option maxHeartbeats 4000000
namespace Dv
open PySem PySem.Spec PyProof.Rows L2
variable {c : Ctx} {X : Cx} {st st1 st2 st3 st' : Store} {a b e : Expr} {es : List Expr} {d d1 d2 d' : Dt} {ds xs ys fs gs : List Dt} {pos : Pos} {n m k : Nat} {r t : Bool} {G G' H H' : Hp}
theorem xt_chain {op op' : CmpOp} {r r' : R2} {c3 : Expr} {d3 : Dt} {t u : Bool} (ha : XD c X a st d1 st) (hb : XD c X b st d2 st) (hc : XD c X c3 st d3 st) (ho : OpR X (compareOp op) r) (ho' : OpR X (compareOp op') r') (h1 : Op2 c d1 d2 (.bl t) r) (h2 : Op2 c d2 d3 (.bl u) r') (hm : lastMarks [op, op'] [b, c3] = false := by rfl) : XT c X (.Compare a [op, op'] [b, c3] pos) st (t && u) st :=
  ⟨pt_weak (pt_chain ho ho' ha.pe hb.pe hc.pe (hm := hm)) fun σ H Q ⟨G, E, k⟩ => ⟨G, E, fun x G1 H1 g1 E1 r1 => ⟨G1, E1, fun y G2 H2 g2 E2 r2 => h1 G2 H2 x y _ E2.ex (r1.ex g2.ex) r2 fun v G3 H3 g3 r3 => by
    cases r3
    refine ⟨t, rfl, ?_⟩
    cases t with
    | true =>
      refine L2.iteT ?_
      exact ⟨G3, E2.g1 g3, fun z G4 H4 g4 E4 r4 => h2 G4 H4 y z _ E4.ex (r2.ex (g3.ex.trans g4.ex)) r4 fun v G5 H5 g5 r5 => by
        cases r5
        exact ⟨u, rfl, k G5 H5 ((((g1.trans g2).trans g3.gr).trans g4).trans g5.gr) (E4.g1 g5)⟩⟩
    | false =>
      refine L2.iteF ?_
      exact ⟨false, rfl, k G3 H3 ((g1.trans g2).trans g3.gr) (E2.g1 g3)⟩⟩⟩⟩
theorem xt_leleI {i j m : Int} {c3 : Expr} (ha : XD c X a st (.int i) st) (hb : XD c X b st (.int j) st) (hc : XD c X c3 st (.int m) st) (ht : (decide (i ≤ j) && decide (j ≤ m)) = t) (hm : lastMarks [.LtE, .LtE] [b, c3] = false := by rfl) : XT c X (.Compare a [.LtE, .LtE] [b, c3] pos) st t st := by
  rw [← ht]
  exact xt_chain ha hb hc op_le op_le (o_B0 (g := fun i j => decide (i ≤ j))) (o_B0 (g := fun i j => decide (i ≤ j))) hm
end Dv
set_option autoImplicit true
set_option maxRecDepth 100000
set_option maxHeartbeats 4000000
namespace DvR
open PySem PySem.W PySem.Calls PyProof.Rows PySem.HandSPX
def ia (p1 p2 : Pos) : Arguments := { posonlyargs := [], args := [{ arg := "self", annotation := none, pos := p1 }, { arg := "reason", annotation := none, pos := p2 }], vararg := none, kwonlyargs := [], kw_defaults := [], kwarg := none, defaults := [] }
def ib (q1 q2 q3 q4 : Pos) : List Stmt := [.Assign [.Attribute (.Name "self" q1) "reason" q2] (.Name "reason" q3) q4]
def is : Scope := { kind := .function, names := [(PySem.Str.ofString "self", .local), (PySem.Str.ofString "reason", .local)], isGenerator := false, isCoroutine := false, more := [] }
/-- the class at C, its __init__ at fI -/
structure Rfd (K : Frag) (mg : Str → Option Value) (C fI : Addr) : Prop where
  nm : mg "Refused" = some (.ref C)
  cl : ∃ a q N bs bm sn sub ab col dd k0 k1 k2 k3 k5, K.lookup C = some (excClassObj a q C N bs bm true sn sub ab col dd k0 k1 k2 k3 k5 "ValueError.__new__") ∧ refsVE bm = true
  sa : findIn K (.ref C) "__setattr__" = some (some (.builtin "object.__setattr__"))
  ga : findIn K (.ref C) "__getattribute__" = some (some (.builtin "BaseException.__getattribute__"))
  gg : findIn K (.ref C) "__getattr__" = some none
  na : findIn K (.ref C) "reason" = some none
  ii : findIn K (.ref C) "__init__" = some (some (.ref fI))
  ti : typeIn K (.ref fI) = some (.type "function")
  kp : keepIn K (.ref C) = true
  sb : subIn K (.ref C) (.type "BaseException") = some true
  ty : typeIn K (.ref C) = some (.type "type")
  hd : hasDictIn K C = true
  fn : ∃ (oc : Value) (od : Option Addr) (doc pm : Value) (an : Option Addr) (cdv ct kV : Value) (osl : Array (Option Value)) (p1 p2 q1 q2 q3 q4 : Pos),
    K.lookup fI = some ⟨oc, od, .func (fnOf "__init__" "Refused.__init__" (ia p1 p2) (ib q1 q2 q3 q4) is .none kV doc pm an cdv ct), osl⟩ ∧ codeIn K cdv "Refused.__init__" = true
theorem local_at {M : Model} {s : Shared} {name : Str} {scope : Scope} {L a : Addr} {cd : Value} {m : Str → Option Value} {x : Str} {pos : Pos} {v : Value} {Q : Value → Shared → Prop} {A : Around} {E : Value → Shared → Prop} (hn : s.heap.Ns L m) (hv : m x = some v) (h : Q v s)
    (hk : scope.kind = .function := by rfl) (hl : (envOfC name scope L a cd).kindOf x = some .local := by rfl) (hd : (x == ("__debug__" : Str)) = false := by decide) :
    wpAny M A (eval (.Name x pos) (envOfC name scope L a cd)) Q E s := wpAny_Name (wpAny_loadName_local hk hl hn hv h) hd
/-- behind __init__ -/
structure Born (h h' : Heap) (x C dx t1 : Addr) (v : Value) : Prop where
  kp : ∀ b o, b ≠ x → h.get? b = some o → h'.get? b = some o
  ob : h'.get? x = some { cls := .ref C, dict := some dx, data := .fields #[.ref t1, .none, .none, .none, .bool false, .none] }
  hi : h.objs.size ≤ dx
  ne : dx ≠ x
  ns : h'.Ns1 dx (fun y => if y = "reason" then some v else none)
/-- the error made -/
structure Err (h h' : Heap) (e C d : Addr) (v : Value) : Prop where
  kp : ∀ b o, h.get? b = some o → h'.get? b = some o
  nw : h.objs.size ≤ e
  ob : ∃ oe vs, h'.get? e = some oe ∧ oe.cls = .ref C ∧ oe.dict = some d ∧ oe.data = .fields vs ∧ vs[1]? = some .none
  hi : h.objs.size ≤ d
  ne : d ≠ e
  ns : h'.Ns1 d (fun y => if y = "reason" then some v else none)
section
variable {prog : Program} {w : World} {A : Around} {E : Value → Shared → Prop} {R : Result → Shared → Prop} {s : Shared} {K : Frag} {mg : Str → Option Value} {C fI : Addr}
theorem born (T : Rfd K mg C fI) {x t0 : Addr} {v : Value} (X : K.In s.heap) (hlim : s.heap.NoLimit) (hx : s.heap.get? x = some (excO C t0)) (hroom : A.depth < recursionLimit)
    (hq : ∀ h' tk dx, Born s.heap h' x C dx t0 v → R (.ok (.ret .none)) { s with heap := h', toks := tk }) :
    codeAny (model prog w) A (.call (.ref fI) ⟨[.ref x, v], []⟩) R s := by
  obtain ⟨oc, od, doc, pm, an, cdv, ct, kV, osl, p1, p2, q1, q2, q3, q4, ho, hcd⟩ := T.fn
  obtain ⟨a, q, N, bs, bm, sn, sub, ab, col, dd, k0, k1, k2, k3, k5, hC, hbm⟩ := T.cl
  have hcl : clsIn K C = some { name := a, bases := bs, mro := .ref C :: bm, ns := N, qualname := q, hasDict := true, slotNames := sn, subclasses := sub, abstract := ab, collection := col, hasDel := false } := by unfold clsIn; rw [hC] <;> rfl
  refine Att.call_fn (binds := [("self", .ref x), ("reason", v)]) X hlim ho hcd hroom (BindsTo.of_eq (by with_unfolding_all rfl)) (by with_unfolding_all rfl) (fun s₁ IC => ?_) rfl rfl rfl
  obtain ⟨h₁, tk₁, rfl⟩ := IC.toInCall.same
  have k : ∀ b o, s.heap.get? b = some o → h₁.get? b = some o := IC.toInCall.keep
  have hn := IC.toInCall.ns
  have X₁ : K.In h₁ := X.keeps k
  have hx₁ := k _ _ hx
  show wpAny _ _ (execs _ _) _ _ _
  refine wpAny_execs_cons (plainObj_wpAny_Assign_Attribute ?_)
  refine local_at (v := v) hn (by first | rfl | with_unfolding_all rfl | kernel_rfl) (local_at (v := .ref x) hn (by first | rfl | with_unfolding_all rfl | kernel_rfl) ?_)
  refine set_plain X₁ (ox := excO C t0) (od := none) ⟨hx₁, rfl, rfl, trivial⟩ T.sa ?_
  refine exc_osa X₁ hx₁ hcl (show refsVE (.ref C :: bm) = true from hbm) rfl T.na (fun h₃ tk₃ dx k₃ dn dne hx₃ hn₃ => ?_)
  show wpAny _ _ (execs _ _) _ _ _
  have z : s.heap.objs.size < h₁.objs.size := hn.lt
  exact wpAny_execs_nil (hq h₃ tk₃ dx ⟨fun b o hb e => k₃ b o hb (k b o e), hx₃, Nat.le_of_lt (Nat.lt_of_lt_of_le z dn), dne, hn₃⟩)
theorem made (T : Rfd K mg C fI) {v : Value} (X : K.In s.heap) (hlim : s.heap.NoLimit) (hroom : A.depth + 1 < recursionLimit)
    (hq : ∀ h' tk e d, Err s.heap h' e C d v → R (.ok (.ret (.ref e))) { s with heap := h', toks := tk }) :
    codeAny (model prog w) A (.call (.ref C) ⟨[v], []⟩) R s := by
  obtain ⟨a, q, N, bs, bm, sn, sub, ab, col, dd, k0, k1, k2, k3, k5, hC, hbm⟩ := T.cl
  obtain ⟨hp, g, dr, tk, os⟩ := s
  have k : ∀ b o, hp.get? b = some o → ((hp.push (kdv_tup [v])).push (excO C hp.objs.size)).get? b = some o := fun b o e => Heap.get?_push_of_some _ (Heap.get?_push_of_some _ e)
  have hget : ((hp.push (kdv_tup [v])).push (excO C hp.objs.size)).get? (hp.objs.size + 1) = some (excO C hp.objs.size) := by heap_get
  refine call_own F.excBase_ValueError (fun X => refsVE_contains X bm hbm) (X _ _ hC) (looks_findIn X T.ii) (fun self => bind_fn X self T.ti) (by rw [sizeLine_eq]; exact (by decide : 1 ≤ 16777216)) ?_
  refine born (s := ⟨(hp.push (kdv_tup [v])).push (excO C hp.objs.size), g, dr, tk, os⟩) T (X.keeps k) (hlim.keeps k) hget ?_ fun h' tk' dx ⟨k', hx, dn, dne, hns⟩ => ?_
  · show A.depth + 1 < recursionLimit
    exact hroom
  · have old : ∀ b o, hp.get? b = some o → h'.get? b = some o := fun b o e => k' b o (Nat.ne_of_lt (Nat.lt_succ_of_lt (Heap.lt_size e))) (k b o e)
    have z : hp.objs.size + 1 + 1 ≤ dx := by
      first
        | (simpa only [Heap.size_push] using dn)
        | exact dn
        | (have q := dn; rw [Heap.size_push, Heap.size_push] at q; exact q)
    exact ⟨rfl, hq h' tk' (hp.objs.size + 1) dx ⟨old, Nat.le_succ _, ⟨_, _, hx, rfl, rfl, rfl, rfl⟩, Nat.le_trans (Nat.le_trans (Nat.le_succ _) (Nat.le_succ _)) z, dne, hns⟩⟩
end
end DvR
namespace Dv
open PySem PySem.Spec PyProof.Rows L2
theorem rel_reason {v : V} {v' : Value} (r : RelV v v') (f : Str) : RelO (List.lookup f [(("reason" : Str), v)]) (if f = "reason" then some v' else none) := by
  by_cases hw : f = "reason"
  · subst hw
    rw [if_pos rfl, show List.lookup ("reason" : Str) [(("reason" : Str), v)] = some v by simp [List.lookup]]
    exact r
  · rw [if_neg hw, show List.lookup f [(("reason" : Str), v)] = none by simp [List.lookup, show (f == ("reason" : Str)) = false by simpa using hw]]
    trivial
variable {c : Ctx} {X : Cx} {st st1 st2 st3 st' : Store} {a b e : Expr} {es : List Expr} {d d1 d2 d' : Dt} {ds xs ys : List Dt} {pos : Pos} {G G' H H' : Hp} {σ σ' : L2.St} {W : WX} {x : Xn} {s : Stmt} {rest : List Stmt} {o : Out} {C fI : Addr}
def tMkR (C : Addr) (ta : TA) : L2.St → Hp → XK → Prop := fun σ H Q => ta σ H fun vs H1 => ∃ v, vs = [v] ∧ ∀ d, H1 d = none → Q (.ref C) (some d) (upd H1 d (.xd [(("reason" : Str), v)]))
theorem pmk_R {ta : TA} {p pos : Pos} {k : Nat} (T : DvR.Rfd X.K X.mg C fI) (hr : Room k X.A) (ha : PA X [a] ta) (hg : Gl X "Refused" := by rfl)
    (he : starEach (a :: []) X.env = (false, eval a X.env) :: starEach [] X.env := by rfl) (hpl : (backTo pos (starEach [] X.env)).any (·.1) = false := by rfl) :
    PMk X (.Call (.Name "Refused" p) [a] [] pos) (tMkR C ta) := by
  intro pins s σ H Q I h
  refine wpAny_Call_Name_kw (ld_glob I hg T.nm ?_)
  refine PySem.W.callWith_K (h₀ := X.base) I.ok.mod.kin T.kp (thn (ha.run pos pins s σ H _ I h) fun us s1 hh => ?_) he hpl
  obtain ⟨vs, H1, I1, r1, v, ev, q1⟩ := hh
  subst ev
  refine ⟨I1.kIn, ?_⟩
  cases r1 with
  | cons rv rn =>
    rename_i v' us'
    cases rn
    show wpAny _ _ (call (.ref C) [v']) _ _ _
    have hlim := I1.nolimit
    obtain ⟨hp, g, dr, tk, os⟩ := s1
    refine wpAny_call (DvR.made T I1.kIn hlim (by have := hr.dp; omega) fun h' tk' e d M => ?_)
    show MkP X pins σ Q (.ref e) ⟨h', g, dr, tk', os⟩
    obtain ⟨oe, fv, hoe, hc, hd, hdat, h1⟩ := M.ob
    have hns := M.ns
    obtain ⟨G', g1, g2⟩ := restrict h' fun b => decide (b ≠ e)
    have gk : ∀ b, b ≠ e → G'.get? b = h'.get? b := fun b hb => g1 b (decide_eq_true hb)
    have ge : G'.get? e = none := g2 e (by simp)
    have old : ∀ b o, hp.get? b = some o → G'.get? b = some o := fun b o q => (gk b (Nat.ne_of_lt (Nat.lt_of_lt_of_le (Heap.lt_size q) M.nw))).trans (M.kp b o q)
    have ob : ObjOk X.prog X.w (upd H1 d (.xd [(("reason" : Str), v)])) G' d (.xd [(("reason" : Str), v)]) :=
      ⟨_, hns.at (fun o q => (gk d M.ne).trans q), fun f => rel_reason rv f⟩
    have J : Inv X pins σ (upd H1 d (.xd [(("reason" : Str), v)])) ⟨G', g, dr, tk', os⟩ := I1.laid (t' := tk') old M.hi ob
    refine ⟨e, oe, fv, ⟨G', g, dr, tk', os⟩, _, .ref C, some d, rfl, J, fun b o q => ?_, ge, hoe, ⟨hc, hd⟩, hdat, h1, ?_, rfl, I1.bare, raises_own T.sb T.ty, q1 d (I1.hok.fresh M.hi)⟩
    · by_cases hb : b = e
      · have q' : G'.get? b = some o := q
        rw [hb, ge] at q'; cases q'
      · exact (gk b hb).symm.trans q
    · rw [upd_ne (Ne.symm M.ne)]
      exact I1.hok.fresh M.nw
/-- raise Refused(a) -/
theorem xpx_raiseR {p p3 : Pos} {k : Nat} (T : DvR.Rfd X.K X.mg C fI) (hc : X.calm = true) (hr : Room k X.A) (tk : Takes X W) (ha : XA c X [a] st [d] st1) (hg : Gl X "Refused" := by rfl)
    (he : starEach (a :: []) X.env = (false, eval a X.env) :: starEach [] X.env := by rfl) (hpl : (backTo pos (starEach [] X.env)).any (·.1) = false := by rfl) :
    XPX c X W (.Raise (some (.Call (.Name "Refused" p) [a] [] pos)) none p3) st ⟨C, some ("reason", d)⟩ st1 :=
  ⟨ps_weak (ps_raise hc tk (pmk_R T hr ha.pa hg he hpl)) fun D σ H ⟨G, E, k⟩ => ⟨G, E, fun vs G1 H1 g1 E1 r1 => by
    cases r1 with
    | @cons _ vv _ _ r r1 =>
      cases r1
      refine ⟨vv, rfl, fun dd hd => ?_⟩
      have w := Gw.new (o := .xd [(("reason" : Str), vv)]) E1.ex hd
      exact k σ _ _ _ _ (g1.trans w.gr) (E1.g1 w) ⟨rfl, dd, _, rfl, upd_same, r.ex w.ex⟩⟩⟩
/-- bad.reason -/
def tRsn (C : Addr) (a : Addr) (cls : Value) (d : Option Addr) (te : TE) : TE := fun σ H Q => te σ H fun x H1 => x = .ref a ∧ cls = .ref C ∧ ∃ (dd : Addr) (v : V), d = some dd ∧ H1 dd = some (.xd [(("reason" : Str), v)]) ∧ Q v H1
theorem pe_rsn {a : Addr} {oe : Obj} {cls : Value} {d : Option Addr} {pn : List (Addr × Obj)} {e : Expr} {te : TE} {pos : Pos} (T : DvR.Rfd X.K X.mg C fI) (hz : Zc cls d oe) (hf : ∃ vs, oe.data = .fields vs) (he : PE (X.suite a ((a, oe) :: pn)) e te)
    (hb : attributeBase e "reason" X.env (eval e X.env) = eval e X.env := by rfl) :
    PE (X.suite a ((a, oe) :: pn)) (.Attribute e "reason" pos) (tRsn C a cls d te) := by
  refine ⟨fun pins s σ H Q I h => ?_⟩
  refine attr_of hb (thn (he.run pins s σ H _ I h) fun u s1 hh => ?_)
  obtain ⟨x, H1, I1, rx, ex, ec, dd, v, ed, ea, q⟩ := hh
  subst ex
  obtain rfl : u = Value.ref a := rx
  subst ec
  subst ed
  obtain ⟨ha, _⟩ := I1.pin (a, oe) (List.mem_append_left _ List.mem_cons_self)
  obtain ⟨vs, hd⟩ := hf
  have hx : ObjOk X.prog X.w H1 s1.heap dd (.xd [(("reason" : Str), v)]) := I1.hok dd _ ea
  obtain ⟨mA, hns, hr⟩ := hx
  obtain ⟨od, ho, hl⟩ := lookIn_ns hns
  have l : List.lookup ("reason" : Str) [(("reason" : Str), v)] = some v := by simp [List.lookup]
  obtain ⟨u, hu, ru⟩ := RelO.some_of (v := v) (o := mA "reason") (by rw [← l]; exact hr "reason")
  have J : PySem.W.InstAt s1.heap a oe C (some od) := ⟨ha, hz.1, by unfold PySem.W.notCls; rw [hd] <;> rfl, by rw [hz.2]; exact ho⟩
  exact HandSPX.exc_get I1.kIn J T.ga T.gg T.sb (PySem.W.findObj_own T.hd T.na rfl (by rw [hl, hu])) (handed_of ru) ⟨v, H1, I1.tok _, ru, q⟩
theorem xd_rsn (i : Nat) {y : Str} {a : Addr} {oe : Obj} {dd : Option Addr} {pn : List (Addr × Obj)} {p : Pos} (T : DvR.Rfd X.K X.mg C fI) (hz : Zc (.ref C) dd oe) (hf : ∃ vs, oe.data = .fields vs) (hi : st[i]? = some (some (.ex a dd (some ("reason", d)))) := by rfl)
    (hN : X.N[i]? = some y := by rfl) (hv : Vis X.env.scope y := by first | exact Or.inl rfl | exact Or.inr (Or.inl rfl) | exact Or.inr (Or.inr rfl)) (hdb : (y == ("__debug__" : Str)) = false := by decide)
    (hcd : (y == ("__classdict__" : Str)) = false := by decide) (hb : attributeBase (.Name y p) "reason" X.env (eval (.Name y p) X.env) = eval (.Name y p) X.env := by rfl) :
    XD c (X.suite a ((a, oe) :: pn)) (.Attribute (.Name y p) "reason" pos) st d st :=
  ⟨pe_weak (pe_rsn T hz hf (pe_var hN hv hdb hcd) hb) fun σ H Q ⟨G, E, k⟩ => by
    obtain ⟨v, h1, rfl, q, vv, rfl, h2, h3⟩ := E.sl i _ hi
    exact ⟨_, h1, rfl, rfl, q, vv, rfl, E.ex _ _ h2, k _ G H Gr.refl E h3⟩⟩
end Dv
set_option autoImplicit true
set_option maxRecDepth 100000
set_option maxHeartbeats 4000000
namespace Dv
open PySem PySem.Spec PyProof.Rows L2
variable {c : Ctx} {X : Cx} {st st1 st2 st3 st' : Store} {a b e tg iter : Expr} {es : List Expr} {d d1 d2 d' : Dt} {ds xs ys : List Dt} {pos : Pos} {G G' H H' : Hp} {σ σ' : L2.St} {W : WX} {x : Xn} {s : Stmt} {rest body : List Stmt} {o : Out} {C fI : Addr}
structure ExcI (K : PySem.W.Frag) (D : Addr) : Prop where
  ic : (PySem.W.clsIn K D).isSome = true
  hg : PySem.W.findIn K (.ref D) "__getattribute__" = some (some (.builtin "BaseException.__getattribute__"))
  hk : PySem.W.findIn K (.ref D) "__getattr__" = some none
  hs : PySem.W.subIn K (.ref D) (.type "BaseException") = some true
  ha : PySem.W.findIn K (.ref D) "__class__" = some (some (.builtin "object.__class__"))
  hn : PySem.W.specialIn K (.builtin "object.__class__") "__get__" = some (some (.builtin "getset_descriptor.__get__"))
  ht : PySem.W.takesIn K (.builtin "object.__class__") = some true
  hm : PySem.W.mroIn K D (.type "object") = some true
def rIsX (K : PySem.W.Frag) (D a : Addr) (dd : Option Addr) : List V → Hp → VK → Prop := fun xs H Q => ∃ (c : V) (cv : Value) (b : Bool), xs = [.ref a, c] ∧ (∀ u, RelV c u → u = cv) ∧ PySem.W.kitOne K (.ref D) cv = some b ∧
  (dd = none ∨ ∃ p f v, dd = some p ∧ H p = some (.xd [(f, v)])) ∧ Q (.bl b) H
theorem call_isX {a D : Addr} {oe : Obj} {pn : List (Addr × Obj)} {dd : Option Addr} (C : ExcI X.K D) (hz : Zc (.ref D) dd oe) (hf : ∃ vs, oe.data = .fields vs) : CallR (X.suite a ((a, oe) :: pn)) (.builtin "isinstance") (rIsX X.K D a dd) := by
  intro pins s σ H xs us Q I r h
  obtain ⟨c, cv, b, rfl, hcv, hk, hd, q⟩ := h
  cases r with
  | cons ra r =>
    cases r with
    | cons rc r =>
      cases r
      cases ra
      have ec := hcv _ rc
      subst ec
      obtain ⟨ha, _⟩ := I.pin (a, oe) (List.mem_append_left _ List.mem_cons_self)
      obtain ⟨vs, hdat⟩ := hf
      have J : ∃ od, PySem.W.InstAt s.heap a oe D od := by
        rcases hd with rfl | ⟨p, f, v, rfl, hp⟩
        · exact ⟨none, ha, hz.1, by unfold PySem.W.notCls; rw [hdat] <;> rfl, by rw [hz.2]; trivial⟩
        · have hx : ObjOk X.prog X.w H s.heap p (.xd [(f, v)]) := I.hok p _ hp
          obtain ⟨mA, hns, hr⟩ := hx
          obtain ⟨od, ho, hl⟩ := lookIn_ns hns
          exact ⟨some od, ha, hz.1, by unfold PySem.W.notCls; rw [hdat] <;> rfl, by rw [hz.2]; exact ho⟩
      obtain ⟨od, J⟩ := J
      exact PySem.W.kia_one (PySem.W.kitx_exc C.ic C.hg C.hk C.hs C.ha C.hn C.ht C.hm) I.kIn J hk (fun z => nomatch z) fun tk => ⟨.bl b, H, I.tok _, rfl, q⟩
theorem xd_isE (i : Nat) {y z : Str} {a D Cz : Addr} {oe : Obj} {dd : Option Addr} {q : Option (Str × Dt)} {pn : List (Addr × Obj)} {r : Bool} {p p1 p2 : Pos} (C : ExcI X.K D) (hz : Zc (.ref D) dd oe) (hf : ∃ vs, oe.data = .fields vs) (hzn : X.mg z = some (.ref Cz)) (hk : PySem.W.kitOne X.K (.ref D) (.ref Cz) = some r) (hm : X.mg "isinstance" = none)
    (hi : st[i]? = some (some (.ex a dd q)) := by rfl) (hN : X.N[i]? = some y := by rfl) (hv : Vis X.env.scope y := by first | exact Or.inl rfl | exact Or.inr (Or.inl rfl) | exact Or.inr (Or.inr rfl)) (hdb : (y == ("__debug__" : Str)) = false := by decide)
    (hcd : (y == ("__classdict__" : Str)) = false := by decide) (hg : Gl X "isinstance" := by rfl) (hgz : Gl X z := by rfl) (hdz : (z == ("__debug__" : Str)) = false := by decide)
    (he : starEach (.Name y p1 :: [.Name z p2]) X.env = (false, eval (.Name y p1) X.env) :: starEach [.Name z p2] X.env := by rfl) (he2 : starEach (.Name z p2 :: []) X.env = (false, eval (.Name z p2) X.env) :: starEach [] X.env := by rfl) (hpl : (backTo pos (starEach [.Name z p2] X.env)).any (·.1) = false := by rfl) :
    XD c (X.suite a ((a, oe) :: pn)) (.Call (.Name "isinstance" p) [.Name y p1, .Name z p2] [] pos) st (.bl r) st :=
  ⟨pe_weak (pe_callB (call_isX C hz hf) hg hm (by decide +kernel) (pa_cons (pe_var hN hv hdb hcd) (pa_cons (pe_glob (v := .ref Cz) hgz hzn rfl hdz) pa_nil he2) he) (by decide) (by decide) he hpl) fun σ H Q ⟨G, E, k⟩ => by
    obtain ⟨v, h1, h2⟩ := E.sl i _ hi
    obtain ⟨rfl, h2⟩ := h2
    refine ⟨_, h1, _, _, r, rfl, fun u ru => ru, hk, ?_, k _ G H Gr.refl E .bl⟩
    cases q with
    | none => exact .inl h2
    | some q =>
      obtain ⟨p, vv, e1, e2, _⟩ := h2
      exact .inr ⟨p, _, vv, e1, E.ex _ _ e2⟩⟩
def Out.drop (i : Nat) : Out → Out
  | .nx s => .nx (s.set i none)
  | .bk s => .bk (s.set i none)
  | .ct s => .ct (s.set i none)
  | .rt d s => .rt d (s.set i none)
  | .rl xs => .rl xs
  | .rq ds j s => .rq ds j (s.set i none)
theorem En.setNone (E : En c.K c.T c.pa G H σ st) (i : Nat) : En c.K c.T c.pa G H (σ.set i none) (st.set i none) where
  ex := E.ex
  sl := fun j s h => by
    rcases set_cases h with ⟨rfl, e, z⟩ | ⟨n, h⟩
    · cases e
    · obtain ⟨w, h1, h2⟩ := E.sl j s h
      exact ⟨w, by rw [List.getElem?_set_ne (Ne.symm n)]; exact h1, h2⟩
  ds := fun j k s t p h1 h2 o1 o2 h3 h4 => by
    rcases set_cases h1 with ⟨rfl, e, z⟩ | ⟨n, h1⟩
    · cases e
    · rcases set_cases h2 with ⟨rfl, e, z⟩ | ⟨n', h2⟩
      · cases e
      · rw [List.getElem?_set_ne (Ne.symm n)] at h3
        rw [List.getElem?_set_ne (Ne.symm n')] at h4
        exact E.ds j k s t p h1 h2 o1 o2 h3 h4
  len := by rw [List.length_set, List.length_set, E.len]
theorem own_setNone {i : Nat} {p : Addr} (h : own (σ.set i none) (st.set i none) p) : own σ st p := by
  obtain ⟨j, s, h1, h2, h3⟩ := h
  rcases set_cases h1 with ⟨rfl, e, z⟩ | ⟨n, h1⟩
  · cases e
  · rw [List.getElem?_set_ne (Ne.symm n)] at h3
    exact ⟨j, s, h1, h2, h3⟩
theorem En.setEx {a : Addr} {dd : Option Addr} {q : Option (Str × Dt)} (E : En c.K c.T c.pa G H σ st) (h : match q with | none => dd = none | some (f, d) => ∃ p vv, dd = some p ∧ G p = some (.xd [(f, vv)]) ∧ Rep c.K c.T G d vv) (i : Nat) : En c.K c.T c.pa G H (σ.set i (some (.ref a))) (st.set i (some (.ex a dd q))) where
  ex := E.ex
  sl := fun j s hj => by
    rcases set_cases hj with ⟨rfl, e, z⟩ | ⟨n, hj⟩
    · cases e
      exact ⟨.ref a, by rw [List.getElem?_set_self (by rw [E.len]; exact z)], rfl, h⟩
    · obtain ⟨w, h1, h2⟩ := E.sl j s hj
      exact ⟨w, by rw [List.getElem?_set_ne (Ne.symm n)]; exact h1, h2⟩
  ds := fun j k s t p h1 h2 o1 o2 h3 h4 => by
    rcases set_cases h1 with ⟨rfl, e, z⟩ | ⟨n, h1⟩
    · cases e; cases o1
    · rcases set_cases h2 with ⟨rfl, e, z⟩ | ⟨n', h2⟩
      · cases e; cases o2
      · rw [List.getElem?_set_ne (Ne.symm n)] at h3
        rw [List.getElem?_set_ne (Ne.symm n')] at h4
        exact E.ds j k s t p h1 h2 o1 o2 h3 h4
  len := by rw [List.length_set, List.length_set, E.len]
theorem own_setEx {i : Nat} {a : Addr} {dd : Option Addr} {q : Option (Str × Dt)} {p : Addr} (h : own (σ.set i (some (.ref a))) (st.set i (some (.ex a dd q))) p) : own σ st p := by
  obtain ⟨j, s, h1, h2, h3⟩ := h
  rcases set_cases h1 with ⟨rfl, e, z⟩ | ⟨n, h1⟩
  · cases e; cases h2
  · rw [List.getElem?_set_ne (Ne.symm n)] at h3
    exact ⟨j, s, h1, h2, h3⟩
theorem OutK.drop {D : Ends} {O : Addr → Prop} (i : Nat) (k : OutK c D G H O (o.drop i)) : OutK c { nx := fun σ' H' => D.nx (σ'.set i none) H', rt := D.rt, bk := fun σ' H' => D.bk (σ'.set i none) H', ct := fun σ' H' => D.ct (σ'.set i none) H' } G H O o := by
  cases o with
  | nx s => exact fun σ' G' H' g E => k _ G' H' (g.weakO fun p h => own_setNone h) (E.setNone i)
  | bk s => exact fun σ' G' H' g E => k _ G' H' (g.weakO fun p h => own_setNone h) (E.setNone i)
  | ct s => exact fun σ' G' H' g E => k _ G' H' (g.weakO fun p h => own_setNone h) (E.setNone i)
  | rt d s => exact fun v σ' G' H' g E r => k v σ' G' H' (g.weakO fun p h => own_drop h) (E.drop i) r
  | rl xs => exact k
  | rq ds j s => exact fun t b vs σ' G' H' g E r1 r2 r3 r4 r5 => k t b vs σ' G' H' (g.weakO fun p h => own_drop h) (E.drop i) r1 r2 r3 (fun z => r4 (own_drop z)) r5
theorem xp_tryAs (i : Nat) {y n : Str} {x : Xn} {cv : Value} {body suite : List Stmt} {b0 : Stmt} {np p1 : Pos} (hN : X.N.Nodup) (hc : Names X y cv) (hm : PySem.W.exmOne X.K (.ref x.C) cv = some true)
    (hb : ∀ (W : WX) (pn : List (Addr × Obj)) (xe : Value → Shared → Prop), Takes (X.tr pn xe) W → PassesOwn (model X.prog X.w) X.A X.env xe → XSX c (X.tr pn xe) W body st x st1)
    {o1 : Addr → Option Addr → Out} (hsu : ∀ (a : Addr) (oe : Obj) (dd : Option Addr) (pn : List (Addr × Obj)), Zc (.ref x.C) dd oe → (∃ vs, oe.data = .fields vs) → XS c (X.suite a ((a, oe) :: pn)) (b0 :: suite) (st1.set i (some (.ex a dd x.at_))) (o1 a dd))
    (ho : ∀ a dd, (o1 a dd).drop i = o := by intro _ _; rfl)
    (hs : X.stack = X.env :: X.outer := by rfl) (hf : X.env.frame = some X.env.locals := by rfl) (hi : X.N[i]? = some n := by rfl) (hln : X.env.kindOf n = some .local := by rfl) :
    XP c X (.Try body [.ExceptHandler (some (.Name y np)) (some n) (b0 :: suite) p1] [] [] pos) st o :=
  ⟨ps_weak (ps_try_as (i := i) (Wout := fun _ _ _ _ => False) (tb := fun W _ σ H => tXS c W st x st1 σ H) (ts := fun a cls dd => fun D σ H => cls = .ref x.C ∧ tO c (st1.set i (some (.ex a dd x.at_))) (o1 a dd) D σ H) hs hf hN hi hln hc takes0 (fun W pn xe tk pw => (hb W pn xe tk pw).pss) (fun a oe cls dd pn hz hfl => by
      by_cases hcl : cls = .ref x.C
      · subst hcl
        exact pss_weak (hsu a oe dd pn hz hfl).pss fun D σ H h => h.2
      · exact pss_weak pss_never' fun D σ H h => hcl h.1)) fun D σ H ⟨G, E, k⟩ =>
    ⟨G, E, fun σ' G' H' cls dd g E' r => by
      obtain ⟨rfl, r2⟩ := r
      refine ⟨true, hm, fun _ a ha => ⟨rfl, G', E'.setEx r2 i, ?_⟩, fun z => nomatch z⟩
      rw [← ho a dd] at k
      exact OutK.drop i (OutK.from k (g.weakO fun p h => own_setEx h))⟩⟩
end Dv
set_option autoImplicit true
set_option maxRecDepth 100000
set_option maxHeartbeats 4000000
namespace DvV
open PySem PySem.Spec PyProof.Rows
def IsRs (h : Heap) (a : Addr) (x : Str) (t : Tok) (i : Int) : Prop := ∃ o, h.get? a = some o ∧ o.cls = .type "reversed" ∧ o.data = .fields #[.str x t, rawInt i]
section
variable {prog : Program} {w : World} {A : Around} {E : Value → Shared → Prop} {s : Shared} {it : Addr} {x : Str} {t : Tok} {i : Int}
theorem IsRs.typeIs (h : IsRs s.heap it x t i) : s.TypeIs (.ref it) "reversed" := by
  obtain ⟨o, h1, h2, _⟩ := h
  exact ⟨o, h1, h2⟩
end
end DvV
namespace Dv
open PySem PySem.Spec PyProof.Rows L2 DvV
end Dv
set_option autoImplicit true
set_option maxRecDepth 100000
set_option maxHeartbeats 4000000
namespace Dv
open PySem PySem.Spec PyProof.Rows L2
variable {c : Ctx} {X : Cx} {st st1 st2 st' : Store} {b e : Expr} {es : List Expr} {d : Dt} {ds xs : List Dt} {pos : Pos} {G G' H H' : Hp} {σ : L2.St} {W : WX} {l : List Nat}
def rListX : List V → Hp → VK → Prop := fun xs H Q => ∃ z : Str, xs = [.str z] ∧ z.length ≤ 100000 ∧ ∀ p, H p = none → Q (.ref p) (upd H p (.lst (z.cps.toList.map fun q => .str ⟨#[q]⟩)))
theorem call_listX (hc : X.calm = true) : CallR X (.type "list") rListX := by
  intro pins s σ H xs us Q I r h
  obtain ⟨z, rfl, hz, q⟩ := h
  cases r with
  | cons r0 r1 =>
    cases r1
    obtain ⟨t, rfl⟩ := r0
    have hz' : z.cps.size ≤ 100000 := hz
    refine call_list_str (I.ok.hd hc) z t (fun h' tk acc n k ho hi => ?_) (by rw [sizeLine_eq]; omega)
    refine ⟨.ref s.heap.objs.size, _, I.laid (t' := tk) (o := .lst (z.cps.toList.map fun q => .str ⟨#[q]⟩)) k (Nat.le_refl _) ?_, rfl, q _ (I.hok.fresh (Nat.le_refl _))⟩
    refine ⟨by rw [List.length_map, sizeLine_eq, Array.length_toList]; omega, acc.toList, n, ?_, by rw [Array.toArray_toList]; exact ho⟩
    obtain ⟨h1, h2⟩ := hi
    have key : ∀ (a : List Nat) (vs : List Value), a.length = vs.length → (∀ (j : Nat) v, vs[j]? = some v → ∃ c u, a[j]? = some c ∧ v = .str ⟨#[c]⟩ u) → Vals (a.map fun q => V.str ⟨#[q]⟩) vs := by
      intro a
      induction a with
      | nil =>
        intro vs hl _
        cases vs with
        | nil => exact .nil
        | cons v vs => cases hl
      | cons q a ih =>
        intro vs hl hv
        cases vs with
        | nil => cases hl
        | cons v vs =>
          obtain ⟨c, u, e1, e2⟩ := hv 0 v rfl
          have e1 : q = c := Option.some.inj e1
          subst e1 e2
          exact .cons ⟨u, rfl⟩ (ih vs (by simpa using hl) fun j v hj => hv (j + 1) v hj)
    refine key _ _ (by rw [Array.length_toList, Array.length_toList]; exact h1.symm) fun j v hj => ?_
    obtain ⟨c, u, e1, e2⟩ := h2 j v (by simpa using hj)
    exact ⟨c, u, by simpa using e1, e2⟩
theorem reps_signs {K : PySem.W.Frag} {T : Ct} (G : Hp) : ∀ a : List Nat, Reps K T G (a.map fun q => .str (sx [q])) (a.map fun q => .str ⟨#[q]⟩)
  | [] => .nil
  | _ :: a => .cons .str (reps_signs G a)
theorem xd_listX {p : Pos} (h : XD c X e st (.str (sx l)) st1) (hz : l.length ≤ 100000) (hc : X.calm = true) (hm : X.mg "list" = none) (hg : Gl X "list" := by rfl) (he : starEach (e :: []) X.env = (false, eval e X.env) :: starEach [] X.env := by rfl) (hpl : (backTo pos (starEach [] X.env)).any (·.1) = false := by rfl) :
    XD c X (.Call (.Name "list" p) [e] [] pos) st (.lst (l.map fun q => .str (sx [q]))) st1 :=
  xd_callTy (xa_cons h xa_nil he) (call_listX hc) (fun G H vs Q ex r kk => by
    cases r with
    | cons r0 r1 =>
      cases r1
      cases r0
      refine ⟨sx l, rfl, by rw [sx_len]; exact hz, fun p hp => kk _ _ _ (Gw.new ex hp) (.lst upd_same ?_)⟩
      have e1 : (sx l).cps.toList = l := by simp [sx]
      rw [e1]
      exact reps_signs _ l) hm (by decide +kernel) hg (by decide) (by decide) he hpl
theorem Reps.rev {K : PySem.W.Frag} {T : Ct} : ∀ {ds : List Dt} {vs : List V}, Reps K T G ds vs → Reps K T G ds.reverse vs.reverse
  | _, _, .nil => .nil
  | _, _, .cons r t => by rw [List.reverse_cons, List.reverse_cons]; exact (Reps.rev t).app (.cons r .nil)
end Dv
set_option autoImplicit true
set_option maxRecDepth 100000
set_option maxHeartbeats 4000000
namespace Dv
open PySem PySem.Spec PyProof.Rows L2
variable {c : Ctx} {X : Cx} {st st1 st2 st' : Store} {b e : Expr} {es : List Expr} {d : Dt} {ds xs : List Dt} {pos : Pos} {G G' H H' : Hp} {σ : L2.St} {W : WX} {x : Xn} {n : Nat} {C : Addr} {ns : List Str}
def spIX (K : PySem.W.Frag) (T : Ct) (n : Nat) (R : List Dt → Xn → Prop) : Sp := fun vs H _ E => ∃ y vs' G C ns dx ds e, vs = .ref y :: vs' ∧ T n = some (C, ns) ∧ Ex G H ∧ G y = none ∧ H y = some (.ins C dx []) ∧ Reps K T G ds vs' ∧ R ds e ∧
  ∀ cls d G' H', Gr G H G' H' (· = y) (fun _ => False) → Ex G' H' → ExR K T G' e cls d → E cls d H'
theorem okIX {P : Program} {w : World} {K : PySem.W.Frag} {T : Ct} {mg : Str → Option Value} {base : Heap} {y qual : Str} {sd : Stmt} {f : Addr} {fd : FuncData} {N ps : List Str} {k : Nat} {R : List Dt → Xn → Prop} (F : Fun K y qual sd f fd) (S : FnScope N ps (defScope sd)) (hT : T n = some (C, ns)) (hl : ∀ ds x, R ds x → ds.length + 1 = ps.length)
    (body : ∀ (cdv : Value) (A : Around) (outer : List Env) (s : Shared) (H : Hp) (E : XK) (pa : Nat → Addr) (ds : List Dt) (x : Xn), Room k (A.deeper (envOfC qual (defScope sd) s.heap.objs.size f cdv)) → R ds x →
      ∃ st', XSX ⟨K, T, pa⟩ (cxOf (L2.CX P w) P w K mg base N qual (defScope sd) f cdv A outer s H E) (fun cls d _ H => E cls d H) (defBody sd) (st0I N n ds) x st') : FnOk P w K mg base (L2.CX P w) (k + 1) f fd ps (spIX K T n R) := by
  refine F.okX S (fun vs H Q E h => ?_) (fun cdv A outer s H vs Q E hr h => ?_)
  · obtain ⟨y, vs', G, C', ns', dx, ds, e, rfl, hT', ex, hn, hl', r, hR, kk⟩ := h
    rw [List.length_cons, ← r.length]; exact hl ds e hR
  · obtain ⟨y, vs', G, C', ns', dx, ds, e, rfl, hT', ex, hn, hl', r, hR, kk⟩ := h
    rw [hT] at hT'
    cases hT'
    obtain ⟨st', hb⟩ := body cdv A outer s H E (fun _ => y) ds e hr hR
    refine ⟨_, hb.pss, G, En.startI (c := ⟨K, T, fun _ => y⟩) (pa := fun _ => y) hT ex hn hl' r, fun σ' G' H' cls d g E' q => kk cls d G' H' ?_ E'.ex q⟩
    exact ⟨g.ex, fun p o q => (g.nw p o q).imp id (Or.imp id fun z => own_startI (pa := fun _ => y) z), fun p o q nq => g.fr p o q fun z => nq (own_startI (pa := fun _ => y) z), g.al, fun p q => q.elim⟩
theorem run_makeX {CX : CXT} {k : Nat} {f : Addr} {fd : FuncData} {ps : List Str} {sp : Sp} {E : XK} {pins : List (Addr × Obj)} {s : Shared} {Q : VK} {us : List Value} {vs : List V} (M : Mk X.K C f) (F : FnOk X.prog X.w X.K X.mg X.base CX k f fd ps sp) (hr : Room (k + 1) X.A) (hb : Binds X.K fd ps []) (hx : PassesAt CX X σ E) (I : L2.Inv X pins σ H s) (r : Vals vs us)
    (h : ∀ y dx, H y = none → H dx = none → dx ≠ y → sp (.ref y :: vs) (upd (upd H dx (.own y)) y (.ins C dx [])) (fun _ _ => False) E) : wpAny (model X.prog X.w) X.A (call (.ref C) us) (EP X pins σ Q) X.xe s := by
  have hq := h (s.heap.objs.size + 1) s.heap.objs.size (I.hok.fresh (Nat.le_succ _)) (I.hok.fresh (Nat.le_refl _)) (Nat.ne_of_lt (Nat.lt_succ_self _))
  have I2 := Inv.made (C := C) I
  have r2 : Vals (.ref (s.heap.objs.size + 1) :: vs) (.ref (s.heap.objs.size + 1) :: us) := .cons rfl r
  have hlen := F.len _ _ _ _ hq
  have b := hb ⟨(s.heap.push PySem.W.emptyDict).push (PySem.W.instObj C s.heap.objs.size), s.gens, s.drawn, s.toks, s.os⟩ (.ref (s.heap.objs.size + 1) :: us) I2.kIn (by rw [List.append_nil, ← r2.length]; exact hlen)
  rw [List.append_nil] at b
  refine wpAny_call (make_map I.kIn M.makes M.init (beq_iff_eq.mp M.fn) (codeAny_mono (F.run (X.A.under (.builtin "type.__call__" ⟨.ref C :: us, []⟩)) X.stack _ _ ⟨.ref (s.heap.objs.size + 1) :: us, []⟩ _ _ (fun _ _ => False) E (Room.make hr C us []) (Env0.make I2.env0 C us []) b r2 hq) fun r s' hq' => ?_))
  cases r with
  | error e => exact hx pins _ _ e s' I2 hq'
  | ok fl =>
    cases fl with
    | ret v =>
      obtain ⟨_, _, _, _, _, _, _, z⟩ := hq'
      exact z.elim
    | _ => exact hq'.elim
/-- a class by its name, whose __init__ raises -/
structure IX (P : Program) (w : World) (K : PySem.W.Frag) (T : Ct) (mg : Str → Option Value) (base : Heap) (n : Nat) (C : Addr) (k : Nat) (R : List Dt → Xn → Prop) : Prop where
  ex : ∃ f fd ps, FnOk P w K mg base (L2.CX P w) k f fd ps (spIX K T n R) ∧ Mk K C f ∧ Binds K fd ps []
theorem xx_mk {k : Nat} {R : List Dt → Xn → Prop} {y : Str} {p : Pos} (Q : CF X.K c.T X.mg y n C ns) (F : IX X.prog X.w X.K c.T X.mg X.base n C k R) (hK : X.K = c.K) (tk : Takes X W) (hr : Room (k + 1) X.A) (h : XA c X (e :: es) st ds st1) (hR : R ds x) (hg : Gl X y := by rfl) (hdb : (y == ("__debug__" : Str)) = false := by decide)
    (he : starEach (e :: es) X.env = (false, eval e X.env) :: starEach es X.env := by rfl) (hpl : (backTo pos (starEach es X.env)).any (·.1) = false := by rfl) : XX c X W (.Call (.Name y p) (e :: es) [] pos) st x st1 := by
  obtain ⟨f, fd, ps, F, M, hb⟩ := F.ex
  rw [hK] at F
  refine ⟨⟨fun pins s σ H Q' I h' => ?_⟩⟩
  obtain ⟨G, E, kk⟩ := h'
  refine wpAny_Call_Name_kw (ld_glob I hg Q.nm ?_ hdb)
  refine PySem.W.callWith_K (h₀ := X.base) I.ok.mod.kin M.kp (thn (h.pa.run pos pins s σ H (fun vs H1 => ∃ G1, Gr G H G1 H1 (own σ st) (own σ st1) ∧ En c.K c.T c.pa G1 H1 σ st1 ∧ Reps c.K c.T G1 ds vs) I ⟨G, E, fun vs G1 H1 g1 E1 r1 => ⟨G1, g1, E1, r1⟩⟩) fun us s1 ⟨vs, H1, I1, r, G1, g1, E1, rs⟩ => ⟨I1.kIn, ?_⟩) he hpl
  refine run_makeX (E := WE W σ) M (by rw [hK]; exact F) hr hb (passAt tk σ) I1 r fun y dx hy hdx hne => ?_
  have e0 : Ex H1 (upd (upd H1 dx (.own y)) y (.ins C dx [])) := fun p o h => by rw [upd_ne (ne_of_none h hy), upd_ne (ne_of_none h hdx)]; exact h
  refine ⟨y, vs, G1, C, ns, dx, ds, x, rfl, Q.at_, E1.ex.trans e0, E1.ex.none hy, upd_same, rs, hR, fun cls d G' H' g e' q => ?_⟩
  have gw : Gw G1 H1 G' H' := ⟨g.ex, fun p o h => g.fr p o (e0 p o h) (ne_of_none h hy), e', fun p o h => by
    rcases g.nw p o h with z | z | z
    · exact .inl z
    · exact .inr (e0.none z)
    · exact .inr (by rw [show p = y from z]; exact hy)⟩
  exact kk G' H' cls d (g1.trans gw.gr) (E1.g1 gw) q
end Dv
set_option autoImplicit true
set_option maxRecDepth 100000
set_option maxHeartbeats 4000000
namespace Dv
open PySem PySem.Spec PyProof.Rows L2
end Dv
set_option autoImplicit true
set_option maxRecDepth 100000
set_option maxHeartbeats 4000000
namespace Dv
open PySem PySem.Spec PyProof.Rows L2
end Dv
set_option autoImplicit false
set_option maxRecDepth 100000
set_option maxHeartbeats 4000000
namespace Dv
open PySem PySem.Spec PyProof.Rows L2
section
variable {c : Ctx} {X : Cx} {st st1 : Store} {e tg : PySem.Expr} {d : Dt} {ds ys fs : List Dt}
/-- the ground made as long as the heap is -/
def padH (b : Heap) (m : Nat) : Heap := { b with objs := b.objs ++ Array.replicate (m - b.objs.size) { cls := .none, data := .freed } }
theorem pad_get (b : Heap) (m : Nat) (a : Addr) : (padH b m).get? a = b.get? a := by
  unfold Heap.get? padH
  show (match (b.objs ++ Array.replicate (m - b.objs.size) ({ cls := .none, data := .freed } : Obj))[a]? with
    | some { cls := _, dict := _, data := Data.freed, slots := _ } => none
    | o => o) = _
  by_cases q : a < b.objs.size
  · rw [Array.getElem?_append_left q]; rfl
  · have e2 : b.objs[a]? = none := Array.getElem?_eq_none (Nat.le_of_not_lt q)
    rw [Array.getElem?_append_right (Nat.le_of_not_lt q), e2, Array.getElem?_replicate]
    by_cases q2 : a - b.objs.size < m - b.objs.size
    · rw [if_pos q2]
    · rw [if_neg q2]
theorem pad_size {b : Heap} {m : Nat} (h : b.objs.size ≤ m) : (padH b m).objs.size = m := by
  unfold padH
  show (b.objs ++ Array.replicate _ _).size = m
  rw [Array.size_append, Array.size_replicate]
  omega
theorem ns_pad {b : Heap} {m : Nat} {a : Addr} {f : Str → Option Value} (h : b.Ns a f) : (padH b m).Ns a f := by
  obtain ⟨o, es, ep, h1, h2⟩ := h
  exact ⟨o, es, ep, by rw [pad_get]; exact h1, h2⟩
theorem funs_pad {h b : Heap} {m : Nat} : ∀ {l : List Env}, h.FunFrames b l → h.FunFrames (padH b m) l
  | [], _ => by simp only [Heap.FunFrames]
  | e :: l, z => by
    simp only [Heap.FunFrames] at z ⊢
    obtain ⟨z1, ⟨L, o, z2, z3, z4⟩, z5⟩ := z
    exact ⟨z1, ⟨L, o, z2, by rw [pad_get]; exact z3, z4⟩, funs_pad z5⟩
theorem env0_pad {P : Program} {w : World} {K : PySem.W.Frag} {mg : Str → Option Value} {base : Heap} {A : Around} {outer : List Env} {s : Shared} {H : Hp} (e : Env0 P w K mg base A outer s H) : Env0 P w K mg (padH base s.heap.objs.size) A outer s H where
  frames := e.frames
  mod := {
    kin := fun a o h => by rw [pad_get]; exact e.mod.kin a o h
    glob := ns_pad e.mod.glob
    blt := by
      obtain ⟨mb, h1, h2⟩ := e.mod.blt
      exact ⟨mb, ns_pad h1, h2⟩
    nolimit := by
      obtain ⟨mc, h1, h2⟩ := e.mod.nolimit
      exact ⟨mc, ns_pad h1, h2⟩ }
  bs := fun b o h => e.bs b o (by rw [pad_get] at h; exact h)
  bsz := by rw [pad_size e.bsz]; exact Nat.le_refl _
  funs := funs_pad e.funs
  frf := e.frf
  hok := e.hok
  bare := e.bare
end
end Dv
set_option autoImplicit false
namespace Mq
theorem gcd_pos {n d : Int} (h : d ≠ 0) : 0 < (Int.gcd d n : Int) := by
  have : 0 < Int.gcd d n := Int.gcd_pos_of_ne_zero_left n h
  omega
theorem den_ne (q : Rat) : (q.den : Int) ≠ 0 := by have := q.den_nz; omega
theorem add_q (a b : Rat) : Rat.divInt (a.num * b.den + b.num * a.den) (a.den * b.den) = a + b := by
  rw [← Rat.divInt_add_divInt _ _ (den_ne a) (den_ne b), Rat.num_divInt_den, Rat.num_divInt_den]
theorem sub_q (a b : Rat) : Rat.divInt (a.num * b.den - b.num * a.den) (a.den * b.den) = a - b := by
  rw [← Rat.divInt_sub_divInt _ _ (den_ne a) (den_ne b), Rat.num_divInt_den, Rat.num_divInt_den]
/-- numerator and denominator of at most k bits -/
def Sz (k : Nat) (q : Rat) : Prop := q.num.natAbs < 2 ^ k ∧ q.den < 2 ^ k
theorem Sz.mono {k m : Nat} {q : Rat} (h : Sz k q) (l : k ≤ m) : Sz m q := by
  have := Nat.pow_le_pow_right (show 0 < 2 by decide) l
  exact ⟨by have := h.1; omega, by have := h.2; omega⟩
theorem divInt_sz {n d : Int} {k : Nat} (hd : d ≠ 0) (h1 : n.natAbs < 2 ^ k) (h2 : d.natAbs < 2 ^ k) : Sz k (Rat.divInt n d) := by
  have g := gcd_pos (n := n) hd
  constructor
  · rw [Rat.num_divInt, Int.natAbs_ediv_of_dvd (Int.dvd_trans (Int.gcd_dvd_right d n) (Int.dvd_mul_left _ _)), Int.natAbs_mul]
    refine Nat.lt_of_le_of_lt (Nat.div_le_self _ _) ?_
    have : d.sign.natAbs ≤ 1 := by
      rcases Int.lt_trichotomy d 0 with q | q | q
      · rw [Int.sign_eq_neg_one_of_neg q]; decide
      · exact absurd q hd
      · rw [Int.sign_eq_one_of_pos q]; decide
    have e : d.sign.natAbs * n.natAbs ≤ 1 * n.natAbs := Nat.mul_le_mul_right _ this
    omega
  · rw [Rat.den_divInt, if_neg hd]
    exact Nat.lt_of_le_of_lt (Nat.div_le_self _ _) h2
theorem nat_mul_lt {a b j k : Nat} (ha : a < 2 ^ j) (hb : b < 2 ^ k) : a * b < 2 ^ (j + k) := by
  rw [Nat.pow_add]
  exact Nat.mul_lt_mul'' ha hb
theorem Sz.lin {j k : Nat} {a b : Rat} (ha : Sz j a) (hb : Sz k b) : (a.num * b.den).natAbs < 2 ^ (j + k) ∧ (b.num * a.den).natAbs < 2 ^ (j + k) ∧ ((a.den : Int) * b.den).natAbs < 2 ^ (j + k) := by
  refine ⟨?_, ?_, ?_⟩
  · rw [Int.natAbs_mul]; exact nat_mul_lt ha.1 hb.2
  · rw [Int.natAbs_mul, Nat.mul_comm]; exact nat_mul_lt ha.2 hb.1
  · rw [Int.natAbs_mul]; exact nat_mul_lt ha.2 hb.2
theorem Sz.add {j k : Nat} {a b : Rat} (ha : Sz j a) (hb : Sz k b) : Sz (j + k + 1) (a + b) := by
  obtain ⟨h1, h2, h3⟩ := Sz.lin ha hb
  rw [← add_q]
  have : 2 ^ (j + k + 1) = 2 ^ (j + k) * 2 := Nat.pow_succ ..
  exact divInt_sz (Int.mul_ne_zero (den_ne a) (den_ne b)) (by omega) (by omega)
theorem Sz.sub {j k : Nat} {a b : Rat} (ha : Sz j a) (hb : Sz k b) : Sz (j + k + 1) (a - b) := by
  obtain ⟨h1, h2, h3⟩ := Sz.lin ha hb
  rw [← sub_q]
  have : 2 ^ (j + k + 1) = 2 ^ (j + k) * 2 := Nat.pow_succ ..
  exact divInt_sz (Int.mul_ne_zero (den_ne a) (den_ne b)) (by omega) (by omega)
theorem log2_lt {j : Int} {k : Nat} (h : j ≠ 0) (hj : j.natAbs < 2 ^ k) (hk : k ≤ 9000) : j.natAbs.log2 < 9000 := by
  have := (Nat.log2_lt (n := j.natAbs) (k := k) (by omega)).mpr hj
  omega
def euS (p : Nat × Nat) : Nat × Nat := (p.2, p.1 % p.2)
def eu (p : Nat × Nat) : Nat → Nat × Nat
  | 0 => p
  | i + 1 => euS (eu p i)
end Mq
set_option autoImplicit false
set_option maxRecDepth 100000
set_option maxHeartbeats 4000000
namespace Dv
open PySem PySem.Spec PyProof.Rows L2
section
variable {c : Ctx} {X : Cx} {st st1 st2 st3 : Store} {a b e e2 tg iter elt t : Expr} {es : List Expr} {d d1 d2 d3 d' : Dt} {ds xs ys zs fs gs vs : List Dt} {pos : Pos} {i j : Int} {body rest orelse A B : List Stmt} {s : Stmt} {o : Out} {n k m : Nat} {l l' : List Nat}
def WE (c : Ctx) (X : Cx) (e : Expr) (st : Store) (Q : Dt → Store → Prop) : Prop := ∃ d st', XD c X e st d st' ∧ Q d st'
def WT (c : Ctx) (X : Cx) (e : Expr) (st : Store) (Q : Bool → Store → Prop) : Prop := ∃ r st', XT c X e st r st' ∧ Q r st'
def WW (c : Ctx) (X : Cx) (e : Expr) (st : Store) (Q : Bool → Store → Prop) : Prop := ∃ r st', XW c X e st r st' ∧ Q r st'
def WA (c : Ctx) (X : Cx) (es : List Expr) (st : Store) (Q : List Dt → Store → Prop) : Prop := ∃ ds st', XA c X es st ds st' ∧ Q ds st'
def WL (c : Ctx) (X : Cx) (e : Expr) (st : Store) (Q : List Dt → Store → Prop) : Prop := ∃ xs st', XL c X e st xs st' ∧ Q xs st'
def WI (c : Ctx) (X : Cx) (tg iter : Expr) (st : Store) (Q : List Dt → Store → Prop) : Prop := ∃ ds st', XI c X tg iter st ds st' ∧ Q ds st'
def WG (c : Ctx) (X : Cx) (tg : Expr) (d : Dt) (st : Store) (Q : Store → Prop) : Prop := ∃ st', XG c X tg d st st' ∧ Q st'
def WGs (c : Ctx) (X : Cx) (tgs : List Expr) (ds : List Dt) (st : Store) (Q : Store → Prop) : Prop := ∃ st', XGs c X tgs ds st st' ∧ Q st'
def WP (c : Ctx) (X : Cx) (s : Stmt) (st : Store) (Q : Out → Prop) : Prop := ∃ o, XP c X s st o ∧ Q o
def WS (c : Ctx) (X : Cx) (ss : List Stmt) (st : Store) (Q : Out → Prop) : Prop := ∃ o, XS c X ss st o ∧ Q o
/-- behind a statement -/
def Aft (c : Ctx) (X : Cx) (rest : List Stmt) (Q : Out → Prop) : Out → Prop
  | .nx s => WS c X rest s Q
  | o => Q o
theorem aft_nx {Q : Out → Prop} (h : WS c X rest st Q) : Aft c X rest Q (.nx st) := h
theorem aft_rt {Q : Out → Prop} (h : Q (.rt d st)) : Aft c X rest Q (.rt d st) := h
/-- a truth value known, or both ways -/
def IfK (r : Bool) (P1 P2 : Prop) : Prop := (r = true → P1) ∧ (r = false → P2)
theorem ifk_T {r : Bool} {P1 P2 : Prop} (h : r = true) (k : P1) : IfK r P1 P2 := ⟨fun _ => k, fun z => by rw [h] at z; cases z⟩
theorem ifk_F {r : Bool} {P1 P2 : Prop} (h : r = false) (k : P2) : IfK r P1 P2 := ⟨fun z => (by rw [h] at z; cases z), fun _ => k⟩
theorem ifk_S {r : Bool} {P1 P2 : Prop} (k1 : r = true → P1) (k2 : r = false → P2) : IfK r P1 P2 := ⟨k1, k2⟩
theorem ws_nil {Q : Out → Prop} (h : Q (.nx st)) : WS c X [] st Q := ⟨_, xs_nil, h⟩
theorem ws_of {Q : Out → Prop} (h : WP c X s st (Aft c X rest Q)) : WS c X (s :: rest) st Q := by
  obtain ⟨o, h1, h2⟩ := h
  cases o with
  | nx s1 => obtain ⟨o2, h3, h4⟩ := h2; exact ⟨o2, xs_cons h1 h3, h4⟩
  | rt d s1 => exact ⟨_, xs_ret h1, h2⟩
  | bk s1 => exact ⟨_, xs_bk h1, h2⟩
  | ct s1 => exact ⟨_, xs_ct h1, h2⟩
  | rl xs => exact ⟨_, xs_rl h1, h2⟩
  | rq ds j s1 => exact ⟨_, xs_rq h1, h2⟩
theorem ws_set (i : Nat) {x : Str} {pos' : Pos} {Q : Out → Prop} (hN : X.N.Nodup) (h : WE c X e st fun d st1 => WS c X rest (st1.set i (some (.fr d))) Q) (hi : X.N[i]? = some x := by rfl) (hx : Loc X.env.scope x := by first | exact Or.inl rfl | exact Or.inr rfl) (hs : swapsWith e (some (.Name x pos')) pos.line X.env = pure false := by rfl)
    (hf : X.fn x = true ∨ X.env.scope.names.lookup x = some .local := by first | exact .inl rfl | exact .inr rfl | assumption) : WS c X (.Assign [.Name x pos'] e pos :: rest) st Q := by
  obtain ⟨d, st1, h1, o, h2, h3⟩ := h
  exact ⟨o, xs_cons (xp_set i hN h1 hi hx hs hf) h2, h3⟩
theorem ws_setOw (i : Nat) {x : Str} {pos' : Pos} {Q : Out → Prop} (hN : X.N.Nodup) (h : WL c X e st fun xs st1 => WS c X rest (st1.set i (some (.ow xs))) Q) (hi : X.N[i]? = some x := by rfl) (hx : Loc X.env.scope x := by first | exact Or.inl rfl | exact Or.inr rfl) (hs : swapsWith e (some (.Name x pos')) pos.line X.env = pure false := by rfl)
    (hf : X.fn x = true ∨ X.env.scope.names.lookup x = some .local := by first | exact .inl rfl | exact .inr rfl | assumption) : WS c X (.Assign [.Name x pos'] e pos :: rest) st Q := by
  obtain ⟨xs, st1, h1, o, h2, h3⟩ := h
  exact ⟨o, xs_cons (xp_setOw i hN h1 hi hx hs hf) h2, h3⟩
theorem wg_name (i : Nat) {x : Str} {Q : Store → Prop} (hN : X.N.Nodup) (h : Q (st.set i (some (.fr d)))) (hi : X.N[i]? = some x := by rfl) (hx : Loc X.env.scope x := by first | exact Or.inl rfl | exact Or.inr rfl) (hf : X.fn x = true ∨ X.env.scope.names.lookup x = some .local := by first | exact .inl rfl | exact .inr rfl | assumption) :
    WG c X (.Name x pos) d st Q := ⟨_, xg_name i hN hi hx hf, h⟩
theorem wg_tup {k : Nat} {n : Nat} {Q : Store → Prop} (hK : X.K = c.K) (hc : X.calm = true) (h : WGs c X es ds st Q) (hl : ds.length = n := by rfl)
    (hn : (assignEach es X.env).length = n := by rfl) (hst : (assignEach es X.env).findIdx? (·.1) = none := by rfl) : WG c X (.Tuple es k pos) (.tup ds) st Q := by
  obtain ⟨s1, h1, h2⟩ := h
  exact ⟨s1, xg_tup hK hc h1 hl hn hst, h2⟩
theorem wgs_nil {Q : Store → Prop} (h : Q st) : WGs c X [] [] st Q := ⟨_, xgs_nil, h⟩
theorem wgs_cons {Q : Store → Prop} (h : WG c X e d st fun st1 => WGs c X es ds st1 Q) (hs : (assignEach (e :: es) X.env).map (·.2) = assign e X.env :: (assignEach es X.env).map (·.2) := by rfl) : WGs c X (e :: es) (d :: ds) st Q := by
  obtain ⟨s1, h1, s2, h2, h3⟩ := h
  exact ⟨s2, xgs_cons h1 h2 hs, h3⟩
/-- a, b = x, y -/
theorem ws_par (i j : Nat) {x y : Str} {px py pt : Pos} {kt k2 pt2} {Q : Out → Prop} (hN : X.N.Nodup) (hc : X.calm = true) (h : WA c X [a, b] st fun ds st1 => ∃ d1 d2, ds = [d1, d2] ∧ WS c X rest ((st1.set i (some (.fr d1))).set j (some (.fr d2))) Q) (hij : i ≠ j := by decide) (hi : X.N[i]? = some x := by rfl) (hj : X.N[j]? = some y := by rfl)
    (hx : X.env.scope.names.lookup x = some .local := by rfl) (hy : X.env.scope.names.lookup y = some .local := by rfl)
    (hw : swappedStores [.Tuple [.Name x px, .Name y py] kt pt] (.Tuple [a, b] k2 pt2) X.env = pure (some [x, y]) := by rfl)
    (hs : swapsWithSole [.Tuple [.Name x px, .Name y py] kt pt] (.Tuple [a, b] k2 pt2) pos.line X.env = pure false := by rfl) :
    WS c X (.Assign [.Tuple [.Name x px, .Name y py] kt pt] (.Tuple [a, b] k2 pt2) pos :: rest) st Q := by
  obtain ⟨ds, st1, h1, d1, d2, rfl, o, h2, h3⟩ := h
  exact ⟨o, xs_cons (xp_par i j hN hc h1 hij hi hj hx hy hw hs) h2, h3⟩
theorem ws_if {Q : Out → Prop} (h : WT c X t st fun r st1 => IfK r (WS c X A st1 (Aft c X rest Q)) (WS c X B st1 (Aft c X rest Q))) : WS c X (.If t A B pos :: rest) st Q := by
  obtain ⟨r, st1, h1, h2, h3⟩ := h
  refine ws_of ?_
  cases r with
  | true => obtain ⟨o, q1, q2⟩ := h2 rfl; exact ⟨o, xp_if h1 (fun _ => q1) (fun z => nomatch z), q2⟩
  | false => obtain ⟨o, q1, q2⟩ := h3 rfl; exact ⟨o, xp_if h1 (fun z => nomatch z) (fun _ => q1), q2⟩
theorem ws_ret {Q : Out → Prop} (h : WE c X e st fun d st1 => Q (.rt d st1)) : WS c X (.Return (some e) pos :: rest) st Q := by
  obtain ⟨d, st1, h1, h2⟩ := h
  exact ⟨_, xs_ret (xp_ret h1), h2⟩
theorem ws_retL {Q : Out → Prop} (h : WL c X e st fun xs _ => Q (.rl xs)) : WS c X (.Return (some e) pos :: rest) st Q := by
  obtain ⟨xs, st1, h1, h2⟩ := h
  exact ⟨.rl xs, xs_rl ⟨ps_weak (ps_ret h1.pe) fun D σ H ⟨G, E, k⟩ => ⟨G, E, fun p vs G' H' g' E' n1 n2 n3 n4 r => k p vs G' H' (g'.weakO fun p q => q.elim) E'.ex (.inl n2) n3 n4 r⟩⟩, h2⟩
theorem ws_freeze (i : Nat) {Q : Out → Prop} (hi : st[i]? = some (some (.ow xs))) (h : WS c X rest (st.set i (some (.fr (.lst xs)))) Q) : WS c X rest st Q := by
  obtain ⟨o, h2, h3⟩ := h
  exact ⟨o, xs_freeze i hi h2, h3⟩
/-- one turn of a loop ends so -/
abbrev Tn (s : Store) (o : Out) : Prop := o = .nx s ∨ o = .ct s
theorem ws_for (S : Nat → Store) (m : Nat) {Q : Out → Prop} (h : WI c X tg iter st fun ds st1 => st1 = S 0 ∧ ds.length = m ∧ (∀ i d, ds[i]? = some d → WG c X tg d (S i) fun s => WS c X body s (Tn (S (i + 1)))) ∧ WS c X rest (S m) Q) (hc : X.calm = true := by rfl) (hp : PassesOwn (model X.prog X.w) X.A X.env X.xe := by exact PassesOwn.never)
    (hs : ∀ x, foldedSetIterable iter X.env x = pure x := by intro _; rfl) : WS c X (.For tg iter body [] pos :: rest) st Q := by
  obtain ⟨ds, st1, h1, rfl, rfl, h2, o, h3, h4⟩ := h
  refine ⟨o, xs_cons (xp_for S h1 (fun i d hd => ?_) hc hp hs) h3, h4⟩
  obtain ⟨s1, q1, o1, q2, q3 | q3⟩ := h2 i d hd
  · subst q3; exact ⟨s1, q1, .inl q2⟩
  · subst q3; exact ⟨s1, q1, .inr q2⟩
/-- the last turn of a loop that is left on the way -/
def Lv (Q : Out → Prop) : Out → Prop
  | .rt d s => Q (.rt d s)
  | .bk s => Q (.nx s)
  | _ => False
theorem ws_forX (S : Nat → Store) (m : Nat) (d : Dt) {Q : Out → Prop} (h : WI c X tg iter st fun ds st1 => st1 = S 0 ∧ ds[m]? = some d ∧ (∀ i d, i < m → ds[i]? = some d → WG c X tg d (S i) fun s => WS c X body s (Tn (S (i + 1)))) ∧ WG c X tg d (S m) fun s => WS c X body s (Lv (Aft c X rest Q))) (hc : X.calm = true := by rfl) (hp : PassesOwn (model X.prog X.w) X.A X.env X.xe := by exact PassesOwn.never)
    (hs : ∀ x, foldedSetIterable iter X.env x = pure x := by intro _; rfl) : WS c X (.For tg iter body [] pos :: rest) st Q := by
  obtain ⟨ds, st1, h1, rfl, hm, h2, s1, h3, o, h4, h5⟩ := h
  refine ws_of ?_
  have turns : ∀ i d, i < m → ds[i]? = some d → Turns c X tg body d (S i) (S (i + 1)) := fun i d hi hd => by
    obtain ⟨s1, q1, o1, q2, q3 | q3⟩ := h2 i d hi hd
    · subst q3; exact ⟨s1, q1, .inl q2⟩
    · subst q3; exact ⟨s1, q1, .inr q2⟩
  cases o with
  | nx s => exact h5.elim
  | ct s => exact h5.elim
  | rl xs => exact h5.elim
  | rq ds j s => exact h5.elim
  | rt r s => exact ⟨_, xp_forX S m hm h1 turns ⟨s1, h3, .inl ⟨r, s, rfl, h4⟩⟩ hc hp hs, h5⟩
  | bk s => exact ⟨_, xp_forX S m hm h1 turns ⟨s1, h3, .inr ⟨s, rfl, h4⟩⟩ hc hp hs, h5⟩
theorem ws_while (S : Nat → Store) (m : Nat) {Q : Out → Prop} (h0 : st = S 0) (hb : ∀ i, i < m → WT c X t (S i) fun r st1 => r = true ∧ WS c X body st1 (Tn (S (i + 1)))) (he : WT c X t (S m) fun r st1 => r = false ∧ WS c X rest st1 Q) (hp : PassesOwn (model X.prog X.w) X.A X.env X.xe := by exact PassesOwn.never) :
    WS c X (.While t body [] pos :: rest) st Q := by
  subst h0
  obtain ⟨r, st1, h1, rfl, o, h2, h3⟩ := he
  have hb' : ∀ i, i < m → ∃ s1, XT c X t (S i) true s1 ∧ (XS c X body s1 (.nx (S (i + 1))) ∨ XS c X body s1 (.ct (S (i + 1)))) := fun i hi => by
    obtain ⟨r, s1, q1, rfl, o, q2, q3 | q3⟩ := hb i hi
    · subst q3; exact ⟨s1, q1, .inl q2⟩
    · subst q3; exact ⟨s1, q1, .inr q2⟩
  refine ⟨o, xs_cons (xp_while S (fun i => if h : i < m then (hb' i h).choose else []) m (fun i hi => ?_) h1 hp) h2, h3⟩
  have q := (hb' i hi).choose_spec
  simp only [dif_pos hi]
  exact q
theorem ws_append (i : Nat) {s : Sv} {x : Str} {p1 apos cpos p2 : Pos} {Q : Out → Prop} (hi : st[i]? = some (some s)) (hK : X.K = c.K) (h : WE c X e st fun d st1 => ∃ xs, st1[i]? = some (some s) ∧ s.Has xs ∧ xs.length < 100000 ∧ WS c X rest (st1.set i (some (s.with (xs ++ [d])))) Q) (hN : X.N[i]? = some x := by rfl) (hv : Vis X.env.scope x := by first | exact Or.inl rfl | exact Or.inr (Or.inl rfl) | exact Or.inr (Or.inr rfl)) (hd : (x == ("__debug__" : Str)) = false := by decide)
    (hcd : (x == ("__classdict__" : Str)) = false := by decide) (hline : (apos.endLine == cpos.line) = true := by rfl) (hb : attributeBase (.Name x p1) "append" X.env (eval (.Name x p1) X.env) = eval (.Name x p1) X.env := by rfl)
    (hfew : ((backTo cpos (starEach (e :: []) X.env)).all (fun x => !x.1) && (backToKw cpos (keywordEach [] X.env)).all (fun x => x.1.isSome)
      && decide ((e :: []).length + ([] : List Keyword).length + (if ([] : List Keyword).isEmpty then 0 else 1) < 30)) = true := by rfl) (hst : starEach (e :: []) X.env = (false, eval e X.env) :: starEach [] X.env := by rfl) (hsw : swapsWith (.Call (.Attribute (.Name x p1) "append" apos) [e] [] cpos) none p2.line X.env = pure false := by rfl) :
    WS c X (.Expr (.Call (.Attribute (.Name x p1) "append" apos) [e] [] cpos) p2 :: rest) st Q := by
  obtain ⟨d, st1, h1, xs, h3, h4, h5, o, h6, h7⟩ := h
  exact ⟨o, xs_cons (xp_append i h1 hK hi h3 h4 h5 hN hv hd hcd hline hb hfew hst hsw) h6, h7⟩
/-- x[e1] = e2 -/
theorem ws_setI (k : Nat) {s : Sv} {x : Str} {p1 p2 ppos : Pos} {Q : Out → Prop} (hk0 : st[k]? = some (some s)) (h : WE c X e st fun d st1 => WE c X b st1 fun di st2 => ∃ (xs : List Dt) (m : Nat), di = .int m ∧ st1[k]? = some (some s) ∧ st2[k]? = some (some s) ∧ s.Has xs ∧ m < xs.length ∧ WS c X rest (st2.set k (some (s.with (xs.set m d)))) Q) (hN : X.N[k]? = some x := by rfl)
    (hv : Vis X.env.scope x := by first | exact Or.inl rfl | exact Or.inr (Or.inl rfl) | exact Or.inr (Or.inr rfl)) (hdb : (x == ("__debug__" : Str)) = false := by decide) (hcd : (x == ("__classdict__" : Str)) = false := by decide)
    (ha : ∀ v, assign (.Subscript (.Name x p1) b p2) X.env v = (do
      let ov ← holding [v] (eval (.Name x p1) X.env)
      let iv ← holding [v, ov] (eval b X.env)
      standAt p2
      holding [v, ov, iv] (setItem ov iv v)
      release [v, ov, iv] []) := by intro _; rfl)
    (hs1 : swapsWithSole [.Subscript (.Name x p1) b p2] e ppos.line X.env = pure false := by rfl) (hw : swappedStores [.Subscript (.Name x p1) b p2] e X.env = pure none := by rfl)
    (h1 : (assignEach [.Subscript (.Name x p1) b p2] X.env).map (·.2) = [assign (.Subscript (.Name x p1) b p2) X.env] := by rfl) : WS c X (.Assign [.Subscript (.Name x p1) b p2] e ppos :: rest) st Q := by
  obtain ⟨d, st1, q1, di, st2, q2, xs, m, rfl, q3, q4, q5, q6, o, q7, q8⟩ := h
  exact ⟨o, xs_cons (xp_setI k q1 q2 q3 q4 q5 rfl q6 hN hv hdb hcd ha hs1 hw h1) q7, q8⟩
/-- in an __init__: self.f = e -/
theorem ws_fld {n : Nat} {C : Addr} {ns : List Str} {f y : Str} {p1 p2 ppos : Pos} {Q : Out → Prop} (hT : c.T n = some (C, ns)) (hnd : ns.Nodup) (hcl : Cls X.K C) (hna : NoAttr X.K C f) (h : WE c X e st fun d st1 => ∃ fs, st1[0]? = some (some (.bo n fs)) ∧ ns[fs.length]? = some f ∧ fs.length < 1000 ∧ WS c X rest (st1.set 0 (some (.bo n (fs ++ [d])))) Q)
    (hN : X.N[0]? = some y := by rfl) (hv : Vis X.env.scope y := by first | exact Or.inl rfl | exact Or.inr (Or.inl rfl) | exact Or.inr (Or.inr rfl)) (hd : (y == ("__debug__" : Str)) = false := by decide) (hcd : (y == ("__classdict__" : Str)) = false := by decide)
    (hs : swapsWith e (some (.Attribute (.Name y p1) f p2)) ppos.line X.env = pure false := by rfl) : WS c X (.Assign [.Attribute (.Name y p1) f p2] e ppos :: rest) st Q := by
  obtain ⟨d, st1, h1, fs, h2, h3, h4, o, h5, h6⟩ := h
  exact ⟨o, xs_cons (xp_fldset h1 hT hnd hcl hna h2 h3 h4 hN hv hd hcd hs) h5, h6⟩
theorem we_int {Q : Dt → Store → Prop} {i : Int} {j} (h : Q (.int i) st) : WE c X (.Constant (.int i) j pos) st Q := ⟨_, _, xd_int, h⟩
theorem we_bl {Q : Dt → Store → Prop} {r : Bool} {j} (h : Q (.bl r) st) : WE c X (.Constant (.bool r) j pos) st Q := ⟨_, _, xd_bl, h⟩
theorem we_non {Q : Dt → Store → Prop} {j} (h : Q .non st) : WE c X (.Constant .none j pos) st Q := ⟨_, _, xd_non, h⟩
theorem we_str {Q : Dt → Store → Prop} (l : List Nat) {x : Str} {j} (h : Q (.str (sx l)) st) (e : x = sx l := by rfl) : WE c X (.Constant (.str x) j pos) st Q := by subst e; exact ⟨_, _, xd_str, h⟩
theorem we_var (i : Nat) {x : Str} {Q : Dt → Store → Prop} (hs : st[i]? = some (some (.fr d))) (h : Q d st) (hN : X.N[i]? = some x := by rfl) (hv : Vis X.env.scope x := by first | exact Or.inl rfl | exact Or.inr (Or.inl rfl) | exact Or.inr (Or.inr rfl)) (hd : (x == ("__debug__" : Str)) = false := by decide)
    (hcd : (x == ("__classdict__" : Str)) = false := by decide) : WE c X (.Name x pos) st Q := ⟨_, _, xd_var i hs hN hv hd hcd, h⟩
theorem we_is {Q : Dt → Store → Prop} (h : XD c X e st d st1) (k : Q d st1) : WE c X e st Q := ⟨_, _, h, k⟩
theorem wt_is {Q : Bool → Store → Prop} {r : Bool} (h : XT c X e st r st1) (k : Q r st1) : WT c X e st Q := ⟨_, _, h, k⟩
theorem wi_is {Q : List Dt → Store → Prop} (h : XI c X tg iter st ds st1) (k : Q ds st1) : WI c X tg iter st Q := ⟨_, _, h, k⟩
/-- an operator between data -/
def BinR (c : Ctx) (X : Cx) (op : Operator) (d1 d2 : Dt) (Q : Dt → Prop) : Prop := ∃ d, (∀ a b st st1 st2 pos, XD c X a st d1 st1 → XD c X b st1 d2 st2 → XD c X (.BinOp a op b pos) st d st2) ∧ Q d
theorem we_bin {op : Operator} {Q : Dt → Store → Prop} (h : WE c X a st fun d1 st1 => WE c X b st1 fun d2 st2 => BinR c X op d1 d2 fun d => Q d st2) : WE c X (.BinOp a op b pos) st Q := by
  obtain ⟨d1, st1, h1, d2, st2, h2, d, h3, h4⟩ := h
  exact ⟨d, st2, h3 _ _ _ _ _ _ h1 h2, h4⟩
theorem br_add {Q : Dt → Prop} (h : Q (.int (i + j))) : BinR c X .Add (.int i) (.int j) Q := ⟨_, fun _ _ _ _ _ _ h1 h2 => xd_add h1 h2, h⟩
theorem br_sub {Q : Dt → Prop} (h : Q (.int (i - j))) : BinR c X .Sub (.int i) (.int j) Q := ⟨_, fun _ _ _ _ _ _ h1 h2 => xd_sub h1 h2, h⟩
theorem br_mul {Q : Dt → Prop} (k : IntMulOk i j) (h : Q (.int (i * j))) : BinR c X .Mult (.int i) (.int j) Q := ⟨_, fun _ _ _ _ _ _ h1 h2 => xd_mul h1 h2 k, h⟩
theorem br_mod {Q : Dt → Prop} (k : 0 < j) (h : Q (.int (i % j))) : BinR c X .Mod (.int i) (.int j) Q := ⟨_, fun _ _ _ _ _ _ h1 h2 => xd_mod h1 h2 k, h⟩
theorem br_fdiv {Q : Dt → Prop} (k : j ≠ 0) (k2 : j.natAbs.log2 < 9000) (h : Q (.int (i.fdiv j))) : BinR c X .FloorDiv (.int i) (.int j) Q := ⟨_, fun _ _ _ _ _ _ h1 h2 => xd_fdiv h1 h2 k k2, h⟩
theorem br_addX {Q : Dt → Prop} (k : l.length + l'.length ≤ 100000) (h : Q (.str (sx (l ++ l')))) : BinR c X .Add (.str (sx l)) (.str (sx l')) Q := ⟨_, fun _ _ _ _ _ _ h1 h2 => xd_addX h1 h2 k, h⟩
theorem br_cat {Q : Dt → Prop} (k : xs.length + ys.length ≤ 100000) (h : Q (.lst (xs ++ ys))) : BinR c X .Add (.lst xs) (.lst ys) Q := ⟨_, fun _ _ _ _ _ _ h1 h2 => xd_cat h1 h2 k, h⟩
theorem we_neg {Q : Dt → Store → Prop} (h : WE c X a st fun d1 st1 => ∃ i, d1 = .int i ∧ Q (.int (-i)) st1) : WE c X (.UnaryOp .USub a pos) st Q := by
  obtain ⟨d1, st1, h1, i, rfl, h2⟩ := h
  exact ⟨_, _, xd_neg h1, h2⟩
/-- a comparison between data, as a value and as a test -/
def CmpR (c : Ctx) (X : Cx) (op : CmpOp) (d1 d2 : Dt) (Q : Bool → Prop) : Prop := ∃ r, (∀ a b st st1 st2 pos, behindInMarks op b = false → XD c X a st d1 st1 → XD c X b st1 d2 st2 → XD c X (.Compare a [op] [b] pos) st (.bl r) st2 ∧ XT c X (.Compare a [op] [b] pos) st r st2) ∧ Q r
theorem we_cmp {op : CmpOp} {Q : Dt → Store → Prop} (h : WE c X a st fun d1 st1 => WE c X b st1 fun d2 st2 => CmpR c X op d1 d2 fun r => Q (.bl r) st2) (hm : behindInMarks op b = false := by first | rfl | exact nomark _) : WE c X (.Compare a [op] [b] pos) st Q := by
  obtain ⟨d1, st1, h1, d2, st2, h2, r, h3, h4⟩ := h
  exact ⟨_, st2, (h3 _ _ _ _ _ _ hm h1 h2).1, h4⟩
theorem wt_cmp {op : CmpOp} {Q : Bool → Store → Prop} (h : WE c X a st fun d1 st1 => WE c X b st1 fun d2 st2 => CmpR c X op d1 d2 fun r => Q r st2) (hm : behindInMarks op b = false := by first | rfl | exact nomark _) : WT c X (.Compare a [op] [b] pos) st Q := by
  obtain ⟨d1, st1, h1, d2, st2, h2, r, h3, h4⟩ := h
  exact ⟨_, st2, (h3 _ _ _ _ _ _ hm h1 h2).2, h4⟩
theorem cr_of {op : CmpOp} {R : R2} {r : Bool} {Q : Bool → Prop} (ho : OpR X (compareOp op) R) (hv : Op2 c d1 d2 (.bl r) R) (h : Q r) : CmpR c X op d1 d2 Q := ⟨r, fun _ _ _ _ _ _ hm h1 h2 => ⟨xd_cmp h1 h2 ho hv hm, xt_cmp h1 h2 ho hv hm⟩, h⟩
theorem cr_lt {Q : Bool → Prop} (h : Q (decide (i < j))) : CmpR c X .Lt (.int i) (.int j) Q := cr_of op_lt o_B0 h
theorem cr_le {Q : Bool → Prop} (h : Q (decide (i ≤ j))) : CmpR c X .LtE (.int i) (.int j) Q := cr_of op_le o_B0 h
theorem cr_gt {Q : Bool → Prop} (h : Q (decide (j < i))) : CmpR c X .Gt (.int i) (.int j) Q := cr_of op_gt o_B0 h
theorem cr_eqI {Q : Bool → Prop} (h : Q (decide (i = j))) : CmpR c X .Eq (.int i) (.int j) Q := cr_of op_eq (o_eqS rfl rfl rfl dec_I) h
theorem cr_neI {Q : Bool → Prop} (h : Q (!decide (i = j))) : CmpR c X .NotEq (.int i) (.int j) Q := cr_of op_ne (o_neS rfl rfl rfl (by rw [dec_I])) h
theorem dec_sx : decide (V.str (sx l) = V.str (sx l')) = decide (l = l') := by
  by_cases h : l = l'
  · subst h; rw [decide_eq_true rfl, decide_eq_true rfl]
  · rw [decide_eq_false h, decide_eq_false fun z => h (sx_inj (by injection z))]
theorem cr_eqX {Q : Bool → Prop} (h : Q (decide (l = l'))) : CmpR c X .Eq (.str (sx l)) (.str (sx l')) Q := cr_of op_eq (o_eqS rfl rfl rfl dec_sx) h
theorem cr_neX {Q : Bool → Prop} (h : Q (!decide (l = l'))) : CmpR c X .NotEq (.str (sx l)) (.str (sx l')) Q := cr_of op_ne (o_neS rfl rfl rfl (by rw [dec_sx])) h
theorem dec_bl {r u : Bool} : decide (V.bl r = V.bl u) = decide (r = u) := by cases r <;> cases u <;> rfl
theorem cr_eqB {r u : Bool} {Q : Bool → Prop} (h : Q (decide (r = u))) : CmpR c X .Eq (.bl r) (.bl u) Q := cr_of op_eq (o_eqS rfl rfl rfl dec_bl) h
theorem cr_neB {r u : Bool} {Q : Bool → Prop} (h : Q (!decide (r = u))) : CmpR c X .NotEq (.bl r) (.bl u) Q := cr_of op_ne (o_neS rfl rfl rfl (by rw [dec_bl])) h
/-- tests -/
theorem wt_val {Q : Bool → Store → Prop} (h : WE c X e st fun d st1 => ∃ r, d = .bl r ∧ Q r st1) (he : ∀ whole, isTrue e X.env whole = (do let v ← whole; standAt e.pos; holding [v] (truthy v)) := by intro _; rfl) : WT c X e st Q := by
  obtain ⟨d, st1, h1, r, rfl, h2⟩ := h
  exact ⟨r, st1, xt_val h1 he, h2⟩
theorem wt_not {Q : Bool → Store → Prop} (h : WT c X a st fun r st1 => Q (!r) st1) : WT c X (.UnaryOp .Not a pos) st Q := by
  obtain ⟨r, st1, h1, h2⟩ := h
  exact ⟨_, _, xt_not h1, h2⟩
theorem wt_of {Q : Bool → Store → Prop} (h : WW c X e st Q) : WT c X e st Q := by
  obtain ⟨r, st1, h1, h2⟩ := h
  exact ⟨_, _, xw_pt h1, h2⟩
theorem ww_and {es : List Expr} {Q : Bool → Store → Prop} (h : WT c X a st fun r st1 => IfK r (WW c X (.BoolOp .And (b :: es) pos) st1 Q) (Q false st1)) : WW c X (.BoolOp .And (a :: b :: es) pos) st Q := by
  obtain ⟨r, st1, h1, h2, h3⟩ := h
  cases r with
  | true => obtain ⟨u, st2, q1, q2⟩ := h2 rfl; exact ⟨u, st2, xw_andT h1 q1, q2⟩
  | false => exact ⟨_, _, xw_andF h1, h3 rfl⟩
theorem ww_or {es : List Expr} {Q : Bool → Store → Prop} (h : WT c X a st fun r st1 => IfK r (Q true st1) (WW c X (.BoolOp .Or (b :: es) pos) st1 Q)) : WW c X (.BoolOp .Or (a :: b :: es) pos) st Q := by
  obtain ⟨r, st1, h1, h2, h3⟩ := h
  cases r with
  | true => exact ⟨_, _, xw_orT h1, h2 rfl⟩
  | false => obtain ⟨u, st2, q1, q2⟩ := h3 rfl; exact ⟨u, st2, xw_orF h1 q1, q2⟩
theorem ww_and1 {Q : Bool → Store → Prop} (h : WT c X a st Q) : WW c X (.BoolOp .And [a] pos) st Q := by
  obtain ⟨r, st1, h1, h2⟩ := h; exact ⟨_, _, xw_and1 h1, h2⟩
theorem ww_or1 {Q : Bool → Store → Prop} (h : WT c X a st Q) : WW c X (.BoolOp .Or [a] pos) st Q := by
  obtain ⟨r, st1, h1, h2⟩ := h; exact ⟨_, _, xw_or1 h1, h2⟩
theorem we_one {op} {Q : Dt → Store → Prop} (h : WE c X a st Q) : WE c X (.BoolOp op [a] pos) st Q := by
  obtain ⟨d, st1, h1, h2⟩ := h; exact ⟨_, _, xd_one h1, h2⟩
theorem xd_andV {es : List Expr} (h : XD c X a st (.bl true) st1) (h2 : XD c X (.BoolOp .And (b :: es) pos) st1 d st2) : XD c X (.BoolOp .And (a :: b :: es) pos) st d st2 :=
  ⟨pe_weak (pe_and h.pe h2.pe) fun σ H Q ⟨G, E, k⟩ => ⟨G, E, fun v G1 H1 g1 E1 r1 => by cases r1; exact ⟨true, rfl, by refine L2.iteT ?_; exact ⟨G1, E1, fun v G2 H2 g2 E2 r2 => k v G2 H2 (g1.trans g2) E2 r2⟩⟩⟩⟩
theorem xd_andW {es : List Expr} (h : XD c X a st (.bl false) st1) : XD c X (.BoolOp .And (a :: b :: es) pos) st (.bl false) st1 :=
  ⟨pe_weak (pe_and h.pe pe_never) fun σ H Q ⟨G, E, k⟩ => ⟨G, E, fun v G1 H1 g1 E1 r1 => by cases r1; exact ⟨false, rfl, by refine L2.iteF ?_; exact k _ G1 H1 g1 E1 .bl⟩⟩⟩
theorem we_and {es : List Expr} {Q : Dt → Store → Prop} (h : WE c X a st fun d st1 => ∃ r, d = .bl r ∧ IfK r (WE c X (.BoolOp .And (b :: es) pos) st1 Q) (Q (.bl false) st1)) : WE c X (.BoolOp .And (a :: b :: es) pos) st Q := by
  obtain ⟨d, st1, h1, r, rfl, h2, h3⟩ := h
  cases r with
  | true => obtain ⟨u, st2, q1, q2⟩ := h2 rfl; exact ⟨u, st2, xd_andV h1 q1, q2⟩
  | false => exact ⟨_, _, xd_andW h1, h3 rfl⟩
theorem we_if {Q : Dt → Store → Prop} (h : WT c X t st fun r st1 => IfK r (WE c X a st1 Q) (WE c X b st1 Q)) : WE c X (.IfExp t a b pos) st Q := by
  obtain ⟨r, st1, h1, h2, h3⟩ := h
  cases r with
  | true => obtain ⟨d, st2, q1, q2⟩ := h2 rfl; exact ⟨d, st2, xd_if h1 (fun _ => q1) (fun z => nomatch z), q2⟩
  | false => obtain ⟨d, st2, q1, q2⟩ := h3 rfl; exact ⟨d, st2, xd_if h1 (fun z => nomatch z) (fun _ => q1), q2⟩
theorem wa_nil {Q : List Dt → Store → Prop} (h : Q [] st) : WA c X [] st Q := ⟨_, _, xa_nil, h⟩
theorem wa_cons {Q : List Dt → Store → Prop} (h : WE c X e st fun d st1 => WA c X es st1 fun ds st2 => Q (d :: ds) st2) (hs : starEach (e :: es) X.env = (false, eval e X.env) :: starEach es X.env := by rfl) : WA c X (e :: es) st Q := by
  obtain ⟨d, st1, h1, ds, st2, h2, h3⟩ := h
  exact ⟨_, _, xa_cons h1 h2 hs, h3⟩
theorem we_tup {x1} {Q : Dt → Store → Prop} (h : WA c X es st fun ds st1 => ds.length ≤ 100000 ∧ Q (.tup ds) st1) : WE c X (.Tuple es x1 pos) st Q := by
  obtain ⟨ds, st1, h1, h2, h3⟩ := h
  exact ⟨_, _, xd_tup h1 h2, h3⟩
theorem we_lst {Q : Dt → Store → Prop} (h : WA c X es st fun ds st1 => ds.length ≤ 100000 ∧ Q (.lst ds) st1) : WE c X (.List es pos) st Q := by
  obtain ⟨ds, st1, h1, h2, h3⟩ := h
  exact ⟨_, _, xd_lst h1 h2, h3⟩
theorem wl_lst {Q : List Dt → Store → Prop} (h : WA c X es st fun ds st1 => ds.length ≤ 100000 ∧ Q ds st1) : WL c X (.List es pos) st Q := by
  obtain ⟨ds, st1, h1, h2, h3⟩ := h
  exact ⟨_, _, xl_lst h1 h2, h3⟩
theorem we_xl {Q : Dt → Store → Prop} (h : WL c X e st fun xs st1 => Q (.lst xs) st1) : WE c X e st Q := by
  obtain ⟨xs, st1, h1, h2⟩ := h
  exact ⟨_, _, xd_xl h1, h2⟩
/-- items -/
def IxR (c : Ctx) (X : Cx) (d1 d2 : Dt) (Q : Dt → Prop) : Prop := ∃ d, (∀ a b st st1 st2 pos, PlainIx b → XD c X a st d1 st1 → XD c X b st1 d2 st2 → XD c X (.Subscript a b pos) st d st2) ∧ Q d
theorem we_ix {Q : Dt → Store → Prop} (h : WE c X a st fun d1 st1 => WE c X b st1 fun d2 st2 => Dv.IxR c X d1 d2 fun d => Q d st2) (hs : PlainIx b := by exact fun _ _ => rfl) : WE c X (.Subscript a b pos) st Q := by
  obtain ⟨d1, st1, h1, d2, st2, h2, d, h3, h4⟩ := h
  exact ⟨_, _, h3 _ _ _ _ _ _ hs h1 h2, h4⟩
theorem ix_t {m : Nat} {Q : Dt → Prop} (hK : X.K = c.K) (hn : i = m) (hd : ds[m]? = some d) (h : Q d) : Dv.IxR c X (.tup ds) (.int i) Q := ⟨_, fun _ _ _ _ _ _ hs h1 h2 => xd_ixT h1 h2 hn hd hK hs, h⟩
theorem ix_l {m : Nat} {Q : Dt → Prop} (hK : X.K = c.K) (hn : i = m) (hd : ds[m]? = some d) (h : Q d) : Dv.IxR c X (.lst ds) (.int i) Q := ⟨_, fun _ _ _ _ _ _ hs h1 h2 => xd_ixL h1 h2 hn hd hK hs, h⟩
theorem ix_x {m q : Nat} {Q : Dt → Prop} (hl : l.length ≤ 100000) (hn : i = m) (hd : l[m]? = some q) (h : Q (.str (sx [q]))) : Dv.IxR c X (.str (sx l)) (.int i) Q := ⟨_, fun _ _ _ _ _ _ hs h1 h2 => xd_ixX h1 h2 hl hn hd hs, h⟩
/-- x[e] of one's own list -/
theorem we_ixO (k : Nat) {s : Sv} {x : Str} {p1 : Pos} {Q : Dt → Store → Prop} (hk0 : st[k]? = some (some s)) (h : WE c X b st fun di st1 => ∃ (m : Nat) (d : Dt) (xs : List Dt), st1[k]? = some (some s) ∧ s.Has xs ∧ di = .int m ∧ xs[m]? = some d ∧ Q d st1) (hN : X.N[k]? = some x := by rfl)
    (hv : Vis X.env.scope x := by first | exact Or.inl rfl | exact Or.inr (Or.inl rfl) | exact Or.inr (Or.inr rfl)) (hdb : (x == ("__debug__" : Str)) = false := by decide) (hcd : (x == ("__classdict__" : Str)) = false := by decide) (hp : PlainIx b := by exact fun _ _ => rfl) : WE c X (.Subscript (.Name x p1) b pos) st Q := by
  obtain ⟨di, st1, h1, m, d, xs, h3, h4, rfl, h6, h7⟩ := h
  exact ⟨_, _, xd_ixO k h1 hk0 h3 h4 rfl h6 hN hv hdb hcd hp, h7⟩
/-- slices -/
def CutR (c : Ctx) (X : Cx) (lo : Bool) (d1 d2 : Dt) (Q : Dt → Prop) : Prop := ∃ d, (∀ a b st st1 st2 pos p2, XD c X a st d1 st1 → XD c X b st1 d2 st2 → XD c X (.Subscript a (if lo = true then .Slice (some b) none none p2 else .Slice none (some b) none p2) pos) st d st2) ∧ Q d
theorem we_cutHi {Q : Dt → Store → Prop} {p2 : Pos} (h : WE c X a st fun d1 st1 => WE c X b st1 fun d2 st2 => CutR c X false d1 d2 fun d => Q d st2) : WE c X (.Subscript a (.Slice none (some b) none p2) pos) st Q := by
  obtain ⟨d1, st1, h1, d2, st2, h2, d, h3, h4⟩ := h
  exact ⟨_, _, h3 _ _ _ _ _ _ _ h1 h2, h4⟩
theorem we_cutLo {Q : Dt → Store → Prop} {p2 : Pos} (h : WE c X a st fun d1 st1 => WE c X b st1 fun d2 st2 => CutR c X true d1 d2 fun d => Q d st2) : WE c X (.Subscript a (.Slice (some b) none none p2) pos) st Q := by
  obtain ⟨d1, st1, h1, d2, st2, h2, d, h3, h4⟩ := h
  exact ⟨_, _, h3 _ _ _ _ _ _ _ h1 h2, h4⟩
theorem cut_hiX {Q : Dt → Prop} (hj : 0 ≤ j) (hz : l.length ≤ 100000) (h : Q (.str (sx (l.take j.toNat)))) : CutR c X false (.str (sx l)) (.int j) Q := ⟨_, fun _ _ _ _ _ _ _ h1 h2 => xd_cutHiX h1 h2 hj hz, h⟩
theorem cut_loX {Q : Dt → Prop} (hj : 0 ≤ j) (hz : l.length ≤ 100000) (h : Q (.str (sx (l.drop j.toNat)))) : CutR c X true (.str (sx l)) (.int j) Q := ⟨_, fun _ _ _ _ _ _ _ h1 h2 => xd_cutLoX h1 h2 hj hz, h⟩
end
end Dv
set_option autoImplicit false
set_option maxRecDepth 100000
set_option maxHeartbeats 4000000
namespace Dv
open PySem PySem.Spec PyProof.Rows L2
def rg (n : Nat) (F : Nat → Dt) : List Dt := (List.range n).map F
theorem map_get {α : Type} {l : List α} {F : α → Dt} {i : Nat} {d : Dt} (h : (l.map F)[i]? = some d) : ∃ x, l[i]? = some x ∧ d = F x := by
  rw [List.getElem?_map] at h
  cases e : l[i]? with
  | none => rw [e] at h; cases h
  | some x => rw [e] at h; cases h; exact ⟨x, rfl, rfl⟩
theorem rg_len (n : Nat) (F : Nat → Dt) : (rg n F).length = n := by unfold rg; simp
theorem rg_get {w i : Nat} {g : Nat → Dt} {d : Dt} (h : (rg w g)[i]? = some d) : i < w ∧ d = g i := by
  unfold rg at h
  rw [List.getElem?_map] at h
  by_cases q : i < w
  · rw [List.getElem?_range q] at h; cases h; exact ⟨q, rfl⟩
  · rw [List.getElem?_eq_none (by simpa using q)] at h; cases h
theorem rg_at {w i : Nat} {g : Nat → Dt} (h : i < w) : (rg w g)[i]? = some (g i) := by
  unfold rg
  rw [List.getElem?_map, List.getElem?_range h]; rfl
section
variable {c : Ctx} {X : Cx} {st st1 st2 st3 : Store} {a b e e2 tg iter elt t : Expr} {es : List Expr} {d d1 d2 d3 d' : Dt} {ds xs ys zs fs gs vs : List Dt} {pos : Pos} {i j : Int} {body rest orelse A B : List Stmt} {s : Stmt} {o : Out} {n k m : Nat} {l l' : List Nat}
theorem we_df {x : Str} {k : Nat} {R : List Dt → Dt → Prop} {p : Pos} {Q : Dt → Store → Prop} (F : DF X.prog X.w X.K c.T X.mg X.base x k R) (hK : X.K = c.K) (hr : Room k X.A) (h : WA c X (e :: es) st fun ds st1 => ∃ d, R ds d ∧ Q d st1) (hg : Gl X x := by rfl) (hdb : (x == ("__debug__" : Str)) = false := by decide) (he : starEach (e :: es) X.env = (false, eval e X.env) :: starEach es X.env := by rfl) (hpl : (backTo pos (starEach es X.env)).any (·.1) = false := by rfl) :
    WE c X (.Call (.Name x p) (e :: es) [] pos) st Q := by
  obtain ⟨ds, st1, h1, d, h2, h3⟩ := h
  exact ⟨_, _, xd_df F hK hr h1 h2 hg hdb he hpl, h3⟩
/-- a def that changes the list in slot i -/
theorem we_dm (i : Nat) {s : Sv} {x y : Str} {k : Nat} {R : List Dt → List Dt → Dt → List Dt → Prop} {p py : Pos} {Q : Dt → Store → Prop} (hi : st[i]? = some (some s)) (F : DM X.prog X.w X.K c.T X.mg X.base x k R) (hK : X.K = c.K) (hr : Room k X.A) (h : WA c X es st fun ds st1 => ∃ xs d ys, st1[i]? = some (some s) ∧ s.Has xs ∧ R xs ds d ys ∧ Q d (st1.set i (some (s.with ys)))) (hg : Gl X x := by rfl) (hdb : (x == ("__debug__" : Str)) = false := by decide)
    (hN : X.N[i]? = some y := by rfl) (hv : Vis X.env.scope y := by first | exact Or.inl rfl | exact Or.inr (Or.inl rfl) | exact Or.inr (Or.inr rfl)) (hd : (y == ("__debug__" : Str)) = false := by decide) (hcd : (y == ("__classdict__" : Str)) = false := by decide)
    (he : starEach (.Name y py :: es) X.env = (false, eval (.Name y py) X.env) :: starEach es X.env := by rfl) (hpl : (backTo pos (starEach es X.env)).any (·.1) = false := by rfl) :
    WE c X (.Call (.Name x p) (.Name y py :: es) [] pos) st Q := by
  obtain ⟨ds, st1, h1, xs, d, ys, h3, h4, h5, h6⟩ := h
  exact ⟨_, _, xd_dm i F hK hr h1 hi h3 h4 h5 hg hdb hN hv hd hcd he hpl, h6⟩
/-- a def that hands out a new list -/
theorem wl_dl {x : Str} {k : Nat} {R : List Dt → List Dt → Prop} {p : Pos} {Q : List Dt → Store → Prop} (F : DL X.prog X.w X.K c.T X.mg X.base x k R) (hK : X.K = c.K) (hr : Room k X.A) (h : WA c X (e :: es) st fun ds st1 => ∃ xs, R ds xs ∧ Q xs st1) (hg : Gl X x := by rfl) (hdb : (x == ("__debug__" : Str)) = false := by decide) (he : starEach (e :: es) X.env = (false, eval e X.env) :: starEach es X.env := by rfl) (hpl : (backTo pos (starEach es X.env)).any (·.1) = false := by rfl) :
    WL c X (.Call (.Name x p) (e :: es) [] pos) st Q := by
  obtain ⟨ds, st1, h1, xs, h2, h3⟩ := h
  exact ⟨_, _, xl_dl F hK hr h1 h2 hg hdb he hpl, h3⟩
theorem we_mf {m : Str} {apos : Pos} {pl : Sem Bool} {n k : Nat} {R : List Dt → Dt → Prop} {x : Str} {C : Addr} {ns : List Str} {Q : Dt → Store → Prop} (q : CF X.K c.T X.mg x n C ns) (F : MF X.prog X.w X.K c.T X.mg X.base C m k R) (hK : X.K = c.K) (hr : Room k X.A)
    (h : WE c X b st fun d0 st1 => ∃ fs, d0 = .obj n fs ∧ WA c X (e :: es) st1 fun ds st2 => ∃ d, R (.obj n fs :: ds) d ∧ Q d st2) (hno : ns.contains m = false := by decide +kernel)
    (hst : starEach (e :: es) X.env = (false, eval e X.env) :: starEach es X.env := by rfl) (hpl : (backTo pos (starEach es X.env)).any (·.1) = false := by rfl)
    (ht : eval (.Call (.Attribute b m apos) (e :: es) [] pos) X.env = (do
      let ov ← eval b X.env
      standAt apos.atName
      let (f, first) ← holding [ov] (getMethod ov m pl)
      callWith pos f first (backTo pos (starEach (e :: es) X.env)) (backToKw pos (keywordEach [] X.env))) := by rfl) :
    WE c X (.Call (.Attribute b m apos) (e :: es) [] pos) st Q := by
  obtain ⟨d0, st1, h1, fs, rfl, ds, st2, h2, d, h3, h4⟩ := h
  exact ⟨_, _, xd_mf h1 q F hK hr h2 h3 hno hst hpl ht, h4⟩
theorem we_mk {n k : Nat} {Rf : List Dt → List Dt → Prop} {x : Str} {C : Addr} {ns : List Str} {p : Pos} {dds : List Dt} {Q : Dt → Store → Prop} (q : CF X.K c.T X.mg x n C ns) (F : IF' X.prog X.w X.K c.T X.mg X.base n C dds k Rf) (hK : X.K = c.K) (hr : Room (k + 1) X.A)
    (h : WA c X (e :: es) st fun ds st1 => ∃ fs, Rf (ds ++ dds) fs ∧ Q (.obj n fs) st1) (hg : Gl X x := by rfl) (hdb : (x == ("__debug__" : Str)) = false := by decide) (he : starEach (e :: es) X.env = (false, eval e X.env) :: starEach es X.env := by rfl) (hpl : (backTo pos (starEach es X.env)).any (·.1) = false := by rfl) :
    WE c X (.Call (.Name x p) (e :: es) [] pos) st Q := by
  obtain ⟨ds, st1, h1, fs, h2, h3⟩ := h
  exact ⟨_, _, xd_mk q F hK hr h1 h2 hg hdb he hpl, h3⟩
theorem we_ff (i : Nat) {n : Nat} {x : Str} {C : Addr} {ns : List Str} {f : Str} {Q : Dt → Store → Prop} (q : CF X.K c.T X.mg x n C ns) (hK : X.K = c.K) (hna : NoAttr X.K C f) (h : WE c X e st fun d0 st1 => ∃ fs d, d0 = .obj n fs ∧ fs[i]? = some d ∧ Q d st1) (hi : ns.findIdx? (· == f) = some i := by decide +kernel)
    (hb : attributeBase e f X.env (eval e X.env) = eval e X.env := by rfl) : WE c X (.Attribute e f pos) st Q := by
  obtain ⟨d0, st1, h1, fs, d, rfl, h2, h3⟩ := h
  exact ⟨_, _, xd_ff i h1 q hK hna h2 hi hb, h3⟩
theorem we_lenF {n k : Nat} {R : List Dt → Dt → Prop} {x : Str} {C : Addr} {ns : List Str} {p : Pos} {Q : Dt → Store → Prop} (q : CF X.K c.T X.mg x n C ns) (F : MF X.prog X.w X.K c.T X.mg X.base C "__len__" k R) (hK : X.K = c.K) (hr : Room (k + 1) X.A) (hm : X.mg "len" = none)
    (h : WE c X e st fun d0 st1 => ∃ fs m, d0 = .obj n fs ∧ R [.obj n fs] (.int m) ∧ 0 ≤ m ∧ m < 2 ^ 63 ∧ Q (.int m) st1) (hg : Gl X "len" := by rfl) (he : starEach (e :: []) X.env = (false, eval e X.env) :: starEach [] X.env := by rfl) (hpl : (backTo pos (starEach [] X.env)).any (·.1) = false := by rfl) :
    WE c X (.Call (.Name "len" p) [e] [] pos) st Q := by
  obtain ⟨d0, st1, h1, fs, m, rfl, h2, h3, h4, h5⟩ := h
  exact ⟨_, _, xd_lenF h1 q F hK hr h2 h3 h4 hm hg he hpl, h5⟩
theorem cr_eqF {n k : Nat} {R : List Dt → Dt → Prop} {x : Str} {C : Addr} {ns : List Str} {r : Bool} {Q : Bool → Prop} (q : CF X.K c.T X.mg x n C ns) (F : MF X.prog X.w X.K c.T X.mg X.base C "__eq__" k R) (hK : X.K = c.K) (hr : Room k X.A)
    (hR : R [.obj n fs, .obj n gs] (.bl r)) (h : Q r) : CmpR c X .Eq (.obj n fs) (.obj n gs) Q := ⟨r, fun _ _ _ _ _ _ _ h1 h2 => ⟨xd_eqF h1 h2 q F hK hr hR, xt_eqF h1 h2 q F hK hr hR⟩, h⟩
def LenR (d : Dt) (Q : Dt → Prop) : Prop := (∃ ds, (d = .lst ds ∨ d = .ro ds ∨ d = .tup ds) ∧ Q (.int (ds.length : Int))) ∨ ∃ l, d = .str (sx l) ∧ l.length ≤ 100000 ∧ Q (.int (l.length : Int))
theorem len_l {Q : Dt → Prop} (h : Q (.int (ds.length : Int))) : LenR (.lst ds) Q := .inl ⟨ds, .inl rfl, h⟩
theorem len_r {Q : Dt → Prop} (h : Q (.int (ds.length : Int))) : LenR (.ro ds) Q := .inl ⟨ds, .inr (.inl rfl), h⟩
theorem len_t {Q : Dt → Prop} (h : Q (.int (ds.length : Int))) : LenR (.tup ds) Q := .inl ⟨ds, .inr (.inr rfl), h⟩
theorem len_x {Q : Dt → Prop} (hz : l.length ≤ 100000) (h : Q (.int (l.length : Int))) : LenR (.str (sx l)) Q := .inr ⟨l, rfl, hz, h⟩
theorem we_len {p : Pos} {Q : Dt → Store → Prop} (hK : X.K = c.K) (hm : X.mg "len" = none) (h : WE c X e st fun d st1 => LenR d fun r => Q r st1) (hg : Gl X "len" := by rfl) (he : starEach (e :: []) X.env = (false, eval e X.env) :: starEach [] X.env := by rfl) (hpl : (backTo pos (starEach [] X.env)).any (·.1) = false := by rfl) :
    WE c X (.Call (.Name "len" p) [e] [] pos) st Q := by
  obtain ⟨d, st1, h1, ⟨ds, h2, h3⟩ | ⟨l, rfl, h2, h3⟩⟩ := h
  · exact ⟨_, _, xd_len h1 h2 hK hm hg he hpl, h3⟩
  · exact ⟨_, _, xd_lenX h1 h2 hm hg he hpl, h3⟩
theorem we_intc {p : Pos} {Q : Dt → Store → Prop} (hm : X.mg "int" = none) (h : WE c X e st fun d st1 => ∃ i, d = .int i ∧ Q (.int i) st1) (hg : Gl X "int" := by rfl) (he : starEach (e :: []) X.env = (false, eval e X.env) :: starEach [] X.env := by rfl) (hpl : (backTo pos (starEach [] X.env)).any (·.1) = false := by rfl) :
    WE c X (.Call (.Name "int" p) [e] [] pos) st Q := by
  obtain ⟨d, st1, h1, i, rfl, h2⟩ := h
  exact ⟨_, _, xd_intI h1 hm hg he hpl, h2⟩
theorem we_abs {p : Pos} {Q : Dt → Store → Prop} (hm : X.mg "abs" = none) (h : WE c X e st fun d st1 => ∃ i, d = .int i ∧ Q (.int (i.natAbs : Int)) st1) (hg : Gl X "abs" := by rfl) (he : starEach (e :: []) X.env = (false, eval e X.env) :: starEach [] X.env := by rfl) (hpl : (backTo pos (starEach [] X.env)).any (·.1) = false := by rfl) :
    WE c X (.Call (.Name "abs" p) [e] [] pos) st Q := by
  obtain ⟨d, st1, h1, i, rfl, h2⟩ := h
  exact ⟨_, _, xd_abs h1 hm hg he hpl, h2⟩
theorem we_list {p : Pos} {Q : Dt → Store → Prop} (hK : X.K = c.K) (hm : X.mg "list" = none) (h : WE c X e st fun d st1 => ∃ ds, (d = .lst ds ∨ d = .ro ds ∨ d = .tup ds) ∧ Q (.lst ds) st1) (hg : Gl X "list" := by rfl) (he : starEach (e :: []) X.env = (false, eval e X.env) :: starEach [] X.env := by rfl) (hpl : (backTo pos (starEach [] X.env)).any (·.1) = false := by rfl) :
    WE c X (.Call (.Name "list" p) [e] [] pos) st Q := by
  obtain ⟨d, st1, h1, ds, h2, h3⟩ := h
  exact ⟨_, _, xd_list h1 h2 hK hm hg he hpl, h3⟩
theorem we_isTy {y : Str} {id : String} {p p2 : Pos} {Q : Dt → Store → Prop} (hK : X.K = c.K) (hm : X.mg "isinstance" = none) (hy : X.mg y = none) (h : WE c X e st fun d st1 => ∃ (tn : String) (r : Bool), HasTy c d (.type tn) ∧ PySem.W.kitOne X.K (.type tn) (.type id) = some r ∧ Q (.bl r) st1) (hb : bootBuiltins y = some (.type id) := by first | rfl | decide +kernel) (hgy : Gl X y := by rfl) (hny : y ≠ "__name__" := by decide) (hdb : (y == ("__debug__" : Str)) = false := by decide) (hg : Gl X "isinstance" := by rfl)
    (he : starEach (e :: [.Name y p2]) X.env = (false, eval e X.env) :: starEach [.Name y p2] X.env := by rfl) (he2 : starEach (.Name y p2 :: []) X.env = (false, eval (.Name y p2) X.env) :: starEach [] X.env := by rfl) (hpl : (backTo pos (starEach [.Name y p2] X.env)).any (·.1) = false := by rfl) :
    WE c X (.Call (.Name "isinstance" p) [e, .Name y p2] [] pos) st Q := by
  obtain ⟨d, st1, h1, tn, r, h2, h3, h4⟩ := h
  exact ⟨_, _, xd_isTy h1 h2 hK hm hy hb h3 hgy hny hdb hg he he2 hpl, h4⟩
theorem we_isOwn {y : Str} {n : Nat} {C : Addr} {ns : List Str} {p p2 : Pos} {Q : Dt → Store → Prop} (q : CF X.K c.T X.mg y n C ns) (hX : ClsX X.K C) (hK : X.K = c.K) (hm : X.mg "isinstance" = none) (h : WE c X e st fun d st1 => ∃ fs, d = .obj n fs ∧ Q (.bl true) st1) (hgy : Gl X y := by rfl) (hdb : (y == ("__debug__" : Str)) = false := by decide) (hg : Gl X "isinstance" := by rfl)
    (he : starEach (e :: [.Name y p2]) X.env = (false, eval e X.env) :: starEach [.Name y p2] X.env := by rfl) (he2 : starEach (.Name y p2 :: []) X.env = (false, eval (.Name y p2) X.env) :: starEach [] X.env := by rfl) (hpl : (backTo pos (starEach [.Name y p2] X.env)).any (·.1) = false := by rfl) :
    WE c X (.Call (.Name "isinstance" p) [e, .Name y p2] [] pos) st Q := by
  obtain ⟨d, st1, h1, fs, rfl, h2⟩ := h
  exact ⟨_, _, xd_isOwn h1 q hX hK hm hgy hdb hg he he2 hpl, h2⟩
theorem we_all {bs : List Bool} {p : Pos} {Q : Dt → Store → Prop} (hc : X.calm = true) (hm : X.mg "all" = none) (h : WE c X e st fun d st1 => d = .lst (bs.map .bl) ∧ Q (.bl (bs.all id)) st1) (hg : Gl X "all" := by rfl) (he : starEach (e :: []) X.env = (false, eval e X.env) :: starEach [] X.env := by rfl) (hpl : (backTo pos (starEach [] X.env)).any (·.1) = false := by rfl) :
    WE c X (.Call (.Name "all" p) [e] [] pos) st Q := by
  obtain ⟨d, st1, h1, rfl, h2⟩ := h
  exact ⟨_, _, xd_all h1 rfl hc hm hg he hpl, h2⟩
def ItR (c : Ctx) (d : Dt) (Q : List Dt → Prop) : Prop := ∃ ds, (d = .lst ds ∨ d = .ro ds ∨ d = .tup ds ∨ ∃ l, d = .str (sx l) ∧ ds = l.map fun q => .str (sx [q])) ∧ Q ds
theorem it_l {Q : List Dt → Prop} (h : Q ds) : ItR c (.lst ds) Q := ⟨ds, .inl rfl, h⟩
theorem it_r {Q : List Dt → Prop} (h : Q ds) : ItR c (.ro ds) Q := ⟨ds, .inr (.inl rfl), h⟩
theorem it_t {Q : List Dt → Prop} (h : Q ds) : ItR c (.tup ds) Q := ⟨ds, .inr (.inr (.inl rfl)), h⟩
theorem it_x {Q : List Dt → Prop} (h : Q (l.map fun q => .str (sx [q]))) : ItR c (.str (sx l)) Q := ⟨_, .inr (.inr (.inr ⟨l, rfl, rfl⟩)), h⟩
theorem wi_val {Q : List Dt → Store → Prop} (hK : X.K = c.K) (h : WE c X e st fun d st1 => ItR c d fun ds => Q ds st1) : WI c X tg e st Q := by
  obtain ⟨d, st1, h1, ds, h2, h3⟩ := h
  rcases h2 with rfl | rfl | rfl | ⟨l, rfl, rfl⟩
  · exact ⟨_, _, xi_list hK h1, h3⟩
  · exact ⟨_, _, xi_ro hK h1, h3⟩
  · exact ⟨_, _, xi_tup hK h1, h3⟩
  · exact ⟨_, _, xi_strX h1, h3⟩
theorem wi_range1 {p : Pos} {Q : List Dt → Store → Prop} (hm : X.mg "range" = none) (h : WE c X a st fun d st1 => ∃ n : Nat, d = .int n ∧ n < 2 ^ 60 ∧ Q (rg n fun i => .int (i : Nat)) st1) (hg : Gl X "range" := by rfl) (hs : starEach [a] X.env = [(false, eval a X.env)] := by rfl) :
    WI c X tg (.Call (.Name "range" p) [a] [] pos) st Q := by
  obtain ⟨d, st1, h1, n, rfl, h2, h3⟩ := h
  exact ⟨_, _, xi_range1 h1 (by omega) (by omega) hm hg hs, h3⟩
/-- what a turn of a comprehension gives, the store as it was -/
abbrev Gv (v : Dt) (s : Store) : Dt → Store → Prop := fun d s' => d = v ∧ s' = s
theorem wl_map1 (jx : Nat) (vs : List Dt) {x : Str} {p : Pos} {scope : Scope} {Q : List Dt → Store → Prop} (hN : X.N.Nodup)
    (h : WI c X (.Name x p) iter st fun ds st1 => vs.length = ds.length ∧ ds.length ≤ 100000 ∧ st1[jx]? = some none ∧ (∀ (i : Nat) d v, ds[i]? = some d → vs[i]? = some v → ∀ sh H C cl fp, WE c (BlkC X sh H scope C cl fp) elt (st1.set jx (some (.fr d))) (Gv v (st1.set jx (some (.fr d))))) ∧ Q vs st1)
    (hx : X.N[jx]? = some x := by rfl) (hloc : Loc (relabel scope X.env) x := by first | exact Or.inl rfl | exact Or.inr rfl) (hlocf : (scope.names.lookup x == some .cell) = true ∨ (relabel scope X.env).names.lookup x = some .local := by first | exact Or.inl rfl | exact Or.inr rfl) (ok : BlkOk X.N X.env.scope scope [(x, jx)] := by exact blkOk_by (by first | rfl | decide +kernel))
    (hc : X.calm = true := by rfl) (hs : ∀ x, foldedSetIterable iter X.env x = pure x := by intro _; rfl) :
    WL c X (.ListComp elt [⟨.Name x p, iter, [], 0⟩] scope pos) st Q := by
  obtain ⟨ds, st1, h1, h2, h3, h4, h5, h6⟩ := h
  refine ⟨_, _, xl_map1 jx vs hN h1 h2 h3 h4 (fun i d v q1 q2 sh H C cl fp => ?_) hx hloc hlocf ok hc hs, h6⟩
  obtain ⟨d', s', z1, rfl, rfl⟩ := h5 i d v q1 q2 sh H C cl fp
  exact z1
end
end Dv
set_option autoImplicit false
set_option maxRecDepth 100000
set_option maxHeartbeats 4000000
namespace Dv
open PySem PySem.Spec PyProof.Rows L2
def RtD (r : Dt) : Out → Prop
  | .rt d _ => d = r
  | .nx _ => .non = r
  | _ => False
def RtM (r : Dt) (ys : List Dt) : Out → Prop
  | .rt d st => d = r ∧ st[0]? = some (some (.pr 0 ys))
  | _ => False
def NxI (n : Nat) (fs : List Dt) : Out → Prop
  | .nx st => st[0]? = some (some (.bo n fs))
  | _ => False
section
variable {P : Program} {w : World} {K : PySem.W.Frag} {T : Ct} {mg : Str → Option Value} {base : Heap} {x qual : Str} {sd : Stmt} {f : Addr} {fd : FuncData} {N ps : List Str} {k n : Nat}
theorem okDw {R : List Dt → Dt → Prop} (F : Fun K x qual sd f fd) (S : FnScope N ps (defScope sd)) (hl : ∀ ds r, R ds r → ds.length = ps.length)
    (body : ∀ (cdv : Value) (A : Around) (outer : List Env) (s : Shared) (H : Hp) (E : XK) (pa : Nat → Addr) (ds : List Dt) (r : Dt), Room k (A.deeper (envOfC qual (defScope sd) s.heap.objs.size f cdv)) → R ds r →
      WS ⟨K, T, pa⟩ (bX P w K mg base N qual sd f cdv A outer s H E) (defBody sd) (st0 N ds) (RtD r)) : FnOk P w K mg base CX0 (k + 1) f fd ps (spD K T R) :=
  okD F S hl fun cdv A outer s H E pa ds r hr hR => by
    obtain ⟨o, h1, h2⟩ := body cdv A outer s H E pa ds r hr hR
    refine ⟨o, h1, ?_⟩
    cases o with
    | rt d st => cases h2; exact .inl ⟨st, rfl⟩
    | nx st => cases h2; exact .inr ⟨rfl, st, rfl⟩
    | bk st => exact h2.elim
    | ct st => exact h2.elim
    | rl xs => exact h2.elim
    | rq ds' j st => exact h2.elim
theorem okMw {R : List Dt → List Dt → Dt → List Dt → Prop} (F : Fun K x qual sd f fd) (S : FnScope N ps (defScope sd)) (hl : ∀ xs ds r ys, R xs ds r ys → ds.length + 1 = ps.length)
    (body : ∀ (cdv : Value) (A : Around) (outer : List Env) (s : Shared) (H : Hp) (E : XK) (pa : Nat → Addr) (xs ds : List Dt) (r : Dt) (ys : List Dt), Room k (A.deeper (envOfC qual (defScope sd) s.heap.objs.size f cdv)) → R xs ds r ys →
      WS ⟨K, T, pa⟩ (bX P w K mg base N qual sd f cdv A outer s H E) (defBody sd) (st0M N xs ds) (RtM r ys)) : FnOk P w K mg base CX0 (k + 1) f fd ps (spM K T R) :=
  okM F S hl fun cdv A outer s H E pa xs ds r ys hr hR => by
    obtain ⟨o, h1, h2⟩ := body cdv A outer s H E pa xs ds r ys hr hR
    cases o with
    | rt d st => obtain ⟨rfl, q⟩ := h2; exact ⟨st, h1, q⟩
    | nx st => exact h2.elim
    | bk st => exact h2.elim
    | ct st => exact h2.elim
    | rl xs => exact h2.elim
    | rq ds' j st => exact h2.elim
theorem okIw {C : Addr} {ns : List Str} {Rf : List Dt → List Dt → Prop} (F : Fun K x qual sd f fd) (S : FnScope N ps (defScope sd)) (hT : T n = some (C, ns)) (hl : ∀ ds fs, Rf ds fs → ds.length + 1 = ps.length) (hlenR : ∀ ds fs, Rf ds fs → fs.length = ns.length)
    (body : ∀ (cdv : Value) (A : Around) (outer : List Env) (s : Shared) (H : Hp) (E : XK) (pa : Nat → Addr) (ds fs : List Dt), Room k (A.deeper (envOfC qual (defScope sd) s.heap.objs.size f cdv)) → Rf ds fs →
      WS ⟨K, T, pa⟩ (bX P w K mg base N qual sd f cdv A outer s H E) (defBody sd) (st0I N n ds) (NxI n fs)) : FnOk P w K mg base CX0 (k + 1) f fd ps (spI K T n Rf) :=
  okI F S hT hl hlenR fun cdv A outer s H E pa ds fs hr hR => by
    obtain ⟨o, h1, h2⟩ := body cdv A outer s H E pa ds fs hr hR
    cases o with
    | nx st => exact ⟨st, h1, h2⟩
    | rt d st => exact h2.elim
    | bk st => exact h2.elim
    | ct st => exact h2.elim
    | rl xs => exact h2.elim
    | rq ds' j st => exact h2.elim
end
def RtL (xs : List Dt) : Out → Prop
  | .rl ys => ys = xs
  | _ => False
section
variable {P : Program} {w : World} {K : PySem.W.Frag} {T : Ct} {mg : Str → Option Value} {base : Heap} {x qual : Str} {sd : Stmt} {f : Addr} {fd : FuncData} {N ps : List Str} {k n : Nat}
/-- a def that hands out a list of the caller's own -/
theorem okLw {R : List Dt → List Dt → Prop} (F : Fun K x qual sd f fd) (S : FnScope N ps (defScope sd)) (hl : ∀ ds r, R ds r → ds.length = ps.length)
    (body : ∀ (cdv : Value) (A : Around) (outer : List Env) (s : Shared) (H : Hp) (E : XK) (pa : Nat → Addr) (ds xs : List Dt), Room k (A.deeper (envOfC qual (defScope sd) s.heap.objs.size f cdv)) → R ds xs →
      WS ⟨K, T, pa⟩ (bX P w K mg base N qual sd f cdv A outer s H E) (defBody sd) (st0 N ds) (RtL xs)) : FnOk P w K mg base CX0 (k + 1) f fd ps (spL K T R) := by
  refine F.ok S (fun vs H Q E h => ?_) (fun cdv A outer s H vs Q E hr h => ?_)
  · obtain ⟨G, ds, xs, e, rs, hR, _⟩ := h
    rw [← rs.length]; exact hl ds xs hR
  · obtain ⟨G, ds, xs, e, rs, hR, kk⟩ := h
    obtain ⟨o, hb, ho⟩ := body cdv A outer s H E (fun _ => 0) ds xs hr hR
    cases o with
    | rl ys =>
      cases ho
      exact ⟨_, hb.pss, G, En.start e rs, fun p ws G' H' g E' hp hn h1 r => kk p ws G' H' (g.fromO fun p h => own_start h) E' (hp.elim id fun z => (own_start z).elim) hn h1 r⟩
    | rt d st => exact ho.elim
    | rq ds' j st => exact ho.elim
    | nx st => exact ho.elim
    | bk st => exact ho.elim
    | ct st => exact ho.elim
end
end Dv
set_option autoImplicit false
set_option maxRecDepth 100000
set_option maxHeartbeats 4000000
set_option exponentiation.threshold 100000
namespace Dv
open PySem PySem.Spec PyProof.Rows L2 Mq
def slot (g : Nat → Dt) : Nat → Option Sv
  | 0 => none
  | i + 1 => some (.fr (g i))
theorem bits64 {i : Int} (h : -2 ^ 64 < i) (h' : i < 2 ^ 64) : Builtin.Int.intBits i ≤ 64 := intBits_le_64 h h'
def dA (l : List Nat) : Dt := .obj 2 [.str (sx l)]
def sumTo (f : Nat → Rat) : Nat → Rat
  | 0 => 0
  | n + 1 => sumTo f n + f n
def Hd (D m : Nat) (q : Rat) : Prop := ∃ z : Int, z.natAbs ≤ m ∧ q = Rat.divInt z D
theorem Hd.mono {D m m' : Nat} {q : Rat} (h : Hd D m q) (l : m ≤ m') : Hd D m' q := let ⟨z, a, b⟩ := h; ⟨z, Nat.le_trans a l, b⟩
theorem Hd.zero {D m : Nat} : Hd D m 0 := ⟨0, Nat.zero_le _, (Rat.zero_divInt _).symm⟩
theorem Hd.add {D m m' : Nat} {a b : Rat} (h0 : 0 < D) (h : Hd D m a) (h' : Hd D m' b) : Hd D (m + m') (a + b) := by
  obtain ⟨z, a1, rfl⟩ := h
  obtain ⟨z', b1, rfl⟩ := h'
  have hd : (D : Int) ≠ 0 := by omega
  refine ⟨z + z', by omega, ?_⟩
  rw [Rat.divInt_add_divInt _ _ hd hd]
  refine (Rat.divInt_eq_divInt_iff (Int.mul_ne_zero hd hd) hd).mpr ?_
  rw [Int.add_mul, Int.add_mul, Int.mul_assoc, Int.mul_assoc]
theorem Hd.sum {D m : Nat} {f : Nat → Rat} : ∀ n, 0 < D → (∀ i, i < n → Hd D m (f i)) → Hd D (n * m) (sumTo f n)
  | 0, _, _ => Hd.zero
  | n + 1, h0, h => by
    have := (Hd.sum n h0 fun i hi => h i (by omega)).add h0 (h n (by omega))
    rw [Nat.add_mul, Nat.one_mul]
    exact this
theorem Hd.sz {D m k : Nat} {q : Rat} (h0 : 0 < D) (h : Hd D m q) (hm : m < 2 ^ k) (hD : D < 2 ^ k) : Sz k q := by
  obtain ⟨z, a1, rfl⟩ := h
  exact divInt_sz (by omega) (by omega) (by simpa using hD)
end Dv
set_option autoImplicit false
set_option maxRecDepth 100000
namespace Dv
open PySem PySem.Spec PyProof.Rows L2
end Dv
set_option autoImplicit false
set_option maxRecDepth 100000
namespace Dv
open PySem PySem.Spec PyProof.Rows L2
end Dv
set_option autoImplicit false
set_option maxRecDepth 100000
set_option maxHeartbeats 4000000
namespace Dv
open PySem PySem.Spec PyProof.Rows L2
section
variable {c : Ctx} {X : Cx} {st st1 st2 st3 : Store} {a b e e2 tg iter elt t : Expr} {es : List Expr} {d d1 d2 d3 d' : Dt} {ds xs ys zs fs gs vs : List Dt} {pos : Pos} {i j : Int} {body rest orelse A B : List Stmt} {s : Stmt} {o : Out} {n k m : Nat} {l l' : List Nat}
theorem wt_view {Q : Bool → Store → Prop} (h : WT c X e (fz st) fun r _ => Q r st) : WT c X e st Q := by
  obtain ⟨r, st1, h1, h2⟩ := h
  exact ⟨r, st, xt_view h1, h2⟩
theorem o_min2 : OpN c [.int i, .int j] (.int (min i j)) (fun xs H Q => ∃ i j, xs = [.int i, .int j] ∧ Q (.int (if j < i then j else i)) H) := fun G H vs Q e r k => by
  cases r with
  | cons r rs => cases rs with
    | cons r' rs' =>
      cases rs'; cases r; cases r'
      refine ⟨i, j, rfl, kv_same k e ?_⟩
      have : (if j < i then j else i) = min i j := by rw [Int.min_def]; split <;> split <;> omega
      rw [this]; exact .int
theorem we_min2 {p : Pos} {Q : Dt → Store → Prop} (hc : X.calm = true) (hm : X.mg "min" = none) (h : WA c X [a, b] st fun ds st1 => ∃ i j : Int, ds = [.int i, .int j] ∧ Q (.int (min i j)) st1) (hg : Gl X "min" := by rfl) (he : starEach (a :: [b]) X.env = (false, eval a X.env) :: starEach [b] X.env := by rfl) (hpl : (backTo pos (starEach [b] X.env)).any (·.1) = false := by rfl) :
    WE c X (.Call (.Name "min" p) [a, b] [] pos) st Q := by
  obtain ⟨ds, st1, h1, i, j, rfl, h3⟩ := h
  exact ⟨_, _, xd_callB h1 (call_min2 hc) o_min2 hm (by first | rfl | decide +kernel) hg (by decide) (by decide) he hpl, h3⟩
end
end Dv
namespace Dv
/-- what turns with a test give, by their places -/
def rgo (n : Nat) (F : Nat → Option Dt) : List (Option Dt) := (List.range n).map F
theorem rgo_len (n : Nat) (F : Nat → Option Dt) : (rgo n F).length = n := by unfold rgo; simp
end Dv
set_option autoImplicit false
set_option maxRecDepth 100000
set_option maxHeartbeats 4000000
set_option exponentiation.threshold 100000
namespace Dv
open PySem PySem.Spec PyProof.Rows L2 Mq
/-- the sizes that a sum of products may have -/
structure Sq (n D1 m1 D2 m2 : Nat) : Prop where
  p1 : 0 < D1
  p2 : 0 < D2
  d : D1 * D2 < 2 ^ 3000
  m : n * (m1 * m2) < 2 ^ 3000
theorem pw (k : Nat) : 0 < 2 ^ k := Nat.pow_pos (by decide)
theorem Sq.at {n D1 m1 D2 m2 : Nat} (h : Sq n D1 m1 D2 m2) {i : Nat} (hi : i ≤ n) {q : Rat} (hq : Hd (D1 * D2) (i * (m1 * m2)) q) : Sz 3000 q :=
  Hd.sz (Nat.mul_pos h.p1 h.p2) hq (Nat.lt_of_le_of_lt (Nat.mul_le_mul_right _ hi) h.m) h.d
end Dv
set_option autoImplicit false
set_option maxRecDepth 100000
set_option maxHeartbeats 4000000
set_option exponentiation.threshold 100000
namespace Dv
open PySem PySem.Spec PyProof.Rows L2 Mq
structure AlOk (l : List Nat) : Prop where
  lo : 1 ≤ l.length
  hi : l.length ≤ 4
  rng : ∀ x ∈ l, 97 ≤ x ∧ x ≤ 122
  nd : l.Nodup
/-- the places of a word's letters -/
def plc (l wd : List Nat) : List Nat := wd.map fun q => l.idxOf q
theorem plc_lt {l wd : List Nat} (h : ∀ q ∈ wd, q ∈ l) : ∀ k ∈ plc l wd, k < l.length := fun k hk => by
  obtain ⟨q, hq, rfl⟩ := List.mem_map.mp hk
  exact List.idxOf_lt_length_of_mem (h q hq)
end Dv
set_option autoImplicit false
set_option maxRecDepth 100000
set_option maxHeartbeats 4000000
namespace Dv
open PySem PySem.Spec PyProof.Rows L2
section
variable {c : Ctx} {X : Cx} {st st1 st2 st3 : Store} {a b e e2 tg iter elt t : Expr} {es : List Expr} {d d1 d2 d3 d' : Dt} {ds xs ys zs fs gs vs : List Dt} {pos : Pos} {i j : Int} {body rest orelse A B suite : List Stmt} {s b0 : Stmt} {o : Out} {n k m : Nat} {l l' : List Nat}
theorem br_tcat {Q : Dt → Prop} (hK : X.K = c.K) (k : xs.length + ys.length ≤ 100000) (h : Q (.tup (xs ++ ys))) : BinR c X .Add (.tup xs) (.tup ys) Q := ⟨_, fun _ _ _ _ _ _ h1 h2 => xd_tcat h1 h2 hK k, h⟩
/-- what is known of a name is dropped ahead of what follows -/
theorem xs_forget (i : Nat) {ss : List Stmt} (h : XS c X ss (st.set i none) o) : XS c X ss st o :=
  ⟨pss_weak h.pss fun D σ H ⟨G, E, kk⟩ => by
    refine ⟨G, E.drop i, ?_⟩
    cases o with
    | nx s' => exact fun σ' G' H' g E' => kk σ' G' H' (g.fromO fun p z => own_drop z) E'
    | bk s' => exact fun σ' G' H' g E' => kk σ' G' H' (g.fromO fun p z => own_drop z) E'
    | ct s' => exact fun σ' G' H' g E' => kk σ' G' H' (g.fromO fun p z => own_drop z) E'
    | rt d s' => exact fun v σ' G' H' g E' r => kk v σ' G' H' (g.fromO fun p z => own_drop z) E' r
    | rq ds j s' => exact fun t b vs σ' G' H' g E' r1 r2 r3 r4 r5 => kk t b vs σ' G' H' (g.fromO fun p z => own_drop z) E' r1 r2 r3 r4 r5
    | rl xs => exact fun p ws G' H' g E' hp n1 n2 r => kk p ws G' H' (g.fromO fun p z => own_drop z) E' (hp.imp id own_drop) n1 n2 r⟩
theorem ws_forget (i : Nat) {ss : List Stmt} {Q : Out → Prop} (h : WS c X ss (st.set i none) Q) : WS c X ss st Q := by
  obtain ⟨o, h1, h2⟩ := h
  exact ⟨o, xs_forget i h1, h2⟩
theorem we_intb {p : Pos} {Q : Dt → Store → Prop} (hm : X.mg "int" = none) (h : WE c X e st fun d st1 => ∃ r, d = .bl r ∧ Q (.int (if r then 1 else 0)) st1) (hg : Gl X "int" := by rfl) (he : starEach (e :: []) X.env = (false, eval e X.env) :: starEach [] X.env := by rfl) (hpl : (backTo pos (starEach [] X.env)).any (·.1) = false := by rfl) :
    WE c X (.Call (.Name "int" p) [e] [] pos) st Q := by
  obtain ⟨d, st1, h1, r, rfl, h2⟩ := h
  exact ⟨_, _, xd_intB h1 hm hg he hpl, h2⟩
end
end Dv
set_option autoImplicit false
set_option maxRecDepth 100000
set_option maxHeartbeats 4000000
namespace Dv
open PySem PySem.Spec PyProof.Rows L2
section
variable {W : WX} {x : Xn} {d : Dt} {es : List Expr} {c : Ctx} {X : Cx} {st st1 st2 st3 st' : Store} {rest : List Stmt} {a b e e2 tg iter iter1 elt t : Expr} {ds xs ys : List Dt} {pos : Pos} {G G' H H' G1 H1 : Hp} {σ σ' : L2.St} {O O' : Addr → Prop} {D : Addr} {o : HO}
/-- try: its body raises what the clause takes by name; o1: how the clause ends, o: the same with the name gone -/
theorem ws_tryAs (i : Nat) (x : Xn) (o : Out) (o1 : Addr → Option Addr → Out) {Q : Out → Prop} {y n : Str} {cv : Value} {body suite : List Stmt} {b0 : Stmt} {np p1 : Pos} (hN : X.N.Nodup) (hc : Names X y cv) (hm : PySem.W.exmOne X.K (.ref x.C) cv = some true)
    (hb : ∀ (W : WX) (pn : List (Addr × Obj)) (xe : Value → Shared → Prop), Takes (X.tr pn xe) W → PassesOwn (model X.prog X.w) X.A X.env xe → XSX c (X.tr pn xe) W body st x st1)
    (hsu : ∀ (a : Addr) (oe : Obj) (dd : Option Addr) (pn : List (Addr × Obj)), Zc (.ref x.C) dd oe → (∃ vs, oe.data = .fields vs) → WS c (X.suite a ((a, oe) :: pn)) (b0 :: suite) (st1.set i (some (.ex a dd x.at_))) fun o' => o' = o1 a dd) (k : Aft c X rest Q o)
    (ho : ∀ a dd, (o1 a dd).drop i = o := by intro _ _; rfl)
    (hs : X.stack = X.env :: X.outer := by rfl) (hf : X.env.frame = some X.env.locals := by rfl) (hi : X.N[i]? = some n := by rfl) (hln : X.env.kindOf n = some .local := by rfl) :
    WS c X (.Try body [.ExceptHandler (some (.Name y np)) (some n) (b0 :: suite) p1] [] [] pos :: rest) st Q := by
  refine ws_of ⟨o, xp_tryAs i hN hc hm hb (fun a oe dd pn hz hfl => ?_) ho hs hf hi hln, k⟩
  obtain ⟨o', h1, rfl⟩ := hsu a oe dd pn hz hfl
  exact h1
def rsL : Option (Str × Dt) := some ("reason", .str "letter")
/-- e.reason == "..", where that is the reason -/
theorem xd_isRsn (i : Nat) {y s : Str} {a C fI : Addr} {oe : Obj} {dd : Option Addr} {pn : List (Addr × Obj)} {p p2 pos2 : Pos} {j : Nat} (T : DvR.Rfd X.K X.mg C fI) (hz : Zc (.ref C) dd oe) (hf : ∃ vs, oe.data = .fields vs) (hi : st[i]? = some (some (.ex a dd (some ("reason", .str s)))) := by rfl)
    (hN : X.N[i]? = some y := by rfl) (hv : Vis X.env.scope y := by first | exact Or.inl rfl | exact Or.inr (Or.inl rfl) | exact Or.inr (Or.inr rfl)) (hdb : (y == ("__debug__" : Str)) = false := by decide)
    (hcd : (y == ("__classdict__" : Str)) = false := by decide) (hb : attributeBase (.Name y p) "reason" X.env (eval (.Name y p) X.env) = eval (.Name y p) X.env := by rfl) :
    XD c (X.suite a ((a, oe) :: pn)) (.Compare (.Attribute (.Name y p) "reason" pos) [.Eq] [.Constant (.str s) j p2] pos2) st (.bl true) st :=
  xd_cmp (xd_rsn i T hz hf hi hN hv hdb hcd hb) xd_str op_eq (o_eqS rfl rfl rfl (decide_eq_true rfl)) rfl
end
end Dv
set_option autoImplicit false
set_option maxRecDepth 100000
set_option maxHeartbeats 4000000
namespace Dv
open PySem PySem.Spec PyProof.Rows L2
end Dv
set_option autoImplicit false
set_option maxRecDepth 100000
set_option maxHeartbeats 4000000
set_option exponentiation.threshold 100000
namespace Dv
open PySem PySem.Spec PyProof.Rows L2
section
variable {c : Ctx} {X : Cx} {st st1 : Store} {e : Expr} {d : Dt} {ds : List Dt} {G : Hp} {pos : Pos}
theorem cr_neP {d d' : Dt} {k m : Nat} {p q : PyData} {t : Bool} {Q : Bool → Prop} (h : Pl k d p) (h' : Pl k d' q) (hk : k ≤ 64) (ht : (!PyData.eqv p q) = t) (hK : X.K = c.K) (hr : Room m X.A) (kk : Q t) : CmpR c X .NotEq d d' Q := by
  have z := o_neD (c := c) h.py h'.py (h.shaped hk) (h'.shaped hk)
  rw [ht, ← hK] at z
  exact cr_of (op_neD (by have := hr.un; omega)) z kk
end
end Dv
set_option autoImplicit false
set_option maxRecDepth 100000
set_option maxHeartbeats 4000000
set_option exponentiation.threshold 100000
namespace Dv
open PySem PySem.Spec PyProof.Rows L2
end Dv
set_option autoImplicit false
set_option maxRecDepth 100000
set_option maxHeartbeats 4000000
set_option exponentiation.threshold 100000
namespace Dv
open PySem PySem.Spec PyProof.Rows L2
def OthV (K : PySem.W.Frag) (H : Hp) (y : V) (T : String) : Prop := (T = "int" ∧ ∃ i, y = .int i) ∨ (T = "NoneType" ∧ y = .non) ∨ (T = "tuple" ∧ ∃ q xs, y = .ref q ∧ SqT K H q xs)
section
variable {c : Ctx} {X : Cx} {st st1 st2 : Store} {a b e : Expr} {d : Dt} {fs : List Dt} {pos : Pos} {G H : Hp}
theorem OthV.looks {pins : List (Addr × Obj)} {σ : L2.St} {s : Shared} {y : V} {u : Value} {T : String} (I : Inv X pins σ H s) (h : OthV X.K H y T) (r : RelV y u) : PySem.W.Looks (model X.prog X.w) s.heap (typeOf u) (.type T) := by
  rcases h with ⟨rfl, i, rfl⟩ | ⟨rfl, rfl⟩ | ⟨rfl, q, xs, rfl, hq⟩
  · obtain ⟨t, rfl⟩ := r
    exact fun A Q E s' k qq => wpAny_typeOf (typeIs_int s' i t) qq
  · obtain rfl : u = Value.none := r
    exact fun A Q E s' k qq => wpAny_typeOf (typeIs_none s') qq
  · obtain rfl : u = Value.ref q := r
    obtain ⟨its, r, ht, hz⟩ := I.tuple hq
    obtain ⟨o, ho, hc, _⟩ := id ht
    exact fun A Q E s' k qq => wpAny_typeOf_ref (k _ _ ho) (by rw [hc]; exact qq)
end
section
variable {c : Ctx} {X : Cx} {st : Store} {pos : Pos} {e : Expr}
/-- isinstance(e, an own class), e of any kind -/
theorem we_isC {y : Str} {C : Addr} {ns : List Str} {n : Nat} {p p2 : Pos} {Q : Dt → Store → Prop} (q : CF X.K c.T X.mg y n C ns) (hK : X.K = c.K) (hm : X.mg "isinstance" = none) (h : WE c X e st fun d st1 => ∃ t r, HasTy c d t ∧ PySem.W.kitOne X.K t (.ref C) = some r ∧ Q (.bl r) st1) (hgy : Gl X y := by rfl) (hdb : (y == ("__debug__" : Str)) = false := by decide) (hg : Gl X "isinstance" := by rfl)
    (he : starEach (e :: [.Name y p2]) X.env = (false, eval e X.env) :: starEach [.Name y p2] X.env := by rfl) (he2 : starEach (.Name y p2 :: []) X.env = (false, eval (.Name y p2) X.env) :: starEach [] X.env := by rfl) (hpl : (backTo pos (starEach [.Name y p2] X.env)).any (·.1) = false := by rfl) :
    WE c X (.Call (.Name "isinstance" p) [e, .Name y p2] [] pos) st Q := by
  obtain ⟨d, s1, h1, t, r, h2, h3, h4⟩ := h
  exact ⟨_, _, xd_isi (x := y) (u := .ref C) (cv := .ref C) h1 (pe_glob hgy q.nm rfl hdb) (.own _) h2 h3 hK hm hg he he2 hpl, h4⟩
end
theorem kit_tyN {K : PySem.W.Frag} {T : String} {C : Addr} (h2 : PySem.W.isClsIn K C = true) (h3 : PySem.W.typeIn K (.ref C) = some (.type "type")) (h4 : PySem.W.subIn K (.type T) (.ref C) = some false) : PySem.W.kitOne K (.type T) (.ref C) = some false := by
  unfold PySem.W.kitOne PySem.W.kitCls
  unfold PySem.W.isClsIn at h2
  simp [h2, h3, h4]
end Dv
set_option autoImplicit false
set_option maxRecDepth 100000
set_option maxHeartbeats 4000000
namespace Dv
open PySem PySem.Spec PyProof.Rows L2
def DefAt (K : PySem.W.Frag) (x : Str) (st : Stmt) : Prop := ∃ (f : Addr) (oc : Value) (od an : Option Addr) (kV dc pm cd ct : Value) (sl : Array (Option Value)), PySem.W.nsIn K mainGlobals x = some (some (.ref f)) ∧
  K.lookup f = some ⟨oc, od, .func (PySem.W.fnOf x x (defArgs st) (defBody st) (defScope st) .none kV dc pm an cd ct), sl⟩ ∧ PySem.W.codeIn K cd x = true ∧ PySem.W.keepIn K (.ref f) = true
def MethAt (K : PySem.W.Frag) (C : Addr) (m q : Str) (st : Stmt) : Prop := ∃ (f : Addr) (oc : Value) (od an : Option Addr) (kV dc pm cd ct : Value) (sl : Array (Option Value)), PySem.W.findIn K (.ref C) m = some (some (.ref f)) ∧ PySem.W.isFn K (.ref f) = true ∧
  K.lookup f = some ⟨oc, od, .func (PySem.W.fnOf m q (defArgs st) (defBody st) (defScope st) .none kV dc pm an cd ct), sl⟩ ∧ PySem.W.codeIn K cd q = true ∧ PySem.W.keepIn K (.ref f) = true
/-- an own class -/
structure ClsOf (K : PySem.W.Frag) (x : Str) (C : Addr) : Prop where
  at_ : PySem.W.nsIn K mainGlobals x = some (some (.ref C))
  pg : PySem.W.plainGet K C Str.empty = true
  hd : PySem.W.hasDictIn K C = true
  po : PySem.W.plainOver K C = true
  sa : PySem.W.findIn K (.ref C) "__setattr__" = some (some (.builtin "object.__setattr__"))
  mks : PySem.W.makesIn K C = true
  kp : PySem.W.keepIn K (.ref C) = true
  ha : PySem.W.findIn K (.ref C) "__class__" = some (some (.builtin "object.__class__"))
  hn : PySem.W.specialIn K (.builtin "object.__class__") "__get__" = some (some (.builtin "getset_descriptor.__get__"))
  tk : PySem.W.takesIn K (.builtin "object.__class__") = some true
  ob : PySem.W.mroIn K C (.type "object") = some true
  sf : PySem.W.selfFirst K C = true
theorem def_mk {K : PySem.W.Frag} {x : Str} {st : Stmt} {f : Addr} {oc : Value} {od an : Option Addr} {kV dc pm cd ct : Value} {sl : Array (Option Value)} (a : PySem.W.nsIn K mainGlobals x = some (some (.ref f)))
  (l : K.lookup f = some ⟨oc, od, .func (PySem.W.fnOf x x (defArgs st) (defBody st) (defScope st) .none kV dc pm an cd ct), sl⟩) (c : PySem.W.codeIn K cd x = true) (k : PySem.W.keepIn K (.ref f) = true) : DefAt K x st := ⟨f, oc, od, an, kV, dc, pm, cd, ct, sl, a, l, c, k⟩
theorem meth_mk {K : PySem.W.Frag} {C : Addr} {m q : Str} {st : Stmt} {f : Addr} {oc : Value} {od an : Option Addr} {kV dc pm cd ct : Value} {sl : Array (Option Value)} (a : PySem.W.findIn K (.ref C) m = some (some (.ref f))) (i : PySem.W.isFn K (.ref f) = true)
  (l : K.lookup f = some ⟨oc, od, .func (PySem.W.fnOf m q (defArgs st) (defBody st) (defScope st) .none kV dc pm an cd ct), sl⟩) (c : PySem.W.codeIn K cd q = true) (k : PySem.W.keepIn K (.ref f) = true) : MethAt K C m q st := ⟨f, oc, od, an, kV, dc, pm, cd, ct, sl, a, i, l, c, k⟩
section
variable {P : Program} {w : World} {K : PySem.W.Frag} {T : Ct} {mg : Str → Option Value} {base : Heap}
theorem DefAt.df {x : Str} {st : Stmt} {k : Nat} {R : List Dt → Dt → Prop} {ps : List Str} {h : Heap} (D : DefAt K x st) (X : K.In h) (G : h.Ns mainGlobals mg)
    (ok : ∀ f fd, Fun K x x st f fd → FnOk P w K mg base CX0 k f fd ps (spD K T R)) (hb : ∀ (kV doc pm : Value) (an : Option Addr) (cdv ct : Value) (us : List Value), us.length = ps.length → bindArgs (PySem.W.fnOf x x (defArgs st) (defBody st) (defScope st) .none kV doc pm an cdv ct) { pos := us } = pure (ps.zip us)) : DF P w K T mg base x k R := by
  obtain ⟨f, oc, od, an, kV, dc, pm, cd, ct, sl, a, l, c, kp⟩ := D
  have F := fun_mk (st := st) l c kp
  exact ⟨f, _, ps, ok f _ F, PySem.W.mg_of X G a, kp, F.binds hb⟩
theorem MethAt.mf {C : Addr} {m q : Str} {st : Stmt} {k : Nat} {R : List Dt → Dt → Prop} {ps : List Str} (D : MethAt K C m q st)
    (ok : ∀ f fd, Fun K m q st f fd → FnOk P w K mg base CX0 k f fd ps (spD K T R)) (hb : ∀ (kV doc pm : Value) (an : Option Addr) (cdv ct : Value) (us : List Value), us.length = ps.length → bindArgs (PySem.W.fnOf m q (defArgs st) (defBody st) (defScope st) .none kV doc pm an cdv ct) { pos := us } = pure (ps.zip us)) : MF P w K T mg base C m k R := by
  obtain ⟨f, oc, od, an, kV, dc, pm, cd, ct, sl, a, i, l, c, kp⟩ := D
  have F := fun_mk (st := st) l c kp
  exact ⟨f, _, ps, ok f _ F, ⟨a, i, kp⟩, F.binds hb⟩
theorem MethAt.init {C : Addr} {q : Str} {st : Stmt} {k n : Nat} {Rf : List Dt → List Dt → Prop} {ps : List Str} {x : Str} (D : MethAt K C "__init__" q st) (Q : ClsOf K x C)
    (ok : ∀ f fd, Fun K "__init__" q st f fd → FnOk P w K mg base CX0 k f fd ps (spI K T n Rf)) (hb : ∀ (kV doc pm : Value) (an : Option Addr) (cdv ct : Value) (us : List Value), us.length = ps.length → bindArgs (PySem.W.fnOf "__init__" q (defArgs st) (defBody st) (defScope st) .none kV doc pm an cdv ct) { pos := us } = pure (ps.zip us)) : IF' P w K T mg base n C [] k Rf := by
  obtain ⟨f, oc, od, an, kV, dc, pm, cd, ct, sl, a, i, l, c, kp⟩ := D
  have F := fun_mk (st := st) l c kp
  exact ⟨f, _, ps, [], [], ok f _ F, ⟨Q.mks, a, i, Q.kp⟩, F.binds hb, .nil, fun G => .nil⟩
theorem ClsOf.cf {x : Str} {C : Addr} {n : Nat} {ns : List Str} {h : Heap} (Q : ClsOf K x C) (hT : T n = some (C, ns)) (X : K.In h) (G : h.Ns mainGlobals mg) : CF K T mg x n C ns := ⟨hT, ⟨Q.pg, Q.hd, Q.po, Q.sa⟩, PySem.W.mg_of X G Q.at_⟩
theorem ClsOf.cx {x : Str} {C : Addr} (Q : ClsOf K x C) : ClsX K C := ⟨⟨Q.pg, Q.hd, Q.po, Q.sa⟩, Q.ha, Q.hn, Q.tk, Q.ob⟩
theorem DefAt.dm {x : Str} {st : Stmt} {k : Nat} {R : List Dt → List Dt → Dt → List Dt → Prop} {ps : List Str} {h : Heap} (D : DefAt K x st) (X : K.In h) (G : h.Ns mainGlobals mg)
    (ok : ∀ f fd, Fun K x x st f fd → FnOk P w K mg base CX0 k f fd ps (spM K T R)) (hb : ∀ (kV doc pm : Value) (an : Option Addr) (cdv ct : Value) (us : List Value), us.length = ps.length → bindArgs (PySem.W.fnOf x x (defArgs st) (defBody st) (defScope st) .none kV doc pm an cdv ct) { pos := us } = pure (ps.zip us)) : DM P w K T mg base x k R := by
  obtain ⟨f, oc, od, an, kV, dc, pm, cd, ct, sl, a, l, c, kp⟩ := D
  have F := fun_mk (st := st) l c kp
  exact ⟨f, _, ps, ok f _ F, PySem.W.mg_of X G a, kp, F.binds hb⟩
theorem DefAt.dl {x : Str} {st : Stmt} {k : Nat} {R : List Dt → List Dt → Prop} {ps : List Str} {h : Heap} (D : DefAt K x st) (X : K.In h) (G : h.Ns mainGlobals mg)
    (ok : ∀ f fd, Fun K x x st f fd → FnOk P w K mg base CX0 k f fd ps (spL K T R)) (hb : ∀ (kV doc pm : Value) (an : Option Addr) (cdv ct : Value) (us : List Value), us.length = ps.length → bindArgs (PySem.W.fnOf x x (defArgs st) (defBody st) (defScope st) .none kV doc pm an cdv ct) { pos := us } = pure (ps.zip us)) : DL P w K T mg base x k R := by
  obtain ⟨f, oc, od, an, kV, dc, pm, cd, ct, sl, a, l, c, kp⟩ := D
  have F := fun_mk (st := st) l c kp
  exact ⟨f, _, ps, ok f _ F, PySem.W.mg_of X G a, kp, F.binds hb⟩
theorem MethAt.mx {C : Addr} {m q : Str} {st : Stmt} {k : Nat} {R : List Dt → Xn → Prop} {ps : List Str} (D : MethAt K C m q st)
    (ok : ∀ f fd, Fun K m q st f fd → FnOk P w K mg base (L2.CX P w) k f fd ps (spX K T R)) (hb : ∀ (kV doc pm : Value) (an : Option Addr) (cdv ct : Value) (us : List Value), us.length = ps.length → bindArgs (PySem.W.fnOf m q (defArgs st) (defBody st) (defScope st) .none kV doc pm an cdv ct) { pos := us } = pure (ps.zip us)) : MX P w K T mg base C m k R := by
  obtain ⟨f, oc, od, an, kV, dc, pm, cd, ct, sl, a, i, l, c, kp⟩ := D
  have F := fun_mk (st := st) l c kp
  exact ⟨f, _, ps, ok f _ F, ⟨a, i, kp⟩, F.binds hb⟩
/-- a class that is raised: its own, over ValueError, without an __init__ -/
structure RzOf (K : PySem.W.Frag) (x : Str) (C : Addr) : Prop where
  at_ : PySem.W.nsIn K mainGlobals x = some (some (.ref C))
  ex : PySem.W.excIn K C [.type "ValueError", .type "Exception", .type "BaseException", .type "object"] "ValueError.__new__" = true
  kp : PySem.W.keepIn K (.ref C) = true
  sb : PySem.W.subIn K (.ref C) (.type "BaseException") = some true
  ty : PySem.W.typeIn K (.ref C) = some (.type "type")
  ic : PySem.W.isClsIn K C = true
  sf : PySem.W.subIn K (.ref C) (.ref C) = some true
theorem RzOf.rz {x : Str} {C : Addr} {h : Heap} (Z : RzOf K x C) (X : K.In h) (G : h.Ns mainGlobals mg) : Rz K mg x C := ⟨PySem.W.mg_of X G Z.at_, Z.ex, Z.kp, Z.sb, Z.ty⟩
theorem exm_sub {S C : Addr} (h1 : PySem.W.subIn K (.ref C) (.type "BaseException") = some true) (h2 : PySem.W.isClsIn K C = true) (h3 : PySem.W.typeIn K (.ref C) = some (.type "type")) (h4 : PySem.W.subIn K (.ref S) (.ref C) = some true) : PySem.W.exmOne K (.ref S) (.ref C) = some true := by
  unfold PySem.W.exmOne PySem.W.kitCls
  unfold PySem.W.isClsIn at h2
  simp [h1, h2, h3, h4]
theorem MethAt.ix {C : Addr} {q : Str} {st : Stmt} {k n : Nat} {R : List Dt → Xn → Prop} {ps : List Str} {x : Str} (D : MethAt K C "__init__" q st) (Q : ClsOf K x C)
    (ok : ∀ f fd, Fun K "__init__" q st f fd → FnOk P w K mg base (L2.CX P w) k f fd ps (spIX K T n R)) (hb : ∀ (kV doc pm : Value) (an : Option Addr) (cdv ct : Value) (us : List Value), us.length = ps.length → bindArgs (PySem.W.fnOf "__init__" q (defArgs st) (defBody st) (defScope st) .none kV doc pm an cdv ct) { pos := us } = pure (ps.zip us)) : IX P w K T mg base n C k R := by
  obtain ⟨f, oc, od, an, kV, dc, pm, cd, ct, sl, a, i, l, c, kp⟩ := D
  have F := fun_mk (st := st) l c kp
  exact ⟨f, _, ps, ok f _ F, ⟨Q.mks, a, i, Q.kp⟩, F.binds hb⟩
/-- an own error over Fault, with an __init__ of its own -/
structure RfOf (K : PySem.W.Frag) (C CB : Addr) : Prop where
  at_ : PySem.W.nsIn K mainGlobals "Refused" = some (some (.ref C))
  cl : ∃ (a q : Str) (N : Addr) (bs : List Value) (sn : List Str) (sub : List Value) (ab : Bool) (col : Option Bool) (dd : Option Addr) (k0 k1 k2 k3 k5 : Option Value), K.lookup C = some (excClassObj a q C N bs [.ref CB, .type "ValueError", .type "Exception", .type "BaseException", .type "object"] true sn sub ab col dd k0 k1 k2 k3 k5 "ValueError.__new__")
  sa : PySem.W.findIn K (.ref C) "__setattr__" = some (some (.builtin "object.__setattr__"))
  ga : PySem.W.findIn K (.ref C) "__getattribute__" = some (some (.builtin "BaseException.__getattribute__"))
  gg : PySem.W.findIn K (.ref C) "__getattr__" = some none
  na : PySem.W.findIn K (.ref C) "reason" = some none
  kp : PySem.W.keepIn K (.ref C) = true
  sb : PySem.W.subIn K (.ref C) (.type "BaseException") = some true
  ty : PySem.W.typeIn K (.ref C) = some (.type "type")
  hd : PySem.W.hasDictIn K C = true
theorem rf_mk {C CB : Addr} {a q : Str} {N : Addr} {bs : List Value} {sn : List Str} {sub : List Value} {ab : Bool} {col : Option Bool} {dd : Option Addr} {k0 k1 k2 k3 k5 : Option Value} (at_ : PySem.W.nsIn K mainGlobals "Refused" = some (some (.ref C)))
    (cl : K.lookup C = some (excClassObj a q C N bs [.ref CB, .type "ValueError", .type "Exception", .type "BaseException", .type "object"] true sn sub ab col dd k0 k1 k2 k3 k5 "ValueError.__new__"))
    (sa : PySem.W.findIn K (.ref C) "__setattr__" = some (some (.builtin "object.__setattr__"))) (ga : PySem.W.findIn K (.ref C) "__getattribute__" = some (some (.builtin "BaseException.__getattribute__"))) (gg : PySem.W.findIn K (.ref C) "__getattr__" = some none) (na : PySem.W.findIn K (.ref C) "reason" = some none)
    (kp : PySem.W.keepIn K (.ref C) = true) (sb : PySem.W.subIn K (.ref C) (.type "BaseException") = some true) (ty : PySem.W.typeIn K (.ref C) = some (.type "type")) (hd : PySem.W.hasDictIn K C = true) : RfOf K C CB :=
  ⟨at_, ⟨a, q, N, bs, sn, sub, ab, col, dd, k0, k1, k2, k3, k5, cl⟩, sa, ga, gg, na, kp, sb, ty, hd⟩
theorem RfOf.rfd {C CB : Addr} {st : Stmt} {h : Heap} (Z : RfOf K C CB) (D : MethAt K C "__init__" "Refused.__init__" st) (X : K.In h) (G : h.Ns mainGlobals mg) {p1 p2 q1 q2 q3 q4 : Pos} (e1 : defArgs st = DvR.ia p1 p2) (e2 : defBody st = DvR.ib q1 q2 q3 q4) (e3 : defScope st = DvR.is) : ∃ fI, DvR.Rfd K mg C fI := by
  obtain ⟨f, oc, od, an, kV, dc, pm, cd, ct, sl, a, i, l, c, kp⟩ := D
  obtain ⟨a1, q, N, bs, sn, sub, ab, col, dd, k0, k1, k2, k3, k5, cl⟩ := Z.cl
  rw [e1, e2, e3] at l
  exact ⟨f, { nm := PySem.W.mg_of X G Z.at_, cl := ⟨a1, q, N, bs, _, sn, sub, ab, col, dd, k0, k1, k2, k3, k5, cl, rfl⟩, sa := Z.sa, ga := Z.ga, gg := Z.gg, na := Z.na, ii := a, ti := beq_iff_eq.mp i, kp := Z.kp, sb := Z.sb, ty := Z.ty, hd := Z.hd, fn := ⟨oc, od, dc, pm, an, cd, ct, kV, sl, p1, p2, q1, q2, q3, q4, l, c⟩ }⟩
/-- what isinstance asks of an error's class -/
structure ExcOf (K : PySem.W.Frag) (D : Addr) : Prop where
  ic : PySem.W.isClsIn K D = true
  hg : PySem.W.findIn K (.ref D) "__getattribute__" = some (some (.builtin "BaseException.__getattribute__"))
  hk : PySem.W.findIn K (.ref D) "__getattr__" = some none
  hs : PySem.W.subIn K (.ref D) (.type "BaseException") = some true
  ha : PySem.W.findIn K (.ref D) "__class__" = some (some (.builtin "object.__class__"))
  hn : PySem.W.specialIn K (.builtin "object.__class__") "__get__" = some (some (.builtin "getset_descriptor.__get__"))
  ht : PySem.W.takesIn K (.builtin "object.__class__") = some true
  hm : PySem.W.mroIn K D (.type "object") = some true
theorem ExcOf.ei {D : Addr} (h : ExcOf K D) : ExcI K D := ⟨h.ic, h.hg, h.hk, h.hs, h.ha, h.hn, h.ht, h.hm⟩
end
end Dv
set_option autoImplicit false
set_option maxRecDepth 100000
set_option maxHeartbeats 4000000
set_option exponentiation.threshold 100000
namespace Dv
open PySem PySem.Spec PyProof.Rows L2
end Dv
set_option autoImplicit false
set_option maxRecDepth 100000
set_option maxHeartbeats 4000000
set_option exponentiation.threshold 100000
namespace Dv
open PySem PySem.Spec PyProof.Rows L2
end Dv
set_option autoImplicit false
set_option maxRecDepth 100000
set_option maxHeartbeats 4000000
set_option exponentiation.threshold 100000
namespace Dv
open PySem PySem.Spec PyProof.Rows L2
end Dv
set_option autoImplicit false
set_option maxRecDepth 100000
set_option maxHeartbeats 4000000
set_option exponentiation.threshold 100000
namespace Dv
open PySem PySem.Spec PyProof.Rows L2
end Dv
set_option autoImplicit false
set_option maxRecDepth 100000
set_option maxHeartbeats 4000000
set_option exponentiation.threshold 100000
namespace Dv
open PySem PySem.Spec PyProof.Rows L2
end Dv
set_option autoImplicit false
set_option maxRecDepth 100000
set_option maxHeartbeats 4000000
set_option exponentiation.threshold 100000
namespace Dv
open PySem PySem.Spec PyProof.Rows L2
variable {c : Ctx} {X : Cx} {st st1 st2 : Store} {o e : Expr} {pos apos : Pos} {l : List Nat}
theorem reps_signsV {K : PySem.W.Frag} {T : Ct} {G : Hp} : ∀ {l : List Nat} {vs : List V}, Reps K T G (l.map fun q => .str (sx [q])) vs → vs = (l.map fun q => sx [q]).map V.str
  | [], _, .nil => rfl
  | q :: l, _, .cons r rs => by
    cases r
    rw [reps_signsV rs]; rfl
theorem fold_signs : ∀ (l : List Nat) (acc : Array Nat), (l.map fun q => sx [q]).foldl (fun acc p => acc ++ (sx []).cps ++ p.cps) acc = acc ++ l.toArray
  | [], acc => by simp
  | q :: l, acc => by
    rw [List.map_cons, List.foldl_cons, fold_signs l]
    apply Array.ext'
    simp [sx]
theorem join_signs (l : List Nat) : Txt.join (sx []) (l.map fun q => sx [q]) = sx l := by
  show Builtin.Str.glued (sx []) (l.map fun q => sx [q]) = sx l
  unfold Builtin.Str.glued
  cases l with
  | nil => rfl
  | cons q l =>
    rw [List.map_cons, List.drop_one, List.tail_cons, fold_signs]
    show (⟨(sx [q]).cps ++ l.toArray⟩ : Str) = sx (q :: l)
    unfold sx
    congr 1
    apply Array.ext'
    simp
theorem sum_signs (l : List Nat) : ((l.map fun q => sx [q]).map (·.length)).sum = l.length := by
  induction l with
  | nil => rfl
  | cons q l ih =>
    rw [List.map_cons, List.map_cons, List.sum_cons, ih, sx_len]
    simp; omega
end Dv
set_option autoImplicit false
set_option maxRecDepth 100000
set_option maxHeartbeats 4000000
set_option exponentiation.threshold 100000
namespace Dv
open PySem PySem.Spec PyProof.Rows L2
end Dv
set_option autoImplicit false
set_option maxRecDepth 100000
set_option maxHeartbeats 4000000
set_option exponentiation.threshold 100000
namespace Dv
open PySem PySem.Spec PyProof.Rows L2 Mq
structure Wm where
  n : Nat
  r : Nat → Rat
  M : Nat → Nat → Nat → Rat
  c : Nat → Rat
end Dv
set_option autoImplicit false
set_option maxRecDepth 100000
set_option maxHeartbeats 4000000
set_option exponentiation.threshold 100000
namespace Dv
open PySem PySem.Spec PyProof.Rows L2 Mq
def dInts (ns : List Int) : List Dt := ns.map .int
def iter {α : Type} (g : Nat → α → α) (a : α) : Nat → α
  | 0 => a
  | i + 1 => g i (iter g a i)
/-- what is drawn -/
structure NOk (ns : List Int) : Prop where
  nn : ∀ x ∈ ns, 0 ≤ x
  len : ns.length ≤ 4000
theorem NOk.drop {ns : List Int} (h : NOk ns) (k : Nat) : NOk (ns.drop k) := ⟨fun x hx => h.nn x (List.mem_of_mem_drop hx), by rw [List.length_drop]; have := h.len; omega⟩
/-- a plain machine over ab: whole numbers -/
structure Pm where
  n : Nat
  r : Nat → Int
  M : Nat → Nat → Nat → Int
  c : Nat → Int
def Pm.W (p : Pm) : Wm := ⟨p.n, fun j => (p.r j : Rat), fun k i j => (p.M k i j : Rat), fun j => (p.c j : Rat)⟩
end Dv
set_option autoImplicit false
set_option maxRecDepth 100000
set_option maxHeartbeats 4000000
set_option exponentiation.threshold 100000
namespace Dv
open PySem PySem.Spec PyProof.Rows L2 Mq
structure DrOk (l : List Int) (cnt : Nat) (b : Int) : Prop where
  len : l.length = cnt
  rng : ∀ x ∈ l, 0 ≤ x ∧ x < b
theorem DrOk.get {l : List Int} {n i : Nat} {b : Int} (h : DrOk l n b) (hi : i < n) : ∃ x, l[i]? = some x ∧ l.getD i 0 = x ∧ 0 ≤ x ∧ x < b := by
  have hl : i < l.length := by rw [h.len]; exact hi
  refine ⟨l[i], List.getElem?_eq_getElem hl, by rw [List.getD_eq_getElem?_getD, List.getElem?_eq_getElem hl]; rfl, ?_⟩
  exact h.rng _ (List.getElem_mem hl)
def euS (p : Nat × Nat) : Nat × Nat := (p.2, p.1 % p.2)
end Dv
set_option autoImplicit false
set_option maxRecDepth 100000
set_option maxHeartbeats 4000000
set_option exponentiation.threshold 100000
namespace Dv
open PySem PySem.Spec PyProof.Rows L2
end Dv
set_option autoImplicit false
set_option maxRecDepth 100000
set_option maxHeartbeats 4000000
set_option exponentiation.threshold 100000
namespace Dv
open PySem PySem.Spec PyProof.Rows L2
section
variable {prog : Program} {w : World} {A : Around} {E : Value → Shared → Prop} {s : Shared} {K : PySem.W.Frag} {x C f : Addr} {ox : Obj} {od : Option Obj} {b : Value}
theorem contains_own {Q : Bool → Shared → Prop} (KX : K.In s.heap) (I : PySem.W.InstAt s.heap x ox C od) (hs : PySem.W.findIn K (.ref C) "__contains__" = some (some (.ref f))) (hf : PySem.W.isFn K (.ref f) = true)
    (h : wpAny (model prog w) A (call (.ref f) [.ref x, b]) (fun v s' => ∃ t, v = .bool t ∧ Q t s') E s) : wpAny (model prog w) A (contains (.ref x) b) Q E s := by
  have fin : ∀ refuse : Sem Value, wpAny (model prog w) A (callSpecialUnlessNone? (.ref x) "__contains__" [b] refuse) (fun r s' => ∃ t, r = some (.bool t) ∧ Q t s') E s := by
    intro refuse
    simp only [callSpecialUnlessNone?]
    refine wpAny_bind (wpAny_bind (I.type.here ((PySem.W.looks_findIn KX hs).here ?_)))
    refine wpAny_holding (wpAny_bind ((PySem.W.bind_fn KX _ (beq_iff_eq.mp hf)).here ?_))
    show wpAny (model prog w) A (if (Value.ref f == Value.none) = true then (refuse >>= fun v => pure (some v)) else (call (.ref f) [.ref x, b] >>= fun v => pure (some v))) _ E s
    rw [if_neg (show ¬ ((Value.ref f == Value.none) = true) from Bool.false_ne_true)]
    exact wpAny_bind (wpAny_mono h (fun v s' hv => by
      obtain ⟨t, rfl, hq⟩ := hv
      exact wpAny_pure ⟨t, rfl, hq⟩) fun _ _ e => e)
  unfold contains
  refine wpAny_holding ?_
  rw [show stdlibNamesSay? (.ref x) b = none from rfl]
  refine wpAny_bind (wpAny_bind (I.type.here ((PySem.W.looks_findIn KX hs).here ?_)))
  show wpAny (model prog w) A (if (some (Value.ref f) == some Value.none) = true then _ else _) Q E s
  rw [if_neg (show ¬ ((some (Value.ref f) == some Value.none) = true) from Bool.false_ne_true)]
  refine wpAny_bind (wpAny_mono (fin _) (fun r s' hr => ?_) fun _ _ e => e)
  obtain ⟨t, rfl, hq⟩ := hr
  exact wpAny_truthy_bool hq
end
section
variable {c : Ctx} {X : Cx} {st st1 st2 : Store} {a b e : Expr} {d : Dt} {fs : List Dt} {pos : Pos} {G H : Hp}
def rInO (C : Addr) (sp : Sp) (E : XK) : R2 := fun x y H Q => (∃ p dx gs, y = .ref p ∧ H p = some (.ins C dx gs)) ∧ sp [y, x] H (fun v H' => ∃ t, v = .bl t ∧ Q (.bl t) H') E
theorem op_inO {CX : CXT} {f C : Addr} {k : Nat} {fd : FuncData} {ps : List Str} {E : XK} {sp : Sp} (F : FnOk X.prog X.w X.K X.mg X.base CX k f fd ps sp) (hr : Room k X.A) (M : OwnOp X.K C "__contains__" f) (hb : Binds X.K fd ps []) (hx : Passes CX X E) :
    OpR X (compareOp .In) (rInO C sp E) := by
  intro pins s σ H x y vx vy Q I rx ry h
  obtain ⟨⟨p, dx, gs, rfl, hp⟩, hsp⟩ := h
  cases ry
  obtain ⟨mA, J, _⟩ := ins_get I.hok hp
  obtain ⟨od, J, _⟩ := J.look
  show wpAny (model X.prog X.w) X.A (contains (.ref p) vx >>= fun r => pure (Value.bool r)) (EP X pins σ Q) X.xe s
  refine wpAny_bind (contains_own I.kIn J M.at_ M.fn (thn (run_fn (dvs := []) (vs := [.ref p, x]) (us := [.ref p, vx]) F hr hb .nil hx I (.cons rfl (.cons rx .nil)) hsp) fun u s' z => ?_))
  obtain ⟨w, H1, I1, r, t, rfl, q1⟩ := z
  cases r
  exact ⟨t, rfl, wpAny_pure ⟨.bl t, H1, I1, rfl, q1⟩⟩
theorem cr_inO {n k : Nat} {R : List Dt → Dt → Prop} {x : Str} {C : Addr} {ns : List Str} {t : Bool} {Q : Bool → Prop} (q : CF X.K c.T X.mg x n C ns) (F : MF X.prog X.w X.K c.T X.mg X.base C "__contains__" k R) (hK : X.K = c.K) (hr : Room k X.A)
    (hR : R [.obj n fs, d] (.bl t)) (kk : Q t) : CmpR c X .In d (.obj n fs) Q := by
  obtain ⟨f, fd, ps, F, hf, hb⟩ := F.ex
  rw [hK] at F
  refine cr_of (op_inO (E := fun _ _ _ => False) (sp := spD c.K c.T R) (by rw [hK]; exact F) hr ⟨hf.at_, hf.fn⟩ hb pass0) (fun G H x y Q' ex r1 r2 kk => ?_) kk
  obtain ⟨C1, ns1, p, dx, vs1, rfl, t1, hp, _, _⟩ := id r2.obj_inv
  have eT := q.at_
  rw [t1] at eT
  cases eT
  refine ⟨⟨p, dx, _, rfl, ex _ _ hp⟩, G, _, _, ex, .cons r2 (.cons r1 .nil), hR, fun v G' H' g e' r' => ?_⟩
  cases r'
  exact ⟨t, rfl, kk _ G' H' (gw_of g e') .bl⟩
end
end Dv
set_option autoImplicit false
set_option maxRecDepth 100000
set_option maxHeartbeats 4000000
set_option exponentiation.threshold 100000
namespace Dv
open PySem PySem.Spec PyProof.Rows L2
end Dv
set_option autoImplicit false
set_option maxRecDepth 100000
set_option maxHeartbeats 4000000
set_option exponentiation.threshold 100000
namespace Dv
open PySem PySem.Spec PyProof.Rows L2
end Dv
set_option autoImplicit false
set_option maxRecDepth 100000
set_option maxHeartbeats 4000000
set_option exponentiation.threshold 100000
namespace Dv
open PySem PySem.Spec PyProof.Rows L2
end Dv
set_option autoImplicit false
set_option maxRecDepth 100000
set_option maxHeartbeats 4000000
set_option exponentiation.threshold 100000
namespace Dv
open PySem PySem.Spec PyProof.Rows L2
end Dv
set_option autoImplicit false
set_option maxHeartbeats 4000000
open PySem PySem.Spec PyProof.Rows L2
namespace Dv
section
variable {c : Ctx} {X : Cx} {st st1 st2 st3 : Store} {a b e o tg : Expr} {es : List Expr} {d d1 d2 : Dt} {ds xs fs : List Dt} {pos apos : Pos} {i j : Int} {l : List Nat}
def GInt (mg : Str → Option Value) (x : Str) (i : Int) : Prop := ∃ t, mg x = some (.int i t)
def NsInt (K : PySem.W.Frag) (x : Str) (i : Int) : Prop := ∃ t, PySem.W.nsIn K mainGlobals x = some (some (.int i t))
theorem NsInt.mg {K : PySem.W.Frag} {h : Heap} {mg : Str → Option Value} {x : Str} {i : Int} (z : NsInt K x i) (X : K.In h) (G : h.Ns mainGlobals mg) : GInt mg x i := by
  obtain ⟨t, ht⟩ := z
  exact ⟨t, PySem.W.mg_of X G ht⟩
/-- both ways of an if lead to one store -/
theorem ws_ifJ {t : Expr} {A B rest : List Stmt} (st' : Store) {Q : Out → Prop} (h : WT c X t st fun r st1 => IfK r (WS c X A st1 (· = .nx st')) (WS c X B st1 (· = .nx st'))) (k : WS c X rest st' Q) : WS c X (.If t A B pos :: rest) st Q := by
  obtain ⟨r, st1, h1, h2, h3⟩ := h
  refine ws_if ⟨r, st1, h1, fun e => ?_, fun e => ?_⟩
  · obtain ⟨o, z1, rfl⟩ := h2 e
    exact ⟨_, z1, aft_nx k⟩
  · obtain ⟨o, z1, rfl⟩ := h3 e
    exact ⟨_, z1, aft_nx k⟩
end
end Dv
set_option autoImplicit false
set_option maxRecDepth 100000
set_option maxHeartbeats 4000000
namespace Dv
open PySem PySem.Spec PyProof.Rows L2
end Dv
set_option autoImplicit false
set_option maxRecDepth 100000
set_option maxHeartbeats 1000000
namespace Dv
open PySem PySem.Spec PyProof.Rows L2
end Dv
set_option autoImplicit false
set_option maxRecDepth 100000
set_option maxHeartbeats 4000000
namespace Dv
open PySem PySem.Spec PyProof.Rows L2
def DefA (K : PySem.W.Frag) (x y : Str) (st : Stmt) : Prop := ∃ (f : Addr) (oc : Value) (od an : Option Addr) (kV dc pm cd ct : Value) (sl : Array (Option Value)), PySem.W.nsIn K mainGlobals x = some (some (.ref f)) ∧
  K.lookup f = some ⟨oc, od, .func (PySem.W.fnOf y y (defArgs st) (defBody st) (defScope st) .none kV dc pm an cd ct), sl⟩ ∧ PySem.W.codeIn K cd y = true ∧ PySem.W.keepIn K (.ref f) = true
theorem DefA.df {P : Program} {w : World} {K : PySem.W.Frag} {T : Ct} {mg : Str → Option Value} {base : Heap} {x y : Str} {st : Stmt} {k : Nat} {R : List Dt → Dt → Prop} {ps : List Str} {h : Heap} (D : DefA K x y st) (X : K.In h) (G : h.Ns mainGlobals mg)
    (ok : ∀ f fd, Fun K y y st f fd → FnOk P w K mg base CX0 k f fd ps (spD K T R)) (hb : ∀ (kV doc pm : Value) (an : Option Addr) (cdv ct : Value) (us : List Value), us.length = ps.length → bindArgs (PySem.W.fnOf y y (defArgs st) (defBody st) (defScope st) .none kV doc pm an cdv ct) { pos := us } = pure (ps.zip us)) : DF P w K T mg base x k R := by
  obtain ⟨f, oc, od, an, kV, dc, pm, cd, ct, sl, a, l, c, kp⟩ := D
  have F := fun_mk (st := st) l c kp
  exact ⟨f, _, ps, ok f _ F, PySem.W.mg_of X G a, kp, F.binds hb⟩
end Dv
set_option autoImplicit false
set_option maxRecDepth 100000
set_option maxHeartbeats 1000000
namespace Dv
open PySem PySem.Spec PyProof.Rows L2
end Dv
set_option autoImplicit false
set_option maxRecDepth 100000
set_option maxHeartbeats 4000000
namespace Dv
open PySem PySem.Spec PyProof.Rows L2
end Dv
set_option autoImplicit true
set_option maxRecDepth 100000
set_option maxHeartbeats 4000000
namespace DvN
open PySem PySem.W PySem.Calls PyProof.Rows PySem.HandSPX
def ia (p1 p2 : Pos) : Arguments := { posonlyargs := [], args := [{ arg := "self", annotation := none, pos := p1 }, { arg := "at", annotation := none, pos := p2 }], vararg := none, kwonlyargs := [], kw_defaults := [], kwarg := none, defaults := [] }
def ib (q1 q2 q3 q4 : Pos) : List Stmt := [.Assign [.Attribute (.Name "self" q1) "at" q2] (.Name "at" q3) q4]
def is : Scope := { kind := .function, names := [(PySem.Str.ofString "self", .local), (PySem.Str.ofString "at", .local)], isGenerator := false, isCoroutine := false, more := [] }
/-- the class at C, its __init__ at fI -/
structure Ntx (K : Frag) (mg : Str → Option Value) (C fI : Addr) : Prop where
  nm : mg "NoText" = some (.ref C)
  cl : ∃ a q N bs bm sn sub ab col dd k0 k1 k2 k3 k5, K.lookup C = some (excClassObj a q C N bs bm true sn sub ab col dd k0 k1 k2 k3 k5 "ValueError.__new__") ∧ refsVE bm = true
  sa : findIn K (.ref C) "__setattr__" = some (some (.builtin "object.__setattr__"))
  ga : findIn K (.ref C) "__getattribute__" = some (some (.builtin "BaseException.__getattribute__"))
  gg : findIn K (.ref C) "__getattr__" = some none
  na : findIn K (.ref C) "at" = some none
  ii : findIn K (.ref C) "__init__" = some (some (.ref fI))
  ti : typeIn K (.ref fI) = some (.type "function")
  kp : keepIn K (.ref C) = true
  sb : subIn K (.ref C) (.type "BaseException") = some true
  ty : typeIn K (.ref C) = some (.type "type")
  hd : hasDictIn K C = true
  fn : ∃ (oc : Value) (od : Option Addr) (doc pm : Value) (an : Option Addr) (cdv ct kV : Value) (osl : Array (Option Value)) (p1 p2 q1 q2 q3 q4 : Pos),
    K.lookup fI = some ⟨oc, od, .func (fnOf "__init__" "NoText.__init__" (ia p1 p2) (ib q1 q2 q3 q4) is .none kV doc pm an cdv ct), osl⟩ ∧ codeIn K cdv "NoText.__init__" = true
theorem local_at {M : Model} {s : Shared} {name : Str} {scope : Scope} {L a : Addr} {cd : Value} {m : Str → Option Value} {x : Str} {pos : Pos} {v : Value} {Q : Value → Shared → Prop} {A : Around} {E : Value → Shared → Prop} (hn : s.heap.Ns L m) (hv : m x = some v) (h : Q v s)
    (hk : scope.kind = .function := by rfl) (hl : (envOfC name scope L a cd).kindOf x = some .local := by rfl) (hd : (x == ("__debug__" : Str)) = false := by decide) :
    wpAny M A (eval (.Name x pos) (envOfC name scope L a cd)) Q E s := wpAny_Name (wpAny_loadName_local hk hl hn hv h) hd
/-- behind __init__ -/
structure Born (h h' : Heap) (x C dx t1 : Addr) (v : Value) : Prop where
  kp : ∀ b o, b ≠ x → h.get? b = some o → h'.get? b = some o
  ob : h'.get? x = some { cls := .ref C, dict := some dx, data := .fields #[.ref t1, .none, .none, .none, .bool false, .none] }
  hi : h.objs.size ≤ dx
  ne : dx ≠ x
  ns : h'.Ns1 dx (fun y => if y = "at" then some v else none)
/-- the error made -/
structure Err (h h' : Heap) (e C d : Addr) (v : Value) : Prop where
  kp : ∀ b o, h.get? b = some o → h'.get? b = some o
  nw : h.objs.size ≤ e
  ob : ∃ oe vs, h'.get? e = some oe ∧ oe.cls = .ref C ∧ oe.dict = some d ∧ oe.data = .fields vs ∧ vs[1]? = some .none
  hi : h.objs.size ≤ d
  ne : d ≠ e
  ns : h'.Ns1 d (fun y => if y = "at" then some v else none)
section
variable {prog : Program} {w : World} {A : Around} {E : Value → Shared → Prop} {R : Result → Shared → Prop} {s : Shared} {K : Frag} {mg : Str → Option Value} {C fI : Addr}
theorem born (T : Ntx K mg C fI) {x t0 : Addr} {v : Value} (X : K.In s.heap) (hlim : s.heap.NoLimit) (hx : s.heap.get? x = some (excO C t0)) (hroom : A.depth < recursionLimit)
    (hq : ∀ h' tk dx, Born s.heap h' x C dx t0 v → R (.ok (.ret .none)) { s with heap := h', toks := tk }) :
    codeAny (model prog w) A (.call (.ref fI) ⟨[.ref x, v], []⟩) R s := by
  obtain ⟨oc, od, doc, pm, an, cdv, ct, kV, osl, p1, p2, q1, q2, q3, q4, ho, hcd⟩ := T.fn
  obtain ⟨a, q, N, bs, bm, sn, sub, ab, col, dd, k0, k1, k2, k3, k5, hC, hbm⟩ := T.cl
  have hcl : clsIn K C = some { name := a, bases := bs, mro := .ref C :: bm, ns := N, qualname := q, hasDict := true, slotNames := sn, subclasses := sub, abstract := ab, collection := col, hasDel := false } := by unfold clsIn; rw [hC] <;> rfl
  refine Att.call_fn (binds := [("self", .ref x), ("at", v)]) X hlim ho hcd hroom (BindsTo.of_eq (by with_unfolding_all rfl)) (by with_unfolding_all rfl) (fun s₁ IC => ?_) rfl rfl rfl
  obtain ⟨h₁, tk₁, rfl⟩ := IC.toInCall.same
  have k : ∀ b o, s.heap.get? b = some o → h₁.get? b = some o := IC.toInCall.keep
  have hn := IC.toInCall.ns
  have X₁ : K.In h₁ := X.keeps k
  have hx₁ := k _ _ hx
  show wpAny _ _ (execs _ _) _ _ _
  refine wpAny_execs_cons (plainObj_wpAny_Assign_Attribute ?_)
  refine local_at (v := v) hn (by first | rfl | with_unfolding_all rfl | kernel_rfl) (local_at (v := .ref x) hn (by first | rfl | with_unfolding_all rfl | kernel_rfl) ?_)
  refine set_plain X₁ (ox := excO C t0) (od := none) ⟨hx₁, rfl, rfl, trivial⟩ T.sa ?_
  refine exc_osa X₁ hx₁ hcl (show refsVE (.ref C :: bm) = true from hbm) rfl T.na (fun h₃ tk₃ dx k₃ dn dne hx₃ hn₃ => ?_)
  show wpAny _ _ (execs _ _) _ _ _
  have z : s.heap.objs.size < h₁.objs.size := hn.lt
  exact wpAny_execs_nil (hq h₃ tk₃ dx ⟨fun b o hb e => k₃ b o hb (k b o e), hx₃, Nat.le_of_lt (Nat.lt_of_lt_of_le z dn), dne, hn₃⟩)
theorem made (T : Ntx K mg C fI) {v : Value} (X : K.In s.heap) (hlim : s.heap.NoLimit) (hroom : A.depth + 1 < recursionLimit)
    (hq : ∀ h' tk e d, Err s.heap h' e C d v → R (.ok (.ret (.ref e))) { s with heap := h', toks := tk }) :
    codeAny (model prog w) A (.call (.ref C) ⟨[v], []⟩) R s := by
  obtain ⟨a, q, N, bs, bm, sn, sub, ab, col, dd, k0, k1, k2, k3, k5, hC, hbm⟩ := T.cl
  obtain ⟨hp, g, dr, tk, os⟩ := s
  have k : ∀ b o, hp.get? b = some o → ((hp.push (kdv_tup [v])).push (excO C hp.objs.size)).get? b = some o := fun b o e => Heap.get?_push_of_some _ (Heap.get?_push_of_some _ e)
  have hget : ((hp.push (kdv_tup [v])).push (excO C hp.objs.size)).get? (hp.objs.size + 1) = some (excO C hp.objs.size) := by heap_get
  refine call_own F.excBase_ValueError (fun X => refsVE_contains X bm hbm) (X _ _ hC) (looks_findIn X T.ii) (fun self => bind_fn X self T.ti) (by rw [sizeLine_eq]; exact (by decide : 1 ≤ 16777216)) ?_
  refine born (s := ⟨(hp.push (kdv_tup [v])).push (excO C hp.objs.size), g, dr, tk, os⟩) T (X.keeps k) (hlim.keeps k) hget ?_ fun h' tk' dx ⟨k', hx, dn, dne, hns⟩ => ?_
  · show A.depth + 1 < recursionLimit
    exact hroom
  · have old : ∀ b o, hp.get? b = some o → h'.get? b = some o := fun b o e => k' b o (Nat.ne_of_lt (Nat.lt_succ_of_lt (Heap.lt_size e))) (k b o e)
    have z : hp.objs.size + 1 + 1 ≤ dx := by
      first
        | (simpa only [Heap.size_push] using dn)
        | exact dn
        | (have q := dn; rw [Heap.size_push, Heap.size_push] at q; exact q)
    exact ⟨rfl, hq h' tk' (hp.objs.size + 1) dx ⟨old, Nat.le_succ _, ⟨_, _, hx, rfl, rfl, rfl, rfl⟩, Nat.le_trans (Nat.le_trans (Nat.le_succ _) (Nat.le_succ _)) z, dne, hns⟩⟩
end
end DvN
namespace Dv
open PySem PySem.Spec PyProof.Rows L2
end Dv
set_option autoImplicit false
set_option maxRecDepth 100000
set_option maxHeartbeats 4000000
namespace Dv
open PySem PySem.Spec PyProof.Rows L2
section
variable {c : Ctx} {X : Cx} {W : WX} {x : Xn} {st st1 st2 st3 : Store} {a b e tg iter t : Expr} {es : List Expr} {d d1 d2 : Dt} {ds xs : List Dt} {pos : Pos} {body rest A B : List Stmt} {s : Stmt} {o : Out} {n k m : Nat} {C fI : Addr}
def WR (c : Ctx) (X : Cx) (W : WX) (ss : List Stmt) (st : Store) (x : Xn) : Prop := ∃ st', XSX c X W ss st x st'
/-- a branch: it raises, or what is behind it -/
def WRB (c : Ctx) (X : Cx) (W : WX) (rest : List Stmt) (x : Xn) (A : List Stmt) (st : Store) : Prop := WR c X W A st x ∨ WS c X A st fun o => ∃ s2, o = .nx s2 ∧ WR c X W rest s2 x
theorem wr_if (h : WT c X t st fun r st1 => IfK r (WRB c X W rest x A st1) (WRB c X W rest x B st1)) : WR c X W (.If t A B pos :: rest) st x := by
  obtain ⟨r, st1, h1, h2, h3⟩ := h
  cases r with
  | true =>
    rcases h2 rfl with ⟨st', q⟩ | ⟨o, q, s2, rfl, st', q2⟩
    · exact ⟨st', xsx_here (xpx_if h1 (fun _ => q) fun z => nomatch z)⟩
    · exact ⟨st', xsx_cons (xp_if h1 (fun _ => q) fun z => nomatch z) q2⟩
  | false =>
    rcases h3 rfl with ⟨st', q⟩ | ⟨o, q, s2, rfl, st', q2⟩
    · exact ⟨st', xsx_here (xpx_if h1 (fun z => nomatch z) fun _ => q)⟩
    · exact ⟨st', xsx_cons (xp_if h1 (fun z => nomatch z) fun _ => q) q2⟩
theorem wrb_x (h : WR c X W A st x) : WRB c X W rest x A st := .inl h
theorem wrb_0 (h : WR c X W rest st x) : WRB c X W rest x [] st := .inr (ws_nil ⟨st, rfl, h⟩)
theorem wr_raise {y m : Str} {j : Nat} {p p2 p3 : Pos} (R : Rz X.K X.mg y C) (hc : X.calm = true) (tk : Takes X W) (hg : Gl X y := by rfl) (hdb : (y == ("__debug__" : Str)) = false := by decide) :
    WR c X W (.Raise (some (.Call (.Name y p) [.Constant (.str m) j p2] [] pos)) none p3 :: rest) st ⟨C, none⟩ := ⟨_, xsx_here (xpx_raise R hc tk hg hdb)⟩
theorem wr_raiseR {p p3 : Pos} {k : Nat} (T : DvR.Rfd X.K X.mg C fI) (hc : X.calm = true) (hr : Room k X.A) (tk : Takes X W) (h : WA c X [a] st fun ds _ => ∃ d, ds = [d] ∧ x = ⟨C, some ("reason", d)⟩) (hg : Gl X "Refused" := by rfl)
    (he : starEach (a :: []) X.env = (false, eval a X.env) :: starEach [] X.env := by rfl) (hpl : (backTo pos (starEach [] X.env)).any (·.1) = false := by rfl) :
    WR c X W (.Raise (some (.Call (.Name "Refused" p) [a] [] pos)) none p3 :: rest) st x := by
  obtain ⟨ds, st1, h1, d, rfl, rfl⟩ := h
  exact ⟨_, xsx_here (xpx_raiseR T hc hr tk h1 hg he hpl)⟩
end
end Dv
set_option autoImplicit false
set_option maxRecDepth 100000
set_option maxHeartbeats 4000000
namespace Dv
open PySem PySem.Spec PyProof.Rows L2
end Dv
namespace Dv
open PySem PySem.Spec PyProof.Rows L2
end Dv
set_option autoImplicit false
set_option maxRecDepth 100000
set_option maxHeartbeats 4000000
namespace Dv
open PySem PySem.Spec PyProof.Rows L2
def keyD : Key → Dt
  | .inl i => .int i
  | .inr x => .str x
inductive KReps (K : PySem.W.Frag) (T : Ct) (G : Hp) : List (Key × Dt) → List (Key × V) → Prop where
  | nil : KReps K T G [] []
  | cons {k d v kds kvs} : Rep K T G d v → KReps K T G kds kvs → KReps K T G ((k, d) :: kds) ((k, v) :: kvs)
section
variable {K : PySem.W.Frag} {T : Ct} {G G' H : Hp}
theorem KReps.ex : ∀ {kds : List (Key × Dt)} {kvs : List (Key × V)}, Ex G G' → KReps K T G kds kvs → KReps K T G' kds kvs
  | _, _, e, .nil => .nil
  | _, _, e, .cons r t => .cons (r.ex e) (KReps.ex e t)
theorem KReps.len : ∀ {kds : List (Key × Dt)} {kvs : List (Key × V)}, KReps K T G kds kvs → kds.length = kvs.length
  | _, _, .nil => rfl
  | _, _, .cons _ t => congrArg Nat.succ (KReps.len t)
theorem KReps.any (k : Key) : ∀ {kds : List (Key × Dt)} {kvs : List (Key × V)}, KReps K T G kds kvs → (kds.any fun kv => decide (kv.1 = k)) = (kvs.any fun kv => decide (kv.1 = k))
  | _, _, .nil => rfl
  | _, _, .cons _ t => by rw [List.any_cons, List.any_cons, KReps.any k t]
theorem KReps.map (k : Key) {d : Dt} {v : V} (r : Rep K T G d v) : ∀ {kds : List (Key × Dt)} {kvs : List (Key × V)}, KReps K T G kds kvs → KReps K T G (kds.map fun kv => if kv.1 = k then (kv.1, d) else kv) (kvs.map fun kv => if kv.1 = k then (kv.1, v) else kv)
  | _, _, .nil => .nil
  | _, _, .cons (k := k') r' t => by
    rw [List.map_cons, List.map_cons]
    by_cases h : k' = k
    · rw [if_pos h, if_pos h]; exact .cons r (KReps.map k r t)
    · rw [if_neg h, if_neg h]; exact .cons r' (KReps.map k r t)
end
section
variable {c : Ctx} {X : Cx} {st st1 st2 st3 st' : Store} {a b e iter tg : Expr} {es : List Expr} {d d1 d2 d' : Dt} {ds xs ys : List Dt} {pos : Pos} {G G' H H' : Hp} {σ : L2.St} {rest : List Stmt} {i j m : Nat} {F : PySem.W.Frag → Ct → Hp → HO → Prop} {kds : List (Key × Dt)} {k : Key}
mutual
/-- nothing but what is plain, lists, tuples and instances -/
def Dt.nx : Dt → Bool
  | .ext _ => false
  | .lst xs => Dt.nxs xs
  | .ro xs => Dt.nxs xs
  | .tup xs => Dt.nxs xs
  | .obj _ fs => Dt.nxs fs
  | _ => true
def Dt.nxs : List Dt → Bool
  | [] => true
  | d :: r => d.nx && Dt.nxs r
end
end
end Dv
set_option autoImplicit false
set_option maxRecDepth 100000
set_option maxHeartbeats 4000000
namespace Dv
open PySem PySem.Spec PyProof.Rows L2
section
variable {c : Ctx} {X : Cx} {st st1 st2 st3 st' : Store} {a b e : Expr} {d : Dt} {pos : Pos} {k : Key} {ks : List (Option Expr)} {vs : List Expr} {kds : List (Key × Dt)} {σ : L2.St} {G H : Hp}
/-- the pairs of a display, from the left -/
inductive XPr (c : Ctx) (X : Cx) : List (Option Expr) → List Expr → Store → List (Key × Dt) → Store → Prop
  | nil {st : Store} : XPr c X [] [] st [] st
  | cons {st st1 st2 st3 : Store} {a e : Expr} {d : Dt} {k : Key} {ks : List (Option Expr)} {vs : List Expr} {kds : List (Key × Dt)} : XD c X a st (keyD k) st1 → XD c X e st1 d st2 → XPr c X ks vs st2 kds st3 → XPr c X (some a :: ks) (e :: vs) st ((k, d) :: kds) st3
theorem XPr.len (h : XPr c X ks vs st kds st') : kds.length = ks.length := by
  induction h with
  | nil => rfl
  | cons _ _ _ ih => exact congrArg Nat.succ ih
end
end Dv
set_option autoImplicit false
set_option maxRecDepth 100000
set_option maxHeartbeats 4000000
namespace Dv
open PySem PySem.Spec PyProof.Rows L2
end Dv
set_option autoImplicit false
set_option maxRecDepth 100000
set_option maxHeartbeats 4000000
namespace Dv
open PySem PySem.Spec PyProof.Rows L2
def sTy (ty : String) : Prop := ty = "str_ascii_iterator" ∨ ty = "str_iterator"
/-- what stands where the iterator is made -/
def itS (it : Addr) (ty : String) (x : Str) (t : Tok) : HO := .ext fun h => h.IsStrIter it ty x t 0
section
variable {c : Ctx} {X : Cx} {st st1 : Store} {e tg : PySem.Expr} {d : Dt} {ds ys fs : List Dt}
theorem itS_ok {P : Program} {w : World} {H : Hp} {h : Heap} {it : Addr} {ty : String} {x : Str} {t : Tok} (z : h.IsStrIter it ty x t 0) : ObjOk P w H h it (itS it ty x t) := by
  obtain ⟨o, h1, h2, h3⟩ := z
  show ObjOk P w H h it (HO.ext _)
  simp only [ObjOk]
  exact ⟨⟨o, h1, h2, h3⟩, ⟨o, h1⟩, fun g1 g2 p q => let ⟨o', p1, p2, p3⟩ := p; ⟨o', q _ p1, p2, p3⟩⟩
theorem itS_get {P : Program} {w : World} {H : Hp} {h : Heap} {it : Addr} {ty : String} {x : Str} {t : Tok} (z : ObjOk P w H h it (itS it ty x t)) : h.IsStrIter it ty x t 0 := by
  have z : ObjOk P w H h it (HO.ext fun h => h.IsStrIter it ty x t 0) := z
  simp only [ObjOk] at z
  exact z.1
theorem cr_iterS : CallR X (.builtin "iter") (fun xs H Q => ∃ x, xs = [.str x] ∧ ∀ it ty t, sTy ty → X.base.objs.size ≤ it → H it = none → Q (.ref it) (upd H it (itS it ty x t))) := by
  intro pins s σ H xs us Q I r h
  obtain ⟨x, rfl, k⟩ := h
  cases r with
  | cons r0 r1 =>
    cases r1
    obtain ⟨t, rfl⟩ := r0
    have lay : ∀ ty, sTy ty → ∃ v H', Inv X pins σ H' { s with heap := s.heap.push { cls := .type ty, data := .fields #[.str x t, .int 0 0] } } ∧ RelV v (.ref s.heap.objs.size) ∧ Q v H' := fun ty hty =>
      ⟨.ref s.heap.objs.size, _, I.laid (t' := s.toks) (o := itS s.heap.objs.size ty x t) (fun b ob q => Heap.get?_push_of_some _ q) (Nat.le_refl _) (itS_ok ⟨_, Heap.get?_push_size s.1 rfl, rfl, rfl⟩), rfl, k _ ty t hty I.env0.bsz (I.hok.fresh (Nat.le_refl _))⟩
    refine Calls.call_function_entry (b := Builtin.iter) (by decide) (by decide) W.kdk_entry_iter (W.kdk_args_iter (.str x t)) ?_
    show wpAny _ _ (do
      let l ← someArgs "iter" 1 2 { pos := [Value.str x t] }
      _) _ _ _
    refine wpAny_bind (wpAny_of_eq (Eq.refl (someArgs "iter" 1 2 { pos := [Value.str x t] })) ?_)
    show wpAny _ _ (do
      let l ← pyIter (.str x t)
      ret l) _ _ _
    cases ha : x.cps.all (· < 128)
    · exact wpAny_bind (wpAny_pyIter_wide ha (wpAny_pure ⟨_, rfl, lay _ (.inr rfl)⟩))
    · exact wpAny_bind (wpAny_pyIter_ascii ha (wpAny_pure ⟨_, rfl, lay _ (.inl rfl)⟩))
/-- the contract: the letters of the field -/
def spIs (base : Heap) (K : PySem.W.Frag) (T : Ct) (n i : Nat) : Sp := fun vs H Q _ => ∃ G fs x, Ex G H ∧ Reps K T G [.obj n fs] vs ∧ fs[i]? = some (.str x) ∧ ∀ it ty t, sTy ty → base.objs.size ≤ it → H it = none → Q (.ref it) (upd H it (itS it ty x t))
theorem ok_is {P : Program} {w : World} {K : PySem.W.Frag} {T : Ct} {mg : Str → Option Value} {base : Heap} {qual : Str} {sd : Stmt} {f : Addr} {fd : FuncData} {n i : Nat} {C : Addr} {ns : List Str} {fld : Str} {p1 p2 p3 p4 p5 : PySem.Pos} (F : Fun K "__iter__" qual sd f fd) (S : FnScope ["self"] ["self"] (defScope sd))
    (hB : defBody sd = [.Return (some (.Call (.Name "iter" p1) [.Attribute (.Name "self" p2) fld p3] [] p4)) p5]) (hT : T n = some (C, ns)) (hc : Cls K C) (hna : NoAttr K C fld) (hi : ns.findIdx? (· == fld) = some i) (hmi : mg "iter" = none)
    (hg : ∀ cdv A outer s H E, Gl (bX P w K mg base ["self"] qual sd f cdv A outer s H E) "iter") (hv : ∀ cdv A outer s H E, Vis (bX P w K mg base ["self"] qual sd f cdv A outer s H E).env.scope "self")
    (hb : ∀ cdv A outer s H E, attributeBase (.Name "self" p2) fld (bX P w K mg base ["self"] qual sd f cdv A outer s H E).env (eval (.Name "self" p2) (bX P w K mg base ["self"] qual sd f cdv A outer s H E).env) = eval (.Name "self" p2) (bX P w K mg base ["self"] qual sd f cdv A outer s H E).env)
    (hs : ∀ cdv A outer s H E, starEach [.Attribute (.Name "self" p2) fld p3] (bX P w K mg base ["self"] qual sd f cdv A outer s H E).env = (false, eval (.Attribute (.Name "self" p2) fld p3) (bX P w K mg base ["self"] qual sd f cdv A outer s H E).env) :: starEach [] (bX P w K mg base ["self"] qual sd f cdv A outer s H E).env)
    (hp : ∀ cdv A outer s H E, (backTo p4 (starEach [] (bX P w K mg base ["self"] qual sd f cdv A outer s H E).env)).any (·.1) = false) : FnOk P w K mg base CX0 1 f fd ["self"] (spIs base K T n i) := by
  refine F.ok S (fun vs H Q E h => ?_) (fun cdv A outer s H vs Q E hr h => ?_)
  · obtain ⟨G, fs, ys, e, rs, _, _⟩ := h
    rw [← rs.length]; rfl
  · obtain ⟨G, fs, x, e, rs, hf, kk⟩ := h
    rw [hB]
    refine ⟨_, pss_one (ps_ret (pe_callB (X := bX P w K mg base ["self"] qual sd f cdv A outer s H E) cr_iterS (hg ..) hmi PyProof.Rows.boot_iter (pa_cons (pe_fld (pe_var (i := 0) rfl (hv ..)) (hb ..)) pa_nil (hs ..)) (by decide) (by decide) (hs ..) (hp ..))), ?_⟩
    cases rs with
    | cons r0 r1 =>
      cases r1
      obtain ⟨C1, ns1, q, dx, ws, rfl, q1, q2, q3, q4⟩ := id r0.obj_inv
      rw [hT] at q1
      cases q1
      obtain ⟨v, h1, h2⟩ := q4.get hf
      cases h2
      exact ⟨.ref q, rfl, q, C, dx, _, .str x, rfl, e _ _ q2, hc, hna, lookup_zip hi h1, x, rfl, fun it ty t ht hb hit => kk it ty t ht hb hit⟩
theorem pi_ownS {CX : CXT} {k : Nat} {f C : Addr} {fd : FuncData} {E : XK} {sp : Heap → Sp} {te : TE} (hl : PE X e te) (F : ∀ base, FnOk X.prog X.w X.K X.mg base CX k f fd ["self"] (sp base)) (hr : Room k X.A) (M : OwnOp X.K C "__iter__" f) (hb : Binds X.K fd ["self"] []) (hx : Passes CX X E) :
    PI X tg e (fun σ H R => te σ H fun x H1 => ∃ p dx gs, x = .ref p ∧ H1 p = some (.ins C dx gs) ∧ ∀ base, sp base [x] H1 (fun v H2 => ∃ it ty y t, v = .ref it ∧ sTy ty ∧ base.objs.size ≤ it ∧ H1 it = none ∧ H2 = upd H1 it (itS it ty y t) ∧ R (Its y) H1) E) :=
  ⟨fun pins s σ H R I h => thn (hl.run pins s σ H _ I h) fun v s1 x => by
    obtain ⟨xv, H1, I1, r1, p, dx, gs, rfl, hp, hsp⟩ := x
    cases r1
    obtain ⟨mA, J, _⟩ := ins_get I1.hok hp
    obtain ⟨od, J, _⟩ := J.look
    obtain ⟨m, hF⟩ := I1.fr
    have b := hb s1 [.ref p] I1.kIn rfl
    rw [List.append_nil] at b
    refine PySem.W.owit_iter hF I1.ok.mod.kin J M.at_ M.fn (wpAny_call (codeAny_mono ((F (padH X.base s1.heap.objs.size)).run X.A X.stack s1 H1 ⟨[.ref p], []⟩ [.ref p] [.ref p] _ E hr (env0_pad I1.env0) b (.cons rfl .nil) (hsp _)) fun r s' hq => ?_))
    cases r with
    | error e => exact hx pins σ H1 s1 e s' I1 hq
    | ok fl =>
      cases fl with
      | next => exact False.elim hq
      | brk => exact False.elim hq
      | cont => exact False.elim hq
      | ret u =>
        obtain ⟨w, H2, os, bare, un, hok, rel, it, ty, y, t, rfl, hty, hsz, hn, rfl, hR⟩ := hq
        rw [pad_size I1.env0.bsz] at hsz
        cases rel
        have z := itS_get (hok it _ upd_same)
        have un' : Un (frs X.stack) [] H1 H1 s1.heap s'.heap := ⟨un.keep, un.slot, fun b o _ h _ => h, un.there, fun _ _ h => h, fun _ _ _ h => h, fun b ps h => ⟨#[], by simpa using h⟩⟩
        have hok' : HOk X.prog X.w H1 s'.heap := fun b o hb' => by
          have ne : ∀ d x, H1 d = some x → d ≠ it := fun d x hd q => by rw [q, hn] at hd; cases hd
          have up : ∀ d x, (upd H1 it (itS it ty y t)) d = some x → d ≠ it → H1 d = some x := fun d x hd q => by rw [upd_ne q] at hd; exact hd
          have := hok b o (by rw [upd_ne (ne b o hb')]; exact hb')
          refine this.stay (fun _ _ _ h => h) (fun d hd => up d _ hd fun q => ?_) (fun d xs hd => up d _ hd fun q => ?_)
          · rw [q, upd_same] at hd; cases hd
          · rw [q, upd_same] at hd; cases hd
        obtain ⟨v', H', I', _, rfl⟩ := I1.after (u := .ref it) (Q := fun _ H' => H' = H1) ⟨.ref it, H1, os, bare, un', hok', rfl, rfl⟩
        rcases hty with rfl | rfl
        · exact wpAny_specialOf (Heap.IsStrIter.typeIs z) PySem.F.slot_str_ascii_iterator_next.lookup ⟨it, [it], fun i h => h.IsStrIter it _ y t i, Its y, _, rfl, I', turn_str it y t _ (.inl rfl), z, fun b hb => by
            rw [List.mem_singleton.mp hb]
            exact I1.fpOk hsz hn, hR⟩
        · exact wpAny_specialOf (Heap.IsStrIter.typeIs z) PySem.F.slot_str_iterator_next.lookup ⟨it, [it], fun i h => h.IsStrIter it _ y t i, Its y, _, rfl, I', turn_str it y t _ (.inr rfl), z, fun b hb => by
            rw [List.mem_singleton.mp hb]
            exact I1.fpOk hsz hn, hR⟩⟩
/-- the __iter__ of an own class hands out the letters of its field i -/
structure ItS (P : Program) (w : World) (K : PySem.W.Frag) (T : Ct) (mg : Str → Option Value) (C : Addr) (n i : Nat) : Prop where
  ex : ∃ f fd, (∀ base, FnOk P w K mg base CX0 1 f fd ["self"] (spIs base K T n i)) ∧ OwnOp K C "__iter__" f ∧ Binds K fd ["self"] []
theorem yld_its {x : Str} {G0 : Hp} : Yld c (Its x) G0 (x.cps.toList.map fun q => .str ⟨#[q]⟩) where
  go := fun i G H _ _ hi => by
    show i < x.cps.size
    simpa using hi
  stop := fun i G H _ _ hi => by
    show x.cps.size ≤ i
    simpa using hi
  yl := fun i G H y H' _ e2 hi q => by
    obtain ⟨rfl, q, h1, rfl⟩ := q
    exact ⟨G, .str ⟨#[q]⟩, Gw.refl e2, by rw [List.getElem?_map, Array.getElem?_toList, h1]; rfl, .str⟩
theorem xi_ownS {n i : Nat} {x : Str} {C : Addr} {ns : List Str} {l : List Nat} (h : XD c X e st (.obj n fs) st1) (Q : CF X.K c.T X.mg x n C ns) (F : ItS X.prog X.w X.K c.T X.mg C n i) (hK : X.K = c.K) (hr : Room 1 X.A) (hf : fs[i]? = some (.str (sx l))) : XI c X tg e st (l.map fun q => .str (sx [q])) st1 := by
  obtain ⟨f, fd, F, M, hb⟩ := F.ex
  rw [hK] at F
  refine ⟨pi_weak (pi_ownS (E := fun _ _ _ => False) h.pe (by rw [hK]; exact F) hr M hb pass0) fun σ H R ⟨G, E, k⟩ => ⟨G, E, fun v G1 H1 g1 E1 r1 => ?_⟩⟩
  obtain ⟨C1, ns1, q, dx, ws, rfl, q1, q2, q3, q4⟩ := id r1.obj_inv
  rw [Q.at_] at q1
  cases q1
  refine ⟨q, dx, _, rfl, E1.ex _ _ q2, fun base => ⟨G1, fs, sx l, E1.ex, .cons r1 .nil, hf, fun it ty t hty hb hn => ?_⟩⟩
  exact ⟨it, ty, _, t, rfl, hty, hb, hn, rfl, k _ G1 H1 g1 E1 yld_its⟩
theorem wi_ownS {n i : Nat} {x : Str} {C : Addr} {ns : List Str} {Q : List Dt → Store → Prop} (q : CF X.K c.T X.mg x n C ns) (F : ItS X.prog X.w X.K c.T X.mg C n i) (hK : X.K = c.K) (hr : Room 1 X.A) (h : WE c X e st fun d st1 => ∃ fs l, d = .obj n fs ∧ fs[i]? = some (.str (sx l)) ∧ Q (l.map fun q => .str (sx [q])) st1) : WI c X tg e st Q := by
  obtain ⟨_, _, h1, fs, l, rfl, h2, h3⟩ := h
  exact ⟨_, _, xi_ownS h1 q F hK hr h2, h3⟩
end
section
variable {P : Program} {w : World} {K : PySem.W.Frag} {T : Ct} {mg : Str → Option Value}
theorem MethAt.its {C : Addr} {q : Str} {st : Stmt} {n i : Nat} (D : MethAt K C "__iter__" q st)
    (ok : ∀ f fd, Fun K "__iter__" q st f fd → ∀ base, FnOk P w K mg base CX0 1 f fd ["self"] (spIs base K T n i)) (hb : ∀ (kV doc pm : Value) (an : Option Addr) (cdv ct : Value) (us : List Value), us.length = 1 → bindArgs (PySem.W.fnOf "__iter__" q (defArgs st) (defBody st) (defScope st) .none kV doc pm an cdv ct) { pos := us } = pure ((["self"] : List Str).zip us)) : ItS P w K T mg C n i := by
  obtain ⟨f, oc, od, an, kV, dc, pm, cd, ct, sl, a, i, l, c, kp⟩ := D
  have F := fun_mk (st := st) l c kp
  exact ⟨f, _, fun base => ok f _ F base, ⟨a, i⟩, F.binds hb⟩
end
end Dv
set_option autoImplicit false
set_option maxRecDepth 100000
set_option maxHeartbeats 4000000
namespace Dv
open PySem PySem.Spec PyProof.Rows L2 Zk
section
variable {c : Ctx} {X : Cx} {st st1 : Store} {a b e e2 e3 : Expr} {d1 d2 d3 : Dt} {xs ys zs ds : List Dt} {σ : L2.St} {H : Hp}
def st3 (κ1 κ2 κ3 : Kd) (n0 a b c : Addr) (N : Nat) (i : Nat) (h : Heap) : Prop :=
  i ≤ N ∧ IsZip h (n0 + 5) (n0 + 3) (n0 + 4) .none ∧ IsTupOf3 h (n0 + 3) (.ref n0) (.ref (n0 + 1)) (.ref (n0 + 2)) ∧ (∃ a1 a2 a3, IsTupOf3 h (n0 + 4) a1 a2 a3) ∧ Wk κ1 h n0 a i ∧ Wk κ2 h (n0 + 1) b i ∧ Wk κ3 h (n0 + 2) c i
end
end Dv
set_option autoImplicit false
set_option maxRecDepth 100000
set_option maxHeartbeats 4000000
namespace Dv
open PySem PySem.Spec PyProof.Rows L2 Zk
theorem draws_s {prog : Program} {w : World} {A : Around} {ty : String} (hty : sTy ty) (hh : A.handled = none) (it : Addr) (x : Str) (t : Tok) :
    Draws prog w A it [it] x.cps.size (fun i v => ∃ c u, x.cps[i]? = some c ∧ v = .str ⟨#[c]⟩ u) (fun i h => h.IsStrIter it ty x t i) := by
  rcases hty with rfl | rfl
  · exact Draws.strAscii hh it x t
  · exact Draws.strWide hh it x t
end Dv
set_option autoImplicit false
set_option maxRecDepth 100000
set_option maxHeartbeats 4000000
namespace Dv
open PySem PySem.Spec PyProof.Rows L2 Zk
theorem sTy_of (x : Str) : sTy (strIterType x) := by
  unfold strIterType
  cases x.cps.all (· < 128)
  · exact .inr rfl
  · exact .inl rfl
theorem zxx_sep (n1 : Nat) : ZipSep2 (n1 + 4) (n1 + 2) (n1 + 3) n1 (n1 + 1) [n1] [n1 + 1] :=
  { TIz := show (n1 + 2 : Nat) ≠ n1 + 4 by omega, TOz := show (n1 + 3 : Nat) ≠ n1 + 4 by omega, TITO := show (n1 + 2 : Nat) ≠ n1 + 3 by omega, TIi1 := show (n1 + 2 : Nat) ≠ n1 by omega, mem1 := by simp,
    zf1 := by rw [List.mem_singleton]; exact (show ¬ (n1 + 4 : Nat) = n1 by omega), Tf1 := by rw [List.mem_singleton]; exact (show ¬ (n1 + 3 : Nat) = n1 by omega), TIi2 := show (n1 + 2 : Nat) ≠ n1 + 1 by omega, mem2 := by simp,
    zf2 := by rw [List.mem_singleton]; exact (show ¬ (n1 + 4 : Nat) = n1 + 1 by omega),
    Tf2 := by rw [List.mem_singleton]; exact (show ¬ (n1 + 3 : Nat) = n1 + 1 by omega),
    sep1_2 := by rw [List.mem_singleton]; exact (show ¬ (n1 : Nat) = n1 + 1 by omega),
    sep2_1 := by rw [List.mem_singleton]; exact (show ¬ (n1 + 1 : Nat) = n1 by omega) }
def ItXX (x y : Str) (N : Nat) : It :=
  ⟨fun i H => i < N ∧ i < min x.cps.size y.cps.size,
   fun i H v H' => ∃ T q r, v = .ref T ∧ H T = none ∧ H' = upd H T (.tup [.str ⟨#[q]⟩, .str ⟨#[r]⟩]) ∧ x.cps[i]? = some q ∧ y.cps[i]? = some r,
   fun i H => N ≤ i ∧ min x.cps.size y.cps.size = N⟩
def stXX (n1 : Addr) (x y : Str) (t t2 : Tok) (N : Nat) (i : Nat) (h : Heap) : Prop :=
  i ≤ N ∧ IsZip h (n1 + 4) (n1 + 2) (n1 + 3) .none ∧ IsTupOf2 h (n1 + 2) (.ref n1) (.ref (n1 + 1)) ∧ (∃ a1 a2, IsTupOf2 h (n1 + 3) a1 a2) ∧ h.IsStrIter n1 (strIterType x) x t i ∧ h.IsStrIter (n1 + 1) (strIterType y) y t2 i
def fpXX (n1 : Addr) : List Addr := [n1 + 4, n1 + 2, n1 + 3, n1, n1 + 1]
theorem fpXX_or {n1 q : Addr} (h : q ∈ fpXX n1) : q = n1 + 4 ∨ q = n1 + 2 ∨ q = n1 + 3 ∨ q = n1 ∨ q = n1 + 1 := by simpa [fpXX] using h
theorem subXX {n1 q : Addr} (h : q ∈ [n1 + 4, n1 + 3, n1, n1 + 1]) : q ∈ fpXX n1 := by
  have : q = n1 + 4 ∨ q = n1 + 3 ∨ q = n1 ∨ q = n1 + 1 := by simpa using h
  rcases this with h | h | h | h <;> simp [fpXX, h]
theorem turnXX {P : Program} {w : World} {K : PySem.W.Frag} {elts : List Expr} {kk : Nat} {tpos : Pos} {n1 : Addr} {x y : Str} {t t2 : Tok} {N : Nat} :
    Turn P w K (.Tuple elts kk tpos) (ItXX x y N) (fpXX n1) (n1 + 4) (stXX n1 x y t t2 N) where
  mem := by simp [fpXX]
  obj := fun i h st q hq => by
    obtain ⟨_, hz, hTI, ⟨a1, a2, hTO⟩, ⟨o1, e1, _, f1⟩, ⟨o2, e2, _, f2⟩⟩ := st
    rcases fpXX_or hq with rfl | rfl | rfl | rfl | rfl
    · exact ⟨_, hz, fun v q => nomatch q⟩
    · exact ⟨_, hTI, fun v q => nomatch q⟩
    · exact ⟨_, hTO, fun v q => nomatch q⟩
    · exact ⟨o1, e1, fun v q => by rw [f1] at q; cases q⟩
    · exact ⟨o2, e2, fun v q => by rw [f2] at q; cases q⟩
  keep := fun i h h' st k => by
    obtain ⟨h0, hz, hTI, ⟨a1, a2, hTO⟩, h1, h2⟩ := st
    obtain ⟨o1, g1, g2⟩ := h1
    obtain ⟨o3, g3, g4⟩ := h2
    exact ⟨h0, k _ (by simp [fpXX]) _ hz, k _ (by simp [fpXX]) _ hTI, ⟨a1, a2, k _ (by simp [fpXX]) _ hTO⟩, ⟨o1, k _ (by simp [fpXX]) _ g1, g2⟩, ⟨o3, k _ (by simp [fpXX]) _ g3, g4⟩⟩
  item := by
    intro X hP hw hK hc i pins s σ H E I hf st hg
    subst hP hw hK
    obtain ⟨h0, hz, hTI, hTO, h1, h2⟩ := st
    obtain ⟨hN, hi⟩ := hg
    have hh : X.A.in1.handled = none := I.ok.hd hc
    have W := GoesN.zip2 (elts := elts) (x1 := kk) (pos := tpos) (zxx_sep n1) (draws_s (prog := X.prog) (w := X.w) (A := X.A.in1) (sTy_of x) hh n1 x t) (draws_s (prog := X.prog) (w := X.w) (A := X.A.in1) (sTy_of y) hh (n1 + 1) y t2)
    refine W.goes i s _ E hi ⟨hz, hTI, hTO, h1, h2⟩ fun v h' tk ⟨T, u1, u2, ev, new, ⟨q, u, y1, eu⟩, ⟨r, u', y2, eu'⟩, hT⟩ st' kp _ => ?_
    subst ev eu eu'
    have nw : ObjOk X.prog X.w (upd H T (.tup [.str ⟨#[q]⟩, .str ⟨#[r]⟩])) h' T (.tup [.str ⟨#[q]⟩, .str ⟨#[r]⟩]) := ⟨by show 2 ≤ sizeLine; decide, [.str ⟨#[q]⟩ u, .str ⟨#[r]⟩ u'], .cons ⟨u, rfl⟩ (.cons ⟨u', rfl⟩ .nil), hT⟩
    have I1 : Inv X pins σ (upd H T (.tup [.str ⟨#[q]⟩, .str ⟨#[r]⟩])) { s with heap := h', toks := tk } :=
      I.turnedNew (t' := tk) (ch := fpXX n1) (fun q o hb e => kp q o (fun m => hb (subXX m)) e) hf new nw
    obtain ⟨z1, z2, z3, z4, z5⟩ := st'
    refine ⟨.ref T, _, I1, rfl, ⟨T, q, r, rfl, I.hok.fresh new, rfl, y1, y2⟩, ⟨hN, z1, z2, z3, z4, z5⟩, fun q hq => ?_⟩
    have lt : q < s.heap.objs.size := by
      obtain ⟨_, _, hTO'⟩ := hTO
      rcases fpXX_or hq with rfl | rfl | rfl | rfl | rfl
      · exact Heap.lt_size hz
      · exact Heap.lt_size hTI
      · exact Heap.lt_size hTO'
      · obtain ⟨_, e1, _⟩ := h1; exact Heap.lt_size e1
      · obtain ⟨_, e1, _⟩ := h2; exact Heap.lt_size e1
    rw [upd_ne (Nat.ne_of_lt (Nat.lt_of_lt_of_le lt new))]
    exact (hf q hq).1
  done := by
    intro X hP hw hK hc i pins s σ H E I hf st hg
    subst hP hw hK
    obtain ⟨h0, hz, hTI, hTO, h1, h2⟩ := st
    obtain ⟨hN, hi⟩ := hg
    have hh : X.A.in1.handled = none := I.ok.hd hc
    have W := GoesN.zip2 (elts := elts) (x1 := kk) (pos := tpos) (zxx_sep n1) (draws_s (prog := X.prog) (w := X.w) (A := X.A.in1) (sTy_of x) hh n1 x t) (draws_s (prog := X.prog) (w := X.w) (A := X.A.in1) (sTy_of y) hh (n1 + 1) y t2)
    have ei : i = min x.cps.size y.cps.size := by omega
    subst ei
    exact W.stops s _ E ⟨hz, hTI, hTO, h1, h2⟩ fun h' tk kp _ => I.turnedL (t' := tk) (ch := fpXX n1) (fun q o hb e => kp q o (fun m => hb (subXX m)) e) hf
  self := fun A i s Q E st h => wpAny_pyIter_zip st.2.1 h
section
variable {c : Ctx} {X : Cx} {st st1 : Store} {e e2 : Expr} {d : Dt} {ds ys fs : List Dt}
def iXX (ta : TA) : TI := fun σ H R => ta σ H fun vs H1 => ∃ x y, vs = [.str x, .str y] ∧ R (ItXX x y (min x.cps.size y.cps.size)) H1
theorem pi_zipXX {ta : TA} {p pos tpos : Pos} {elts : List Expr} {kk : Nat} (hg : Gl X "zip") (hm : X.mg "zip" = none) (ha : PA X [e, e2] ta)
    (hs : starEach [e, e2] X.env = (false, eval e X.env) :: starEach [e2] X.env := by rfl) (hpl : (backTo pos (starEach [e2] X.env)).any (·.1) = false := by rfl) :
    PI X (.Tuple elts kk tpos) (.Call (.Name "zip" p) [e, e2] [] pos) (iXX ta) := by
  refine ⟨fun pins s σ H R I h => ?_⟩
  refine Call_ (ld_blt I hg hm PyProof.Rows.boot_zip (PyProof.Rows.callWith_type1 (thn (ha.run pos pins s σ H _ I h) fun us s1 ⟨vs, H1, I1, r1, q1⟩ => ?_) hs hpl))
  obtain ⟨x, y, ex, q⟩ := q1
  subst ex
  cases r1 with
  | cons r rr =>
    cases rr with
    | cons r' rr =>
      cases rr
      obtain ⟨t, rfl⟩ := r
      obtain ⟨t2, rfl⟩ := r'
      have fresh : ∀ q, q ∈ fpXX s1.heap.objs.size → FpOk X pins H1 q := fun q hq => by
        have hle : s1.heap.objs.size ≤ q := by
          rcases fpXX_or hq with z | z | z | z | z
          · rw [z]; exact Nat.le_add_right _ _
          · rw [z]; exact Nat.le_add_right _ _
          · rw [z]; exact Nat.le_add_right _ _
          · rw [z]; exact Nat.le_refl _
          · rw [z]; exact Nat.le_add_right _ _
        exact I1.fpOk hle (I1.hok.fresh hle)
      refine zip_begins2 (begins_text x t) (begins_text y t2) trivial trivial fun h' hz hTI hTO g1 g2 _ hk => wpAny_pyIter_zip hz ?_
      have I2 : Inv X pins σ H1 { s1 with heap := h' } := I1.kept (t' := s1.toks) hk
      exact ⟨s1.heap.objs.size + 4, fpXX s1.heap.objs.size, _, _, H1, rfl, I2, turnXX, ⟨Nat.zero_le _, hz, hTI, ⟨_, _, hTO⟩, ⟨_, g1, rfl, rfl⟩, ⟨_, g2, rfl, rfl⟩⟩, fresh, q⟩
theorem xi_zipXX {l m : List Nat} {p pos tpos : Pos} {elts : List Expr} {kk : Nat} (ha : XA c X [e, e2] st [.str (sx l), .str (sx m)] st1) (hm : X.mg "zip" = none) (hg : Gl X "zip" := by rfl)
    (hs : starEach [e, e2] X.env = (false, eval e X.env) :: starEach [e2] X.env := by rfl) (hpl : (backTo pos (starEach [e2] X.env)).any (·.1) = false := by rfl) :
    XI c X (.Tuple elts kk tpos) (.Call (.Name "zip" p) [e, e2] [] pos) st (List.zipWith (fun x y => .tup [x, y]) (l.map fun q => .str (sx [q])) (m.map fun q => .str (sx [q]))) st1 := by
  refine ⟨pi_weak (pi_zipXX hg hm ha.pa hs hpl) fun σ H R ⟨G, E, k⟩ => ⟨G, E, fun vs G1 H1 g1 E1 r1 => ?_⟩⟩
  cases r1 with
  | cons r r1 =>
    cases r1 with
    | cons r' r1 =>
      cases r1
      cases r
      cases r'
      refine ⟨sx l, sx m, rfl, k _ G1 H1 g1 E1 ⟨fun i G H e1 e2 hi => ?_, fun i G H e1 e2 hi => ?_, fun i G H x H' e1 e2 hi y => ?_⟩⟩
      · have hi0 : i < min l.length m.length := by simpa using hi
        have : i < min (sx l).cps.size (sx m).cps.size := by simpa [sx] using hi0
        exact ⟨this, this⟩
      · have hi0 : min l.length m.length ≤ i := by simpa using hi
        have : min (sx l).cps.size (sx m).cps.size ≤ i := by simpa [sx] using hi0
        exact ⟨this, rfl⟩
      · obtain ⟨T, q', r', rfl, hn, rfl, y1, y2⟩ := y
        have z1 : (l.map fun q => Dt.str (sx [q]))[i]? = some (.str (sx [q'])) := by
          rw [List.getElem?_map]
          have : l[i]? = some q' := by simpa [sx] using y1
          rw [this]; rfl
        have z3 : (m.map fun q => Dt.str (sx [q]))[i]? = some (.str (sx [r'])) := by
          rw [List.getElem?_map]
          have : m[i]? = some r' := by simpa [sx] using y2
          rw [this]; rfl
        have ex := Ex.new (o := .tup [.str ⟨#[q']⟩, .str ⟨#[r']⟩]) (e2.none hn)
        exact ⟨_, _, Gw.new e2 hn, zipWith_get z1 z3, .tup (SqT.of upd_same) (.cons .str (.cons .str .nil))⟩
theorem wi_zipXX {p pos tpos : Pos} {elts : List Expr} {kk : Nat} {Q : List Dt → Store → Prop} (hm : X.mg "zip" = none)
    (h : WA c X [e, e2] st fun ds st1 => ∃ l m, ds = [.str (sx l), .str (sx m)] ∧ Q (List.zipWith (fun x y => .tup [x, y]) (l.map fun q => .str (sx [q])) (m.map fun q => .str (sx [q]))) st1) (hg : Gl X "zip" := by rfl)
    (hs : starEach [e, e2] X.env = (false, eval e X.env) :: starEach [e2] X.env := by rfl) (hpl : (backTo pos (starEach [e2] X.env)).any (·.1) = false := by rfl) :
    WI c X (.Tuple elts kk tpos) (.Call (.Name "zip" p) [e, e2] [] pos) st Q := by
  obtain ⟨ds, st1, h1, l, m, rfl, h4⟩ := h
  exact ⟨_, _, xi_zipXX h1 hm hg hs hpl, h4⟩
end
end Dv
set_option autoImplicit false
set_option maxRecDepth 100000
set_option maxHeartbeats 4000000
namespace Dv
open PySem PySem.Spec PyProof.Rows L2 Builtin Builtin.Str
theorem foldl_repN (l : List Nat) : ∀ (m : Nat) (acc : Array Nat), (List.replicate m l.toArray).foldl (· ++ ·) acc = acc ++ (List.replicate m l).flatten.toArray
  | 0, acc => by simp
  | m + 1, acc => by
    rw [List.replicate_succ, List.foldl_cons, foldl_repN l m, List.replicate_succ, List.flatten_cons]
    simp
def rMulX : R2 := fun x y H Q => ∃ (l : List Nat) (n : Int), x = .str (sx l) ∧ y = .int n ∧ 2 ≤ n ∧ n ≤ 100000 ∧ l ≠ [] ∧ l.length * n.toNat ≤ 100000 ∧ Q (.str (sx (List.replicate n.toNat l).flatten)) H
theorem op_mulX {X : Cx} : OpR X (binaryOp .Mult) rMulX := by
  intro pins s σ H x y v u Q I rx ry h
  obtain ⟨l, n, rfl, rfl, h1, h2, h3, h4, q⟩ := h
  obtain ⟨t, rfl⟩ := rx
  obtain ⟨t2, rfl⟩ := ry
  have hl : 0 < l.length := List.length_pos_iff.mpr h3
  have e1 : (n == 1 || (sx l).length == 0) = false := by
    rw [sx_len]
    have a : (n == 1) = false := by simp; omega
    have b : (l.length == 0) = false := by simp; omega
    rw [a, b]; rfl
  have ef : (⟨(List.replicate n.toNat (sx l).cps).foldl (· ++ ·) #[]⟩ : Str) = sx (List.replicate n.toNat l).flatten := by
    show (⟨(List.replicate n.toNat l.toArray).foldl (· ++ ·) #[]⟩ : Str) = _
    rw [foldl_repN]
    simp [sx]
  have hll : l.length ≤ 100000 := Nat.le_trans (Nat.le_mul_of_pos_right _ (by omega)) h4
  have hm : (l.length : Int) * n ≤ 100000 := by
    have e : ((l.length * n.toNat : Nat) : Int) = (l.length : Int) * n := by rw [Int.natCast_mul]; congr 1; omega
    rw [← e]; omega
  refine P.mul_str ?_ (fun _ _ => ?_) (fun _ _ => ?_) ?_
  · have a : decide (n < -(2 ^ 63 : Int)) = false := decide_eq_false (by omega)
    have b : decide (n ≥ 2 ^ 63) = false := decide_eq_false (by omega)
    rw [a, b]; rfl
  · rw [sx_len]
    intro z
    have : (2 ^ 63 - 1 : Int) / n ≥ 2 ^ 40 := by
      rw [ge_iff_le, Int.le_ediv_iff_mul_le (by omega)]
      omega
    omega
  · rw [sx_len]
    unfold tooLong
    exact decide_eq_false (by rw [sizeLine_eq]; omega)
  · rw [if_neg (by omega), e1, if_neg (by decide), ef]
    have hz : (sx (List.replicate n.toNat l).flatten).length ≤ 100000 := by
      rw [sx_len, List.length_flatten, List.map_replicate, List.sum_replicate_nat, Nat.mul_comm]
      exact h4
    exact ⟨Nat.le_trans hz (by decide), ⟨.str _, H, I.tok _, ⟨_, rfl⟩, q⟩⟩
theorem br_mulX {c : Ctx} {X : Cx} {l : List Nat} {n : Int} {Q : Dt → Prop} (h1 : 2 ≤ n) (h2 : n ≤ 100000) (h3 : l ≠ []) (h4 : l.length * n.toNat ≤ 100000) (h : Q (.str (sx (List.replicate n.toNat l).flatten))) : BinR c X .Mult (.str (sx l)) (.int n) Q :=
  ⟨_, fun _ _ _ _ _ _ ha hb => xd_bin ha hb op_mulX fun G H x y Q' ex r1 r2 kk => by
    cases r1
    cases r2
    exact ⟨l, n, rfl, rfl, h1, h2, h3, h4, kv_same kk ex .str⟩, h⟩
theorem pl_str {l : List Nat} {k : Nat} (h : ∀ q ∈ l, q < 1114112) : Pl k (.str (sx l)) (.str (sx l)) := ⟨rfl, by
  rw [PyData.canLay0.eq_4]
  unfold PyData.strOk sx
  rw [← Array.all_toList]
  simpa using h, by rw [PyData.depth.eq_7]; omega, by rw [PyData.eqv.eq_6]; simp⟩
end Dv
set_option autoImplicit true
set_option maxRecDepth 100000
namespace DvS
open PySem PySem.Spec PyProof.Rows PySem.Froz SS
def keyS (e : Int × Value) : Str := strOf e.2
/-- the payload holds the texts l, each once, and its table can be walked -/
structure TxR (P : Program) (w : World) (D : SD) (l : List Str) : Prop where
  ok : TxOk P w D l
  pm : (D.1.toList.map keyS).Perm l
  st : ∀ e ∈ D.1.toList, ∃ k u, e.2 = Value.str k u
  ris : L2.Ris D.2.2.place.toList
  led : w.params.followText "set-order" = true ∨ D.2.2.led = true
section
variable {P : Program} {w : World} {A : Around} {E : Value → Shared → Prop} {s : Shared}
theorem tail_facts (ep : Nat) (es1 : Array (Int × Value)) (t2 : SetTable) (wd : Bool) (hr : L2.Ris t2.place.toList) :
    (tailTx ep es1 t2 wd).1.toList.Perm es1.toList ∧ L2.Ris (tailTx ep es1 t2 wd).2.2.place.toList ∧ (tailTx ep es1 t2 wd).2.2.led = t2.led := by
  unfold tailTx
  by_cases c : (!wd && t2.tooFull) = true
  · rw [if_pos c]
    exact ⟨relayAll_perm _ _ _, L2.relayAll_ris _ _ _, L2.relayAll_led _ _ _⟩
  · rw [if_neg c]
    exact ⟨.refl _, hr, rfl⟩
theorem addTx_facts (es : Array (Int × Value)) (ep : Nat) (t : SetTable) (hr : L2.Ris t.place.toList) (z : Int) (v : Value) :
    (addTx z v (es, ep, t)).1.toList.Perm (es.push (z, v)).toList ∧ L2.Ris (addTx z v (es, ep, t)).2.2.place.toList ∧ (addTx z v (es, ep, t)).2.2.led = t.led := by
  have hp := layNew_perm t es z v
  have h1 := L2.layNew_ris t es z v hr
  have h2 := L2.layNew_led t es z v
  have t2 : ∀ x : SetTable, (if x.plain = true then { x with plain := false } else x).place = x.place ∧ (if x.plain = true then { x with plain := false } else x).led = x.led := fun x => by
    split <;> exact ⟨rfl, rfl⟩
  obtain ⟨a1, a2, a3⟩ := tail_facts ep (layNew t es z v).1 (if (layNew t es z v).2.1.plain = true then { (layNew t es z v).2.1 with plain := false } else (layNew t es z v).2.1) (layNew t es z v).2.2.1 (by rw [(t2 _).1]; exact h1)
  exact ⟨a1.trans hp, a2, a3.trans ((t2 _).2.trans h2)⟩
theorem TxR.add {D : SD} {l : List Str} {k : Str} (u : Tok) (F : TxR P w D l) : TxR P w (addTx (hashStr w k) (.str k u) D) (k :: l) := by
  have a := add_ok (k := k) u F.ok
  obtain ⟨es, ep, t⟩ := D
  obtain ⟨p, r, e⟩ := addTx_facts es ep t F.ris (hashStr w k) (.str k u)
  rw [Array.toList_push] at p
  refine ⟨a, ?_, fun x hx => ?_, r, F.led.imp id fun z => e.trans z⟩
  · refine (p.map keyS).trans ?_
    rw [List.map_append]
    exact (List.perm_append_singleton _ _).trans (List.Perm.cons k F.pm)
  · rcases List.mem_append.mp (p.mem_iff.mp hx) with h | h
    · exact F.st x h
    · rw [List.mem_singleton.mp h]; exact ⟨k, u, rfl⟩
theorem add_old {a : Addr} {T : String} {D : SD} {l : List Str} {k : Str} {u : Tok} {Q : Bool → Shared → Prop} (ho : s.heap.get? a = some (sObj T D)) (F : TxOk P w D l) (hk : k ∈ l) (hb : l.length < scanBound)
    (h : Q false s) : wpAny (model P w) A (setAddHashed a (.str k u) (hashStr w k)) Q E s := by
  obtain ⟨es, ep, t⟩ := D
  have hd : (sObj T (es, ep, t)).data = .set es ep t := rfl
  have hf : t.fits es.size = true := F.fit
  have hel : ElemsOf (strKind P w) es.toList := F.el
  have hsz : es.size = l.length := F.sz
  have hb0 : es.size < scanBound := by omega
  unfold setAddHashed setAddHashedIn
  refine wpAny_holding (wpAny_bind (wpAny_setState_of ho hd hf ?_))
  dsimp only
  rw [byScan_of rfl hb0 hel]
  simp only [↓reduceIte]
  unfold setAddByScan
  refine wpAny_bind ?_
  refine wpAny_bind (wpAny_rule ?_)
  refine wpAny_bind (wpAny_setScan_of (knd := strKind P w) (k := k) (is_str k u) ho hd hf hel ?_)
  cases hfi : List.findIdx? (fun e => (strKind P w).is k e.2) es.toList with
  | none =>
    obtain ⟨e, he, q⟩ := (F.mem k).mp hk
    have c := List.findIdx?_eq_none_iff.mp hfi e he
    rw [q] at c
    cases c
  | some j =>
    dsimp only
    exact wpAny_pure (wpAny_pure h)
end
section
variable {P : Program} {w : World} {A : Around} {R : Result → Shared → Prop}
theorem sing_inj {c d : Nat} (h : sing c = sing d) : c = d := by
  have q : [c] = [d] := congrArg (fun y : Str => y.cps.toList) h
  exact (List.cons.inj q).1
theorem code_upd {a it : Addr} (hne : a ≠ it) {T : String} {x : Str} {u : Tok} (hh : A.handled = none) : ∀ (cs : List Nat) (i : Nat) (D : SD) (l : List Str) (s : Shared), x.cps.toList.drop i = cs →
    s.heap.get? a = some (sObj T D) → s.heap.get? it = some (itObj x u i) → TxR P w D l → l.Nodup → l.length + cs.length < scanBound →
    (∀ (h' : Heap) (tk : Nat) (D' : SD) (l' : List Str), h'.get? a = some (sObj T D') → TxR P w D' l' → l'.Nodup → (∀ k, k ∈ l' ↔ k ∈ l ∨ k ∈ cs.map sing) →
      (∀ b o, b ≠ a → b ≠ it → s.heap.get? b = some o → h'.get? b = some o) → R (.ok (.ret .none)) { s with heap := h', toks := tk }) → codeAny (model P w) A (.builtin "set.update.loop" ⟨[.ref a, .ref it], []⟩) R s
  | [], i, D, l, s, hd, ha, hit, F, nd, _, h => by
    refine codeAny_builtin PyProof.Rows.F.entry_set_update_loop ?_
    rw [Around.under_plainId PyProof.Rows.F.plain_set_update_loop _]
    show wpAny _ A.in1 (pyNext (.ref it) >>= _) _ _ s
    refine wpAny_bind (end_x (u := u) (by exact hh) hit (at_end hd) ?_)
    show wpAny _ A.in1 (ret Value.none) _ _ _
    have up : ∀ b o, b ≠ it → s.heap.get? b = some o → (endHeap s.heap it i).get? b = some o := fun b o hb e =>
      Heap.get?_push_of_some _ (Heap.get?_push_of_some _ (PySem.Heap.get?_update_of_ne _ (Ne.symm hb) e))
    exact wpAny_pure (h _ _ D l (up a _ hne ha) F nd (fun k => by simp) fun b o _ hb e => up b o hb e)
  | c :: r, i, D, l, s, hd, ha, hit, F, nd, hb, h => by
    obtain ⟨hx, hd2⟩ := at_of hd
    have hb2 : l.length + (r.length + 1) < scanBound := hb
    refine codeAny_builtin PyProof.Rows.F.entry_set_update_loop ?_
    rw [Around.under_plainId PyProof.Rows.F.plain_set_update_loop _]
    show wpAny _ A.in1 (pyNext (.ref it) >>= _) _ _ s
    refine wpAny_bind (next_x (u := u) hit hx ?_)
    show wpAny _ A.in1 (holding [Value.str (sing c) s.toks] (setAdd a (.str (sing c) s.toks)) >>= _) _ _ _
    refine wpAny_bind (wpAny_holding ?_)
    unfold setAdd
    refine wpAny_holding ?_
    refine wpAny_bind ((strKind P w).pyHash (k := sing c) (is_str _ _) ?_)
    have ha1 : (s.heap.update it (fun _ => itObj x u (i + 1))).get? a = some (sObj T D) := PySem.Heap.get?_update_of_ne _ (Ne.symm hne) ha
    have hit1 : (s.heap.update it (fun _ => itObj x u (i + 1))).get? it = some (itObj x u (i + 1)) := get_upd _ hit rfl
    have up1 : ∀ b o, b ≠ it → s.heap.get? b = some o → (s.heap.update it (fun _ => itObj x u (i + 1))).get? b = some o := fun b o hb e => PySem.Heap.get?_update_of_ne _ (Ne.symm hb) e
    by_cases hc : sing c ∈ l
    · refine add_old (l := l) (D := D) (s := { s with heap := s.heap.update it (fun _ => itObj x u (i + 1)), toks := s.toks + 1 + 1 }) ha1 F.ok hc (by omega) ?_
      refine wpAny_pure ⟨plainId_quiet PyProof.Rows.F.plain_set_update_loop _, code_upd hne hh r (i + 1) D l _ hd2 ha1 hit1 F nd (by omega) fun h' tk D' l' g1 g2 g3 g4 g5 => ?_⟩
      refine h h' tk D' l' g1 g2 g3 (fun k => (g4 k).trans ?_) fun b o h1 h2 e => g5 b o h1 h2 (up1 b o h2 e)
      rw [List.map_cons, List.mem_cons]
      constructor
      · rintro (z | z)
        · exact .inl z
        · exact .inr (.inr z)
      · rintro (z | z | z)
        · exact .inl z
        · exact .inl (z ▸ hc)
        · exact .inr z
    · refine add_x (l := l) (D := D) (s := { s with heap := s.heap.update it (fun _ => itObj x u (i + 1)), toks := s.toks + 1 + 1 }) ha1 F.ok hc (by omega) ?_
      have ha2 : ((s.heap.update it (fun _ => itObj x u (i + 1))).update a (fun _ => sObj T (addTx (hashStr w (sing c)) (.str (sing c) s.toks) D))).get? a = some (sObj T (addTx (hashStr w (sing c)) (.str (sing c) s.toks) D)) := get_upd _ ha1 rfl
      have hit2 : ((s.heap.update it (fun _ => itObj x u (i + 1))).update a (fun _ => sObj T (addTx (hashStr w (sing c)) (.str (sing c) s.toks) D))).get? it = some (itObj x u (i + 1)) := PySem.Heap.get?_update_of_ne _ hne hit1
      refine wpAny_pure ⟨plainId_quiet PyProof.Rows.F.plain_set_update_loop _, code_upd hne hh r (i + 1) _ (sing c :: l) _ hd2 ha2 hit2 (F.add s.toks) (List.nodup_cons.mpr ⟨hc, nd⟩) (by show l.length + 1 + r.length < scanBound; omega) fun h' tk D' l' g1 g2 g3 g4 g5 => ?_⟩
      refine h h' tk D' l' g1 g2 g3 (fun k => (g4 k).trans ?_) fun b o h1 h2 e => g5 b o h1 h2 (PySem.Heap.get?_update_of_ne _ (Ne.symm h1) (up1 b o h2 e))
      rw [List.map_cons, List.mem_cons, List.mem_cons]
      constructor
      · rintro ((z | z) | z)
        · exact .inr (.inl z)
        · exact .inl z
        · exact .inr (.inr z)
      · rintro (z | z | z)
        · exact .inl (.inr z)
        · exact .inl (.inl z)
        · exact .inr z
end
section
variable {P : Program} {w : World} {A : Around} {E : Value → Shared → Prop} {s : Shared}
theorem TxR.nil {led : Bool} (hl : w.params.followText "set-order" = true ∨ led = true) : TxR P w (#[], 0, SetTable.fresh 0 0 led) [] where
  ok := TxOk.nil (by cases led <;> rfl)
  pm := .nil
  st := fun e he => by simp at he
  ris := by
    show L2.Ris (SetTable.fresh 0 0 led).place.toList
    have e : (SetTable.fresh 0 0 led).place.toList = [] := by cases led <;> rfl
    rw [e]; exact .nil
  led := hl.imp id fun z => by rw [z]; rfl
set_option maxHeartbeats 3200000 in
theorem call_set_strR {x : Str} {u : Tok} {Q : Value → Shared → Prop}
    (hh : A.handled = none) (ha : x.cps.all (· < 128) = true) (hz : x.cps.toList.length < 1000)
    (h : ∀ (h' : Heap) (tk : Nat) (D : SD) (l : List Str), h'.get? s.heap.objs.size = some (sObj "set" D) → TxR P w D l → l.Nodup → (∀ k, k ∈ l ↔ k ∈ x.cps.toList.map sing) →
      (∀ b o, b < s.heap.objs.size → s.heap.get? b = some o → h'.get? b = some o) → Q (.ref s.heap.objs.size) { s with heap := h', toks := tk }) :
    wpAny (model P w) A (call (.type "set") [.str x u]) Q E s := by
  obtain ⟨c, tl, hmro⟩ := PySem.F.called_set.mro
  have hmade := PySem.F.called_set.made
  have hsub := PySem.F.called_set.sub
  refine wpAny_call (codeAny_of_tree ?_)
  show wpAny _ _ (callAny (.type "set") _) _ _ _
  refine wpAny_pure ⟨Code.quiet_builtin _ (by decide +kernel), codeAny_builtin PySem.F.entry_type_call ?_⟩
  rw [Around.under_plain (weight_type_call_type "set" [.str x u] []) rfl]
  have h1 := PySem.F.called_set.notType
  have h2 := PySem.F.called_set.canCreate
  have hct := PySem.F.typeCall_set_1 (.str x u)
  repeat (any_goals (first | assumption | wp_step))

  refine codeAny_mono (L2.code_set_led1 (.str x u) (E := E) (Q₁ := fun obj s₁ => obj = .ref s.heap.objs.size ∧ s₁ = { s with heap := s.heap.push { cls := .type "set", dict := none, data := .set #[] 0 (.fresh 0 0 (!w.params.followText "set-order")) } }) ⟨rfl, rfl⟩) fun r s₁ hr => ?_
  cases r with
  | error e => exact hr
  | ok fl =>
    cases fl with
    | ret obj =>
      obtain ⟨rfl, rfl⟩ := hr
      have hled : w.params.followText "set-order" = true ∨ (!w.params.followText "set-order") = true := by cases w.params.followText "set-order" <;> simp
      generalize (!w.params.followText "set-order") = led at hled ⊢
      have hS : (s.heap.push { cls := .type "set", dict := none, data := .set #[] 0 (.fresh 0 0 led) }).get? s.heap.objs.size = some { cls := .type "set", dict := none, data := .set #[] 0 (.fresh 0 0 led) } := Heap.get?_push_size _ rfl
      have hT : Shared.TypeIs { s with heap := s.heap.push { cls := .type "set", dict := none, data := .set #[] 0 (.fresh 0 0 led) } } (.ref s.heap.objs.size) "set" := ⟨_, hS, rfl⟩
      have hli := PySem.F.called_set.init.lookup
      have hbi := PySem.F.called_set.init.bind (.ref s.heap.objs.size)
      repeat (any_goals (first | assumption | wp_step))

      refine codeAny_mono (codeAny_call_builtin (R := wants (fun r s₂ => r = .none ∧ ∃ h' tk D l, s₂ = { s with heap := h', toks := tk } ∧
          h'.get? s.heap.objs.size = some (sObj "set" D) ∧ TxR P w D l ∧ l.Nodup ∧ (∀ k, k ∈ l ↔ k ∈ x.cps.toList.map sing) ∧
          (∀ b o, b < s.heap.objs.size → s.heap.get? b = some o → h'.get? b = some o)) E) PySem.F.called_set.init.plain PySem.F.entry_set_init (check_set_init_1 hT ?_)) fun r₂ s₂ hr₂ => ?_
      · have hsls := sub_str_set
        have hslf := sub_str_frozenset
        have hne : (Value.type "str" == Value.type "dict") = false := by decide
        unfold Builtin.«set.__init__» noKeywords Builtin.Frozenset.updateFrom
        generalize hPI : pyIter = PI
        wp_walk
        subst hPI
        refine wpAny_pyIter_ascii ha ?_
        refine wpAny_bind (wpAny_runValue ?_)
        have hne2 : s.heap.objs.size ≠ (s.heap.push { cls := .type "set", dict := none, data := .set #[] 0 (.fresh 0 0 led) }).objs.size := by rw [Heap.size_push]; omega
        have g1 : ((s.heap.push { cls := .type "set", dict := none, data := .set #[] 0 (.fresh 0 0 led) }).push (itObj x u 0)).get? s.heap.objs.size = some (sObj "set" (#[], 0, .fresh 0 0 led)) := Heap.get?_push_of_some _ hS
        have g2 : ((s.heap.push { cls := .type "set", dict := none, data := .set #[] 0 (.fresh 0 0 led) }).push (itObj x u 0)).get? (s.heap.push { cls := .type "set", dict := none, data := .set #[] 0 (.fresh 0 0 led) }).objs.size = some (itObj x u 0) := Heap.get?_push_size _ rfl
        refine code_upd (P := P) (w := w) (a := s.heap.objs.size) (u := u) hne2 (by simp [hh]) x.cps.toList 0 (#[], 0, .fresh 0 0 led) [] _ rfl g1 g2 (TxR.nil hled) .nil (by show 0 + x.cps.toList.length < scanBound; unfold scanBound; omega) fun h' tk D' l' q1 q2 q3 q4 q5 => ?_
        show wpAny _ _ _ _ _ _
        refine wpAny_pure ?_
        show wpAny _ _ (ret Value.none) _ _ _
        refine wpAny_pure ⟨rfl, h', tk, D', l', rfl, q1, q2, q3, fun k => (q4 k).trans (by simp), fun b o hb e => ?_⟩
        have n1 : b ≠ s.heap.objs.size := Nat.ne_of_lt hb
        have n2 : b ≠ (s.heap.push { cls := .type "set", dict := none, data := .set #[] 0 (.fresh 0 0 led) }).objs.size := by rw [Heap.size_push]; omega
        exact q5 b o n1 n2 (Heap.get?_push_of_some _ (Heap.get?_push_of_some _ e))
      · cases r₂ with
        | error e => exact hr₂
        | ok fl₂ =>
          cases fl₂ with
          | ret r =>
            obtain ⟨rfl, h', tk, D, l, rfl, q1, q2, q3, q4, hk'⟩ := hr₂
            repeat (any_goals (first | assumption | wp_step))
            exact h _ _ _ _ q1 q2 q3 q4 hk'
          | _ => exact hr₂.elim
    | _ => exact hr.elim
end
def srt (l : List Nat) : List Nat := (List.range 128).filter fun q => decide (q ∈ l)
theorem srt_pair (l : List Nat) : (srt l).Pairwise (· < ·) := List.Pairwise.filter _ List.pairwise_lt_range
theorem srt_mem {l : List Nat} (hl : ∀ q ∈ l, q < 128) (q : Nat) : q ∈ srt l ↔ q ∈ l := by
  unfold srt
  rw [List.mem_filter, List.mem_range, decide_eq_true_eq]
  exact ⟨fun h => h.2, fun h => ⟨hl q h, h⟩⟩
end DvS
set_option autoImplicit true
set_option maxRecDepth 100000
set_option maxHeartbeats 4000000
namespace DvS
open PySem PySem.Spec PyProof.Rows PySem.Froz SS
theorem nodup_len {α : Type} [DecidableEq α] : ∀ (a b : List α), a.Nodup → (∀ x ∈ a, x ∈ b) → a.length ≤ b.length
  | [], _, _, _ => Nat.zero_le _
  | x :: a, b, nd, h => by
    obtain ⟨h1, h2⟩ := List.nodup_cons.mp nd
    have hx := h x (List.mem_cons_self ..)
    have ih := nodup_len a (b.erase x) h2 fun y hy => (List.mem_erase_of_ne (fun e => h1 (by rw [← e]; exact hy))).mpr (h y (List.mem_cons_of_mem _ hy))
    rw [List.length_erase_of_mem hx] at ih
    have := List.length_pos_of_mem hx
    show a.length + 1 ≤ _
    omega
theorem srt_len {l : List Nat} {ls : List Str} (hl : ∀ q ∈ l, q < 128) (nd : ls.Nodup) (hm : ∀ k, k ∈ ls ↔ k ∈ l.map sing) : ls.length ≤ (srt l).length := by
  have := nodup_len ls ((srt l).map sing) nd fun k hk => by
    obtain ⟨c, hc, rfl⟩ := List.mem_map.mp ((hm k).mp hk)
    exact List.mem_map.mpr ⟨c, (srt_mem hl c).mpr hc, rfl⟩
  rwa [List.length_map] at this
end DvS
namespace Dv
open PySem PySem.Spec PyProof.Rows L2 DvS
end Dv
set_option autoImplicit true
set_option maxRecDepth 100000
set_option maxHeartbeats 4000000
namespace DvM
open PySem PySem.Spec PyProof.Rows
end DvM
namespace Dv
open PySem PySem.Spec PyProof.Rows L2 DvM
end Dv
set_option autoImplicit false
set_option maxRecDepth 100000
namespace Dv
open PySem PySem.Spec PyProof.Rows L2
end Dv
set_option autoImplicit false
set_option maxRecDepth 100000
namespace Dv
open PySem PySem.Spec PyProof.Rows L2
end Dv
set_option autoImplicit false
set_option maxRecDepth 100000
namespace Dv
open PySem PySem.Spec PyProof.Rows L2
variable {c : Ctx} {X : Cx} {st st1 : Store} {iter t tg : Expr} {body rest : List Stmt} {pos : Pos}
/-- behind a turn: on, or out by a return -/
def Lp (N : Store → Prop) (Q : Out → Prop) : Out → Prop
  | .nx s => N s
  | .ct s => N s
  | .rt d s => Q (.rt d s)
  | _ => False
def ForG (c : Ctx) (X : Cx) (tg : Expr) (body rest : List Stmt) (ds : List Dt) (Inv : Nat → Store → Prop) (Q : Out → Prop) (i : Nat) (s : Store) : Prop :=
  (∃ S : Nat → Store, S 0 = s ∧ (∀ j d, ds[i + j]? = some d → WG c X tg d (S j) fun s1 => WS c X body s1 (Tn (S (j + 1)))) ∧ Inv ds.length (S (ds.length - i))) ∨
      (∃ (S : Nat → Store) (m : Nat) (d : Dt), S 0 = s ∧ ds[i + m]? = some d ∧ (∀ j d, j < m → ds[i + j]? = some d → WG c X tg d (S j) fun s1 => WS c X body s1 (Tn (S (j + 1)))) ∧ WG c X tg d (S m) fun s1 => WS c X body s1 (Lv (Aft c X rest Q)))
theorem ws_forI (Inv : Nat → Store → Prop) {Q : Out → Prop}
    (h : WI c X tg iter st fun ds st1 => Inv 0 st1 ∧ (∀ i s d, Inv i s → ds[i]? = some d → WG c X tg d s fun s1 => WS c X body s1 (Lp (Inv (i + 1)) Q)) ∧ ∀ s, Inv ds.length s → WS c X rest s Q)
    (hc : X.calm = true := by rfl) (hp : PassesOwn (model X.prog X.w) X.A X.env X.xe := by exact PassesOwn.never)
    (hs : ∀ x, foldedSetIterable iter X.env x = pure x := by intro _; rfl) : WS c X (.For tg iter body [] pos :: rest) st Q := by
  obtain ⟨ds, st1, hI, h0, turn, last⟩ := h
  have key : ∀ k i s, ds.length - i = k → i ≤ ds.length → Inv i s →
      ForG c X tg body rest ds Inv Q i s := by
    intro k
    induction k with
    | zero =>
      intro i s hk hi hv
      have e : i = ds.length := by omega
      subst e
      refine .inl ⟨fun _ => s, rfl, fun j d hd => ?_, hv⟩
      have := (List.getElem?_eq_some_iff.mp hd).1
      omega
    | succ k ih =>
      intro i s hk hi hv
      have hlt : i < ds.length := by omega
      obtain ⟨s1, hg, o, hx, hq⟩ := turn i s ds[i] hv (List.getElem?_eq_getElem hlt)
      have on : ∀ s2, Inv (i + 1) s2 → WS c X body s1 (Tn s2) → ForG c X tg body rest ds Inv Q i s := fun s2 hv2 w => by
        have hw : WG c X tg ds[i] s fun s1 => WS c X body s1 (Tn s2) := ⟨s1, hg, w⟩
        have sh : ∀ j, i + (j + 1) = i + 1 + j := fun j => by omega
        rcases ih (i + 1) s2 (by omega) hlt hv2 with ⟨S, e0, ht, hl⟩ | ⟨S, m, d, e0, hd, ht, hl⟩
        · refine Or.inl ⟨fun j => Nat.casesOn j s S, rfl, fun j d hd => ?_, ?_⟩
          · cases j with
            | zero =>
              have e : ds[i]? = some d := hd
              rw [List.getElem?_eq_getElem hlt] at e
              cases e
              show WG c X tg ds[i] s fun s1 => WS c X body s1 (Tn (S 0))
              rw [e0]; exact hw
            | succ j => exact ht j d (by rw [← sh]; exact hd)
          · have e : ds.length - i = (ds.length - (i + 1)) + 1 := by omega
            rw [e]; exact hl
        · refine Or.inr ⟨fun j => Nat.casesOn j s S, m + 1, d, rfl, by rw [sh]; exact hd, fun j d' hj hd' => ?_, hl⟩
          cases j with
          | zero =>
            have e : ds[i]? = some d' := hd'
            rw [List.getElem?_eq_getElem hlt] at e
            cases e
            show WG c X tg ds[i] s fun s1 => WS c X body s1 (Tn (S 0))
            rw [e0]; exact hw
          | succ j => exact ht j d' (by omega) (by rw [← sh]; exact hd')
      cases o with
      | nx s2 => exact on s2 hq ⟨_, hx, .inl rfl⟩
      | ct s2 => exact on s2 hq ⟨_, hx, .inr rfl⟩
      | rt d s2 =>
        refine Or.inr ⟨fun _ => s, 0, ds[i], rfl, List.getElem?_eq_getElem hlt, fun j _ hj => by omega, ⟨s1, hg, _, hx, hq⟩⟩
      | _ => exact hq.elim
  rcases key ds.length 0 st1 (by omega) (Nat.zero_le _) h0 with ⟨S, e0, ht, hl⟩ | ⟨S, m, d, e0, hd, ht, hl⟩
  · refine ws_for S ds.length ⟨ds, st1, hI, e0.symm, rfl, fun i d hd => ht i d (by rw [Nat.zero_add]; exact hd), last _ hl⟩ hc hp hs
  · refine ws_forX S m d ⟨ds, st1, hI, e0.symm, by rw [← hd, Nat.zero_add], fun i d hi hd => ht i d hi (by rw [Nat.zero_add]; exact hd), hl⟩ hc hp hs
end Dv
set_option autoImplicit false
set_option maxRecDepth 100000
namespace Dv
open PySem PySem.Spec PyProof.Rows L2
end Dv
set_option autoImplicit false
set_option maxRecDepth 100000
set_option maxHeartbeats 4000000
namespace Dv
open PySem PySem.Spec PyProof.Rows L2
def GenV (K : PySem.W.Frag) (H : Hp) (y : V) (ty : Value) : Prop := (∃ T, ty = .type T ∧ OthV K H y T) ∨ (ty = .type "str" ∧ ∃ x, y = .str x) ∨ ∃ q C dx gs, ty = .ref C ∧ y = .ref q ∧ H q = some (.ins C dx gs)
section
variable {c : Ctx} {X : Cx} {st st1 st2 : Store} {a b e : Expr} {d : Dt} {fs : List Dt} {pos : Pos} {G H : Hp}
theorem GenV.looks {pins : List (Addr × Obj)} {σ : L2.St} {s : Shared} {y : V} {u ty : Value} (I : Inv X pins σ H s) (h : GenV X.K H y ty) (r : RelV y u) : PySem.W.Looks (model X.prog X.w) s.heap (typeOf u) ty := by
  rcases h with ⟨T, rfl, h⟩ | ⟨rfl, x, rfl⟩ | ⟨q, C, dx, gs, rfl, rfl, hp⟩
  · exact h.looks I r
  · obtain ⟨t, rfl⟩ := r
    exact fun A Q E s' k qq => wpAny_typeOf (typeIs_str s' x t) qq
  · obtain rfl : u = Value.ref q := r
    obtain ⟨mA, J, _⟩ := ins_get I.hok hp
    obtain ⟨od, J, _⟩ := J.look
    exact fun A Q E s' k qq => wpAny_typeOf_ref (k _ _ J.1) qq
def rEqG (K : PySem.W.Frag) (C : Addr) (ty : Value) (sp : Sp) (E : XK) : R2 := fun x y H Q => (∃ p dx gs, x = .ref p ∧ H p = some (.ins C dx gs)) ∧ GenV K H y ty ∧ sp [x, y] H Q E
theorem op_eqG {CX : CXT} {f C : Addr} {ty : Value} {k : Nat} {fd : FuncData} {ps : List Str} {E : XK} {sp : Sp} (F : FnOk X.prog X.w X.K X.mg X.base CX k f fd ps sp) (hr : Room k X.A) (M : OwnOp X.K C "__eq__" f) (hnt : PySem.W.notFirst X.K C ty = true) (hb : Binds X.K fd ps []) (hx : Passes CX X E) :
    OpR X (compareOp .Eq) (rEqG X.K C ty sp E) := by
  intro pins s σ H x y vx vy Q I rx ry h
  obtain ⟨⟨p, dx, gs, rfl, hp⟩, hy, hsp⟩ := h
  cases rx
  obtain ⟨mA, J, _⟩ := ins_get I.hok hp
  obtain ⟨od, J, _⟩ := J.look
  obtain ⟨m, hF⟩ := I.fr
  show wpAny (model X.prog X.w) X.A (richCompare .Eq (.ref p) vy) (EP X pins σ Q) X.xe s
  exact PySem.W.cmp_K (op := .Eq) hr.units0 hF I.ok.mod.kin J (hy.looks I ry) hnt M.at_ M.fn (thn (run_fn (dvs := []) (vs := [.ref p, y]) (us := [.ref p, vy]) F hr hb .nil hx I (.cons rfl (.cons ry .nil)) hsp) fun u s' z => back_of z)
theorem cr_eqG {n k : Nat} {R : List Dt → Dt → Prop} {x : Str} {C : Addr} {ns : List Str} {ty : Value} {t : Bool} {Q : Bool → Prop} (ho : ∀ {G H : Hp} {v : V}, Ex G H → Rep c.K c.T G d v → GenV X.K H v ty) (q : CF X.K c.T X.mg x n C ns) (F : MF X.prog X.w X.K c.T X.mg X.base C "__eq__" k R) (hK : X.K = c.K) (hr : Room k X.A)
    (hnt : PySem.W.notFirst X.K C ty = true) (hR : R [.obj n fs, d] (.bl t)) (kk : Q t) : CmpR c X .Eq (.obj n fs) d Q := by
  obtain ⟨f, fd, ps, F, hf, hb⟩ := F.ex
  rw [hK] at F
  refine cr_of (op_eqG (E := fun _ _ _ => False) (sp := spD c.K c.T R) (by rw [hK]; exact F) hr ⟨hf.at_, hf.fn⟩ hnt hb pass0) (fun G H x y Q' ex r1 r2 kk => ?_) kk
  obtain ⟨C1, ns1, p, dx, vs1, rfl, t1, hp, _, _⟩ := id r1.obj_inv
  have eT := q.at_
  rw [t1] at eT
  cases eT
  exact ⟨⟨p, dx, _, rfl, ex _ _ hp⟩, ho ex r2, G, _, _, ex, .cons r1 (.cons r2 .nil), hR, fun v G' H' g e' r' => kk v G' H' (gw_of g e') r'⟩
theorem gen_str {x : Str} {v : V} (e : Ex G H) (r : Rep c.K c.T G (.str x) v) : GenV X.K H v (.type "str") := by
  cases r
  exact .inr (.inl ⟨rfl, _, rfl⟩)
end
end Dv
set_option autoImplicit false
namespace Dv
open PySem PySem.Spec PyProof.Rows L2
theorem kit_rT {K : PySem.W.Frag} {C : Addr} (h2 : PySem.W.isClsIn K C = true) (h3 : PySem.W.typeIn K (.ref C) = some (.type "type")) : PySem.W.kitOne K (.ref C) (.ref C) = some true := by
  unfold PySem.W.kitOne PySem.W.kitCls
  unfold PySem.W.isClsIn at h2
  simp [h2, h3]
end Dv
set_option autoImplicit false
set_option maxRecDepth 100000
namespace Dv
open PySem PySem.Spec PyProof.Rows L2
section
variable {c : Ctx} {X : Cx} {st : Store} {pos : Pos} {l : List Nat}
def GStr (mg : Str → Option Value) (x : Str) (l : List Nat) : Prop := ∃ t, mg x = some (.str (sx l) t)
def NsStr (K : PySem.W.Frag) (x : Str) (l : List Nat) : Prop := ∃ t, PySem.W.nsIn K mainGlobals x = some (some (.str (sx l) t))
theorem NsStr.mg {K : PySem.W.Frag} {h : Heap} {mg : Str → Option Value} {x : Str} {l : List Nat} (z : NsStr K x l) (X : K.In h) (G : h.Ns mainGlobals mg) : GStr mg x l := by
  obtain ⟨t, ht⟩ := z
  exact ⟨t, PySem.W.mg_of X G ht⟩
end
end Dv
set_option autoImplicit false
namespace Dv
end Dv
set_option autoImplicit false
set_option maxRecDepth 100000
set_option maxHeartbeats 4000000
namespace Dv
open PySem PySem.Spec PyProof.Rows L2
end Dv
set_option autoImplicit false
set_option maxRecDepth 100000
set_option maxHeartbeats 4000000
namespace Dv
open PySem PySem.Spec PyProof.Rows L2
end Dv
set_option autoImplicit false
set_option maxRecDepth 100000
set_option maxHeartbeats 4000000
namespace Dv
open PySem PySem.Spec PyProof.Rows L2
end Dv
set_option autoImplicit false
namespace Dv
open PySem PySem.Spec PyProof.Rows L2
end Dv
set_option autoImplicit false
set_option maxRecDepth 100000
set_option maxHeartbeats 4000000
namespace DvS
open PySem PySem.Spec PyProof.Rows PySem.Froz
theorem srt_le {l : List Nat} {ls : List Str} (hl : ∀ q ∈ l, q < 128) (hm : ∀ k, k ∈ ls ↔ k ∈ l.map sing) : (srt l).length ≤ ls.length := by
  have := nodup_len ((srt l).map sing) ls (List.Pairwise.map _ (fun a b h e => Nat.ne_of_lt h (sing_inj e)) (srt_pair l)) fun k hk => by
      obtain ⟨c, hc, rfl⟩ := List.mem_map.mp hk
      exact (hm _).mpr (List.mem_map.mpr ⟨c, (srt_mem hl c).mp hc, rfl⟩)
  rwa [List.length_map] at this
end DvS
namespace Dv
open PySem PySem.Spec PyProof.Rows L2 DvS
section
variable {c : Ctx} {X : Cx} {st st1 : Store} {a : Expr} {pos : Pos}
def tLenSetR (ta : TE) : TE := fun σ H Q => ta σ H fun x H1 => ∃ z : Str, x = .str z ∧ z.cps.all (· < 128) = true ∧ z.cps.toList.length < 1000 ∧ Q (.int ((srt z.cps.toList).length : Nat)) H1
theorem pe_lenSetR {a : Expr} {ta : TE} {p p2 q pos : Pos} (hc : X.calm = true) (hg : Gl X "len") (hm : X.mg "len" = none) (hg2 : Gl X "set") (hm2 : X.mg "set" = none) (ha : PE X a ta)
    (na : starEach [a] X.env = (false, eval a X.env) :: starEach [] X.env := by rfl) : PE X (.Call (.Name "len" p) [.Call (.Name "set" p2) [a] [] q] [] pos) (tLenSetR ta) := by
  refine ⟨fun pins s σ H Q I h => ?_⟩
  refine Call_ (ld_blt I hg hm boot_len ?_)
  refine PyProof.Rows.callWith_builtin1 (PyProof.Rows.args_cons ?_ rfl) rfl rfl
  refine Call_ (ld_blt I hg2 hm2 boot_set ?_)
  refine PyProof.Rows.callWith_type1 (PyProof.Rows.args_cons (thn (ha.run pins s σ H _ I h) fun v s1 ⟨x, H1, I1, r1, q1⟩ => PyProof.Rows.args_nil ?_) na) na rfl
  obtain ⟨z, rfl, h1, h2, q1⟩ := q1
  obtain ⟨u, rfl⟩ := r1
  have hl : ∀ c ∈ z.cps.toList, c < 128 := fun c hc => by
    have := Array.all_eq_true'.mp h1 c (by simpa using hc)
    simpa using this
  refine DvS.call_set_strR (I1.ok.hd hc) h1 h2 fun h' tk D l g1 g2 g3 g4 hk => ?_
  refine PyProof.Rows.args_nil ?_
  have I2 : L2.Inv X pins σ H1 { s1 with heap := h', toks := tk } := I1.kept fun b o e => hk b o (Heap.lt_size e) e
  have e : D.1.size = (srt z.cps.toList).length := by rw [g2.ok.sz]; exact Nat.le_antisymm (srt_len hl g3 g4) (srt_le hl g4)
  have hs : (srt z.cps.toList).length ≤ 128 := by
    refine Nat.le_trans (List.length_filter_le _ _) ?_
    simp
  refine call_len_set g1 ⟨rfl, rfl, rfl⟩ rfl g2.ok.fit (by rw [e]; omega) ⟨.int (srt z.cps.toList).length, H1, I2.tok _, ⟨_, by rw [e]⟩, q1⟩
theorem xd_lenSetR {l : List Nat} {p p2 q : Pos} (h : XD c X a st (.str (sx l)) st1) (hz : l.length < 1000) (hl : ∀ x ∈ l, x < 128) (hc : X.calm = true) (hm : X.mg "len" = none) (hm2 : X.mg "set" = none) (hg : Gl X "len" := by rfl) (hg2 : Gl X "set" := by rfl)
    (na : starEach [a] X.env = (false, eval a X.env) :: starEach [] X.env := by rfl) : XD c X (.Call (.Name "len" p) [.Call (.Name "set" p2) [a] [] q] [] pos) st (.int ((srt l).length : Nat)) st1 :=
  ⟨pe_weak (pe_lenSetR hc hg hm hg2 hm2 h.pe na) fun σ H Q ⟨G, E, k⟩ => ⟨G, E, fun v G1 H1 g1 E1 r1 => by
    cases r1
    exact ⟨sx l, rfl, by simpa [sx] using hl, hz, k _ G1 H1 g1 E1 (by
      have e1 : (sx l).cps.toList = l := by simp [sx]
      rw [e1]; exact .int)⟩⟩⟩
end
end Dv
set_option autoImplicit false
set_option maxRecDepth 100000
set_option maxHeartbeats 4000000
namespace Dv
open PySem PySem.Spec PyProof.Rows L2
end Dv
set_option autoImplicit false
set_option maxRecDepth 100000
set_option maxHeartbeats 4000000
namespace Dv
open PySem PySem.Spec PyProof.Rows L2
end Dv
set_option autoImplicit false
set_option maxRecDepth 100000
set_option maxHeartbeats 4000000
namespace Dv
open PySem PySem.Spec PyProof.Rows L2
end Dv
set_option autoImplicit false
set_option maxRecDepth 100000
set_option maxHeartbeats 4000000
namespace Dv
open PySem PySem.Spec PyProof.Rows L2
section
variable {c : Ctx} {X : Cx} {d : Dt} {fs : List Dt}
def rNInO (C : Addr) (sp : Sp) (E : XK) : R2 := fun x y H Q => (∃ p dx gs, y = .ref p ∧ H p = some (.ins C dx gs)) ∧ sp [y, x] H (fun v H' => ∃ t, v = .bl t ∧ Q (.bl (!t)) H') E
theorem op_notInO {CX : CXT} {f C : Addr} {k : Nat} {fd : FuncData} {ps : List Str} {E : XK} {sp : Sp} (F : FnOk X.prog X.w X.K X.mg X.base CX k f fd ps sp) (hr : Room k X.A) (M : OwnOp X.K C "__contains__" f) (hb : Binds X.K fd ps []) (hx : Passes CX X E) :
    OpR X (compareOp .NotIn) (rNInO C sp E) := by
  intro pins s σ H x y vx vy Q I rx ry h
  obtain ⟨⟨p, dx, gs, rfl, hp⟩, hsp⟩ := h
  cases ry
  obtain ⟨mA, J, _⟩ := ins_get I.hok hp
  obtain ⟨od, J, _⟩ := J.look
  show wpAny (model X.prog X.w) X.A (contains (.ref p) vx >>= fun r => pure (Value.bool (!r))) (EP X pins σ Q) X.xe s
  refine wpAny_bind (contains_own I.kIn J M.at_ M.fn (thn (run_fn (dvs := []) (vs := [.ref p, x]) (us := [.ref p, vx]) F hr hb .nil hx I (.cons rfl (.cons rx .nil)) hsp) fun u s' z => ?_))
  obtain ⟨w, H1, I1, r, t, rfl, q1⟩ := z
  cases r
  exact ⟨t, rfl, wpAny_pure ⟨.bl (!t), H1, I1, rfl, q1⟩⟩
theorem cr_notInO {n k : Nat} {R : List Dt → Dt → Prop} {x : Str} {C : Addr} {ns : List Str} {t : Bool} {Q : Bool → Prop} (q : CF X.K c.T X.mg x n C ns) (F : MF X.prog X.w X.K c.T X.mg X.base C "__contains__" k R) (hK : X.K = c.K) (hr : Room k X.A)
    (hR : R [.obj n fs, d] (.bl t)) (kk : Q (!t)) : CmpR c X .NotIn d (.obj n fs) Q := by
  obtain ⟨f, fd, ps, F, hf, hb⟩ := F.ex
  rw [hK] at F
  refine cr_of (op_notInO (E := fun _ _ _ => False) (sp := spD c.K c.T R) (by rw [hK]; exact F) hr ⟨hf.at_, hf.fn⟩ hb pass0) (fun G H x y Q' ex r1 r2 kk => ?_) kk
  obtain ⟨C1, ns1, p, dx, vs1, rfl, t1, hp, _, _⟩ := id r2.obj_inv
  have eT := q.at_
  rw [t1] at eT
  cases eT
  refine ⟨⟨p, dx, _, rfl, ex _ _ hp⟩, G, _, _, ex, .cons r2 (.cons r1 .nil), hR, fun v G' H' g e' r' => ?_⟩
  cases r'
  exact ⟨t, rfl, kk _ G' H' (gw_of g e') .bl⟩
end
end Dv
set_option autoImplicit false
set_option maxRecDepth 100000
set_option maxHeartbeats 4000000
set_option exponentiation.threshold 100000
namespace Dv
open PySem PySem.Spec PyProof.Rows L2 Mq
end Dv
set_option autoImplicit false
set_option maxRecDepth 100000
set_option maxHeartbeats 4000000
set_option exponentiation.threshold 100000
namespace Dv
open PySem PySem.Spec PyProof.Rows L2 Mq
def seedL (ns : List Int) (s : Int) : Nat → Int
  | 0 => s
  | i + 1 => seedL ns s i * 1000003 + ((ns.getD i 0).natAbs : Int)
def totL (ns : List Int) (t : Int) : Nat → Int
  | 0 => t
  | i + 1 => (totL ns t i * 48271 + ns.getD i 0) % 2147483647
theorem totL_lt (ns : List Int) : ∀ i, 0 ≤ totL ns 1 i ∧ totL ns 1 i < 2147483647
  | 0 => by show (0 : Int) ≤ 1 ∧ (1 : Int) < 2147483647; decide
  | i + 1 => ⟨Int.emod_nonneg _ (by decide), Int.emod_lt_of_pos _ (by decide)⟩
theorem seedL_nn (ns : List Int) : ∀ i, 0 ≤ seedL ns 0 i
  | 0 => Int.le_refl 0
  | i + 1 => by have := seedL_nn ns i; show 0 ≤ seedL ns 0 i * 1000003 + _; omega
/-- what the state may be -/
structure StOk (s : Int × Int) : Prop where
  s0 : 0 ≤ s.1
  t0 : 0 ≤ s.2
  t1 : s.2 < 2147483647
def stOf (ns : List Int) : Int × Int := (seedL (ns.take 63) 0 (ns.take 63).length, totL (ns.take 63) 1 (ns.take 63).length)
theorem stOf_ok (ns : List Int) : StOk (stOf ns) := ⟨seedL_nn _ _, (totL_lt _ _).1, (totL_lt _ _).2⟩
def dSt (s : Int × Int) : List Dt := [.int s.1, .int s.2]
/-- one number below m, and the state behind -/
def tkV (s : Int × Int) (m : Int) : Int := if 0 < s.1 then s.1 % m else ((s.2 * 48271 + 11) % 2147483647).fdiv 7 % m
def tkS (s : Int × Int) (m : Int) : Int × Int := if 0 < s.1 then (s.1.fdiv m, s.2) else (s.1, (s.2 * 48271 + 11) % 2147483647)
theorem tk_ok {s : Int × Int} {m : Int} (h : StOk s) (hm : 0 < m) : StOk (tkS s m) := by
  unfold tkS
  split
  · exact ⟨by show 0 ≤ s.1.fdiv m; rw [Int.fdiv_eq_ediv_of_nonneg _ (by omega)]; exact Int.ediv_nonneg h.s0 (by omega), h.t0, h.t1⟩
  · exact ⟨h.s0, Int.emod_nonneg _ (by decide), Int.emod_lt_of_pos _ (by decide)⟩
theorem tk_lt {s : Int × Int} {m : Int} (hm : 0 < m) : 0 ≤ tkV s m ∧ tkV s m < m := by
  unfold tkV
  split
  · exact ⟨Int.emod_nonneg _ (by omega), Int.emod_lt_of_pos _ hm⟩
  · exact ⟨Int.emod_nonneg _ (by omega), Int.emod_lt_of_pos _ hm⟩
theorem tk_nat {s : Int × Int} {m : Int} (hm : 0 < m) : ∃ n : Nat, tkV s m = n ∧ (n : Int) < m := by
  obtain ⟨h1, h2⟩ := tk_lt (s := s) hm
  exact ⟨(tkV s m).toNat, by omega, by omega⟩
end Dv
set_option autoImplicit false
set_option maxRecDepth 100000
set_option maxHeartbeats 4000000
namespace Dv
open PySem PySem.Spec PyProof.Rows L2
end Dv
set_option autoImplicit false
set_option maxRecDepth 100000
set_option maxHeartbeats 4000000
namespace Dv
open PySem PySem.Spec PyProof.Rows L2
section
variable {c : Ctx} {X : Cx} {st st1 st2 st3 st' : Store} {a b e elt iter : Expr} {es : List Expr} {d d1 d2 d' : Dt} {ds xs ys : List Dt} {pos : Pos} {G G' G0 G1 G2 H H' H0 H1 H2 : Hp} {σ : L2.St} {rest : List Stmt} {s s' : Sv} {i j : Nat}
/-- a name that is bound to a place of which the state says nothing -/
abbrev pin (q : Addr) : Option Sv := some (.ex q none none)
end
end Dv
set_option autoImplicit false
set_option maxRecDepth 100000
set_option maxHeartbeats 4000000
namespace Dv
open PySem PySem.Spec PyProof.Rows L2
end Dv
set_option autoImplicit false
set_option maxRecDepth 100000
set_option maxHeartbeats 4000000
namespace Dv
open PySem PySem.Spec PyProof.Rows L2
end Dv
set_option autoImplicit false
set_option maxRecDepth 100000
set_option maxHeartbeats 4000000
namespace Gn
open PySem PySem.Spec PyProof.Rows L2 GenW
/-- from one yield to the next call: only what lies at cs may be another thing -/
structure Nap (cs : List Addr) (s1 s2 : Shared) : Prop where
  os : s2.os = s1.os
  bare : AllBare s2.gens
  same : ∀ b o, b ∉ cs → s1.heap.get? b = some o → s2.heap.get? b = some o
  live : ∀ b, b ∈ cs → ∃ o, s2.heap.get? b = some o ∧ ∀ v, o.data ≠ .cell v
/-- the consumer's places are nothing of the generator's -/
structure Far (X : Cx) (cs : List Addr) : Prop where
  young : ∀ b, b ∈ cs → X.s_0.heap.objs.size ≤ b
  loc : ∀ b, b ∈ cs → b ≠ X.env.locals
  cells : ∀ b, b ∈ cs → ∀ x c, X.env.cells.lookup x = some c → c ≠ b
  pn : ∀ b, b ∈ cs → ∀ p, p ∈ X.pn → p.1 ≠ b
/-- the generator runs since s1: what lies at cs stands -/
def Runs1 (X : Cx) (cs : List Addr) (ip : List (Addr × Obj)) (σ : L2.St) (H : Hp) (s1 s : Shared) : Prop :=
  ∃ ps : List (Addr × Obj), ps.map (·.1) = cs ∧ (∀ p, p ∈ ps → s1.heap.get? p.1 = some p.2) ∧ Inv X (ps ++ ip) σ H s
section
variable {X : Cx} {cs : List Addr} {ip : List (Addr × Obj)} {σ : L2.St} {H : Hp} {s1 s s2 : Shared}
theorem Runs1.facts (h : Runs1 X cs ip σ H s1 s) : ∀ b, b ∈ cs → H b = none ∧ b ≠ X.env.locals ∧ b ∉ X.fs ∧ ∃ o, s1.heap.get? b = some o ∧ s.heap.get? b = some o := fun b hb => by
  obtain ⟨ps, e, h1, I⟩ := h
  rw [← e] at hb
  obtain ⟨p, hp, rfl⟩ := List.mem_map.mp hb
  obtain ⟨q1, q2, q3, q4, _⟩ := I.pin p (List.mem_append_right _ (List.mem_append_left _ hp))
  exact ⟨q2, q3, q4, p.2, h1 p hp, q1⟩
/-- woken after a nap -/
theorem Runs1.wake (F : Far X cs) (hip : ∀ p, p ∈ ip → p.1 ∉ cs) (h : Runs1 X cs ip σ H s1 s) (z : Nap cs s s2) : Runs1 X cs ip σ H s2 s2 := by
  have fs := h.facts
  obtain ⟨ps, e, h1, I⟩ := h
  have I0 : Inv X ip σ H s := I.pins_of fun p hp => I.pin p (List.mem_append_right _ (List.mem_append_right _ hp))
  have ht : ∀ b u, H b = some u → b ∉ cs := fun b u q hb => by rw [(fs b hb).1] at q; cases q
  obtain ⟨hh, g2, d2, t2, o2⟩ := s2
  have ho : o2 = s.os := z.os
  subst ho
  have J : Inv X ip σ H { s with heap := hh, gens := g2, drawn := d2, toks := t2 } := by
    refine I0.step (g' := g2) (t' := t2) (d' := d2) (ch := cs) (fun b hb => ⟨.inr (F.young b hb), F.loc b hb, F.cells b hb, fun p hp => ?_⟩) (fun b ob _ _ hc q _ => z.same b ob hc q) (fun b ob _ _ hc q _ => ⟨ob.slots, z.same b ob hc q⟩)
      (fun _ _ _ _ n => n) (fun b ob hc q => ⟨ob, z.same b ob hc q⟩) (fun _ _ q => q) (fun _ _ _ q => q) (fun b l q => ⟨#[], by rw [q]; simp⟩) (fun m hm => ?_) (fun b u q => ?_) z.bare
    · rcases List.mem_append.mp hp with hp | hp
      · exact F.pn b hb p hp
      · exact fun y => hip p hp (by rw [y]; exact hb)
    · obtain ⟨ob, es, ep, ho, r⟩ := hm
      exact ⟨ob, es, ep, z.same _ ob (fun y => F.loc _ y rfl) ho, r⟩
    · refine (I0.hok b u q).stay (fun c v hc y => z.same c v ?_ y) (fun _ y => y) fun _ _ y => y
      rcases hc with y | y
      · rw [y]; exact ht b u q
      · exact ht c _ y
  -- what lies at cs now
  have pick : ∀ l : List Addr, (∀ b, b ∈ l → b ∈ cs) → ∃ qs : List (Addr × Obj), qs.map (·.1) = l ∧ ∀ p, p ∈ qs → p.1 ∈ cs ∧ hh.get? p.1 = some p.2 ∧ ∀ v, p.2.data ≠ .cell v := fun l => by
    induction l with
    | nil => exact fun _ => ⟨[], rfl, fun p hp => by cases hp⟩
    | cons b l ih =>
      intro hl
      obtain ⟨qs, e1, e2⟩ := ih fun x hx => hl x (List.mem_cons_of_mem _ hx)
      obtain ⟨o, o1, o2⟩ := z.live b (hl b (List.mem_cons_self ..))
      refine ⟨(b, o) :: qs, by rw [List.map_cons, e1], fun p hp => ?_⟩
      rcases List.mem_cons.mp hp with rfl | hp
      · exact ⟨hl _ (List.mem_cons_self ..), o1, o2⟩
      · exact e2 p hp
  obtain ⟨qs, e1, e2⟩ := pick cs fun _ h => h
  refine ⟨qs, e1, fun p hp => (e2 p hp).2.1, J.pins_of fun p hp => ?_⟩
  rcases List.mem_append.mp hp with hp | hp
  · obtain ⟨y1, y2, y3⟩ := e2 p hp
    obtain ⟨f1, f2, f3, _⟩ := fs p.1 y1
    exact ⟨y2, f1, f2, f3, y3⟩
  · exact J.pin p (List.mem_append_right _ hp)
end
/-- an item: Pv what is known of it, by what was handed out before -/
def YP (X : Cx) (cs : List Addr) (Pv : List V → V → Hp → Prop) : Protocol := fun n s1 v s kap =>
  ∃ ys x ip σ H, n + 1 + ys.length = sizeLine ∧ RelV x v ∧ Pv ys x H ∧ Runs1 X cs ip σ H s1 s ∧ ∀ s2, Nap cs s s2 → kap (.send .none) s2
structure Wants where
  nx : List V → L2.St → Hp → Prop
  rt : List V → VK
  bk : List V → L2.St → Hp → Prop := fun _ _ _ => False
  ct : List V → L2.St → Hp → Prop := fun _ _ _ => False
def Wants.ends (D : Wants) (ys : List V) : Ends := { nx := D.nx ys, rt := D.rt ys, bk := D.bk ys, ct := D.ct ys }
abbrev TW := Wants → List V → L2.St → Hp → Prop
def Came (X : Cx) (cs : List Addr) (ip : List (Addr × Obj)) (D : Wants) (ys : List V) (s1 : Shared) (f : Flow) (s : Shared) : Prop :=
  match f with
  | .next => ∃ σ H, Runs1 X cs ip σ H s1 s ∧ D.nx ys σ H
  | .brk => ∃ σ H, Runs1 X cs ip σ H s1 s ∧ D.bk ys σ H
  | .cont => ∃ σ H, Runs1 X cs ip σ H s1 s ∧ D.ct ys σ H
  | .ret u => ∃ v σ H, Runs1 X cs ip σ H s1 s ∧ RelV v u ∧ D.rt ys v H
structure Stands (X : Cx) (cs : List Addr) (ip : List (Addr × Obj)) (A : Around) (c : Code) (fs : List Frame) (gd : Bool → Bool) : Prop where
  far : Far X cs
  ip : ∀ p, p ∈ ip → p.1 ∉ cs
  over : A.over c fs = X.A
  split : splitAtGen fs = none
  guard : fs.any Frame.guarded = false
  gd : gd false = false
structure Goes (X : Cx) (cs : List Addr) (ip : List (Addr × Obj)) (Pv : List V → V → Hp → Prop) (A : Around) (R : GenEnd) (c : Code) (fs : List Frame) (K : Flow → Sem PySem.Fin) (J : Value → Sem PySem.Fin) (D : Wants) : Prop where
  ok : ∀ (n : Nat) (ys : List V) (s1 s : Shared) (f : Flow), n + ys.length = sizeLine → Came X cs ip D ys s1 f s → Seg (model X.prog X.w) A R (YP X cs Pv) n s1 c (K f) fs s
  ex : ∀ (n : Nat) (s1 : Shared) (e : Value) (s : Shared), X.xe e s → Seg (model X.prog X.w) A R (YP X cs Pv) n s1 c (J e) fs s
def Does (X : Cx) (Pv : List V → V → Hp → Prop) (m : Sem Flow) (t : TW) : Prop :=
  ∀ (A : Around) (cs : List Addr) (ip : List (Addr × Obj)) (R : GenEnd) (n : Nat) (ys : List V) (s1 : Shared) (c : Code) (fs : List Frame) (K : Flow → Sem PySem.Fin) (J : Value → Sem PySem.Fin) (gd : Bool → Bool) (lv : List Value → List Value) (s : Shared) (σ : L2.St) (H : Hp) (D : Wants),
    Stands X cs ip A c fs gd → n + ys.length = sizeLine → Goes X cs ip Pv A R c fs K J D → Runs1 X cs ip σ H s1 s → t D ys σ H → Seg (model X.prog X.w) A R (YP X cs Pv) n s1 c (m.wrap K J gd lv) fs s
structure GS1 (X : Cx) (Pv : List V → V → Hp → Prop) (st : Stmt) (t : TW) : Prop where
  does : Does X Pv (exec st X.env) t
structure GSs1 (X : Cx) (Pv : List V → V → Hp → Prop) (st : List Stmt) (t : TW) : Prop where
  does : Does X Pv (execs st X.env) t
section
variable {X : Cx} {Pv : List V → V → Hp → Prop} {st : Stmt} {rest : List Stmt}
def wPlain (t : TS) : TW := fun D ys σ H => t (D.ends ys) σ H
theorem came_of {cs : List Addr} {ip ps : List (Addr × Obj)} {s1 s : Shared} {D : Wants} {ys : List V} {f : Flow} (e : ps.map (·.1) = cs) (h1 : ∀ p, p ∈ ps → s1.heap.get? p.1 = some p.2) (h : SP X (ps ++ ip) (D.ends ys) f s) : Came X cs ip D ys s1 f s := by
  cases f with
  | next => obtain ⟨σ, H, I, q⟩ := h; exact ⟨σ, H, ⟨ps, e, h1, I⟩, q⟩
  | brk => obtain ⟨σ, H, I, q⟩ := h; exact ⟨σ, H, ⟨ps, e, h1, I⟩, q⟩
  | cont => obtain ⟨σ, H, I, q⟩ := h; exact ⟨σ, H, ⟨ps, e, h1, I⟩, q⟩
  | ret u => obtain ⟨v, σ, H, I, r, q⟩ := h; exact ⟨v, σ, H, ⟨ps, e, h1, I⟩, r, q⟩
/-- statements that hand out nothing -/
theorem gs1_of {t : TS} (h : PS X st t) : GS1 X Pv st (wPlain t) := ⟨fun A cs ip R n ys s1 c fs K J gd lv s σ H D g hn k hI ht => by
  obtain ⟨ps, e, h1, I⟩ := hI
  refine seg_wrap ?_
  rw [g.over]
  exact wpAny_mono (h.run _ s σ H (D.ends ys) I ht) (fun f s' z => k.ok n ys s1 s' f hn (came_of e h1 z)) fun x s' z => k.ex n s1 x s' z⟩
theorem gss1_nil : GSs1 X Pv [] (fun D ys σ H => D.nx ys σ H) := ⟨fun A cs ip R n ys s1 c fs K J gd lv s σ H D g hn k hI ht => seg_execs_nil (k.ok n ys s1 s .next hn ⟨σ, H, hI, ht⟩)⟩
def wThen (t u : TW) : TW := fun D ys σ H => t { D with nx := u D } ys σ H
theorem gss1_cons {t u : TW} (a : GS1 X Pv st t) (b : GSs1 X Pv rest u) : GSs1 X Pv (st :: rest) (wThen t u) := ⟨fun A cs ip R n ys s1 c fs K J gd lv s σ H D g hn k hI ht => by
  refine seg_execs_cons (a.does A cs ip R n ys s1 c fs _ J gd lv s σ H { D with nx := u D } g hn ⟨fun m zs s3 s4 f hm z => ?_, k.ex⟩ hI ht)
  match f, z with
  | .next, z =>
    obtain ⟨σ2, H2, I2, q⟩ := z
    exact b.does A cs ip R m zs s3 c fs K J gd lv s4 σ2 H2 D g hm k I2 q
  | .brk, z => exact k.ok m zs s3 s4 .brk hm z
  | .cont, z => exact k.ok m zs s3 s4 .cont hm z
  | .ret u, z => exact k.ok m zs s3 s4 (.ret u) hm z⟩
/-- yield e -/
def wYield (Pv : List V → V → Hp → Prop) (te : TE) : TW := fun D ys σ H => ys.length < sizeLine ∧ te σ H fun x H1 => Pv ys x H1 ∧ D.nx (ys ++ [x]) σ H1
theorem gs1_yield {e : Expr} {yp pos : Pos} {te : TE} (he : PE X e te) (hco : X.env.scope.isCoroutine = false := by rfl) (hi : interactive X.env = false := by rfl) : GS1 X Pv (.Expr (.Yield (some e) yp) pos) (wYield Pv te) := ⟨fun A cs ip R n ys s1 c fs K J gd lv s σ H D g hn k hI ht => by
  obtain ⟨lt, ht⟩ := ht
  cases n with
  | zero => omega
  | succ n =>
    obtain ⟨ps, ep, h1, I⟩ := hI
    refine seg_Expr_Yield g.split g.gd g.guard ?_ hco hi
    rw [g.over]
    refine wpAny_mono (he.run _ s σ H _ I ht) (fun v s' z => ?_) fun x s' z => k.ex _ s1 x s' z
    obtain ⟨x, H1, I1, rv, pv, q⟩ := z
    have R1 : Runs1 X cs ip σ H1 s1 s' := ⟨ps, ep, h1, I1⟩
    intro kap hk
    refine ⟨ys, x, ip, σ, H1, hn, rv, pv, R1, fun s2 nap => hk .none s2 (k.ok n (ys ++ [x]) s2 s2 .next ?_ ⟨σ, H1, R1.wake g.far g.ip nap, q⟩)⟩
    simp only [List.length_append, List.length_singleton]
    omega⟩
def wWhile (tc : TT) (tb : TW) : TW := fun D ys σ H => ∃ W : Nat → List V → L2.St → Hp → Prop, (∃ m, W m ys σ H) ∧ ∀ m zs σ2 H2, W m zs σ2 H2 → tc σ2 H2 fun b H3 =>
  if b = true then ∃ N : List V → L2.St → Hp → Prop, (∀ zs σ4 H4, N zs σ4 H4 → ∃ m2, m2 < m ∧ W m2 zs σ4 H4) ∧ tb { D with nx := N, ct := N, bk := D.nx } zs σ2 H3 else D.nx zs σ2 H3
/-- a frame of a loop's own code on top -/
theorem Stands.loop {cs : List Addr} {ip : List (Addr × Obj)} {A : Around} {c c2 : Code} {fs : List Frame} {gd : Bool → Bool} {kr : Result → Sem PySem.Fin} {l kp : List Value} {p : Pos} (g : Stands X cs ip A c fs gd) (h0 : c2.weight = 0) (h1 : c2.cUnits = 0) :
    Stands X cs ip A c2 (.ret kr none (gd false) l c p kp :: fs) id :=
  ⟨g.far, g.ip, (over_loop h0 h1).trans g.over, by show (splitAtGen fs).map _ = none; rw [g.split]; rfl, by show (gd false || fs.any Frame.guarded) = false; rw [g.gd, g.guard]; rfl, rfl⟩
/-- an exception that leaves a loop's code comes back to its statement -/
theorem Goes.back {cs : List Addr} {ip : List (Addr × Obj)} {A : Around} {R : GenEnd} {c : Code} {fs : List Frame} {K : Flow → Sem PySem.Fin} {J : Value → Sem PySem.Fin} {gd : Bool → Bool} {lv : List Value → List Value} {D : Wants} {n : Nat} {s1 s : Shared} {e : Value}
    (g : Stands X cs ip A c fs gd) (k : Goes X cs ip Pv A R c fs K J D) (h : cameBackBy (model X.prog X.w) X.A X.env X.xe e s) : Seg (model X.prog X.w) A R (YP X cs Pv) n s1 c (((Sem.raise e : Sem Flow).onRaise (cameBack X.env)).wrap K J gd lv) fs s := by
  show Seg _ _ _ _ _ _ _ (((cameBack X.env e).bind fun _ => (Sem.raise e : Sem Flow)).wrap K J gd lv) _ _
  rw [Sem.bind_eq_wrap, Sem.wrap_wrap]
  refine seg_wrap ?_
  rw [g.over]
  exact wpAny_mono h (fun _ s3 z => k.ex n s1 e s3 z) fun x s3 z => k.ex n s1 x s3 z
theorem gs1_while {test : Expr} {body : List Stmt} {pos : Pos} {tc : TT} {tb : TW} (hp : PassesOwn (model X.prog X.w) X.A X.env X.xe) (hc : PT X test tc) (hb : GSs1 X Pv body tb) : GS1 X Pv (.While test body [] pos) (wWhile tc tb) := ⟨fun A cs ip R n ys s1 c fs K J gd lv s σ H D g hn k hI ht => by
  obtain ⟨W, ⟨m0, w0⟩, turn⟩ := ht
  refine seg_While fun p => ?_
  have main : ∀ kr : Result → Sem PySem.Fin, (∀ (n : Nat) (zs : List V) (s3 s4 : Shared) (f : Flow), n + zs.length = sizeLine → Came X cs ip D zs s3 f s4 → Seg (model X.prog X.w) A R (YP X cs Pv) n s3 c (kr (.ok f)) fs s4) →
      (∀ (n : Nat) (s3 : Shared) (x : Value) (s4 : Shared), cameBackBy (model X.prog X.w) X.A X.env X.xe x s4 → Seg (model X.prog X.w) A R (YP X cs Pv) n s3 c (kr (.error x)) fs s4) →
      Seg (model X.prog X.w) A R (YP X cs Pv) n s1 (.whileLoop test body [] X.env) ((model X.prog X.w).den (.whileLoop test body [] X.env)) (.ret kr none (gd false) (lv []) c p [] :: fs) s := ?_
  · exact main _ (fun n zs s3 s4 f hz z => k.ok n zs s3 s4 f hz z) fun n s3 x s4 z => Goes.back g k z
  intro kr kok kex
  have st := g.loop (kr := kr) (c2 := .whileLoop test body [] X.env) (l := lv []) (kp := []) (p := p) rfl rfl
  have done : ∀ (n : Nat) (zs : List V) (s3 s4 : Shared) (f : Flow), n + zs.length = sizeLine → Came X cs ip D zs s3 f s4 → Seg (model X.prog X.w) A R (YP X cs Pv) n s3 (.whileLoop test body [] X.env) (leafOf (.ok f)) (.ret kr none (gd false) (lv []) c p [] :: fs) s4 := fun n zs s3 s4 f hz z => seg_leaf (.ok f) (kok n zs s3 s4 f hz z)
  have fell : ∀ (n : Nat) (s3 : Shared) (x : Value) (s4 : Shared), cameBackBy (model X.prog X.w) X.A X.env X.xe x s4 → Seg (model X.prog X.w) A R (YP X cs Pv) n s3 (.whileLoop test body [] X.env) (leafOf (.error x)) (.ret kr none (gd false) (lv []) c p [] :: fs) s4 := fun n s3 x s4 z => seg_leaf (.error x) (kex n s3 x s4 z)
  have out : ∀ (n : Nat) (s3 : Shared) (x : Value) (s4 : Shared), X.xe x s4 → Seg (model X.prog X.w) A R (YP X cs Pv) n s3 (.whileLoop test body [] X.env) ((do noteFrame x X.env; theTreesLotGoes x : Sem Unit).wrap (fun _ => .raise x) .raise id id) (.ret kr none (gd false) (lv []) c p [] :: fs) s4 := fun n s3 x s4 z => by
    refine seg_wrap ?_
    rw [st.over]
    exact wpAny_bind (wpAny_mono (hp x s4 z) (fun _ s5 y => wpAny_theTreesLotGoes (fell n s3 x s5 y)) fun e s5 y => fell n s3 e s5 y)
  have loop : ∀ (m n : Nat) (zs : List V) (s3 s4 : Shared) (σ2 : L2.St) (H2 : Hp), n + zs.length = sizeLine → W m zs σ2 H2 → Runs1 X cs ip σ2 H2 s3 s4 →
      Seg (model X.prog X.w) A R (YP X cs Pv) n s3 (.whileLoop test body [] X.env) ((model X.prog X.w).den (.whileLoop test body [] X.env)) (.ret kr none (gd false) (lv []) c p [] :: fs) s4 := by
    intro m
    induction m using Nat.strongRecOn with
    | ind m ih =>
      intro n zs s3 s4 σ2 H2 hz w2 hR
      refine seg_whileLoop ?_
      rw [st.over]
      obtain ⟨ps, ep, q1, I⟩ := hR
      refine wpAny_mono (hc.run _ s4 σ2 H2 _ I (turn m zs σ2 H2 w2)) (fun b s5 z => ?_) fun x s5 z => out n s3 x s5 z
      obtain ⟨H3, I3, z⟩ := z
      have R3 : Runs1 X cs ip σ2 H3 s3 s5 := ⟨ps, ep, q1, I3⟩
      cases b with
      | false =>
        rw [if_neg Bool.false_ne_true] at z ⊢
        exact seg_execs_nil (done n zs s3 s5 .next hz ⟨σ2, H3, R3, z⟩)
      | true =>
        rw [if_pos rfl] at z ⊢
        obtain ⟨N, hN, z⟩ := z
        refine hb.does A cs ip R n zs s3 _ _ _ _ id id s5 σ2 H3 { D with nx := N, ct := N, bk := D.nx } st hz ⟨fun n2 z2 s6 s7 f h2 y => ?_, fun n2 s6 x s7 y => out n2 s6 x s7 y⟩ R3 z
        match f, y with
        | .next, y =>
          obtain ⟨σ7, H7, R7, y⟩ := y
          obtain ⟨m2, lt, w7⟩ := hN z2 σ7 H7 y
          exact seg_again rfl (ih m2 lt n2 z2 s6 s7 σ7 H7 h2 w7 R7)
        | .cont, y =>
          obtain ⟨σ7, H7, R7, y⟩ := y
          obtain ⟨m2, lt, w7⟩ := hN z2 σ7 H7 y
          exact seg_again rfl (ih m2 lt n2 z2 s6 s7 σ7 H7 h2 w7 R7)
        | .brk, y => exact done n2 z2 s6 s7 .next h2 y
        | .ret u, y => exact done n2 z2 s6 s7 (.ret u) h2 y
  exact loop m0 n ys s1 s σ H hn w0 hI⟩
end
end Gn
set_option autoImplicit false
set_option maxRecDepth 100000
set_option maxHeartbeats 4000000
namespace Gn
open PySem PySem.Spec PyProof.Rows L2 GenW
/-- no exception -/
abbrev noX : XK := fun _ _ _ => False
/-- what holds whenever the consumer has the word: sc the state at the call, H0 its heap; s1 where the generator woke -/
structure Word (P : Program) (w : World) (outer : List Env) (H0 : Hp) (sc : Shared) (cs : List Addr) (a : Addr) (g : Nat) (H : Hp) (s1 s : Shared) : Prop where
  os : s.os = sc.os
  bare : AllBare s.gens
  lim : s.heap.NoLimit
  gen : s.heap.IsGen a g
  un : Un (frs outer) [] H0 H sc.heap s.heap
  hok : HOk P w H s.heap
  cs : ∀ b, b ∈ cs → H b = none ∧ ∃ o, s1.heap.get? b = some o ∧ s.heap.get? b = some o
def YI (P : Program) (w : World) (outer : List Env) (H0 : Hp) (sc : Shared) (cs : List Addr) (a : Addr) (g : Nat) (Pv : List V → V → Hp → Prop) : Protocol := fun n s1 v s kap =>
  ∃ ys x H, n + 1 + ys.length = sizeLine ∧ RelV x v ∧ Pv ys x H ∧ Word P w outer H0 sc cs a g H s1 s ∧ ∀ s2, Nap cs s s2 → kap (.send .none) s2
def RI (P : Program) (w : World) (outer : List Env) (H0 : Hp) (sc : Shared) (cs : List Addr) (a : Addr) (g : Nat) (Q : List V → Hp → Prop) : GenEnd := fun n s1 r s =>
  (r = .ok (.ret .none) ∨ r = .ok .next) ∧ ∃ ys H, n + ys.length = sizeLine ∧ Q ys H ∧ Word P w outer H0 sc cs a g H s1 s
/-- a generator that has not begun -/
def Made1 (P : Program) (w : World) (k : Nat) (outer : List Env) (H0 : Hp) (sc : Shared) (Pv : List V → V → Hp → Prop) (Q : List V → Hp → Prop) (u : Value) (s : Shared) : Prop :=
  ∃ (a : Addr) (g : Nat) (c : Code), u = .ref a ∧ sc.heap.objs.size ≤ a ∧ a < s.heap.objs.size ∧ s.heap.IsGen a g ∧ s.gens[g]? = some (.fresh c) ∧ s.os = sc.os ∧ AllBare s.gens ∧ s.heap.NoLimit ∧ (∀ b o, sc.heap.get? b = some o → s.heap.get? b = some o) ∧
    ∀ (A : Around) (cs : List Addr) (s2 : Shared), Room k A → A.frames = some outer → (∀ b, b ∈ cs → s.heap.objs.size ≤ b ∧ ∃ o, s2.heap.get? b = some o ∧ ∀ v, o.data ≠ .cell v) → (∀ b o, s.heap.get? b = some o → s2.heap.get? b = some o) → s2.os = sc.os → AllBare s2.gens →
      Seg (model P w) A (RI P w outer H0 sc cs a g Q) (YI P w outer H0 sc cs a g Pv) sizeLine s2 c ((model P w).den c) [] s2
abbrev SpG1 := List V → Hp → (List V → V → Hp → Prop) → (List V → Hp → Prop) → Prop
structure GFn1 (P : Program) (w : World) (K : PySem.W.Frag) (mg : Str → Option Value) (base : Heap) (k : Nat) (f : Addr) (fd : FuncData) (ps : List Str) (sp : SpG1) : Prop where
  len : ∀ vs H Pv Q, sp vs H Pv Q → vs.length = ps.length
  run : ∀ (A : Around) (outer : List Env) (s : Shared) (H : Hp) (args : Args) (us : List Value) (vs : List V) (Pv : List V → V → Hp → Prop) (Q : List V → Hp → Prop), Room k A → Env0 P w K mg base A outer s H → BindsTo s fd args (ps.zip us) → Vals vs us → sp vs H Pv Q →
    codeAny (model P w) A (.call (.ref f) args) (fun r s' => match r with | .ok (.ret u) => Made1 P w k outer H s Pv Q u s' | _ => False) s
/-- the rule: by the body -/
theorem gfn1_of {P : Program} {w : World} {K : PySem.W.Frag} {mg : Str → Option Value} {base : Heap} {k : Nat} {f : Addr} {name qual : Str} {params : Arguments} {body : List Stmt} {scope : Scope} {dV kV doc pm cdv ct oc : Value} {an od : Option Addr}
    {osl : Array (Option Value)} {N ps : List Str} {sp : SpG1} (lk : K.lookup f = some ⟨oc, od, .func (PySem.W.fnOf name qual params body scope dV kV doc pm an cdv ct), osl⟩) (hcd : PySem.W.codeIn K cdv qual = true) (S : GScope N ps scope)
    (len : ∀ vs H Pv Q, sp vs H Pv Q → vs.length = ps.length)
    (hbody : ∀ (A : Around) (outer : List Env) (s : Shared) (H : Hp) (vs : List V) (Pv : List V → V → Hp → Prop) (Q : List V → Hp → Prop) (pn : List (Addr × Obj)), Room k (A.deeper (envOfC qual scope s.heap.objs.size f cdv)) → sp vs H Pv Q →
      ∃ t, GSs1 (gcxOf P w K mg base N qual scope f cdv A outer s H noX pn) Pv body t ∧ t { nx := fun ys _ H' => Q ys H', rt := fun ys v H' => v = .non ∧ Q ys H' } [] (start N vs) H) :
    GFn1 P w K mg base (k + 1) f (PySem.W.fnOf name qual params body scope dV kV doc pm an cdv ct) ps sp := ⟨len, fun A outer s H args us vs Pv Q hr e0 hb r hsp => by
  have hl := len _ _ _ _ hsp
  have kin := e0.mod.kin.keeps fun b o e => (e0.bs b o e).1
  have lim0 := e0.mod.nolimit.keeps fun b o e => (e0.bs b o e).1
  have kinds : ∀ y ∈ ps.zip us, scope.names.lookup y.1 = some .local ∨ (scope.names.lookup y.1 = some .cell ∧ ((cellsFrom (s.heap.objs.size + 1) scope.names []).lookup y.1).isSome = true) := fun y hy => (S.par y.1 (List.of_mem_zip hy).1).imp id fun q => ⟨q, PySem.W.cellsFrom_some _ _ _ (.inl q)⟩
  refine codeAny_call_generator hr.depth (kin _ _ lk) rfl S.co S.gen rfl (PySem.W.codeRec_of kin hcd) (hb _ _ _ _ (wpAny_newFunctionEnv_cells S.kind kinds fun env he s1 x => ?_))
  subst he
  have lim1 : s1.heap.NoLimit := lim0.keeps x.toInCall.keep
  refine ⟨lim1, ?_⟩
  obtain ⟨h1, tk, es1, hk1⟩ := x.done
  have os1 : s1.os = s.os := by rw [es1]
  have gs1 : s1.gens = s.gens := by rw [es1]
  have lt1 := x.toInCall.ns.lt
  have keep1 : ∀ b o, s.heap.get? b = some o → s1.heap.get? b = some o := x.toInCall.keep
  -- the generator's object, whatever it holds besides
  suffices made : ∀ (go : Obj) (nm qn : Value) (t2 : Nat), go.cls = .type "generator" → go.data = .fields #[.int s1.gens.size 0, nm, qn] → go.slots = #[] → (∀ h : Heap, (h.push go).get? h.objs.size = some go) →
      Made1 P w (k + 1) outer H s Pv Q (.ref s1.heap.objs.size) { s1 with gens := s1.gens.push (.fresh (.func body (envOfC qual scope s.heap.objs.size f cdv))), toks := t2, heap := s1.heap.push go } from made _ _ _ _ rfl rfl rfl fun h => Heap.get?_push_size _ rfl
  intro go nm qn t2 gc gd gs gp
  have isg : ∀ h : Heap, h.get? s1.heap.objs.size = some go → h.IsGen s1.heap.objs.size s1.gens.size := fun h e => ⟨go, nm, qn, e, gc, gd, gs⟩
  refine ⟨s1.heap.objs.size, s1.gens.size, _, rfl, Nat.le_of_lt lt1, ?_, isg _ (gp _), Array.getElem?_push_size .., os1, ?_, lim1.keeps fun b o e => Heap.get?_push_of_some _ e, fun b o e => Heap.get?_push_of_some _ (keep1 b o e), ?_⟩
  · show _ < (s1.heap.push go).objs.size
    rw [Heap.size_push]; exact Nat.lt_succ_self _
  · exact AllBare.push (by rw [gs1]; exact e0.bare) rfl
  intro Aw cs s2 hrw hfr hcs hk2 hos hba
  obtain ⟨t, ht, hq⟩ := hbody Aw outer s H vs Pv Q [(s1.heap.objs.size, go)] (hrw.deeper _) hsp
  have e0w : Env0 P w K mg base Aw outer s H := ⟨hfr, e0.mod, e0.bs, e0.bsz, e0.funs, e0.frf, e0.hok, e0.bare⟩
  have I1 : Inv (gcxOf P w K mg base N qual scope f cdv Aw outer s H noX []) [] (start N vs) H s1 := inv_startG S hrw.hd e0w hl r x
  have keep2 : ∀ b o, s1.heap.get? b = some o → s2.heap.get? b = some o := fun b o e => hk2 b o (Heap.get?_push_of_some _ e)
  have I2 : Inv (gcxOf P w K mg base N qual scope f cdv Aw outer s H noX []) [] (start N vs) H s2 := I1.call' (ch := []) (hos.trans os1.symm) (Un.kept keep2) (I1.hok.kept keep2) hba fun b z => by simp at z
  have young : ∀ b, s1.heap.objs.size ≤ b → H b = none ∧ b ≠ s.heap.objs.size ∧ b ∉ frs outer ∧ s.heap.objs.size ≤ b ∧ ∀ y c, (cellsFrom (s.heap.objs.size + 1) scope.names []).lookup y = some c → c ≠ b := fun b hb => by
    refine ⟨I1.hok.fresh hb, Nat.ne_of_gt (Nat.lt_of_lt_of_le lt1 hb), I1.nofs hb, Nat.le_trans (Nat.le_of_lt lt1) hb, fun y c e z => ?_⟩
    obtain ⟨v, ob, ho, _⟩ := I1.cell y c e
    exact absurd (Nat.lt_of_lt_of_le (z ▸ Heap.lt_size ho) hb) (Nat.lt_irrefl _)
  have later : ∀ b, b ∈ cs → s1.heap.objs.size < b := fun b hb => by
    have := (hcs b hb).1
    have h2 : (s1.heap.push go).objs.size ≤ b := this
    rw [Heap.size_push] at h2
    exact h2
  have ga : s2.heap.get? s1.heap.objs.size = some go := hk2 s1.heap.objs.size go (gp _)
  have far : Far (gcxOf P w K mg base N qual scope f cdv Aw outer s H noX [(s1.heap.objs.size, go)]) cs := by
    refine ⟨fun b hb => (young b (Nat.le_of_lt (later b hb))).2.2.2.1, fun b hb => (young b (Nat.le_of_lt (later b hb))).2.1, fun b hb => (young b (Nat.le_of_lt (later b hb))).2.2.2.2, fun b hb p hp => ?_⟩
    rw [List.mem_singleton.mp hp]
    exact Nat.ne_of_lt (later b hb)
  have pick : ∀ l : List Addr, (∀ b, b ∈ l → b ∈ cs) → ∃ qs : List (Addr × Obj), qs.map (·.1) = l ∧ ∀ p, p ∈ qs → p.1 ∈ cs ∧ s2.heap.get? p.1 = some p.2 ∧ ∀ v, p.2.data ≠ .cell v := fun l => by
    induction l with
    | nil => exact fun _ => ⟨[], rfl, fun p hp => by cases hp⟩
    | cons b l ih =>
      intro hl
      obtain ⟨qs, e1, e2⟩ := ih fun x hx => hl x (List.mem_cons_of_mem _ hx)
      obtain ⟨_, o, o1, o2⟩ := hcs b (hl b (List.mem_cons_self ..))
      refine ⟨(b, o) :: qs, by rw [List.map_cons, e1], fun p hp => ?_⟩
      rcases List.mem_cons.mp hp with rfl | hp
      · exact ⟨hl _ (List.mem_cons_self ..), o1, o2⟩
      · exact e2 p hp
  obtain ⟨qs, q1, q2⟩ := pick cs fun _ h => h
  have R0 : Runs1 (gcxOf P w K mg base N qual scope f cdv Aw outer s H noX [(s1.heap.objs.size, go)]) cs [] (start N vs) H s2 s2 := by
    refine ⟨qs, q1, fun p hp => (q2 p hp).2.1, Inv.pinnedG I2 fun p hp => ?_⟩
    rcases List.mem_append.mp hp with z | z
    · rw [List.mem_singleton.mp z]
      obtain ⟨y1, y2, y3, _, _⟩ := young s1.heap.objs.size (Nat.le_refl _)
      exact ⟨ga, y1, y2, y3, fun v q => by rw [gd] at q; cases q⟩
    · rw [List.append_nil] at z
      obtain ⟨z1, z2, z3⟩ := q2 p z
      obtain ⟨y1, y2, y3, _, _⟩ := young p.1 (Nat.le_of_lt (later _ z1))
      exact ⟨z2, y1, y2, y3, z3⟩
  have word : ∀ {ip : List (Addr × Obj)} {σ' : L2.St} {H' : Hp} {sa sb : Shared}, Runs1 (gcxOf P w K mg base N qual scope f cdv Aw outer s H noX [(s1.heap.objs.size, go)]) cs ip σ' H' sa sb → Word P w outer H s cs s1.heap.objs.size s1.gens.size H' sa sb := fun {ip σ' H' sa sb} R => by
    have fc := R.facts
    obtain ⟨_, _, _, J⟩ := R
    exact ⟨J.os, J.bare, J.nolimit, isg _ (J.pin (s1.heap.objs.size, go) (List.mem_append_left _ (List.mem_singleton.mpr rfl))).1, J.base, J.hok, fun b hb => ⟨(fc b hb).1, (fc b hb).2.2.2⟩⟩
  refine seg_func ?_
  refine seg_imp (R := fun n sa rr sb => match rr with
      | .ok (.ret u) => u = .none ∧ ∃ ys ip σ' H', n + ys.length = sizeLine ∧ Q ys H' ∧ Runs1 (gcxOf P w K mg base N qual scope f cdv Aw outer s H noX [(s1.heap.objs.size, go)]) cs ip σ' H' sa sb
      | _ => False) (Y := YP (gcxOf P w K mg base N qual scope f cdv Aw outer s H noX [(s1.heap.objs.size, go)]) cs Pv) (fun n sa rr sb z => ?_) (fun n sa v sb kap kap' hkk z => ?_) sizeLine ?_
  · match rr, z with
    | .ok (.ret u), z =>
      obtain ⟨rfl, ys, ip, σ', H', e1, e2, R⟩ := z
      exact ⟨.inl rfl, ys, H', e1, e2, word R⟩
  · obtain ⟨ys, x, ip, σ', H', e1, e2, e3, R, e4⟩ := z
    exact ⟨ys, x, H', e1, e2, e3, word R, fun s3 nap => hkk _ _ (e4 s3 nap)⟩
  · refine ht.does Aw cs [] _ sizeLine [] s2 _ [] _ _ id id s2 (start N vs) H _ ⟨far, fun p hp => (by simp at hp), over_func, rfl, rfl, rfl⟩ (Nat.add_zero _) ⟨fun n ys sa sb fl hn z => ?_, fun n sa e sb z => ?_⟩ R0 hq
    · match fl, z with
      | .next, z =>
        obtain ⟨σ', H', R, hQ⟩ := z
        exact seg_end (.ok (.ret .none)) ⟨rfl, ys, [], σ', H', hn, hQ, R⟩
      | .brk, z => obtain ⟨_, _, _, q⟩ := z; exact False.elim q
      | .cont, z => obtain ⟨_, _, _, q⟩ := z; exact False.elim q
      | .ret u, z =>
        obtain ⟨v, σ', H', R, rv, ev, hQ⟩ := z
        subst ev
        have eu : u = Value.none := rv
        exact seg_end (.ok (.ret u)) ⟨eu, ys, [], σ', H', hn, hQ, R⟩
    · refine seg_wrap ?_
      rw [over_func]
      refine wpAny_mono (show wpAny (model P w) (Aw.deeper (envOfC qual scope s.heap.objs.size f cdv)) (leaving (envOfC qual scope s.heap.objs.size f cdv) e) (fun _ s'' => CX P w outer H s noX e s'' ∧ ∀ p ∈ [(s1.heap.objs.size, go)], s''.heap.get? p.1 = some p.2) (fun _ _ => False) sb from z) (fun _ s'' q => ?_) fun _ s'' q => q.elim
      obtain ⟨⟨_, _, _, _, _, _, _, _, _, _, _, _, q⟩, _⟩ := q
      exact q.elim⟩
end Gn
set_option autoImplicit false
set_option maxRecDepth 100000
set_option maxHeartbeats 4000000
namespace Gn
open PySem PySem.Spec PyProof.Rows L2 GenW
section
variable {X : Cx} {s3 sc s1 sa sb sd : Shared} {H0 Hg H' : Hp} {scope : Scope} {ce : Env} {fp : List Addr} {D a g : Addr} {xs : List V} {σ : L2.St}
/-- the generator has run: what the comprehension's block knows stands -/
theorem word_blk (I : Inv (X.blk s3 (upd H0 D (.lst [])) scope ce fp) [] σ H' sa) (hD : H' D = some (.lst xs)) (hc0 : ∀ y, ce.cells.lookup y = none) (h1 : s1.heap = sa.heap) (W : Word X.prog X.w X.stack H0 sc [D, ce.locals] a g Hg s1 sb)
    (cov : ∀ b o, s3.heap.get? b = some o → b ∉ fp → sc.heap.get? b = some o ∨ b = D) (hdf : D ∉ fp) (os3 : s3.os = sc.os) (hd : sd.heap = sb.heap) (ho : sd.os = sb.os) (hb : AllBare sd.gens) : Inv (X.blk s3 (upd H0 D (.lst [])) scope ce fp) [] σ (upd Hg D (.lst xs)) sd := by
  obtain ⟨gD, oD, d1, d2⟩ := W.cs D (List.mem_cons_self ..)
  obtain ⟨gC, oC, c1, c2⟩ := W.cs ce.locals (List.mem_cons_of_mem _ (List.mem_cons_self ..))
  rw [h1] at d1 c1
  have neC : ce.locals ≠ D := fun z => by
    have h := I.free
    have h : H' ce.locals = none := h
    rw [z, hD] at h; cases h
  have neH : ∀ b : Addr, (upd H0 D (.lst []) : Hp) b = none → b ≠ D ∧ H0 b = none := fun b h => by
    have n : b ≠ D := fun z => by rw [z, upd_same] at h; cases h
    exact ⟨n, by rw [upd_ne n] at h; exact h⟩
  have inH : ∀ {b : Addr} {o : HO}, (upd H0 D (.lst []) : Hp) b = some o → b = D ∨ H0 b = some o := fun {b o} h => by
    by_cases z : b = D
    · exact .inl z
    · rw [upd_ne z] at h; exact .inr h
  have toG : ∀ {b : Addr} {o : HO}, Hg b = some o → (upd Hg D (.lst xs) : Hp) b = some o := fun {b o} h => by rw [upd_ne (ne_of_none h gD)]; exact h
  have ob : ∀ b o, s3.heap.get? b = some o → b ≠ D → b ∉ fp → sc.heap.get? b = some o := fun b o h n f => (cov b o h f).elim id fun z => absurd z n
  refine ⟨I.ok, ?_, hb, ⟨fun b o e n hf hx => ?_, fun b o e n hf hx => ?_, fun b o e n hx => ?_, fun b o e hx => ?_, fun b l e => ?_, fun b o u e => ?_, fun b l e => ?_⟩, ?_, fun y c e => ?_, ?_, fun y c e => ?_, fun p hp => ?_, fun b u e => ?_, I.len⟩
  · rw [ho, W.os]; exact os3.symm
  · obtain ⟨n1, n2⟩ := neH b n
    rw [hd]
    exact W.un.keep b o (ob b o e n1 hx) n2 hf (by simp)
  · obtain ⟨n1, n2⟩ := neH b n
    rw [hd]
    exact W.un.slot b o (ob b o e n1 hx) n2 hf (by simp)
  · obtain ⟨n1, n2⟩ := neH b n
    rw [upd_ne n1]
    exact W.un.free b o (ob b o e n1 hx) n2 (by simp)
  · rw [hd]
    rcases cov b o e hx with z | z
    · exact W.un.there b o z (by simp)
    · rw [z]; exact ⟨oD, d2⟩
  · rcases inH e with z | z
    · rw [z] at e
      have e : (upd H0 D (.lst []) : Hp) D = some (.tup l) := e
      rw [upd_same] at e; cases e
    · exact toG (W.un.tups b l z)
  · rcases inH e with z | z
    · rw [z] at e
      have e : (upd H0 D (.lst []) : Hp) D = some (.frz o u) := e
      rw [upd_same] at e; cases e
    · exact toG (W.un.frzs b o u z)
  · rcases inH e with z | z
    · rw [z] at e
      have e : (upd H0 D (.lst []) : Hp) D = some (.tbl l) := e
      rw [upd_same] at e; cases e
    · obtain ⟨more, z⟩ := W.un.tbls b l z
      exact ⟨more, toG z⟩
  · obtain ⟨m, ⟨o, es, ep, q1, q2⟩, hl⟩ := I.loc
    have q1 : sa.heap.get? ce.locals = some o := q1
    rw [c1] at q1
    cases q1
    refine ⟨m, ⟨_, es, ep, ?_, q2⟩, fun i x v e1 e2 e3 => ?_⟩
    · show sd.heap.get? ce.locals = _
      rw [hd]; exact c2
    · obtain ⟨u, r, k⟩ := hl i x v e1 e2 e3
      refine ⟨u, r, k.imp id fun z => ?_⟩
      obtain ⟨_, c, z, _⟩ := z
      have z : ce.cells.lookup x = some c := z
      rw [hc0] at z; cases z
  · have e : ce.cells.lookup y = some c := e
    rw [hc0] at e; cases e
  · show (upd Hg D (.lst xs) : Hp) ce.locals = none
    rw [upd_ne neC]; exact gC
  · have e : ce.cells.lookup y = some c := e
    rw [hc0] at e; cases e
  · exact absurd (show p ∈ ([] : List (Addr × Obj)) ++ [] from hp) (by simp)
  · rw [hd]
    by_cases z : b = D
    · subst z
      rw [upd_same] at e
      cases e
      obtain ⟨hz, its, n, r, q⟩ := I.hok b _ hD
      have q : sa.heap.get? b = _ := q
      exact ⟨hz, its, n, r, by rw [d2, ← d1]; exact q⟩
    · rw [upd_ne z] at e
      exact (W.hok b u e).stay (fun _ _ _ q => q) (fun c q => toG q) fun c l q => toG q
/-- a name of the block is stored: only its own table changes -/
theorem store_blk {M : Model} {A : Around} {E : Value → Shared → Prop} {B : Cx} {i : Nat} {x : Str} {v : V} {u : Value} {Q : Unit → Shared → Prop} {s : Shared} {H : Hp} (I : Inv B [] σ H s) (hpn : B.pn = []) (hc0 : ∀ y, B.env.cells.lookup y = none) (hN : B.N.Nodup) (hi : B.N[i]? = some x) (hx : B.env.scope.names.lookup x = some .local) (r : RelV v u)
    (h : ∀ s2, Inv B [] (σ.set i (some v)) H s2 → Heap.SameBut B.env.locals s.heap s2.heap → s2.gens = s.gens → s2.os = s.os → Q () s2) : wpAny M A (storeName B.env x u) Q E s := by
  obtain ⟨m, hn, hl⟩ := id I.loc
  have hcls : (B.env.scope.kind == .class || (B.env.scope.kind == .module && B.env.locals != B.env.globals)) = false := by rw [I.ok.kind]; rfl
  refine wpAny_storeName_local hx hn (fun h' hn' hs => h _ ?_ hs rfl rfl) hcls
  have old : ∀ b o, B.s_0.heap.get? b = some o → b ≠ B.env.locals := fun b o e => Nat.ne_of_lt (Nat.lt_of_lt_of_le (Heap.lt_size e) I.ok.above)
  refine ⟨I.ok, I.os, I.bare, ⟨fun b o e n hf hx => ?_, fun b o e n hf hx => ?_, I.base.free, fun b o e hx => ?_, I.base.tups, I.base.frzs, I.base.tbls⟩, ⟨_, hn', fun j y w e1 e2 e3 => ?_⟩, fun y c e => ?_, I.free, I.freeC, fun p hp => ?_, fun b ob e => ?_, by rw [List.length_set]; exact I.len⟩
  · exact (hs.2 b (old b o e)).trans (I.base.keep b o e n hf hx)
  · obtain ⟨sl, q⟩ := I.base.slot b o e n hf hx
    exact ⟨sl, (hs.2 b (old b o e)).trans q⟩
  · obtain ⟨o2, q⟩ := I.base.there b o e hx
    exact ⟨o2, (hs.2 b (old b o e)).trans q⟩
  · by_cases z : j = i
    · subst z
      rw [hi] at e1; cases e1
      rw [List.getElem?_set_self (by rw [I.len]; exact (List.getElem?_eq_some_iff.mp hi).1)] at e2
      cases e2
      exact ⟨u, r, .inl ⟨hx, by simp⟩⟩
    · rw [List.getElem?_set_ne (Ne.symm z)] at e2
      obtain ⟨u2, r2, q⟩ := hl j y w e1 e2 e3
      refine ⟨u2, r2, ?_⟩
      rcases q with ⟨k, e⟩ | ⟨k, c, e, _⟩
      · have : y ≠ x := fun y' => z (nodup_ix hN e1 (y' ▸ hi))
        exact .inl ⟨k, by simp [this, e]⟩
      · rw [hc0] at e; cases e
  · rw [hc0] at e; cases e
  · rw [hpn] at hp
    exact absurd (show p ∈ ([] : List (Addr × Obj)) ++ [] from hp) (by simp)
  · refine (I.hok b ob e).stay (fun c w hc q => (hs.2 c fun z => ?_).trans q) (fun _ q => q) fun _ _ q => q
    rcases hc with y | y
    · rw [z] at y
      rw [← y] at e
      have := I.free
      rw [this] at e; cases e
    · rw [z, I.free] at y; cases y
/-- an expression that gives a generator -/
abbrev TGen1 := L2.St → Hp → (List V → V → Hp → Prop) → (List V → Hp → Prop) → Prop
structure PGen1 (X : Cx) (k : Nat) (e : Expr) (tg : TGen1) : Prop where
  run : ∀ (pins : List (Addr × Obj)) (s : Shared) (σ : L2.St) (H : Hp) (Pv : List V → V → Hp → Prop) (Qe : List V → Hp → Prop), Inv X pins σ H s → tg σ H Pv Qe →
    wpAny (model X.prog X.w) X.A (eval e X.env) (fun u s' => ∃ H1 sc, Inv X pins σ H1 sc ∧ Made1 X.prog X.w k X.stack H1 sc Pv Qe u s') X.xe s
/-- P: what is known of the item at each place, whatever the heap -/
def tCompG (tg : TGen1) : TE := fun σ H Q => ∃ P : Nat → V → Prop, tg σ H (fun ys x _ => P ys.length x) (fun ys H' => ∀ zs : List V, zs.length = ys.length → (∀ i x, zs[i]? = some x → P i x) → ∀ D, H' D = none → Q (.ref D) (upd H' D (.lst zs)))
theorem view_ex (sc s3 : Heap) (D : Addr) : ∃ hv : Heap, hv.objs.size = s3.objs.size ∧ ∀ b o, hv.get? b = some o ↔ (s3.get? b = some o ∧ ((sc.get? b).isSome = true ∨ b = D)) := by
  refine ⟨⟨Array.ofFn (n := s3.objs.size) fun i => if (sc.get? i.1).isSome = true ∨ i.1 = D then s3.objs[i.1] else ⟨.none, none, .freed, #[]⟩, s3.life⟩, by simp, fun b o => ?_⟩
  rw [Heap.get?_some_iff, Heap.get?_some_iff]
  by_cases hb : b < s3.objs.size
  · have e1 : s3.objs[b]? = some s3.objs[b] := Array.getElem?_eq_getElem hb
    by_cases h : (sc.get? b).isSome = true ∨ b = D
    · simp [hb, h]
    · simp only [Array.getElem?_ofFn, hb, h, dif_pos, if_false, e1, and_false, iff_false]
      rintro ⟨q1, q2⟩
      have q1 := Option.some.inj q1
      rw [← q1] at q2
      exact absurd q2 (by simp [Obj.isFreed])
  · simp [hb]
theorem pe_compG {jx k : Nat} {x : Str} {px px2 pos : Pos} {iter : Expr} {tg : TGen1} (hcm : X.calm = true) (hN : X.N.Nodup) (hr : Room (k + 1) X.A) (hi : PGen1 X k iter tg) (ok : BlkOk X.N X.env.scope scope [(x, jx)]) (hx : X.N[jx]? = some x) (hxs : (relS scope X.env.scope).names.lookup x = some .local)
    (hcl : ∀ n, cellsFrom n scope.names (cloFrom X.env.cells scope.names []) = []) (hs : ∀ x, foldedSetIterable iter X.env x = pure x := by intro _; rfl) (hdb : (x == ("__debug__" : Str)) = false := by decide) : PE X (.ListComp (.Name x px) [⟨.Name x px2, iter, [], 0⟩] scope pos) (tCompG tg) := by
  refine ⟨fun pins s σ H Q I h => ?_⟩
  obtain ⟨P, h⟩ := h
  rw [eval_ListComp]
  have hfree : ∀ y ∈ scope.names, y.2 = .free → ∃ c, X.env.cells.lookup y.1 = some c := fun y hy e => (ok.free y hy e).elim (fun z => I.ok.has _ (.inl z)) fun z => I.ok.has _ (.inr z)
  refine wpAny_comprehension_free (use := none) rfl hs (closure_ok hfree) ok.kind (fun y hy e => by rw [ok.uniq y hy, e]) (thn (hi.run pins s σ H _ _ I h) fun xv s1 made => ?_)
  obtain ⟨H1, sc, I1, a, g, c, rfl, a1, a2, hgen, hgs, hos, hba, hlim, hkeep, hrun⟩ := made
  refine wpAny_pyIter_gen hgen ?_
  refine wpAny_newObj_type (newEnv_comp ?_) (by show 0 ≤ sizeLine; decide)
  have I2 : Inv X pins σ H1 s1 := I1.call' (ch := []) hos (Un.kept hkeep) (I1.hok.kept hkeep) hba fun b z => by simp at z
  generalize hD : s1.heap.objs.size = D
  have hDn : H1 D = none := I2.hok.fresh (Nat.le_of_eq hD)
  generalize hs3 : ({ s1 with heap := s1.heap.push { cls := .type "list", data := .seq ([] : List Value).toArray } } : Shared) = s3
  have h3 : s3.heap = s1.heap.push { cls := .type "list", data := .seq ([] : List Value).toArray } := by rw [← hs3]
  have s3z : s3.heap.objs.size = D + 1 := by rw [h3, Heap.size_push, hD]
  have I3 : Inv X pins σ (upd H1 D (.lst [])) s3 := by
    rw [← hs3]
    refine I2.laid (t' := s1.toks) (fun b o e => Heap.get?_push_of_some _ e) (Nat.le_of_eq hD) ⟨Nat.zero_le _, [], 0, .nil, ?_⟩
    rw [← hD]
    exact Heap.get?_push_size _ rfl
  have h13 : ∀ b o, s1.heap.get? b = some o → s3.heap.get? b = some o := fun b o e => by rw [h3]; exact Heap.get?_push_of_some _ e
  have ksc3 : ∀ b o, sc.heap.get? b = some o → s3.heap.get? b = some o := fun b o e => h13 b o (hkeep b o e)
  have hDs : s3.heap.get? D = some { cls := .type "list", data := .seq ([] : List Value).toArray } := by rw [h3, ← hD]; exact Heap.get?_push_size _ rfl
  have I4 := block_start I3 ok hN (fp := []) fun b hb => by cases hb
  obtain ⟨hv, vz, vv⟩ := view_ex sc.heap s3.heap D
  have vcov : ∀ b o, hv.get? b = some o → sc.heap.get? b = some o ∨ b = D := fun b o e => by
    obtain ⟨e1, e2⟩ := (vv b o).mp e
    refine e2.imp (fun q => ?_) id
    obtain ⟨o2, q⟩ := Option.isSome_iff_exists.mp q
    rw [ksc3 b o2 q] at e1
    cases e1; exact q
  have vsc : ∀ b o, sc.heap.get? b = some o → hv.get? b = some o := fun b o e => (vv b o).mpr ⟨ksc3 b o e, .inl (by rw [e]; rfl)⟩
  have v3 : ∀ b o, hv.get? b = some o → s3.heap.get? b = some o := fun b o e => ((vv b o).mp e).1
  show codeAny _ _ (.compStart (.ListComp (.Name x px) [⟨.Name x px2, iter, [], 0⟩] scope pos) 0 (.ref a) (.ref D) (compEnvC scope (cellsFrom (s3.heap.objs.size + 1) scope.names (cloFrom X.env.cells scope.names [])) s3.heap.objs.size X.env)) (compPost (model X.prog X.w) X.A X.xe none (EP X pins σ Q) (.ref D) s3.heap.objs.size) { s3 with heap := pushCells (s3.heap.push { cls := .type "dict", data := .dict #[] }) scope.names }
  have hc0 : ∀ y, (compEnvC scope (cellsFrom (s3.heap.objs.size + 1) scope.names (cloFrom X.env.cells scope.names [])) s3.heap.objs.size X.env).cells.lookup y = none := fun y => by
    show (cellsFrom (s3.heap.objs.size + 1) scope.names (cloFrom X.env.cells scope.names [])).lookup y = none
    rw [hcl]; rfl
  have hsc : (compEnvC scope (cellsFrom (s3.heap.objs.size + 1) scope.names (cloFrom X.env.cells scope.names [])) s3.heap.objs.size X.env).scope.names.lookup x = some .local := hxs
  generalize hce : compEnvC scope (cellsFrom (s3.heap.objs.size + 1) scope.names (cloFrom X.env.cells scope.names [])) s3.heap.objs.size X.env = ce at I4 hc0 hsc ⊢
  have cL : ce.locals = D + 1 := by subst hce; exact s3z
  generalize hs4 : ({ s3 with heap := pushCells (s3.heap.push { cls := .type "dict", data := .dict #[] }) scope.names } : Shared) = s4 at I4 ⊢
  have k34 : ∀ b o, s3.heap.get? b = some o → s4.heap.get? b = some o := fun b o e => by
    rw [← hs4]
    exact pushCells_keeps _ _ _ _ (Heap.get?_push_of_some _ e)
  have k14 : ∀ b o, s1.heap.get? b = some o → s4.heap.get? b = some o := fun b o e => k34 b o (h13 b o e)
  have hg4 : s4.heap.IsGen a g := by obtain ⟨go, nm, qn, e, r⟩ := hgen; exact ⟨go, nm, qn, k14 _ _ e, r⟩
  have gens4 : s4.gens = s1.gens := by rw [← hs4, ← hs3]
  have os4 : s4.os = sc.os := by rw [← hs4, ← hs3]; exact hos
  have os3 : s3.os = sc.os := by rw [← hs3]; exact hos
  -- the block by what the consumer himself had made
  generalize hsv : ({ s3 with heap := hv } : Shared) = sv
  have hsvh : sv.heap = hv := by rw [← hsv]
  have okv : (X.blk sv (upd H1 D (.lst [])) scope ce []).Ok := by
    obtain ⟨m1, m2, m3, m4, m5, m6, m7, m8, m9, m10, m11, m12, m13, m14, m15, m16, m17, m18⟩ := I4.ok
    refine ⟨m1, m2, m3, m4, ?_, m6, m7, fun y c q1 q2 => ?_, m9, m10, m11, m12, fun b o e => ⟨?_, (m13 b o e).2⟩, ?_, m15, m16, ?_, m18⟩
    · show sv.heap.objs.size ≤ ce.locals
      rw [hsvh, vz]; exact m5
    · show sv.heap.objs.size ≤ c
      rw [hsvh, vz]; exact m8 y c q1 q2
    · show sv.heap.get? b = some o
      rw [hsvh]; exact vsc b o (I1.bs b o e).1
    · show X.base.objs.size ≤ sv.heap.objs.size
      rw [hsvh, vz]; exact m14
    · show sv.heap.FunFrames X.base X.stack
      rw [hsvh]
      exact I1.stack.of_keeps fun b o e _ => ⟨o, vsc b o e, rfl⟩
  have I4v : Inv (X.blk sv (upd H1 D (.lst [])) scope ce []) [] (wipe σ [jx]) (upd H1 D (.lst [])) s4 := by
    refine ⟨okv, ?_, I4.bare, Un.kept fun b o e => ?_, I4.loc, I4.cell, I4.free, I4.freeC, I4.pin, I4.hok, I4.len⟩
    · show s4.os = sv.os
      rw [← hsv]; rw [os4]; exact os3.symm
    · have e : sv.heap.get? b = some o := e
      rw [hsvh] at e
      exact k34 b o (v3 b o e)
  have ne2 : ce.locals ≠ D := by rw [cL]; exact Nat.succ_ne_self D
  have aD : a < D := by rw [← hD]; exact a2
  have anc : a ∉ [D, ce.locals] := by
    rw [cL]
    simp only [List.mem_cons, List.not_mem_nil, or_false, not_or]
    exact ⟨Nat.ne_of_lt aD, Nat.ne_of_lt (Nat.lt_succ_of_lt aD)⟩
  have live : ∀ {σ' : L2.St} {H' : Hp} {s' : Shared} {zs : List V}, Inv (X.blk sv (upd H1 D (.lst [])) scope ce []) [] σ' H' s' → H' D = some (.lst zs) → ∀ b, b ∈ [D, ce.locals] → ∃ o, s'.heap.get? b = some o ∧ ∀ v, o.data ≠ .cell v := fun {σ' H' s' zs} J hz b hb => by
    rcases List.mem_cons.mp hb with rfl | hb
    · obtain ⟨_, its, n, _, q⟩ := J.hok b _ hz
      exact ⟨_, q, fun v z => by cases z⟩
    · rw [List.mem_singleton.mp hb]
      obtain ⟨m, ⟨o, es, ep, q1, q2⟩, _⟩ := J.loc
      refine ⟨o, q1, fun v z => ?_⟩
      have q2 := q2.1
      rw [z] at q2; cases q2
  have osv : sv.os = sc.os := by rw [← hsv]; exact os3
  have hDn1 : H1 D = none := hDn
  have scD : ∀ b o, sc.heap.get? b = some o → b ≠ D := fun b o e z => by
    have := Heap.lt_size (hkeep b o e)
    rw [hD, z] at this
    exact absurd this (Nat.lt_irrefl _)
  have loop : codeAny (model X.prog X.w) X.A (.compLoop (.ListComp (.Name x px) [⟨.Name x px2, iter, [], 0⟩] scope pos) 0 (.ref a) (.ref D) ce) (compPost (model X.prog X.w) X.A X.xe none (EP X pins σ Q) (.ref D) s3.heap.objs.size) s4 := by
    refine compLoop_any (fun n s' => ∃ (H' : Hp) (zs : List V) (gs : GenState), n + zs.length = sizeLine ∧ Inv (X.blk sv (upd H1 D (.lst [])) scope ce []) [] (wipe σ [jx]) H' s' ∧ H' D = some (.lst zs) ∧ (∀ i y, zs[i]? = some y → P i y) ∧ s'.heap.IsGen a g ∧ s'.gens[g]? = some gs ∧
      gs.Goes (model X.prog X.w) X.A.in1 (fun n s₀ r s₁ => ((r = .ok (.ret .none) ∨ r = .ok .next) ∧ (∃ (ys : List V) (H : Hp), n + ys.length = sizeLine ∧ (∀ zs : List V, zs.length = ys.length → (∀ i x, zs[i]? = some x → P i x) → ∀ D, H D = none → Q (.ref D) (upd H D (.lst zs))) ∧ Word X.prog X.w X.stack H1 sc [D, ce.locals] a g H s₀ s₁)) ∨ ∃ e, r = .error e ∧ (fun (_ : Value) (_ : Shared) => False) e s₁)
        (YI X.prog X.w X.stack H1 sc [D, ce.locals] a g (fun ys x _ => P ys.length x)) n (.send .none) (s'.setGen g .running)) ?_ sizeLine
      ⟨upd H1 D (.lst []), [], .fresh c, Nat.add_zero _, I4v, upd_same, fun i y e => by simp at e, hg4, by rw [gens4]; exact hgs, rfl, ?_⟩
    · rintro n s5 ⟨H5, zs, gs, hn, I5, hD5, hP5, hg5, hgs5, hgo5⟩
      have hgl : g < s5.gens.size := (Array.getElem?_eq_some_iff.mp hgs5).1
      refine wpAny_gsz (n := g + 1) hgl (next_genG (A := X.A) (I.ok.hd hcm) I5.nolimit hr.depth hg5 hgs5 hgo5 (fun v sb gs' hbare hy => ?_) (fun sb hp h' hk => ?_) fun e sb he => False.elim he)
      · intro hsz
        have hsz1 : g < sb.gens.size := by
          have q : (sb.setGen g gs').gens.size = sb.gens.size := setGen_size _ _ _
          have hsz' : g + 1 ≤ (sb.setGen g gs').gens.size := hsz
          omega
        obtain ⟨ys, y, Hg, hl, ry, pv, W, hk⟩ := hy
        have Ib : Inv (X.blk sv (upd H1 D (.lst [])) scope ce []) [] (wipe σ [jx]) (upd Hg D (.lst zs)) (sb.setGen g gs') :=
          word_blk (s1 := s5.setGen g .running) I5 hD5 hc0 rfl W (fun b o e _ => vcov b o (by rw [← hsvh]; exact e)) (by simp) osv rfl rfl (allBare_setGen W.bare hbare)
        cases n with
        | zero =>
          have lv := live Ib upd_same
          exact (hk sb ⟨rfl, W.bare, fun _ _ _ e => e, lv⟩).elim
        | succ m =>
          have yl : ys.length = zs.length := by omega
          have zl : zs.length < sizeLine := by omega
          refine wpAny_of_eq (a := ()) rfl ?_
          refine wpAny_assign_Name (store_blk (B := X.blk sv (upd H1 D (.lst [])) scope ce []) Ib rfl hc0 hN hx hsc ry fun s6 I6 sb6 g6 o6 => ?_)
          refine wpAny_tests_nil ?_
          rw [if_pos rfl]
          obtain ⟨mm, hnm, hlm⟩ := I6.loc
          have hxl : (wipe σ [jx]).length = X.N.length := I5.len
          obtain ⟨u, ru, lu⟩ := hlm jx x y hx (List.getElem?_set_self (by rw [hxl]; exact (List.getElem?_eq_some_iff.mp hx).1)) (.inl hsc)
          have hu : ce.kindOf x = some .local ∧ mm x = some u := by
            rcases lu with z | ⟨_, c', z, _⟩
            · exact z
            · have z : ce.cells.lookup x = some c' := z
              rw [hc0] at z; cases z
          refine wpAny_Name (wpAny_loadName_local okv.kind hu.1 hnm hu.2 ?_) hdb
          obtain ⟨hz', its, k2, ri, e6⟩ := I6.hok D _ upd_same
          have hle := ri.length
          refine append_at (hsz := by rw [List.size_toArray]; omega) e6 fun h' sb7 ho' => ?_
          have I7 : Inv (X.blk sv (upd H1 D (.lst [])) scope ce []) [] ((wipe σ [jx]).set jx (some y)) (upd (upd Hg D (.lst zs)) D (.lst (zs ++ [y]))) { s6 with heap := h' } := by
            refine I6.write (t' := s6.toks) (by rw [upd_same]; trivial) (.inl rfl) (fun b u hb q => (sb7.2 b hb).trans q) ⟨_, ho'⟩ ⟨by rw [List.length_append]; exact zl, its ++ [u], k2 + 1, ri.append (.cons ru .nil), ?_⟩
            rw [ho']
            simp
          have far : ∀ b o, b ∉ [D, ce.locals] → sb.heap.get? b = some o → h'.get? b = some o := fun b o hb e => by
            simp only [List.mem_cons, List.not_mem_nil, or_false, not_or] at hb
            exact (sb7.2 b hb.1).trans ((sb6.2 b hb.2).trans e)
          have g7 : ({ s6 with heap := h' } : Shared).gens = (sb.setGen g gs').gens := g6
          refine ⟨m, Nat.lt_succ_self m, upd (upd Hg D (.lst zs)) D (.lst (zs ++ [y])), zs ++ [y], gs', ?_, I7.weak ?_ fun i v e => ?_, upd_same, fun i w e => ?_, ?_, ?_, ?_⟩
          · rw [List.length_append, List.length_singleton]; omega
          · rw [List.length_set]
          · by_cases z : i = jx
            · subst z
              exact absurd (List.mem_singleton.mpr rfl) (wipe_some e).2
            · rw [List.getElem?_set_ne (Ne.symm z)]; exact e
          · by_cases z : i < zs.length
            · rw [List.getElem?_append_left z] at e
              exact hP5 i w e
            · have z2 : i = zs.length := by
                have := (List.getElem?_eq_some_iff.mp e).1
                rw [List.length_append, List.length_singleton] at this
                omega
              subst z2
              rw [List.getElem?_append_right (Nat.le_refl _), Nat.sub_self] at e
              cases e
              rw [← yl]; exact pv
          · obtain ⟨go, nm, qn, q, r⟩ := W.gen
            exact ⟨go, nm, qn, far a go anc q, r⟩
          · rw [g7]; exact setGen_at hsz1
          · have lv := live I7 upd_same
            refine hk _ ⟨?_, allBare_setGen I7.bare rfl, far, lv⟩
            show s6.os = sb.os
            exact o6
      · intro hsz
        obtain ⟨ys, Hg, hl, hq, W⟩ := hp
        have zl : zs.length = ys.length := by omega
        have Ib : Inv (X.blk sv (upd H1 D (.lst [])) scope ce []) [] (wipe σ [jx]) (upd Hg D (.lst zs)) (sb.setGen g .finished) :=
          word_blk (s1 := s5.setGen g .running) I5 hD5 hc0 rfl W (fun b o e _ => vcov b o (by rw [← hsvh]; exact e)) (by simp) osv rfl rfl (allBare_setGen W.bare rfl)
        obtain ⟨gD, oD, d1, d2⟩ := W.cs D (List.mem_cons_self ..)
        have qq := hq zs zl hP5 D gD
        have Ib2 : Inv (X.blk sv (upd H1 D (.lst [])) scope ce []) [] (wipe σ [jx]) (upd Hg D (.lst zs)) { sb.setGen g .finished with heap := h' } :=
          Ib.call' (ch := []) rfl (Un.kept hk) (Ib.hok.kept hk) Ib.bare fun b z => by simp at z
        -- back in the def's context
        have un : Un (frs X.stack) [] H1 (upd Hg D (.lst zs)) sc.heap h' := by
          refine ⟨fun b o e n hf hx => hk _ _ (W.un.keep b o e n hf hx), fun b o e n hf hx => ?_, fun b o e n hx => ?_, fun b o e hx => ?_, fun b l e => ?_, fun b o u e => ?_, fun b l e => ?_⟩
          · obtain ⟨sl, q⟩ := W.un.slot b o e n hf hx
            exact ⟨sl, hk _ _ q⟩
          · rw [upd_ne (scD b o e)]; exact W.un.free b o e n hx
          · obtain ⟨o2, q⟩ := W.un.there b o e hx
            exact ⟨o2, hk _ _ q⟩
          · rw [upd_ne (ne_of_none e hDn1)]; exact W.un.tups b l e
          · rw [upd_ne (ne_of_none e hDn1)]; exact W.un.frzs b o u e
          · obtain ⟨more, q⟩ := W.un.tbls b l e
            exact ⟨more, by rw [upd_ne (ne_of_none e hDn1)]; exact q⟩
        have Ix : Inv X pins σ (upd Hg D (.lst zs)) { sb.setGen g .finished with heap := h' } :=
          I1.call' (ch := []) W.os un Ib2.hok Ib2.bare fun b z => by simp at z
        obtain ⟨m, hnm, _⟩ := Ib2.loc
        have nC : (upd Hg D (.lst zs) : Hp) ce.locals = none := Ib2.free
        have scC : sc.heap.objs.size ≤ ce.locals := by
          rw [cL]
          exact Nat.le_succ_of_le (Nat.le_of_lt (Nat.lt_of_le_of_lt a1 aD))
        obtain ⟨f0, f1, f2, f3, f4, f5⟩ := I1.fpOk scC nC
        have cL2 : s3.heap.objs.size = ce.locals := by rw [cL]; exact s3z
        show compPost (model X.prog X.w) X.A X.xe none (EP X pins σ Q) (.ref D) s3.heap.objs.size (.ok .next) { sb.setGen g .finished with heap := h' }
        rw [cL2]
        exact ⟨m, hnm, fun h'' sb2 => ⟨.ref D, upd Hg D (.lst zs), Ix.turned (t' := _) (fun b o hb e => (sb2.2 b hb).trans e) f0 f1 f3 f4 f5, rfl, qq⟩⟩
    · refine seg_imp (fun n sa r sb z => .inl z) (fun n sa v sb kap kap' hkk z => ?_) sizeLine (hrun X.A.in1 [D, ce.locals] (s4.setGen g .running) hr.in1 I.ok.frames (fun b hb => ⟨?_, live I4v upd_same b hb⟩) k14 os4 (allBare_setGen I4v.bare rfl))
      · obtain ⟨ys, y, H, q1, q2, q3, q4, q5⟩ := z
        exact ⟨ys, y, H, q1, q2, q3, q4, fun s2 nap => hkk _ _ (q5 s2 nap)⟩
      · rcases List.mem_cons.mp hb with rfl | hb
        · exact Nat.le_of_eq hD
        · rw [List.mem_singleton.mp hb, cL, hD]; exact Nat.le_succ _
  exact codeAny_compStart_list loop (wpAny_pyIter_gen hg4 loop)
end
end Gn
set_option autoImplicit false
set_option maxRecDepth 100000
set_option maxHeartbeats 4000000
namespace Gn
open PySem PySem.Spec PyProof.Rows L2 GenW Dv
section
variable {X : Cx} {Pv : List V → V → Hp → Prop} {st : Stmt} {rest : List Stmt} {t t' : TW} {cs : List Addr} {ip : List (Addr × Obj)} {σ : L2.St} {H : Hp} {s1 s : Shared}
theorem Runs1.nox (h : Runs1 X cs ip σ H s1 s) : Runs1 X.nox cs ip σ H s1 s := by
  obtain ⟨ps, e, q, I⟩ := h
  exact ⟨ps, e, q, I.wish _⟩
theorem Runs1.unnox (h : Runs1 X.nox cs ip σ H s1 s) : Runs1 X cs ip σ H s1 s := by
  obtain ⟨ps, e, q, I⟩ := h
  exact ⟨ps, e, q, I.unwish⟩
theorem yp_nox {n : Nat} {sa : Shared} {v : Value} {sb : Shared} {k k' : Resume → Shared → Prop} (hk : ∀ r s', k r s' → k' r s') (h : YP X cs Pv n sa v sb k) : YP X.nox cs Pv n sa v sb k' := by
  obtain ⟨ys, x, ip, σ, H, e1, e2, e3, R, e4⟩ := h
  exact ⟨ys, x, ip, σ, H, e1, e2, e3, R.nox, fun s2 z => hk _ _ (e4 s2 z)⟩
theorem yp_unnox {n : Nat} {sa : Shared} {v : Value} {sb : Shared} {k k' : Resume → Shared → Prop} (hk : ∀ r s', k r s' → k' r s') (h : YP X.nox cs Pv n sa v sb k) : YP X cs Pv n sa v sb k' := by
  obtain ⟨ys, x, ip, σ, H, e1, e2, e3, R, e4⟩ := h
  exact ⟨ys, x, ip, σ, H, e1, e2, e3, R.unnox, fun s2 z => hk _ _ (e4 s2 z)⟩
theorem gss1_nox (h : GSs1 X.nox Pv rest t) : GSs1 X Pv rest t := ⟨fun A cs ip R n ys s1 c fs K J gd lv s σ H D g hn k hI ht => by
  refine seg_imp (R := R) (Y := YP X.nox cs Pv) (fun _ _ _ _ z => z) (fun n sa v sb kap kap' hkk z => yp_unnox hkk z) n ?_
  refine h.does A cs ip R n ys s1 c fs K J gd lv s σ H D ⟨⟨g.far.young, g.far.loc, g.far.cells, g.far.pn⟩, g.ip, g.over, g.split, g.guard, g.gd⟩ hn ⟨fun n ys s1 s f hn z => ?_, fun _ _ _ _ z => z.elim⟩ hI.nox ht
  refine seg_imp (R := R) (Y := YP X cs Pv) (fun _ _ _ _ z => z) (fun n sa v sb kap kap' hkk z => yp_nox hkk z) n (k.ok n ys s1 s f hn ?_)
  match f, z with
  | .next, z => obtain ⟨σ, H, R, q⟩ := z; exact ⟨σ, H, R.unnox, q⟩
  | .brk, z => obtain ⟨σ, H, R, q⟩ := z; exact ⟨σ, H, R.unnox, q⟩
  | .cont, z => obtain ⟨σ, H, R, q⟩ := z; exact ⟨σ, H, R.unnox, q⟩
  | .ret u, z => obtain ⟨v, σ, H, R, r, q⟩ := z; exact ⟨v, σ, H, R.unnox, r, q⟩⟩
theorem gss1_weak (h : GSs1 X Pv rest t) (w : ∀ D ys σ H, t' D ys σ H → t D ys σ H) : GSs1 X Pv rest t' := ⟨fun A cs ip R n ys s1 c fs K J gd lv s σ H D g hn k hI ht => h.does A cs ip R n ys s1 c fs K J gd lv s σ H D g hn k hI (w _ _ _ _ ht)⟩
theorem gss1_any : GSs1 X Pv rest (fun D ys σ H => ∃ t, GSs1 X Pv rest t ∧ t D ys σ H) := ⟨fun A cs ip R n ys s1 c fs K J gd lv s σ H D g hn k hI ht => by
  obtain ⟨t, h, ht⟩ := ht
  exact h.does A cs ip R n ys s1 c fs K J gd lv s σ H D g hn k hI ht⟩
end
def PlV (d : Dt) (x : V) : Prop := ∀ (K : PySem.W.Frag) (T : Ct) (G : Hp), Rep K T G d x
def Flat (d : Dt) : Prop := ∀ (K : PySem.W.Frag) (T : Ct) (G : Hp) (v : V), Rep K T G d v → PlV d v
theorem flat_str {x : Str} : Flat (.str x) := fun K T G v h => by cases h; exact fun _ _ _ => .str
def PvD (its : List Dt) : List V → V → Hp → Prop := fun ys x _ => ∃ d, its[ys.length]? = some d ∧ PlV d x
section
variable {c : Dv.Ctx} {X : Cx} {its : List Dt} {ss rest body : List Stmt} {st st1 st2 st' : Store} {i j : Nat} {s : Stmt} {e t : Expr} {pos yp : Pos} {d : Dt}
def tY (c : Dv.Ctx) (st : Store) (i : Nat) (st' : Store) (j : Nat) : TW := fun D ys σ H => ys.length = i ∧ ∃ G, En c.K c.T c.pa G H σ st ∧
  ∀ ys' σ' G' H', ys'.length = j → Gr G H G' H' (own σ st) (own σ' st') → En c.K c.T c.pa G' H' σ' st' → D.nx ys' σ' H'
structure XY (c : Dv.Ctx) (X : Cx) (its : List Dt) (ss : List Stmt) (st : Store) (i : Nat) (st' : Store) (j : Nat) : Prop where
  gs : GSs1 X (PvD its) ss (tY c st i st' j)
theorem xy_nil : XY c X its [] st i st i := ⟨gss1_weak gss1_nil fun D ys σ H ⟨hl, G, E, k⟩ => k ys σ G H hl Gr.refl E⟩
theorem xy_plain (h1 : XP c X s st (.nx st1)) (h2 : XY c X its rest st1 i st' j) : XY c X its (s :: rest) st i st' j :=
  ⟨gss1_weak (gss1_cons (gs1_of h1.ps) h2.gs) fun D ys σ H ⟨hl, G, E, k⟩ => ⟨G, E, fun σ1 G1 H1 g1 E1 => ⟨hl, G1, E1, fun ys' σ' G' H' hj g' E' => k ys' σ' G' H' hj (g1.trans g') E'⟩⟩⟩
theorem xy_yield (h1 : XD c X e st d st1) (hd : its[i]? = some d) (hf : Flat d) (hi : i < 1000000) (h2 : XY c X its rest st1 (i + 1) st' j) (hco : X.env.scope.isCoroutine = false := by rfl) (hit : interactive X.env = false := by rfl) :
    XY c X its (.Expr (.Yield (some e) yp) pos :: rest) st i st' j :=
  ⟨gss1_weak (gss1_cons (gs1_yield (Pv := PvD its) h1.pe hco hit) h2.gs) fun D ys σ H ⟨hl, G, E, k⟩ =>
    ⟨by rw [hl]; exact Nat.lt_of_lt_of_le hi (by decide), G, E, fun x G1 H1 g1 E1 r1 => ⟨⟨d, by rw [hl]; exact hd, hf _ _ _ _ r1⟩, by rw [List.length_append, hl]; rfl, G1, E1, fun ys' σ' G' H' hj g' E' => k ys' σ' G' H' hj (g1.trans g') E'⟩⟩⟩
theorem xy_while (S : Nat → Store) (I : Nat → Nat) (n : Nat) (hb : ∀ m, m < n → ∃ s1, XT c X t (S m) true s1 ∧ XY c X its body s1 (I m) (S (m + 1)) (I (m + 1))) (he : XT c X t (S n) false st1) (h2 : XY c X its rest st1 (I n) st' j)
    (hp : PassesOwn (model X.prog X.w) X.A X.env X.xe := by exact PassesOwn.never) : XY c X its (.While t body [] pos :: rest) (S 0) (I 0) st' j :=
  ⟨gss1_weak (gss1_cons (gs1_while hp (pt_any (c := c)) gss1_any) h2.gs) fun D ys0 σ0 H0 ⟨hl, G, E, k⟩ => by
    refine ⟨fun m ys σ H => ∃ q, q ≤ n ∧ m = n - q ∧ ys.length = I q ∧ ∃ G', Gr G H0 G' H (own σ0 (S 0)) (own σ (S q)) ∧ En c.K c.T c.pa G' H σ (S q), ⟨n, 0, Nat.zero_le _, rfl, hl, G, Gr.refl, E⟩, ?_⟩
    rintro m ys σ H ⟨q, hq, rfl, hy, G', g', E'⟩
    by_cases hlt : q < n
    · obtain ⟨s1, ht, hx⟩ := hb q hlt
      refine ⟨_, _, _, ht, G', E', fun G1 H1 g1 E1 => ?_⟩
      refine L2.iteT ?_
      refine ⟨fun zs σ2 H2 => zs.length = I (q + 1) ∧ ∃ G2, Gr G H0 G2 H2 (own σ0 (S 0)) (own σ2 (S (q + 1))) ∧ En c.K c.T c.pa G2 H2 σ2 (S (q + 1)), fun zs σ2 H2 ⟨z1, z2⟩ => ⟨n - (q + 1), by omega, q + 1, hlt, rfl, z1, z2⟩, _, hx.gs, hy, G1, E1, fun ys' σ' G5 H5 hj g5 E5 => ⟨hj, G5, (g'.trans g1).trans g5, E5⟩⟩
    · have e : q = n := by omega
      subst e
      refine ⟨_, _, _, he, G', E', fun G1 H1 g1 E1 => ?_⟩
      refine L2.iteF ?_
      exact ⟨hy, G1, E1, fun ys' σ' G5 H5 hj g5 E5 => k ys' σ' G5 H5 hj ((g'.trans g1).trans g5) E5⟩⟩
/-- read forward -/
def WY (c : Dv.Ctx) (X : Cx) (its : List Dt) (ss : List Stmt) (st : Store) (i : Nat) (Q : Store → Nat → Prop) : Prop := ∃ st' j, XY c X its ss st i st' j ∧ Q st' j
variable {Q : Store → Nat → Prop}
theorem wy_nil (h : Q st i) : WY c X its [] st i Q := ⟨_, _, xy_nil, h⟩
theorem wy_set (k : Nat) {x : Str} {pos' : Pos} (hN : X.N.Nodup) (h : WE c X e st fun d st1 => WY c X its rest (st1.set k (some (.fr d))) i Q) (hi : X.N[k]? = some x := by rfl) (hx : Loc X.env.scope x := by first | exact Or.inl rfl | exact Or.inr rfl) (hs : swapsWith e (some (.Name x pos')) pos.line X.env = pure false := by rfl)
    (hf : X.fn x = true ∨ X.env.scope.names.lookup x = some .local := by first | exact .inl rfl | exact .inr rfl | assumption) : WY c X its (.Assign [.Name x pos'] e pos :: rest) st i Q := by
  obtain ⟨d, st1, h1, st', j, h2, h3⟩ := h
  exact ⟨st', j, xy_plain (xp_set k hN h1 hi hx hs hf) h2, h3⟩
theorem wy_yield (h : WE c X e st fun d st1 => its[i]? = some d ∧ Flat d ∧ i < 1000000 ∧ WY c X its rest st1 (i + 1) Q) (hco : X.env.scope.isCoroutine = false := by rfl) (hit : interactive X.env = false := by rfl) : WY c X its (.Expr (.Yield (some e) yp) pos :: rest) st i Q := by
  obtain ⟨d, st1, h1, hd, hf, hi, st', j, h2, h3⟩ := h
  exact ⟨st', j, xy_yield h1 hd hf hi h2 hco hit, h3⟩
theorem wy_while (S : Nat → Store) (I : Nat → Nat) (n : Nat) (h0 : st = S 0) (i0 : i = I 0) (hb : ∀ m, m < n → WT c X t (S m) fun r st1 => r = true ∧ WY c X its body st1 (I m) fun st2 j => st2 = S (m + 1) ∧ j = I (m + 1)) (he : WT c X t (S n) fun r st1 => r = false ∧ WY c X its rest st1 (I n) Q)
    (hp : PassesOwn (model X.prog X.w) X.A X.env X.xe := by exact PassesOwn.never) : WY c X its (.While t body [] pos :: rest) st i Q := by
  subst h0 i0
  obtain ⟨r, st1, h1, rfl, st', j, h2, h3⟩ := he
  refine ⟨st', j, xy_while S I n (fun m hm => ?_) h1 h2 hp, h3⟩
  obtain ⟨r, s1, q1, rfl, st2, j2, q2, rfl, rfl⟩ := hb m hm
  exact ⟨s1, q1, q2⟩
end
def spY (K : PySem.W.Frag) (T : Ct) (R : List Dt → List Dt → Prop) : SpG1 := fun vs H Pv Q => ∃ G ds its, Ex G H ∧ Reps K T G ds vs ∧ R ds its ∧ Pv = PvD its ∧
  ∀ ys G' H', ys.length = its.length → Gr G H G' H' (fun _ => False) (fun _ => False) → Ex G' H' → Q ys H'
theorem okY {P : Program} {w : World} {K : PySem.W.Frag} {T : Ct} {mg : Str → Option Value} {base : Heap} {x qual : Str} {sd : Stmt} {f : Addr} {fd : FuncData} {N ps : List Str} {k : Nat} {R : List Dt → List Dt → Prop} (F : L2.Fun K x qual sd f fd) (S : GScope N ps (defScope sd))
    (hl : ∀ ds its, R ds its → ds.length = ps.length)
    (body : ∀ (cdv : Value) (A : Around) (outer : List Env) (s : Shared) (H : Hp) (pn : List (Addr × Obj)) (pa : Nat → Addr) (ds its : List Dt), Room k (A.deeper (envOfC qual (defScope sd) s.heap.objs.size f cdv)) → R ds its →
      WY ⟨K, T, pa⟩ (gcxOf P w K mg base N qual (defScope sd) f cdv A outer s H noX pn).nox its (defBody sd) (st0 N ds) 0 fun _ j => j = its.length) : GFn1 P w K mg base (k + 1) f fd ps (spY K T R) := by
  obtain ⟨oc, od, kV, doc, pm, an, cdv, ct, osl, rfl, lk, hcd⟩ := F.ex
  refine gfn1_of lk hcd S (fun vs H Pv Q h => ?_) fun A outer s H vs Pv Q pn hr h => ?_
  · obtain ⟨G, ds, its, e, rs, hR, _⟩ := h
    rw [← rs.length]; exact hl ds its hR
  · obtain ⟨G, ds, its, e, rs, hR, rfl, kk⟩ := h
    obtain ⟨st', j, hb, rfl⟩ := body cdv A outer s H pn (fun _ => 0) ds its hr hR
    exact ⟨_, gss1_nox hb.gs, rfl, G, En.start e rs, fun ys' σ' G' H' hj g E' => kk ys' G' H' hj ((g.weakO (fun p h => h.elim)).fromO fun p h => own_start h) E'.ex⟩
section
variable {X : Cx} {k : Nat} {f C : Addr} {fd : FuncData} {ps : List Str} {sp : SpG1} {o : Expr} {ta : TE} {m : Str} {apos pos' p : Pos} {x : Str}
theorem run_gfn1 {pins : List (Addr × Obj)} {σ : L2.St} {H : Hp} {s : Shared} {us : List Value} {vs : List V} {Pv : List V → V → Hp → Prop} {Q : List V → Hp → Prop} {E1 : Value → Shared → Prop} (F : GFn1 X.prog X.w X.K X.mg X.base k f fd ps sp) (hr : Room k X.A) (hb : Binds X.K fd ps [])
    (I : Inv X pins σ H s) (r : Vals vs us) (h : sp vs H Pv Q) :
    wpAny (model X.prog X.w) X.A (call (.ref f) us) (fun u s' => ∃ H1 sc, Inv X pins σ H1 sc ∧ Made1 X.prog X.w k X.stack H1 sc Pv Q u s') E1 s := by
  have hl2 : us.length = ps.length := by rw [← r.length]; exact F.len _ _ _ _ h
  have hl3 : (us ++ ([] : List Value)).length = ps.length := by rw [List.append_nil]; exact hl2
  have b := hb s us I.kIn hl3
  rw [List.append_nil] at b
  refine wpAny_call (codeAny_mono (F.run X.A X.stack s H ⟨us, []⟩ us vs Pv Q hr I.env0 b r h) fun r s' hq => ?_)
  cases r with
  | error e => exact False.elim hq
  | ok fl =>
    cases fl with
    | ret u => exact ⟨H, s, I, hq⟩
    | next => exact False.elim hq
    | brk => exact False.elim hq
    | cont => exact False.elim hq
def tMethG1 (C : Addr) (m : Str) (sp : SpG1) (ta : TE) (t : TA) : TGen1 := fun σ H Pv Q => ta σ H fun x H1 => ∃ a dx fs, x = .ref a ∧ H1 a = some (.ins C dx fs) ∧ fs.lookup m = none ∧ t σ H1 fun vs H2 => sp (x :: vs) H2 Pv Q
theorem pgen1_meth {pl : Sem Bool} {e : Expr} {es : List Expr} {t : TA} (he : PE X o ta) (c : Cls X.K C) (hm : Meth X.K C m f) (F : GFn1 X.prog X.w X.K X.mg X.base k f fd ps sp) (hr : Room k X.A) (hb : Binds X.K fd ps []) (ha : PA X (e :: es) t)
    (hst : starEach (e :: es) X.env = (false, eval e X.env) :: starEach es X.env := by rfl) (hpl : (backTo pos' (starEach es X.env)).any (·.1) = false := by rfl)
    (ht : eval (.Call (.Attribute o m apos) (e :: es) [] pos') X.env = (do
      let ov ← eval o X.env
      standAt apos.atName
      let (f, first) ← holding [ov] (getMethod ov m pl)
      callWith pos' f first (backTo pos' (starEach (e :: es) X.env)) (backToKw pos' (keywordEach [] X.env))) := by rfl) :
    PGen1 X k (.Call (.Attribute o m apos) (e :: es) [] pos') (tMethG1 C m sp ta t) := by
  refine ⟨fun pins s σ H Pv Q I h => ?_⟩
  refine PySem.W.methodCall_KW (pl := pl) (thn (he.run pins s σ H _ I h) fun u s1 ⟨x, H1, I1, rx, a, dx, fs, ex, ea, l, q⟩ => ?_) ht
  subst ex
  obtain rfl : u = Value.ref a := rx
  refine getmeth_ok I1 ea c hm l ?_
  refine PySem.W.callWith_K (first := [.ref a]) (h₀ := X.base) I.ok.mod.kin hm.kp (thn (ha.run pos' pins s1 σ H1 _ I1 q) fun us s2 ⟨vs, H2, I2, r, q2⟩ => ⟨I2.kIn, ?_⟩) hst hpl
  exact run_gfn1 (us := .ref a :: us) (vs := .ref a :: vs) F hr hb I2 (.cons rfl r) q2
end
end Gn
set_option autoImplicit false
set_option maxRecDepth 100000
set_option maxHeartbeats 4000000
namespace Gn
open PySem PySem.Spec PyProof.Rows L2 GenW Dv
/-- the generator method m of the class at C hands out R of its arguments -/
structure GM (P : Program) (w : World) (K : PySem.W.Frag) (T : Ct) (mg : Str → Option Value) (base : Heap) (C : Addr) (m : Str) (k : Nat) (R : List Dt → List Dt → Prop) : Prop where
  ex : ∃ f fd ps, GFn1 P w K mg base k f fd ps (spY K T R) ∧ Meth K C m f ∧ Binds K fd ps []
section
variable {c : Dv.Ctx} {X : Cx} {st st1 st2 : Store} {e b : Expr} {es : List Expr} {d : Dt} {ds its fs : List Dt} {n k : Nat} {pos p : Pos} {G H : Hp} {σ : L2.St}
/-- what the list's place is told -/
theorem gen_tell {Q : VK} {G1 H1 : Hp} (hsub : its.length ≤ 100000) (E : En c.K c.T c.pa G1 H1 σ st1) (kk : ∀ p vs G' H', Gr G1 H1 G' H' (own σ st1) (own σ st1) → En c.K c.T c.pa G' H' σ st1 → ¬ own σ st1 p → H1 p = none → G' p = none → H' p = some (.lst vs) → Reps c.K c.T G' its vs → Q (.ref p) H') :
    ∀ (ys : List V) (G' H' : Hp), ys.length = its.length → Gr G1 H1 G' H' (fun _ => False) (fun _ => False) → Ex G' H' → ∀ zs : List V, zs.length = ys.length → (∀ (i : Nat) (x : V), zs[i]? = some x → ∃ d : Dt, its[i]? = some d ∧ PlV d x) → ∀ D, H' D = none → Q (.ref D) (upd H' D (.lst zs)) := fun ys G' H' hl g e' zs hz hP D hD => by
  have g1 := gw_of g e'
  have E1 := E.g1 g1
  obtain ⟨E2, g2⟩ := E1.lay (o := .lst zs) hD
  have gr : Gr G1 H1 G' H' (own σ st1) (own σ st1) := g1.gr
  refine kk D zs G' _ (gr.trans g2) E2 (E1.notOwn hD) (gr.none hD) (E1.ex.none hD) upd_same ?_
  have go : ∀ (its : List Dt) (zs : List V), zs.length = its.length → (∀ (i : Nat) (x : V), zs[i]? = some x → ∃ d : Dt, its[i]? = some d ∧ PlV d x) → Reps c.K c.T G' its zs := fun its => by
    induction its with
    | nil => intro zs hl _; rw [List.length_nil] at hl; rw [List.length_eq_zero_iff.mp hl]; exact .nil
    | cons d its ih =>
      intro zs hl h
      cases zs with
      | nil => cases hl
      | cons z zs =>
        obtain ⟨d', q1, q2⟩ := h 0 z rfl
        cases q1
        exact .cons (q2 _ _ _) (ih zs (Nat.succ.inj hl) fun i x q => h (i + 1) x q)
  exact go its zs (hz.trans hl) hP
theorem xl_genM {x : Str} {px px2 pos' apos : Pos} {jx : Nat} {scope : Scope} {pl : Sem Bool} {R : List Dt → List Dt → Prop} {cx m : Str} {C : Addr} {ns : List Str} (jx' : Nat) (hj : jx' = jx) (hN : X.N.Nodup) (ho : XD c X b st (.obj n fs) st1) (Qc : CF X.K c.T X.mg cx n C ns) (F : GM X.prog X.w X.K c.T X.mg X.base C m k R) (hK : X.K = c.K) (hr : Room (k + 1) X.A)
    (h : XA c X (e :: es) st1 ds st2) (hR : R (.obj n fs :: ds) its) (hsz : its.length ≤ 100000) (hcm : X.calm = true := by rfl) (hno : ns.contains m = false := by decide +kernel)
    (ok : BlkOk X.N X.env.scope scope [(x, jx)] := by exact blkOk_by (by first | rfl | decide +kernel)) (hx : X.N[jx]? = some x := by rfl) (hxs : (relS scope X.env.scope).names.lookup x = some .local := by first | rfl | decide +kernel)
    (hcl : ∀ n, cellsFrom n scope.names (cloFrom X.env.cells scope.names []) = [] := by intro _; rfl) (hdb : (x == ("__debug__" : Str)) = false := by decide)
    (hst : starEach (e :: es) X.env = (false, eval e X.env) :: starEach es X.env := by rfl) (hpl : (backTo pos (starEach es X.env)).any (·.1) = false := by rfl)
    (ht : eval (.Call (.Attribute b m apos) (e :: es) [] pos) X.env = (do
      let ov ← eval b X.env
      standAt apos.atName
      let (f, first) ← holding [ov] (getMethod ov m pl)
      callWith pos f first (backTo pos (starEach (e :: es) X.env)) (backToKw pos (keywordEach [] X.env))) := by rfl)
    (hs : ∀ y, foldedSetIterable (.Call (.Attribute b m apos) (e :: es) [] pos) X.env y = pure y := by intro _; rfl) :
    XL c X (.ListComp (.Name x px) [⟨.Name x px2, .Call (.Attribute b m apos) (e :: es) [] pos, [], 0⟩] scope pos') st its st2 := by
  obtain ⟨f, fd, ps, F, hm, hb⟩ := F.ex
  refine ⟨pe_weak (pe_compG hcm hN hr (pgen1_meth ho.pe Qc.cl hm F (hr.mono (Nat.le_succ k)) hb h.pa hst hpl ht) ok hx hxs hcl hs hdb) fun σ H Q ⟨G, E, kk⟩ => ⟨fun i x => ∃ d, its[i]? = some d ∧ PlV d x, G, E, fun v G1 H1 g1 E1 r1 => ?_⟩⟩
  obtain ⟨C1, ns1, p, dx, vs, rfl, q1, q2, q3, q4⟩ := id r1.obj_inv
  rw [Qc.at_] at q1
  cases q1
  refine ⟨p, dx, _, rfl, E1.ex _ _ q2, lookup_notin hno, G1, E1, fun ws G2 H2 g2 E2 r2 => ?_⟩
  rw [hK]
  refine ⟨G2, .obj n fs :: ds, its, E2.ex, .cons (r1.ex g2.ex) r2, hR, rfl, gen_tell hsz E2 fun p vs G' H' g E' n1 n2 n3 n4 r => kk p vs G' H' ((g1.trans g2).trans g) E' ?_ ?_ n3 n4 r⟩
  · exact n1
  · exact (g1.trans g2).none n2
/-- read forward -/
theorem wl_genM {x : Str} {px px2 pos' apos : Pos} (jx : Nat) {scope : Scope} {pl : Sem Bool} {R : List Dt → List Dt → Prop} {cx m : Str} {C : Addr} {ns : List Str} {Q : List Dt → Store → Prop} (hN : X.N.Nodup) (Qc : CF X.K c.T X.mg cx n C ns) (F : GM X.prog X.w X.K c.T X.mg X.base C m k R) (hK : X.K = c.K) (hr : Room (k + 1) X.A)
    (h : WE c X b st fun d st1 => ∃ fs, d = .obj n fs ∧ WA c X (e :: es) st1 fun ds st2 => ∃ its, R (.obj n fs :: ds) its ∧ its.length ≤ 100000 ∧ Q its st2) (hcm : X.calm = true := by rfl) (hno : ns.contains m = false := by decide +kernel)
    (ok : BlkOk X.N X.env.scope scope [(x, jx)] := by exact blkOk_by (by first | rfl | decide +kernel)) (hx : X.N[jx]? = some x := by rfl) (hxs : (relS scope X.env.scope).names.lookup x = some .local := by first | rfl | decide +kernel)
    (hcl : ∀ n, cellsFrom n scope.names (cloFrom X.env.cells scope.names []) = [] := by intro _; rfl) (hdb : (x == ("__debug__" : Str)) = false := by decide)
    (hst : starEach (e :: es) X.env = (false, eval e X.env) :: starEach es X.env := by rfl) (hpl : (backTo pos (starEach es X.env)).any (·.1) = false := by rfl)
    (ht : eval (.Call (.Attribute b m apos) (e :: es) [] pos) X.env = (do
      let ov ← eval b X.env
      standAt apos.atName
      let (f, first) ← holding [ov] (getMethod ov m pl)
      callWith pos f first (backTo pos (starEach (e :: es) X.env)) (backToKw pos (keywordEach [] X.env))) := by rfl)
    (hs : ∀ y, foldedSetIterable (.Call (.Attribute b m apos) (e :: es) [] pos) X.env y = pure y := by intro _; rfl) :
    WL c X (.ListComp (.Name x px) [⟨.Name x px2, .Call (.Attribute b m apos) (e :: es) [] pos, [], 0⟩] scope pos') st Q := by
  obtain ⟨d, st1, h1, fs, rfl, ds, st2, h2, its, hR, hsz, q⟩ := h
  exact ⟨its, st2, xl_genM jx rfl hN h1 Qc F hK hr h2 hR hsz hcm hno ok hx hxs hcl hdb hst hpl ht hs, q⟩
end
end Gn
set_option autoImplicit false
set_option maxRecDepth 100000
set_option maxHeartbeats 4000000
namespace Gn
open PySem PySem.Spec PyProof.Rows L2 GenW Dv
section
variable {prog : Program} {w : World} {A : Around} {E : Value → Shared → Prop} {s : Shared}
theorem join_rev {x : Str} {t : Tok} {it l : Addr} {items : Array Value} {ys : List Str} {Q : Value → Shared → Prop} (hh : A.handled = none) (hit : s.heap.IsRevIter it l ((items.size : Int) - 1)) (hl : s.heap.IsList l items) (hne : l ≠ it) (hn : items.size ≤ sizeLine)
    (hP : ∀ acc : Array Value, ItemsOf (fun i v => items[items.size - 1 - i]? = some v) acc items.size → StrsAre acc.toList ys) (hok : (ys.map (·.length)).sum + ys.length * x.length ≤ 16777216)
    (hq : ∀ (h' : Heap) (tk : Nat), (∀ b o, b ≠ it → s.heap.get? b = some o → h'.get? b = some o) → ∀ t' k, Q (.str (Txt.join x ys) t') { s with heap := h', toks := k }) :
    wpAny (model prog w) A (call (.builtin "str.join") [.str x t, .ref it]) Q E s := by
  refine wpAny_call (codeAny_call_builtin F.slot_str_join.plain F.entry_str_join (F.slot_str_join.check _ _ _ _ _ _ _ _ (typeIs_str _ _ _) (F.args_str_join_2 _ _) ?_))
  rw [join_tree_other]
  have hT : s.TypeIs (.ref it) "list_reverseiterator" := by
    obtain ⟨o, ho, hc, _⟩ := id hit
    exact ⟨o, ho, hc⟩
  refine wpAny_bind (wpAny_typeOf hT ?_)
  show wpAny _ A.in1 ((pyIter (.ref it)).tryCatch _ >>= fun it => collect it >>= fun items => joinTail x items) _ _ s
  refine wpAny_bind (wpAny_tryCatch (wpAny_pyIter_revIter hit ?_))
  refine wpAny_bind (RT.collect_rev (A := A.in1) hh hit hl hne hn (fun h' tk acc hk hacc => ?_))
  obtain ⟨l, hl, ht⟩ := strsAre_values (hP acc hacc)
  subst ht
  rw [hl]
  have hok' := joinOk_of hok
  unfold JoinOk at hok'
  rw [Bool.not_eq_true'] at hok'
  have g : Gives (joinTail x (strValues l)) (joinMade x l) := by
    have g0 := gives_joinTail x l hok'
    cases l with
    | nil => exact g0
    | cons p r => cases r with
      | nil => exact g0
      | cons q r' => exact g0
  exact g prog w A (wants Q E) { s with heap := h', toks := tk } (post_join l ⟨joinFit_length hok', fun t' k => hq h' tk hk t' k⟩)
end
section
variable {X : Cx}
def tJoinRev (K : PySem.W.Frag) (to te : TE) : TE := fun σ H Q => to σ H fun x H1 => (∃ a, x = .str a) ∧ te σ H1 fun v H2 => ∃ (a : Str) (q : Addr) (ys : List Str),
  x = .str a ∧ v = .ref q ∧ SqL K H2 q (ys.map V.str) ∧ (ys.map (·.length)).sum + ys.length * a.length ≤ 16777216 ∧ Q (.str (Txt.join a ys.reverse)) H2
theorem strs_vals : ∀ {ys : List Str} {us : List Value}, Vals (ys.map V.str) us → StrsAre us ys
  | [], _, .nil => .nil
  | y :: ys, _, .cons r t => by
    obtain ⟨k, rfl⟩ := r
    exact .cons y k (strs_vals t)
theorem pe_joinRev {o e : Expr} {to te : TE} {apos pos p pos2 : Pos} (hc : X.calm = true) (ho : PE X o to) (hg : Gl X "reversed") (hm : X.mg "reversed" = none) (he : PE X e te)
    (hs : starEach [e] X.env = (false, eval e X.env) :: starEach [] X.env := by rfl)
    (hs1 : starEach [.Call (.Name "reversed" p) [e] [] pos2] X.env = [(false, eval (.Call (.Name "reversed" p) [e] [] pos2) X.env)] := by rfl)
    (hbase : attributeBase o "join" X.env (eval o X.env) = eval o X.env := by rfl) (hline : (apos.endLine == pos.line) = true := by rfl) :
    PE X (.Call (.Attribute o "join" apos) [.Call (.Name "reversed" p) [e] [] pos2] [] pos) (tJoinRev X.K to te) := by
  refine ⟨fun pins s σ H Q I h => ?_⟩
  refine PySem.Call_method1 hbase hs1 hline (thn (ho.run pins s σ H _ I h) fun v s1 ⟨x, H1, I1, r1, q1⟩ => ?_)
  obtain ⟨⟨a, rfl⟩, q1⟩ := q1
  obtain ⟨t, rfl⟩ := _root_.id r1
  refine ⟨"str", _, F.plainAttrs_str, F.slot_str_join, F.type_str_join, typeIs_str _ _ _, (fun _ e => nomatch e), Calls.callWith_builtin rfl (Calls.evalArgs_plain (Calls.spliced_cons ?_))⟩
  refine Call_ (ld_blt I1 hg hm PyProof.Rows.boot_reversed (PyProof.Rows.callWith_type1 (args_cons (thn (he.run pins s1 σ H1 _ I1 q1) fun u s2 ⟨v, H2, I2, r2, q2⟩ => args_nil ?_) hs) hs rfl))
  obtain ⟨a', q, ys, ea, ev, hq, hz, q3⟩ := q2
  cases ea
  subst ev
  obtain rfl : u = Value.ref q := r2
  obtain ⟨its, rv, pl, hsz⟩ := I2.list hq
  have hl := pl.isList
  refine call_reversed_list hl (Calls.spliced_nil ?_)
  have k0 : ∀ b o, s2.heap.get? b = some o → (s2.heap.push (revObj q ((its.toArray.size : Int) - 1))).get? b = some o := fun b o e => Heap.get?_push_of_some _ e
  have I3 : Inv X pins σ H2 { s2 with heap := s2.heap.push (revObj q ((its.toArray.size : Int) - 1)) } := I2.kept (t' := s2.toks) k0
  obtain ⟨f0, f1, f2, f3, f4, f5⟩ := I2.fpOk (H' := H2) (b := s2.heap.objs.size) (Nat.le_refl _) (I2.hok.fresh (Nat.le_refl _))
  obtain ⟨ol, hol, _⟩ := id hl
  have hne : q ≠ s2.heap.objs.size := Nat.ne_of_lt (Heap.lt_size hol)
  have hn : its.toArray.size ≤ sizeLine := by rw [List.size_toArray, ← rv.length]; exact hsz
  refine join_rev (x := a) (t := t) (ys := ys.reverse) (Q := EP X pins σ Q) (s := { s2 with heap := s2.heap.push (revObj q ((its.toArray.size : Int) - 1)) }) (I2.ok.hd hc) ⟨_, Heap.get?_push_size _ rfl, rfl, rfl⟩ (hl.push _) hne hn
    (fun acc hacc => strs_vals (by rw [List.map_reverse]; exact RT.vals_rev rv hacc)) (by rw [List.map_reverse, List.sum_reverse, List.length_reverse]; exact hz)
    fun h' tk hk t' k => ⟨.str _, H2, I3.turned (t' := k) (fun b o hb e => hk b o hb e) f0 f1 f3 f4 f5, ⟨t', rfl⟩, q3⟩
end
section
variable {c : Dv.Ctx} {X : Cx} {st st1 st2 : Store} {o e : Expr} {apos pos p pos2 : Pos} {l : List Nat}
theorem xd_joinRev1 (ho : XD c X o st (.str (sx [])) st1) (he : XD c X e st1 (.lst (l.map fun q => .str (sx [q]))) st2) (hz : l.length ≤ 100000) (hK : X.K = c.K) (hm : X.mg "reversed" = none) (hc : X.calm = true := by rfl) (hg : Gl X "reversed" := by rfl)
    (hs : starEach [e] X.env = (false, eval e X.env) :: starEach [] X.env := by rfl) (hs1 : starEach [.Call (.Name "reversed" p) [e] [] pos2] X.env = [(false, eval (.Call (.Name "reversed" p) [e] [] pos2) X.env)] := by rfl)
    (hbase : attributeBase o "join" X.env (eval o X.env) = eval o X.env := by rfl) (hline : (apos.endLine == pos.line) = true := by rfl) :
    XD c X (.Call (.Attribute o "join" apos) [.Call (.Name "reversed" p) [e] [] pos2] [] pos) st (.str (sx l.reverse)) st2 :=
  ⟨pe_weak (pe_joinRev hc ho.pe hg hm he.pe hs hs1 hbase hline) fun σ H Q ⟨G, E, k⟩ => by
    refine ⟨G, E, fun x G1 H1 g1 E1 r1 => ?_⟩
    cases r1
    refine ⟨⟨_, rfl⟩, G1, E1, fun y G2 H2 g2 E2 r2 => ?_⟩
    cases r2 with
    | lst ha rs =>
      have ev := reps_signsV rs
      subst ev
      refine ⟨sx [], _, _, rfl, rfl, by rw [hK]; exact E2.ex.sl (SqL.of ha), ?_, ?_⟩
      · rw [sum_signs, List.length_map, sx_len]
        simp; omega
      · rw [← List.map_reverse, join_signs]
        exact k _ G2 H2 (g1.trans g2) E2 .str⟩
theorem we_joinRev1 {Q : Dt → Store → Prop} (hK : X.K = c.K) (hm : X.mg "reversed" = none) (h : WE c X o st fun d st1 => d = .str (sx []) ∧ WE c X e st1 fun d2 st2 => ∃ l : List Nat, d2 = .lst (l.map fun q => .str (sx [q])) ∧ l.length ≤ 100000 ∧ Q (.str (sx l.reverse)) st2) (hc : X.calm = true := by rfl) (hg : Gl X "reversed" := by rfl)
    (hs : starEach [e] X.env = (false, eval e X.env) :: starEach [] X.env := by rfl) (hs1 : starEach [.Call (.Name "reversed" p) [e] [] pos2] X.env = [(false, eval (.Call (.Name "reversed" p) [e] [] pos2) X.env)] := by rfl)
    (hbase : attributeBase o "join" X.env (eval o X.env) = eval o X.env := by rfl) (hline : (apos.endLine == pos.line) = true := by rfl) :
    WE c X (.Call (.Attribute o "join" apos) [.Call (.Name "reversed" p) [e] [] pos2] [] pos) st Q := by
  obtain ⟨d, s1, h1, rfl, d2, s2, h2, l, rfl, hz, q⟩ := h
  exact ⟨_, _, xd_joinRev1 h1 h2 hz hK hm hc hg hs hs1 hbase hline, q⟩
end
end Gn
set_option autoImplicit false
set_option maxRecDepth 100000
set_option maxHeartbeats 4000000
namespace Gn
open PySem PySem.Spec PyProof.Rows L2 Dv Builtin Builtin.Str
def rMulY : R2 := fun x y H Q => ∃ (l : List Nat) (n : Int), x = .str (sx l) ∧ y = .int n ∧ 0 ≤ n ∧ n ≤ 1 ∧ l.length ≤ 100000 ∧ Q (.str (sx (List.replicate n.toNat l).flatten)) H
theorem op_mulY {X : Cx} : OpR X (binaryOp .Mult) rMulY := by
  intro pins s σ H x y v u Q I rx ry h
  obtain ⟨l, n, rfl, rfl, h1, h2, h4, q⟩ := h
  obtain ⟨t, rfl⟩ := rx
  obtain ⟨t2, rfl⟩ := ry
  have hm : (l.length : Int) * n ≤ 100000 := by
    have : (l.length : Int) * n ≤ l.length * 1 := Int.mul_le_mul_of_nonneg_left h2 (by omega)
    omega
  refine P.mul_str ?_ (fun _ _ => ?_) (fun _ _ => ?_) ?_
  · have a : decide (n < -(2 ^ 63 : Int)) = false := decide_eq_false (by omega)
    have b : decide (n ≥ 2 ^ 63) = false := decide_eq_false (by omega)
    rw [a, b]; rfl
  · rw [sx_len]
    intro z
    have e : n = 1 ∨ n = 0 := by omega
    rcases e with rfl | rfl
    · rw [Int.ediv_one] at z; omega
    · omega
  · rw [sx_len]
    unfold tooLong
    have e : n.toNat = 0 ∨ n.toNat = 1 := by omega
    have e2 : l.length * n.toNat ≤ 100000 := by rcases e with e | e <;> rw [e] <;> omega
    exact decide_eq_false (by rw [sizeLine_eq]; omega)
  · by_cases h0 : n = 0
    · subst h0
      rw [if_pos (by omega)]
      exact ⟨by decide, .str _, H, I.tok _, ⟨_, rfl⟩, q⟩
    · have e : n = 1 := by omega
      subst e
      rw [if_neg (by omega), if_pos (by simp)]
      have e2 : (List.replicate (1 : Int).toNat l).flatten = l := by show ([l] : List (List Nat)).flatten = l; simp
      rw [e2] at q
      exact ⟨.str _, H, I.tok _, ⟨_, rfl⟩, q⟩
theorem br_mulY {c : Dv.Ctx} {X : Cx} {l : List Nat} {n : Int} {Q : Dt → Prop} (h1 : 0 ≤ n) (h2 : n ≤ 100000) (h3 : l ≠ []) (h5 : l.length ≤ 100000) (h4 : l.length * n.toNat ≤ 100000) (h : Q (.str (sx (List.replicate n.toNat l).flatten))) : BinR c X .Mult (.str (sx l)) (.int n) Q := by
  by_cases h6 : 2 ≤ n
  · exact br_mulX h6 h2 h3 h4 h
  · exact ⟨_, fun _ _ _ _ _ _ ha hb => xd_bin ha hb op_mulY fun G H x y Q' ex r1 r2 kk => by
      cases r1
      cases r2
      exact ⟨l, n, rfl, rfl, h1, by omega, h5, kv_same kk ex .str⟩, h⟩
end Gn
set_option autoImplicit false
set_option maxRecDepth 100000
set_option maxHeartbeats 4000000
set_option exponentiation.threshold 100000
namespace My
open PySem PySem.Spec PyProof.Rows L2 Dv Mq
def topS (i : Nat) : Stmt := PySem.Challenge.pw_wordweight_k08_order_of_words.main.body.getD i (.Pass ⟨0, 0, 0, 0⟩)
open Gn
abbrev sWo : Stmt := inClass (topS 5) 10
/-- the word of a rank, by places: a number whose digits go from 1 to n; d is enough steps -/
def bkN (n : Nat) : Nat → Nat → List Nat
  | 0, _ => []
  | _ + 1, 0 => []
  | d + 1, r + 1 => (r % n) :: bkN n d (r / n)
def wdN (n r : Nat) : List Nat := (bkN n r r).reverse
/-- how many words of length at most m -/
def cnN (n : Nat) : Nat → Nat
  | 0 => 1
  | m + 1 => 1 + n * cnN n m
/-- the word as data -/
def wdD (l : List Nat) (r : Nat) : List Nat := (wdN l.length r).map fun k => l.getD k 0
/-- what the law draws -/
def Sm (n m : Nat) : Prop := 1 ≤ n ∧ n ≤ 4 ∧ m ≤ 4 ∧ (n = 4 → m ≤ 3)
theorem wd_len : ∀ n m, Sm n m → (∀ r, r < cnN n m → (wdN n r).length ≤ m) ∧ m < (wdN n (cnN n m)).length := by
  rintro n m ⟨h1, h2, h3, h4⟩
  have key : ∀ n, n ≤ 4 → ∀ m, m ≤ 4 → 1 ≤ n → (n = 4 → m ≤ 3) → ((List.range (cnN n m)).all fun r => decide ((wdN n r).length ≤ m)) = true ∧ m < (wdN n (cnN n m)).length := by decide +kernel
  obtain ⟨a, b⟩ := key n h2 m h3 h1 h4
  exact ⟨fun r hr => of_decide_eq_true (List.all_eq_true.mp a r (List.mem_range.mpr hr)), b⟩
theorem wd_top : ∀ n m, Sm n m → (wdN n (cnN n m)).length ≤ 100000 := by
  rintro n m ⟨h1, h2, h3, h4⟩
  have key : ∀ n, n ≤ 4 → ∀ m, m ≤ 4 → 1 ≤ n → (n = 4 → m ≤ 3) → (wdN n (cnN n m)).length ≤ 100000 := by decide +kernel
  exact key n h2 m h3 h1 h4
theorem wdD_len {l : List Nat} {r : Nat} : (wdD l r).length = (wdN l.length r).length := by unfold wdD; rw [List.length_map]
theorem cn_small : ∀ n m, Sm n m → cnN n m ≤ 1000 := by
  rintro n m ⟨h1, h2, h3, h4⟩
  have key : ∀ n, n ≤ 4 → ∀ m, m ≤ 4 → cnN n m ≤ 1000 := by decide +kernel
  exact key n h2 m h3
structure Md (K : PySem.W.Frag) (T : Ct) (mg : Str → Option Value) (CA : Addr) : Prop where
  A : CF K T mg "Alphabet" 2 CA ["letters"]
  Al : NoAttr K CA "letters"
  AX : ClsX K CA
  Af : PySem.W.selfFirst K CA = true
  Ane : PySem.W.findIn K (.ref CA) "__ne__" = some (some (.builtin "object.__ne__"))
  Aob : PySem.W.mroIn K CA (.type "object") = some true
  isi : mg "isinstance" = none
  len : mg "len" = none
  str : mg "str" = none
  all : mg "all" = none
  set : mg "set" = none
  lst : mg "list" = none
  ran : mg "range" = none
  int : mg "int" = none
  abs : mg "abs" = none
  min : mg "min" = none
  zip : mg "zip" = none
  rev : mg "reversed" = none
  iter : mg "iter" = none
def RWat (ds : List Dt) (r : Dt) : Prop := ∃ (l : List Nat) (k : Nat), ds = [dA l, .int (k : Int)] ∧ AlOk l ∧ k ≤ 100000 ∧ r = .str (sx (wdD l k))
def RWo (ds its : List Dt) : Prop := ∃ (l : List Nat) (m : Nat), ds = [dA l, .int (m : Int)] ∧ AlOk l ∧ Sm l.length m ∧ its = rg (cnN l.length m) fun r => .str (sx (wdD l r))
section
variable {P : Program} {w : World} {K : PySem.W.Frag} {T : Ct} {mg : Str → Option Value} {base : Heap} {f CA : Addr} {fd : FuncData}
theorem scWo : GScope ["self", "most", "rank", "word"] ["self", "most"] (defScope sWo) := ⟨rfl, rfl, rfl, by decide +kernel, rfl, by decide +kernel, by decide +kernel⟩
theorem ok_Wo (F : Fun K "words" "Alphabet.words" sWo f fd) (D : Md K T mg CA) (Wa : MF P w K T mg base CA "word_at" 1 RWat) : GFn1 P w K mg base 3 f fd ["self", "most"] (spY K T RWo) := by
  refine okY F scWo (fun ds its h => by obtain ⟨_, _, rfl, _⟩ := h; rfl) fun cdv A outer s H pn pa ds its hr hR => ?_
  obtain ⟨l, m, rfl, hl, hs, rfl⟩ := hR
  have hc := cn_small _ _ hs
  have w3 := wd_top _ _ hs
  obtain ⟨w1, w2⟩ := wd_len _ _ hs
  refine wy_set 2 scWo.nd ?_
  refine we_int ?_
  refine wy_set 3 scWo.nd ?_
  refine we_str [] ?_
  refine wy_while (fun r => [some (.fr (dA l)), some (.fr (.int (m : Int))), some (.fr (.int (r : Int))), some (.fr (.str (sx (wdD l r))))]) (fun r => r) (cnN l.length m) rfl rfl (fun r hr' => ?_) ?_
  · have := w1 r hr'
    refine wt_cmp ?_
    refine we_len rfl D.len ?_
    refine we_var 3 rfl ?_
    refine len_x (by rw [wdD_len]; omega) ?_
    refine we_var 1 rfl ?_
    refine cr_le ?_
    refine ⟨?_, ?_⟩
    · have := w1 r hr'
      rw [wdD_len]
      exact decide_eq_true (by omega)
    refine wy_yield ?_
    refine we_var 3 rfl ?_
    refine ⟨rg_at hr', flat_str, by omega, ?_⟩
    refine wy_set 2 scWo.nd ?_
    refine we_bin ?_
    refine we_var 2 rfl ?_
    refine we_int ?_
    refine br_add ?_
    refine wy_set 3 scWo.nd ?_
    refine we_mf D.A Wa rfl (hr.mono (by decide)) ?_
    refine we_var 0 rfl ?_
    refine ⟨_, rfl, ?_⟩
    refine wa_cons ?_
    refine we_var 2 rfl ?_
    refine wa_nil ?_
    refine ⟨_, ⟨l, r + 1, rfl, hl, by omega, rfl⟩, ?_⟩
    exact wy_nil ⟨rfl, rfl⟩
  · refine wt_cmp ?_
    refine we_len rfl D.len ?_
    refine we_var 3 rfl ?_
    refine len_x (by rw [wdD_len]; exact w3) ?_
    refine we_var 1 rfl ?_
    refine cr_le ?_
    refine ⟨?_, ?_⟩
    · rw [wdD_len]
      exact decide_eq_false (by omega)
    exact wy_nil (by rw [rg_len])
end
end My
set_option autoImplicit false
set_option maxRecDepth 100000
set_option maxHeartbeats 4000000
set_option exponentiation.threshold 100000
namespace My
open PySem PySem.Spec PyProof.Rows L2 Dv Mq
open Gn
abbrev sAI : Stmt := inClass (topS 5) 0
abbrev sAL : Stmt := inClass (topS 5) 1
abbrev sAE : Stmt := inClass (topS 5) 4
abbrev sAX : Stmt := inClass (topS 5) 5
abbrev sAR : Stmt := inClass (topS 5) 7
abbrev sAW : Stmt := inClass (topS 5) 8
def RAI (ds fs : List Dt) : Prop := ∃ l : List Nat, ds = [.str (sx l)] ∧ AlOk l ∧ fs = [.str (sx l)]
def RALen (ds : List Dt) (r : Dt) : Prop := ∃ l : List Nat, ds = [dA l] ∧ l.length ≤ 4 ∧ r = .int (l.length : Int)
def RAEq (ds : List Dt) (r : Dt) : Prop := ∃ l m : List Nat, ds = [dA l, dA m] ∧ r = .bl (decide (l = m))
def RAX (ds : List Dt) (r : Dt) : Prop := ∃ (l : List Nat) (q : Nat), ds = [dA l, .str (sx [q])] ∧ q ∈ l ∧ r = .int ((l.idxOf q : Nat) : Int)
/-- the rank of a word, by places -/
def rkN (n : Nat) (ks : List Nat) : Nat := ks.foldl (fun x k => x * n + k + 1) 0
theorem rkN_snoc (n : Nat) (ks : List Nat) (k : Nat) : rkN n (ks ++ [k]) = rkN n ks * n + k + 1 := by unfold rkN; rw [List.foldl_append]; rfl
def RARk (ds : List Dt) (r : Dt) : Prop := ∃ (l u : List Nat), ds = [dA l, .str (sx u)] ∧ AlOk l ∧ (∀ q ∈ u, q ∈ l) ∧ u.length ≤ 10 ∧ r = .int (rkN l.length (plc l u) : Nat)
theorem rkN_le {n : Nat} (h : n ≤ 4) : ∀ (ks : List Nat) (x : Nat), (∀ k ∈ ks, k < n) → ks.foldl (fun x k => x * n + k + 1) x + 1 ≤ (x + 1) * 5 ^ ks.length
  | [], x, _ => by simp
  | k :: ks, x, hk => by
    have h2 := hk k (by simp)
    have h3 : x * n ≤ x * 4 := Nat.mul_le_mul_left _ h
    have h4 := rkN_le h ks (x * n + k + 1) fun y hy => hk y (List.mem_cons_of_mem _ hy)
    refine Nat.le_trans h4 ?_
    rw [List.length_cons, Nat.pow_succ, Nat.mul_comm (5 ^ ks.length) 5, ← Nat.mul_assoc]
    exact Nat.mul_le_mul_right _ (by omega)
theorem plcA (l u v : List Nat) : plc l (u ++ v) = plc l u ++ plc l v := List.map_append
/-- what is left of a rank after i steps -/
def rst (n r : Nat) : Nat → Nat
  | 0 => r
  | i + 1 => (rst n r i - 1) / n
theorem rst_succ (n r : Nat) : ∀ i, rst n r (i + 1) = rst n ((r - 1) / n) i
  | 0 => rfl
  | i + 1 => by show (rst n r (i + 1) - 1) / n = _; rw [rst_succ n r i]; rfl
theorem rst_le (n r : Nat) : ∀ i, rst n r i ≤ r
  | 0 => Nat.le_refl _
  | i + 1 => Nat.le_trans (Nat.div_le_self _ _) (Nat.le_trans (Nat.sub_le _ _) (rst_le n r i))
theorem bk_walk {n : Nat} (hn : 1 ≤ n) : ∀ d r, r ≤ d → (∀ i, i < (bkN n d r).length → 0 < rst n r i ∧ (bkN n d r)[i]? = some ((rst n r i - 1) % n)) ∧ rst n r (bkN n d r).length = 0 ∧ (bkN n d r).length ≤ d
  | 0, r, h => by
    have e : r = 0 := by omega
    subst e
    exact ⟨fun i hi => absurd hi (Nat.not_lt_zero i), rfl, Nat.le_refl _⟩
  | d + 1, 0, _ => ⟨fun i hi => absurd hi (Nat.not_lt_zero i), rfl, Nat.zero_le _⟩
  | d + 1, r + 1, h => by
    have h2 : r / n ≤ d := Nat.le_trans (Nat.div_le_self _ _) (by omega)
    obtain ⟨a, b, e⟩ := bk_walk hn d (r / n) h2
    have q : bkN n (d + 1) (r + 1) = (r % n) :: bkN n d (r / n) := rfl
    rw [q]
    refine ⟨fun i hi => ?_, ?_, by rw [List.length_cons]; omega⟩
    · cases i with
      | zero => exact ⟨Nat.succ_pos _, rfl⟩
      | succ i =>
        rw [rst_succ]
        obtain ⟨x, y⟩ := a i (by rw [List.length_cons] at hi; omega)
        exact ⟨x, y⟩
    · rw [List.length_cons, rst_succ]; exact b
section
variable {P : Program} {w : World} {K : PySem.W.Frag} {T : Ct} {mg : Str → Option Value} {base : Heap} {f CA : Addr} {fd : FuncData}
abbrev nAI : List Str := ["self", "letters", "letter"]
theorem scAI : FnScope nAI ["self", "letters"] (defScope sAI) := ⟨rfl, rfl, rfl, by decide +kernel, rfl, by decide +kernel, by decide +kernel⟩
abbrev nAL : List Str := ["self"]
theorem scAL : FnScope nAL ["self"] (defScope sAL) := ⟨rfl, rfl, rfl, by decide +kernel, rfl, by decide +kernel, by decide +kernel⟩
abbrev nAE : List Str := ["self", "other"]
theorem scAE : FnScope nAE ["self", "other"] (defScope sAE) := ⟨rfl, rfl, rfl, by decide +kernel, rfl, by decide +kernel, by decide +kernel⟩
abbrev nAX : List Str := ["self", "letter"]
theorem scAX : FnScope nAX ["self", "letter"] (defScope sAX) := ⟨rfl, rfl, rfl, by decide +kernel, rfl, by decide +kernel, by decide +kernel⟩
abbrev nAR : List Str := ["self", "word", "found", "letter"]
theorem scAR : FnScope nAR ["self", "word"] (defScope sAR) := ⟨rfl, rfl, rfl, by decide +kernel, rfl, by decide +kernel, by decide +kernel⟩
abbrev nAW : List Str := ["self", "rank", "backwards", "rest"]
theorem scAW : FnScope nAW ["self", "rank"] (defScope sAW) := ⟨rfl, rfl, rfl, by decide +kernel, rfl, by decide +kernel, by decide +kernel⟩
theorem ok_AI (F : Fun K "__init__" "Alphabet.__init__" sAI f fd) (D : Md K T mg CA) : FnOk P w K mg base CX0 1 f fd ["self", "letters"] (spI K T 2 RAI) := by
  refine okIw F scAI D.A.at_ (fun ds fs h => by obtain ⟨_, rfl, _⟩ := h; rfl) (fun ds fs h => by obtain ⟨_, _, _, rfl⟩ := h; rfl) fun cdv A outer s H E' pa ds fs hr hR => ?_
  obtain ⟨l, rfl, hl, rfl⟩ := hR
  have h1 := hl.lo
  have h2 := hl.hi
  refine ws_if ?_
  refine wt_of ?_
  refine ww_or ?_
  refine wt_not ?_
  refine wt_val ?_
  refine we_isTy (id := "str") rfl D.isi D.str ?_
  refine we_var 1 rfl ?_
  refine ⟨_, true, by constructor, rfl, ?_⟩
  refine ⟨_, rfl, ?_⟩
  refine ifk_F (by rfl) ?_
  refine ww_or1 ?_
  refine wt_not ?_
  refine wt_is (xt_leleI (i := 1) (j := (l.length : Int)) (m := 4) xd_int (xd_lenX (xd_var 1) (by omega) D.len) xd_int rfl) ?_
  refine ifk_F (by rw [decide_eq_true (show (1 : Int) ≤ l.length by omega), decide_eq_true (show (l.length : Int) ≤ 4 by omega)]; rfl) ?_
  refine ws_nil ?_
  refine aft_nx ?_
  refine ws_if ?_
  refine wt_not ?_
  refine wt_val ?_
  refine we_all (bs := (List.range l.length).map fun _ => true) rfl D.all ?_
  refine we_xl ?_
  refine wl_map1 2 (rg l.length fun _ => .bl true) scAI.nd ?_
  refine wi_val rfl ?_
  refine we_var 1 rfl ?_
  first | (refine it_l ?_) | (refine it_t ?_) | (refine it_r ?_) | (refine it_x ?_)
  refine ⟨by first | rfl | (simp only [rg_len, rgo_len, List.length_map, List.length_range, List.length_append]; done) | (simp [rg_len, rgo_len]; done) | (simp [rg_len, rgo_len]; omega), by first | omega | (simp only [rg_len, List.length_append, List.length_cons, List.length_nil, List.length_map, List.length_range, List.length_take, List.length_drop, List.length_singleton]; omega) | (simp; omega) | (simp; done) | decide, rfl, ?_, ?_⟩
  · skip
    intro i d v g1 g2 sh H C cl fp
    obtain ⟨x, hx, rfl⟩ := map_get g1
    obtain ⟨_, rfl⟩ := rg_get g2
    obtain ⟨b1, b2⟩ := hl.rng x (List.mem_of_getElem? hx)
    refine we_is (xd_leleX (q := x) (r := 97) (u := 122) xd_str (xd_var 2) xd_str) ?_
    refine ⟨?_, rfl⟩
    rw [decide_eq_true b1, decide_eq_true b2]; rfl
  refine ⟨by unfold rg; rw [List.map_map]; rfl, ?_⟩
  refine ⟨_, rfl, ?_⟩
  refine ifk_F (by simp) ?_
  refine ws_nil ?_
  refine aft_nx ?_
  refine ws_if ?_
  refine wt_cmp ?_
  refine we_is (xd_lenSet (xd_var 1) hl.nd (by omega) (fun x hx => by have := hl.rng x hx; omega) rfl D.len D.set) ?_
  refine we_len rfl D.len ?_
  refine we_var 1 rfl ?_
  first | (refine len_x (by first | omega | (simp only [rg_len, List.length_append, List.length_cons, List.length_nil, List.length_map, List.length_range, List.length_take, List.length_drop, List.length_singleton]; omega) | (simp; omega) | (simp; done) | decide) ?_) | (refine len_l ?_) | (refine len_t ?_) | (refine len_r ?_)
  refine cr_lt ?_
  refine ifk_F (by exact decide_eq_false (by omega)) ?_
  refine ws_nil ?_
  refine aft_nx ?_
  refine ws_fld D.A.at_ (by decide +kernel) D.A.cl D.Al ?_
  refine we_var 1 rfl ?_
  refine ⟨_, rfl, rfl, by first | decide | simp, ?_⟩
  refine ws_nil ?_
  rfl
theorem ok_AL (F : Fun K "__len__" "Alphabet.__len__" sAL f fd) (D : Md K T mg CA) : FnOk P w K mg base CX0 1 f fd ["self"] (spD K T RALen) := by
  refine okDw F scAL (fun ds r h => by obtain ⟨_, rfl, _⟩ := h; rfl) fun cdv A outer s H E' pa ds r hr hR => ?_
  obtain ⟨l, rfl, h, rfl⟩ := hR
  refine ws_ret ?_
  refine we_len rfl D.len ?_
  refine we_ff 0 D.A rfl D.Al ?_
  refine we_var 0 rfl ?_
  refine ⟨_, _, rfl, rfl, ?_⟩
  first | (refine len_x (by first | omega | (simp only [rg_len, List.length_append, List.length_cons, List.length_nil, List.length_map, List.length_range, List.length_take, List.length_drop, List.length_singleton]; omega) | (simp; omega) | (simp; done) | decide) ?_) | (refine len_l ?_) | (refine len_t ?_) | (refine len_r ?_)
  rfl
theorem ok_AE (F : Fun K "__eq__" "Alphabet.__eq__" sAE f fd) (D : Md K T mg CA) : FnOk P w K mg base CX0 1 f fd ["self", "other"] (spD K T RAEq) := by
  refine okDw F scAE (fun ds r h => by obtain ⟨_, _, rfl, _⟩ := h; rfl) fun cdv A outer s H E' pa ds r hr hR => ?_
  obtain ⟨l, m, rfl, rfl⟩ := hR
  refine ws_ret ?_
  refine we_and ?_
  refine we_isOwn D.A D.AX rfl D.isi ?_
  refine we_var 1 rfl ?_
  refine ⟨_, rfl, ?_⟩
  refine ⟨_, rfl, ?_⟩
  refine ifk_T (by rfl) ?_
  refine we_one ?_
  refine we_cmp ?_
  refine we_ff 0 D.A rfl D.Al ?_
  refine we_var 0 rfl ?_
  refine ⟨_, _, rfl, rfl, ?_⟩
  refine we_ff 0 D.A rfl D.Al ?_
  refine we_var 1 rfl ?_
  refine ⟨_, _, rfl, rfl, ?_⟩
  first | (refine cr_eqI ?_) | (refine cr_eqX ?_) | (refine cr_eqB ?_)
  rfl
theorem ok_AX (F : Fun K "index" "Alphabet.index" sAX f fd) (D : Md K T mg CA) : FnOk P w K mg base CX0 1 f fd ["self", "letter"] (spD K T RAX) := by
  refine okDw F scAX (fun ds r h => by obtain ⟨_, _, rfl, _⟩ := h; rfl) fun cdv A outer s H E' pa ds r hr hR => ?_
  obtain ⟨l, q, rfl, hq, rfl⟩ := hR
  refine ws_if ?_
  refine wt_of ?_
  refine ww_or ?_
  refine wt_not ?_
  refine wt_val ?_
  refine we_isTy (id := "str") rfl D.isi D.str ?_
  refine we_var 1 rfl ?_
  refine ⟨_, true, by constructor, rfl, ?_⟩
  refine ⟨_, rfl, ?_⟩
  refine ifk_F (by rfl) ?_
  refine ww_or ?_
  refine wt_cmp ?_
  refine we_len rfl D.len ?_
  refine we_var 1 rfl ?_
  first | (refine len_x (by first | omega | (simp only [rg_len, List.length_append, List.length_cons, List.length_nil, List.length_map, List.length_range, List.length_take, List.length_drop, List.length_singleton]; omega) | (simp; omega) | (simp; done) | decide) ?_) | (refine len_l ?_) | (refine len_t ?_) | (refine len_r ?_)
  refine we_int ?_
  first | (refine cr_neI ?_) | (refine cr_neX ?_) | (refine cr_neB ?_)
  refine ifk_F (by rfl) ?_
  refine ww_or1 ?_
  refine wt_is (xt_notinX (xd_var 1) (xd_ff 0 (xd_var 0) D.A rfl D.Al) rfl) ?_
  refine ifk_F (by rw [decide_eq_true hq]; rfl) ?_
  refine ws_nil ?_
  refine aft_nx ?_
  refine ws_ret ?_
  refine we_is (xd_findX (xd_ff 0 (xd_var 0) D.A rfl D.Al) (xd_var 1) hq) ?_
  rfl
theorem ok_AR (F : Fun K "rank" "Alphabet.rank" sAR f fd) (D : Md K T mg CA) (AX : MF P w K T mg base CA "index" 1 RAX) : FnOk P w K mg base CX0 2 f fd ["self", "word"] (spD K T RARk) := by
  refine okDw F scAR (fun ds r h => by obtain ⟨_, _, rfl, _⟩ := h; rfl) fun cdv A outer s H E' pa ds r hr hR => ?_
  obtain ⟨l, u, rfl, hl, hu, hul, rfl⟩ := hR
  have h4 := hl.hi
  refine ws_set 2 scAR.nd ?_
  refine we_int ?_
  refine ws_for (fun i => [some (.fr (dA l)), some (.fr (.str (sx u))), some (.fr (.int (rkN l.length (plc l (u.take i)) : Nat))), slot (fun i => .str (sx [u.getD i 0])) i]) (u.length) ?_
  refine wi_val rfl ?_
  refine we_var 1 rfl ?_
  first | (refine it_l ?_) | (refine it_t ?_) | (refine it_r ?_) | (refine it_x ?_)
  refine ⟨by rfl, by first | rfl | (simp only [rg_len, List.length_map, List.length_range]; done) | (simp [rg_len]; done) | (simp [rg_len]; omega), ?_, ?_⟩
  · skip
    intro i d hd
    obtain ⟨q, hq0, rfl⟩ := map_get hd
    have hi : i < u.length := (List.getElem?_eq_some_iff.mp hq0).1
    have eq : u.getD i 0 = q := by rw [List.getD_eq_getElem?_getD, hq0]; rfl
    have hq : q ∈ l := hu q (List.mem_of_getElem? hq0)
    refine wg_name 3 scAR.nd ?_
    refine ws_set 2 scAR.nd ?_
    refine we_bin ?_
    refine we_bin ?_
    refine we_bin ?_
    refine we_var 2 rfl ?_
    refine we_len rfl D.len ?_
    refine we_ff 0 D.A rfl D.Al ?_
    refine we_var 0 rfl ?_
    refine ⟨_, _, rfl, rfl, ?_⟩
    first | (refine len_x (by first | omega | (simp only [rg_len, List.length_append, List.length_cons, List.length_nil, List.length_map, List.length_range, List.length_take, List.length_drop, List.length_singleton]; omega) | (simp; omega) | (simp; done) | decide) ?_) | (refine len_l ?_) | (refine len_t ?_) | (refine len_r ?_)
    refine br_mul (IntMulOk.of_right (bits64 (by omega) (by omega))) ?_
    refine we_mf D.A AX rfl (hr.mono (by decide)) ?_
    refine we_var 0 rfl ?_
    refine ⟨_, rfl, ?_⟩
    refine wa_cons ?_
    refine we_var 3 rfl ?_
    refine wa_nil ?_
    refine ⟨_, ⟨_, _, rfl, hq, rfl⟩, ?_⟩
    first | (refine br_add ?_) | (refine br_addX (by first | omega | (simp only [rg_len, List.length_append, List.length_cons, List.length_nil, List.length_map, List.length_range, List.length_take, List.length_drop, List.length_singleton]; omega) | (simp; omega) | (simp; done) | decide) ?_) | (refine br_cat (by first | omega | (simp only [rg_len, List.length_append, List.length_cons, List.length_nil, List.length_map, List.length_range, List.length_take, List.length_drop, List.length_singleton]; omega) | (simp; omega) | (simp; done) | decide) ?_) | (refine br_tcat rfl (by first | omega | (simp only [rg_len, List.length_append, List.length_cons, List.length_nil, List.length_map, List.length_range, List.length_take, List.length_drop, List.length_singleton]; omega) | (simp; omega) | (simp; done) | decide) ?_)
    refine we_int ?_
    first | (refine br_add ?_) | (refine br_addX (by first | omega | (simp only [rg_len, List.length_append, List.length_cons, List.length_nil, List.length_map, List.length_range, List.length_take, List.length_drop, List.length_singleton]; omega) | (simp; omega) | (simp; done) | decide) ?_) | (refine br_cat (by first | omega | (simp only [rg_len, List.length_append, List.length_cons, List.length_nil, List.length_map, List.length_range, List.length_take, List.length_drop, List.length_singleton]; omega) | (simp; omega) | (simp; done) | decide) ?_) | (refine br_tcat rfl (by first | omega | (simp only [rg_len, List.length_append, List.length_cons, List.length_nil, List.length_map, List.length_range, List.length_take, List.length_drop, List.length_singleton]; omega) | (simp; omega) | (simp; done) | decide) ?_)
    refine ws_nil ?_
    refine .inl ?_
    have ev : ((rkN l.length (plc l (u.take (i + 1))) : Nat) : Int) = (rkN l.length (plc l (u.take i)) : Nat) * (l.length : Int) + ((l.idxOf q : Nat) : Int) + 1 := by
      rw [List.take_add_one, hq0, Option.toList_some, plcA, show plc l [q] = [l.idxOf q] from rfl, rkN_snoc, Int.natCast_add, Int.natCast_add, Int.natCast_mul]; rfl
    show Out.nx _ = .nx [_, _, some (.fr (.int ((rkN l.length (plc l (u.take (i + 1))) : Nat) : Int))), some (.fr (.str (sx [u.getD i 0])))]
    rw [ev, eq]; rfl
  refine ws_ret ?_
  refine we_var 2 rfl ?_
  exact congrArg (fun z => Dt.int (rkN l.length (plc l z) : Nat)) (List.take_length)
theorem ok_AW (F : Fun K "word_at" "Alphabet.word_at" sAW f fd) (D : Md K T mg CA) : FnOk P w K mg base CX0 1 f fd ["self", "rank"] (spD K T RWat) := by
  refine okDw F scAW (fun ds r h => by obtain ⟨_, _, rfl, _⟩ := h; rfl) fun cdv A outer s H E' pa ds r hr hR => ?_
  obtain ⟨l, k, rfl, hl, hk, rfl⟩ := hR
  have h1 := hl.lo
  have h4 := hl.hi
  obtain ⟨b1, b2, b3⟩ := bk_walk h1 k k (Nat.le_refl _)
  let B : List Nat := (bkN l.length k k).map fun j => l.getD j 0
  have Bl : B.length = (bkN l.length k k).length := List.length_map ..
  refine ws_setOw 2 scAW.nd ?_
  refine wl_lst ?_
  refine wa_nil ?_
  refine ⟨by first | omega | (simp only [rg_len, List.length_append, List.length_cons, List.length_nil, List.length_map, List.length_range, List.length_take, List.length_drop, List.length_singleton]; omega) | (simp; omega) | (simp; done) | decide, ?_⟩
  refine ws_set 3 scAW.nd ?_
  refine we_var 1 rfl ?_
  refine ws_while (fun i => [some (.fr (dA l)), some (.fr (.int (k : Int))), some (.ow ((B.take i).map fun q => .str (sx [q]))), some (.fr (.int (rst l.length k i : Nat)))]) ((bkN l.length k k).length) (by rfl) ?_ ?_
  · skip
    intro i hi
    obtain ⟨c1, c2⟩ := b1 i hi
    have c3 := rst_le l.length k i
    have c4 : (rst l.length k i - 1) % l.length < l.length := Nat.mod_lt _ (by omega)
    have e1 : ((rst l.length k i : Nat) : Int) - 1 = ((rst l.length k i - 1 : Nat) : Int) := by omega
    refine wt_cmp ?_
    refine we_var 3 rfl ?_
    refine we_int ?_
    refine cr_gt ?_
    refine ⟨by exact decide_eq_true (by omega), ?_⟩
    refine ws_set 3 scAW.nd ?_
    refine we_bin ?_
    refine we_var 3 rfl ?_
    refine we_int ?_
    refine br_sub ?_
    rw [e1]
    refine ws_append 2 rfl rfl ?_
    refine we_ix ?_
    refine we_ff 0 D.A rfl D.Al ?_
    refine we_var 0 rfl ?_
    refine ⟨_, _, rfl, rfl, ?_⟩
    refine we_bin ?_
    refine we_var 3 rfl ?_
    refine we_len rfl D.len ?_
    refine we_ff 0 D.A rfl D.Al ?_
    refine we_var 0 rfl ?_
    refine ⟨_, _, rfl, rfl, ?_⟩
    first | (refine len_x (by first | omega | (simp only [rg_len, List.length_append, List.length_cons, List.length_nil, List.length_map, List.length_range, List.length_take, List.length_drop, List.length_singleton]; omega) | (simp; omega) | (simp; done) | decide) ?_) | (refine len_l ?_) | (refine len_t ?_) | (refine len_r ?_)
    refine br_mod (by omega) ?_
    refine ix_x (m := (rst l.length k i - 1) % l.length) (q := l.getD ((rst l.length k i - 1) % l.length) 0) (by omega) (by rw [Int.natCast_emod]) (by rw [List.getElem?_eq_getElem c4, List.getD_eq_getElem?_getD, List.getElem?_eq_getElem c4]; rfl) ?_
    refine ⟨_, rfl, .ow, by rw [List.length_map, List.length_take]; omega, ?_⟩
    refine ws_set 3 scAW.nd ?_
    refine we_bin ?_
    refine we_var 3 rfl ?_
    refine we_len rfl D.len ?_
    refine we_ff 0 D.A rfl D.Al ?_
    refine we_var 0 rfl ?_
    refine ⟨_, _, rfl, rfl, ?_⟩
    first | (refine len_x (by first | omega | (simp only [rg_len, List.length_append, List.length_cons, List.length_nil, List.length_map, List.length_range, List.length_take, List.length_drop, List.length_singleton]; omega) | (simp; omega) | (simp; done) | decide) ?_) | (refine len_l ?_) | (refine len_t ?_) | (refine len_r ?_)
    refine br_fdiv (by omega) (log2_small (by omega) (by omega)) ?_
    refine ws_nil ?_
    refine .inl ?_
    have e3 : B[i]? = some (l.getD ((rst l.length k i - 1) % l.length) 0) := by rw [List.getElem?_map, c2]; rfl
    have e4 : ((rst l.length k i - 1 : Nat) : Int).fdiv (l.length : Int) = ((rst l.length k (i + 1) : Nat) : Int) := by
      rw [Int.fdiv_eq_ediv_of_nonneg _ (by omega)]; rfl
    rw [e4, List.take_add_one, e3, Option.toList_some, List.map_append]
    rfl
  refine wt_cmp ?_
  refine we_var 3 rfl ?_
  refine we_int ?_
  refine cr_gt ?_
  refine ⟨by exact decide_eq_false (by rw [b2]; decide), ?_⟩
  refine ws_freeze 2 rfl ?_
  refine ws_ret ?_
  refine we_joinRev1 rfl D.rev ?_
  refine we_str [] ?_
  refine ⟨rfl, ?_⟩
  refine we_var 2 rfl ?_
  refine ⟨B.take (bkN l.length k k).length, rfl, by rw [List.length_take]; omega, ?_⟩
  show Dt.str (sx (B.take _).reverse) = .str (sx (wdD l k))
  rw [← Bl, List.take_length]
  show Dt.str (sx ((bkN l.length k k).map fun j => l.getD j 0).reverse) = Dt.str (sx ((bkN l.length k k).reverse.map fun j => l.getD j 0))
  rw [List.map_reverse]
end
end My
set_option autoImplicit false
set_option maxRecDepth 100000
set_option maxHeartbeats 4000000
set_option exponentiation.threshold 100000
namespace My
open PySem PySem.Spec PyProof.Rows L2 Dv Mq
open Gn
abbrev sAIt : Stmt := inClass (topS 5) 2
abbrev sACt : Stmt := inClass (topS 5) 3
abbrev sAF : Stmt := inClass (topS 5) 9
def RFst (ds : List Dt) (r : Dt) : Prop := ∃ (l : List Nat) (m : Nat), ds = [dA l, .int (m : Int)] ∧ AlOk l ∧ m ≤ 10 ∧ r = .str (sx (List.replicate m (l.getD 0 0)))
/-- a text -/
def RACt (ds : List Dt) (r : Dt) : Prop := ∃ (l u : List Nat), ds = [dA l, .str (sx u)] ∧ u.length ≤ 1000 ∧ r = .bl (u.all fun q => decide (q ∈ l))
/-- no text -/
def NoTx (d : Dt) : Prop := d = .non ∨ (∃ i, d = .int i) ∨ ∃ xs, d = .tup xs
def RACn (ds : List Dt) (r : Dt) : Prop := ∃ (l : List Nat) (d : Dt), ds = [dA l, d] ∧ NoTx d ∧ r = .bl false
section
variable {P : Program} {w : World} {K : PySem.W.Frag} {T : Ct} {mg : Str → Option Value} {base : Heap} {f CA : Addr} {fd : FuncData}
abbrev nAIt : List Str := ["self"]
theorem scAIt : FnScope nAIt ["self"] (defScope sAIt) := ⟨rfl, rfl, rfl, by decide +kernel, rfl, by decide +kernel, by decide +kernel⟩
abbrev nACt : List Str := ["self", "x", "letter"]
theorem scACt : FnScope nACt ["self", "x"] (defScope sACt) := ⟨rfl, rfl, rfl, by decide +kernel, rfl, by decide +kernel, by decide +kernel⟩
abbrev nAF : List Str := ["self", "length"]
theorem scAF : FnScope nAF ["self", "length"] (defScope sAF) := ⟨rfl, rfl, rfl, by decide +kernel, rfl, by decide +kernel, by decide +kernel⟩
theorem cr_sign {c : Dv.Ctx} {X : Cx} {q : Nat} {l : List Nat} {Q : Bool → Prop} (h : Q (decide (q ∈ l))) : CmpR c X .In (.str (sx [q])) (.str (sx l)) Q := by
  refine cr_of op_in_sign (fun G H x y Q' e r1 r2 k => ?_) h
  cases r1
  cases r2
  refine ⟨q, sx l, rfl, rfl, ?_⟩
  have e1 : (sx l).cps.toList = l := by simp [sx]
  rw [e1]
  exact kv_same k e .bl
theorem map2_get {α : Type} {l : List α} {f g : α → Dt} {i : Nat} {d v : Dt} (h1 : (l.map f)[i]? = some d) (h2 : (l.map g)[i]? = some v) : ∃ q, l[i]? = some q ∧ d = f q ∧ v = g q := by
  rw [List.getElem?_map] at h1 h2
  cases e : l[i]? with
  | none => rw [e] at h1; cases h1
  | some q =>
    rw [e] at h1 h2
    cases h1; cases h2
    exact ⟨q, rfl, rfl, rfl⟩
theorem it_Alph (F : Fun K "__iter__" "Alphabet.__iter__" sAIt f fd) (D : Md K T mg CA) : FnOk P w K mg base CX0 1 f fd ["self"] (spIs base K T 2 0) :=
  ok_is (ns := ["letters"]) (fld := "letters") F scAIt rfl D.A.at_ D.A.cl D.Al (by decide +kernel) D.iter (fun _ _ _ _ _ _ => rfl) (fun _ _ _ _ _ _ => .inl rfl) (fun _ _ _ _ _ _ => rfl) (fun _ _ _ _ _ _ => rfl) (fun _ _ _ _ _ _ => rfl)
theorem ok_ACt (F : Fun K "__contains__" "Alphabet.__contains__" sACt f fd) (D : Md K T mg CA) : FnOk P w K mg base CX0 1 f fd ["self", "x"] (spD K T RACt) := by
  refine okDw F scACt (fun ds r h => by obtain ⟨_, _, rfl, _⟩ := h; rfl) fun cdv A outer s' H E' pa ds r hr hR => ?_
  obtain ⟨l, u, rfl, hu, rfl⟩ := hR
  refine ws_ret ?_
  refine we_and ?_
  refine we_isTy (id := "str") rfl D.isi D.str ?_
  refine we_var 1 rfl ?_
  refine ⟨_, true, by constructor, rfl, ?_⟩
  refine ⟨_, rfl, ?_⟩
  refine ifk_T (by rfl) ?_
  refine we_one ?_
  refine we_all (bs := u.map fun q => decide (q ∈ l)) rfl D.all ?_
  refine we_xl ?_
  refine wl_map1 2 (u.map fun q => .bl (decide (q ∈ l))) scACt.nd ?_
  refine wi_val rfl ?_
  refine we_var 1 rfl ?_
  first | (refine it_l ?_) | (refine it_t ?_) | (refine it_r ?_) | (refine it_x ?_)
  refine ⟨by first | rfl | (simp only [rg_len, rgo_len, List.length_map, List.length_range, List.length_append]; done) | (simp [rg_len, rgo_len]; done) | (simp [rg_len, rgo_len]; omega), by first | omega | (simp only [rg_len, List.length_append, List.length_cons, List.length_nil, List.length_map, List.length_range, List.length_take, List.length_drop, List.length_singleton]; omega) | (simp; omega) | (simp; done) | decide, rfl, ?_, ?_⟩
  · skip
    intro i d v g1 g2 sh H C cl fp
    obtain ⟨q, _, rfl, rfl⟩ := map2_get g1 g2
    refine we_cmp ?_
    refine we_var 2 rfl ?_
    refine we_ff 0 D.A rfl D.Al ?_
    refine we_var 0 rfl ?_
    refine ⟨_, _, rfl, rfl, ?_⟩
    refine cr_sign ?_
    exact ⟨rfl, rfl⟩
  refine ⟨by rw [List.map_map]; rfl, ?_⟩
  exact congrArg Dt.bl (by rw [List.all_map]; rfl)
theorem ok_ACn (F : Fun K "__contains__" "Alphabet.__contains__" sACt f fd) (D : Md K T mg CA) : FnOk P w K mg base CX0 1 f fd ["self", "x"] (spD K T RACn) := by
  refine okDw F scACt (fun ds r h => by obtain ⟨_, _, rfl, _⟩ := h; rfl) fun cdv A outer s' H E' pa ds r hr hR => ?_
  obtain ⟨l, d, rfl, hd, rfl⟩ := hR
  rcases hd with rfl | ⟨i, rfl⟩ | ⟨xs, rfl⟩
  case inl =>
    refine ws_ret ?_
    refine we_and ?_
    refine we_isTy (id := "str") rfl D.isi D.str ?_
    refine we_var 1 rfl ?_
    refine ⟨_, false, by constructor, kit_ty (by decide +kernel), ?_⟩
    refine ⟨_, rfl, ?_⟩
    refine ifk_F (by rfl) ?_
    rfl
  case inr.inl =>
    refine ws_ret ?_
    refine we_and ?_
    refine we_isTy (id := "str") rfl D.isi D.str ?_
    refine we_var 1 rfl ?_
    refine ⟨_, false, by constructor, kit_ty (by decide +kernel), ?_⟩
    refine ⟨_, rfl, ?_⟩
    refine ifk_F (by rfl) ?_
    rfl
  case inr.inr =>
    refine ws_ret ?_
    refine we_and ?_
    refine we_isTy (id := "str") rfl D.isi D.str ?_
    refine we_var 1 rfl ?_
    refine ⟨_, false, by constructor, kit_ty (by decide +kernel), ?_⟩
    refine ⟨_, rfl, ?_⟩
    refine ifk_F (by rfl) ?_
    rfl
theorem ok_AF (F : Fun K "first_at" "Alphabet.first_at" sAF f fd) (D : Md K T mg CA) : FnOk P w K mg base CX0 1 f fd ["self", "length"] (spD K T RFst) := by
  refine okDw F scAF (fun ds r h => by obtain ⟨_, _, rfl, _⟩ := h; rfl) fun cdv A outer s' H E' pa ds r hr hR => ?_
  obtain ⟨l, m, rfl, hl, hm, rfl⟩ := hR
  have h1 := hl.lo
  have h4 := hl.hi
  have e0 : l[0]? = some (l.getD 0 0) := by rw [List.getD_eq_getElem?_getD, List.getElem?_eq_getElem (by omega)]; rfl
  refine ws_ret ?_
  refine we_bin ?_
  refine we_ix ?_
  refine we_ff 0 D.A rfl D.Al ?_
  refine we_var 0 rfl ?_
  refine ⟨_, _, rfl, rfl, ?_⟩
  refine we_int ?_
  refine ix_x (m := 0) (q := l.getD 0 0) (by omega) rfl e0 ?_
  refine we_var 1 rfl ?_
  refine br_mulY (by omega) (by omega) (by simp) (by simp) (by simp; omega) ?_
  show Dt.str (sx (List.replicate (m : Int).toNat [l.getD 0 0]).flatten) = _
  rw [Int.toNat_natCast]
  exact congrArg (fun z => Dt.str (sx z)) (by induction m with | zero => rfl | succ m ih => rw [List.replicate_succ, List.flatten_cons, ih (by omega), List.replicate_succ]; rfl)
end
end My
set_option autoImplicit false
set_option maxRecDepth 100000
set_option maxHeartbeats 4000000
set_option exponentiation.threshold 100000
namespace My
open PySem PySem.Spec PyProof.Rows L2 Dv Mq
open Gn
abbrev sAI2 : Stmt := inClass (topS 5) 0
abbrev sAX2 : Stmt := inClass (topS 5) 5
abbrev sRfi : Stmt := inClass (topS 3) 0
def rsL : Option (Str × Dt) := some ("reason", .str "letter")
/-- no letter of it -/
def RAXx (C : Addr) (ds : List Dt) (x : Xn) : Prop := ∃ (l : List Nat) (d : Dt), ds = [dA l, d] ∧ l.length ≤ 4 ∧ (NoTx d ∨ (∃ u : List Nat, d = .str (sx u) ∧ u.length ≠ 1 ∧ u.length ≤ 1000) ∨ ∃ q, d = .str (sx [q]) ∧ q ∉ l) ∧ x = ⟨C, rsL⟩
/-- no alphabet -/
def RAIx (C : Addr) (ds : List Dt) (x : Xn) : Prop := ∃ d : Dt, ds = [d] ∧ (NoTx d ∨ (∃ u : List Nat, d = .str (sx u) ∧ (u.length < 1 ∨ 4 < u.length) ∧ u.length ≤ 1000) ∨ (∃ u : List Nat, d = .str (sx u) ∧ 1 ≤ u.length ∧ u.length ≤ 4 ∧ ∃ q ∈ u, ¬ (97 ≤ q ∧ q ≤ 122)) ∨ d = .str (sx [97, 97])) ∧ x = ⟨C, none⟩
section
variable {P : Program} {w : World} {K : PySem.W.Frag} {T : Ct} {mg : Str → Option Value} {base : Heap} {f CA CE CRf fI : Addr} {fd : FuncData}
abbrev nAI2 : List Str := ["self", "letters", "letter"]
theorem scAI2 : FnScope nAI2 ["self", "letters"] (defScope sAI2) := ⟨rfl, rfl, rfl, by decide +kernel, rfl, by decide +kernel, by decide +kernel⟩
abbrev nAX2 : List Str := ["self", "letter"]
theorem scAX2 : FnScope nAX2 ["self", "letter"] (defScope sAX2) := ⟨rfl, rfl, rfl, by decide +kernel, rfl, by decide +kernel, by decide +kernel⟩
theorem ok_AXx (F : Fun K "index" "Alphabet.index" sAX2 f fd) (D : Md K T mg CA) (Rf : DvR.Rfd K mg CRf fI) : FnOk P w K mg base (L2.CX P w) 2 f fd ["self", "letter"] (spX K T (RAXx CRf)) := by
  refine okX' F scAX2 (fun ds r h => by obtain ⟨_, _, rfl, _⟩ := h; rfl) fun cdv A outer s' H E' pa ds x hr hR => ?_
  obtain ⟨l, d, rfl, hl, hd, rfl⟩ := hR
  rcases hd with hd | ⟨u, rfl, h1, h2⟩ | ⟨q, rfl, hq⟩
  case inl =>
    rcases hd with rfl | ⟨i, rfl⟩ | ⟨xs, rfl⟩
    case inl =>
      refine wr_if ?_
      refine wt_of ?_
      refine ww_or ?_
      refine wt_not ?_
      refine wt_val ?_
      refine we_isTy (id := "str") rfl D.isi D.str ?_
      refine we_var 1 rfl ?_
      refine ⟨_, false, by constructor, kit_ty (by decide +kernel), ?_⟩
      refine ⟨_, rfl, ?_⟩
      refine ifk_T (by rfl) ?_
      refine ifk_T (by rfl) ?_
      refine wrb_x ?_
      refine wr_raiseR Rf rfl hr (takes_of rfl rfl rfl rfl) ?_
      refine wa_cons ?_
      refine we_str [108, 101, 116, 116, 101, 114] ?_
      refine wa_nil ?_
      exact ⟨_, rfl, rfl⟩
    case inr.inl =>
      refine wr_if ?_
      refine wt_of ?_
      refine ww_or ?_
      refine wt_not ?_
      refine wt_val ?_
      refine we_isTy (id := "str") rfl D.isi D.str ?_
      refine we_var 1 rfl ?_
      refine ⟨_, false, by constructor, kit_ty (by decide +kernel), ?_⟩
      refine ⟨_, rfl, ?_⟩
      refine ifk_T (by rfl) ?_
      refine ifk_T (by rfl) ?_
      refine wrb_x ?_
      refine wr_raiseR Rf rfl hr (takes_of rfl rfl rfl rfl) ?_
      refine wa_cons ?_
      refine we_str [108, 101, 116, 116, 101, 114] ?_
      refine wa_nil ?_
      exact ⟨_, rfl, rfl⟩
    case inr.inr =>
      refine wr_if ?_
      refine wt_of ?_
      refine ww_or ?_
      refine wt_not ?_
      refine wt_val ?_
      refine we_isTy (id := "str") rfl D.isi D.str ?_
      refine we_var 1 rfl ?_
      refine ⟨_, false, by constructor, kit_ty (by decide +kernel), ?_⟩
      refine ⟨_, rfl, ?_⟩
      refine ifk_T (by rfl) ?_
      refine ifk_T (by rfl) ?_
      refine wrb_x ?_
      refine wr_raiseR Rf rfl hr (takes_of rfl rfl rfl rfl) ?_
      refine wa_cons ?_
      refine we_str [108, 101, 116, 116, 101, 114] ?_
      refine wa_nil ?_
      exact ⟨_, rfl, rfl⟩
  case inr.inl =>
    refine wr_if ?_
    refine wt_of ?_
    refine ww_or ?_
    refine wt_not ?_
    refine wt_val ?_
    refine we_isTy (id := "str") rfl D.isi D.str ?_
    refine we_var 1 rfl ?_
    refine ⟨_, true, by constructor, rfl, ?_⟩
    refine ⟨_, rfl, ?_⟩
    refine ifk_F (by rfl) ?_
    refine ww_or ?_
    refine wt_cmp ?_
    refine we_len rfl D.len ?_
    refine we_var 1 rfl ?_
    first | (refine len_x (by first | omega | (simp only [rg_len, List.length_append, List.length_cons, List.length_nil, List.length_map, List.length_range, List.length_take, List.length_drop, List.length_singleton]; omega) | (simp; omega) | (simp; done) | decide) ?_) | (refine len_l ?_) | (refine len_t ?_) | (refine len_r ?_)
    refine we_int ?_
    first | (refine cr_neI ?_) | (refine cr_neX ?_) | (refine cr_neB ?_)
    refine ifk_T (by rw [decide_eq_false (show ¬ (u.length : Int) = 1 by omega)]; rfl) ?_
    refine ifk_T (by rfl) ?_
    refine wrb_x ?_
    refine wr_raiseR Rf rfl hr (takes_of rfl rfl rfl rfl) ?_
    refine wa_cons ?_
    refine we_str [108, 101, 116, 116, 101, 114] ?_
    refine wa_nil ?_
    exact ⟨_, rfl, rfl⟩
  case inr.inr =>
    refine wr_if ?_
    refine wt_of ?_
    refine ww_or ?_
    refine wt_not ?_
    refine wt_val ?_
    refine we_isTy (id := "str") rfl D.isi D.str ?_
    refine we_var 1 rfl ?_
    refine ⟨_, true, by constructor, rfl, ?_⟩
    refine ⟨_, rfl, ?_⟩
    refine ifk_F (by rfl) ?_
    refine ww_or ?_
    refine wt_cmp ?_
    refine we_len rfl D.len ?_
    refine we_var 1 rfl ?_
    first | (refine len_x (by first | omega | (simp only [rg_len, List.length_append, List.length_cons, List.length_nil, List.length_map, List.length_range, List.length_take, List.length_drop, List.length_singleton]; omega) | (simp; omega) | (simp; done) | decide) ?_) | (refine len_l ?_) | (refine len_t ?_) | (refine len_r ?_)
    refine we_int ?_
    first | (refine cr_neI ?_) | (refine cr_neX ?_) | (refine cr_neB ?_)
    refine ifk_F (by rfl) ?_
    refine ww_or1 ?_
    refine wt_is (xt_notinX (xd_var 1) (xd_ff 0 (xd_var 0) D.A rfl D.Al) rfl) ?_
    refine ifk_T (by rw [decide_eq_false hq]; rfl) ?_
    refine wrb_x ?_
    refine wr_raiseR Rf rfl hr (takes_of rfl rfl rfl rfl) ?_
    refine wa_cons ?_
    refine we_str [108, 101, 116, 116, 101, 114] ?_
    refine wa_nil ?_
    exact ⟨_, rfl, rfl⟩
theorem ok_AIx (F : Fun K "__init__" "Alphabet.__init__" sAI2 f fd) (D : Md K T mg CA) (ZM : Rz K mg "Malformed" CE) : FnOk P w K mg base (L2.CX P w) 1 f fd ["self", "letters"] (spIX K T 2 (RAIx CE)) := by
  refine okIX F scAI2 D.A.at_ (fun ds x h => by obtain ⟨_, rfl, _⟩ := h; rfl) fun cdv A outer s H E' pa ds x hr hR => ?_
  obtain ⟨d, rfl, hd, rfl⟩ := hR
  rcases hd with hd | ⟨u, rfl, h1, h2⟩ | ⟨u, rfl, h1, h2, h3⟩ | rfl
  case inl =>
    rcases hd with rfl | ⟨i, rfl⟩ | ⟨xs, rfl⟩
    case inl =>
      refine wr_if ?_
      refine wt_of ?_
      refine ww_or ?_
      refine wt_not ?_
      refine wt_val ?_
      refine we_isTy (id := "str") rfl D.isi D.str ?_
      refine we_var 1 rfl ?_
      refine ⟨_, false, by constructor, kit_ty (by decide +kernel), ?_⟩
      refine ⟨_, rfl, ?_⟩
      refine ifk_T (by rfl) ?_
      refine ifk_T (by rfl) ?_
      refine wrb_x ?_
      exact wr_raise ZM rfl (takes_of rfl rfl rfl rfl)
    case inr.inl =>
      refine wr_if ?_
      refine wt_of ?_
      refine ww_or ?_
      refine wt_not ?_
      refine wt_val ?_
      refine we_isTy (id := "str") rfl D.isi D.str ?_
      refine we_var 1 rfl ?_
      refine ⟨_, false, by constructor, kit_ty (by decide +kernel), ?_⟩
      refine ⟨_, rfl, ?_⟩
      refine ifk_T (by rfl) ?_
      refine ifk_T (by rfl) ?_
      refine wrb_x ?_
      exact wr_raise ZM rfl (takes_of rfl rfl rfl rfl)
    case inr.inr =>
      refine wr_if ?_
      refine wt_of ?_
      refine ww_or ?_
      refine wt_not ?_
      refine wt_val ?_
      refine we_isTy (id := "str") rfl D.isi D.str ?_
      refine we_var 1 rfl ?_
      refine ⟨_, false, by constructor, kit_ty (by decide +kernel), ?_⟩
      refine ⟨_, rfl, ?_⟩
      refine ifk_T (by rfl) ?_
      refine ifk_T (by rfl) ?_
      refine wrb_x ?_
      exact wr_raise ZM rfl (takes_of rfl rfl rfl rfl)
  case inr.inl =>
    have e : (decide ((1 : Int) ≤ u.length) && decide ((u.length : Int) ≤ 4)) = false := by
      rcases h1 with h | h
      · rw [decide_eq_false (show ¬ (1 : Int) ≤ u.length by omega)]; rfl
      · rw [decide_eq_false (show ¬ (u.length : Int) ≤ 4 by omega), Bool.and_false]
    refine wr_if ?_
    refine wt_of ?_
    refine ww_or ?_
    refine wt_not ?_
    refine wt_val ?_
    refine we_isTy (id := "str") rfl D.isi D.str ?_
    refine we_var 1 rfl ?_
    refine ⟨_, true, by constructor, rfl, ?_⟩
    refine ⟨_, rfl, ?_⟩
    refine ifk_F (by rfl) ?_
    refine ww_or1 ?_
    refine wt_not ?_
    refine wt_is (xt_leleI (i := 1) (j := (u.length : Int)) (m := 4) xd_int (xd_lenX (xd_var 1) (by omega) D.len) xd_int rfl) ?_
    refine ifk_T (by rw [e]; rfl) ?_
    refine wrb_x ?_
    exact wr_raise ZM rfl (takes_of rfl rfl rfl rfl)
  case inr.inr.inl =>
    have e : ((u.map fun q => (decide (97 ≤ q) && decide (q ≤ 122))).all id) = false := by
      obtain ⟨q, hq, hb⟩ := h3
      rw [List.all_eq_false]
      refine ⟨_, List.mem_map.mpr ⟨q, hq, rfl⟩, ?_⟩
      simp only [id, Bool.and_eq_true, decide_eq_true_eq]
      exact hb
    refine wr_if ?_
    refine wt_of ?_
    refine ww_or ?_
    refine wt_not ?_
    refine wt_val ?_
    refine we_isTy (id := "str") rfl D.isi D.str ?_
    refine we_var 1 rfl ?_
    refine ⟨_, true, by constructor, rfl, ?_⟩
    refine ⟨_, rfl, ?_⟩
    refine ifk_F (by rfl) ?_
    refine ww_or1 ?_
    refine wt_not ?_
    refine wt_is (xt_leleI (i := 1) (j := (u.length : Int)) (m := 4) xd_int (xd_lenX (xd_var 1) (by omega) D.len) xd_int rfl) ?_
    refine ifk_F (by rw [decide_eq_true (show (1 : Int) ≤ u.length by omega), decide_eq_true (show (u.length : Int) ≤ 4 by omega)]; rfl) ?_
    refine wrb_0 ?_
    refine wr_if ?_
    refine wt_not ?_
    refine wt_val ?_
    refine we_all (bs := u.map fun q => (decide (97 ≤ q) && decide (q ≤ 122))) rfl D.all ?_
    refine we_xl ?_
    refine wl_map1 2 (u.map fun q => .bl (decide (97 ≤ q) && decide (q ≤ 122))) scAI2.nd ?_
    refine wi_val rfl ?_
    refine we_var 1 rfl ?_
    first | (refine it_l ?_) | (refine it_t ?_) | (refine it_r ?_) | (refine it_x ?_)
    refine ⟨by first | rfl | (simp only [rg_len, rgo_len, List.length_map, List.length_range, List.length_append]; done) | (simp [rg_len, rgo_len]; done) | (simp [rg_len, rgo_len]; omega), by first | omega | (simp only [rg_len, List.length_append, List.length_cons, List.length_nil, List.length_map, List.length_range, List.length_take, List.length_drop, List.length_singleton]; omega) | (simp; omega) | (simp; done) | decide, rfl, ?_, ?_⟩
    · skip
      intro i d v g1 g2 sh H C cl fp
      obtain ⟨x, _, rfl, rfl⟩ := map2_get g1 g2
      refine we_is (xd_leleX (q := x) (r := 97) (u := 122) xd_str (xd_var 2) xd_str) ?_
      exact ⟨rfl, rfl⟩
    refine ⟨by rw [List.map_map]; rfl, ?_⟩
    refine ⟨_, rfl, ?_⟩
    refine ifk_T (by rw [e]; rfl) ?_
    refine wrb_x ?_
    exact wr_raise ZM rfl (takes_of rfl rfl rfl rfl)
  case inr.inr.inr =>
    refine wr_if ?_
    refine wt_of ?_
    refine ww_or ?_
    refine wt_not ?_
    refine wt_val ?_
    refine we_isTy (id := "str") rfl D.isi D.str ?_
    refine we_var 1 rfl ?_
    refine ⟨_, true, by constructor, rfl, ?_⟩
    refine ⟨_, rfl, ?_⟩
    refine ifk_F (by rfl) ?_
    refine ww_or1 ?_
    refine wt_not ?_
    refine wt_is (xt_leleI (i := 1) (j := 2) (m := 4) xd_int (xd_lenX (l := [97, 97]) (xd_var 1) (by decide) D.len) xd_int rfl) ?_
    refine ifk_F (by rfl) ?_
    refine wrb_0 ?_
    refine wr_if ?_
    refine wt_not ?_
    refine wt_val ?_
    refine we_all (bs := [true, true]) rfl D.all ?_
    refine we_xl ?_
    refine wl_map1 2 ([.bl true, .bl true]) scAI2.nd ?_
    refine wi_val rfl ?_
    refine we_var 1 rfl ?_
    first | (refine it_l ?_) | (refine it_t ?_) | (refine it_r ?_) | (refine it_x ?_)
    refine ⟨by first | rfl | (simp only [rg_len, rgo_len, List.length_map, List.length_range, List.length_append]; done) | (simp [rg_len, rgo_len]; done) | (simp [rg_len, rgo_len]; omega), by first | omega | (simp only [rg_len, List.length_append, List.length_cons, List.length_nil, List.length_map, List.length_range, List.length_take, List.length_drop, List.length_singleton]; omega) | (simp; omega) | (simp; done) | decide, rfl, ?_, ?_⟩
    · skip
      intro i d v g1 g2 sh H C cl fp
      obtain ⟨rfl, rfl⟩ : d = .str (sx [97]) ∧ v = .bl true := by
        match i, g1, g2 with
        | 0, h, h' => exact ⟨(Option.some.inj h).symm, (Option.some.inj h').symm⟩
        | 1, h, h' => exact ⟨(Option.some.inj h).symm, (Option.some.inj h').symm⟩
        | i + 2, h, h' => cases h
      refine we_is (xd_leleX (q := 97) (r := 97) (u := 122) xd_str (xd_var 2) xd_str) ?_
      exact ⟨rfl, rfl⟩
    refine ⟨rfl, ?_⟩
    refine ⟨_, rfl, ?_⟩
    refine ifk_F (by rfl) ?_
    refine wrb_0 ?_
    refine wr_if ?_
    refine wt_cmp ?_
    refine we_is (xd_lenSetR (l := [97, 97]) (xd_var 1) (by decide) (by decide) rfl D.len D.set) ?_
    refine we_len rfl D.len ?_
    refine we_var 1 rfl ?_
    first | (refine len_x (by first | omega | (simp only [rg_len, List.length_append, List.length_cons, List.length_nil, List.length_map, List.length_range, List.length_take, List.length_drop, List.length_singleton]; omega) | (simp; omega) | (simp; done) | decide) ?_) | (refine len_l ?_) | (refine len_t ?_) | (refine len_r ?_)
    refine cr_lt ?_
    refine ifk_T (by exact (show decide (((DvS.srt [97, 97]).length : Int) < 2) = true from by decide +kernel)) ?_
    refine wrb_x ?_
    exact wr_raise ZM rfl (takes_of rfl rfl rfl rfl)
end
end My
set_option autoImplicit false
set_option maxRecDepth 100000
set_option maxHeartbeats 4000000
set_option exponentiation.threshold 100000
namespace My
open PySem PySem.Spec PyProof.Rows L2 Dv Mq
open Gn
abbrev sState : Stmt := topS 7
abbrev sTake : Stmt := topS 8
def RState (ds xs : List Dt) : Prop := ∃ ns : List Int, ds = [.ro (dInts ns)] ∧ xs = dSt (stOf ns)
def RTake (xs ds : List Dt) (r : Dt) (ys : List Dt) : Prop := ∃ (s : Int × Int) (m : Int), xs = dSt s ∧ ds = [.int m] ∧ StOk s ∧ 0 < m ∧ m < 2 ^ 60 ∧ r = .int (tkV s m) ∧ ys = dSt (tkS s m)
section
variable {P : Program} {w : World} {K : PySem.W.Frag} {T : Ct} {mg : Str → Option Value} {base : Heap} {f CR : Addr} {fd : FuncData}
abbrev nState : List Str := ["script", "seed", "total", "cell"]
theorem scState : FnScope nState ["script"] (defScope sState) := ⟨rfl, rfl, rfl, by decide +kernel, rfl, by decide +kernel, by decide +kernel⟩
abbrev nTake : List Str := ["state", "m", "value"]
theorem scTake : FnScope nTake ["state", "m"] (defScope sTake) := ⟨rfl, rfl, rfl, by decide +kernel, rfl, by decide +kernel, by decide +kernel⟩
theorem ok_state (F : Fun K "_law_state" "_law_state" sState f fd) (D : Md K T mg CR) : FnOk P w K mg base CX0 1 f fd ["script"] (spL K T RState) := by
  refine okLw F scState (fun ds r h => by obtain ⟨_, rfl, _⟩ := h; rfl) fun cdv A outer s H E' pa ds xs hr hR => ?_
  obtain ⟨ns, rfl, rfl⟩ := hR
  let m := ns.take 63
  have et : (dInts ns).take 63 = dInts m := by unfold dInts; rw [← List.map_take]
  refine ws_set 1 scState.nd ?_
  refine we_int ?_
  refine ws_set 2 scState.nd ?_
  refine we_int ?_
  refine ws_for (fun i => [some (.fr (.ro (dInts ns))), some (.fr (.int (seedL m 0 i))), some (.fr (.int (totL m 1 i))), slot (fun i => .int (m.getD i 0)) i]) (m.length) ?_
  refine wi_is (xi_list (ds := (dInts ns).take 63) rfl (xd_cutHiR (xd_var 0) xd_int (by decide) rfl)) ?_
  refine ⟨by rfl, by rw [et]; exact List.length_map .., ?_, ?_⟩
  · skip
    intro i d hd
    rw [et] at hd
    obtain ⟨v, hv, rfl⟩ := map_get hd
    have ev : m.getD i 0 = v := by rw [List.getD_eq_getElem?_getD, hv]; rfl
    refine wg_name 3 scState.nd ?_
    refine ws_set 1 scState.nd ?_
    refine we_bin ?_
    refine we_bin ?_
    refine we_var 1 rfl ?_
    refine we_int ?_
    refine br_mul (IntMulOk.of_right (bits64 (by decide) (by decide))) ?_
    refine we_abs D.abs ?_
    refine we_var 3 rfl ?_
    refine ⟨_, rfl, ?_⟩
    first | (refine br_add ?_) | (refine br_addX (by first | omega | (simp only [rg_len, List.length_append, List.length_cons, List.length_nil, List.length_map, List.length_range, List.length_take, List.length_drop, List.length_singleton]; omega) | (simp; omega) | (simp; done) | decide) ?_) | (refine br_cat (by first | omega | (simp only [rg_len, List.length_append, List.length_cons, List.length_nil, List.length_map, List.length_range, List.length_take, List.length_drop, List.length_singleton]; omega) | (simp; omega) | (simp; done) | decide) ?_) | (refine br_tcat rfl (by first | omega | (simp only [rg_len, List.length_append, List.length_cons, List.length_nil, List.length_map, List.length_range, List.length_take, List.length_drop, List.length_singleton]; omega) | (simp; omega) | (simp; done) | decide) ?_)
    refine ws_set 2 scState.nd ?_
    refine we_bin ?_
    refine we_intc D.int ?_
    refine we_bin ?_
    refine we_bin ?_
    refine we_var 2 rfl ?_
    refine we_int ?_
    refine br_mul (IntMulOk.of_right (bits64 (by decide) (by decide))) ?_
    refine we_var 3 rfl ?_
    first | (refine br_add ?_) | (refine br_addX (by first | omega | (simp only [rg_len, List.length_append, List.length_cons, List.length_nil, List.length_map, List.length_range, List.length_take, List.length_drop, List.length_singleton]; omega) | (simp; omega) | (simp; done) | decide) ?_) | (refine br_cat (by first | omega | (simp only [rg_len, List.length_append, List.length_cons, List.length_nil, List.length_map, List.length_range, List.length_take, List.length_drop, List.length_singleton]; omega) | (simp; omega) | (simp; done) | decide) ?_) | (refine br_tcat rfl (by first | omega | (simp only [rg_len, List.length_append, List.length_cons, List.length_nil, List.length_map, List.length_range, List.length_take, List.length_drop, List.length_singleton]; omega) | (simp; omega) | (simp; done) | decide) ?_)
    refine ⟨_, rfl, ?_⟩
    refine we_int ?_
    refine br_mod (by decide) ?_
    refine ws_nil ?_
    refine .inl ?_
    show Out.nx _ = .nx [_, some (.fr (.int (seedL m 0 i * 1000003 + ((m.getD i 0).natAbs : Int)))), some (.fr (.int ((totL m 1 i * 48271 + m.getD i 0) % 2147483647))), some (.fr (.int (m.getD i 0)))]
    rw [ev]; rfl
  refine ws_retL ?_
  refine wl_lst ?_
  refine wa_cons ?_
  refine we_var 1 rfl ?_
  refine wa_cons ?_
  refine we_var 2 rfl ?_
  refine wa_nil ?_
  refine ⟨by first | omega | (simp only [rg_len, List.length_append, List.length_cons, List.length_nil, List.length_map, List.length_range, List.length_take, List.length_drop, List.length_singleton]; omega) | (simp; omega) | (simp; done) | decide, ?_⟩
  rfl
theorem ok_take (F : Fun K "_law_take" "_law_take" sTake f fd) (D : Md K T mg CR) : FnOk P w K mg base CX0 1 f fd ["state", "m"] (spM K T RTake) := by
  refine okMw F scTake (fun xs ds r ys h => by obtain ⟨_, _, _, rfl, _⟩ := h; rfl) fun cdv A outer s' H E' pa xs ds r ys hr hR => ?_
  obtain ⟨⟨s, t⟩, m, rfl, rfl, ok, hm, hm2, rfl, rfl⟩ := hR
  by_cases hs : 0 < s
  · have e1 : tkV (s, t) m = s % m := if_pos hs
    have e2 : tkS (s, t) m = (s.fdiv m, t) := if_pos hs
    rw [e1, e2]
    show WS _ _ _ (st0M nTake [.int s, .int t] [.int m]) _
    refine ws_if ?_
    refine wt_view ?_
    refine wt_cmp ?_
    refine we_ix ?_
    refine we_var 0 rfl ?_
    refine we_int ?_
    first | (refine ix_t (m := 0) rfl (by first | rfl | omega) (by first | rfl | exact rg_at (by omega)) ?_) | (refine ix_l (m := 0) rfl (by first | rfl | omega) (by first | rfl | exact rg_at (by omega)) ?_) | (refine ix_x (m := 0) (by first | omega | (simp only [rg_len, List.length_append, List.length_cons, List.length_nil, List.length_map, List.length_range, List.length_take, List.length_drop, List.length_singleton]; omega) | (simp; omega) | (simp; done) | decide) (by first | rfl | omega) (by first | rfl | assumption) ?_)
    refine we_int ?_
    refine cr_gt ?_
    refine ifk_T (by exact decide_eq_true hs) ?_
    refine ws_set 2 scTake.nd ?_
    refine we_bin ?_
    refine we_intc D.int ?_
    refine we_ixO 0 rfl ?_
    refine we_int ?_
    refine ⟨0, _, _, rfl, by first | exact .pr | exact .ow, rfl, by first | rfl | exact rg_at (by omega), ?_⟩
    refine ⟨_, rfl, ?_⟩
    refine we_var 1 rfl ?_
    refine br_mod hm ?_
    refine ws_setI 0 rfl ?_
    refine we_bin ?_
    refine we_ixO 0 rfl ?_
    refine we_int ?_
    refine ⟨0, _, _, rfl, by first | exact .pr | exact .ow, rfl, by first | rfl | exact rg_at (by omega), ?_⟩
    refine we_var 1 rfl ?_
    refine br_fdiv (by omega) (log2_small (by omega) (by omega)) ?_
    refine we_int ?_
    refine ⟨_, 0, rfl, rfl, rfl, by first | exact .pr | exact .ow, by first | omega | (simp only [rg_len, List.length_append, List.length_cons, List.length_nil, List.length_map, List.length_range, List.length_take, List.length_drop, List.length_singleton]; omega) | (simp; omega) | (simp; done) | decide, ?_⟩
    refine ws_ret ?_
    refine we_var 2 rfl ?_
    refine aft_rt ?_
    exact ⟨rfl, rfl⟩
  · have e1 : tkV (s, t) m = ((t * 48271 + 11) % 2147483647).fdiv 7 % m := if_neg hs
    have e2 : tkS (s, t) m = (s, (t * 48271 + 11) % 2147483647) := if_neg hs
    rw [e1, e2]
    show WS _ _ _ (st0M nTake [.int s, .int t] [.int m]) _
    refine ws_if ?_
    refine wt_view ?_
    refine wt_cmp ?_
    refine we_ix ?_
    refine we_var 0 rfl ?_
    refine we_int ?_
    first | (refine ix_t (m := 0) rfl (by first | rfl | omega) (by first | rfl | exact rg_at (by omega)) ?_) | (refine ix_l (m := 0) rfl (by first | rfl | omega) (by first | rfl | exact rg_at (by omega)) ?_) | (refine ix_x (m := 0) (by first | omega | (simp only [rg_len, List.length_append, List.length_cons, List.length_nil, List.length_map, List.length_range, List.length_take, List.length_drop, List.length_singleton]; omega) | (simp; omega) | (simp; done) | decide) (by first | rfl | omega) (by first | rfl | assumption) ?_)
    refine we_int ?_
    refine cr_gt ?_
    refine ifk_F (by exact decide_eq_false hs) ?_
    refine ws_nil ?_
    refine aft_nx ?_
    refine ws_setI 0 rfl ?_
    refine we_bin ?_
    refine we_intc D.int ?_
    refine we_bin ?_
    refine we_bin ?_
    refine we_ixO 0 rfl ?_
    refine we_int ?_
    refine ⟨1, _, _, rfl, by first | exact .pr | exact .ow, rfl, by first | rfl | exact rg_at (by omega), ?_⟩
    refine we_int ?_
    refine br_mul (IntMulOk.of_right (bits64 (by decide) (by decide))) ?_
    refine we_int ?_
    first | (refine br_add ?_) | (refine br_addX (by first | omega | (simp only [rg_len, List.length_append, List.length_cons, List.length_nil, List.length_map, List.length_range, List.length_take, List.length_drop, List.length_singleton]; omega) | (simp; omega) | (simp; done) | decide) ?_) | (refine br_cat (by first | omega | (simp only [rg_len, List.length_append, List.length_cons, List.length_nil, List.length_map, List.length_range, List.length_take, List.length_drop, List.length_singleton]; omega) | (simp; omega) | (simp; done) | decide) ?_) | (refine br_tcat rfl (by first | omega | (simp only [rg_len, List.length_append, List.length_cons, List.length_nil, List.length_map, List.length_range, List.length_take, List.length_drop, List.length_singleton]; omega) | (simp; omega) | (simp; done) | decide) ?_)
    refine ⟨_, rfl, ?_⟩
    refine we_int ?_
    refine br_mod (by decide) ?_
    refine we_int ?_
    refine ⟨_, 1, rfl, rfl, rfl, by first | exact .pr | exact .ow, by first | omega | (simp only [rg_len, List.length_append, List.length_cons, List.length_nil, List.length_map, List.length_range, List.length_take, List.length_drop, List.length_singleton]; omega) | (simp; omega) | (simp; done) | decide, ?_⟩
    refine ws_ret ?_
    refine we_bin ?_
    refine we_intc D.int ?_
    refine we_bin ?_
    refine we_ixO 0 rfl ?_
    refine we_int ?_
    refine ⟨1, _, _, rfl, by first | exact .pr | exact .ow, rfl, by first | rfl | exact rg_at (by omega), ?_⟩
    refine we_int ?_
    refine br_fdiv (by decide) (by decide) ?_
    refine ⟨_, rfl, ?_⟩
    refine we_var 1 rfl ?_
    refine br_mod hm ?_
    exact ⟨rfl, rfl⟩
end
abbrev sLett : Stmt := topS 9
abbrev sWord : Stmt := topS 10
def mks : List Nat := [97, 98, 99, 120, 122]
/-- the letters drawn: what is found, what is left -/
def ltG (s0 : Int × Int) : Nat → List Nat × List Nat × (Int × Int)
  | 0 => ([], mks, s0)
  | k + 1 =>
    let p := ltG s0 k
    let at_ := (tkV p.2.2 p.2.1.length).toNat
    (p.1 ++ [p.2.1.getD at_ 0], p.2.1.take at_ ++ p.2.1.drop (at_ + 1), tkS p.2.2 p.2.1.length)
def ltN (s : Int × Int) : Nat := (1 + tkV s 4).toNat
def ltV (s : Int × Int) : List Nat := (ltG (tkS s 4) (ltN s)).1
def ltS (s : Int × Int) : Int × Int := (ltG (tkS s 4) (ltN s)).2.2
structure LtOk (k : Nat) (p : List Nat × List Nat × (Int × Int)) : Prop where
  l1 : p.1.length = k
  l2 : p.2.1.length = 5 - k
  pm : (p.1 ++ p.2.1).Perm mks
  st : StOk p.2.2
theorem ltG_ok {s0 : Int × Int} (h : StOk s0) : ∀ k, k ≤ 4 → LtOk k (ltG s0 k)
  | 0, _ => ⟨rfl, rfl, List.Perm.refl _, h⟩
  | k + 1, hk => by
    have p := ltG_ok h k (by omega)
    have hm : (0 : Int) < (ltG s0 k).2.1.length := by rw [p.l2]; omega
    obtain ⟨t1, t2⟩ := tk_lt (s := (ltG s0 k).2.2) hm
    have hlt : (tkV (ltG s0 k).2.2 (ltG s0 k).2.1.length).toNat < (ltG s0 k).2.1.length := by omega
    have hl := p.l2
    refine ⟨?_, ?_, ?_, tk_ok p.st hm⟩
    · show (_ ++ [_]).length = _
      rw [List.length_append, p.l1]; rfl
    · show (List.take _ _ ++ List.drop _ _).length = _
      rw [List.length_append, List.length_take, List.length_drop]; omega
    · refine List.Perm.trans ?_ p.pm
      show ((ltG s0 k).1 ++ [_] ++ (List.take _ _ ++ List.drop _ _)).Perm _
      rw [List.append_assoc]
      refine List.Perm.append_left _ ?_
      generalize (tkV (ltG s0 k).2.2 (ltG s0 k).2.1.length).toNat = a at hlt ⊢
      generalize (ltG s0 k).2.1 = m at hlt ⊢
      have e : m = m.take a ++ (m.getD a 0 :: m.drop (a + 1)) := by
        rw [List.getD_eq_getElem?_getD, List.getElem?_eq_getElem hlt]
        show m = m.take a ++ (m[a] :: m.drop (a + 1))
        rw [List.getElem_cons_drop, List.take_append_drop]
      refine List.Perm.trans ?_ (List.Perm.of_eq e.symm)
      exact (List.perm_middle (a := m.getD a 0) (l₁ := m.take a) (l₂ := m.drop (a + 1))).symm
theorem ltV_ok {s : Int × Int} (h : StOk s) : AlOk (ltV s) ∧ 113 ∉ ltV s ∧ StOk (ltS s) := by
  obtain ⟨t1, t2⟩ := tk_lt (s := s) (m := 4) (by decide)
  have hn : ltN s ≤ 4 ∧ 1 ≤ ltN s := by unfold ltN; omega
  have p := ltG_ok (tk_ok h (by decide) : StOk (tkS s 4)) (ltN s) (by omega)
  have nd : ((ltG (tkS s 4) (ltN s)).1 ++ (ltG (tkS s 4) (ltN s)).2.1).Nodup := p.pm.nodup_iff.mpr (by decide)
  have hm : ∀ x ∈ ltV s, x ∈ mks := fun x hx => p.pm.mem_iff.mp (List.mem_append_left _ hx)
  exact ⟨⟨by unfold ltV; rw [p.l1]; omega, by unfold ltV; rw [p.l1]; omega, fun x hx => (by decide : ∀ x ∈ mks, 97 ≤ x ∧ x ≤ 122) x (hm x hx), (List.nodup_append.mp nd).1⟩, fun z => absurd (hm _ z) (by decide), p.st⟩
/-- a letter drawn -/
def lcV (L : List Nat) (s : Int × Int) : Nat := L.getD (tkV s L.length).toNat 0
theorem lc_at {L : List Nat} (hL : 1 ≤ L.length) (s : Int × Int) : L[(tkV s L.length).toNat]? = some (lcV L s) ∧ lcV L s ∈ L ∧ 0 ≤ tkV s L.length ∧ tkV s L.length < L.length := by
  obtain ⟨t1, t2⟩ := tk_lt (s := s) (m := L.length) (by omega)
  have h : (tkV s L.length).toNat < L.length := by omega
  unfold lcV
  rw [List.getD_eq_getElem?_getD, List.getElem?_eq_getElem h]
  exact ⟨rfl, List.getElem_mem h, t1, t2⟩
/-- a word drawn, letter by letter -/
def lwG (L : List Nat) (s0 : Int × Int) : Nat → List Nat × (Int × Int)
  | 0 => ([], s0)
  | k + 1 => ((lwG L s0 k).1 ++ [lcV L (lwG L s0 k).2], tkS (lwG L s0 k).2 L.length)
theorem lwG_ok {L : List Nat} (hL : 1 ≤ L.length) {s0 : Int × Int} (h : StOk s0) : ∀ k, (lwG L s0 k).1.length = k ∧ (∀ q ∈ (lwG L s0 k).1, q ∈ L) ∧ StOk (lwG L s0 k).2
  | 0 => ⟨rfl, fun x hx => (by cases hx), h⟩
  | k + 1 => by
    obtain ⟨a, b, c⟩ := lwG_ok hL h k
    refine ⟨?_, fun x hx => ?_, tk_ok c (by omega)⟩
    · show (_ ++ [_]).length = _
      rw [List.length_append, a]; rfl
    · rcases List.mem_append.mp hx with hx | hx
      · exact b x hx
      · rw [List.mem_singleton.mp hx]; exact (lc_at hL _).2.1
def lwN (s : Int × Int) : Nat := (tkV s 7).toNat
def lwV (L : List Nat) (s : Int × Int) : List Nat := (lwG L (tkS s 7) (lwN s)).1
def lwS (L : List Nat) (s : Int × Int) : Int × Int := (lwG L (tkS s 7) (lwN s)).2
theorem lwV_ok {L : List Nat} (hL : 1 ≤ L.length) {s : Int × Int} (h : StOk s) : (lwV L s).length ≤ 6 ∧ (∀ q ∈ lwV L s, q ∈ L) ∧ StOk (lwS L s) := by
  obtain ⟨t1, t2⟩ := tk_lt (s := s) (m := 7) (by decide)
  obtain ⟨a, b, c⟩ := lwG_ok hL (tk_ok h (by decide) : StOk (tkS s 7)) (lwN s)
  exact ⟨by unfold lwV; rw [a]; unfold lwN; omega, b, c⟩
def RLett (xs ds : List Dt) (r : Dt) (ys : List Dt) : Prop := ∃ s : Int × Int, xs = dSt s ∧ ds = [.int 4] ∧ StOk s ∧ r = .str (sx (ltV s)) ∧ ys = dSt (ltS s)
def RWord (xs ds : List Dt) (r : Dt) (ys : List Dt) : Prop := ∃ (s : Int × Int) (L : List Nat), xs = dSt s ∧ ds = [.str (sx L), .int 6] ∧ StOk s ∧ 1 ≤ L.length ∧ L.length ≤ 4 ∧ r = .str (sx (lwV L s)) ∧ ys = dSt (lwS L s)
section
variable {P : Program} {w : World} {K : PySem.W.Frag} {T : Ct} {mg : Str → Option Value} {base : Heap} {f CR : Addr} {fd : FuncData}
abbrev nLett : List Str := ["state", "most", "marks", "found", "k", "at"]
theorem scLett : FnScope nLett ["state", "most"] (defScope sLett) := ⟨rfl, rfl, rfl, by decide +kernel, rfl, by decide +kernel, by decide +kernel⟩
abbrev nWord : List Str := ["state", "letters", "most", "word", "k"]
theorem scWord : FnScope nWord ["state", "letters", "most"] (defScope sWord) := ⟨rfl, rfl, rfl, by decide +kernel, rfl, by decide +kernel, by decide +kernel⟩
theorem ok_lett (F : Fun K "_law_letters" "_law_letters" sLett f fd) (D : Md K T mg CR) (Tk : DM P w K T mg base "_law_take" 1 RTake) : FnOk P w K mg base CX0 2 f fd ["state", "most"] (spM K T RLett) := by
  refine okMw F scLett (fun xs ds r ys h => by obtain ⟨_, _, rfl, _⟩ := h; rfl) fun cdv A outer s' H E' pa xs ds r ys hr hR => ?_
  obtain ⟨s, rfl, rfl, ok, rfl, rfl⟩ := hR
  obtain ⟨t1, t2⟩ := tk_lt (s := s) (m := 4) (by decide)
  have hn : ltN s ≤ 4 ∧ ((ltN s : Nat) : Int) = 1 + tkV s 4 := by unfold ltN; omega
  have G := ltG_ok (tk_ok ok (by decide) : StOk (tkS s 4))
  unfold ltV ltS
  generalize ltN s = m at hn G
  obtain ⟨s1, hs1⟩ : ∃ s1, tkS s 4 = s1 := ⟨_, rfl⟩
  rw [hs1] at G ⊢
  refine ws_set 2 scLett.nd ?_
  refine we_str [97, 98, 99, 120, 122] ?_
  refine ws_set 3 scLett.nd ?_
  refine we_str [] ?_
  refine ws_for (fun i => [some (.pr 0 (dSt (ltG s1 i).2.2)), some (.fr (.int 4)), some (.fr (.str (sx (ltG s1 i).2.1))), some (.fr (.str (sx (ltG s1 i).1))), slot (fun i => .int i) i, none]) (m) ?_
  refine wi_range1 D.ran ?_
  refine we_bin ?_
  refine we_int ?_
  refine we_dm 0 rfl Tk rfl (hr.mono (by omega)) ?_
  refine wa_cons ?_
  refine we_var 1 rfl ?_
  refine wa_nil ?_
  refine ⟨_, _, _, rfl, .pr, ⟨s, 4, rfl, rfl, ok, by decide, by decide, rfl, rfl⟩, ?_⟩
  first | (refine br_add ?_) | (refine br_addX (by first | omega | (simp only [rg_len, List.length_append, List.length_cons, List.length_nil, List.length_map, List.length_range, List.length_take, List.length_drop, List.length_singleton]; omega) | (simp; omega) | (simp; done) | decide) ?_) | (refine br_cat (by first | omega | (simp only [rg_len, List.length_append, List.length_cons, List.length_nil, List.length_map, List.length_range, List.length_take, List.length_drop, List.length_singleton]; omega) | (simp; omega) | (simp; done) | decide) ?_) | (refine br_tcat rfl (by first | omega | (simp only [rg_len, List.length_append, List.length_cons, List.length_nil, List.length_map, List.length_range, List.length_take, List.length_drop, List.length_singleton]; omega) | (simp; omega) | (simp; done) | decide) ?_)
  refine ⟨m, congrArg Dt.int (by omega), by omega, ?_⟩
  refine ⟨by (rw [← hs1]; rfl), by first | rfl | (simp only [rg_len, List.length_map, List.length_range]; done) | (simp [rg_len]; done) | (simp [rg_len]; omega), ?_, ?_⟩
  · skip
    intro i d hd
    obtain ⟨hi, rfl⟩ := rg_get hd
    have p := G i (by omega)
    have p1 := p.l1
    have p2 := p.l2
    have hm : (0 : Int) < (ltG s1 i).2.1.length := by omega
    obtain ⟨u1, u2⟩ := tk_lt (s := (ltG s1 i).2.2) hm
    have hlt : (tkV (ltG s1 i).2.2 (ltG s1 i).2.1.length).toNat < (ltG s1 i).2.1.length := by omega
    have hg : (ltG s1 i).2.1[(tkV (ltG s1 i).2.2 (ltG s1 i).2.1.length).toNat]? = some ((ltG s1 i).2.1.getD (tkV (ltG s1 i).2.2 (ltG s1 i).2.1.length).toNat 0) := by rw [List.getD_eq_getElem?_getD, List.getElem?_eq_getElem hlt]; rfl
    refine wg_name 4 scLett.nd ?_
    refine ws_set 5 scLett.nd ?_
    refine we_dm 0 rfl Tk rfl (hr.mono (by omega)) ?_
    refine wa_cons ?_
    refine we_len rfl D.len ?_
    refine we_var 2 rfl ?_
    first | (refine len_x (by first | omega | (simp only [rg_len, List.length_append, List.length_cons, List.length_nil, List.length_map, List.length_range, List.length_take, List.length_drop, List.length_singleton]; omega) | (simp; omega) | (simp; done) | decide) ?_) | (refine len_l ?_) | (refine len_t ?_) | (refine len_r ?_)
    refine wa_nil ?_
    refine ⟨_, _, _, rfl, .pr, ⟨(ltG s1 i).2.2, _, rfl, rfl, p.st, hm, by omega, rfl, rfl⟩, ?_⟩
    refine ws_set 3 scLett.nd ?_
    refine we_bin ?_
    refine we_var 3 rfl ?_
    refine we_ix ?_
    refine we_var 2 rfl ?_
    refine we_var 5 rfl ?_
    refine ix_x (by omega) (by omega) hg ?_
    first | (refine br_add ?_) | (refine br_addX (by first | omega | (simp only [rg_len, List.length_append, List.length_cons, List.length_nil, List.length_map, List.length_range, List.length_take, List.length_drop, List.length_singleton]; omega) | (simp; omega) | (simp; done) | decide) ?_) | (refine br_cat (by first | omega | (simp only [rg_len, List.length_append, List.length_cons, List.length_nil, List.length_map, List.length_range, List.length_take, List.length_drop, List.length_singleton]; omega) | (simp; omega) | (simp; done) | decide) ?_) | (refine br_tcat rfl (by first | omega | (simp only [rg_len, List.length_append, List.length_cons, List.length_nil, List.length_map, List.length_range, List.length_take, List.length_drop, List.length_singleton]; omega) | (simp; omega) | (simp; done) | decide) ?_)
    refine ws_set 2 scLett.nd ?_
    refine we_bin ?_
    refine we_cutHi ?_
    refine we_var 2 rfl ?_
    refine we_var 5 rfl ?_
    refine cut_hiX (by omega) (by omega) ?_
    refine we_cutLo ?_
    refine we_var 2 rfl ?_
    refine we_bin ?_
    refine we_var 5 rfl ?_
    refine we_int ?_
    first | (refine br_add ?_) | (refine br_addX (by first | omega | (simp only [rg_len, List.length_append, List.length_cons, List.length_nil, List.length_map, List.length_range, List.length_take, List.length_drop, List.length_singleton]; omega) | (simp; omega) | (simp; done) | decide) ?_) | (refine br_cat (by first | omega | (simp only [rg_len, List.length_append, List.length_cons, List.length_nil, List.length_map, List.length_range, List.length_take, List.length_drop, List.length_singleton]; omega) | (simp; omega) | (simp; done) | decide) ?_) | (refine br_tcat rfl (by first | omega | (simp only [rg_len, List.length_append, List.length_cons, List.length_nil, List.length_map, List.length_range, List.length_take, List.length_drop, List.length_singleton]; omega) | (simp; omega) | (simp; done) | decide) ?_)
    refine cut_loX (by omega) (by omega) ?_
    first | (refine br_add ?_) | (refine br_addX (by first | omega | (simp only [rg_len, List.length_append, List.length_cons, List.length_nil, List.length_map, List.length_range, List.length_take, List.length_drop, List.length_singleton]; omega) | (simp; omega) | (simp; done) | decide) ?_) | (refine br_cat (by first | omega | (simp only [rg_len, List.length_append, List.length_cons, List.length_nil, List.length_map, List.length_range, List.length_take, List.length_drop, List.length_singleton]; omega) | (simp; omega) | (simp; done) | decide) ?_) | (refine br_tcat rfl (by first | omega | (simp only [rg_len, List.length_append, List.length_cons, List.length_nil, List.length_map, List.length_range, List.length_take, List.length_drop, List.length_singleton]; omega) | (simp; omega) | (simp; done) | decide) ?_)
    rw [show (tkV (ltG s1 i).2.2 (ltG s1 i).2.1.length + 1).toNat = (tkV (ltG s1 i).2.2 (ltG s1 i).2.1.length).toNat + 1 by omega]
    refine ws_forget 5 ?_
    refine ws_nil ?_
    refine .inl ?_
    rfl
  refine ws_ret ?_
  refine we_var 3 rfl ?_
  exact ⟨rfl, rfl⟩
theorem ok_word (F : Fun K "_law_word" "_law_word" sWord f fd) (D : Md K T mg CR) (Tk : DM P w K T mg base "_law_take" 1 RTake) : FnOk P w K mg base CX0 2 f fd ["state", "letters", "most"] (spM K T RWord) := by
  refine okMw F scWord (fun xs ds r ys h => by obtain ⟨_, _, _, rfl, _⟩ := h; rfl) fun cdv A outer s' H E' pa xs ds r ys hr hR => ?_
  obtain ⟨s, L, rfl, rfl, ok, l1, l3, rfl, rfl⟩ := hR
  obtain ⟨t1, t2⟩ := tk_lt (s := s) (m := 7) (by decide)
  have hn : ((lwN s : Nat) : Int) = tkV s 7 := by unfold lwN; omega
  have G := lwG_ok l1 (tk_ok ok (by decide) : StOk (tkS s 7))
  unfold lwV lwS
  generalize lwN s = m at hn
  obtain ⟨s1, hs1⟩ : ∃ s1, tkS s 7 = s1 := ⟨_, rfl⟩
  rw [hs1] at G ⊢
  refine ws_set 3 scWord.nd ?_
  refine we_str [] ?_
  refine ws_for (fun i => [some (.pr 0 (dSt (lwG L s1 i).2)), some (.fr (.str (sx L))), some (.fr (.int 6)), some (.fr (.str (sx (lwG L s1 i).1))), slot (fun i => .int i) i]) (m) ?_
  refine wi_range1 D.ran ?_
  refine we_dm 0 rfl Tk rfl (hr.mono (by omega)) ?_
  refine wa_cons ?_
  refine we_bin ?_
  refine we_var 2 rfl ?_
  refine we_int ?_
  first | (refine br_add ?_) | (refine br_addX (by first | omega | (simp only [rg_len, List.length_append, List.length_cons, List.length_nil, List.length_map, List.length_range, List.length_take, List.length_drop, List.length_singleton]; omega) | (simp; omega) | (simp; done) | decide) ?_) | (refine br_cat (by first | omega | (simp only [rg_len, List.length_append, List.length_cons, List.length_nil, List.length_map, List.length_range, List.length_take, List.length_drop, List.length_singleton]; omega) | (simp; omega) | (simp; done) | decide) ?_) | (refine br_tcat rfl (by first | omega | (simp only [rg_len, List.length_append, List.length_cons, List.length_nil, List.length_map, List.length_range, List.length_take, List.length_drop, List.length_singleton]; omega) | (simp; omega) | (simp; done) | decide) ?_)
  refine wa_nil ?_
  refine ⟨_, _, _, rfl, .pr, ⟨s, 7, rfl, rfl, ok, by decide, by decide, rfl, rfl⟩, ?_⟩
  refine ⟨m, congrArg Dt.int (by omega), by omega, ?_⟩
  refine ⟨by (rw [← hs1]; rfl), by first | rfl | (simp only [rg_len, List.length_map, List.length_range]; done) | (simp [rg_len]; done) | (simp [rg_len]; omega), ?_, ?_⟩
  · skip
    intro i d hd
    obtain ⟨hi, rfl⟩ := rg_get hd
    obtain ⟨p1, p2, p3⟩ := G i
    obtain ⟨q1, q2, q3, q4⟩ := lc_at l1 (lwG L s1 i).2
    refine wg_name 4 scWord.nd ?_
    refine ws_set 3 scWord.nd ?_
    refine we_bin ?_
    refine we_var 3 rfl ?_
    refine we_ix ?_
    refine we_var 1 rfl ?_
    refine we_dm 0 rfl Tk rfl (hr.mono (by omega)) ?_
    refine wa_cons ?_
    refine we_len rfl D.len ?_
    refine we_var 1 rfl ?_
    first | (refine len_x (by first | omega | (simp only [rg_len, List.length_append, List.length_cons, List.length_nil, List.length_map, List.length_range, List.length_take, List.length_drop, List.length_singleton]; omega) | (simp; omega) | (simp; done) | decide) ?_) | (refine len_l ?_) | (refine len_t ?_) | (refine len_r ?_)
    refine wa_nil ?_
    refine ⟨_, _, _, rfl, .pr, ⟨(lwG L s1 i).2, L.length, rfl, rfl, p3, by omega, by omega, rfl, rfl⟩, ?_⟩
    refine ix_x (by omega) (by omega) q1 ?_
    first | (refine br_add ?_) | (refine br_addX (by first | omega | (simp only [rg_len, List.length_append, List.length_cons, List.length_nil, List.length_map, List.length_range, List.length_take, List.length_drop, List.length_singleton]; omega) | (simp; omega) | (simp; done) | decide) ?_) | (refine br_cat (by first | omega | (simp only [rg_len, List.length_append, List.length_cons, List.length_nil, List.length_map, List.length_range, List.length_take, List.length_drop, List.length_singleton]; omega) | (simp; omega) | (simp; done) | decide) ?_) | (refine br_tcat rfl (by first | omega | (simp only [rg_len, List.length_append, List.length_cons, List.length_nil, List.length_map, List.length_range, List.length_take, List.length_drop, List.length_singleton]; omega) | (simp; omega) | (simp; done) | decide) ?_)
    refine ws_nil ?_
    first | exact .inl rfl | exact .inr rfl
  refine ws_ret ?_
  refine we_var 3 rfl ?_
  exact ⟨rfl, rfl⟩
end
end My
set_option autoImplicit false
set_option maxRecDepth 100000
set_option maxHeartbeats 4000000
set_option exponentiation.threshold 100000
namespace My
open PySem PySem.Spec PyProof.Rows L2 Dv Mq
open Gn
abbrev sLRk : Stmt := topS 12
/-- how many shorter words -/
def gsN (n : Nat) : Nat → Nat
  | 0 => 0
  | k + 1 => gsN n k + n ^ k
theorem gs_succ (n : Nat) : ∀ k, gsN n (k + 1) = gsN n k * n + 1
  | 0 => by simp [gsN]
  | k + 1 => by
    have h := gs_succ n k
    show gsN n (k + 1) + n ^ (k + 1) = (gsN n k + n ^ k) * n + 1
    rw [h, Nat.add_mul, Nat.pow_succ]; omega
def plN (n : Nat) (ks : List Nat) : Nat := ks.foldl (fun x k => x * n + k) 0
theorem plN_snoc (n : Nat) (ks : List Nat) (k : Nat) : plN n (ks ++ [k]) = plN n ks * n + k := by unfold plN; rw [List.foldl_append]; rfl
theorem rk_eq (n : Nat) (ks : List Nat) : ∀ m, m ≤ ks.length → rkN n (ks.take m) = gsN n m + plN n (ks.take m)
  | 0, _ => by simp [rkN, gsN, plN]
  | m + 1, h => by
    have ih := rk_eq n ks m (by omega)
    have e : ks[m]? = some ks[m] := List.getElem?_eq_getElem (by omega)
    rw [List.take_add_one, e, Option.toList_some, rkN_snoc, plN_snoc, gs_succ, ih, Nat.add_mul]; omega
def RLRk (ds : List Dt) (r : Dt) : Prop := ∃ (l u : List Nat), ds = [.str (sx l), .str (sx u)] ∧ AlOk l ∧ (∀ q ∈ u, q ∈ l) ∧ u.length ≤ 6 ∧ r = .int (rkN l.length (plc l u) : Nat)
section
variable {P : Program} {w : World} {K : PySem.W.Frag} {T : Ct} {mg : Str → Option Value} {base : Heap} {f CR : Addr} {fd : FuncData}
abbrev nLRk : List Str := ["letters", "word", "total", "k", "many", "turn", "place", "letter"]
theorem scLRk : FnScope nLRk ["letters", "word"] (defScope sLRk) := ⟨rfl, rfl, rfl, by decide +kernel, rfl, by decide +kernel, by decide +kernel⟩
theorem ok_lrk (F : Fun K "_law_rank" "_law_rank" sLRk f fd) (D : Md K T mg CR) : FnOk P w K mg base CX0 1 f fd ["letters", "word"] (spD K T RLRk) := by
  refine okDw F scLRk (fun ds r h => by obtain ⟨_, _, rfl, _⟩ := h; rfl) fun cdv A outer s' H E' pa ds r hr hR => ?_
  obtain ⟨l, u, rfl, hl, hu, hul, rfl⟩ := hR
  have h4 := hl.hi
  have hpl := plc_lt hu
  have hlen : (plc l u).length = u.length := List.length_map ..
  have hrk := rk_eq l.length (plc l u) u.length (by omega)
  rw [← hlen, List.take_length] at hrk
  refine ws_set 2 scLRk.nd ?_
  refine we_int ?_
  refine ws_for (fun i => [some (.fr (.str (sx l))), some (.fr (.str (sx u))), some (.fr (.int (gsN l.length i : Nat))), slot (fun i => .int i) i, none, none, none, none]) (u.length) ?_
  refine wi_range1 D.ran ?_
  refine we_len rfl D.len ?_
  refine we_var 1 rfl ?_
  first | (refine len_x (by first | omega | (simp only [rg_len, List.length_append, List.length_cons, List.length_nil, List.length_map, List.length_range, List.length_take, List.length_drop, List.length_singleton]; omega) | (simp; omega) | (simp; done) | decide) ?_) | (refine len_l ?_) | (refine len_t ?_) | (refine len_r ?_)
  refine ⟨u.length, rfl, by omega, ?_⟩
  refine ⟨by rfl, by first | rfl | (simp only [rg_len, List.length_map, List.length_range]; done) | (simp [rg_len]; done) | (simp [rg_len]; omega), ?_, ?_⟩
  · skip
    intro i d hd
    obtain ⟨hi, rfl⟩ := rg_get hd
    refine wg_name 3 scLRk.nd ?_
    refine ws_set 4 scLRk.nd ?_
    refine we_int ?_
    refine ws_for (fun j => [some (.fr (.str (sx l))), some (.fr (.str (sx u))), some (.fr (.int (gsN l.length i : Nat))), some (.fr (.int i)), some (.fr (.int (l.length ^ j : Nat))), slot (fun i => .int i) j, none, none]) (i) ?_
    refine wi_range1 D.ran ?_
    refine we_var 3 rfl ?_
    refine ⟨i, rfl, by omega, ?_⟩
    refine ⟨by rfl, by first | rfl | (simp only [rg_len, List.length_map, List.length_range]; done) | (simp [rg_len]; done) | (simp [rg_len]; omega), ?_, ?_⟩
    · skip
      intro j d hd
      obtain ⟨hj, rfl⟩ := rg_get hd
      have hp : l.length ^ j ≤ 4 ^ 6 := Nat.le_trans (Nat.pow_le_pow_left h4 j) (Nat.pow_le_pow_right (by decide) (by omega))
      refine wg_name 5 scLRk.nd ?_
      refine ws_set 4 scLRk.nd ?_
      refine we_bin ?_
      refine we_var 4 rfl ?_
      refine we_len rfl D.len ?_
      refine we_var 0 rfl ?_
      first | (refine len_x (by first | omega | (simp only [rg_len, List.length_append, List.length_cons, List.length_nil, List.length_map, List.length_range, List.length_take, List.length_drop, List.length_singleton]; omega) | (simp; omega) | (simp; done) | decide) ?_) | (refine len_l ?_) | (refine len_t ?_) | (refine len_r ?_)
      refine br_mul (IntMulOk.of_right (bits64 (by omega) (by omega))) ?_
      skip
      refine ws_nil ?_
      first | exact .inl rfl | exact .inr rfl
    refine ws_set 2 scLRk.nd ?_
    refine we_bin ?_
    refine we_var 2 rfl ?_
    refine we_var 4 rfl ?_
    first | (refine br_add ?_) | (refine br_addX (by first | omega | (simp only [rg_len, List.length_append, List.length_cons, List.length_nil, List.length_map, List.length_range, List.length_take, List.length_drop, List.length_singleton]; omega) | (simp; omega) | (simp; done) | decide) ?_) | (refine br_cat (by first | omega | (simp only [rg_len, List.length_append, List.length_cons, List.length_nil, List.length_map, List.length_range, List.length_take, List.length_drop, List.length_singleton]; omega) | (simp; omega) | (simp; done) | decide) ?_) | (refine br_tcat rfl (by first | omega | (simp only [rg_len, List.length_append, List.length_cons, List.length_nil, List.length_map, List.length_range, List.length_take, List.length_drop, List.length_singleton]; omega) | (simp; omega) | (simp; done) | decide) ?_)
    refine ws_forget 4 (ws_forget 5 ?_)
    refine ws_nil ?_
    first | exact .inl rfl | exact .inr rfl
  refine ws_set 6 scLRk.nd ?_
  refine we_int ?_
  refine ws_for (fun i => [some (.fr (.str (sx l))), some (.fr (.str (sx u))), some (.fr (.int (gsN l.length u.length : Nat))), slot (fun i => .int i) u.length, none, none, some (.fr (.int (plN l.length ((plc l u).take i) : Nat))), slot (fun i => .str (sx [u.getD i 0])) i]) (u.length) ?_
  refine wi_val rfl ?_
  refine we_var 1 rfl ?_
  first | (refine it_l ?_) | (refine it_t ?_) | (refine it_r ?_) | (refine it_x ?_)
  refine ⟨by rfl, by first | rfl | (simp only [rg_len, List.length_map, List.length_range]; done) | (simp [rg_len]; done) | (simp [rg_len]; omega), ?_, ?_⟩
  · skip
    intro i d hd
    obtain ⟨q, hq0, rfl⟩ := map_get hd
    have hi : i < u.length := (List.getElem?_eq_some_iff.mp hq0).1
    have eq : u.getD i 0 = q := by rw [List.getD_eq_getElem?_getD, hq0]; rfl
    have hq : q ∈ l := hu q (List.mem_of_getElem? hq0)
    refine wg_name 7 scLRk.nd ?_
    refine ws_set 6 scLRk.nd ?_
    refine we_bin ?_
    refine we_bin ?_
    refine we_var 6 rfl ?_
    refine we_len rfl D.len ?_
    refine we_var 0 rfl ?_
    first | (refine len_x (by first | omega | (simp only [rg_len, List.length_append, List.length_cons, List.length_nil, List.length_map, List.length_range, List.length_take, List.length_drop, List.length_singleton]; omega) | (simp; omega) | (simp; done) | decide) ?_) | (refine len_l ?_) | (refine len_t ?_) | (refine len_r ?_)
    refine br_mul (IntMulOk.of_right (bits64 (by omega) (by omega))) ?_
    refine we_is (xd_findX (xd_var 0) (xd_var 7) hq) ?_
    first | (refine br_add ?_) | (refine br_addX (by first | omega | (simp only [rg_len, List.length_append, List.length_cons, List.length_nil, List.length_map, List.length_range, List.length_take, List.length_drop, List.length_singleton]; omega) | (simp; omega) | (simp; done) | decide) ?_) | (refine br_cat (by first | omega | (simp only [rg_len, List.length_append, List.length_cons, List.length_nil, List.length_map, List.length_range, List.length_take, List.length_drop, List.length_singleton]; omega) | (simp; omega) | (simp; done) | decide) ?_) | (refine br_tcat rfl (by first | omega | (simp only [rg_len, List.length_append, List.length_cons, List.length_nil, List.length_map, List.length_range, List.length_take, List.length_drop, List.length_singleton]; omega) | (simp; omega) | (simp; done) | decide) ?_)
    refine ws_nil ?_
    refine .inl ?_
    have e0 : (plc l u)[i]? = some (l.idxOf q) := by unfold plc; rw [List.getElem?_map, hq0]; rfl
    have ev : ((plN l.length ((plc l u).take (i + 1)) : Nat) : Int) = (plN l.length ((plc l u).take i) : Nat) * (l.length : Int) + ((l.idxOf q : Nat) : Int) := by
      rw [List.take_add_one, e0, Option.toList_some, plN_snoc, Int.natCast_add, Int.natCast_mul]
    show Out.nx _ = .nx [_, _, _, _, _, _, some (.fr (.int ((plN l.length ((plc l u).take (i + 1)) : Nat) : Int))), some (.fr (.str (sx [u.getD i 0])))]
    rw [ev, eq]; rfl
  refine ws_ret ?_
  refine we_bin ?_
  refine we_var 2 rfl ?_
  refine we_var 6 rfl ?_
  first | (refine br_add ?_) | (refine br_addX (by first | omega | (simp only [rg_len, List.length_append, List.length_cons, List.length_nil, List.length_map, List.length_range, List.length_take, List.length_drop, List.length_singleton]; omega) | (simp; omega) | (simp; done) | decide) ?_) | (refine br_cat (by first | omega | (simp only [rg_len, List.length_append, List.length_cons, List.length_nil, List.length_map, List.length_range, List.length_take, List.length_drop, List.length_singleton]; omega) | (simp; omega) | (simp; done) | decide) ?_) | (refine br_tcat rfl (by first | omega | (simp only [rg_len, List.length_append, List.length_cons, List.length_nil, List.length_map, List.length_range, List.length_take, List.length_drop, List.length_singleton]; omega) | (simp; omega) | (simp; done) | decide) ?_)
  rw [← hlen, List.take_length, hrk]; rfl
end
end My
set_option autoImplicit false
set_option maxRecDepth 100000
set_option maxHeartbeats 4000000
set_option exponentiation.threshold 100000
namespace My
open PySem PySem.Spec PyProof.Rows L2 Dv Mq
open Gn
theorem bk_fuel {n : Nat} (hn : 1 ≤ n) : ∀ d e r, r ≤ d → r ≤ e → bkN n d r = bkN n e r
  | 0, e, r, h, _ => by
    have z : r = 0 := by omega
    subst z
    cases e <;> rfl
  | d + 1, e, 0, _, _ => by cases e <;> rfl
  | d + 1, 0, r + 1, _, h => by omega
  | d + 1, e + 1, r + 1, h1, h2 => by
    show (r % n) :: bkN n d (r / n) = (r % n) :: bkN n e (r / n)
    have h3 := Nat.div_le_self r n
    rw [bk_fuel hn d e (r / n) (by omega) (by omega)]
theorem bk_rk {n : Nat} (hn : 1 ≤ n) : ∀ rs : List Nat, (∀ k ∈ rs, k < n) → bkN n (rkN n rs.reverse) (rkN n rs.reverse) = rs
  | [], _ => rfl
  | k :: t, h => by
    have hk := h k (List.mem_cons_self ..)
    have ih := bk_rk hn t fun x hx => h x (List.mem_cons_of_mem _ hx)
    rw [List.reverse_cons, rkN_snoc]
    generalize rkN n t.reverse = x at ih
    show ((x * n + k) % n) :: bkN n (x * n + k) ((x * n + k) / n) = k :: t
    have e1 : (x * n + k) % n = k := by rw [Nat.add_comm, Nat.add_mul_mod_self_right]; exact Nat.mod_eq_of_lt hk
    have e2 : (x * n + k) / n = x := by rw [Nat.add_comm, Nat.add_mul_div_right _ _ (by omega), Nat.div_eq_of_lt hk]; omega
    have e3 : x ≤ x * n + k := Nat.le_trans (Nat.le_mul_of_pos_right x (by omega)) (Nat.le_add_right _ _)
    rw [e1, e2, bk_fuel hn (x * n + k) x x e3 (Nat.le_refl _), ih]
theorem wd_rk {n : Nat} (hn : 1 ≤ n) {ks : List Nat} (h : ∀ k ∈ ks, k < n) : wdN n (rkN n ks) = ks := by
  have := bk_rk hn ks.reverse fun k hk => h k (List.mem_reverse.mp hk)
  rw [List.reverse_reverse] at this
  unfold wdN
  rw [this, List.reverse_reverse]
/-- a word of the alphabet is the word of its rank -/
theorem wdD_rk {l u : List Nat} (hl : AlOk l) (hu : ∀ q ∈ u, q ∈ l) : wdD l (rkN l.length (plc l u)) = u := by
  unfold wdD
  rw [wd_rk hl.lo (plc_lt hu)]
  unfold plc
  rw [List.map_map]
  have e : ∀ q ∈ u, ((fun k => l.getD k 0) ∘ fun q => l.idxOf q) q = q := fun q hq => by
    have hi := List.idxOf_lt_length_of_mem (hu q hq)
    show l.getD (l.idxOf q) 0 = q
    rw [List.getD_eq_getElem?_getD, List.getElem?_eq_getElem hi]
    exact List.getElem_idxOf hi
  rw [List.map_congr_left e, List.map_id']
/-- the places of the word of a rank -/
theorem rk_wd : ∀ n m, Sm n m → ∀ r, r < cnN n m → rkN n (wdN n r) = r ∧ ∀ k ∈ wdN n r, k < n := by
  rintro n m ⟨h1, h2, h3, h4⟩
  have key : ∀ n, n ≤ 4 → ∀ m, m ≤ 4 → 1 ≤ n → (n = 4 → m ≤ 3) → ((List.range (cnN n m)).all fun r => decide (rkN n (wdN n r) = r) && (wdN n r).all fun k => decide (k < n)) = true := by decide +kernel
  intro r hr
  have a := List.all_eq_true.mp (key n h2 m h3 h1 h4) r (List.mem_range.mpr hr)
  rw [Bool.and_eq_true] at a
  exact ⟨of_decide_eq_true a.1, fun k hk => of_decide_eq_true (List.all_eq_true.mp a.2 k hk)⟩
end My
set_option autoImplicit false
set_option maxRecDepth 100000
set_option maxHeartbeats 4000000
set_option exponentiation.threshold 100000
namespace My
open PySem PySem.Spec PyProof.Rows L2 Dv Mq
open Gn
abbrev sLWs : Stmt := topS 11
/-- one letter more -/
def wsL (l : List Nat) (rows : List (List Nat)) : List (List Nat) := rows.flatMap fun w => l.map fun q => w ++ [q]
def rowsL (l : List Nat) : Nat → List (List Nat)
  | 0 => [[]]
  | k + 1 => wsL l (rowsL l k)
def allL (l : List Nat) : Nat → List (List Nat)
  | 0 => [[]]
  | k + 1 => allL l k ++ rowsL l (k + 1)
def dWl (ws : List (List Nat)) : List Dt := ws.map fun w => .str (sx w)
theorem wsL_take {l : List Nat} {rows : List (List Nat)} {i : Nat} {v : List Nat} (h : rows[i]? = some v) : wsL l (rows.take (i + 1)) = wsL l (rows.take i) ++ l.map fun q => v ++ [q] := by
  unfold wsL
  rw [List.take_add_one, h, Option.toList_some, List.flatMap_append]
  simp
theorem wsL_len (l : List Nat) (rows : List (List Nat)) : (wsL l rows).length = rows.length * l.length := by
  unfold wsL
  induction rows with
  | nil => simp
  | cons w t ih => rw [List.flatMap_cons, List.length_append, ih, List.length_map, List.length_cons, Nat.add_mul]; omega
theorem rowsL_len (l : List Nat) : ∀ k, (rowsL l k).length = l.length ^ k
  | 0 => rfl
  | k + 1 => by show (wsL l (rowsL l k)).length = _; rw [wsL_len, rowsL_len l k, Nat.pow_succ]
theorem rowsL_mem (l : List Nat) : ∀ k w, w ∈ rowsL l k → w.length = k
  | 0, w, h => by rw [List.mem_singleton.mp h]; rfl
  | k + 1, w, h => by
    obtain ⟨v, hv, hw⟩ := List.mem_flatMap.mp (show w ∈ wsL l (rowsL l k) from h)
    obtain ⟨q, _, rfl⟩ := List.mem_map.mp hw
    rw [List.length_append, rowsL_mem l k v hv]; rfl
/-- the same on places -/
theorem rows_map (f : Nat → Nat) (ks : List Nat) : ∀ k, rowsL (ks.map f) k = (rowsL ks k).map fun w => w.map f
  | 0 => rfl
  | k + 1 => by
    show wsL (ks.map f) (rowsL (ks.map f) k) = (wsL ks (rowsL ks k)).map _
    rw [rows_map f ks k]
    unfold wsL
    rw [List.map_flatMap, List.flatMap_map]
    congr 1
    funext w
    rw [List.map_map, List.map_map]
    congr 1
    funext q
    simp
theorem all_map (f : Nat → Nat) (ks : List Nat) : ∀ k, allL (ks.map f) k = (allL ks k).map fun w => w.map f
  | 0 => rfl
  | k + 1 => by
    show allL (ks.map f) k ++ rowsL (ks.map f) (k + 1) = (allL ks k ++ rowsL ks (k + 1)).map _
    rw [List.map_append, all_map f ks k, rows_map f ks (k + 1)]
theorem all_wd : ∀ n m, Sm n m → allL (List.range n) m = (List.range (cnN n m)).map (wdN n) := by
  rintro n m ⟨h1, h2, h3, h4⟩
  have key : ∀ n, n ≤ 4 → ∀ m, m ≤ 4 → 1 ≤ n → (n = 4 → m ≤ 3) → (allL (List.range n) m == (List.range (cnN n m)).map (wdN n)) = true := by decide +kernel
  exact eq_of_beq (key n h2 m h3 h1 h4)
/-- the law's words are the words of the ranks -/
theorem due_eq {l : List Nat} {m : Nat} (h : Sm l.length m) : dWl (allL l m) = rg (cnN l.length m) fun r => .str (sx (wdD l r)) := by
  have e : l = (List.range l.length).map fun k => l.getD k 0 := by
    apply List.ext_getElem
    · simp
    · intro i h1 h2
      simp only [List.getElem_map, List.getElem_range, List.getD_eq_getElem?_getD, List.getElem?_eq_getElem h1]; rfl
  have e2 : allL l m = (allL (List.range l.length) m).map fun w => w.map fun k => l.getD k 0 := by
    have := all_map (fun k => l.getD k 0) (List.range l.length) m
    rwa [← e] at this
  rw [e2, all_wd _ _ h]
  unfold dWl rg wdD
  rw [List.map_map, List.map_map]
  rfl
theorem dWl_app (a b : List (List Nat)) : dWl (a ++ b) = dWl a ++ dWl b := List.map_append
def RLWs (ds : List Dt) (r : Dt) : Prop := ∃ (l : List Nat) (m : Nat), ds = [.str (sx l), .int (m : Int)] ∧ AlOk l ∧ m ≤ 4 ∧ r = .lst (dWl (allL l m))
theorem rows_small {l : List Nat} (h : l.length ≤ 4) {k : Nat} (hk : k ≤ 4) : (rowsL l k).length ≤ 256 := by
  rw [rowsL_len]
  exact Nat.le_trans (Nat.pow_le_pow_left h k) (Nat.le_trans (Nat.pow_le_pow_right (by decide) hk) (by decide))
theorem all_small {l : List Nat} (h : l.length ≤ 4) : ∀ {k : Nat}, k ≤ 4 → (allL l k).length ≤ 256 * (k + 1)
  | 0, _ => by show 1 ≤ _; decide
  | k + 1, hk => by
    have h1 := all_small h (k := k) (by omega)
    have h2 := rows_small h (k := k + 1) hk
    show (allL l k ++ rowsL l (k + 1)).length ≤ _
    rw [List.length_append]; omega
section
variable {P : Program} {w : World} {K : PySem.W.Frag} {T : Ct} {mg : Str → Option Value} {base : Heap} {f CR : Addr} {fd : FuncData}
abbrev nLWs : List Str := ["letters", "most", "found", "rows", "k", "later", "word", "mark"]
theorem scLWs : FnScope nLWs ["letters", "most"] (defScope sLWs) := ⟨rfl, rfl, rfl, by decide +kernel, rfl, by decide +kernel, by decide +kernel⟩
theorem ok_lws (F : Fun K "_law_words" "_law_words" sLWs f fd) (D : Md K T mg CR) : FnOk P w K mg base CX0 1 f fd ["letters", "most"] (spD K T RLWs) := by
  refine okDw F scLWs (fun ds r h => by obtain ⟨_, _, rfl, _⟩ := h; rfl) fun cdv A outer s' H E' pa ds r hr hR => ?_
  obtain ⟨l, m, rfl, hl, hm, rfl⟩ := hR
  have h4 := hl.hi
  refine ws_set 2 scLWs.nd ?_
  refine we_lst ?_
  refine wa_cons ?_
  refine we_str [] ?_
  refine wa_nil ?_
  refine ⟨by first | omega | (simp only [rg_len, List.length_append, List.length_cons, List.length_nil, List.length_map, List.length_range, List.length_take, List.length_drop, List.length_singleton]; omega) | (simp; omega) | (simp; done) | decide, ?_⟩
  refine ws_set 3 scLWs.nd ?_
  refine we_lst ?_
  refine wa_cons ?_
  refine we_str [] ?_
  refine wa_nil ?_
  refine ⟨by first | omega | (simp only [rg_len, List.length_append, List.length_cons, List.length_nil, List.length_map, List.length_range, List.length_take, List.length_drop, List.length_singleton]; omega) | (simp; omega) | (simp; done) | decide, ?_⟩
  refine ws_for (fun k => [some (.fr (.str (sx l))), some (.fr (.int (m : Int))), some (.fr (.lst (dWl (allL l k)))), some (.fr (.lst (dWl (rowsL l k)))), slot (fun i => .int i) k, none, none, none]) (m) ?_
  refine wi_range1 D.ran ?_
  refine we_var 1 rfl ?_
  refine ⟨m, rfl, by omega, ?_⟩
  refine ⟨by rfl, by first | rfl | (simp only [rg_len, List.length_map, List.length_range]; done) | (simp [rg_len]; done) | (simp [rg_len]; omega), ?_, ?_⟩
  · skip
    intro k d hd
    obtain ⟨hk, rfl⟩ := rg_get hd
    have r1 := rows_small h4 (k := k) (by omega)
    have r2 := rows_small h4 (k := k + 1) (by omega)
    have a1 := all_small h4 (k := k) (by omega)
    refine wg_name 4 scLWs.nd ?_
    refine ws_setOw 5 scLWs.nd ?_
    refine wl_lst ?_
    refine wa_nil ?_
    refine ⟨by first | omega | (simp only [rg_len, List.length_append, List.length_cons, List.length_nil, List.length_map, List.length_range, List.length_take, List.length_drop, List.length_singleton]; omega) | (simp; omega) | (simp; done) | decide, ?_⟩
    refine ws_for (fun i => [some (.fr (.str (sx l))), some (.fr (.int (m : Int))), some (.fr (.lst (dWl (allL l k)))), some (.fr (.lst (dWl (rowsL l k)))), some (.fr (.int k)), some (.ow (dWl (wsL l ((rowsL l k).take i)))), slot (fun i => .str (sx ((rowsL l k).getD i []))) i, none]) ((rowsL l k).length) ?_
    refine wi_val rfl ?_
    refine we_var 3 rfl ?_
    first | (refine it_l ?_) | (refine it_t ?_) | (refine it_r ?_) | (refine it_x ?_)
    refine ⟨by rfl, by exact List.length_map .., ?_, ?_⟩
    · skip
      intro i d hd
      obtain ⟨v, hv, rfl⟩ := map_get hd
      have hi : i < (rowsL l k).length := (List.getElem?_eq_some_iff.mp hv).1
      have lv := rowsL_mem l k v (List.mem_of_getElem? hv)
      have e : (rowsL l k).getD i [] = v := by rw [List.getD_eq_getElem?_getD, hv]; rfl
      refine wg_name 6 scLWs.nd ?_
      refine ws_for (fun j => [some (.fr (.str (sx l))), some (.fr (.int (m : Int))), some (.fr (.lst (dWl (allL l k)))), some (.fr (.lst (dWl (rowsL l k)))), some (.fr (.int k)), some (.ow (dWl (wsL l ((rowsL l k).take i)) ++ dWl ((l.take j).map fun q => v ++ [q]))), some (.fr (.str (sx v))), slot (fun j => .str (sx [l.getD j 0])) j]) (l.length) ?_
      refine wi_val rfl ?_
      refine we_var 0 rfl ?_
      first | (refine it_l ?_) | (refine it_t ?_) | (refine it_r ?_) | (refine it_x ?_)
      refine ⟨by (rw [show dWl (wsL l ((rowsL l k).take i)) ++ dWl ((l.take 0).map fun q => v ++ [q]) = dWl (wsL l ((rowsL l k).take i)) from List.append_nil _]; rfl), by first | rfl | (simp only [rg_len, List.length_map, List.length_range]; done) | (simp [rg_len]; done) | (simp [rg_len]; omega), ?_, ?_⟩
      · skip
        intro j d hd
        obtain ⟨q, hq, rfl⟩ := map_get hd
        have hj : j < l.length := (List.getElem?_eq_some_iff.mp hq).1
        have e2 : l.getD j 0 = q := by rw [List.getD_eq_getElem?_getD, hq]; rfl
        refine wg_name 7 scLWs.nd ?_
        refine ws_append 5 rfl rfl ?_
        refine we_bin ?_
        refine we_var 6 rfl ?_
        refine we_var 7 rfl ?_
        refine br_addX (by simp; omega) ?_
        refine ⟨_, rfl, .ow, by unfold dWl; rw [List.length_append, List.length_map, wsL_len, List.length_map, List.length_map, List.length_take, List.length_take]; have := Nat.mul_le_mul (Nat.min_le_right i (rowsL l k).length) h4; omega, ?_⟩
        skip
        refine ws_nil ?_
        refine .inl ?_
        have ea : dWl ((l.take (j + 1)).map fun q => v ++ [q]) = dWl ((l.take j).map fun q => v ++ [q]) ++ [.str (sx (v ++ [q]))] := by
          rw [List.take_add_one, hq, Option.toList_some, List.map_append, dWl_app]; rfl
        show Out.nx _ = .nx [_, _, _, _, _, some (.ow (dWl (wsL l ((rowsL l k).take i)) ++ dWl ((l.take (j + 1)).map fun q => v ++ [q]))), _, some (.fr (.str (sx [l.getD j 0])))]
        rw [e2, ea, ← List.append_assoc]; rfl
      refine ws_forget 7 ?_
      skip
      refine ws_nil ?_
      refine .inl ?_
      show _ = Out.nx [_, _, _, _, _, some (.ow (dWl (wsL l ((rowsL l k).take (i + 1))))), some (.fr (.str (sx ((rowsL l k).getD i [])))), _]
      rw [e, wsL_take hv, dWl_app, List.take_length]; rfl
    refine ws_freeze 5 rfl ?_
    rw [show wsL l ((rowsL l k).take (rowsL l k).length) = rowsL l (k + 1) from by rw [List.take_length]; rfl]
    refine ws_set 3 scLWs.nd ?_
    refine we_list rfl D.lst ?_
    refine we_var 5 rfl ?_
    refine ⟨_, by first | exact .inl rfl | exact .inr (.inl rfl) | exact .inr (.inr rfl), ?_⟩
    refine ws_set 2 scLWs.nd ?_
    refine we_bin ?_
    refine we_var 2 rfl ?_
    refine we_var 3 rfl ?_
    refine br_cat (by unfold dWl; rw [List.length_map, List.length_map]; omega) ?_
    refine ws_forget 5 (ws_forget 6 ?_)
    refine ws_nil ?_
    refine .inl ?_
    show Out.nx _ = .nx [_, _, some (.fr (.lst (dWl (allL l k ++ rowsL l (k + 1))))), some (.fr (.lst (dWl (rowsL l (k + 1))))), some (.fr (.int k)), _, _, _]
    rw [show dWl (allL l k ++ rowsL l (k + 1)) = dWl (allL l k) ++ dWl (rowsL l (k + 1)) from List.map_append]; rfl
  refine ws_ret ?_
  refine we_var 2 rfl ?_
  rfl
end
end My
set_option autoImplicit false
set_option maxRecDepth 100000
set_option maxHeartbeats 4000000
set_option exponentiation.threshold 100000
namespace My
open PySem PySem.Spec PyProof.Rows L2 Dv Mq
open Gn
theorem rk_step {n : Nat} : ∀ (ks js : List Nat) (x y : Nat), ks.length = js.length → (∀ k ∈ ks, k < n) → x < y → ks.foldl (fun x k => x * n + k + 1) x < js.foldl (fun x k => x * n + k + 1) y
  | [], [], x, y, _, _, h => h
  | [], _ :: _, _, _, hl, _, _ => by cases hl
  | _ :: _, [], _, _, hl, _, _ => by cases hl
  | k :: ks, j :: js, x, y, hl, hk, h => by
    refine rk_step ks js _ _ (Nat.succ.inj hl) (fun q hq => hk q (List.mem_cons_of_mem _ hq)) ?_
    have h1 := hk k (List.mem_cons_self ..)
    have h2 : (x + 1) * n ≤ y * n := Nat.mul_le_mul_right _ h
    rw [Nat.add_mul, Nat.one_mul] at h2
    show x * n + k + 1 < y * n + j + 1
    omega
theorem rk_app (n : Nat) (a b : List Nat) : rkN n (a ++ b) = b.foldl (fun x k => x * n + k + 1) (rkN n a) := by unfold rkN; rw [List.foldl_append]
theorem rk_pos (n : Nat) (k : Nat) (ks : List Nat) : 0 < rkN n (k :: ks) := by
  have key0 : ∀ (ks : List Nat) (x : Nat), 0 < x → 0 < ks.foldl (fun x k => x * n + k + 1) x := fun ks => by
    induction ks with
    | nil => exact fun x h => h
    | cons k ks ih => exact fun x h => ih _ (Nat.succ_pos _)
  exact key0 ks _ (Nat.succ_pos _)
/-- a shorter word comes first -/
theorem rk_short {n : Nat} {ks js : List Nat} (h : ks.length < js.length) (hk : ∀ k ∈ ks, k < n) : rkN n ks < rkN n js := by
  have e : js = js.take (js.length - ks.length) ++ js.drop (js.length - ks.length) := (List.take_append_drop _ _).symm
  have hl : (js.drop (js.length - ks.length)).length = ks.length := by rw [List.length_drop]; omega
  have ht : 0 < rkN n (js.take (js.length - ks.length)) := by
    cases q : js.take (js.length - ks.length) with
    | nil =>
      have := congrArg List.length q
      rw [List.length_take, List.length_nil] at this
      omega
    | cons k t => exact rk_pos n k t
  rw [e, rk_app]
  exact rk_step ks _ 0 _ hl.symm hk ht
/-- words of one length: the first place where they differ -/
theorem rk_diff {n : Nat} {ks js : List Nat} {i : Nat} (hl : ks.length = js.length) (hk : ∀ k ∈ ks, k < n) (hp : ks.take i = js.take i) {x y : Nat} (hx : ks[i]? = some x) (hy : js[i]? = some y) (h : x < y) : rkN n ks < rkN n js := by
  have i1 : i < ks.length := (List.getElem?_eq_some_iff.mp hx).1
  have i2 : i < js.length := (List.getElem?_eq_some_iff.mp hy).1
  have e1 : ks = ks.take (i + 1) ++ ks.drop (i + 1) := (List.take_append_drop _ _).symm
  have e2 : js = js.take (i + 1) ++ js.drop (i + 1) := (List.take_append_drop _ _).symm
  rw [e1, e2, rk_app, rk_app]
  refine rk_step _ _ _ _ (by rw [List.length_drop, List.length_drop, hl]) (fun k z => hk k (List.mem_of_mem_drop z)) ?_
  rw [List.take_add_one, List.take_add_one, hx, hy, Option.toList_some, Option.toList_some, hp, rkN_snoc, rkN_snoc]
  omega
end My
set_option autoImplicit false
set_option maxRecDepth 100000
set_option maxHeartbeats 4000000
set_option exponentiation.threshold 100000
namespace My
open PySem PySem.Spec PyProof.Rows L2 Dv Mq
open Gn
abbrev sCmp : Stmt := inClass (topS 5) 6
abbrev sAE2 : Stmt := inClass (topS 5) 4
abbrev sLBad : Stmt := topS 13
abbrev sLNoI : Stmt := topS 14
abbrev sLMem : Stmt := topS 15
/-- before, equal or behind -/
def cmpI (a b : Nat) : Int := if a < b then -1 else if b < a then 1 else 0
theorem cmp_lt {a b : Nat} (h : a < b) : cmpI a b = -1 := if_pos h
theorem cmp_gt {a b : Nat} (h : b < a) : cmpI a b = 1 := by unfold cmpI; rw [if_neg (by omega), if_pos h]
theorem cmp_same {a : Nat} : cmpI a a = 0 := by unfold cmpI; rw [if_neg (by omega), if_neg (by omega)]
theorem pl_len (l u : List Nat) : (plc l u).length = u.length := List.length_map ..
theorem pl_take (l u : List Nat) (i : Nat) : (plc l u).take i = plc l (u.take i) := (List.map_take ..).symm
theorem pl_at {l u : List Nat} {i x : Nat} (h : u[i]? = some x) : (plc l u)[i]? = some (l.idxOf x) := by unfold plc; rw [List.getElem?_map, h]; rfl
theorem idx_inj {l : List Nat} {x y : Nat} (hx : x ∈ l) (hy : y ∈ l) (h : l.idxOf x = l.idxOf y) : x = y := by
  have h1 := List.idxOf_lt_length_of_mem hx
  have h2 := List.idxOf_lt_length_of_mem hy
  have e1 : l[l.idxOf x] = x := List.getElem_idxOf h1
  have e2 : l[l.idxOf y] = y := List.getElem_idxOf h2
  rw [← e1, ← e2]
  simp only [h]
theorem idx_at {l : List Nat} (h : l.Nodup) {i : Nat} (hi : i < l.length) : l.idxOf l[i] = i := by
  have h1 := List.idxOf_lt_length_of_mem (List.getElem_mem hi)
  have e1 : l[l.idxOf l[i]] = l[i] := List.getElem_idxOf h1
  have hp := List.pairwise_iff_getElem.mp h
  rcases Nat.lt_trichotomy (l.idxOf l[i]) i with z | z | z
  · exact absurd e1 (hp _ _ h1 hi z)
  · exact z
  · exact absurd e1.symm (hp _ _ hi h1 z)
theorem zip_sx {u v : List Nat} {i : Nat} {d : Dt} (h : (List.zipWith (fun x y => Dt.tup [x, y]) (u.map fun q => .str (sx [q])) (v.map fun q => .str (sx [q])))[i]? = some d) : ∃ x y, u[i]? = some x ∧ v[i]? = some y ∧ d = .tup [.str (sx [x]), .str (sx [y])] := by
  rw [List.getElem?_zipWith, List.getElem?_map, List.getElem?_map] at h
  cases h1 : u[i]? with
  | none => rw [h1] at h; cases h
  | some x =>
    cases h2 : v[i]? with
    | none => rw [h1, h2] at h; cases h
    | some y =>
      rw [h1, h2] at h
      cases h
      exact ⟨x, y, rfl, rfl, rfl⟩
def RCmp (ds : List Dt) (r : Dt) : Prop := ∃ (l u v : List Nat), ds = [dA l, .str (sx u), .str (sx v)] ∧ AlOk l ∧ (∀ q ∈ u, q ∈ l) ∧ (∀ q ∈ v, q ∈ l) ∧ u.length ≤ 10 ∧ v.length ≤ 10 ∧ r = .int (cmpI (rkN l.length (plc l u)) (rkN l.length (plc l v)))
def RAEt (ds : List Dt) (r : Dt) : Prop := ∃ l m : List Nat, ds = [dA l, .str (sx m)] ∧ r = .bl false
/-- the classes of errors -/
structure Er (K : PySem.W.Frag) (mg : Str → Option Value) (CE CRf CB : Addr) : Prop where
  nF : mg "Fault" = some (.ref CB)
  nM : mg "Malformed" = some (.ref CE)
  nR : mg "Refused" = some (.ref CRf)
  xM : PySem.W.exmOne K (.ref CE) (.ref CB) = some true
  xR : PySem.W.exmOne K (.ref CRf) (.ref CB) = some true
  eM : ExcI K CE
  eR : ExcI K CRf
  kM : PySem.W.kitOne K (.ref CE) (.ref CE) = some true
  kR : PySem.W.kitOne K (.ref CRf) (.ref CRf) = some true
def NoAl (d : Dt) : Prop := NoTx d ∨ (∃ u : List Nat, d = .str (sx u) ∧ (u.length < 1 ∨ 4 < u.length) ∧ u.length ≤ 1000) ∨ (∃ u : List Nat, d = .str (sx u) ∧ 1 ≤ u.length ∧ u.length ≤ 4 ∧ ∃ q ∈ u, ¬ (97 ≤ q ∧ q ≤ 122)) ∨ d = .str (sx [97, 97])
def NoIx (l : List Nat) (d : Dt) : Prop := NoTx d ∨ (∃ u : List Nat, d = .str (sx u) ∧ u.length ≠ 1 ∧ u.length ≤ 1000) ∨ ∃ q, d = .str (sx [q]) ∧ q ∉ l
def RLBad (ds : List Dt) (r : Dt) : Prop := ∃ d, ds = [d] ∧ NoAl d ∧ r = .bl true
def RLNoI (ds : List Dt) (r : Dt) : Prop := ∃ (l : List Nat) (d : Dt), ds = [dA l, d] ∧ l.length ≤ 4 ∧ NoIx l d ∧ r = .bl true
def RLMem (ds : List Dt) (r : Dt) : Prop := ∃ (l u : List Nat), ds = [dA l, .str (sx l), .str (sx u)] ∧ AlOk l ∧ 113 ∉ l ∧ (∀ q ∈ u, q ∈ l) ∧ u.length ≤ 10 ∧ r = .bl true
/-- what is no letter -/
def noL (l : List Nat) : List Dt := [.str (sx [113]), .str (sx []), .str (sx (l ++ l)), .non, .int 0]
theorem noL_at {l : List Nat} (h : 1 ≤ l.length) (h4 : l.length ≤ 4) (hq : 113 ∉ l) {i : Nat} {d : Dt} (e : (noL l)[i]? = some d) : NoIx l d := by
  match i, e with
  | 0, e => cases e; exact .inr (.inr ⟨113, rfl, hq⟩)
  | 1, e => cases e; exact .inr (.inl ⟨[], rfl, by decide, by decide⟩)
  | 2, e => cases e; exact .inr (.inl ⟨l ++ l, rfl, by rw [List.length_append]; omega, by rw [List.length_append]; omega⟩)
  | 3, e => cases e; exact .inl (.inl rfl)
  | 4, e => cases e; exact .inl (.inr (.inl ⟨0, rfl⟩))
  | i + 5, e => cases e
section
variable {P : Program} {w : World} {K : PySem.W.Frag} {T : Ct} {mg : Str → Option Value} {base : Heap} {f CA CE CRf fI CB : Addr} {fd : FuncData}
abbrev nCmp : List Str := ["self", "u", "v", "x", "y"]
theorem scCmp : FnScope nCmp ["self", "u", "v"] (defScope sCmp) := ⟨rfl, rfl, rfl, by decide +kernel, rfl, by decide +kernel, by decide +kernel⟩
abbrev nAE2 : List Str := ["self", "other"]
theorem scAE2 : FnScope nAE2 ["self", "other"] (defScope sAE2) := ⟨rfl, rfl, rfl, by decide +kernel, rfl, by decide +kernel, by decide +kernel⟩
abbrev nLBad : List Str := ["value", "bad"]
theorem scLBad : FnScope nLBad ["value"] (defScope sLBad) := ⟨rfl, rfl, rfl, by decide +kernel, rfl, by decide +kernel, by decide +kernel⟩
abbrev nLNoI : List Str := ["alphabet", "value", "bad"]
theorem scLNoI : FnScope nLNoI ["alphabet", "value"] (defScope sLNoI) := ⟨rfl, rfl, rfl, by decide +kernel, rfl, by decide +kernel, by decide +kernel⟩
abbrev nLMem : List Str := ["alphabet", "letters", "u", "k", "value"]
theorem scLMem : FnScope nLMem ["alphabet", "letters", "u"] (defScope sLMem) := ⟨rfl, rfl, rfl, by decide +kernel, rfl, by decide +kernel, by decide +kernel⟩
theorem ok_cmp (F : Fun K "compare" "Alphabet.compare" sCmp f fd) (D : Md K T mg CA) (AX : MF P w K T mg base CA "index" 1 RAX) : FnOk P w K mg base CX0 2 f fd ["self", "u", "v"] (spD K T RCmp) := by
  refine okDw F scCmp (fun ds r h => by obtain ⟨_, _, _, rfl, _⟩ := h; rfl) fun cdv A outer s' H E' pa ds r hr hR => ?_
  obtain ⟨l, u, v, rfl, hl, hu, hv, lu, lv, rfl⟩ := hR
  have pu := pl_len l u
  have pv := pl_len l v
  refine ws_if ?_
  refine wt_cmp ?_
  refine we_len rfl D.len ?_
  refine we_var 1 rfl ?_
  first | (refine len_x (by first | omega | (simp only [rg_len, List.length_append, List.length_cons, List.length_nil, List.length_map, List.length_range, List.length_take, List.length_drop, List.length_singleton]; omega) | (simp; omega) | (simp; done) | decide) ?_) | (refine len_l ?_) | (refine len_t ?_) | (refine len_r ?_)
  refine we_len rfl D.len ?_
  refine we_var 2 rfl ?_
  first | (refine len_x (by first | omega | (simp only [rg_len, List.length_append, List.length_cons, List.length_nil, List.length_map, List.length_range, List.length_take, List.length_drop, List.length_singleton]; omega) | (simp; omega) | (simp; done) | decide) ?_) | (refine len_l ?_) | (refine len_t ?_) | (refine len_r ?_)
  first | (refine cr_neI ?_) | (refine cr_neX ?_) | (refine cr_neB ?_)
  refine ifk_S (fun h1 => ?_) (fun h1 => ?_)
  · skip
    try simp only [decide_eq_true_eq, decide_eq_false_iff_not, Bool.not_eq_true', Bool.not_eq_false', Bool.not_eq_eq_eq_not, Bool.not_true, Bool.not_false] at h1
    refine ws_ret ?_
    refine we_if ?_
    refine wt_cmp ?_
    refine we_len rfl D.len ?_
    refine we_var 1 rfl ?_
    first | (refine len_x (by first | omega | (simp only [rg_len, List.length_append, List.length_cons, List.length_nil, List.length_map, List.length_range, List.length_take, List.length_drop, List.length_singleton]; omega) | (simp; omega) | (simp; done) | decide) ?_) | (refine len_l ?_) | (refine len_t ?_) | (refine len_r ?_)
    refine we_len rfl D.len ?_
    refine we_var 2 rfl ?_
    first | (refine len_x (by first | omega | (simp only [rg_len, List.length_append, List.length_cons, List.length_nil, List.length_map, List.length_range, List.length_take, List.length_drop, List.length_singleton]; omega) | (simp; omega) | (simp; done) | decide) ?_) | (refine len_l ?_) | (refine len_t ?_) | (refine len_r ?_)
    refine cr_lt ?_
    refine ifk_S (fun h2 => ?_) (fun h2 => ?_)
    · skip
      try simp only [decide_eq_true_eq, decide_eq_false_iff_not, Bool.not_eq_true', Bool.not_eq_false', Bool.not_eq_eq_eq_not, Bool.not_true, Bool.not_false] at h2
      refine we_neg ?_
      refine we_int ?_
      refine ⟨_, rfl, ?_⟩
      refine aft_rt ?_
      exact congrArg Dt.int (cmp_lt (rk_short (by omega) (plc_lt hu))).symm
    · skip
      try simp only [decide_eq_true_eq, decide_eq_false_iff_not, Bool.not_eq_true', Bool.not_eq_false', Bool.not_eq_eq_eq_not, Bool.not_true, Bool.not_false] at h2
      refine we_int ?_
      refine aft_rt ?_
      exact congrArg Dt.int (cmp_gt (rk_short (by omega) (plc_lt hv))).symm
  · skip
    try simp only [decide_eq_true_eq, decide_eq_false_iff_not, Bool.not_eq_true', Bool.not_eq_false', Bool.not_eq_eq_eq_not, Bool.not_true, Bool.not_false] at h1
    refine ws_nil ?_
    refine aft_nx ?_
    refine ws_forI (fun i s => s = [some (.fr (dA l)), some (.fr (.str (sx u))), some (.fr (.str (sx v))), none, none] ∧ u.take i = v.take i) ?_
    refine wi_zipXX D.zip ?_
    refine wa_cons ?_
    refine we_var 1 rfl ?_
    refine wa_cons ?_
    refine we_var 2 rfl ?_
    refine wa_nil ?_
    refine ⟨_, _, rfl, ?_⟩
    refine ⟨by exact ⟨rfl, rfl⟩, ?_, ?_⟩
    · skip
      rintro i s d ⟨rfl, hp⟩ hd
      obtain ⟨x, y, hx, hy, rfl⟩ := zip_sx hd
      have mx := hu x (List.mem_of_getElem? hx)
      have my := hv y (List.mem_of_getElem? hy)
      have ht : (plc l u).take i = (plc l v).take i := by rw [pl_take, pl_take, hp]
      refine wg_tup rfl rfl ?_
      refine wgs_cons ?_
      refine wg_name 3 scCmp.nd ?_
      refine wgs_cons ?_
      refine wg_name 4 scCmp.nd ?_
      refine wgs_nil ?_
      refine ws_if ?_
      refine wt_cmp ?_
      refine we_var 3 rfl ?_
      refine we_var 4 rfl ?_
      first | (refine cr_neI ?_) | (refine cr_neX ?_) | (refine cr_neB ?_)
      refine ifk_S (fun h3 => ?_) (fun h3 => ?_)
      · skip
        try simp only [decide_eq_true_eq, decide_eq_false_iff_not, Bool.not_eq_true', Bool.not_eq_false', Bool.not_eq_eq_eq_not, Bool.not_true, Bool.not_false] at h3
        refine ws_ret ?_
        refine we_if ?_
        refine wt_cmp ?_
        refine we_mf D.A AX rfl (hr.mono (by decide)) ?_
        refine we_var 0 rfl ?_
        refine ⟨_, rfl, ?_⟩
        refine wa_cons ?_
        refine we_var 3 rfl ?_
        refine wa_nil ?_
        refine ⟨_, ⟨_, _, rfl, mx, rfl⟩, ?_⟩
        refine we_mf D.A AX rfl (hr.mono (by decide)) ?_
        refine we_var 0 rfl ?_
        refine ⟨_, rfl, ?_⟩
        refine wa_cons ?_
        refine we_var 4 rfl ?_
        refine wa_nil ?_
        refine ⟨_, ⟨_, _, rfl, my, rfl⟩, ?_⟩
        refine cr_lt ?_
        refine ifk_S (fun h4 => ?_) (fun h4 => ?_)
        · skip
          try simp only [decide_eq_true_eq, decide_eq_false_iff_not, Bool.not_eq_true', Bool.not_eq_false', Bool.not_eq_eq_eq_not, Bool.not_true, Bool.not_false] at h4
          refine we_neg ?_
          refine we_int ?_
          refine ⟨_, rfl, ?_⟩
          refine aft_rt ?_
          exact congrArg Dt.int (cmp_lt (rk_diff (by omega) (plc_lt hu) ht (pl_at hx) (pl_at hy) (by omega))).symm
        · skip
          try simp only [decide_eq_true_eq, decide_eq_false_iff_not, Bool.not_eq_true', Bool.not_eq_false', Bool.not_eq_eq_eq_not, Bool.not_true, Bool.not_false] at h4
          have hne : l.idxOf x ≠ l.idxOf y := fun z => h3 (by rw [idx_inj mx my z])
          refine we_int ?_
          refine aft_rt ?_
          exact congrArg Dt.int (cmp_gt (rk_diff (by omega) (plc_lt hv) ht.symm (pl_at hy) (pl_at hx) (by omega))).symm
      · skip
        try simp only [decide_eq_true_eq, decide_eq_false_iff_not, Bool.not_eq_true', Bool.not_eq_false', Bool.not_eq_eq_eq_not, Bool.not_true, Bool.not_false] at h3
        refine ws_forget 3 ?_
        refine ws_forget 4 ?_
        refine ws_nil ?_
        refine aft_nx ?_
        refine ws_nil ?_
        refine ⟨rfl, ?_⟩
        rw [List.take_add_one, List.take_add_one, hx, hy, hp]
        have : x = y := by simpa [sx] using h3
        rw [this]
    rintro s ⟨rfl, hp⟩
    have e : u = v := by simp only [List.length_zipWith, List.length_map] at hp; rw [List.take_of_length_le (by omega), List.take_of_length_le (by omega)] at hp; exact hp
    refine ws_ret ?_
    refine we_int ?_
    exact congrArg Dt.int (by rw [e]; exact cmp_same.symm)
theorem ok_AE2 (F : Fun K "__eq__" "Alphabet.__eq__" sAE2 f fd) (D : Md K T mg CA) (kS : PySem.W.kitOne K (.type "str") (.ref CA) = some false) : FnOk P w K mg base CX0 1 f fd ["self", "other"] (spD K T RAEt) := by
  refine okDw F scAE2 (fun ds r h => by obtain ⟨_, _, rfl, _⟩ := h; rfl) fun cdv A outer s H E' pa ds r hr hR => ?_
  obtain ⟨l, m, rfl, rfl⟩ := hR
  refine ws_ret ?_
  refine we_and ?_
  refine we_isC D.A rfl D.isi ?_
  refine we_var 1 rfl ?_
  refine ⟨_, _, by constructor, kS, ?_⟩
  refine ⟨_, rfl, ?_⟩
  refine ifk_F (by rfl) ?_
  rfl
theorem ok_lbad (F : Fun K "_law_bad" "_law_bad" sLBad f fd) (D : Md K T mg CA) (Q : Er K mg CE CRf CB) (Ix : IX P w K T mg base 2 CA 1 (RAIx CE)) : FnOk P w K mg base CX0 3 f fd ["value"] (spD K T RLBad) := by
  refine okDw F scLBad (fun ds r h => by obtain ⟨_, rfl, _⟩ := h; rfl) fun cdv A outer s H E pa ds r hr hR => ?_
  obtain ⟨d, rfl, hd, rfl⟩ := hR
  have hc : Names (bX P w K mg base nLBad "_law_bad" sLBad f cdv A outer s H E) "Fault" (.ref CB) := ⟨rfl, by decide, .inl Q.nF⟩
  refine ws_tryAs 1 (⟨CE, none⟩) (.rt (.bl true) [some (.fr d), none]) (fun a' dd => .rt (.bl true) [some (.fr d), some (.ex a' dd none)]) scLBad.nd hc Q.xM (fun W1 pn xe tk pw => xsx_here (xpx_expr (xx_mk D.A Ix rfl tk (hr.mono (by decide)) (xa_cons (xd_var 0) xa_nil) ⟨d, rfl, hd, rfl⟩))) (fun a1 oe dd pn hz hfl => ?_) ?_
  · skip
    refine ws_ret ?_
    refine we_is (xd_isE 1 Q.eM hz hfl Q.nM Q.kM D.isi) ?_
    rfl
  refine aft_rt ?_
  rfl
theorem ok_lnoi (F : Fun K "_law_no_index" "_law_no_index" sLNoI f fd) (D : Md K T mg CA) (Q : Er K mg CE CRf CB) (Rf : DvR.Rfd K mg CRf fI) (AXx : MX P w K T mg base CA "index" 2 (RAXx CRf)) : FnOk P w K mg base CX0 3 f fd ["alphabet", "value"] (spD K T RLNoI) := by
  refine okDw F scLNoI (fun ds r h => by obtain ⟨_, _, rfl, _⟩ := h; rfl) fun cdv A outer s H E pa ds r hr hR => ?_
  obtain ⟨l, d, rfl, hl, hd, rfl⟩ := hR
  have hc : Names (bX P w K mg base nLNoI "_law_no_index" sLNoI f cdv A outer s H E) "Fault" (.ref CB) := ⟨rfl, by decide, .inl Q.nF⟩
  refine ws_tryAs 2 (⟨CRf, rsL⟩) (.rt (.bl true) [some (.fr (dA l)), some (.fr d), none]) (fun a' dd => .rt (.bl true) [some (.fr (dA l)), some (.fr d), some (.ex a' dd rsL)]) scLNoI.nd hc Q.xR (fun W1 pn xe tk pw => xsx_here (xpx_expr (xx_mx (xd_var 0) D.A AXx rfl tk (hr.mono (by decide)) (xa_cons (xd_var 1) xa_nil) ⟨l, d, rfl, hl, hd, rfl⟩))) (fun a1 oe dd pn hz hfl => ?_) ?_
  · skip
    refine ws_ret ?_
    refine we_and ?_
    refine we_is (xd_isE 2 Q.eR hz hfl Q.nR Q.kR D.isi) ?_
    refine ⟨_, rfl, ?_⟩
    refine ifk_T (by rfl) ?_
    refine we_one ?_
    refine we_is (xd_isRsn 2 Rf hz hfl) ?_
    rfl
  refine aft_rt ?_
  rfl
theorem ok_lmem (F : Fun K "_law_members" "_law_members" sLMem f fd) (D : Md K T mg CA) (AX : MF P w K T mg base CA "index" 1 RAX) (At : MF P w K T mg base CA "__contains__" 1 RACt) (An : MF P w K T mg base CA "__contains__" 1 RACn) (Ni : DF P w K T mg base "_law_no_index" 3 RLNoI) : FnOk P w K mg base CX0 5 f fd ["alphabet", "letters", "u"] (spD K T RLMem) := by
  refine okDw F scLMem (fun ds r h => by obtain ⟨_, _, rfl, _⟩ := h; rfl) fun cdv A outer s' H E' pa ds r hr hR => ?_
  obtain ⟨l, u, rfl, hl, hq, hu, lu, rfl⟩ := hR
  have h1 := hl.lo
  have h4 := hl.hi
  refine ws_if ?_
  refine wt_of ?_
  refine ww_or ?_
  refine wt_cmp ?_
  refine we_var 2 rfl ?_
  refine we_var 0 rfl ?_
  refine cr_notInO D.A At rfl (hr.mono (by decide)) ⟨l, u, rfl, by omega, rfl⟩ ?_
  refine ifk_F (by rw [List.all_eq_true.mpr fun q hq => decide_eq_true (hu q hq)]; rfl) ?_
  refine ww_or ?_
  refine wt_cmp ?_
  refine we_bin ?_
  refine we_var 2 rfl ?_
  refine we_str [113] ?_
  first | (refine br_add ?_) | (refine br_addX (by first | omega | (simp only [rg_len, List.length_append, List.length_cons, List.length_nil, List.length_map, List.length_range, List.length_take, List.length_drop, List.length_singleton]; omega) | (simp; omega) | (simp; done) | decide) ?_) | (refine br_cat (by first | omega | (simp only [rg_len, List.length_append, List.length_cons, List.length_nil, List.length_map, List.length_range, List.length_take, List.length_drop, List.length_singleton]; omega) | (simp; omega) | (simp; done) | decide) ?_) | (refine br_tcat rfl (by first | omega | (simp only [rg_len, List.length_append, List.length_cons, List.length_nil, List.length_map, List.length_range, List.length_take, List.length_drop, List.length_singleton]; omega) | (simp; omega) | (simp; done) | decide) ?_)
  refine we_var 0 rfl ?_
  refine cr_inO D.A At rfl (hr.mono (by decide)) ⟨l, u ++ [113], rfl, by rw [List.length_append]; simp; omega, rfl⟩ ?_
  refine ifk_F (by rw [List.all_append, show ([113] : List Nat).all (fun q => decide (q ∈ l)) = false by simp [hq], Bool.and_false]) ?_
  refine ww_or ?_
  refine wt_cmp ?_
  refine we_non ?_
  refine we_var 0 rfl ?_
  refine cr_inO D.A An rfl (hr.mono (by decide)) ⟨l, _, rfl, .inl rfl, rfl⟩ ?_
  refine ifk_F (by rfl) ?_
  refine ww_or ?_
  refine wt_cmp ?_
  refine we_int ?_
  refine we_var 0 rfl ?_
  refine cr_inO D.A An rfl (hr.mono (by decide)) ⟨l, _, rfl, .inr (.inl ⟨_, rfl⟩), rfl⟩ ?_
  refine ifk_F (by rfl) ?_
  refine ww_or1 ?_
  refine wt_cmp ?_
  refine we_tup ?_
  refine wa_cons ?_
  refine we_str [97] ?_
  refine wa_nil ?_
  refine ⟨by first | omega | (simp only [rg_len, List.length_append, List.length_cons, List.length_nil, List.length_map, List.length_range, List.length_take, List.length_drop, List.length_singleton]; omega) | (simp; omega) | (simp; done) | decide, ?_⟩
  refine we_var 0 rfl ?_
  refine cr_inO D.A An rfl (hr.mono (by decide)) ⟨l, _, rfl, .inr (.inr ⟨_, rfl⟩), rfl⟩ ?_
  refine ifk_F (by rfl) ?_
  refine ws_nil ?_
  refine aft_nx ?_
  refine ws_for (fun i => [some (.fr (dA l)), some (.fr (.str (sx l))), some (.fr (.str (sx u))), slot (fun i => .int i) i, none]) (l.length) ?_
  refine wi_range1 D.ran ?_
  refine we_len rfl D.len ?_
  refine we_var 1 rfl ?_
  first | (refine len_x (by first | omega | (simp only [rg_len, List.length_append, List.length_cons, List.length_nil, List.length_map, List.length_range, List.length_take, List.length_drop, List.length_singleton]; omega) | (simp; omega) | (simp; done) | decide) ?_) | (refine len_l ?_) | (refine len_t ?_) | (refine len_r ?_)
  refine ⟨l.length, rfl, by omega, ?_⟩
  refine ⟨by rfl, by first | rfl | (simp only [rg_len, List.length_map, List.length_range]; done) | (simp [rg_len]; done) | (simp [rg_len]; omega), ?_, ?_⟩
  · skip
    intro i d hd
    obtain ⟨hi, rfl⟩ := rg_get hd
    have hg : l[i]? = some l[i] := List.getElem?_eq_getElem hi
    have hidx : l.idxOf l[i] = i := idx_at hl.nd hi
    refine wg_name 3 scLMem.nd ?_
    refine ws_if ?_
    refine wt_cmp ?_
    refine we_mf D.A AX rfl (hr.mono (by decide)) ?_
    refine we_var 0 rfl ?_
    refine ⟨_, rfl, ?_⟩
    refine wa_cons ?_
    refine we_ix ?_
    refine we_var 1 rfl ?_
    refine we_var 3 rfl ?_
    refine ix_x (m := i) (by omega) rfl hg ?_
    refine wa_nil ?_
    refine ⟨_, ⟨l, l[i], rfl, List.getElem_mem hi, rfl⟩, ?_⟩
    refine we_var 3 rfl ?_
    first | (refine cr_neI ?_) | (refine cr_neX ?_) | (refine cr_neB ?_)
    refine ifk_F (by rw [hidx]; simp) ?_
    skip
    refine ws_nil ?_
    refine aft_nx ?_
    refine ws_nil ?_
    first | exact .inl rfl | exact .inr rfl
  refine ws_for (fun i => [some (.fr (dA l)), some (.fr (.str (sx l))), some (.fr (.str (sx u))), slot (fun i => .int i) l.length, slot (fun i => (noL l).getD i .non) i]) (5) ?_
  refine wi_val rfl ?_
  refine we_lst ?_
  refine wa_cons ?_
  refine we_str [113] ?_
  refine wa_cons ?_
  refine we_str [] ?_
  refine wa_cons ?_
  refine we_bin ?_
  refine we_var 1 rfl ?_
  refine we_var 1 rfl ?_
  first | (refine br_add ?_) | (refine br_addX (by first | omega | (simp only [rg_len, List.length_append, List.length_cons, List.length_nil, List.length_map, List.length_range, List.length_take, List.length_drop, List.length_singleton]; omega) | (simp; omega) | (simp; done) | decide) ?_) | (refine br_cat (by first | omega | (simp only [rg_len, List.length_append, List.length_cons, List.length_nil, List.length_map, List.length_range, List.length_take, List.length_drop, List.length_singleton]; omega) | (simp; omega) | (simp; done) | decide) ?_) | (refine br_tcat rfl (by first | omega | (simp only [rg_len, List.length_append, List.length_cons, List.length_nil, List.length_map, List.length_range, List.length_take, List.length_drop, List.length_singleton]; omega) | (simp; omega) | (simp; done) | decide) ?_)
  refine wa_cons ?_
  refine we_non ?_
  refine wa_cons ?_
  refine we_int ?_
  refine wa_nil ?_
  refine ⟨by first | omega | (simp only [rg_len, List.length_append, List.length_cons, List.length_nil, List.length_map, List.length_range, List.length_take, List.length_drop, List.length_singleton]; omega) | (simp; omega) | (simp; done) | decide, ?_⟩
  first | (refine it_l ?_) | (refine it_t ?_) | (refine it_r ?_) | (refine it_x ?_)
  refine ⟨by rfl, by first | rfl | (simp only [rg_len, List.length_map, List.length_range]; done) | (simp [rg_len]; done) | (simp [rg_len]; omega), ?_, ?_⟩
  · skip
    intro i d hd
    have hd : (noL l)[i]? = some d := hd
    have hn := noL_at h1 h4 hq hd
    have hd2 : (noL l).getD i .non = d := by rw [List.getD_eq_getElem?_getD, hd]; rfl
    refine wg_name 4 scLMem.nd ?_
    refine ws_if ?_
    refine wt_not ?_
    refine wt_val ?_
    refine we_df Ni rfl (hr.mono (by decide)) ?_
    refine wa_cons ?_
    refine we_var 0 rfl ?_
    refine wa_cons ?_
    refine we_var 4 rfl ?_
    refine wa_nil ?_
    refine ⟨_, ⟨l, d, rfl, h4, hn, rfl⟩, ?_⟩
    refine ⟨_, rfl, ?_⟩
    refine ifk_F (by rfl) ?_
    refine ws_nil ?_
    refine aft_nx ?_
    refine ws_nil ?_
    refine .inl ?_
    show Out.nx _ = .nx [_, _, _, _, some (.fr ((noL l).getD i .non))]
    rw [hd2]; rfl
  refine ws_ret ?_
  refine we_bl ?_
  rfl
end
end My
set_option autoImplicit false
set_option maxRecDepth 100000
set_option maxHeartbeats 4000000
set_option exponentiation.threshold 100000
namespace My
open PySem PySem.Spec PyProof.Rows L2 Dv Mq
open Gn
theorem eqv_txs : ∀ l m : List (List Nat), PyData.eqvAll (l.map fun w => .str (sx w)) (m.map fun w => .str (sx w)) = decide (l = m)
  | [], [] => by rw [List.map_nil, PyData.eqvAll.eq_1]; rfl
  | [], b :: m => by rw [List.map_nil, List.map_cons, PyData.eqvAll.eq_3]; rfl
  | a :: l, [] => by rw [List.map_nil, List.map_cons, PyData.eqvAll.eq_4]; rfl
  | a :: l, b :: m => by
    rw [List.map_cons, List.map_cons, PyData.eqvAll.eq_2, eqv_txs l m, PyData.eqv.eq_6]
    by_cases h : a = b
    · subst h; simp
    · rw [decide_eq_false (show ¬ a :: l = b :: m from fun z => h (List.cons.inj z).1)]
      have : ¬ sx a = sx b := fun z => h (by simpa [sx] using z)
      simp [this]
def Cps (l : List (List Nat)) : Prop := ∀ w ∈ l, ∀ q ∈ w, q < 1114112
theorem pll_txs {k : Nat} : ∀ l : List (List Nat), Cps l → PlL k (dWl l) (l.map fun w => .str (sx w))
  | [], _ => pll_nil
  | w :: l, h => pll_cons (pl_str (h w (List.mem_cons_self ..))) (pll_txs l fun v hv => h v (List.mem_cons_of_mem _ hv))
theorem pl_txs {k : Nat} (l : List (List Nat)) (h : Cps l) : Pl (k + 1) (.lst (dWl l)) (.list (l.map fun w => .str (sx w))) := pl_lst (pll_txs l h)
theorem cr_neTs {c : Dv.Ctx} {X : Cx} {l m : List (List Nat)} {k : Nat} {Q : Bool → Prop} (hl : Cps l) (hm : Cps m) (hK : X.K = c.K) (hr : Room k X.A) (kk : Q (!decide (l = m))) : CmpR c X .NotEq (.lst (dWl l)) (.lst (dWl m)) Q :=
  cr_neP (pl_txs (k := 0) l hl) (pl_txs m hm) (by decide) (by rw [PyData.eqv.eq_7, eqv_txs]) hK hr kk
theorem rows_sub (l : List Nat) : ∀ k w, w ∈ rowsL l k → ∀ q ∈ w, q ∈ l
  | 0, w, h, q, hq => by rw [List.mem_singleton.mp h] at hq; cases hq
  | k + 1, w, h, q, hq => by
    obtain ⟨v, hv, hw⟩ := List.mem_flatMap.mp (show w ∈ wsL l (rowsL l k) from h)
    obtain ⟨x, hx, rfl⟩ := List.mem_map.mp hw
    rcases List.mem_append.mp hq with z | z
    · exact rows_sub l k v hv q z
    · rw [List.mem_singleton.mp z]; exact hx
theorem all_sub (l : List Nat) : ∀ k w, w ∈ allL l k → ∀ q ∈ w, q ∈ l
  | 0, w, h, q, hq => by rw [List.mem_singleton.mp h] at hq; cases hq
  | k + 1, w, h, q, hq => by
    rcases List.mem_append.mp (show w ∈ allL l k ++ rowsL l (k + 1) from h) with z | z
    · exact all_sub l k w z q hq
    · exact rows_sub l (k + 1) w z q hq
theorem cps_all {l : List Nat} (h : AlOk l) (k : Nat) : Cps (allL l k) := fun w hw q hq => by have := h.rng q (all_sub l k w hw q hq); omega
theorem cps_one {l : List Nat} (h : AlOk l) : Cps (l.map fun q => [q]) := fun w hw q hq => by
  obtain ⟨x, hx, rfl⟩ := List.mem_map.mp hw
  rw [List.mem_singleton.mp hq]
  have := h.rng x hx
  omega
theorem plc_wdD {l : List Nat} (hl : AlOk l) {r : Nat} (h : ∀ k ∈ wdN l.length r, k < l.length) : plc l (wdD l r) = wdN l.length r ∧ ∀ q ∈ wdD l r, q ∈ l := by
  have hg : ∀ k ∈ wdN l.length r, ∃ hk : k < l.length, l.getD k 0 = l[k] := fun k hk => ⟨h k hk, by rw [List.getD_eq_getElem?_getD, List.getElem?_eq_getElem (h k hk)]; rfl⟩
  refine ⟨?_, fun q hq => ?_⟩
  · unfold plc wdD
    rw [List.map_map]
    refine (List.map_congr_left fun k hk => ?_).trans (List.map_id' _)
    obtain ⟨a, b⟩ := hg k hk
    show l.idxOf (l.getD k 0) = k
    rw [b]
    exact idx_at hl.nd a
  · obtain ⟨k, hk, rfl⟩ := List.mem_map.mp hq
    obtain ⟨a, b⟩ := hg k hk
    rw [b]
    exact List.getElem_mem a
theorem rep_one (m q : Nat) : (List.replicate (m : Int).toNat [q]).flatten = List.replicate m q := by
  rw [Int.toNat_natCast]
  induction m with
  | zero => rfl
  | succ m ih => rw [List.replicate_succ, List.flatten_cons, ih, List.replicate_succ]; rfl
theorem al_rev {l : List Nat} (h : AlOk l) : AlOk l.reverse := ⟨by rw [List.length_reverse]; exact h.lo, by rw [List.length_reverse]; exact h.hi, fun x hx => h.rng x (List.mem_reverse.mp hx), List.pairwise_reverse.mpr (h.nd.imp Ne.symm)⟩
theorem rev_ne {l : List Nat} (h : AlOk l) (h1 : 1 < l.length) : ¬ l = l.reverse := fun z => by
  have e : l[0]? = l.reverse[0]? := congrArg (fun y => y[0]?) z
  rw [List.getElem?_reverse (by omega), List.getElem?_eq_getElem (by omega), List.getElem?_eq_getElem (by omega)] at e
  exact List.pairwise_iff_getElem.mp h.nd 0 (l.length - 1 - 0) (by omega) (by omega) (by omega) (Option.some.inj e)
def bdL : List Dt := [.str (sx []), .str (sx [97, 97]), .str (sx [97, 98, 99, 100, 101]), .str (sx [97, 66]), .str (sx [97, 49]), .str (sx [32]), .non, .int 5, .tup [.str (sx [97]), .str (sx [98])]]
theorem bd_at {k : Nat} (h : k < 9) : ∃ d, bdL[k]? = some d ∧ NoAl d := by
  match k, h with
  | 0, _ => exact ⟨_, rfl, .inr (.inl ⟨[], rfl, .inl (by decide), by decide⟩)⟩
  | 1, _ => exact ⟨_, rfl, .inr (.inr (.inr rfl))⟩
  | 2, _ => exact ⟨_, rfl, .inr (.inl ⟨[97, 98, 99, 100, 101], rfl, .inr (by decide), by decide⟩)⟩
  | 3, _ => exact ⟨_, rfl, .inr (.inr (.inl ⟨[97, 66], rfl, by decide, by decide, 66, by decide, by decide⟩))⟩
  | 4, _ => exact ⟨_, rfl, .inr (.inr (.inl ⟨[97, 49], rfl, by decide, by decide, 49, by decide, by decide⟩))⟩
  | 5, _ => exact ⟨_, rfl, .inr (.inr (.inl ⟨[32], rfl, by decide, by decide, 32, by decide, by decide⟩))⟩
  | 6, _ => exact ⟨_, rfl, .inl (.inl rfl)⟩
  | 7, _ => exact ⟨_, rfl, .inl (.inr (.inl ⟨5, rfl⟩))⟩
  | 8, _ => exact ⟨_, rfl, .inl (.inr (.inr ⟨_, rfl⟩))⟩
  | k + 9, h => omega
theorem rk_small6 {n : Nat} (h : n ≤ 4) {ks : List Nat} (hk : ∀ k ∈ ks, k < n) (hl : ks.length ≤ 6) : rkN n ks ≤ 100000 := by
  have h1 := rkN_le h ks 0 hk
  have h2 : 5 ^ ks.length ≤ 5 ^ 6 := Nat.pow_le_pow_right (by decide) hl
  have e : (5 : Nat) ^ 6 = 15625 := rfl
  unfold rkN
  omega
end My
set_option autoImplicit false
set_option maxRecDepth 100000
set_option maxHeartbeats 4000000
set_option exponentiation.threshold 100000
namespace My
open PySem PySem.Spec PyProof.Rows L2 Dv Mq
open Gn
abbrev sLaw : Stmt := topS 16
def RLaw (ds : List Dt) (r : Dt) : Prop := ∃ ns : List Int, ds = [.ro (dInts ns)] ∧ r = .bl true
theorem cmp_int (a b : Nat) : cmpI a b = (if decide ((b : Int) < a) = true then (1 : Int) else 0) - (if decide ((a : Int) < b) = true then (1 : Int) else 0) := by
  unfold cmpI
  by_cases h : a < b
  · rw [if_pos h, if_neg (by simp; omega), if_pos (by simp; exact h)]; rfl
  · by_cases h2 : b < a
    · rw [if_neg h, if_pos h2, if_pos (by simp; exact h2), if_neg (by simp; omega)]; rfl
    · rw [if_neg h, if_neg h2, if_neg (by simp; omega), if_neg (by simp; omega)]; rfl
section
variable {P : Program} {w : World} {K : PySem.W.Frag} {T : Ct} {mg : Str → Option Value} {base : Heap} {f CA CE CRf fI CB : Addr} {fd : FuncData}
abbrev nLaw : List Str := ["script", "state", "letters", "alphabet", "u", "v", "most", "due", "word", "letter", "at", "one", "two", "bad"]
theorem scLaw : FnScope nLaw ["script"] (defScope sLaw) := ⟨rfl, rfl, rfl, by decide +kernel, rfl, by decide +kernel, by decide +kernel⟩
theorem ok_law (F : Fun K "law" "law" sLaw f fd) (D : Md K T mg CA) (Sta : DL P w K T mg base "_law_state" 1 RState) (Tk : DM P w K T mg base "_law_take" 1 RTake) (Lt : DM P w K T mg base "_law_letters" 2 RLett) (Wd : DM P w K T mg base "_law_word" 2 RWord) (Ws : DF P w K T mg base "_law_words" 1 RLWs) (Lr : DF P w K T mg base "_law_rank" 1 RLRk) (Me : DF P w K T mg base "_law_members" 5 RLMem) (Ba : DF P w K T mg base "_law_bad" 3 RLBad) (AI : IF' P w K T mg base 2 CA [] 1 RAI) (AL : MF P w K T mg base CA "__len__" 1 RALen) (AE : MF P w K T mg base CA "__eq__" 1 RAEq) (AEt : MF P w K T mg base CA "__eq__" 1 RAEt) (nfs : PySem.W.notFirst K CA (.type "str") = true) (AR : MF P w K T mg base CA "rank" 2 RARk) (AW : MF P w K T mg base CA "word_at" 1 RWat) (AF : MF P w K T mg base CA "first_at" 1 RFst) (Cm : MF P w K T mg base CA "compare" 2 RCmp) (Wo : GM P w K T mg base CA "words" 3 RWo) (It : ItS P w K T mg CA 2 0) : FnOk P w K mg base CX0 12 f fd ["script"] (spD K T RLaw) := by
  refine okDw F scLaw (fun ds r h => by obtain ⟨_, rfl, _⟩ := h; rfl) fun cdv A outer s H E' pa ds r hr hR => ?_
  obtain ⟨ns, rfl, rfl⟩ := hR
  have o0 := stOf_ok ns
  generalize hs0 : stOf ns = s0 at o0
  obtain ⟨hal, h113, o1⟩ := ltV_ok o0
  generalize hL : ltV s0 = L at hal h113
  generalize hs1 : ltS s0 = s1 at o1
  have h1 := hal.lo
  have h4 := hal.hi
  obtain ⟨lu, hu, o2⟩ := lwV_ok h1 o1
  generalize hU : lwV L s1 = U at lu hu
  generalize hs2 : lwS L s1 = s2 at o2
  obtain ⟨lv, hv, o3⟩ := lwV_ok h1 o2
  generalize hV : lwV L s2 = V at lv hv
  generalize hs3 : lwS L s2 = s3 at o3
  obtain ⟨m0, hm0, hm5⟩ := tk_nat (s := s3) (m := 5) (by decide)
  have o4 : StOk (tkS s3 5) := tk_ok o3 (by decide)
  generalize hs4 : tkS s3 5 = s4 at o4
  obtain ⟨m, hm⟩ : ∃ m, m = if L.length = 4 then min m0 3 else m0 := ⟨_, rfl⟩
  have hSm : Sm L.length m := ⟨h1, h4, by rw [hm]; split <;> omega, fun z => by rw [hm, if_pos z]; omega⟩
  have hm4 := hSm.2.2.1
  have hcn := cn_small _ _ hSm
  have hdl : (dWl (allL L m)).length = cnN L.length m := by rw [due_eq hSm, rg_len]
  have hcp : 0 < cnN L.length m := by cases m with | zero => exact Nat.one_pos | succ m => show 0 < 1 + _; omega
  obtain ⟨a, ha, ha2⟩ := tk_nat (s := s4) (m := ((dWl (allL L m)).length : Int)) (by omega)
  have hac : a < cnN L.length m := by omega
  have o5 : StOk (tkS s4 ((dWl (allL L m)).length : Int)) := tk_ok o4 (by omega)
  generalize hs5 : tkS s4 ((dWl (allL L m)).length : Int) = s5 at o5
  obtain ⟨k9, hk9, hk92⟩ := tk_nat (s := s5) (m := 9) (by decide)
  obtain ⟨dB, hdB, hnB⟩ := bd_at (k := k9) (by omega)
  have hdue : (dWl (allL L m))[a]? = some (.str (sx (wdD L a))) := by rw [due_eq hSm]; exact rg_at hac
  obtain ⟨ea, hk⟩ := rk_wd _ _ hSm a hac
  obtain ⟨pw, mw⟩ := plc_wdD hal hk
  have lw : (wdD L a).length ≤ 4 := by rw [wdD_len]; exact Nat.le_trans ((wd_len _ _ hSm).1 a hac) hm4
  have pu := plc_lt hu
  have pv := plc_lt hv
  have r1 := rk_small6 h4 pu (by rw [pl_len]; exact lu)
  have r2 := rk_small6 h4 pv (by rw [pl_len]; exact lv)
  have e0 : L[0]? = some (L.getD 0 0) := by rw [List.getD_eq_getElem?_getD, List.getElem?_eq_getElem (by omega)]; rfl
  have eL : (L.map fun q => Dt.str (sx [q])) = dWl (L.map fun q => [q]) := by unfold dWl; rw [List.map_map]; rfl
  refine ws_setOw 1 scLaw.nd ?_
  refine wl_dl Sta rfl (hr.mono (by decide)) ?_
  refine wa_cons ?_
  refine we_var 0 rfl ?_
  refine wa_nil ?_
  refine ⟨dSt s0, ⟨ns, rfl, by rw [hs0]⟩, ?_⟩
  refine ws_set 2 scLaw.nd ?_
  refine we_dm 1 rfl Lt rfl (hr.mono (by decide)) ?_
  refine wa_cons ?_
  refine we_int ?_
  refine wa_nil ?_
  refine ⟨dSt s0, .str (sx L), dSt s1, rfl, .ow, ⟨s0, rfl, rfl, o0, by rw [hL], by rw [hs1]⟩, ?_⟩
  refine ws_set 3 scLaw.nd ?_
  refine we_mk D.A AI rfl (hr.mono (by decide)) ?_
  refine wa_cons ?_
  refine we_var 2 rfl ?_
  refine wa_nil ?_
  refine ⟨_, ⟨L, rfl, hal, rfl⟩, ?_⟩
  refine ws_par 4 5 scLaw.nd rfl ?_
  refine wa_cons ?_
  refine we_dm 1 rfl Wd rfl (hr.mono (by decide)) ?_
  refine wa_cons ?_
  refine we_var 2 rfl ?_
  refine wa_cons ?_
  refine we_int ?_
  refine wa_nil ?_
  refine ⟨dSt s1, .str (sx U), dSt s2, rfl, .ow, ⟨s1, L, rfl, rfl, o1, h1, h4, by rw [hU], by rw [hs2]⟩, ?_⟩
  refine wa_cons ?_
  refine we_dm 1 rfl Wd rfl (hr.mono (by decide)) ?_
  refine wa_cons ?_
  refine we_var 2 rfl ?_
  refine wa_cons ?_
  refine we_int ?_
  refine wa_nil ?_
  refine ⟨dSt s2, .str (sx V), dSt s3, rfl, .ow, ⟨s2, L, rfl, rfl, o2, h1, h4, by rw [hV], by rw [hs3]⟩, ?_⟩
  refine wa_nil ?_
  refine ⟨_, _, rfl, ?_⟩
  refine ws_set 6 scLaw.nd ?_
  refine we_dm 1 rfl Tk rfl (hr.mono (by decide)) ?_
  refine wa_cons ?_
  refine we_int ?_
  refine wa_nil ?_
  refine ⟨dSt s3, .int (m0 : Int), dSt s4, rfl, .ow, ⟨s3, 5, rfl, rfl, o3, by decide, by decide, congrArg Dt.int hm0.symm, by rw [hs4]⟩, ?_⟩
  refine ws_ifJ ([some (.fr (.ro (dInts ns))), some (.ow (dSt s4)), some (.fr (.str (sx L))), some (.fr (dA L)), some (.fr (.str (sx U))), some (.fr (.str (sx V))), some (.fr (.int (m : Int))), none, none, none, none, none, none, none]) ?_ ?_
  · skip
    refine wt_cmp ?_
    refine we_len rfl D.len ?_
    refine we_var 2 rfl ?_
    first | (refine len_x (by first | omega | (simp only [rg_len, List.length_append, List.length_cons, List.length_nil, List.length_map, List.length_range, List.length_take, List.length_drop, List.length_singleton]; omega) | (simp; omega) | (simp; done) | decide) ?_) | (refine len_l ?_) | (refine len_t ?_) | (refine len_r ?_)
    refine we_int ?_
    first | (refine cr_eqI ?_) | (refine cr_eqX ?_) | (refine cr_eqB ?_)
    refine ifk_S (fun h1 => ?_) (fun h1 => ?_)
    · skip
      try simp only [decide_eq_true_eq, decide_eq_false_iff_not, Bool.not_eq_true', Bool.not_eq_false', Bool.not_eq_eq_eq_not, Bool.not_true, Bool.not_false] at h1
      refine ws_set 6 scLaw.nd ?_
      refine we_min2 rfl D.min ?_
      refine wa_cons ?_
      refine we_var 6 rfl ?_
      refine wa_cons ?_
      refine we_int ?_
      refine wa_nil ?_
      refine ⟨_, _, rfl, ?_⟩
      refine ws_nil ?_
      rw [show (m : Int) = min (m0 : Int) 3 by rw [hm, if_pos (by omega)]; omega]; rfl
    · skip
      try simp only [decide_eq_true_eq, decide_eq_false_iff_not, Bool.not_eq_true', Bool.not_eq_false', Bool.not_eq_eq_eq_not, Bool.not_true, Bool.not_false] at h1
      refine ws_nil ?_
      rw [show m = m0 by rw [hm, if_neg (by omega)]]; rfl
  refine ws_set 7 scLaw.nd ?_
  refine we_df Ws rfl (hr.mono (by decide)) ?_
  refine wa_cons ?_
  refine we_var 2 rfl ?_
  refine wa_cons ?_
  refine we_var 6 rfl ?_
  refine wa_nil ?_
  refine ⟨_, ⟨L, m, rfl, hal, hm4, rfl⟩, ?_⟩
  refine ws_if ?_
  refine wt_of ?_
  refine ww_or ?_
  refine wt_cmp ?_
  refine we_xl ?_
  refine wl_genM 8 scLaw.nd D.A Wo rfl (hr.mono (by decide)) ?_
  refine we_var 3 rfl ?_
  refine ⟨_, rfl, ?_⟩
  refine wa_cons ?_
  refine we_var 6 rfl ?_
  refine wa_nil ?_
  refine ⟨_, ⟨L, m, rfl, hal, hSm, rfl⟩, by rw [rg_len]; omega, ?_⟩
  refine we_var 7 rfl ?_
  rw [← due_eq hSm]
  refine cr_neTs (cps_all hal m) (cps_all hal m) rfl hr ?_
  refine ifk_F (by rw [decide_eq_true rfl]; rfl) ?_
  refine ww_or1 ?_
  refine wt_cmp ?_
  refine we_xl ?_
  refine wl_map1 9 (L.map fun q => .str (sx [q])) scLaw.nd ?_
  refine wi_ownS D.A It rfl (hr.mono (by decide)) ?_
  refine we_var 3 rfl ?_
  refine ⟨_, L, rfl, rfl, ?_⟩
  refine ⟨by first | rfl | (simp only [rg_len, rgo_len, List.length_map, List.length_range, List.length_append]; done) | (simp [rg_len, rgo_len]; done) | (simp [rg_len, rgo_len]; omega), by first | omega | (simp only [rg_len, List.length_append, List.length_cons, List.length_nil, List.length_map, List.length_range, List.length_take, List.length_drop, List.length_singleton]; omega) | (simp; omega) | (simp; done) | decide, rfl, ?_, ?_⟩
  · skip
    intro i d v g1 g2 sh H C cl fp
    obtain ⟨q, _, rfl, rfl⟩ := map2_get g1 g2
    refine we_var 9 rfl ?_
    exact ⟨rfl, rfl⟩
  refine we_is (xd_listX (xd_var 2) (by omega) rfl D.lst) ?_
  rw [eL]
  refine cr_neTs (cps_one hal) (cps_one hal) rfl hr ?_
  refine ifk_F (by rw [decide_eq_true rfl]; rfl) ?_
  refine ws_nil ?_
  refine aft_nx ?_
  refine ws_set 10 scLaw.nd ?_
  refine we_dm 1 rfl Tk rfl (hr.mono (by decide)) ?_
  refine wa_cons ?_
  refine we_len rfl D.len ?_
  refine we_var 7 rfl ?_
  first | (refine len_x (by first | omega | (simp only [rg_len, List.length_append, List.length_cons, List.length_nil, List.length_map, List.length_range, List.length_take, List.length_drop, List.length_singleton]; omega) | (simp; omega) | (simp; done) | decide) ?_) | (refine len_l ?_) | (refine len_t ?_) | (refine len_r ?_)
  refine wa_nil ?_
  refine ⟨dSt s4, .int (a : Int), dSt s5, rfl, .ow, ⟨s4, ((dWl (allL L m)).length : Int), rfl, rfl, o4, by omega, by omega, congrArg Dt.int ha.symm, by rw [hs5]⟩, ?_⟩
  refine ws_if ?_
  refine wt_of ?_
  refine ww_or ?_
  refine wt_cmp ?_
  refine we_mf D.A AR rfl (hr.mono (by decide)) ?_
  refine we_var 3 rfl ?_
  refine ⟨_, rfl, ?_⟩
  refine wa_cons ?_
  refine we_ix ?_
  refine we_var 7 rfl ?_
  refine we_var 10 rfl ?_
  refine ix_l (m := a) rfl rfl hdue ?_
  refine wa_nil ?_
  refine ⟨_, ⟨L, wdD L a, rfl, hal, mw, by omega, rfl⟩, ?_⟩
  refine we_var 10 rfl ?_
  first | (refine cr_neI ?_) | (refine cr_neX ?_) | (refine cr_neB ?_)
  refine ifk_F (by rw [pw, ea]; simp) ?_
  refine ww_or ?_
  refine wt_cmp ?_
  refine we_mf D.A AW rfl (hr.mono (by decide)) ?_
  refine we_var 3 rfl ?_
  refine ⟨_, rfl, ?_⟩
  refine wa_cons ?_
  refine we_var 10 rfl ?_
  refine wa_nil ?_
  refine ⟨_, ⟨L, a, rfl, hal, by omega, rfl⟩, ?_⟩
  refine we_ix ?_
  refine we_var 7 rfl ?_
  refine we_var 10 rfl ?_
  refine ix_l (m := a) rfl rfl hdue ?_
  first | (refine cr_neI ?_) | (refine cr_neX ?_) | (refine cr_neB ?_)
  refine ifk_F (by simp) ?_
  refine ww_or1 ?_
  refine wt_cmp ?_
  refine we_mf D.A AF rfl (hr.mono (by decide)) ?_
  refine we_var 3 rfl ?_
  refine ⟨_, rfl, ?_⟩
  refine wa_cons ?_
  refine we_var 6 rfl ?_
  refine wa_nil ?_
  refine ⟨_, ⟨L, m, rfl, hal, by omega, rfl⟩, ?_⟩
  refine we_bin ?_
  refine we_ix ?_
  refine we_var 2 rfl ?_
  refine we_int ?_
  refine ix_x (m := 0) (q := L.getD 0 0) (by omega) rfl e0 ?_
  refine we_var 6 rfl ?_
  refine br_mulY (by omega) (by omega) (by simp) (by simp) (by simp; omega) ?_
  first | (refine cr_neI ?_) | (refine cr_neX ?_) | (refine cr_neB ?_)
  refine ifk_F (by rw [rep_one]; simp) ?_
  refine ws_nil ?_
  refine aft_nx ?_
  refine ws_par 11 12 scLaw.nd rfl ?_
  refine wa_cons ?_
  refine we_df Lr rfl (hr.mono (by decide)) ?_
  refine wa_cons ?_
  refine we_var 2 rfl ?_
  refine wa_cons ?_
  refine we_var 4 rfl ?_
  refine wa_nil ?_
  refine ⟨_, ⟨L, U, rfl, hal, hu, lu, rfl⟩, ?_⟩
  refine wa_cons ?_
  refine we_df Lr rfl (hr.mono (by decide)) ?_
  refine wa_cons ?_
  refine we_var 2 rfl ?_
  refine wa_cons ?_
  refine we_var 5 rfl ?_
  refine wa_nil ?_
  refine ⟨_, ⟨L, V, rfl, hal, hv, lv, rfl⟩, ?_⟩
  refine wa_nil ?_
  refine ⟨_, _, rfl, ?_⟩
  refine ws_if ?_
  refine wt_of ?_
  refine ww_or ?_
  refine wt_cmp ?_
  refine we_mf D.A AR rfl (hr.mono (by decide)) ?_
  refine we_var 3 rfl ?_
  refine ⟨_, rfl, ?_⟩
  refine wa_cons ?_
  refine we_var 4 rfl ?_
  refine wa_nil ?_
  refine ⟨_, ⟨L, U, rfl, hal, hu, by omega, rfl⟩, ?_⟩
  refine we_var 11 rfl ?_
  first | (refine cr_neI ?_) | (refine cr_neX ?_) | (refine cr_neB ?_)
  refine ifk_F (by simp) ?_
  refine ww_or1 ?_
  refine wt_cmp ?_
  refine we_mf D.A AW rfl (hr.mono (by decide)) ?_
  refine we_var 3 rfl ?_
  refine ⟨_, rfl, ?_⟩
  refine wa_cons ?_
  refine we_var 12 rfl ?_
  refine wa_nil ?_
  refine ⟨_, ⟨L, _, rfl, hal, r2, rfl⟩, ?_⟩
  refine we_var 5 rfl ?_
  first | (refine cr_neI ?_) | (refine cr_neX ?_) | (refine cr_neB ?_)
  refine ifk_F (by rw [wdD_rk hal hv]; simp) ?_
  refine ws_nil ?_
  refine aft_nx ?_
  refine ws_if ?_
  refine wt_of ?_
  refine ww_or ?_
  refine wt_cmp ?_
  refine we_mf D.A Cm rfl (hr.mono (by decide)) ?_
  refine we_var 3 rfl ?_
  refine ⟨_, rfl, ?_⟩
  refine wa_cons ?_
  refine we_var 4 rfl ?_
  refine wa_cons ?_
  refine we_var 5 rfl ?_
  refine wa_nil ?_
  refine ⟨_, ⟨L, U, V, rfl, hal, hu, hv, by omega, by omega, rfl⟩, ?_⟩
  refine we_bin ?_
  refine we_intb D.int ?_
  refine we_cmp ?_
  refine we_var 11 rfl ?_
  refine we_var 12 rfl ?_
  refine cr_gt ?_
  refine ⟨_, rfl, ?_⟩
  refine we_intb D.int ?_
  refine we_cmp ?_
  refine we_var 11 rfl ?_
  refine we_var 12 rfl ?_
  refine cr_lt ?_
  refine ⟨_, rfl, ?_⟩
  refine br_sub ?_
  first | (refine cr_neI ?_) | (refine cr_neX ?_) | (refine cr_neB ?_)
  refine ifk_F (by rw [decide_eq_true (show _ = _ from ?_)]; rfl; rw [← cmp_int]) ?_
  refine ww_or1 ?_
  refine wt_cmp ?_
  refine we_mf D.A Cm rfl (hr.mono (by decide)) ?_
  refine we_var 3 rfl ?_
  refine ⟨_, rfl, ?_⟩
  refine wa_cons ?_
  refine we_var 4 rfl ?_
  refine wa_cons ?_
  refine we_var 4 rfl ?_
  refine wa_nil ?_
  refine ⟨_, ⟨L, U, U, rfl, hal, hu, hu, by omega, by omega, rfl⟩, ?_⟩
  refine we_int ?_
  first | (refine cr_neI ?_) | (refine cr_neX ?_) | (refine cr_neB ?_)
  refine ifk_F (by rw [cmp_same]; rfl) ?_
  refine ws_nil ?_
  refine aft_nx ?_
  refine ws_if ?_
  refine wt_of ?_
  refine ww_or ?_
  refine wt_cmp ?_
  refine we_lenF D.A AL rfl (hr.mono (by decide)) D.len ?_
  refine we_var 3 rfl ?_
  refine ⟨_, _, rfl, ⟨L, rfl, h4, rfl⟩, by omega, by omega, ?_⟩
  refine we_len rfl D.len ?_
  refine we_var 2 rfl ?_
  first | (refine len_x (by first | omega | (simp only [rg_len, List.length_append, List.length_cons, List.length_nil, List.length_map, List.length_range, List.length_take, List.length_drop, List.length_singleton]; omega) | (simp; omega) | (simp; done) | decide) ?_) | (refine len_l ?_) | (refine len_t ?_) | (refine len_r ?_)
  first | (refine cr_neI ?_) | (refine cr_neX ?_) | (refine cr_neB ?_)
  refine ifk_F (by simp) ?_
  refine ww_or ?_
  refine wt_cmp ?_
  refine we_ff 0 D.A rfl D.Al ?_
  refine we_var 3 rfl ?_
  refine ⟨_, _, rfl, rfl, ?_⟩
  refine we_var 2 rfl ?_
  first | (refine cr_neI ?_) | (refine cr_neX ?_) | (refine cr_neB ?_)
  refine ifk_F (by simp) ?_
  refine ww_or1 ?_
  refine wt_not ?_
  refine wt_cmp ?_
  refine we_var 3 rfl ?_
  refine we_mk D.A AI rfl (hr.mono (by decide)) ?_
  refine wa_cons ?_
  refine we_var 2 rfl ?_
  refine wa_nil ?_
  refine ⟨_, ⟨L, rfl, hal, rfl⟩, ?_⟩
  refine cr_eqF D.A AE rfl (hr.mono (by decide)) ⟨L, L, rfl, rfl⟩ ?_
  refine ifk_F (by rw [decide_eq_true rfl]; rfl) ?_
  refine ws_nil ?_
  refine aft_nx ?_
  refine ws_if ?_
  refine wt_of ?_
  refine ww_or ?_
  refine wt_cmp ?_
  refine we_var 3 rfl ?_
  refine we_var 2 rfl ?_
  refine cr_eqG gen_str D.A AEt rfl (hr.mono (by decide)) nfs ⟨L, L, rfl, rfl⟩ ?_
  refine ifk_F (by rfl) ?_
  refine ww_or1 ?_
  refine wt_of ?_
  refine ww_and ?_
  refine wt_cmp ?_
  refine we_len rfl D.len ?_
  refine we_var 2 rfl ?_
  first | (refine len_x (by first | omega | (simp only [rg_len, List.length_append, List.length_cons, List.length_nil, List.length_map, List.length_range, List.length_take, List.length_drop, List.length_singleton]; omega) | (simp; omega) | (simp; done) | decide) ?_) | (refine len_l ?_) | (refine len_t ?_) | (refine len_r ?_)
  refine we_int ?_
  refine cr_gt ?_
  refine ifk_S (fun h2 => ?_) (fun h2 => ?_)
  · skip
    try simp only [decide_eq_true_eq, decide_eq_false_iff_not, Bool.not_eq_true', Bool.not_eq_false', Bool.not_eq_eq_eq_not, Bool.not_true, Bool.not_false] at h2
    refine ww_and1 ?_
    refine wt_cmp ?_
    refine we_var 3 rfl ?_
    refine we_mk D.A AI rfl (hr.mono (by decide)) ?_
    refine wa_cons ?_
    refine we_is (xd_revX (xd_var 2) (by omega)) ?_
    refine wa_nil ?_
    refine ⟨_, ⟨L.reverse, rfl, al_rev hal, rfl⟩, ?_⟩
    refine cr_eqF D.A AE rfl (hr.mono (by decide)) ⟨L, L.reverse, rfl, rfl⟩ ?_
    refine ifk_F (by exact decide_eq_false (rev_ne hal (by omega))) ?_
    refine ws_nil ?_
    refine aft_nx ?_
    refine ws_set 13 scLaw.nd ?_
    refine we_lst ?_
    refine wa_cons ?_
    refine we_str [] ?_
    refine wa_cons ?_
    refine we_str [97, 97] ?_
    refine wa_cons ?_
    refine we_str [97, 98, 99, 100, 101] ?_
    refine wa_cons ?_
    refine we_str [97, 66] ?_
    refine wa_cons ?_
    refine we_str [97, 49] ?_
    refine wa_cons ?_
    refine we_str [32] ?_
    refine wa_cons ?_
    refine we_non ?_
    refine wa_cons ?_
    refine we_int ?_
    refine wa_cons ?_
    refine we_tup ?_
    refine wa_cons ?_
    refine we_str [97] ?_
    refine wa_cons ?_
    refine we_str [98] ?_
    refine wa_nil ?_
    refine ⟨by first | omega | (simp only [rg_len, List.length_append, List.length_cons, List.length_nil, List.length_map, List.length_range, List.length_take, List.length_drop, List.length_singleton]; omega) | (simp; omega) | (simp; done) | decide, ?_⟩
    refine wa_nil ?_
    refine ⟨by first | omega | (simp only [rg_len, List.length_append, List.length_cons, List.length_nil, List.length_map, List.length_range, List.length_take, List.length_drop, List.length_singleton]; omega) | (simp; omega) | (simp; done) | decide, ?_⟩
    refine ws_ret ?_
    refine we_and ?_
    refine we_df Me rfl (hr.mono (by decide)) ?_
    refine wa_cons ?_
    refine we_var 3 rfl ?_
    refine wa_cons ?_
    refine we_var 2 rfl ?_
    refine wa_cons ?_
    refine we_var 4 rfl ?_
    refine wa_nil ?_
    refine ⟨_, ⟨L, U, rfl, hal, h113, hu, by omega, rfl⟩, ?_⟩
    refine ⟨_, rfl, ?_⟩
    refine ifk_T (by rfl) ?_
    refine we_one ?_
    refine we_df Ba rfl (hr.mono (by decide)) ?_
    refine wa_cons ?_
    refine we_ix ?_
    refine we_var 13 rfl ?_
    refine we_dm 1 rfl Tk rfl (hr.mono (by decide)) ?_
    refine wa_cons ?_
    refine we_int ?_
    refine wa_nil ?_
    refine ⟨dSt s5, .int (k9 : Int), _, rfl, .ow, ⟨s5, 9, rfl, rfl, o5, by decide, by decide, congrArg Dt.int hk9.symm, rfl⟩, ?_⟩
    refine ix_l (m := k9) rfl rfl hdB ?_
    refine wa_nil ?_
    refine ⟨_, ⟨dB, rfl, hnB, rfl⟩, ?_⟩
    rfl
  · skip
    try simp only [decide_eq_true_eq, decide_eq_false_iff_not, Bool.not_eq_true', Bool.not_eq_false', Bool.not_eq_eq_eq_not, Bool.not_true, Bool.not_false] at h2
    refine ifk_F (by rfl) ?_
    refine ws_nil ?_
    refine aft_nx ?_
    refine ws_set 13 scLaw.nd ?_
    refine we_lst ?_
    refine wa_cons ?_
    refine we_str [] ?_
    refine wa_cons ?_
    refine we_str [97, 97] ?_
    refine wa_cons ?_
    refine we_str [97, 98, 99, 100, 101] ?_
    refine wa_cons ?_
    refine we_str [97, 66] ?_
    refine wa_cons ?_
    refine we_str [97, 49] ?_
    refine wa_cons ?_
    refine we_str [32] ?_
    refine wa_cons ?_
    refine we_non ?_
    refine wa_cons ?_
    refine we_int ?_
    refine wa_cons ?_
    refine we_tup ?_
    refine wa_cons ?_
    refine we_str [97] ?_
    refine wa_cons ?_
    refine we_str [98] ?_
    refine wa_nil ?_
    refine ⟨by first | omega | (simp only [rg_len, List.length_append, List.length_cons, List.length_nil, List.length_map, List.length_range, List.length_take, List.length_drop, List.length_singleton]; omega) | (simp; omega) | (simp; done) | decide, ?_⟩
    refine wa_nil ?_
    refine ⟨by first | omega | (simp only [rg_len, List.length_append, List.length_cons, List.length_nil, List.length_map, List.length_range, List.length_take, List.length_drop, List.length_singleton]; omega) | (simp; omega) | (simp; done) | decide, ?_⟩
    refine ws_ret ?_
    refine we_and ?_
    refine we_df Me rfl (hr.mono (by decide)) ?_
    refine wa_cons ?_
    refine we_var 3 rfl ?_
    refine wa_cons ?_
    refine we_var 2 rfl ?_
    refine wa_cons ?_
    refine we_var 4 rfl ?_
    refine wa_nil ?_
    refine ⟨_, ⟨L, U, rfl, hal, h113, hu, by omega, rfl⟩, ?_⟩
    refine ⟨_, rfl, ?_⟩
    refine ifk_T (by rfl) ?_
    refine we_one ?_
    refine we_df Ba rfl (hr.mono (by decide)) ?_
    refine wa_cons ?_
    refine we_ix ?_
    refine we_var 13 rfl ?_
    refine we_dm 1 rfl Tk rfl (hr.mono (by decide)) ?_
    refine wa_cons ?_
    refine we_int ?_
    refine wa_nil ?_
    refine ⟨dSt s5, .int (k9 : Int), _, rfl, .ow, ⟨s5, 9, rfl, rfl, o5, by decide, by decide, congrArg Dt.int hk9.symm, rfl⟩, ?_⟩
    refine ix_l (m := k9) rfl rfl hdB ?_
    refine wa_nil ?_
    refine ⟨_, ⟨dB, rfl, hnB, rfl⟩, ?_⟩
    rfl
end
end My
set_option autoImplicit false
set_option maxRecDepth 100000
set_option maxHeartbeats 4000000
namespace Gn
open PySem PySem.Spec PyProof.Rows L2 GenW Dv
section
variable {P : Program} {w : World} {K : PySem.W.Frag} {T : Ct} {mg : Str → Option Value} {base : Heap}
theorem MethAt.gm {C : Addr} {m q : Str} {st : Stmt} {k : Nat} {R : List Dt → List Dt → Prop} {ps : List Str} (D : MethAt K C m q st)
    (ok : ∀ f fd, Fun K m q st f fd → GFn1 P w K mg base k f fd ps (spY K T R)) (hb : ∀ (kV doc pm : Value) (an : Option Addr) (cdv ct : Value) (us : List Value), us.length = ps.length → bindArgs (PySem.W.fnOf m q (defArgs st) (defBody st) (defScope st) .none kV doc pm an cdv ct) { pos := us } = pure (ps.zip us)) : GM P w K T mg base C m k R := by
  obtain ⟨f, oc, od, an, kV, dc, pm, cd, ct, sl, a, i, l, c, kp⟩ := D
  have F := fun_mk (st := st) l c kp
  exact ⟨f, _, ps, ok f _ F, ⟨a, i, kp⟩, F.binds hb⟩
end
end Gn
set_option autoImplicit false
set_option maxRecDepth 100000
set_option maxHeartbeats 4000000
namespace My
open PySem PySem.Spec PyProof.Rows L2 Dv Mq GenW Gn
def spTop (K : PySem.W.Frag) : Sp := fun vs H Q _ => ∃ (a : Addr) (ns : List Int), vs = [.ref a] ∧ SqL K H a (ns.map V.int) ∧ ∀ H', Q (.bl true) H'
theorem reps_ints {K : PySem.W.Frag} {T : Ct} {G : Hp} : ∀ ns : List Int, Reps K T G (dInts ns) (ns.map V.int)
  | [] => .nil
  | n :: ns => .cons .int (reps_ints ns)
def tabl (CA CB CE CRf CB_ : Addr) : Ct := fun n => match n with
  | 2 => some (CA, ["letters"])
  | _ => none
theorem all_T {P : Program} {w : World} {K : PySem.W.Frag} {T : Ct} {h : Heap} {mg : Str → Option Value} {fa CA CB CE CRf CB_ : Addr} (X : K.In h) (G : h.Ns mainGlobals mg) (hfa : mg "law" = some (.ref fa)) (hT2 : T 2 = some (CA, (["letters"] : List Str)))
    (cCA : ClsOf K "Alphabet" CA)
    (k2 : PySem.W.findIn K (.ref CA) "letters" = some none)
    (k3 : PySem.W.findIn K (.ref CA) "__ne__" = some (some (.builtin "object.__ne__")))
    (k4 : PySem.W.nsIn K mainGlobals "isinstance" = some none)
    (k5 : PySem.W.nsIn K mainGlobals "len" = some none)
    (k6 : PySem.W.nsIn K mainGlobals "str" = some none)
    (k7 : PySem.W.nsIn K mainGlobals "all" = some none)
    (k8 : PySem.W.nsIn K mainGlobals "set" = some none)
    (k9 : PySem.W.nsIn K mainGlobals "list" = some none)
    (k10 : PySem.W.nsIn K mainGlobals "range" = some none)
    (k11 : PySem.W.nsIn K mainGlobals "int" = some none)
    (k12 : PySem.W.nsIn K mainGlobals "abs" = some none)
    (k13 : PySem.W.nsIn K mainGlobals "min" = some none)
    (k14 : PySem.W.nsIn K mainGlobals "zip" = some none)
    (k15 : PySem.W.nsIn K mainGlobals "reversed" = some none)
    (k16 : PySem.W.nsIn K mainGlobals "iter" = some none)
    (d18 : DefAt K "_law_state" sState)
    (d20 : DefAt K "_law_take" sTake)
    (d22 : DefAt K "_law_letters" sLett)
    (d24 : DefAt K "_law_word" sWord)
    (d26 : DefAt K "_law_words" sLWs)
    (d28 : DefAt K "_law_rank" sLRk)
    (d30 : DefAt K "_law_members" sLMem)
    (m31 : MethAt K CA "index" "Alphabet.index" sAX)
    (m33 : MethAt K CA "__contains__" "Alphabet.__contains__" sACt)
    (d36 : DefAt K "_law_no_index" sLNoI)
    (k37 : PySem.W.nsIn K mainGlobals "Fault" = some (some (.ref CB)))
    (k38 : PySem.W.nsIn K mainGlobals "Malformed" = some (some (.ref CE)))
    (k39 : PySem.W.nsIn K mainGlobals "Refused" = some (some (.ref CRf)))
    (k40 : PySem.W.subIn K (.ref CB) (.type "BaseException") = some true)
    (k41 : PySem.W.isClsIn K CB = true)
    (k42 : PySem.W.typeIn K (.ref CB) = some (.type "type"))
    (k43 : PySem.W.subIn K (.ref CE) (.ref CB) = some true)
    (k45 : PySem.W.subIn K (.ref CRf) (.ref CB) = some true)
    (e47 : ExcOf K CE)
    (e48 : ExcOf K CRf)
    (k49 : PySem.W.isClsIn K CE = true)
    (k50 : PySem.W.typeIn K (.ref CE) = some (.type "type"))
    (k52 : PySem.W.isClsIn K CRf = true)
    (k53 : PySem.W.typeIn K (.ref CRf) = some (.type "type"))
    (r56 : RfOf K CRf CB_)
    (m57 : MethAt K CRf "__init__" "Refused.__init__" sRfi)
    (d61 : DefAt K "_law_bad" sLBad)
    (m62 : MethAt K CA "__init__" "Alphabet.__init__" sAI2)
    (r63 : RzOf K "Malformed" CE)
    (m67 : MethAt K CA "__len__" "Alphabet.__len__" sAL)
    (m69 : MethAt K CA "__eq__" "Alphabet.__eq__" sAE)
    (k71 : PySem.W.isClsIn K CA = true)
    (k72 : PySem.W.typeIn K (.ref CA) = some (.type "type"))
    (k73 : PySem.W.subIn K (.type "str") (.ref CA) = some false)
    (k76 : PySem.W.notFirst K CA (.type "str") = true)
    (m77 : MethAt K CA "rank" "Alphabet.rank" sAR)
    (m79 : MethAt K CA "word_at" "Alphabet.word_at" sAW)
    (m81 : MethAt K CA "first_at" "Alphabet.first_at" sAF)
    (m83 : MethAt K CA "compare" "Alphabet.compare" sCmp)
    (m85 : MethAt K CA "words" "Alphabet.words" sWo)
    (m87 : MethAt K CA "__iter__" "Alphabet.__iter__" sAIt)
    (dlaw : DefAt K "law" sLaw) :
    ∃ fd : FuncData, (∀ (s : Shared) (v : Value), BindsTo s fd ⟨[v], []⟩ [("script", v)]) ∧ ∀ base : Heap, K.In base → base.Ns mainGlobals mg → FnOk P w K mg base CX0 12 fa fd ["script"] (spTop K) := by
  obtain ⟨f_, oc_, od_, an_, kV_, dc_, pm_, cd_, ct_, sl_, a_, l_, c_, k_⟩ := dlaw
  have e := hfa.symm.trans (PySem.W.mg_of X G a_)
  cases e
  have F16 := fun_mk (st := sLaw) l_ c_ k_
  refine ⟨PySem.W.fnOf "law" "law" (defArgs sLaw) (defBody sLaw) (defScope sLaw) .none kV_ dc_ pm_ an_ cd_ ct_, fun s v => .of_eq rfl, fun base X' G' => ?_⟩
  have h1 : CF K T mg "Alphabet" 2 CA ["letters"] := cCA.cf hT2 X G
  have h17 : Md K T mg CA := ⟨h1, k2, cCA.cx, cCA.sf, k3, cCA.ob, (PySem.W.mg_none_of X G k4), (PySem.W.mg_none_of X G k5), (PySem.W.mg_none_of X G k6), (PySem.W.mg_none_of X G k7), (PySem.W.mg_none_of X G k8), (PySem.W.mg_none_of X G k9), (PySem.W.mg_none_of X G k10), (PySem.W.mg_none_of X G k11), (PySem.W.mg_none_of X G k12), (PySem.W.mg_none_of X G k13), (PySem.W.mg_none_of X G k14), (PySem.W.mg_none_of X G k15), (PySem.W.mg_none_of X G k16)⟩
  have h19 : DL P w K T mg base "_law_state" 1 RState := d18.dl (ps := ["script"]) X G (fun f fd F => ok_state F h17) fun _ _ _ _ _ _ us hl => match us, hl with | [_], _ => rfl
  have h21 : DM P w K T mg base "_law_take" 1 RTake := d20.dm (ps := ["state", "m"]) X G (fun f fd F => ok_take F h17) fun _ _ _ _ _ _ us hl => match us, hl with | [_, _], _ => rfl
  have h23 : DM P w K T mg base "_law_letters" 2 RLett := d22.dm (ps := ["state", "most"]) X G (fun f fd F => ok_lett F h17 h21) fun _ _ _ _ _ _ us hl => match us, hl with | [_, _], _ => rfl
  have h25 : DM P w K T mg base "_law_word" 2 RWord := d24.dm (ps := ["state", "letters", "most"]) X G (fun f fd F => ok_word F h17 h21) fun _ _ _ _ _ _ us hl => match us, hl with | [_, _, _], _ => rfl
  have h27 : DF P w K T mg base "_law_words" 1 RLWs := d26.df (ps := ["letters", "most"]) X G (fun f fd F => ok_lws F h17) fun _ _ _ _ _ _ us hl => match us, hl with | [_, _], _ => rfl
  have h29 : DF P w K T mg base "_law_rank" 1 RLRk := d28.df (ps := ["letters", "word"]) X G (fun f fd F => ok_lrk F h17) fun _ _ _ _ _ _ us hl => match us, hl with | [_, _], _ => rfl
  have h32 : MF P w K T mg base CA "index" 1 RAX := m31.mf (ps := ["self", "letter"]) (fun f fd F => ok_AX F h17) fun _ _ _ _ _ _ us hl => match us, hl with | [_, _], _ => rfl
  have h34 : MF P w K T mg base CA "__contains__" 1 RACt := m33.mf (ps := ["self", "x"]) (fun f fd F => ok_ACt F h17) fun _ _ _ _ _ _ us hl => match us, hl with | [_, _], _ => rfl
  have h35 : MF P w K T mg base CA "__contains__" 1 RACn := m33.mf (ps := ["self", "x"]) (fun f fd F => ok_ACn F h17) fun _ _ _ _ _ _ us hl => match us, hl with | [_, _], _ => rfl
  have h44 : PySem.W.exmOne K (.ref CE) (.ref CB) = some true := exm_sub k40 k41 k42 k43
  have h46 : PySem.W.exmOne K (.ref CRf) (.ref CB) = some true := exm_sub k40 k41 k42 k45
  have h51 : PySem.W.kitOne K (.ref CE) (.ref CE) = some true := kit_rT k49 k50
  have h54 : PySem.W.kitOne K (.ref CRf) (.ref CRf) = some true := kit_rT k52 k53
  have h55 : Er K mg CE CRf CB := ⟨(PySem.W.mg_of X G k37), (PySem.W.mg_of X G k38), (PySem.W.mg_of X G k39), h44, h46, e47.ei, e48.ei, h51, h54⟩
  obtain ⟨fI_, Rf_⟩ := r56.rfd m57 X G rfl rfl rfl
  have h58 : MX P w K T mg base CA "index" 2 (RAXx CRf) := m31.mx (ps := ["self", "letter"]) (fun f fd F => ok_AXx F h17 Rf_) fun _ _ _ _ _ _ us hl => match us, hl with | [_, _], _ => rfl
  have h59 : DF P w K T mg base "_law_no_index" 3 RLNoI := d36.df (ps := ["alphabet", "value"]) X G (fun f fd F => ok_lnoi F h17 h55 Rf_ h58) fun _ _ _ _ _ _ us hl => match us, hl with | [_, _], _ => rfl
  have h60 : DF P w K T mg base "_law_members" 5 RLMem := d30.df (ps := ["alphabet", "letters", "u"]) X G (fun f fd F => ok_lmem F h17 h32 h34 h35 h59) fun _ _ _ _ _ _ us hl => match us, hl with | [_, _, _], _ => rfl
  have h64 : IX P w K T mg base 2 CA 1 (RAIx CE) := m62.ix (ps := ["self", "letters"]) cCA (fun f fd F => ok_AIx F h17 (r63.rz X G)) fun _ _ _ _ _ _ us hl => match us, hl with | [_, _], _ => rfl
  have h65 : DF P w K T mg base "_law_bad" 3 RLBad := d61.df (ps := ["value"]) X G (fun f fd F => ok_lbad F h17 h55 h64) fun _ _ _ _ _ _ us hl => match us, hl with | [_], _ => rfl
  have h66 : IF' P w K T mg base 2 CA [] 1 RAI := m62.init (ps := ["self", "letters"]) cCA (fun f fd F => ok_AI F h17) fun _ _ _ _ _ _ us hl => match us, hl with | [_, _], _ => rfl
  have h68 : MF P w K T mg base CA "__len__" 1 RALen := m67.mf (ps := ["self"]) (fun f fd F => ok_AL F h17) fun _ _ _ _ _ _ us hl => match us, hl with | [_], _ => rfl
  have h70 : MF P w K T mg base CA "__eq__" 1 RAEq := m69.mf (ps := ["self", "other"]) (fun f fd F => ok_AE F h17) fun _ _ _ _ _ _ us hl => match us, hl with | [_, _], _ => rfl
  have h74 : PySem.W.kitOne K (.type "str") (.ref CA) = some false := kit_tyN k71 k72 k73
  have h75 : MF P w K T mg base CA "__eq__" 1 RAEt := m69.mf (ps := ["self", "other"]) (fun f fd F => ok_AE2 F h17 h74) fun _ _ _ _ _ _ us hl => match us, hl with | [_, _], _ => rfl
  have h78 : MF P w K T mg base CA "rank" 2 RARk := m77.mf (ps := ["self", "word"]) (fun f fd F => ok_AR F h17 h32) fun _ _ _ _ _ _ us hl => match us, hl with | [_, _], _ => rfl
  have h80 : MF P w K T mg base CA "word_at" 1 RWat := m79.mf (ps := ["self", "rank"]) (fun f fd F => ok_AW F h17) fun _ _ _ _ _ _ us hl => match us, hl with | [_, _], _ => rfl
  have h82 : MF P w K T mg base CA "first_at" 1 RFst := m81.mf (ps := ["self", "length"]) (fun f fd F => ok_AF F h17) fun _ _ _ _ _ _ us hl => match us, hl with | [_, _], _ => rfl
  have h84 : MF P w K T mg base CA "compare" 2 RCmp := m83.mf (ps := ["self", "u", "v"]) (fun f fd F => ok_cmp F h17 h32) fun _ _ _ _ _ _ us hl => match us, hl with | [_, _, _], _ => rfl
  have h86 : GM P w K T mg base CA "words" 3 RWo := Gn.MethAt.gm (ps := ["self", "most"]) m85 (fun f fd F => ok_Wo F h17 h80) fun _ _ _ _ _ _ us hl => match us, hl with | [_, _], _ => rfl
  have h88 : ItS P w K T mg CA 2 0 := m87.its (fun f fd F base => it_Alph F h17) fun _ _ _ _ _ _ us hl => match us, hl with | [_], _ => rfl
  refine (ok_law F16 h17 h19 h21 h23 h25 h27 h29 h60 h65 h66 h68 h70 h75 k76 h78 h80 h82 h84 h86 h88).imp fun vs H Q E ⟨a, ns, e1, hS, kk⟩ => ?_
  subst e1
  exact ⟨H, [.ro (dInts ns)], .bl true, Ex.refl H, .cons (.ro hS (reps_ints ns)) .nil, ⟨ns, rfl, rfl⟩, fun v G' H' _ _ r => by cases r; exact kk H'⟩
theorem all_mk {l : PySem.W.OpenLaw} {w : World} {K : PySem.W.Frag} {h : Heap} {mg : Str → Option Value} {fa CA CB CE CRf CB_ : Addr} (X : K.In h) (G : h.Ns mainGlobals mg) (hfa : mg "law" = some (.ref fa))
    (cCA : ClsOf K "Alphabet" CA)
    (k2 : PySem.W.findIn K (.ref CA) "letters" = some none)
    (k3 : PySem.W.findIn K (.ref CA) "__ne__" = some (some (.builtin "object.__ne__")))
    (k4 : PySem.W.nsIn K mainGlobals "isinstance" = some none)
    (k5 : PySem.W.nsIn K mainGlobals "len" = some none)
    (k6 : PySem.W.nsIn K mainGlobals "str" = some none)
    (k7 : PySem.W.nsIn K mainGlobals "all" = some none)
    (k8 : PySem.W.nsIn K mainGlobals "set" = some none)
    (k9 : PySem.W.nsIn K mainGlobals "list" = some none)
    (k10 : PySem.W.nsIn K mainGlobals "range" = some none)
    (k11 : PySem.W.nsIn K mainGlobals "int" = some none)
    (k12 : PySem.W.nsIn K mainGlobals "abs" = some none)
    (k13 : PySem.W.nsIn K mainGlobals "min" = some none)
    (k14 : PySem.W.nsIn K mainGlobals "zip" = some none)
    (k15 : PySem.W.nsIn K mainGlobals "reversed" = some none)
    (k16 : PySem.W.nsIn K mainGlobals "iter" = some none)
    (d18 : DefAt K "_law_state" sState)
    (d20 : DefAt K "_law_take" sTake)
    (d22 : DefAt K "_law_letters" sLett)
    (d24 : DefAt K "_law_word" sWord)
    (d26 : DefAt K "_law_words" sLWs)
    (d28 : DefAt K "_law_rank" sLRk)
    (d30 : DefAt K "_law_members" sLMem)
    (m31 : MethAt K CA "index" "Alphabet.index" sAX)
    (m33 : MethAt K CA "__contains__" "Alphabet.__contains__" sACt)
    (d36 : DefAt K "_law_no_index" sLNoI)
    (k37 : PySem.W.nsIn K mainGlobals "Fault" = some (some (.ref CB)))
    (k38 : PySem.W.nsIn K mainGlobals "Malformed" = some (some (.ref CE)))
    (k39 : PySem.W.nsIn K mainGlobals "Refused" = some (some (.ref CRf)))
    (k40 : PySem.W.subIn K (.ref CB) (.type "BaseException") = some true)
    (k41 : PySem.W.isClsIn K CB = true)
    (k42 : PySem.W.typeIn K (.ref CB) = some (.type "type"))
    (k43 : PySem.W.subIn K (.ref CE) (.ref CB) = some true)
    (k45 : PySem.W.subIn K (.ref CRf) (.ref CB) = some true)
    (e47 : ExcOf K CE)
    (e48 : ExcOf K CRf)
    (k49 : PySem.W.isClsIn K CE = true)
    (k50 : PySem.W.typeIn K (.ref CE) = some (.type "type"))
    (k52 : PySem.W.isClsIn K CRf = true)
    (k53 : PySem.W.typeIn K (.ref CRf) = some (.type "type"))
    (r56 : RfOf K CRf CB_)
    (m57 : MethAt K CRf "__init__" "Refused.__init__" sRfi)
    (d61 : DefAt K "_law_bad" sLBad)
    (m62 : MethAt K CA "__init__" "Alphabet.__init__" sAI2)
    (r63 : RzOf K "Malformed" CE)
    (m67 : MethAt K CA "__len__" "Alphabet.__len__" sAL)
    (m69 : MethAt K CA "__eq__" "Alphabet.__eq__" sAE)
    (k71 : PySem.W.isClsIn K CA = true)
    (k72 : PySem.W.typeIn K (.ref CA) = some (.type "type"))
    (k73 : PySem.W.subIn K (.type "str") (.ref CA) = some false)
    (k76 : PySem.W.notFirst K CA (.type "str") = true)
    (m77 : MethAt K CA "rank" "Alphabet.rank" sAR)
    (m79 : MethAt K CA "word_at" "Alphabet.word_at" sAW)
    (m81 : MethAt K CA "first_at" "Alphabet.first_at" sAF)
    (m83 : MethAt K CA "compare" "Alphabet.compare" sCmp)
    (m85 : MethAt K CA "words" "Alphabet.words" sWo)
    (m87 : MethAt K CA "__iter__" "Alphabet.__iter__" sAIt)
    (dlaw : DefAt K "law" sLaw) :
    ∃ fd : FuncData, (∀ (s : Shared) (v : Value), BindsTo s fd ⟨[v], []⟩ [("script", v)]) ∧ ∀ base : Heap, K.In base → base.Ns mainGlobals mg → FnOk l.prog w K mg base CX0 12 fa fd ["script"] (spTop K) :=
  all_T (T := tabl CA CB CE CRf CB_) X G hfa rfl cCA k2 k3 k4 k5 k6 k7 k8 k9 k10 k11 k12 k13 k14 k15 k16 d18 d20 d22 d24 d26 d28 d30 m31 m33 d36 k37 k38 k39 k40 k41 k42 k43 k45 e47 e48 k49 k50 k52 k53 r56 m57 d61 m62 r63 m67 m69 k71 k72 k73 k76 m77 m79 m81 m83 m85 m87 dlaw
theorem walk {l : PySem.W.OpenLaw} {q : Program} {loose : List Str} {XP : (Str → Option Value) → Heap → Prop} {YP : World → Heap → Prop} {d : DefRec} {K : Params → PySem.W.Frag} (hn : l.most = some 63) (hdf : d.params.defaults = [])
    (hY : ∀ (w : World) (h : Heap), YP w h → (K w.params).In h)
    (F : ∀ (w : World) (mg : Str → Option Value) (fa : Addr) (h : Heap), (K w.params).In h → h.Ns mainGlobals mg → mg d.name = some (.ref fa) →
      ∃ fd : FuncData, (∀ (s : Shared) (u : Value), BindsTo s fd ⟨[u], []⟩ [("script", u)]) ∧ ∀ base : Heap, (K w.params).In base → base.Ns mainGlobals mg → FnOk l.prog w (K w.params) mg base CX0 12 fa fd ["script"] (spTop (K w.params))) :
    PySem.W.WalkO q loose XP YP l.row.toRowW d [] (fun f vs => PySem.call f vs) :=
  L2.walk_of (n := 63) (k := 12) (x := "script") (CX := fun _ => CX0) (sp := fun w => spTop (K w.params)) hn (by decide) hdf ⟨rfl, by decide, by decide⟩ hY F (fun _ _ a ns hl _ hS => ⟨a, ns, rfl, hS, fun _ => rfl⟩) fun _ _ _ _ _ z => z
end My
set_option autoImplicit true
open PySem PySem.W PyProof.Rows My
set_option maxRecDepth 100000 in
set_option maxHeartbeats 0 in
theorem PySem.Challenge.cw_wordweight_k08_order_of_words_holds : PySem.Challenge.rw_wordweight_k08_order_of_words.Holds := by
  w_on; o_law; k_headL; (case hw => w_witness2)
  k_fill
  refine My.walk (l := PySem.Challenge.rw_wordweight_k08_order_of_words) rfl rfl (fun w h Y => PySem.W.kIn_of Y) ?F
  case F =>
    intro w mg fa h KX G hmg
    refine' My.all_mk KX G hmg ?cCA ?k2 ?k3 ?k4 ?k5 ?k6 ?k7 ?k8 ?k9 ?k10 ?k11 ?k12 ?k13 ?k14 ?k15 ?k16 ?d18 ?d20 ?d22 ?d24 ?d26 ?d28 ?d30 ?m31 ?m33 ?d36 ?k37 ?k38 ?k39 ?k40 ?k41 ?k42 ?k43 ?k45 ?e47 ?e48 ?k49 ?k50 ?k52 ?k53 ?r56 ?m57 ?d61 ?m62 ?r63 ?m67 ?m69 ?k71 ?k72 ?k73 ?k76 ?m77 ?m79 ?m81 ?m83 ?m85 ?m87 ?dlaw
    (case cCA => (refine' ⟨?a_cCA, ?b_cCA, ?c_cCA, ?d_cCA, ?e_cCA, ?f_cCA, ?g_cCA, ?h_cCA, ?i_cCA, ?j_cCA, ?k_cCA, ?l_cCA⟩; (case a_cCA => k_is); (case b_cCA => k_is); (case c_cCA => k_is); (case d_cCA => k_is); (case e_cCA => k_is); (case f_cCA => k_is); (case g_cCA => k_is); (case h_cCA => k_is); (case i_cCA => k_is); (case j_cCA => k_is); (case k_cCA => k_is); (case l_cCA => k_is)))
    (case k2 => k_is)
    (case k3 => k_is)
    (case k4 => k_is)
    (case k5 => k_is)
    (case k6 => k_is)
    (case k7 => k_is)
    (case k8 => k_is)
    (case k9 => k_is)
    (case k10 => k_is)
    (case k11 => k_is)
    (case k12 => k_is)
    (case k13 => k_is)
    (case k14 => k_is)
    (case k15 => k_is)
    (case k16 => k_is)
    (case d18 => (refine' Dv.def_mk ?a_d18 ?l_d18 ?c_d18 ?k_d18; (case a_d18 => k_is); (case l_d18 => k_is); (case c_d18 => k_is); (case k_d18 => k_is)))
    (case d20 => (refine' Dv.def_mk ?a_d20 ?l_d20 ?c_d20 ?k_d20; (case a_d20 => k_is); (case l_d20 => k_is); (case c_d20 => k_is); (case k_d20 => k_is)))
    (case d22 => (refine' Dv.def_mk ?a_d22 ?l_d22 ?c_d22 ?k_d22; (case a_d22 => k_is); (case l_d22 => k_is); (case c_d22 => k_is); (case k_d22 => k_is)))
    (case d24 => (refine' Dv.def_mk ?a_d24 ?l_d24 ?c_d24 ?k_d24; (case a_d24 => k_is); (case l_d24 => k_is); (case c_d24 => k_is); (case k_d24 => k_is)))
    (case d26 => (refine' Dv.def_mk ?a_d26 ?l_d26 ?c_d26 ?k_d26; (case a_d26 => k_is); (case l_d26 => k_is); (case c_d26 => k_is); (case k_d26 => k_is)))
    (case d28 => (refine' Dv.def_mk ?a_d28 ?l_d28 ?c_d28 ?k_d28; (case a_d28 => k_is); (case l_d28 => k_is); (case c_d28 => k_is); (case k_d28 => k_is)))
    (case d30 => (refine' Dv.def_mk ?a_d30 ?l_d30 ?c_d30 ?k_d30; (case a_d30 => k_is); (case l_d30 => k_is); (case c_d30 => k_is); (case k_d30 => k_is)))
    (case m31 => (refine' Dv.meth_mk ?a_m31 ?i_m31 ?l_m31 ?c_m31 ?k_m31; (case a_m31 => k_is); (case i_m31 => k_is); (case l_m31 => k_is); (case c_m31 => k_is); (case k_m31 => k_is)))
    (case m33 => (refine' Dv.meth_mk ?a_m33 ?i_m33 ?l_m33 ?c_m33 ?k_m33; (case a_m33 => k_is); (case i_m33 => k_is); (case l_m33 => k_is); (case c_m33 => k_is); (case k_m33 => k_is)))
    (case d36 => (refine' Dv.def_mk ?a_d36 ?l_d36 ?c_d36 ?k_d36; (case a_d36 => k_is); (case l_d36 => k_is); (case c_d36 => k_is); (case k_d36 => k_is)))
    (case k37 => k_is)
    (case k38 => k_is)
    (case k39 => k_is)
    (case k40 => k_is)
    (case k41 => k_is)
    (case k42 => k_is)
    (case k43 => k_is)
    (case k45 => k_is)
    (case e47 => (refine' ⟨?a_e47, ?b_e47, ?c_e47, ?d_e47, ?e_e47, ?f_e47, ?g_e47, ?h_e47⟩; (case a_e47 => k_is); (case b_e47 => k_is); (case c_e47 => k_is); (case d_e47 => k_is); (case e_e47 => k_is); (case f_e47 => k_is); (case g_e47 => k_is); (case h_e47 => k_is)))
    (case e48 => (refine' ⟨?a_e48, ?b_e48, ?c_e48, ?d_e48, ?e_e48, ?f_e48, ?g_e48, ?h_e48⟩; (case a_e48 => k_is); (case b_e48 => k_is); (case c_e48 => k_is); (case d_e48 => k_is); (case e_e48 => k_is); (case f_e48 => k_is); (case g_e48 => k_is); (case h_e48 => k_is)))
    (case k49 => k_is)
    (case k50 => k_is)
    (case k52 => k_is)
    (case k53 => k_is)
    (case r56 => (refine' Dv.rf_mk ?a_r56 ?c_r56 ?s_r56 ?g_r56 ?h_r56 ?n_r56 ?k_r56 ?b_r56 ?t_r56 ?d_r56; (case a_r56 => k_is); (case c_r56 => k_is); (case s_r56 => k_is); (case g_r56 => k_is); (case h_r56 => k_is); (case n_r56 => k_is); (case k_r56 => k_is); (case b_r56 => k_is); (case t_r56 => k_is); (case d_r56 => k_is)))
    (case m57 => (refine' Dv.meth_mk ?a_m57 ?i_m57 ?l_m57 ?c_m57 ?k_m57; (case a_m57 => k_is); (case i_m57 => k_is); (case l_m57 => k_is); (case c_m57 => k_is); (case k_m57 => k_is)))
    (case d61 => (refine' Dv.def_mk ?a_d61 ?l_d61 ?c_d61 ?k_d61; (case a_d61 => k_is); (case l_d61 => k_is); (case c_d61 => k_is); (case k_d61 => k_is)))
    (case m62 => (refine' Dv.meth_mk ?a_m62 ?i_m62 ?l_m62 ?c_m62 ?k_m62; (case a_m62 => k_is); (case i_m62 => k_is); (case l_m62 => k_is); (case c_m62 => k_is); (case k_m62 => k_is)))
    (case r63 => (refine' ⟨?a_r63, ?e_r63, ?k_r63, ?s_r63, ?t_r63, ?i_r63, ?f_r63⟩; (case a_r63 => k_is); (case e_r63 => k_exc); (case k_r63 => k_is); (case s_r63 => k_is); (case t_r63 => k_is); (case i_r63 => k_is); (case f_r63 => first | rfl | k_is)))
    (case m67 => (refine' Dv.meth_mk ?a_m67 ?i_m67 ?l_m67 ?c_m67 ?k_m67; (case a_m67 => k_is); (case i_m67 => k_is); (case l_m67 => k_is); (case c_m67 => k_is); (case k_m67 => k_is)))
    (case m69 => (refine' Dv.meth_mk ?a_m69 ?i_m69 ?l_m69 ?c_m69 ?k_m69; (case a_m69 => k_is); (case i_m69 => k_is); (case l_m69 => k_is); (case c_m69 => k_is); (case k_m69 => k_is)))
    (case k71 => k_is)
    (case k72 => k_is)
    (case k73 => k_is)
    (case k76 => k_is)
    (case m77 => (refine' Dv.meth_mk ?a_m77 ?i_m77 ?l_m77 ?c_m77 ?k_m77; (case a_m77 => k_is); (case i_m77 => k_is); (case l_m77 => k_is); (case c_m77 => k_is); (case k_m77 => k_is)))
    (case m79 => (refine' Dv.meth_mk ?a_m79 ?i_m79 ?l_m79 ?c_m79 ?k_m79; (case a_m79 => k_is); (case i_m79 => k_is); (case l_m79 => k_is); (case c_m79 => k_is); (case k_m79 => k_is)))
    (case m81 => (refine' Dv.meth_mk ?a_m81 ?i_m81 ?l_m81 ?c_m81 ?k_m81; (case a_m81 => k_is); (case i_m81 => k_is); (case l_m81 => k_is); (case c_m81 => k_is); (case k_m81 => k_is)))
    (case m83 => (refine' Dv.meth_mk ?a_m83 ?i_m83 ?l_m83 ?c_m83 ?k_m83; (case a_m83 => k_is); (case i_m83 => k_is); (case l_m83 => k_is); (case c_m83 => k_is); (case k_m83 => k_is)))
    (case m85 => (refine' Dv.meth_mk ?a_m85 ?i_m85 ?l_m85 ?c_m85 ?k_m85; (case a_m85 => k_is); (case i_m85 => k_is); (case l_m85 => k_is); (case c_m85 => k_is); (case k_m85 => k_is)))
    (case m87 => (refine' Dv.meth_mk ?a_m87 ?i_m87 ?l_m87 ?c_m87 ?k_m87; (case a_m87 => k_is); (case i_m87 => k_is); (case l_m87 => k_is); (case c_m87 => k_is); (case k_m87 => k_is)))
    (case dlaw => (refine' Dv.def_mk ?a_dlaw ?l_dlaw ?c_dlaw ?k_dlaw; (case a_dlaw => k_is); (case l_dlaw => k_is); (case c_dlaw => k_is); (case k_dlaw => k_is)))
