import PyProof.Rows.All
import Wide.All
import OpenK.AllK
import Wide.FinOn
import HandS.ForMost
import HandS.Flow
import HandS.IsInst
import HandS.Style
import HandS.Zip
import HandS.Conv
import HandS.Exc
import HandS.ExcOwn
import HandS.ExcInit
import HandS.CallSlots
import HandS.TryOnly
import HandS.TryMany
import HandS.WordsExc
import HandS.TupAny
import HandS.RevTup
import HandS.Strs
import HandS.SetFor
import HandS.SetBool
import HandS.Walk
import HandS.Nested
import KE.GoesEnum
import KE.GoesMore
import KE.KExcInit
import HandS.ExcField
import HandS.ExcIs
import HandS.Defaults
import HandS.TupMul
import HandS.HeadHook2
import HandS.Head2
import HandS.HeadEnd
import HandS.Dict
import PySem.Challenge.RW_nextsuch_k17_whole_asks_and_namings
set_option Elab.async false
set_option linter.all false
set_option maxRecDepth 100000
set_option maxHeartbeats 4000000
/-! Data of a running def, told without addresses: what slots hold, which lists are its own. -/
namespace PD
open PySem PySem.Spec PyProof.Rows L2

abbrev D := PyData
abbrev AS := Addr → Prop
abbrev Fr0 := PySem.W.Frag
abbrev U (L F : AS) : AS := fun a => L a ∨ F a

mutual
inductive Dn (K : Fr0) (F : AS) (H : Hp) : V → D → Prop
  | non : Dn K F H .non .none
  | bl (b : Bool) : Dn K F H (.bl b) (.bool b)
  | int (i : Int) : Dn K F H (.int i) (.int i)
  | str (x : Str) : Dn K F H (.str x) (.str x)
  | lst {a : Addr} {xs : List V} {ds : List D} : ¬ F a → H a = some (.lst xs) → DnA K F H xs ds → Dn K F H (.ref a) (.list ds)
  | tup {a : Addr} {xs : List V} {ds : List D} : ((¬ F a ∧ H a = some (.tup xs)) ∨ SqT K (fun _ => Option.none) a xs) → DnA K F H xs ds → Dn K F H (.ref a) (.tuple ds)
inductive DnA (K : Fr0) (F : AS) (H : Hp) : List V → List D → Prop
  | nil : DnA K F H [] []
  | cons {v : V} {vs : List V} {d : D} {ds : List D} : Dn K F H v d → DnA K F H vs ds → DnA K F H (v :: vs) (d :: ds)
end

/-- what F does not hold stands, and stays outside -/
def Mv (F : AS) (H : Hp) (F' : AS) (H' : Hp) : Prop := ∀ a o, ¬ F a → H a = some o → ¬ F' a ∧ H' a = some o
theorem Mv.refl (F : AS) (H : Hp) : Mv F H F H := fun _ _ a b => ⟨a, b⟩
theorem Mv.trans {F F1 F2 : AS} {H H1 H2 : Hp} (p : Mv F H F1 H1) (q : Mv F1 H1 F2 H2) : Mv F H F2 H2 := fun a o n e =>
  let ⟨n1, e1⟩ := p a o n e
  q a o n1 e1

section
variable {K : Fr0} {F F' : AS} {H H' : Hp}
mutual
theorem Dn.mv (m : Mv F H F' H') : ∀ {d : D} {v : V}, Dn K F H v d → Dn K F' H' v d
  | .none, _, h => by cases h; exact .non
  | .bool _, _, h => by cases h; exact .bl _
  | .int _, _, h => by cases h; exact .int _
  | .str _, _, h => by cases h; exact .str _
  | .list ds, _, h => by
    cases h with
    | lst n e r => exact .lst (m _ _ n e).1 (m _ _ n e).2 (DnA.mv m r)
  | .tuple ds, _, h => by
    cases h with
    | tup e r => exact .tup (e.elim (fun z => .inl (m _ _ z.1 z.2)) .inr) (DnA.mv m r)
  | .dict _, _, h => by cases h
theorem DnA.mv (m : Mv F H F' H') : ∀ {ds : List D} {vs : List V}, DnA K F H vs ds → DnA K F' H' vs ds
  | [], _, h => by cases h; exact .nil
  | d :: ds, _, h => by
    cases h with
    | cons a b => exact .cons (Dn.mv m a) (DnA.mv m b)
end
mutual
theorem Dn.dp : ∀ {d : D} {v : V}, Dn K F H v d → Dp K H v d
  | .none, _, h => by cases h; exact .non
  | .bool _, _, h => by cases h; exact .bl _
  | .int _, _, h => by cases h; exact .int _
  | .str _, _, h => by cases h; exact .str _
  | .list ds, _, h => by
    cases h with
    | lst n e r => exact .lst (SqL.of e) (DnA.dp r)
  | .tuple ds, _, h => by
    cases h with
    | tup e r =>
      refine .tup ?_ (DnA.dp r)
      rcases e with e | e
      · exact SqT.of e.2
      · rcases e with (e | ⟨o, e⟩) | e
        · cases e
        · cases e
        · exact .inr e
  | .dict _, _, h => by cases h
theorem DnA.dp : ∀ {ds : List D} {vs : List V}, DnA K F H vs ds → DpAll K H vs ds
  | [], _, h => by cases h; exact .nil
  | d :: ds, _, h => by
    cases h with
    | cons a b => exact .cons (Dn.dp a) (DnA.dp b)
end
theorem sqt_of (e : (¬ F a ∧ H a = some (.tup xs)) ∨ SqT K (fun _ => Option.none) a xs) : SqT K H a xs := by
  rcases e with e | e
  · exact SqT.of e.2
  · rcases e with (e | ⟨o, e⟩) | e
    · cases e
    · cases e
    · exact .inr e
theorem Dn.tupInv {v : V} {ds : List D} (h : Dn K F H v (.tuple ds)) : ∃ a xs, v = .ref a ∧ SqT K H a xs ∧ DnA K F H xs ds := by
  cases h with
  | tup e r => exact ⟨_, _, rfl, sqt_of e, r⟩
theorem Dn.lstInv {v : V} {ds : List D} (h : Dn K F H v (.list ds)) : ∃ a xs, v = .ref a ∧ ¬ F a ∧ H a = some (.lst xs) ∧ DnA K F H xs ds := by
  cases h with
  | lst n e r => exact ⟨_, _, rfl, n, e, r⟩
theorem DnA.length : ∀ {ds : List D} {vs : List V}, DnA K F H vs ds → vs.length = ds.length
  | [], _, h => by cases h; rfl
  | d :: ds, _, h => by
    cases h with
    | cons a b => simp [DnA.length b]
theorem DnA.get : ∀ {ds : List D} {vs : List V} {i : Nat} {d : D}, DnA K F H vs ds → ds[i]? = some d → ∃ v, vs[i]? = some v ∧ Dn K F H v d
  | [], _, _, _, h, e => by simp at e
  | d :: ds, _, 0, _, h, e => by
    cases h with
    | cons a b => simp at e; subst e; exact ⟨_, rfl, a⟩
  | d :: ds, _, i + 1, x, h, e => by
    cases h with
    | cons a b =>
      obtain ⟨v, h1, h2⟩ := DnA.get (i := i) b (by simpa using e)
      exact ⟨v, by simpa using h1, h2⟩
theorem DnA.getV : ∀ {ds : List D} {vs : List V} {i : Nat} {v : V}, DnA K F H vs ds → vs[i]? = some v → ∃ d, ds[i]? = some d ∧ Dn K F H v d
  | [], _, _, _, h, e => by cases h; simp at e
  | d :: ds, _, 0, _, h, e => by
    cases h with
    | cons a b => simp at e; subst e; exact ⟨_, rfl, a⟩
  | d :: ds, _, i + 1, x, h, e => by
    cases h with
    | cons a b =>
      obtain ⟨v, h1, h2⟩ := DnA.getV (i := i) b (by simpa using e)
      exact ⟨v, by simpa using h1, h2⟩
theorem DnA.app : ∀ {ds es : List D} {vs ws : List V}, DnA K F H vs ds → DnA K F H ws es → DnA K F H (vs ++ ws) (ds ++ es)
  | [], _, _, _, h, g => by cases h; exact g
  | d :: ds, _, _, _, h, g => by
    cases h with
    | cons a b => exact .cons a (DnA.app b g)
theorem DnA.take : ∀ {ds : List D} {vs : List V} (n : Nat), DnA K F H vs ds → DnA K F H (vs.take n) (ds.take n)
  | [], _, _, h => by cases h; simp; exact .nil
  | d :: ds, _, 0, h => by simp; exact .nil
  | d :: ds, _, n + 1, h => by
    cases h with
    | cons a b => exact .cons a (DnA.take n b)
theorem DnA.drop : ∀ {ds : List D} {vs : List V} (n : Nat), DnA K F H vs ds → DnA K F H (vs.drop n) (ds.drop n)
  | [], _, _, h => by cases h; simp; exact .nil
  | d :: ds, _, 0, h => h
  | d :: ds, _, n + 1, h => by
    cases h with
    | cons a b => exact DnA.drop n b
theorem DnA.set : ∀ {ds : List D} {vs : List V} (n : Nat) {v : V} {d : D}, Dn K F H v d → DnA K F H vs ds → DnA K F H (vs.set n v) (ds.set n d)
  | [], _, _, _, _, _, h => by cases h; exact .nil
  | d :: ds, _, 0, _, _, z, h => by
    cases h with
    | cons a b => exact .cons z b
  | d :: ds, _, n + 1, _, _, z, h => by
    cases h with
    | cons a b => exact .cons a (DnA.set n z b)
theorem DnA.erase : ∀ {ds : List D} {vs : List V} (n : Nat), DnA K F H vs ds → DnA K F H (vs.eraseIdx n) (ds.eraseIdx n)
  | [], _, _, h => by cases h; exact .nil
  | d :: ds, _, 0, h => by
    cases h with
    | cons a b => exact b
  | d :: ds, _, n + 1, h => by
    cases h with
    | cons a b => exact .cons a (DnA.erase n b)
theorem DnA.rev {ds : List D} {vs : List V} (h : DnA K F H vs ds) : DnA K F H vs.reverse ds.reverse := by
  induction ds generalizing vs with
  | nil => cases h; exact .nil
  | cons d ds ih =>
    cases h with
    | cons a b =>
      rw [List.reverse_cons, List.reverse_cons]
      exact DnA.app (ih b) (.cons a .nil)
theorem DnA.ints : ∀ (ns : List Int), DnA K F H (ns.map V.int) (ns.map PyData.int)
  | [] => .nil
  | n :: ns => .cons (.int n) (DnA.ints ns)
theorem DnA.ints_inv : ∀ {ns : List Int} {vs : List V}, DnA K F H vs (ns.map PyData.int) → vs = ns.map V.int
  | [], _, h => by cases h; rfl
  | n :: ns, _, h => by
    cases h with
    | cons a b =>
      cases a
      rw [DnA.ints_inv b]
      rfl
theorem DnA.bls_inv : ∀ {ns : List Bool} {vs : List V}, DnA K F H vs (ns.map PyData.bool) → vs = ns.map V.bl
  | [], _, h => by cases h; rfl
  | n :: ns, _, h => by
    cases h with
    | cons a b =>
      cases a
      rw [DnA.bls_inv b]
      rfl
end

/-- a slot: nothing known; data; a list that may be changed (of the caller: true) -/
inductive Sl where
  | no | im (d : D) | mu (b : Bool) (ds : List D)
abbrev En := List Sl
def Slk (K : Fr0) (W : L2.St) (F L : AS) (H : Hp) (i : Nat) (x : Option (Option V)) : Sl → Prop
  | .no => True
  | .im d => ∃ v, x = some (some v) ∧ Dn K F H v d
  | .mu b ds => ∃ a vs, x = some (some (.ref a)) ∧ L a ∧ H a = some (.lst vs) ∧ DnA K F H vs ds ∧ (b = true → W[i]? = some (some (.ref a)))
structure ER (K : Fr0) (W : L2.St) (Fb L : AS) (H : Hp) (σ : L2.St) (env : En) : Prop where
  len : env.length = σ.length
  trk : ∀ a, U L Fb a → ∃ o, H a = some o
  dis : ∀ a, L a → ¬ Fb a
  sl : ∀ (i : Nat) (s : Sl), env[i]? = some s → Slk K W (U L Fb) L H i σ[i]? s
  apart : ∀ (i j : Nat) (b c : Bool) (ds es : List D) (a : Addr), i ≠ j → env[i]? = some (.mu b ds) → env[j]? = some (.mu c es) → σ[i]? = some (some (.ref a)) → σ[j]? ≠ some (some (.ref a))
/-- a step: what is not one's own stands -/
def Tr (H : Hp) (L : AS) (H' : Hp) (L' : AS) : Prop := ∀ a o, H a = some o → ¬ L a → H' a = some o ∧ ¬ L' a
theorem Tr.refl (H : Hp) (L : AS) : Tr H L H L := fun _ _ a b => ⟨a, b⟩
theorem Tr.trans {H H1 H2 : Hp} {L L1 L2 : AS} (p : Tr H L H1 L1) (q : Tr H1 L1 H2 L2) : Tr H L H2 L2 := fun a o e n =>
  let ⟨e1, n1⟩ := p a o e n
  q a o e1 n1
theorem Tr.mv {H H' : Hp} {L L' Fb : AS} (t : Tr H L H' L') : Mv (U L Fb) H (U L' Fb) H' := fun a o n e => by
  obtain ⟨e1, n1⟩ := t a o e fun z => n (.inl z)
  exact ⟨fun z => z.elim n1 fun z => n (.inr z), e1⟩
/-- a new object, not owned -/
theorem Tr.new {H : Hp} {L : AS} {p : Addr} {o : HO} (hp : H p = none) : Tr H L (upd H p o) L := fun a u e n => ⟨by rw [upd_ne (ne_of_none e hp)]; exact e, n⟩

section
variable {K : Fr0} {W σ : L2.St} {Fb L L' : AS} {H H' : Hp} {env : En}
/-- growth: nothing of the slots changes -/
theorem ER.grow (R : ER K W Fb L H σ env) (g : ∀ a o, H a = some o → H' a = some o) : ER K W Fb L H' σ env where
  len := R.len
  trk := fun a h => let ⟨o, e⟩ := R.trk a h; ⟨o, g a o e⟩
  dis := R.dis
  sl := fun i s e => by
    have q := R.sl i s e
    have m : Mv (U L Fb) H (U L Fb) H' := fun a o n e => ⟨n, g a o e⟩
    cases s with
    | no => trivial
    | im d => obtain ⟨v, e1, h⟩ := q; exact ⟨v, e1, h.mv m⟩
    | mu b ds => obtain ⟨a, vs, e1, l, h1, h2, w⟩ := q; exact ⟨a, vs, e1, l, g _ _ h1, h2.mv m, w⟩
  apart := R.apart
theorem ER.new (R : ER K W Fb L H σ env) {p : Addr} {o : HO} (hp : H p = none) : ER K W Fb L (upd H p o) σ env := R.grow fun a u e => by rw [upd_ne (ne_of_none e hp)]; exact e
theorem ER.free (R : ER K W Fb L H σ env) {p : Addr} (hp : H p = none) : ¬ U L Fb p := fun z => by
  obtain ⟨o, e⟩ := R.trk p z
  rw [hp] at e; cases e
/-- a slot given up to be data -/
theorem ER.frz (R : ER K W Fb L H σ env) {i : Nat} {a : Addr} {ds : List D} (he : env[i]? = some (.mu false ds)) (hs : σ[i]? = some (some (.ref a))) :
    ER K W Fb (fun b => L b ∧ b ≠ a) H σ (env.set i (.im (.list ds))) ∧ Tr H L H (fun b => L b ∧ b ≠ a) ∧ Dn K (U (fun b => L b ∧ b ≠ a) Fb) H (.ref a) (.list ds) := by
  obtain ⟨a', vs, e1, l, h1, h2, w⟩ := R.sl i _ he
  rw [hs] at e1
  cases e1
  have m : Mv (U L Fb) H (U (fun b => L b ∧ b ≠ a) Fb) H := fun b o n e => ⟨fun z => n (z.elim (fun z => .inl z.1) .inr), e⟩
  have dn : Dn K (U (fun b => L b ∧ b ≠ a) Fb) H (.ref a) (.list ds) := .lst (fun z => z.elim (fun z => z.2 rfl) (R.dis a l)) h1 (h2.mv m)
  refine ⟨⟨by simpa using R.len, fun b h => R.trk b (h.elim (fun z => .inl z.1) .inr), fun b h => R.dis b h.1, fun j s e => ?_, fun j k b c es fs x ne e1 e2 e3 => ?_⟩, fun b o e n => ⟨e, fun z => n z.1⟩, dn⟩
  · by_cases hj : i = j
    · subst hj
      rw [List.getElem?_set_self (List.getElem?_eq_some_iff.mp he).1] at e
      cases e
      exact ⟨_, hs, dn⟩
    · rw [List.getElem?_set_ne hj] at e
      have q := R.sl j s e
      cases s with
      | no => trivial
      | im d => obtain ⟨v, e1, h⟩ := q; exact ⟨v, e1, h.mv m⟩
      | mu b es =>
        obtain ⟨x, vs', e1, l', h1', h2', w'⟩ := q
        refine ⟨x, vs', e1, ⟨l', fun z => ?_⟩, h1', h2'.mv m, w'⟩
        subst z
        exact R.apart i j _ _ _ _ x hj he e hs e1
  · by_cases hj : i = j
    · subst hj
      rw [List.getElem?_set_self (List.getElem?_eq_some_iff.mp he).1] at e1
      cases e1
    · by_cases hk : i = k
      · subst hk
        rw [List.getElem?_set_self (List.getElem?_eq_some_iff.mp he).1] at e2
        cases e2
      · rw [List.getElem?_set_ne hj] at e1
        rw [List.getElem?_set_ne hk] at e2
        exact R.apart j k b c es fs x ne e1 e2 e3
end

/-! ### readings over data -/
/-- what comes of a step: a value, or an error of the class named c with its fields -/
inductive Rs (α : Type) where
  | ok (a : α) (env : En)
  | ex (c : Str) (fs : List (Str × D)) (env : En)
abbrev Gm (α : Type) := En → Option (Rs α)
abbrev GE := Gm D
abbrev GT := Gm Bool
abbrev GA := Gm (List D)
def gB {α β : Type} (g : Gm α) (f : α → Gm β) : Gm β := fun env => match g env with
  | none => none
  | some (.ok a e) => f a e
  | some (.ex c fs e) => some (.ex c fs e)
def gO {α : Type} (o : Option α) : Gm α := fun env => match o with
  | none => none
  | some a => some (.ok a env)
def gP {α : Type} (a : α) : Gm α := fun env => some (.ok a env)
/-- the error, as it is told at the heap -/
def ExIs (K : Fr0) (mg : Str → Option Value) (F : AS) (H : Hp) (c : Str) (fs : List (Str × D)) (cls : Value) (dd : Option Addr) : Prop :=
  mg c = some cls ∧ match fs with
    | [] => dd = none
    | [(f, d)] => ∃ a v, dd = some a ∧ ¬ F a ∧ H a = some (.xd [(f, v)]) ∧ Dn K F H v d
    | _ => False
def Go {α : Type} (X : Cx) (W : WX) (Wp : L2.St) (Fb : AS) (σ : L2.St) (H : Hp) (L : AS) (r : Rs α) (k : α → Hp → AS → Prop) : Prop := match r with
  | .ok a env' => ∀ H' L', Tr H L H' L' → ER X.K Wp Fb L' H' σ env' → k a H' L'
  | .ex c fs env' => ∀ cls dd H' L', Tr H L H' L' → ER X.K Wp Fb L' H' σ env' → ExIs X.K X.mg (U L' Fb) H' c fs cls dd → W cls dd σ H'
theorem Go.from {α : Type} {X : Cx} {W : WX} {Wp : L2.St} {Fb : AS} {σ : L2.St} {H H1 : Hp} {L L1 : AS} {r : Rs α} {k : α → Hp → AS → Prop} (g : Go X W Wp Fb σ H L r k) (t : Tr H L H1 L1) : Go X W Wp Fb σ H1 L1 r k := by
  cases r with
  | ok a e => exact fun H' L' t' R => g H' L' (t.trans t') R
  | ex c fs e => exact fun cls dd H' L' t' R x => g cls dd H' L' (t.trans t') R x
theorem Go.imp {α : Type} {X : Cx} {W : WX} {Wp : L2.St} {Fb : AS} {σ : L2.St} {H : Hp} {L : AS} {r : Rs α} {k k' : α → Hp → AS → Prop} (g : Go X W Wp Fb σ H L r k) (h : ∀ a H' L', k a H' L' → k' a H' L') : Go X W Wp Fb σ H L r k' := by
  cases r with
  | ok a e => exact fun H' L' t' R => h _ _ _ (g H' L' t' R)
  | ex c fs e => exact g
abbrev Rel (α β : Type) := α → β → AS → Hp → Prop
def Stab {α β : Type} (ρ : Rel α β) : Prop := ∀ a b F H F' H', Mv F H F' H' → ρ a b F H → ρ a b F' H'
def tG {α β : Type} (ρ : Rel α β) (X : Cx) (W : WX) (G : Gm α) (σ : L2.St) (H : Hp) (Q : β → Hp → Prop) : Prop :=
  ∃ (Wp : L2.St) (Fb L : AS) (env : En) (r : Rs α), ER X.K Wp Fb L H σ env ∧ G env = some r ∧ Go X W Wp Fb σ H L r fun a H' L' => ∀ b, ρ a b (U L' Fb) H' → Q b H'
theorem tG.mono {α β : Type} {ρ : Rel α β} {X : Cx} {W : WX} {G : Gm α} {σ : L2.St} {H : Hp} {Q Q' : β → Hp → Prop} (h : ∀ b H, Q b H → Q' b H) (q : tG ρ X W G σ H Q) : tG ρ X W G σ H Q' := by
  obtain ⟨Wp, Fb, L, env, r, R, g, k⟩ := q
  exact ⟨Wp, Fb, L, env, r, R, g, k.imp fun a H' L' z b hb => h _ _ (z b hb)⟩
/-- one step, then the rest: how the rest starts -/
def Nxt {α β γ δ : Type} (ρ : Rel α β) (ρ' : Rel γ δ) (X : Cx) (W : WX) (f : α → Gm γ) (σ : L2.St) (Q : δ → Hp → Prop) (b : β) (H : Hp) : Prop :=
  ∃ (a : α) (Wp : L2.St) (Fb L : AS) (env : En) (r : Rs γ), ρ a b (U L Fb) H ∧ ER X.K Wp Fb L H σ env ∧ f a env = some r ∧ Go X W Wp Fb σ H L r fun a H' L' => ∀ b, ρ' a b (U L' Fb) H' → Q b H'
theorem tG.seq {α β γ δ : Type} {ρ : Rel α β} {ρ' : Rel γ δ} {X : Cx} {W : WX} {Ga : Gm α} {f : α → Gm γ} {σ : L2.St} {H : Hp} {Q : δ → Hp → Prop} (q : tG ρ' X W (gB Ga f) σ H Q) : tG ρ X W Ga σ H (Nxt ρ ρ' X W f σ Q) := by
  obtain ⟨Wp, Fb, L, env, r, R, g, k⟩ := q
  unfold gB at g
  split at g
  · cases g
  · rename_i a e ha
    exact ⟨Wp, Fb, L, env, _, R, ha, fun H' L' t R' b hb => ⟨a, Wp, Fb, L', e, r, hb, R', g, k.from t⟩⟩
  · rename_i c fs e ha
    cases g
    exact ⟨Wp, Fb, L, env, _, R, ha, k⟩
/-- the same, a thing kept from before -/
def Nxt2 {α β α' β' γ δ : Type} (ρ : Rel α β) (ρ1 : Rel α' β') (ρ' : Rel γ δ) (X : Cx) (W : WX) (f : α → α' → Gm γ) (σ : L2.St) (Q : δ → Hp → Prop) (b : β) (b1 : β') (H : Hp) : Prop :=
  ∃ (a : α) (a1 : α') (Wp : L2.St) (Fb L : AS) (env : En) (r : Rs γ), ρ a b (U L Fb) H ∧ ρ1 a1 b1 (U L Fb) H ∧ ER X.K Wp Fb L H σ env ∧ f a a1 env = some r ∧ Go X W Wp Fb σ H L r fun a H' L' => ∀ b, ρ' a b (U L' Fb) H' → Q b H'
theorem tG.seq2 {α β α' β' γ δ : Type} {ρ : Rel α β} {ρ1 : Rel α' β'} {ρ' : Rel γ δ} {X : Cx} {W : WX} {Ga : Gm α} {Gb : Gm α'} {f : α → α' → Gm γ} {σ : L2.St} {H : Hp} {Q : δ → Hp → Prop} (st : Stab ρ) (q : tG ρ' X W (gB Ga fun a => gB Gb (f a)) σ H Q) :
    tG ρ X W Ga σ H fun b H1 => tG ρ1 X W Gb σ H1 fun b1 H2 => Nxt2 ρ ρ1 ρ' X W f σ Q b b1 H2 := by
  refine (tG.seq (ρ := ρ) q).mono fun b H1 z => ?_
  obtain ⟨a, Wp, Fb, L, env, r, hb, R, g, k⟩ := z
  unfold gB at g
  dsimp only at g
  split at g
  · cases g
  · rename_i a1 e ha
    exact ⟨Wp, Fb, L, env, _, R, ha, fun H' L' t R' b1 hb1 => ⟨a, a1, Wp, Fb, L', e, r, st _ _ _ _ _ _ t.mv hb, hb1, R', g, k.from t⟩⟩
  · rename_i c fs e ha
    cases g
    exact ⟨Wp, Fb, L, env, _, R, ha, k⟩
abbrev ρD (K : Fr0) : Rel D V := fun d v F H => Dn K F H v d
abbrev ρA (K : Fr0) : Rel (List D) (List V) := fun ds vs F H => DnA K F H vs ds
abbrev ρB : Rel Bool Bool := fun a b _ _ => b = a
theorem stabD (K : Fr0) : Stab (ρD K) := fun _ _ _ _ _ _ m h => h.mv m
theorem stabA (K : Fr0) : Stab (ρA K) := fun _ _ _ _ _ _ m h => h.mv m
abbrev tD (X : Cx) (W : WX) (G : GE) : TE := tG (ρD X.K) X W G
abbrev tT (X : Cx) (W : WX) (G : GT) : TT := tG ρB X W G
abbrev tAs (X : Cx) (W : WX) (G : GA) : TA := tG (ρA X.K) X W G
/-- a new list, not told to anyone yet: its address is one's own -/
def tF (X : Cx) (W : WX) (G : GA) : TE := fun σ H Q => ∃ (Wp : L2.St) (Fb L : AS) (env : En) (r : Rs (List D)), ER X.K Wp Fb L H σ env ∧ G env = some r ∧ match r with
  | .ok ds env' => ∀ a vs H' L', Tr H L H' L' → L' a → ER X.K Wp Fb L' H' σ env' → H' a = some (.lst vs) → DnA X.K (U L' Fb) H' vs ds → (∀ (j : Nat) (b : Bool) (es : List D), env'[j]? = some (.mu b es) → σ[j]? ≠ some (some (.ref a))) → Q (.ref a) H'
  | .ex c fs env' => ∀ cls dd H' L', Tr H L H' L' → ER X.K Wp Fb L' H' σ env' → ExIs X.K X.mg (U L' Fb) H' c fs cls dd → W cls dd σ H'
structure PD (X : Cx) (W : WX) (e : Expr) (G : GE) : Prop where
  pe : PE X e (tD X W G)
structure PDT (X : Cx) (W : WX) (e : Expr) (G : GT) : Prop where
  pt : PT X e (tT X W G)
structure PDA (X : Cx) (W : WX) (es : List Expr) (G : GA) : Prop where
  pa : PA X es (tAs X W G)
structure PDF (X : Cx) (W : WX) (e : Expr) (G : GA) : Prop where
  pe : PE X e (tF X W G)
theorem PD.cast {X : Cx} {W : WX} {e : Expr} {G G' : GE} (h : PD X W e G) (q : G = G') : PD X W e G' := q ▸ h

theorem PE.wk {X : Cx} {e : Expr} {t t' : TE} (h : PE X e t) (w : ∀ σ H Q, t' σ H Q → t σ H Q) : PE X e t' := ⟨fun pins s σ H Q I q => h.run pins s σ H Q I (w σ H Q q)⟩
theorem PT.wk {X : Cx} {e : Expr} {t t' : TT} (h : PT X e t) (w : ∀ σ H Q, t' σ H Q → t σ H Q) : PT X e t' := ⟨fun pins s σ H Q I q => h.run pins s σ H Q I (w σ H Q q)⟩
theorem PW.wk {X : Cx} {e : Expr} {t t' : TT} (h : PW X e t) (w : ∀ σ H Q, t' σ H Q → t σ H Q) : PW X e t' := ⟨fun wh pins s σ H Q I q => h.run wh pins s σ H Q I (w σ H Q q)⟩
theorem PA.wk {X : Cx} {es : List Expr} {t t' : TA} (h : PA X es t) (w : ∀ σ H Q, t' σ H Q → t σ H Q) : PA X es t' := ⟨fun pos pins s σ H Q I q => h.run pos pins s σ H Q I (w σ H Q q)⟩
theorem PS.wk {X : Cx} {st : Stmt} {t t' : TS} (h : PS X st t) (w : ∀ D σ H, t' D σ H → t D σ H) : PS X st t' := ⟨fun pins s σ H D I q => h.run pins s σ H D I (w D σ H q)⟩
theorem PSs.wk {X : Cx} {st : List Stmt} {t t' : TS} (h : PSs X st t) (w : ∀ D σ H, t' D σ H → t D σ H) : PSs X st t' := ⟨fun pins s σ H D I q => h.run pins s σ H D I (w D σ H q)⟩

/-- one's own address given up -/
theorem ER.drop {K : Fr0} {Wp σ : L2.St} {Fb L : AS} {H : Hp} {env : En} (R : ER K Wp Fb L H σ env) {a : Addr} (ap : ∀ (j : Nat) (b : Bool) (es : List D), env[j]? = some (.mu b es) → σ[j]? ≠ some (some (.ref a))) :
    ER K Wp Fb (fun b => L b ∧ b ≠ a) H σ env ∧ Mv (U L Fb) H (U (fun b => L b ∧ b ≠ a) Fb) H ∧ Tr H L H (fun b => L b ∧ b ≠ a) := by
  have m : Mv (U L Fb) H (U (fun b => L b ∧ b ≠ a) Fb) H := fun b o n e => ⟨fun z => n (z.elim (fun z => .inl z.1) .inr), e⟩
  refine ⟨⟨R.len, fun b hb => R.trk b (hb.elim (fun z => .inl z.1) .inr), fun b hb => R.dis b hb.1, fun j s e => ?_, R.apart⟩, m, fun b o e n => ⟨e, fun z => n z.1⟩⟩
  have q := R.sl j s e
  cases s with
  | no => trivial
  | im d => obtain ⟨v, e1, h⟩ := q; exact ⟨v, e1, h.mv m⟩
  | mu b es =>
    obtain ⟨x, vs', e1, l', h1', h2', w'⟩ := q
    refine ⟨x, vs', e1, ⟨l', fun z => ?_⟩, h1', h2'.mv m, w'⟩
    subst z
    exact ap j b es e e1
/-- a list not kept as one's own is data -/
theorem PDF.pd {X : Cx} {W : WX} {e : Expr} {G : GA} (h : PDF X W e G) : PD X W e (gB G fun ds => gP (.list ds)) := ⟨PE.wk h.pe fun σ H Q q => by
  obtain ⟨Wp, Fb, L, env, r, R, g, k⟩ := q
  unfold gB at g
  split at g
  · cases g
  · rename_i ds e hg
    cases g
    refine ⟨Wp, Fb, L, env, _, R, hg, fun a vs H' L' t la R' ha hd ap => ?_⟩
    obtain ⟨R2, m, t2⟩ := R'.drop ap
    exact k H' _ (t.trans t2) R2 (.ref a) (.lst (fun z => z.elim (fun z => z.2 rfl) (R'.dis a la)) ha (hd.mv m))
  · rename_i c fs e hg
    cases g
    exact ⟨Wp, Fb, L, env, _, R, hg, k⟩⟩
end PD
namespace PD
open PySem PySem.Spec PyProof.Rows L2

/-! ### names and constants -/
section
variable {X : Cx} {W : WX}
def gVar (i : Nat) : GE := fun env => match env[i]? with
  | some (.im d) => some (.ok d env)
  | some (.mu false ds) => some (.ok (.list ds) (env.set i (.im (.list ds))))
  | _ => none
theorem pd_var {i : Nat} {x : Str} {pos : Pos} (h : PE X (.Name x pos) (tVar i)) : PD X W (.Name x pos) (gVar i) := ⟨PE.wk h fun σ H Q q => by
  obtain ⟨Wp, Fb, L, env, r, R, g, k⟩ := q
  unfold gVar at g
  split at g
  · rename_i d0 he
    cases g
    obtain ⟨v, e1, h1⟩ := R.sl i _ he
    exact ⟨v, e1, k H L (Tr.refl H L) R v h1⟩
  · rename_i ds he
    cases g
    obtain ⟨a, vs, e1, _⟩ := R.sl i _ he
    obtain ⟨R', t, dn⟩ := R.frz he e1
    exact ⟨_, e1, k H _ t R' _ dn⟩
  · cases g⟩
theorem pd_c {e : Expr} {v : V} {d : D} (h : PE X e (tC v)) (hd : ∀ K F H, Dn K F H v d) : PD X W e (gP d) := ⟨PE.wk h fun σ H Q q => by
  obtain ⟨Wp, Fb, L, env, r, R, g, k⟩ := q
  cases g
  exact k H L (Tr.refl H L) R v (hd _ _ _)⟩
theorem pd_int {i : Int} {j pos} : PD X W (.Constant (.int i) j pos) (gP (.int i)) := pd_c pe_int fun _ _ _ => .int i
theorem pd_bl {b : Bool} {j pos} : PD X W (.Constant (.bool b) j pos) (gP (.bool b)) := pd_c pe_bl fun _ _ _ => .bl b
theorem pd_non {j pos} : PD X W (.Constant .none j pos) (gP .none) := pd_c pe_non fun _ _ _ => .non
theorem pd_str {x : Str} {j pos} : PD X W (.Constant (.str x) j pos) (gP (.str x)) := pd_c pe_str fun _ _ _ => .str x

/-! ### two-place operations by values -/
structure RD2 (K : Fr0) (r : R2) (φ : D → D → Option D) : Prop where
  go : ∀ {F : AS} {H : Hp} {x y : V} {d e z : D} {Q : VK}, Dn K F H x d → Dn K F H y e → φ d e = some z → (∀ p, H p = none → ¬ F p) →
    (∀ v H', (∀ a o, H a = some o → H' a = some o) → Dn K F H' v z → Q v H') → r x y H Q
def gOp (φ : D → D → Option D) (Ga Gb : GE) : GE := gB Ga fun d => gB Gb fun e => gO (φ d e)
theorem grow_tr {H H' : Hp} {L : AS} (g : ∀ a o, H a = some o → H' a = some o) : Tr H L H' L := fun a o e n => ⟨g a o e, n⟩
theorem gO_some {α : Type} {o : Option α} {env : En} {r : Rs α} (h : gO o env = some r) : ∃ a, o = some a ∧ r = .ok a env := by
  unfold gO at h
  cases o with
  | none => cases h
  | some a => cases h; exact ⟨a, rfl, rfl⟩
theorem tOp_of {r : R2} {φ : D → D → Option D} {Ga Gb : GE} {σ : L2.St} {H : Hp} {Q : VK} (hr : RD2 X.K r φ) (q : tD X W (gOp φ Ga Gb) σ H Q) : tOp r (tD X W Ga) (tD X W Gb) σ H Q := by
  refine (tG.seq2 (ρ1 := ρD X.K) (stabD X.K) q).mono fun x H1 z => z.mono fun y H2 z => ?_
  obtain ⟨d, e, Wp, Fb, L, env, r, hx, hy, R, g, k⟩ := z
  obtain ⟨z, h1, rfl⟩ := gO_some g
  exact hr.go hx hy h1 (fun p hp => R.free hp) fun v H' gr dn => k H' L (grow_tr gr) (R.grow gr) v dn
theorem pd_op {op : Operator} {r : R2} {φ : D → D → Option D} {a b : Expr} {Ga Gb : GE} {pos : Pos} (ho : OpR X (binaryOp op) r) (hr : RD2 X.K r φ) (ha : PD X W a Ga) (hb : PD X W b Gb) : PD X W (.BinOp a op b pos) (gOp φ Ga Gb) :=
  ⟨PE.wk (pe_op ho ha.pe hb.pe) fun σ H Q q => tOp_of hr q⟩
theorem pd_ix {r : R2} {φ : D → D → Option D} {a b : Expr} {Ga Gb : GE} {pos : Pos} (ho : IxR X r) (hr : RD2 X.K r φ) (ha : PD X W a Ga) (hb : PD X W b Gb) (hs : PlainIx b) : PD X W (.Subscript a b pos) (gOp φ Ga Gb) :=
  ⟨PE.wk (pe_ix ho ha.pe hb.pe hs) fun σ H Q q => tOp_of hr q⟩

theorem OpR.or {f : Value → Value → Sem Value} {r r' : R2} (h : OpR X f r) (h' : OpR X f r') : OpR X f (fun x y H Q => r x y H Q ∨ r' x y H Q) := L2.OpR.or h h'

/-! #### + -/
def dAdd : D → D → Option D
  | .int i, .int j => some (.int (i + j))
  | .list xs, .list ys => if xs.length + ys.length ≤ 100000 then some (.list (xs ++ ys)) else none
  | .tuple xs, .tuple ys => if xs.length + ys.length ≤ 100000 then some (.tuple (xs ++ ys)) else none
  | _, _ => none
abbrev rAdd (K : Fr0) : R2 := fun x y H Q => rI0 (fun i j => .int (i + j)) x y H Q ∨ (fun x y H Q => rCat x y H Q ∨ rCatA K x y H Q) x y H Q
theorem or_add : OpR X (binaryOp .Add) (rAdd X.K) := L2.OpR.or op_add (L2.OpR.or op_cat op_catA)
theorem sz {n : Nat} (h : n ≤ 100000) : n ≤ sizeLine := Nat.le_trans h (by decide)
theorem fresh_ne {H : Hp} {a p : Addr} {o : HO} (h : H a = some o) (hp : H p = none) : a ≠ p := ne_of_none h hp
theorem upd_grow {H : Hp} {p : Addr} {o : HO} (hp : H p = none) : ∀ a u, H a = some u → upd H p o a = some u := fun a u e => by rw [upd_ne (ne_of_none e hp)]; exact e
theorem mv_grow {F : AS} {H H' : Hp} (g : ∀ a o, H a = some o → H' a = some o) : Mv F H F H' := fun a o n e => ⟨n, g a o e⟩
theorem rd_add {K : Fr0} : RD2 K (rAdd K) dAdd := ⟨by
  intro F H x y d e z Q hx hy hz hf k
  unfold dAdd at hz
  split at hz
  · cases hz; cases hx; cases hy
    exact .inl ⟨_, _, rfl, rfl, k _ H (fun _ _ e => e) (.int _)⟩
  · rename_i xs ys
    split at hz
    · rename_i hl
      cases hz
      obtain ⟨a, vs, rfl, na, ha, da⟩ := hx.lstInv
      obtain ⟨b, ws, rfl, nb, hb, db⟩ := hy.lstInv
      refine .inr (.inl ⟨a, b, vs, ws, rfl, rfl, ha, hb, sz (by rw [da.length, db.length]; exact hl), fun p hp => k _ _ (upd_grow hp) (.lst (hf p hp) upd_same ((da.app db).mv (mv_grow (upd_grow hp))))⟩)
    · cases hz
  · rename_i xs ys
    split at hz
    · rename_i hl
      cases hz
      have hx0 := hx
      have hy0 := hy
      obtain ⟨a, vs, rfl, ha, da⟩ := hx.tupInv
      obtain ⟨b, ws, rfl, hb, db⟩ := hy.tupInv
      refine .inr (.inr ⟨a, b, vs, ws, rfl, rfl, ha, hb, sz (by rw [da.length, db.length]; exact hl), fun z => ?_, fun _ z => ?_, fun _ _ p hp => k _ _ (upd_grow hp) (.tup (.inl ⟨hf p hp, upd_same⟩) ((da.app db).mv (mv_grow (upd_grow hp))))⟩)
      · rw [z] at da; cases da
        exact k _ H (fun _ _ e => e) hy0
      · rw [z] at db; cases db
        exact k _ H (fun _ _ e => e) (by rw [List.append_nil]; exact hx0)
    · cases hz
  · cases hz⟩
/-! #### arithmetic -/
def dInt (C : Int → Int → Bool) (f : Int → Int → Int) : D → D → Option D
  | .int i, .int j => if C i j = true then some (.int (f i j)) else none
  | _, _ => none
theorem rd_int {K : Fr0} {C : Int → Int → Prop} {B : Int → Int → Bool} {f : Int → Int → Int} (h : ∀ i j, B i j = true → C i j) : RD2 K (rI C fun i j => .int (f i j)) (dInt B f) := ⟨by
  intro F H x y d e z Q hx hy hz hf k
  unfold dInt at hz
  split at hz
  · rename_i i j
    split at hz
    · rename_i hc
      cases hz; cases hx; cases hy
      exact ⟨i, j, rfl, rfl, h i j hc, k _ H (fun _ _ e => e) (.int _)⟩
    · cases hz
  · cases hz⟩
def dSub : D → D → Option D
  | .int i, .int j => some (.int (i - j))
  | _, _ => none
theorem rd_sub {K : Fr0} : RD2 K (rI0 fun i j => .int (i - j)) dSub := ⟨by
  intro F H x y d e z Q hx hy hz hf k
  unfold dSub at hz
  split at hz
  · cases hz; cases hx; cases hy
    exact ⟨_, _, rfl, rfl, k _ H (fun _ _ e => e) (.int _)⟩
  · cases hz⟩
def bMul (i j : Int) : Bool := (decide (-18446744073709551616 < i) && decide (i < 18446744073709551616)) || (decide (-18446744073709551616 < j) && decide (j < 18446744073709551616))
theorem bMul_ok (i j : Int) (h : bMul i j = true) : CMul i j := by
  unfold bMul at h
  simp only [Bool.or_eq_true, Bool.and_eq_true, decide_eq_true_eq] at h
  unfold CMul
  rcases h with h | h
  · exact .inl ⟨by omega, by omega⟩
  · exact .inr ⟨by omega, by omega⟩
/-- * of numbers; a list so often -/
def dMul : D → D → Option D
  | .int i, .int j => if bMul i j = true then some (.int (i * j)) else none
  | .list xs, .int k => if 0 ≤ k ∧ k ≤ 100000 ∧ xs.length * k.toNat ≤ 100000 then some (.list (List.replicate k.toNat xs).flatten) else none
  | _, _ => none
abbrev rMul : R2 := fun x y H Q => rI CMul (fun i j => .int (i * j)) x y H Q ∨ rRep x y H Q
theorem or_mul : OpR X (binaryOp .Mult) rMul := L2.OpR.or op_mul op_rep
theorem DnA.rep {K : Fr0} {F : AS} {H : Hp} {ds : List D} {vs : List V} (h : DnA K F H vs ds) : ∀ n : Nat, DnA K F H (List.replicate n vs).flatten (List.replicate n ds).flatten
  | 0 => .nil
  | n + 1 => by
    rw [List.replicate_succ, List.replicate_succ, List.flatten_cons, List.flatten_cons]
    exact h.app (DnA.rep h n)
theorem rd_mul {K : Fr0} : RD2 K rMul dMul := ⟨by
  intro F H x y d e z Q hx hy hz hf k
  unfold dMul at hz
  split at hz
  · rename_i i j
    split at hz
    · rename_i hc
      cases hz; cases hx; cases hy
      exact .inl ⟨i, j, rfl, rfl, bMul_ok i j hc, k _ H (fun _ _ e => e) (.int _)⟩
    · cases hz
  · rename_i xs n
    split at hz
    · rename_i hc
      cases hz; cases hy
      obtain ⟨a, vs, rfl, na, ha, da⟩ := hx.lstInv
      refine .inr ⟨a, n, vs, rfl, rfl, ha, by omega, by omega, sz (by rw [da.length]; exact hc.2.2), fun p hp => k _ _ (upd_grow hp) (.lst (hf p hp) upd_same ((da.rep _).mv (mv_grow (upd_grow hp))))⟩
    · cases hz
  · cases hz⟩
def bMod (_ j : Int) : Bool := decide (j ≠ 0)
def bDiv (_ j : Int) : Bool := decide (j ≠ 0) && decide (j.natAbs < 1073741824)
def bPow (i j : Int) : Bool := decide (0 ≤ j) && decide (j ≤ 1000) && decide (i.natAbs < 1000000)
theorem bMod_ok (i j : Int) (h : bMod i j = true) : j ≠ 0 := of_decide_eq_true h
theorem bDiv_ok (i j : Int) (h : bDiv i j = true) : CDivN i j := by
  unfold bDiv at h
  simp only [Bool.and_eq_true, decide_eq_true_eq] at h
  exact h
theorem bPow_ok (i j : Int) (h : bPow i j = true) : CPow i j := by
  unfold bPow at h
  simp only [Bool.and_eq_true, decide_eq_true_eq] at h
  unfold CPow
  omega
/-! #### comparisons -/
def dCmp (p : Int → Int → Bool) : D → D → Option D
  | .int i, .int j => some (.bool (p i j))
  | _, _ => none
theorem rd_cmp {K : Fr0} {p : Int → Int → Bool} : RD2 K (rI0 fun i j => .bl (p i j)) (dCmp p) := ⟨by
  intro F H x y d e z Q hx hy hz hf k
  unfold dCmp at hz
  split at hz
  · cases hz; cases hx; cases hy
    exact ⟨_, _, rfl, rfl, k _ H (fun _ _ e => e) (.bl _)⟩
  · cases hz⟩
/-- the ints of data that are ints -/
def ints? : List D → Option (List Int)
  | [] => some []
  | .int i :: ds => (ints? ds).map (i :: ·)
  | _ :: _ => none
theorem ints_of : ∀ {ds : List D} {ns : List Int}, ints? ds = some ns → ds = ns.map PyData.int
  | [], ns, h => by cases h; rfl
  | d :: ds, ns, h => by
    cases d <;> first
      | (unfold ints? at h
         obtain ⟨m, h1, h2⟩ := Option.map_eq_some_iff.mp h
         subst h2
         rw [ints_of h1]
         rfl)
      | (unfold ints? at h; cases h)
theorem ints_map : ∀ ns : List Int, ints? (ns.map PyData.int) = some ns
  | [] => rfl
  | n :: ns => by
    show (ints? (ns.map PyData.int)).map (n :: ·) = some (n :: ns)
    rw [ints_map ns]
    rfl
def dLt : D → D → Option D
  | .int i, .int j => some (.bool (decide (i < j)))
  | .tuple xs, .tuple ys => (ints? xs).bind fun ns => (ints? ys).map fun ms => .bool (HT.lexLt ns ms)
  | _, _ => none
abbrev rLt (K : Fr0) : R2 := fun x y H Q => rI0 (fun i j => .bl (decide (i < j))) x y H Q ∨ rLtT K x y H Q
theorem or_lt (hu : X.A.units < cLine) : OpR X (compareOp .Lt) (rLt X.K) := L2.OpR.or op_lt (op_ltT hu)
theorem rd_lt {K : Fr0} : RD2 K (rLt K) dLt := ⟨by
  intro F H x y d e z Q hx hy hz hf k
  unfold dLt at hz
  split at hz
  · cases hz; cases hx; cases hy
    exact .inl ⟨_, _, rfl, rfl, k _ H (fun _ _ e => e) (.bl _)⟩
  · obtain ⟨ns, h1, hz⟩ := Option.bind_eq_some_iff.mp hz
    obtain ⟨ms, h2, hz⟩ := Option.map_eq_some_iff.mp hz
    subst hz
    obtain ⟨a, vs, rfl, ha, da⟩ := hx.tupInv
    obtain ⟨b, ws, rfl, hb, db⟩ := hy.tupInv
    rw [ints_of h1] at da
    rw [ints_of h2] at db
    rw [da.ints_inv] at ha
    rw [db.ints_inv] at hb
    exact .inr ⟨a, b, ns, ms, rfl, rfl, ha, hb, k _ H (fun _ _ e => e) (.bl _)⟩
  · cases hz⟩
def dEq (neg : Bool) : D → D → Option D
  | .int i, .int j => some (.bool (xor neg (i == j)))
  | .str i, .str j => some (.bool (xor neg (decide (i = j))))
  | .bool i, .bool j => some (.bool (xor neg (i == j)))
  | d, e => if (SeqAt.shaped d && SeqAt.shaped e) = true then some (.bool (xor neg (PyData.eqv d e))) else none
abbrev rEq2 (K : Fr0) : R2 := fun x y H Q => rEq x y H Q ∨ rEqD K x y H Q
abbrev rNe2 (K : Fr0) : R2 := fun x y H Q => rNe x y H Q ∨ rNeD K x y H Q
theorem or_eq (hu : X.A.units + 64 < cLine) : OpR X (compareOp .Eq) (rEq2 X.K) := L2.OpR.or op_eq (op_eqD hu)
theorem or_ne (hu : X.A.units + 64 < cLine) : OpR X (compareOp .NotEq) (rNe2 X.K) := L2.OpR.or op_ne (op_neD hu)
theorem rd_eq {K : Fr0} : RD2 K (rEq2 K) (dEq false) := ⟨by
  intro F H x y d e z Q hx hy hz hf k
  unfold dEq at hz
  split at hz
  · cases hz; cases hx; cases hy
    exact .inl ⟨rfl, by rw [dec_int]; exact k _ H (fun _ _ e => e) (by simpa using Dn.bl _)⟩
  · cases hz; cases hx; cases hy
    refine .inl ⟨rfl, k _ H (fun _ _ e => e) ?_⟩
    simpa using Dn.bl _
  · cases hz; cases hx; cases hy
    exact .inl ⟨rfl, by rw [dec_bl]; exact k _ H (fun _ _ e => e) (by simpa using Dn.bl _)⟩
  · split at hz
    · rename_i hs
      cases hz
      rw [Bool.and_eq_true] at hs
      exact .inr ⟨_, _, hx.dp, hy.dp, hs.1, hs.2, k _ H (fun _ _ e => e) (by simpa using Dn.bl _)⟩
    · cases hz⟩
theorem rd_ne {K : Fr0} : RD2 K (rNe2 K) (dEq true) := ⟨by
  intro F H x y d e z Q hx hy hz hf k
  unfold dEq at hz
  split at hz
  · cases hz; cases hx; cases hy
    exact .inl ⟨rfl, by rw [dec_int]; exact k _ H (fun _ _ e => e) (by simpa using Dn.bl _)⟩
  · cases hz; cases hx; cases hy
    refine .inl ⟨rfl, k _ H (fun _ _ e => e) ?_⟩
    simpa using Dn.bl _
  · cases hz; cases hx; cases hy
    exact .inl ⟨rfl, by rw [dec_bl]; exact k _ H (fun _ _ e => e) (by simpa using Dn.bl _)⟩
  · split at hz
    · rename_i hs
      cases hz
      rw [Bool.and_eq_true] at hs
      exact .inr ⟨_, _, hx.dp, hy.dp, hs.1, hs.2, k _ H (fun _ _ e => e) (by simpa using Dn.bl _)⟩
    · cases hz⟩
/-- is None -/
def dIsN (neg : Bool) : D → D → Option D
  | .none, .none => some (.bool (xor neg true))
  | _, .none => some (.bool (xor neg false))
  | _, _ => none
theorem rd_isN {K : Fr0} : RD2 K (fun x y H Q => y = .non ∧ Q (.bl (decide (x = .non))) H) (dIsN false) := ⟨by
  intro F H x y d e z Q hx hy hz hf k
  unfold dIsN at hz
  split at hz
  · cases hz; cases hx; cases hy
    exact ⟨rfl, k _ H (fun _ _ e => e) (by simpa using Dn.bl _)⟩
  · rename_i hn
    cases hz; cases hy
    refine ⟨rfl, k _ H (fun _ _ e => e) ?_⟩
    have : decide (x = .non) = false := by
      cases hx with
      | non => exact (hn rfl).elim
      | _ => simp
    rw [this]
    simpa using Dn.bl _
  · cases hz⟩
theorem rd_notN {K : Fr0} : RD2 K (fun x y H Q => y = .non ∧ Q (.bl (!decide (x = .non))) H) (dIsN true) := ⟨by
  intro F H x y d e z Q hx hy hz hf k
  unfold dIsN at hz
  split at hz
  · cases hz; cases hx; cases hy
    exact ⟨rfl, k _ H (fun _ _ e => e) (by simpa using Dn.bl _)⟩
  · rename_i hn
    cases hz; cases hy
    refine ⟨rfl, k _ H (fun _ _ e => e) ?_⟩
    have : decide (x = .non) = false := by
      cases hx with
      | non => exact (hn rfl).elim
      | _ => simp
    rw [this]
    simpa using Dn.bl _
  · cases hz⟩
/-! #### in -/
theorem inV_ints (i : Int) : ∀ ns : List Int, inV (.int i) (ns.map V.int) = ns.any (· == i)
  | [] => rfl
  | n :: ns => by
    show (eqV (.int n) (.int i) || inV (.int i) (ns.map V.int)) = ((n == i) || ns.any (· == i))
    rw [inV_ints i ns]
    rfl
theorem flat_ints : ∀ ns : List Int, (ns.map V.int).all flatV = true
  | [] => rfl
  | n :: ns => by
    show (flatV (.int n) && (ns.map V.int).all flatV) = true
    rw [flat_ints ns]
    rfl
def dIn (neg : Bool) : D → D → Option D
  | .int i, .list ds => (ints? ds).map fun ns => .bool (xor neg (ns.any (· == i)))
  | .int i, .tuple ds => (ints? ds).map fun ns => .bool (xor neg (ns.any (· == i)))
  | _, _ => none
theorem rd_in {K : Fr0} (neg : Bool) : RD2 K (rIn K neg) (dIn neg) := ⟨by
  intro F H x y d e z Q hx hy hz hf k
  unfold dIn at hz
  split at hz
  · obtain ⟨ns, h1, hz⟩ := Option.map_eq_some_iff.mp hz
    subst hz
    cases hx
    obtain ⟨b, ws, rfl, nb, hb, db⟩ := hy.lstInv
    rw [ints_of h1] at db
    have e := db.ints_inv
    subst e
    refine ⟨b, _, rfl, .inl (SqL.of hb), rfl, flat_ints ns, ?_⟩
    rw [inV_ints]
    refine k _ H (fun _ _ e => e) ?_
    cases neg <;> simpa using Dn.bl _
  · obtain ⟨ns, h1, hz⟩ := Option.map_eq_some_iff.mp hz
    subst hz
    cases hx
    obtain ⟨b, ws, rfl, hb, db⟩ := hy.tupInv
    rw [ints_of h1] at db
    have e := db.ints_inv
    subst e
    refine ⟨b, _, rfl, .inr hb, rfl, flat_ints ns, ?_⟩
    rw [inV_ints]
    refine k _ H (fun _ _ e => e) ?_
    cases neg <;> simpa using Dn.bl _
  · cases hz⟩
/-! #### a place -/
theorem DnA.at {K : Fr0} {F : AS} {H : Hp} {ds : List D} {vs : List V} {i : Int} {d : D} (h : DnA K F H vs ds) (e : atI ds i = some d) : ∃ v, atI vs i = some v ∧ Dn K F H v d := by
  unfold atI at e ⊢
  rw [h.length]
  obtain ⟨j, e1, e2⟩ := Option.bind_eq_some_iff.mp e
  obtain ⟨v, h1, h2⟩ := h.get e2
  exact ⟨v, Option.bind_eq_some_iff.mpr ⟨j, e1, h1⟩, h2⟩
def dIx : D → D → Option D
  | .list ds, .int i => atI ds i
  | .tuple ds, .int i => atI ds i
  | _, _ => none
theorem rd_ix {K : Fr0} : RD2 K (rIx K) dIx := ⟨by
  intro F H x y d e z Q hx hy hz hf k
  unfold dIx at hz
  split at hz
  · cases hy
    obtain ⟨b, ws, rfl, nb, hb, db⟩ := hx.lstInv
    obtain ⟨v, h1, h2⟩ := db.at hz
    exact .inl ⟨b, ws, _, v, rfl, rfl, SqL.of hb, h1, k v H (fun _ _ e => e) h2⟩
  · cases hy
    obtain ⟨b, ws, rfl, hb, db⟩ := hx.tupInv
    obtain ⟨v, h1, h2⟩ := db.at hz
    exact .inr (.inl ⟨b, ws, _, v, rfl, rfl, hb, h1, k v H (fun _ _ e => e) h2⟩)
  · cases hz⟩

/-! ### the rules by their signs -/
/-- a comparison's own -/
structure CD (X : Cx) (op : CmpOp) (b : Expr) (φ : D → D → Option D) : Prop where
  ex : ∃ r : R2, OpR X (compareOp op) r ∧ RD2 X.K r φ ∧ behindInMarks op b = false
section
variable {a b : Expr} {Ga Gb : GE} {pos : Pos}
theorem pd_cmp {op : CmpOp} {φ : D → D → Option D} (c : CD X op b φ) (ha : PD X W a Ga) (hb : PD X W b Gb) : PD X W (.Compare a [op] [b] pos) (gOp φ Ga Gb) := by
  obtain ⟨r, ho, hr, hm⟩ := c.ex
  exact ⟨PE.wk (pe_cmpR ho ha.pe hb.pe hm) fun σ H Q q => tOp_of hr q⟩
theorem pd_add (ha : PD X W a Ga) (hb : PD X W b Gb) : PD X W (.BinOp a .Add b pos) (gOp dAdd Ga Gb) := pd_op or_add rd_add ha hb
theorem pd_sub (ha : PD X W a Ga) (hb : PD X W b Gb) : PD X W (.BinOp a .Sub b pos) (gOp dSub Ga Gb) := pd_op op_sub rd_sub ha hb
theorem pd_mul (ha : PD X W a Ga) (hb : PD X W b Gb) : PD X W (.BinOp a .Mult b pos) (gOp dMul Ga Gb) := pd_op or_mul rd_mul ha hb
theorem pd_mod (ha : PD X W a Ga) (hb : PD X W b Gb) : PD X W (.BinOp a .Mod b pos) (gOp (dInt bMod Int.fmod) Ga Gb) := pd_op op_modN (rd_int bMod_ok) ha hb
theorem pd_fdiv (ha : PD X W a Ga) (hb : PD X W b Gb) : PD X W (.BinOp a .FloorDiv b pos) (gOp (dInt bDiv Int.fdiv) Ga Gb) := pd_op op_fdivN (rd_int bDiv_ok) ha hb
theorem pd_pow (ha : PD X W a Ga) (hb : PD X W b Gb) : PD X W (.BinOp a .Pow b pos) (gOp (dInt bPow fun i j => i ^ j.toNat) Ga Gb) := pd_op op_pow (rd_int bPow_ok) ha hb
theorem cd_lt (hu : X.A.units < cLine) : CD X .Lt b dLt := ⟨_, or_lt hu, rd_lt, nomark _⟩
theorem cd_le : CD X .LtE b (dCmp fun i j => decide (i ≤ j)) := ⟨_, op_le, rd_cmp, nomark _⟩
theorem cd_gt : CD X .Gt b (dCmp fun i j => decide (j < i)) := ⟨_, op_gt, rd_cmp, nomark _⟩
theorem cd_ge : CD X .GtE b (dCmp fun i j => decide (j ≤ i)) := ⟨_, op_ge, rd_cmp, nomark _⟩
theorem cd_eq (hu : X.A.units + 64 < cLine) : CD X .Eq b (dEq false) := ⟨_, or_eq hu, rd_eq, nomark _⟩
theorem cd_ne (hu : X.A.units + 64 < cLine) : CD X .NotEq b (dEq true) := ⟨_, or_ne hu, rd_ne, nomark _⟩
theorem cd_is : CD X .Is b (dIsN false) := ⟨_, op_isN, rd_isN, nomark _⟩
theorem cd_isnot : CD X .IsNot b (dIsN true) := ⟨_, op_notN, rd_notN, nomark _⟩
theorem cd_in (hm : behindInMarks .In b = false) : CD X .In b (dIn false) := ⟨_, op_in_seq, rd_in false, hm⟩
theorem cd_nin (hm : behindInMarks .NotIn b = false) : CD X .NotIn b (dIn true) := ⟨_, op_notIn_seq, rd_in true, hm⟩
theorem pd_at (ha : PD X W a Ga) (hb : PD X W b Gb) (hs : PlainIx b := by intros; rfl) : PD X W (.Subscript a b pos) (gOp dIx Ga Gb) := pd_ix ix_seq rd_ix ha hb hs
end
end
end PD
namespace PD
open PySem PySem.Spec PyProof.Rows L2
section
variable {X : Cx} {W : WX}
/-! ### arguments, displays -/
def gCons (Ga : GE) (Gr : GA) : GA := gB Ga fun d => gB Gr fun ds => gP (d :: ds)
theorem gP_some {α : Type} {a : α} {env : En} {r : Rs α} (h : gP a env = some r) : r = .ok a env := by cases h; rfl
theorem pda_nil : PDA X W [] (gP []) := ⟨PA.wk pa_nil fun σ H Q q => by
  obtain ⟨Wp, Fb, L, env, r, R, g, k⟩ := q
  cases gP_some g
  exact k H L (Tr.refl H L) R [] .nil⟩
theorem pda_cons {e : Expr} {es : List Expr} {Ga : GE} {Gr : GA} (ha : PD X W e Ga) (hr : PDA X W es Gr) (hs : starEach (e :: es) X.env = (false, eval e X.env) :: starEach es X.env := by rfl) : PDA X W (e :: es) (gCons Ga Gr) :=
  ⟨PA.wk (pa_cons ha.pe hr.pa hs) fun σ H Q q => (tG.seq2 (ρ1 := ρA X.K) (stabD X.K) q).mono fun x H1 z => z.mono fun xs H2 z => by
    obtain ⟨d, ds, Wp, Fb, L, env, r, hx, hy, R, g, k⟩ := z
    cases gP_some g
    exact k H2 L (Tr.refl H2 L) R (x :: xs) (.cons hx hy)⟩
def gTup (G : GA) : GE := gB G fun ds => gO (if ds.length ≤ 100000 then some (.tuple ds) else none)
theorem pd_tup {es : List Expr} {G : GA} {k : Nat} {pos : Pos} (h : PDA X W es G) : PD X W (.Tuple es k pos) (gTup G) := ⟨PE.wk (pe_tup h.pa) fun σ H Q q => (tG.seq (ρ := ρA X.K) q).mono fun xs H1 z => by
  obtain ⟨ds, Wp, Fb, L, env, r, hx, R, g, k⟩ := z
  obtain ⟨a, h1, rfl⟩ := gO_some g
  split at h1
  · rename_i hl
    cases h1
    exact ⟨sz (by rw [hx.length]; exact hl), fun p hp => k _ L (Tr.new hp) (R.new hp) _ (.tup (.inl ⟨R.free hp, upd_same⟩) (hx.mv (mv_grow (upd_grow hp))))⟩
  · cases h1⟩
/-- an object just laid, kept as one's own -/
theorem ER.own {K : Fr0} {Wp σ : L2.St} {Fb L : AS} {H : Hp} {env : En} (R : ER K Wp Fb L H σ env) {p : Addr} {o : HO} (hp : H p = none) :
    ER K Wp Fb (fun b => L b ∨ b = p) (upd H p o) σ env ∧ Mv (U L Fb) H (U (fun b => L b ∨ b = p) Fb) (upd H p o) ∧ Tr H L (upd H p o) (fun b => L b ∨ b = p) ∧
      (∀ (j : Nat) (b : Bool) (es : List D), env[j]? = some (.mu b es) → σ[j]? ≠ some (some (.ref p))) := by
  have m : Mv (U L Fb) H (U (fun b => L b ∨ b = p) Fb) (upd H p o) := fun b u n e => by
    have ne := ne_of_none e hp
    exact ⟨fun z => n (z.elim (fun z => z.elim .inl fun w => (ne w).elim) .inr), by rw [upd_ne ne]; exact e⟩
  refine ⟨⟨R.len, fun b hb => ?_, fun b hb => ?_, fun j s e => ?_, R.apart⟩, m, fun b u e n => ?_, fun j b es e1 e2 => ?_⟩
  · by_cases hbp : b = p
    · subst hbp; exact ⟨o, upd_same⟩
    · obtain ⟨u, e⟩ := R.trk b (hb.elim (fun z => z.elim .inl fun w => (hbp w).elim) .inr)
      exact ⟨u, by rw [upd_ne hbp]; exact e⟩
  · rcases hb with z | z
    · exact R.dis b z
    · subst z
      exact fun z => R.free hp (.inr z)
  · have q := R.sl j s e
    cases s with
    | no => trivial
    | im d => obtain ⟨v, e1, h⟩ := q; exact ⟨v, e1, h.mv m⟩
    | mu b es =>
      obtain ⟨x, vs', e1, l', h1', h2', w'⟩ := q
      exact ⟨x, vs', e1, .inl l', by rw [upd_ne (ne_of_none h1' hp)]; exact h1', h2'.mv m, w'⟩
  · have ne := ne_of_none e hp
    exact ⟨by rw [upd_ne ne]; exact e, fun z => z.elim n ne⟩
  · obtain ⟨x, vs', e1', l', h1', _⟩ := R.sl j _ e1
    rw [e2] at e1'
    cases e1'
    rw [hp] at h1'
    cases h1'
def gLst (G : GA) : GA := gB G fun ds => gO (if ds.length ≤ 100000 then some ds else none)
theorem tF.mk {α β : Type} {ρ : Rel α β} {G : Gm α} {f : α → GA} {σ : L2.St} {H : Hp} {Q : VK} (q : tF X W (gB G f) σ H Q) : tG ρ X W G σ H fun b H1 => ∃ (a : α) (Wp : L2.St) (Fb L : AS) (env : En) (r : Rs (List D)), ρ a b (U L Fb) H1 ∧ ER X.K Wp Fb L H1 σ env ∧ f a env = some r ∧
    match r with
    | .ok ds env' => ∀ a vs H' L', Tr H1 L H' L' → L' a → ER X.K Wp Fb L' H' σ env' → H' a = some (.lst vs) → DnA X.K (U L' Fb) H' vs ds → (∀ (j : Nat) (b : Bool) (es : List D), env'[j]? = some (.mu b es) → σ[j]? ≠ some (some (.ref a))) → Q (.ref a) H'
    | .ex c fs env' => ∀ cls dd H' L', Tr H1 L H' L' → ER X.K Wp Fb L' H' σ env' → ExIs X.K X.mg (U L' Fb) H' c fs cls dd → W cls dd σ H' := by
  obtain ⟨Wp, Fb, L, env, r, R, g, k⟩ := q
  unfold gB at g
  split at g
  · cases g
  · rename_i ds e hg
    refine ⟨Wp, Fb, L, env, _, R, hg, fun H1 L1 t1 R1 vs hv => ⟨ds, Wp, Fb, L1, e, r, hv, R1, g, ?_⟩⟩
    cases r with
    | ok ds' e' => exact fun a vs' H' L' t la R' ha hd ap => k a vs' H' L' (t1.trans t) la R' ha hd ap
    | ex c fs e' => exact fun cls dd H' L' t R' x => k cls dd H' L' (t1.trans t) R' x
  · rename_i c fs e hg
    cases g
    exact ⟨Wp, Fb, L, env, _, R, hg, k⟩
theorem pdf_lst {es : List Expr} {G : GA} {k : Nat} {pos : Pos} (h : PDA X W es G) : PDF X W (.List es pos) (gLst G) := ⟨PE.wk (pe_lst h.pa) fun σ H Q q => (tF.mk (ρ := ρA X.K) q).mono fun xs H1 z => by
  obtain ⟨ds, Wp, Fb, L, env, r, hx, R, g, k⟩ := z
  obtain ⟨a, h1, rfl⟩ := gO_some g
  split at h1
  · rename_i hl
    cases h1
    refine ⟨sz (by rw [hx.length]; exact hl), fun p hp => ?_⟩
    obtain ⟨R2, m, t, ap⟩ := R.own (o := .lst xs) hp
    exact k p xs _ _ t (.inr rfl) R2 upd_same (hx.mv m) ap
  · cases h1⟩
/-! ### calls of built-ins: by the values -/
/-- what a call does with values, told over data -/
structure RCd (K : Fr0) (r : List V → Hp → VK → Prop) (φ : List D → Option D) : Prop where
  go : ∀ {F : AS} {H : Hp} {xs : List V} {ds : List D} {z : D} {Q : VK}, DnA K F H xs ds → φ ds = some z → (∀ p, H p = none → ¬ F p) →
    (∀ v H', (∀ a o, H a = some o → H' a = some o) → Dn K F H' v z → Q v H') → r xs H Q
def gCall (φ : List D → Option D) (G : GA) : GE := gB G fun ds => gO (φ ds)
theorem tCB_of {r : List V → Hp → VK → Prop} {φ : List D → Option D} {G : GA} {σ : L2.St} {H : Hp} {Q : VK} (hr : RCd X.K r φ) (q : tD X W (gCall φ G) σ H Q) : tCB r (tAs X W G) σ H Q :=
  (tG.seq (ρ := ρA X.K) q).mono fun xs H1 z => by
    obtain ⟨ds, Wp, Fb, L, env, r, hx, R, g, k⟩ := z
    obtain ⟨z, h1, rfl⟩ := gO_some g
    exact hr.go hx h1 (fun p hp => R.free hp) fun v H' gr dn => k H' L (grow_tr gr) (R.grow gr) v dn
section
variable {x : Str} {p pos : Pos} {e : Expr} {es : List Expr} {G : GA} {r : List V → Hp → VK → Prop} {φ : List D → Option D}
theorem pd_cb {id : String} (hc : CallR X (.builtin id) r) (hr : RCd X.K r φ) (hg : Gl X x) (hm : X.mg x = none) (hv : bootBuiltins x = some (.builtin id)) (ha : PDA X W (e :: es) G) (hn : x ≠ "__name__" := by decide) (hdb : (x == ("__debug__" : Str)) = false := by decide)
    (hs : starEach (e :: es) X.env = (false, eval e X.env) :: starEach es X.env := by rfl) (hpl : (backTo pos (starEach es X.env)).any (·.1) = false := by rfl) : PD X W (.Call (.Name x p) (e :: es) [] pos) (gCall φ G) :=
  ⟨PE.wk (pe_callB hc hg hm hv ha.pa hn hdb hs hpl) fun σ H Q q => tCB_of hr q⟩
theorem pd_ct {T : String} (hc : CallR X (.type T) r) (hr : RCd X.K r φ) (hg : Gl X x) (hm : X.mg x = none) (hv : bootBuiltins x = some (.type T)) (ha : PDA X W (e :: es) G) (hn : x ≠ "__name__" := by decide) (hdb : (x == ("__debug__" : Str)) = false := by decide)
    (hs : starEach (e :: es) X.env = (false, eval e X.env) :: starEach es X.env := by rfl) (hpl : (backTo pos (starEach es X.env)).any (·.1) = false := by rfl) : PD X W (.Call (.Name x p) (e :: es) [] pos) (gCall φ G) :=
  ⟨PE.wk (pe_callTy hc hg hm hv ha.pa hn hdb hs hpl) fun σ H Q q => tCB_of hr q⟩
end
theorem DnA.one {K : Fr0} {F : AS} {H : Hp} {xs : List V} {d : D} (h : DnA K F H xs [d]) : ∃ v, xs = [v] ∧ Dn K F H v d := by
  cases h with
  | cons a b => cases b; exact ⟨_, rfl, a⟩
theorem DnA.two {K : Fr0} {F : AS} {H : Hp} {xs : List V} {d e : D} (h : DnA K F H xs [d, e]) : ∃ v u, xs = [v, u] ∧ Dn K F H v d ∧ Dn K F H u e := by
  cases h with
  | cons a b =>
    obtain ⟨u, rfl, h⟩ := b.one
    exact ⟨_, u, rfl, a, h⟩
def dLen : List D → Option D
  | [.list ds] => some (.int ds.length)
  | [.tuple ds] => some (.int ds.length)
  | _ => none
theorem rc_len {K : Fr0} : RCd K (fun xs H Q => ∃ p ys, xs = [V.ref p] ∧ (SqL K H p ys ∨ SqT K H p ys) ∧ Q (.int ys.length) H) dLen := ⟨by
  intro F H xs ds z Q hx hz hf k
  unfold dLen at hz
  split at hz
  · cases hz
    obtain ⟨v, rfl, h⟩ := hx.one
    obtain ⟨a, vs, rfl, na, ha, da⟩ := h.lstInv
    exact ⟨a, vs, rfl, .inl (SqL.of ha), k _ H (fun _ _ e => e) (by rw [da.length]; exact .int _)⟩
  · cases hz
    obtain ⟨v, rfl, h⟩ := hx.one
    obtain ⟨a, vs, rfl, ha, da⟩ := h.tupInv
    exact ⟨a, vs, rfl, .inr ha, k _ H (fun _ _ e => e) (by rw [da.length]; exact .int _)⟩
  · cases hz⟩
def dAbs : List D → Option D
  | [.int i] => some (.int (if i < 0 then -i else i))
  | _ => none
theorem rc_abs {K : Fr0} : RCd K (fun xs H Q => ∃ i, xs = [V.int i] ∧ Q (.int (if i < 0 then -i else i)) H) dAbs := ⟨by
  intro F H xs ds z Q hx hz hf k
  unfold dAbs at hz
  split at hz
  · cases hz
    obtain ⟨v, rfl, h⟩ := hx.one
    cases h
    exact ⟨_, rfl, k _ H (fun _ _ e => e) (.int _)⟩
  · cases hz⟩
def dMax : List D → Option D
  | [.int i, .int j] => some (.int (if j > i then j else i))
  | _ => none
def dMin : List D → Option D
  | [.int i, .int j] => some (.int (if j < i then j else i))
  | _ => none
theorem rc_max {K : Fr0} : RCd K (fun xs H Q => ∃ i j, xs = [V.int i, V.int j] ∧ Q (.int (if j > i then j else i)) H) dMax := ⟨by
  intro F H xs ds z Q hx hz hf k
  unfold dMax at hz
  split at hz
  · cases hz
    obtain ⟨v, u, rfl, h, h'⟩ := hx.two
    cases h; cases h'
    exact ⟨_, _, rfl, k _ H (fun _ _ e => e) (.int _)⟩
  · cases hz⟩
theorem rc_min {K : Fr0} : RCd K (fun xs H Q => ∃ i j, xs = [V.int i, V.int j] ∧ Q (.int (if j < i then j else i)) H) dMin := ⟨by
  intro F H xs ds z Q hx hz hf k
  unfold dMin at hz
  split at hz
  · cases hz
    obtain ⟨v, u, rfl, h, h'⟩ := hx.two
    cases h; cases h'
    exact ⟨_, _, rfl, k _ H (fun _ _ e => e) (.int _)⟩
  · cases hz⟩
def dToInt : List D → Option D
  | [.int i] => some (.int i)
  | [.bool b] => some (.int (if b then 1 else 0))
  | _ => none
theorem rc_int {K : Fr0} : RCd K (fun xs H Q => (∃ i, xs = [V.int i] ∧ Q (.int i) H) ∨ ∃ k, xs = [V.bl k] ∧ Q (.int (if k then 1 else 0)) H) dToInt := ⟨by
  intro F H xs ds z Q hx hz hf k
  unfold dToInt at hz
  split at hz
  · cases hz
    obtain ⟨v, rfl, h⟩ := hx.one
    cases h
    exact .inl ⟨_, rfl, k _ H (fun _ _ e => e) (.int _)⟩
  · cases hz
    obtain ⟨v, rfl, h⟩ := hx.one
    cases h
    exact .inr ⟨_, rfl, k _ H (fun _ _ e => e) (.int _)⟩
  · cases hz⟩
def dToTup : List D → Option D
  | [.list ds] => some (.tuple ds)
  | [.tuple ds] => some (.tuple ds)
  | _ => none
theorem rc_tuple {K : Fr0} : RCd K (fun xs H Q => ∃ p ys, xs = [V.ref p] ∧ ((SqL K H p ys ∧ ∀ l, H l = none → Q (.ref l) (upd H l (.tup ys))) ∨ (SqT K H p ys ∧ Q (.ref p) H))) dToTup := ⟨by
  intro F H xs ds z Q hx hz hf k
  unfold dToTup at hz
  split at hz
  · cases hz
    obtain ⟨v, rfl, h⟩ := hx.one
    obtain ⟨a, vs, rfl, na, ha, da⟩ := h.lstInv
    exact ⟨a, vs, rfl, .inl ⟨SqL.of ha, fun p hp => k _ _ (upd_grow hp) (.tup (.inl ⟨hf p hp, upd_same⟩) (da.mv (mv_grow (upd_grow hp))))⟩⟩
  · cases hz
    obtain ⟨v, rfl, h⟩ := hx.one
    have h0 := h
    obtain ⟨a, vs, rfl, ha, da⟩ := h.tupInv
    exact ⟨a, vs, rfl, .inr ⟨ha, k _ H (fun _ _ e => e) h0⟩⟩
  · cases hz⟩
def bools? : List D → Option (List Bool)
  | [] => some []
  | .bool i :: ds => (bools? ds).map (i :: ·)
  | _ :: _ => none
theorem bools_of : ∀ {ds : List D} {ns : List Bool}, bools? ds = some ns → ds = ns.map PyData.bool
  | [], ns, h => by cases h; rfl
  | d :: ds, ns, h => by
    cases d <;> first
      | (unfold bools? at h
         obtain ⟨m, h1, h2⟩ := Option.map_eq_some_iff.mp h
         subst h2
         rw [bools_of h1]
         rfl)
      | (unfold bools? at h; cases h)
def dAll : List D → Option D
  | [.list ds] => (bools? ds).map fun bs => .bool (bs.all id)
  | _ => none
def dAny : List D → Option D
  | [.list ds] => (bools? ds).map fun bs => .bool (bs.any id)
  | _ => none
theorem rc_all {K : Fr0} : RCd K (rAll K) dAll := ⟨by
  intro F H xs ds z Q hx hz hf k
  unfold dAll at hz
  split at hz
  · obtain ⟨bs, h1, rfl⟩ := Option.map_eq_some_iff.mp hz
    obtain ⟨v, rfl, h⟩ := hx.one
    obtain ⟨a, vs, rfl, na, ha, da⟩ := h.lstInv
    rw [bools_of h1] at da
    have e := da.bls_inv
    subst e
    exact ⟨a, bs, rfl, SqL.of ha, k _ H (fun _ _ e => e) (.bl _)⟩
  · cases hz⟩
theorem rc_any {K : Fr0} : RCd K (rAny K) dAny := ⟨by
  intro F H xs ds z Q hx hz hf k
  unfold dAny at hz
  split at hz
  · obtain ⟨bs, h1, rfl⟩ := Option.map_eq_some_iff.mp hz
    obtain ⟨v, rfl, h⟩ := hx.one
    obtain ⟨a, vs, rfl, na, ha, da⟩ := h.lstInv
    rw [bools_of h1] at da
    have e := da.bls_inv
    subst e
    exact ⟨a, bs, rfl, SqL.of ha, k _ H (fun _ _ e => e) (.bl _)⟩
  · cases hz⟩
/-- list(xs): a new one -/
def gList (G : GA) : GA := gB G fun ds => gO (match ds with | [.list es] => some es | [.tuple es] => some es | _ => none)
theorem pdf_list {x : Str} {p pos : Pos} {e : Expr} {G : GA} (hg : Gl X x) (hm : X.mg x = none) (hv : bootBuiltins x = some (.type "list")) (ha : PDA X W [e] G) (hn : x ≠ "__name__" := by decide) (hdb : (x == ("__debug__" : Str)) = false := by decide)
    (hs : starEach [e] X.env = (false, eval e X.env) :: starEach [] X.env := by rfl) (hpl : (backTo pos (starEach [] X.env)).any (·.1) = false := by rfl) : PDF X W (.Call (.Name x p) [e] [] pos) (gList G) :=
  ⟨PE.wk (pe_callTy call_list_of hg hm hv ha.pa hn hdb hs hpl) fun σ H Q q => (tF.mk (ρ := ρA X.K) q).mono fun xs H1 z => by
    obtain ⟨ds, Wp, Fb, L, env, r, hx, R, g, k⟩ := z
    obtain ⟨es, h1, rfl⟩ := gO_some g
    split at h1
    · cases h1
      obtain ⟨v, rfl, h⟩ := hx.one
      obtain ⟨a, vs, rfl, na, ha, da⟩ := h.lstInv
      refine ⟨a, vs, rfl, .inl (SqL.of ha), fun p hp => ?_⟩
      obtain ⟨R2, m, t, ap⟩ := R.own (o := .lst vs) hp
      exact k p vs _ _ t (.inr rfl) R2 upd_same (da.mv m) ap
    · cases h1
      obtain ⟨v, rfl, h⟩ := hx.one
      obtain ⟨a, vs, rfl, ha, da⟩ := h.tupInv
      refine ⟨a, vs, rfl, .inr ha, fun p hp => ?_⟩
      obtain ⟨R2, m, t, ap⟩ := R.own (o := .lst vs) hp
      exact k p vs _ _ t (.inr rfl) R2 upd_same (da.mv m) ap
    · cases h1⟩
/-! ### isinstance -/
def tyOf : D → Option String
  | .none => some "NoneType"
  | .bool _ => some "bool"
  | .int _ => some "int"
  | .str _ => some "str"
  | .list _ => some "list"
  | .tuple _ => some "tuple"
  | .dict _ => none
theorem Dn.ty {K : Fr0} {F : AS} {H : Hp} {v : V} {d : D} {t : String} (h : Dn K F H v d) (e : tyOf d = some t) : TyX K H v (.type t) := by
  cases h with
  | non => cases e; exact .base .non
  | bl b => cases e; exact .base (.bl b)
  | int i => cases e; exact .base (.int i)
  | str x => cases e; exact .base (.str x)
  | lst n e1 r => cases e; exact .base (.lst e1)
  | tup e1 r =>
    cases e
    rcases e1 with e1 | e1
    · exact .base (.tup e1.2)
    · rcases e1 with (e1 | ⟨o, e1⟩) | ⟨o, its, n, h1, h2, _⟩
      · cases e1
      · cases e1
      · exact .kTuple h1 h2
def dIsi (c : String) (d : D) : Option D := (tyOf d).bind fun t => (kitB t c).map PyData.bool
theorem pd_isi {x y : Str} {p q pos : Pos} {a : Expr} {Ga : GE} {c : String} (hg : Gl X x) (hm : X.mg x = none) (hv : bootBuiltins x = some (.builtin "isinstance")) (hgy : Gl X y) (hmy : X.mg y = none) (hvy : bootBuiltins y = some (.type c)) (ha : PD X W a Ga)
    (hn : x ≠ "__name__" := by decide) (hdb : (x == ("__debug__" : Str)) = false := by decide) (hny : y ≠ "__name__" := by decide) (hdy : (y == ("__debug__" : Str)) = false := by decide)
    (hs : starEach [a, .Name y q] X.env = (false, eval a X.env) :: starEach [.Name y q] X.env := by rfl) (hs2 : starEach [.Name y q] X.env = (false, eval (.Name y q) X.env) :: starEach [] X.env := by rfl) (hpl : (backTo pos (starEach [.Name y q] X.env)).any (·.1) = false := by rfl) :
    PD X W (.Call (.Name x p) [a, .Name y q] [] pos) (gB Ga fun d => gO (dIsi c d)) :=
  ⟨PE.wk (pe_callB call_isi hg hm hv (pa_cons ha.pe (pa_cons (pe_bltn (v := .ty c) hgy hmy hvy rfl hny hdy) pa_nil hs2) hs) hn hdb hs hpl) fun σ H Q q => (tG.seq (ρ := ρD X.K) q).mono fun v H1 z => by
    obtain ⟨d, Wp, Fb, L, env, r, hx, R, g, k⟩ := z
    obtain ⟨es, h1, rfl⟩ := gO_some g
    obtain ⟨t, h2, h1⟩ := Option.bind_eq_some_iff.mp h1
    obtain ⟨b, h3, rfl⟩ := Option.map_eq_some_iff.mp h1
    exact ⟨v, .ty c, .type t, .type c, b, rfl, .ty c, hx.ty h2, kit_ty h3, k H1 L (Tr.refl H1 L) R _ (.bl b)⟩⟩
def dIsi2 (c1 c2 : String) (d : D) : Option D := (tyOf d).bind fun t => (kitB t c1).bind fun b1 => (kitB t c2).map fun b2 => PyData.bool (b1 || b2)
theorem pd_isi2 {x y1 y2 : Str} {p q1 q2 pos pos2 : Pos} {k2 : Nat} {a : Expr} {Ga : GE} {c1 c2 : String} (hg : Gl X x) (hm : X.mg x = none) (hv : bootBuiltins x = some (.builtin "isinstance")) (hgy : Gl X y1) (hmy : X.mg y1 = none) (hvy : bootBuiltins y1 = some (.type c1))
    (hgz : Gl X y2) (hmz : X.mg y2 = none) (hvz : bootBuiltins y2 = some (.type c2)) (ha : PD X W a Ga)
    (hn : x ≠ "__name__" := by decide) (hdb : (x == ("__debug__" : Str)) = false := by decide) (hny : y1 ≠ "__name__" := by decide) (hdy : (y1 == ("__debug__" : Str)) = false := by decide) (hnz : y2 ≠ "__name__" := by decide) (hdz : (y2 == ("__debug__" : Str)) = false := by decide)
    (hs : starEach [a, .Tuple [.Name y1 q1, .Name y2 q2] k2 pos2] X.env = (false, eval a X.env) :: starEach [.Tuple [.Name y1 q1, .Name y2 q2] k2 pos2] X.env := by rfl) (hs2 : starEach [.Tuple [.Name y1 q1, .Name y2 q2] k2 pos2] X.env = (false, eval (.Tuple [.Name y1 q1, .Name y2 q2] k2 pos2) X.env) :: starEach [] X.env := by rfl)
    (hs3 : starEach [.Name y1 q1, .Name y2 q2] X.env = (false, eval (.Name y1 q1) X.env) :: starEach [.Name y2 q2] X.env := by rfl) (hs4 : starEach [.Name y2 q2] X.env = (false, eval (.Name y2 q2) X.env) :: starEach [] X.env := by rfl)
    (hpl : (backTo pos (starEach [.Tuple [.Name y1 q1, .Name y2 q2] k2 pos2] X.env)).any (·.1) = false := by rfl) :
    PD X W (.Call (.Name x p) [a, .Tuple [.Name y1 q1, .Name y2 q2] k2 pos2] [] pos) (gB Ga fun d => gO (dIsi2 c1 c2 d)) :=
  ⟨PE.wk (pe_callB call_isiT hg hm hv (pa_cons ha.pe (pa_cons (pe_tup (pa_cons (pe_bltn (v := .ty c1) hgy hmy hvy rfl hny hdy) (pa_cons (pe_bltn (v := .ty c2) hgz hmz hvz rfl hnz hdz) pa_nil hs4) hs3)) pa_nil hs2) hs) hn hdb hs hpl) fun σ H Q q => (tG.seq (ρ := ρD X.K) q).mono fun v H1 z => by
    obtain ⟨d, Wp, Fb, L, env, r, hx, R, g, k⟩ := z
    obtain ⟨es, h1, rfl⟩ := gO_some g
    obtain ⟨t, h2, h1⟩ := Option.bind_eq_some_iff.mp h1
    obtain ⟨b1, h3, h1⟩ := Option.bind_eq_some_iff.mp h1
    obtain ⟨b2, h4, rfl⟩ := Option.map_eq_some_iff.mp h1
    refine ⟨by show 2 ≤ sizeLine; decide, fun p hp => ⟨v, p, [.ty c1, .ty c2], .type t, [.type c1, .type c2], b1 || b2, rfl, upd_same, .cons (.ty c1) (.cons (.ty c2) .nil), (hx.mv (mv_grow (upd_grow hp))).ty h2, ?_, k _ L (Tr.new hp) (R.new hp) _ (.bl _)⟩⟩
    refine kitAny_cons (kit_ty h3) (fun e => ?_) (fun e => by rw [e]; rfl)
    refine kitAny_cons (kit_ty h4) (fun e2 => ?_) (fun e2 => by rw [e, e2]; rfl)
    rw [e, e2]
    exact kitAny_nil⟩
end
end PD
namespace PD
open PySem PySem.Spec PyProof.Rows L2
section
variable {X : Cx} {W : WX}
/-! ### slices -/
structure PDO (X : Cx) (W : WX) (e : Option Expr) (G : Gm (Option Int)) : Prop where
  po : PO X e (tG (fun a b _ _ => b = a) X W G)
theorem PO.wk {X : Cx} {e : Option Expr} {t t' : TO} (h : PO X e t) (w : ∀ σ H Q, t' σ H Q → t σ H Q) : PO X e t' := ⟨fun pins s σ H Q I q => h.run pins s σ H Q I (w σ H Q q)⟩
theorem pdo_none : PDO X W none (gP none) := ⟨PO.wk po_none fun σ H Q q => by
  obtain ⟨Wp, Fb, L, env, r, R, g, k⟩ := q
  cases gP_some g
  exact k H L (Tr.refl H L) R none rfl⟩
def dPart : D → Option (Option Int)
  | .int i => some (some i)
  | _ => none
theorem pdo_some {e : Expr} {G : GE} (h : PD X W e G) : PDO X W (some e) (gB G fun d => gO (dPart d)) := ⟨PO.wk (po_some h.pe) fun σ H Q q => (tG.seq (ρ := ρD X.K) q).mono fun v H1 z => by
  obtain ⟨d, Wp, Fb, L, env, r, hx, R, g, k⟩ := z
  obtain ⟨a, h1, rfl⟩ := gO_some g
  cases d <;> simp only [dPart] at h1 <;> cases h1
  cases hx
  exact ⟨_, rfl, k H1 L (Tr.refl H1 L) R _ rfl⟩⟩
def cutD (xs : List D) (lo hi : Option Int) : List D := (xs.drop (HT.sIx xs.length 0 lo)).take (HT.sIx xs.length xs.length hi - HT.sIx xs.length 0 lo)
theorem DnA.cut {K : Fr0} {F : AS} {H : Hp} {ds : List D} {vs : List V} (h : DnA K F H vs ds) (lo hi : Option Int) : DnA K F H (cutV vs lo hi) (cutD ds lo hi) := by
  unfold cutV cutD
  rw [h.length]
  exact (h.drop _).take _
def dSl (lo hi : Option Int) : D → Option D
  | .list ds => some (.list (cutD ds lo hi))
  | .tuple ds => some (.tuple (cutD ds lo hi))
  | _ => none
def gSl (Ga : GE) (Gl Gh : Gm (Option Int)) : GE := gB Ga fun d => gB Gl fun lo => gB Gh fun hi => gO (dSl lo hi d)
theorem tG.seq3 {α β α' β' α2 β2 γ δ : Type} {ρ : Rel α β} {ρ1 : Rel α' β'} {ρ2 : Rel α2 β2} {ρ' : Rel γ δ} {Ga : Gm α} {Gb : Gm α'} {Gc : Gm α2} {f : α → α' → α2 → Gm γ} {σ : L2.St} {H : Hp} {Q : δ → Hp → Prop} (st : Stab ρ) (st1 : Stab ρ1)
    (q : tG ρ' X W (gB Ga fun a => gB Gb fun b => gB Gc (f a b)) σ H Q) :
    tG ρ X W Ga σ H fun b H1 => tG ρ1 X W Gb σ H1 fun b1 H2 => tG ρ2 X W Gc σ H2 fun b2 H3 => ∃ (a : α) (a1 : α') (a2 : α2) (Wp : L2.St) (Fb L : AS) (env : En) (r : Rs γ), ρ a b (U L Fb) H3 ∧ ρ1 a1 b1 (U L Fb) H3 ∧ ρ2 a2 b2 (U L Fb) H3 ∧
      ER X.K Wp Fb L H3 σ env ∧ f a a1 a2 env = some r ∧ Go X W Wp Fb σ H3 L r fun a H' L' => ∀ b, ρ' a b (U L' Fb) H' → Q b H' := by
  refine (tG.seq2 (ρ := ρ) (ρ1 := ρ1) (f := fun a b => gB Gc (f a b)) st q).mono fun b H1 z => z.mono fun b1 H2 z => ?_
  obtain ⟨a, a1, Wp, Fb, L, env, r, hb, hb1, R, g, k⟩ := z
  unfold gB at g
  dsimp only at g
  split at g
  · cases g
  · rename_i a2 e ha
    exact ⟨Wp, Fb, L, env, _, R, ha, fun H' L' t R' b2 hb2 => ⟨a, a1, a2, Wp, Fb, L', e, r, st _ _ _ _ _ _ t.mv hb, st1 _ _ _ _ _ _ t.mv hb1, hb2, R', g, k.from t⟩⟩
  · rename_i c fs e ha
    cases g
    exact ⟨Wp, Fb, L, env, _, R, ha, k⟩
theorem stabE {α : Type} : Stab (fun (a b : α) _ _ => b = a) := fun _ _ _ _ _ _ _ h => h
theorem pd_slice {a : Expr} {lo hi : Option Expr} {Ga : GE} {Gl Gh : Gm (Option Int)} {p2 pos : Pos} (ha : PD X W a Ga) (hl : PDO X W lo Gl) (hh : PDO X W hi Gh) : PD X W (.Subscript a (.Slice lo hi none p2) pos) (gSl Ga Gl Gh) :=
  ⟨PE.wk (pe_slice (SlR.or sl_list sl_tupA) ha.pe hl.po hh.po) fun σ H Q q => (tG.seq3 (ρ1 := fun a b _ _ => b = a) (ρ2 := fun a b _ _ => b = a) (stabD X.K) stabE q).mono fun v H1 z => z.mono fun l H2 z => z.mono fun h H3 z => by
    obtain ⟨d, lo', hi', Wp, Fb, L, env, r, hx, e1, e2, R, g, k⟩ := z
    subst e1 e2
    obtain ⟨z, h1, rfl⟩ := gO_some g
    cases d with
    | list ds =>
      cases h1
      obtain ⟨a, vs, rfl, na, ha, da⟩ := hx.lstInv
      exact .inl ⟨a, vs, rfl, SqL.of ha, fun p hp => k _ L (Tr.new hp) (R.new hp) _ (.lst (R.free hp) upd_same ((da.cut _ _).mv (mv_grow (upd_grow hp))))⟩
    | tuple ds =>
      cases h1
      have hx0 := hx
      obtain ⟨a, vs, rfl, ha, da⟩ := hx.tupInv
      refine .inr ⟨a, vs, rfl, ha, fun z => ?_, fun _ p hp => k _ L (Tr.new hp) (R.new hp) _ (.tup (.inl ⟨R.free hp, upd_same⟩) ((da.cut _ _).mv (mv_grow (upd_grow hp))))⟩
      have e : cutD ds l h = ds := by
        unfold cutD
        rw [da.length] at z
        rw [z.1, z.2, List.drop_zero, Nat.sub_zero, List.take_length]
      rw [e] at k
      exact k H3 L (Tr.refl H3 L) R _ hx0
    | _ => cases h1⟩
/-! ### truth -/
def truD : D → Option Bool
  | .none => some false
  | .bool b => some b
  | .int i => some (i != 0)
  | .list ds => some (!ds.isEmpty)
  | .tuple ds => some (!ds.isEmpty)
  | _ => none
theorem DnA.emp {K : Fr0} {F : AS} {H : Hp} {ds : List D} {vs : List V} (h : DnA K F H vs ds) : (!vs.isEmpty) = !ds.isEmpty := by
  cases h <;> rfl
theorem Dn.tru {K : Fr0} {F : AS} {H : Hp} {v : V} {d : D} {b : Bool} (h : Dn K F H v d) (e : truD d = some b) : TruV K v H b := by
  cases h with
  | non => cases e; rfl
  | bl b => cases e; rfl
  | int i => cases e; rfl
  | str x => cases e
  | lst n e1 r => cases e; exact .inl ⟨_, SqL.of e1, r.emp.symm⟩
  | tup e1 r => cases e; exact .inr (.inl ⟨_, sqt_of e1, r.emp.symm⟩)
def gAndV (Ga Gb : GE) : GE := gB Ga fun d => gB (gO (truD d)) fun b => if b = true then Gb else gP d
def gOrV (Ga Gb : GE) : GE := gB Ga fun d => gB (gO (truD d)) fun b => if b = true then gP d else Gb
theorem gB_O {α β : Type} {o : Option α} {f : α → Gm β} {env : En} {r : Rs β} (h : gB (gO o) f env = some r) : ∃ a, o = some a ∧ f a env = some r := by
  unfold gB gO at h
  cases o with
  | none => cases h
  | some a => exact ⟨a, rfl, h⟩
theorem pd_and {a b : Expr} {rest : List Expr} {Ga Gb : GE} {pos : Pos} (ha : PD X W a Ga) (hb : PD X W (.BoolOp .And (b :: rest) pos) Gb) : PD X W (.BoolOp .And (a :: b :: rest) pos) (gAndV Ga Gb) :=
  ⟨PE.wk (pe_andT ha.pe hb.pe) fun σ H Q q => (tG.seq (ρ := ρD X.K) q).mono fun v H1 z => by
    obtain ⟨d, Wp, Fb, L, env, r, hx, R, g, k⟩ := z
    obtain ⟨b, h1, g⟩ := gB_O g
    refine ⟨b, hx.tru h1, ?_⟩
    cases b with
    | true => exact ⟨Wp, Fb, L, env, r, R, g, k⟩
    | false =>
      rw [if_neg Bool.false_ne_true] at g ⊢
      cases gP_some g
      exact k H1 L (Tr.refl H1 L) R v hx⟩
theorem pd_or {a b : Expr} {rest : List Expr} {Ga Gb : GE} {pos : Pos} (ha : PD X W a Ga) (hb : PD X W (.BoolOp .Or (b :: rest) pos) Gb) : PD X W (.BoolOp .Or (a :: b :: rest) pos) (gOrV Ga Gb) :=
  ⟨PE.wk (pe_orT ha.pe hb.pe) fun σ H Q q => (tG.seq (ρ := ρD X.K) q).mono fun v H1 z => by
    obtain ⟨d, Wp, Fb, L, env, r, hx, R, g, k⟩ := z
    obtain ⟨b, h1, g⟩ := gB_O g
    refine ⟨b, hx.tru h1, ?_⟩
    cases b with
    | false => exact ⟨Wp, Fb, L, env, r, R, g, k⟩
    | true =>
      rw [if_pos rfl] at g ⊢
      cases gP_some g
      exact k H1 L (Tr.refl H1 L) R v hx⟩
theorem pd_last {op : BoolOp} {a : Expr} {G : GE} {pos : Pos} (h : PD X W a G) : PD X W (.BoolOp op [a] pos) G := ⟨pe_one h.pe⟩
def dNot : D → Option D
  | .bool b => some (.bool !b)
  | _ => none
theorem pd_not {a : Expr} {G : GE} {pos : Pos} (h : PD X W a G) : PD X W (.UnaryOp .Not a pos) (gB G fun d => gO (dNot d)) := ⟨PE.wk (pe_not h.pe) fun σ H Q q => (tG.seq (ρ := ρD X.K) q).mono fun v H1 z => by
  obtain ⟨d, Wp, Fb, L, env, r, hx, R, g, k⟩ := z
  obtain ⟨z, h1, rfl⟩ := gO_some g
  cases d <;> simp only [dNot] at h1 <;> cases h1
  cases hx
  exact ⟨_, rfl, k H1 L (Tr.refl H1 L) R _ (.bl _)⟩⟩
def dNeg : D → Option D
  | .int i => some (.int (-i))
  | _ => none
theorem pd_neg {a : Expr} {G : GE} {pos : Pos} (h : PD X W a G) : PD X W (.UnaryOp .USub a pos) (gB G fun d => gO (dNeg d)) := ⟨PE.wk (pe_un un_neg h.pe) fun σ H Q q => (tG.seq (ρ := ρD X.K) q).mono fun v H1 z => by
  obtain ⟨d, Wp, Fb, L, env, r, hx, R, g, k⟩ := z
  obtain ⟨z, h1, rfl⟩ := gO_some g
  cases d <;> simp only [dNeg] at h1 <;> cases h1
  cases hx
  exact ⟨_, rfl, k H1 L (Tr.refl H1 L) R _ (.int _)⟩⟩
def gIf {α : Type} (Gt : GT) (Ga Gb : Gm α) : Gm α := gB Gt fun b => if b = true then Ga else Gb
theorem pd_ifExp {c a b : Expr} {Gt : GT} {Ga Gb : GE} {pos : Pos} (hc : PDT X W c Gt) (ha : PD X W a Ga) (hb : PD X W b Gb) : PD X W (.IfExp c a b pos) (gIf Gt Ga Gb) :=
  ⟨PE.wk (pe_ifExp hc.pt ha.pe hb.pe) fun σ H Q q => (tG.seq (ρ := ρB) q).mono fun v H1 z => by
    obtain ⟨d, Wp, Fb, L, env, r, hx, R, g, k⟩ := z
    subst hx
    cases v with
    | true => exact ⟨Wp, Fb, L, env, r, R, g, k⟩
    | false => exact ⟨Wp, Fb, L, env, r, R, g, k⟩⟩
/-! ### tests -/
def gTru (G : GE) : GT := gB G fun d => gO (truD d)
theorem pdt_val {a : Expr} {G : GE} (h : PD X W a G) (he : ∀ whole, isTrue a X.env whole = (do let v ← whole; standAt a.pos; holding [v] (truthy v)) := by intro _; rfl) : PDT X W a (gTru G) :=
  ⟨PT.wk (pt_truth h.pe he) fun σ H Q q => (tG.seq (ρ := ρD X.K) q).mono fun v H1 z => by
    obtain ⟨d, Wp, Fb, L, env, r, hx, R, g, k⟩ := z
    obtain ⟨b, h1, rfl⟩ := gO_some g
    exact ⟨b, hx.tru h1, k H1 L (Tr.refl H1 L) R _ rfl⟩⟩
def gBool (G : GE) : GT := gB G fun d => gO (match d with | .bool b => some b | _ => none)
theorem pdt_cmp {op : CmpOp} {φ : D → D → Option D} {a b : Expr} {Ga Gb : GE} {pos : Pos} (c : CD X op b φ) (ha : PD X W a Ga) (hb : PD X W b Gb) : PDT X W (.Compare a [op] [b] pos) (gBool (gOp φ Ga Gb)) := by
  obtain ⟨r, ho, hr, hm⟩ := c.ex
  refine ⟨PT.wk (pt_cmpR ho ha.pe hb.pe hm) fun σ H Q q => tOp_of hr ((tG.seq (ρ := ρD X.K) q).mono fun v H1 z => ?_)⟩
  obtain ⟨d, Wp, Fb, L, env, r, hx, R, g, k⟩ := z
  obtain ⟨b, h1, rfl⟩ := gO_some g
  split at h1
  · cases h1
    cases hx
    exact ⟨_, rfl, k H1 L (Tr.refl H1 L) R _ rfl⟩
  · cases h1
structure PDW (X : Cx) (W : WX) (e : Expr) (G : GT) : Prop where
  pw : PW X e (tT X W G)
theorem PDW.t {e : Expr} {G : GT} (h : PDW X W e G) : PDT X W e G := ⟨h.pw.pt⟩
def gAnd (Ga Gb : GT) : GT := gB Ga fun b => if b = true then Gb else gP false
def gOr (Ga Gb : GT) : GT := gB Ga fun b => if b = true then gP true else Gb
theorem pdw_and {a b : Expr} {rest : List Expr} {Ga Gb : GT} {pos : Pos} (ha : PDT X W a Ga) (hb : PDW X W (.BoolOp .And (b :: rest) pos) Gb) : PDW X W (.BoolOp .And (a :: b :: rest) pos) (gAnd Ga Gb) :=
  ⟨PW.wk (pw_and ha.pt hb.pw) fun σ H Q q => (tG.seq (ρ := ρB) q).mono fun v H1 z => by
    obtain ⟨d, Wp, Fb, L, env, r, hx, R, g, k⟩ := z
    subst hx
    cases v with
    | true => exact ⟨Wp, Fb, L, env, r, R, g, k⟩
    | false =>
      have g : gP false env = some r := g
      show Q false H1
      cases gP_some g
      exact k H1 L (Tr.refl H1 L) R _ rfl⟩
theorem pdw_or {a b : Expr} {rest : List Expr} {Ga Gb : GT} {pos : Pos} (ha : PDT X W a Ga) (hb : PDW X W (.BoolOp .Or (b :: rest) pos) Gb) : PDW X W (.BoolOp .Or (a :: b :: rest) pos) (gOr Ga Gb) :=
  ⟨PW.wk (pw_or ha.pt hb.pw) fun σ H Q q => (tG.seq (ρ := ρB) q).mono fun v H1 z => by
    obtain ⟨d, Wp, Fb, L, env, r, hx, R, g, k⟩ := z
    subst hx
    cases v with
    | false => exact ⟨Wp, Fb, L, env, r, R, g, k⟩
    | true =>
      have g : gP true env = some r := g
      show Q true H1
      cases gP_some g
      exact k H1 L (Tr.refl H1 L) R _ rfl⟩
theorem pdw_and1 {a : Expr} {Ga : GT} {pos : Pos} (ha : PDT X W a Ga) : PDW X W (.BoolOp .And [a] pos) Ga := ⟨pw_and1 ha.pt⟩
theorem pdw_or1 {a : Expr} {Ga : GT} {pos : Pos} (ha : PDT X W a Ga) : PDW X W (.BoolOp .Or [a] pos) Ga := ⟨pw_or1 ha.pt⟩
theorem pdt_not {a : Expr} {Ga : GT} {pos : Pos} (ha : PDT X W a Ga) : PDT X W (.UnaryOp .Not a pos) (gB Ga fun b => gP !b) := ⟨PT.wk (pt_not ha.pt) fun σ H Q q => (tG.seq (ρ := ρB) q).mono fun v H1 z => by
  obtain ⟨d, Wp, Fb, L, env, r, hx, R, g, k⟩ := z
  subst hx
  cases gP_some g
  exact k H1 L (Tr.refl H1 L) R _ rfl⟩
/-! ### a name looked at where it stands -/
/-- what a slot holds, its list not told on -/
def peek (env : En) (i : Nat) : Option D := match env[i]? with
  | some (.im d) => some d
  | some (.mu _ ds) => some (.list ds)
  | _ => none
/-- a list that is read, whoever owns it -/
theorem ER.peek {K : Fr0} {Wp σ : L2.St} {Fb L : AS} {H : Hp} {env : En} (R : ER K Wp Fb L H σ env) {i : Nat} {d : D} (h : peek env i = some d) : ∃ v, σ[i]? = some (some v) ∧
    (Dn K (U L Fb) H v d ∨ ∃ a vs ds, v = .ref a ∧ d = .list ds ∧ H a = some (.lst vs) ∧ DnA K (U L Fb) H vs ds) := by
  unfold PD.peek at h
  split at h
  · rename_i d0 he
    cases h
    obtain ⟨v, e1, h1⟩ := R.sl i _ he
    exact ⟨v, e1, .inl h1⟩
  · rename_i b ds he
    cases h
    obtain ⟨a, vs, e1, l, h1, h2, _⟩ := R.sl i _ he
    exact ⟨_, e1, .inr ⟨a, vs, ds, rfl, rfl, h1, h2⟩⟩
  · cases h
/-- the same, for a list or a tuple -/
theorem ER.peekS {K : Fr0} {Wp σ : L2.St} {Fb L : AS} {H : Hp} {env : En} (R : ER K Wp Fb L H σ env) {i : Nat} {ds : List D} (h : PD.peek env i = some (.list ds) ∨ PD.peek env i = some (.tuple ds)) :
    ∃ a vs, σ[i]? = some (some (.ref a)) ∧ (SqL K H a vs ∨ SqT K H a vs) ∧ DnA K (U L Fb) H vs ds ∧ (PD.peek env i = some (.list ds) → SqL K H a vs) ∧ (PD.peek env i = some (.tuple ds) → SqT K H a vs) := by
  rcases h with h | h
  · obtain ⟨v, e, q⟩ := R.peek h
    rcases q with q | ⟨a, vs, es, rfl, e2, h1, h2⟩
    · obtain ⟨a, vs, rfl, na, ha, da⟩ := q.lstInv
      exact ⟨a, vs, e, .inl (SqL.of ha), da, fun _ => SqL.of ha, fun z => by rw [h] at z; cases z⟩
    · cases e2
      exact ⟨a, vs, e, .inl (SqL.of h1), h2, fun _ => SqL.of h1, fun z => by rw [h] at z; cases z⟩
  · obtain ⟨v, e, q⟩ := R.peek h
    rcases q with q | ⟨a, vs, es, rfl, e2, h1, h2⟩
    · obtain ⟨a, vs, rfl, ha, da⟩ := q.tupInv
      exact ⟨a, vs, e, .inr ha, da, (fun z => by rw [h] at z; cases z), fun _ => ha⟩
    · cases e2
def gLenN (i : Nat) : GE := fun env => match PD.peek env i with
  | some (.list ds) => some (.ok (.int ds.length) env)
  | some (.tuple ds) => some (.ok (.int ds.length) env)
  | _ => none
theorem pd_lenN {i : Nat} {x y : Str} {p q pos : Pos} (h : PE X (.Name y q) (tVar i)) (hg : Gl X x) (hm : X.mg x = none) (hv : bootBuiltins x = some (.builtin "len")) (hn : x ≠ "__name__" := by decide) (hdb : (x == ("__debug__" : Str)) = false := by decide)
    (hs : starEach [.Name y q] X.env = (false, eval (.Name y q) X.env) :: starEach [] X.env := by rfl) (hpl : (backTo pos (starEach [] X.env)).any (·.1) = false := by rfl) : PD X W (.Call (.Name x p) [.Name y q] [] pos) (gLenN i) :=
  ⟨PE.wk (pe_callB call_len_seq hg hm hv (pa_cons h pa_nil hs) hn hdb hs hpl) fun σ H Q q => by
    obtain ⟨Wp, Fb, L, env, r, R, g, k⟩ := q
    unfold gLenN at g
    split at g
    · rename_i ds he
      cases g
      obtain ⟨a, vs, e1, sq, da, _⟩ := R.peekS (.inl he)
      exact ⟨_, e1, a, vs, rfl, sq, k H L (Tr.refl H L) R _ (by rw [da.length]; exact .int _)⟩
    · rename_i ds he
      cases g
      obtain ⟨a, vs, e1, sq, da, _⟩ := R.peekS (.inr he)
      exact ⟨_, e1, a, vs, rfl, sq, k H L (Tr.refl H L) R _ (by rw [da.length]; exact .int _)⟩
    · cases g⟩
def gAtN (i : Nat) (Gb : GE) : GE := gB Gb fun z => fun env => match PD.peek env i with
  | some d => (dIx d z).map fun y => .ok y env
  | none => none
theorem tG.named {α β γ δ : Type} {ρ : Rel α β} {ρ' : Rel γ δ} {Ga : Gm α} {f : α → Gm γ} {σ : L2.St} {H : Hp} {Q : δ → Hp → Prop} {i : Nat} (hex : ∀ env r, Ga env = some r → ∃ d, PD.peek env i = some d) (q : tG ρ' X W (gB Ga f) σ H Q) : ∃ v, σ[i]? = some (some v) ∧ tG ρ X W Ga σ H (Nxt ρ ρ' X W f σ Q) := by
  have q2 := tG.seq (ρ := ρ) q
  obtain ⟨Wp, Fb, L, env, r, R, g, k⟩ := id q2
  obtain ⟨d, hd⟩ := hex env r g
  obtain ⟨v, e, _⟩ := R.peek hd
  exact ⟨v, e, q2⟩
/-- the name has a value at the start -/
def gHas {α : Type} (i : Nat) (G : Gm α) : Gm α := fun env => match PD.peek env i with
  | some _ => G env
  | none => none
theorem gHas_of {α : Type} {i : Nat} {G : Gm α} {env : En} {r : Rs α} (h : gHas i G env = some r) : (∃ d, PD.peek env i = some d) ∧ G env = some r := by
  unfold gHas at h
  split at h
  · rename_i d hd; exact ⟨⟨d, hd⟩, h⟩
  · cases h
theorem pd_atN {i : Nat} {y : Str} {q pos : Pos} {b : Expr} {Gb : GE} (h : PE X (.Name y q) (tVar i)) (hb : PD X W b Gb) (hs : PlainIx b := by intros; rfl) : PD X W (.Subscript (.Name y q) b pos) (gHas i (gAtN i Gb)) :=
  ⟨PE.wk (pe_ix ix_seq h hb.pe hs) fun σ H Q q => by
    obtain ⟨Wp, Fb, L, env, r, R, g, k⟩ := q
    obtain ⟨⟨d0, hd0⟩, g⟩ := gHas_of g
    obtain ⟨v0, e0, _⟩ := R.peek hd0
    refine ⟨v0, e0, (tG.seq (ρ := ρD X.K) (ρ' := ρD X.K) (W := W) ⟨Wp, Fb, L, env, r, R, g, k⟩).mono fun v H1 z => ?_⟩
    obtain ⟨d, Wp, Fb, L, env, r, hx, R, g, k⟩ := z
    dsimp only at g
    split at g
    · rename_i d1 hd1
      obtain ⟨y, h1, rfl⟩ := Option.map_eq_some_iff.mp g
      have sq : ∃ ds, d1 = .list ds ∨ d1 = .tuple ds := by
        cases d1 <;> first | exact ⟨_, .inl rfl⟩ | exact ⟨_, .inr rfl⟩ | (unfold dIx at h1; cases h1)
      obtain ⟨ds, sq⟩ := sq
      rcases sq with sq | sq
      · subst sq
        obtain ⟨a, vs, e1, _, da, sl, _⟩ := R.peekS (.inl hd1)
        rw [e0] at e1
        cases e1
        cases d <;> simp only [dIx] at h1 <;> first | cases h1 | skip
        cases hx
        obtain ⟨w, h2, h3⟩ := da.at h1
        exact .inl ⟨a, vs, _, w, rfl, rfl, sl hd1, h2, k H1 L (Tr.refl H1 L) R w h3⟩
      · subst sq
        obtain ⟨a, vs, e1, _, da, _, st⟩ := R.peekS (.inr hd1)
        rw [e0] at e1
        cases e1
        cases d <;> simp only [dIx] at h1 <;> first | cases h1 | skip
        cases hx
        obtain ⟨w, h2, h3⟩ := da.at h1
        exact .inr (.inl ⟨a, vs, _, w, rfl, rfl, st hd1, h2, k H1 L (Tr.refl H1 L) R w h3⟩)
    · cases g⟩
def gInN (neg : Bool) (Ga : GE) (i : Nat) : GE := gB Ga fun z => fun env => match PD.peek env i with
  | some d => (dIn neg z d).map fun y => .ok y env
  | none => none
end
end PD
namespace PD
open PySem PySem.Spec PyProof.Rows L2
section
variable {X : Cx} {W : WX}
theorem pd_inN {neg : Bool} {op : CmpOp} {i : Nat} {y : Str} {q pos : Pos} {a : Expr} {Ga : GE} (ho : OpR X (compareOp op) (rIn X.K neg)) (ha : PD X W a Ga) (h : PE X (.Name y q) (tVar i)) (hm : behindInMarks op (.Name y q) = false) : PD X W (.Compare a [op] [.Name y q] pos) (gInN neg Ga i) :=
  ⟨PE.wk (pe_cmpR ho ha.pe h hm) fun σ H Q q => (tG.seq (ρ := ρD X.K) q).mono fun v H1 z => by
    obtain ⟨d, Wp, Fb, L, env, r, hx, R, g, k⟩ := z
    dsimp only at g
    split at g
    · rename_i d1 hd1
      obtain ⟨y, h1, rfl⟩ := Option.map_eq_some_iff.mp g
      obtain ⟨v1, e1, q1⟩ := R.peek hd1
      refine ⟨v1, e1, ?_⟩
      rcases q1 with q1 | ⟨a1, vs, ds, rfl, rfl, h2, h3⟩
      · exact (rd_in neg).go hx q1 h1 (fun p hp => R.free hp) fun v' H' gr dn => k H' L (grow_tr gr) (R.grow gr) v' dn
      · cases d <;> simp only [dIn] at h1 <;> first | cases h1 | skip
        obtain ⟨ns, h4, rfl⟩ := Option.map_eq_some_iff.mp h1
        cases hx
        rw [ints_of h4] at h3
        have e := h3.ints_inv
        subst e
        refine ⟨a1, _, rfl, .inl (SqL.of h2), rfl, flat_ints ns, ?_⟩
        rw [inV_ints]
        refine k H1 L (Tr.refl H1 L) R _ ?_
        cases neg <;> simpa using Dn.bl _
    · cases g⟩
/-! ### what is walked -/
/-- J gives the items, whatever else is done meanwhile -/
def Wk (K : Fr0) (Fb : AS) (J : It) (L : AS) (H : Hp) (items : List D) : Prop := ∀ (Fb' L2 : AS) H2, (∀ a, Fb' a → Fb a ∨ H a = none) → Tr H L H2 L2 → (∀ a, U L2 Fb' a → ∃ o, H2 a = some o) →
  (∀ (i : Nat) (d : D), items[i]? = some d → J.go i H2 ∧ ∀ x H3, J.yld i H2 x H3 → (∀ a o, H2 a = some o → H3 a = some o) ∧ Dn K (U L2 Fb') H3 x d) ∧ J.stop items.length H2
def tI (X : Cx) (W : WX) (G : GA) : TI := fun σ H R => ∃ (Wp : L2.St) (Fb L : AS) (env : En) (r : Rs (List D)), ER X.K Wp Fb L H σ env ∧ G env = some r ∧ Go X W Wp Fb σ H L r fun items H' L' => ∀ J, Wk X.K Fb J L' H' items → R J H'
structure PDI (X : Cx) (W : WX) (tg iter : Expr) (G : GA) : Prop where
  pi : PI X tg iter (tI X W G)
theorem PI.wk {tg e : Expr} {t t' : TI} (h : PI X tg e t) (w : ∀ σ H R, t' σ H R → t σ H R) : PI X tg e t' := ⟨fun pins s σ H R I q => h.run pins s σ H R I (w σ H R q)⟩
theorem wk_of {K : Fr0} {Fb L : AS} {J : It} {H : Hp} {items : List D} {n : Nat} {P : Hp → Prop} {Y : Nat → Hp → V → Hp → Prop} (w : Walk J n P Y) (hn : n = items.length) (hP : ∀ L2 H2, Tr H L H2 L2 → P H2)
    (hY : ∀ (Fb' L2 : AS) H2, Mv (U L Fb) H (U L2 Fb') H2 → (∀ p, H2 p = none → ¬ U L2 Fb' p) → ∀ (i : Nat) (d : D) x H3, items[i]? = some d → Y i H2 x H3 → (∀ a o, H2 a = some o → H3 a = some o) ∧ Dn K (U L2 Fb') H3 x d) : Wk K Fb J L H items := fun Fb' L2 H2 nb t tr => by
  subst hn
  have fr : ∀ p, H2 p = none → ¬ U L2 Fb' p := fun p hp z => by
    obtain ⟨o, e⟩ := tr p z
    rw [hp] at e; cases e
  have m : Mv (U L Fb) H (U L2 Fb') H2 := fun a o n e => by
    obtain ⟨e1, n1⟩ := t a o e fun z => n (.inl z)
    refine ⟨fun z => z.elim n1 fun z => ?_, e1⟩
    rcases nb a z with q | q
    · exact n (.inr q)
    · rw [e] at q; cases q
  refine ⟨fun i d hd => ?_, w.stops H2 (hP L2 H2 t)⟩
  have hi : i < items.length := (List.getElem?_eq_some_iff.mp hd).1
  exact ⟨w.goes i H2 hi (hP L2 H2 t), fun x H3 y => hY Fb' L2 H2 m fr i d x H3 hd (w.yields i H2 x H3 hi (hP L2 H2 t) y)⟩
def gSeqOf (G : GE) : GA := gB G fun d => gO (match d with | .list ds => some ds | .tuple ds => some ds | _ => none)
theorem sqt_keep {K : Fr0} {L L2 Fb : AS} {H H2 : Hp} {a : Addr} {xs : List V} (e : (¬ U L Fb a ∧ H a = some (.tup xs)) ∨ SqT K (fun _ => Option.none) a xs) (t : Tr H L H2 L2) : SqT K H2 a xs :=
  sqt_of (F := fun _ => False) (e.imp (fun z => ⟨id, (t a _ z.2 fun w => z.1 (.inl w)).1⟩) id)
theorem pdi_seq {tg e : Expr} {G : GE} (h : PD X W e G) : PDI X W tg e (gSeqOf G) := ⟨⟨fun pins s σ H R I q => by
  obtain ⟨Wp, Fb, L, env, r, R0, g, k⟩ := q
  unfold gSeqOf gB at g
  split at g
  · cases g
  · rename_i d e1 hd
    obtain ⟨ds, h1, rfl⟩ := gO_some g
    split at h1
    · cases h1
      refine (pi_list h.pe).run pins s σ H R I ⟨Wp, Fb, L, env, _, R0, hd, fun H1 L1 t1 R1 v hv => ?_⟩
      obtain ⟨a, vs, rfl, na, ha, da⟩ := hv.lstInv
      refine ⟨a, rfl, ⟨vs, SqL.of ha⟩, k H1 L1 t1 R1 _ (wk_of (walk_list (xs := vs)) da.length (fun L2 H2 t => SqL.of (t a _ ha fun z => na (.inl z)).1) fun Fb' L2 H2 m fr i d x H3 hd y => ?_)⟩
      obtain ⟨rfl, hx⟩ := y
      obtain ⟨d', h2, h3⟩ := da.getV hx
      rw [hd] at h2; cases h2
      exact ⟨fun _ _ e => e, h3.mv m⟩
    · cases h1
      refine (pi_tup h.pe).run pins s σ H R I ⟨Wp, Fb, L, env, _, R0, hd, fun H1 L1 t1 R1 v hv => ?_⟩
      cases hv with
      | tup ha da =>
        rename_i a vs
        refine ⟨a, rfl, ⟨vs, sqt_of ha⟩, k H1 L1 t1 R1 _ (wk_of (walk_tup (xs := vs)) da.length (fun L2 H2 t => sqt_keep ha t) fun Fb' L2 H2 m fr i d x H3 hd y => ?_)⟩
        obtain ⟨rfl, hx⟩ := y
        obtain ⟨d', h2, h3⟩ := da.getV hx
        rw [hd] at h2; cases h2
        exact ⟨fun _ _ e => e, h3.mv m⟩
    · cases h1
  · rename_i c fs e1 hd
    cases g
    exact (pi_list h.pe).run pins s σ H R I ⟨Wp, Fb, L, env, _, R0, hd, k⟩⟩⟩
def upto (lo : Int) (c : Int) (n : Nat) : List D := (List.range n).map fun (i : Nat) => .int (lo + (i : Int) * c)
theorem upto_length (lo c : Int) (n : Nat) : (upto lo c n).length = n := by simp [upto]
theorem upto_get {lo c : Int} {n i : Nat} {d : D} (h : (upto lo c n)[i]? = some d) : d = .int (lo + (i : Int) * c) := by
  unfold upto at h
  rw [List.getElem?_map] at h
  obtain ⟨j, h1, h2⟩ := Option.map_eq_some_iff.mp h
  rw [List.getElem?_range (by
    have := (List.getElem?_eq_some_iff.mp h1).1
    simpa using this)] at h1
  cases h1
  exact h2.symm
def bRg (i : Int) : Bool := decide (-1000000 ≤ i) && decide (i ≤ 1000000)
theorem bRg_ok {i : Int} (h : bRg i = true) : -(2 ^ 62) ≤ i ∧ i < 2 ^ 62 := by
  unfold bRg at h
  simp only [Bool.and_eq_true, decide_eq_true_eq] at h
  omega
def dRange1 : List D → Option (List D)
  | [.int j] => if bRg j = true then some (upto 0 1 j.toNat) else none
  | _ => none
def dRange2 : List D → Option (List D)
  | [.int i, .int j] => if (bRg i && bRg j) = true then some (upto i 1 (j - i).toNat) else none
  | _ => none
def dRange3 : List D → Option (List D)
  | [.int i, .int j, .int c] => if (bRg i && bRg j && decide (c = -1)) = true then some (upto i (-1) (i - j).toNat) else none
  | _ => none
theorem wk_range {K : Fr0} {Fb L : AS} {H : Hp} {lo : Int} {n : Nat} : Wk K Fb (Itr lo n) L H (upto lo 1 n) := wk_of walk_range (upto_length _ _ _).symm (fun _ _ _ => trivial) fun Fb' L2 H2 m fr i d x H3 hd y => by
  obtain ⟨rfl, rfl⟩ := y
  rw [upto_get hd, Int.mul_one]
  exact ⟨fun _ _ e => e, .int _⟩
theorem wk_rangeC {K : Fr0} {Fb L : AS} {H : Hp} {lo c : Int} {n : Nat} : Wk K Fb (Itc lo c n) L H (upto lo c n) := wk_of walk_rangeC (upto_length _ _ _).symm (fun _ _ _ => trivial) fun Fb' L2 H2 m fr i d x H3 hd y => by
  obtain ⟨rfl, rfl⟩ := y
  rw [upto_get hd]
  exact ⟨fun _ _ e => e, .int _⟩
theorem tI.seq {α β : Type} {ρ : Rel α β} {G : Gm α} {f : α → GA} {σ : L2.St} {H : Hp} {R : It → Hp → Prop} (q : tI X W (gB G f) σ H R) : tG ρ X W G σ H fun b H1 => ∃ (a : α) (Wp : L2.St) (Fb L : AS) (env : En) (r : Rs (List D)), ρ a b (U L Fb) H1 ∧ ER X.K Wp Fb L H1 σ env ∧ f a env = some r ∧
    Go X W Wp Fb σ H1 L r fun items H' L' => ∀ J, Wk X.K Fb J L' H' items → R J H' := by
  obtain ⟨Wp, Fb, L, env, r, R0, g, k⟩ := q
  unfold gB at g
  split at g
  · cases g
  · rename_i a e hg
    exact ⟨Wp, Fb, L, env, _, R0, hg, fun H1 L1 t1 R1 b hb => ⟨a, Wp, Fb, L1, e, r, hb, R1, g, k.from t1⟩⟩
  · rename_i c fs e hg
    cases g
    exact ⟨Wp, Fb, L, env, _, R0, hg, k⟩
section
variable {tg a b c : Expr} {G : GA} {p pos : Pos}
theorem pdi_range1 (hg : Gl X "range") (hm : X.mg "range" = none) (ha : PDA X W [a] G) (hs : starEach [a] X.env = [(false, eval a X.env)] := by rfl) : PDI X W tg (.Call (.Name "range" p) [a] [] pos) (gB G fun ds => gO (dRange1 ds)) :=
  ⟨PI.wk (pi_range1 hg hm ha.pa hs) fun σ H R q => (tI.seq (ρ := ρA X.K) q).mono fun v H1 z => by
    obtain ⟨ds, Wp, Fb, L, env, r, hx, R0, g, k⟩ := z
    obtain ⟨items, h1, rfl⟩ := gO_some g
    unfold dRange1 at h1
    split at h1
    · split at h1
      · rename_i hb
        cases h1
        obtain ⟨v, rfl, h⟩ := hx.one
        cases h
        exact ⟨_, rfl, (bRg_ok hb).1, (bRg_ok hb).2, k H1 L (Tr.refl H1 L) R0 _ wk_range⟩
      · cases h1
    · cases h1⟩
theorem pdi_range2 (hg : Gl X "range") (hm : X.mg "range" = none) (ha : PDA X W [a, b] G) (hs : starEach [a, b] X.env = [(false, eval a X.env), (false, eval b X.env)] := by rfl) (hs2 : starEach [b] X.env = [(false, eval b X.env)] := by rfl) :
    PDI X W tg (.Call (.Name "range" p) [a, b] [] pos) (gB G fun ds => gO (dRange2 ds)) :=
  ⟨PI.wk (pi_range2 hg hm ha.pa hs hs2) fun σ H R q => (tI.seq (ρ := ρA X.K) q).mono fun v H1 z => by
    obtain ⟨ds, Wp, Fb, L, env, r, hx, R0, g, k⟩ := z
    obtain ⟨items, h1, rfl⟩ := gO_some g
    unfold dRange2 at h1
    split at h1
    · split at h1
      · rename_i hb
        cases h1
        rw [Bool.and_eq_true] at hb
        obtain ⟨v, u, rfl, h, h'⟩ := hx.two
        cases h; cases h'
        exact ⟨_, _, rfl, ⟨(bRg_ok hb.1).1, (bRg_ok hb.1).2, (bRg_ok hb.2).1, (bRg_ok hb.2).2⟩, k H1 L (Tr.refl H1 L) R0 _ wk_range⟩
      · cases h1
    · cases h1⟩
theorem pdi_range3 (hg : Gl X "range") (hm : X.mg "range" = none) (ha : PDA X W [a, b, c] G) (hs : starEach [a, b, c] X.env = (false, eval a X.env) :: starEach [b, c] X.env := by rfl) (hpl : (backTo pos (starEach [b, c] X.env)).any (·.1) = false := by rfl) :
    PDI X W tg (.Call (.Name "range" p) [a, b, c] [] pos) (gB G fun ds => gO (dRange3 ds)) :=
  ⟨PI.wk (pi_range3 hg hm ha.pa hs hpl) fun σ H R q => (tI.seq (ρ := ρA X.K) q).mono fun v H1 z => by
    obtain ⟨ds, Wp, Fb, L, env, r, hx, R0, g, k⟩ := z
    obtain ⟨items, h1, rfl⟩ := gO_some g
    unfold dRange3 at h1
    split at h1
    · split at h1
      · rename_i hb
        cases h1
        rw [Bool.and_eq_true, Bool.and_eq_true] at hb
        cases hx with
        | cons h hx =>
          obtain ⟨v, u, rfl, h', h''⟩ := hx.two
          cases h; cases h'; cases h''
          have hc := of_decide_eq_true hb.2
          subst hc
          exact ⟨_, _, _, _, rfl, RgC.neg (bRg_ok hb.1.1).1 (bRg_ok hb.1.1).2 (bRg_ok hb.1.2).1 (bRg_ok hb.1.2).2, k H1 L (Tr.refl H1 L) R0 _ wk_rangeC⟩
      · cases h1
    · cases h1⟩
end
/-! ### zip -/
def pairs : List D → List D → List D
  | x :: xs, y :: ys => .tuple [x, y] :: pairs xs ys
  | _, _ => []
theorem pairs_length : ∀ xs ys : List D, (pairs xs ys).length = min xs.length ys.length
  | [], ys => by simp [pairs]
  | x :: xs, [] => by simp [pairs]
  | x :: xs, y :: ys => by
    show (pairs xs ys).length + 1 = min (xs.length + 1) (ys.length + 1)
    rw [pairs_length xs ys]
    omega
theorem pairs_get : ∀ {xs ys : List D} {i : Nat} {d : D}, (pairs xs ys)[i]? = some d → ∃ x y, xs[i]? = some x ∧ ys[i]? = some y ∧ d = .tuple [x, y]
  | [], ys, i, d, h => by simp [pairs] at h
  | x :: xs, [], i, d, h => by simp [pairs] at h
  | x :: xs, y :: ys, 0, d, h => by
    have e : PyData.tuple [x, y] = d := Option.some.inj h
    exact ⟨x, y, rfl, rfl, e.symm⟩
  | x :: xs, y :: ys, i + 1, d, h => pairs_get (xs := xs) (ys := ys) (i := i) h
def dZip : List D → Option (List D)
  | [.list xs, .list ys] => some (pairs xs ys)
  | [.tuple xs, .tuple ys] => some (pairs xs ys)
  | _ => none
theorem walk_zipT {K : Fr0} {a b : Addr} {xs ys : List V} {n : Nat} (hn : n = min xs.length ys.length) : Walk (RZ.ItzT K a b) n (fun H => SqT K H a xs ∧ SqT K H b ys) (YPair (fun i => xs[i]?) (fun i => ys[i]?)) := by
  subst hn
  refine ⟨fun i H hi q => ⟨xs, ys, xs[i]'(by omega), ys[i]'(by omega), q.1, q.2, List.getElem?_eq_getElem _, List.getElem?_eq_getElem _⟩, fun H q => ⟨xs, ys, q.1, q.2, by omega⟩, fun i H x H' hi q y => ?_⟩
  obtain ⟨T, x1, y1, e1, e2, e3, h1, h2⟩ := y
  exact ⟨T, x1, y1, e1, e2, e3, h1 xs q.1, h2 ys q.2⟩
theorem pair_dn {K : Fr0} {L2 Fb : AS} {H2 : Hp} {H3 : Hp} {x : V} {i : Nat} {xs ys : List V} {ds es : List D} {d : D} (fr : ∀ p, H2 p = none → ¬ U L2 Fb p) (hd : (pairs ds es)[i]? = some d) (y : YPair (fun i => xs[i]?) (fun i => ys[i]?) i H2 x H3)
    (da : DnA K (U L2 Fb) H2 xs ds) (db : DnA K (U L2 Fb) H2 ys es) : (∀ a o, H2 a = some o → H3 a = some o) ∧ Dn K (U L2 Fb) H3 x d := by
  obtain ⟨T, x1, y1, rfl, hT, rfl, h1, h2⟩ := y
  obtain ⟨d1, d2, h3, h4, rfl⟩ := pairs_get hd
  obtain ⟨d1', h5, h6⟩ := da.getV h1
  obtain ⟨d2', h7, h8⟩ := db.getV h2
  rw [h3] at h5; cases h5
  rw [h4] at h7; cases h7
  exact ⟨upd_grow hT, .tup (.inl ⟨fr T hT, upd_same⟩) (.cons (h6.mv (mv_grow (upd_grow hT))) (.cons (h8.mv (mv_grow (upd_grow hT))) .nil))⟩
theorem pdi_zip {a b : Expr} {elts : List Expr} {kk : Nat} {tpos p pos : Pos} {G : GA} (hg : Gl X "zip") (hm : X.mg "zip" = none) (ha : PDA X W [a, b] G)
    (hs : starEach [a, b] X.env = (false, eval a X.env) :: starEach [b] X.env := by rfl) (hpl : (backTo pos (starEach [b] X.env)).any (·.1) = false := by rfl) :
    PDI X W (.Tuple elts kk tpos) (.Call (.Name "zip" p) [a, b] [] pos) (gB G fun ds => gO (dZip ds)) :=
  ⟨PI.wk (RZ.pi_zipA hg hm ha.pa hs hpl) fun σ H R q => (tI.seq (ρ := ρA X.K) q).mono fun v H1 z => by
    obtain ⟨ds, Wp, Fb, L, env, r, hx, R0, g, k⟩ := z
    obtain ⟨items, h1, rfl⟩ := gO_some g
    unfold dZip at h1
    split at h1
    · cases h1
      obtain ⟨v, u, rfl, h, h'⟩ := hx.two
      obtain ⟨a, vs, rfl, na, ha, da⟩ := h.lstInv
      obtain ⟨b, ws, rfl, nb, hb, db⟩ := h'.lstInv
      refine ⟨a, b, vs, ws, rfl, .inl ⟨SqL.of ha, SqL.of hb, k H1 L (Tr.refl H1 L) R0 _ (wk_of (walk_zip (xs := vs) (ys := ws) rfl) (by rw [pairs_length, da.length, db.length]) (fun L2 H2 t => ⟨SqL.of (t a _ ha fun z => na (.inl z)).1, SqL.of (t b _ hb fun z => nb (.inl z)).1⟩) fun Fb' L2 H2 m fr i d x H3 hd y => pair_dn fr hd y (da.mv m) (db.mv m))⟩⟩
    · cases h1
      obtain ⟨v, u, rfl, h, h'⟩ := hx.two
      cases h with
      | tup ha da =>
        cases h' with
        | tup hb db =>
          rename_i a vs b ws
          refine ⟨a, b, vs, ws, rfl, .inr ⟨sqt_of ha, sqt_of hb, k H1 L (Tr.refl H1 L) R0 _ (wk_of (walk_zipT (xs := vs) (ys := ws) rfl) (by rw [pairs_length, da.length, db.length]) (fun L2 H2 t => ⟨sqt_keep ha t, sqt_keep hb t⟩) fun Fb' L2 H2 m fr i d x H3 hd y => pair_dn fr hd y (da.mv m) (db.mv m))⟩⟩
    · cases h1⟩
/-! ### enumerate (lists) -/
def enumD : Nat → List D → List D
  | _, [] => []
  | n, x :: xs => .tuple [.int n, x] :: enumD (n + 1) xs
theorem enumD_length : ∀ (n : Nat) (xs : List D), (enumD n xs).length = xs.length
  | _, [] => rfl
  | n, x :: xs => by
    show (enumD (n + 1) xs).length + 1 = xs.length + 1
    rw [enumD_length]
theorem enumD_get : ∀ {n : Nat} {xs : List D} {i : Nat} {d : D}, (enumD n xs)[i]? = some d → ∃ x, xs[i]? = some x ∧ d = .tuple [.int ((n + i : Nat) : Int), x]
  | n, [], i, d, h => by simp [enumD] at h
  | n, x :: xs, 0, d, h => by
    have e : PyData.tuple [.int n, x] = d := Option.some.inj h
    exact ⟨x, rfl, by rw [← e]; rfl⟩
  | n, x :: xs, i + 1, d, h => by
    obtain ⟨y, h1, h2⟩ := enumD_get (n := n + 1) (xs := xs) (i := i) h
    exact ⟨y, h1, by rw [h2]; congr 2; congr 1; congr 1; omega⟩
end
end PD
namespace PD
open PySem PySem.Spec PyProof.Rows L2
/-! enumerate(v) of a list, of a tuple -/
abbrev enO (it : Addr) : Obj := { cls := .type "enumerate", data := .fields #[.none, .bool false, .ref it, rawInt 0, .none, .none] }
set_option maxHeartbeats 1000000 in
theorem enNew {v : Value} {o : Obj} {T : Heap → Prop} (B : Begins v o T) : Meets (Builtin.«enumerate.__new__» ⟨[.type "enumerate", v], []⟩) (fun _ R s => T s.heap ∧
      R (.ok (.ret (.ref (s.heap.push o).objs.size))) { s with heap := (s.heap.push o).push (enO s.heap.objs.size) }) :=
  .of_wp fun P w A R s q => by
    obtain ⟨h0, g0, d0, t0, o0⟩ := s
    obtain ⟨z1, z2⟩ := q
    have subE := sub_enumerate
    have it1 : ∀ {A2 : Around} {E2 : Value → Shared → Prop} {Q2 : Value → Shared → Prop}, Q2 (.ref h0.objs.size) ⟨h0.push o, g0, d0, t0, o0⟩ → wpAny (model P w) A2 (pyIter v) Q2 E2 ⟨h0, g0, d0, t0, o0⟩ := fun x => B.iter P w _ _ ⟨h0, g0, d0, t0, o0⟩ _ z1 x
    wp_walk using it1
    refine wpAny_stack_any fun st0 => wpAny_pure ?_
    split
    · rename_i cc _ _ _ _ _
      cases (cc == Value.type "enumerate") <;> (wp_walk using it1; exact ⟨_, rfl, z2⟩)
    · wp_walk using it1
      exact ⟨_, rfl, z2⟩
section
variable {P : Program} {w : World} {A : Around} {E : Value → Shared → Prop} {s : Shared}
theorem enCall {v : Value} {o : Obj} {T : Heap → Prop} {Q : Value → Shared → Prop} (B : Begins v o T) (z1 : T s.heap)
    (h : ∀ h', IsEnum h' (s.heap.objs.size + 1) s.heap.objs.size 0 .none → h'.get? s.heap.objs.size = some o → (∀ b u, s.heap.get? b = some u → h'.get? b = some u) → Q (.ref (s.heap.objs.size + 1)) { s with heap := h' }) :
    wpAny (model P w) A (call (.type "enumerate") [v]) Q E s := by
  refine callType_new F.called_enumerate (by decide) (F.typeCall_enumerate_1 _) (F.newCall_enumerate_1 _) (fun obj => F.args_object_init_2 obj _) F.entry_enumerate_new (enNew B) ⟨z1, ?_⟩
  have sz1 : (s.heap.push o).objs.size = s.heap.objs.size + 1 := by rw [Heap.size_push]
  have he : IsEnum ((s.heap.push o).push (enO s.heap.objs.size)) (s.heap.objs.size + 1) s.heap.objs.size 0 .none := by
    rw [← sz1]
    exact Heap.get?_push_size (s.heap.push o) (o := enO s.heap.objs.size) rfl
  show _ ∧ _
  rw [sz1]
  exact ⟨⟨_, he, rfl⟩, h _ he (Heap.get?_push_of_some _ (Heap.get?_push_size _ B.free)) fun b u x => Heap.get?_push_of_some _ (Heap.get?_push_of_some _ x)⟩
end
/-- the tuple at a, each item in a new pair with its number -/
def Itu (K : Fr0) (a : Addr) : It :=
  ⟨fun i H => ∃ (xs : List V) (x : V), SqT K H a xs ∧ xs[i]? = some x, fun i H v H' => ∃ T x, v = .ref T ∧ H T = none ∧ H' = upd H T (.tup [.int (i : Nat), x]) ∧ ∀ xs, SqT K H a xs → xs[i]? = some x, fun i H => ∃ xs : List V, SqT K H a xs ∧ xs.length ≤ i⟩
theorem turn_u {P : Program} {w : World} {K : Fr0} {elts : List Expr} {kk : Nat} {tpos : Pos} (a e it : Addr) :
    Turn P w K (.Tuple elts kk tpos) (Itu K a) [e, it] e (fun i h => (∃ old, IsEnum h e it ((i : Nat) : Int) old) ∧ h.IsTupleIter it a i ∧ e ≠ it ∧ a ≠ it ∧ e ≠ a) where
  mem := by simp
  obj := fun i h st b hb => by
    obtain ⟨⟨old, he⟩, ⟨o, ho, hc, hd⟩, _⟩ := st
    rcases (show b = e ∨ b = it by simpa using hb) with z | z
    · subst z; exact ⟨_, he, fun v q => nomatch q⟩
    · subst z; exact ⟨o, ho, fun v q => by rw [hd] at q; cases q⟩
  keep := fun i h h' st k => by
    obtain ⟨⟨old, he⟩, hi, r⟩ := st
    exact ⟨⟨old, k e (by simp) _ he⟩, hi.at fun o q => k it (by simp) o q, r⟩
  item := by
    intro X hP hw hK hc i pins s σ H E I hf st hg
    subst hP hw hK
    obtain ⟨⟨old, he⟩, hit, hne, hat, hea⟩ := st
    obtain ⟨xs, x, hq, hx⟩ := hg
    obtain ⟨its, rv, p, hz⟩ := I.tuple hq
    obtain ⟨u, hu, ru⟩ := rv.get hx
    have hel : e < s.heap.objs.size := Heap.lt_size he
    have hil : it < s.heap.objs.size := by
      obtain ⟨_, q, _⟩ := hit
      exact Heap.lt_size q
    have hi : i < its.toArray.size := by
      have := (List.getElem?_eq_some_iff.mp hu).1
      simpa using this
    refine wpAny_pyNext_enum_itemC (Draws.tuple (show X.A.in1.handled = none from I.ok.hd hc) it a hat its.toArray) he ⟨hit, (show s.heap.IsTuple a its.toArray from p)⟩ hi hne (by simp; exact ⟨hne, hea⟩) fun x' h' tk hP' ho st' hT hsz hk => ?_
    have ex : x' = u := by
      have hP' : its.toArray[i]? = some x' := hP'
      have e1 : its.toArray[i]? = its[i]? := by simp
      rw [e1, hu] at hP'
      exact (Option.some.inj hP').symm
    subst ex
    refine ⟨_, rfl, wpAny_letOwnedTupleGo_enum (s := { s with heap := h', toks := tk + 1 }) ho fun h'' he' sb => ?_⟩
    have hT2 : h''.get? s.heap.objs.size = some { cls := .type "tuple", data := .seq #[.int i tk, x'] } := (sb.2 _ (Nat.ne_of_gt hel)).trans hT
    have new : ObjOk X.prog X.w (upd H s.heap.objs.size (.tup [.int (i : Nat), x])) h'' s.heap.objs.size (.tup [.int (i : Nat), x]) := ⟨by show 2 ≤ sizeLine; decide, [.int i tk, x'], .cons ⟨tk, rfl⟩ (.cons ru .nil), ⟨_, hT2, rfl, _, rfl⟩⟩
    have I1 : Inv X pins σ (upd H s.heap.objs.size (.tup [.int (i : Nat), x])) { s with heap := h'', toks := tk + 1 } :=
      I.turnedNew (t' := tk + 1) (ch := [e, it]) (fun b ob hb q => (sb.2 b (fun z => hb (by simp [z]))).trans (hk b ob (fun z => hb (by simp [z])) (fun z => hb (by simp [z])) q)) hf (Nat.le_refl _) new
    refine ⟨.ref s.heap.objs.size, _, I1, rfl, ⟨_, x, rfl, I.hok.fresh (Nat.le_refl _), rfl, fun ys hy => by rw [I.tuple_inj hy hq]; exact hx⟩, ⟨⟨x', ?_⟩, st'.1.at fun o q => (sb.2 it (Ne.symm hne)).trans q, hne, hat, hea⟩, fun b hb => ?_⟩
    · rw [show ((i + 1 : Nat) : Int) = (i : Int) + 1 by omega]
      exact he'
    · have hb' : b < s.heap.objs.size := by
        rcases (show b = e ∨ b = it by simpa using hb) with z | z
        · subst z; exact hel
        · subst z; exact hil
      rw [upd_ne (Nat.ne_of_lt hb')]
      exact (hf b hb).1
  done := by
    intro X hP hw hK hc i pins s σ H E I hf st hg
    subst hP hw hK
    obtain ⟨⟨old, he⟩, hit, hne, hat, hea⟩ := st
    obtain ⟨xs, hq, hx⟩ := hg
    obtain ⟨its, rv, p, hz⟩ := I.tuple hq
    obtain ⟨f0, f1, f2, f3, f4, f5⟩ := hf it (by simp)
    have hl := rv.length
    have D0 : Draws X.prog X.w X.A.in1 it [it, a] i (fun i v => its.toArray[i]? = some v ∧ False) (fun j h => h.IsTupleIter it a j ∧ h.IsTuple a its.toArray ∧ j = i) := by
      have D := Draws.tuple (prog := X.prog) (w := X.w) (show X.A.in1.handled = none from I.ok.hd hc) it a hat its.toArray
      refine ⟨fun j h st => D.live j h ⟨st.1, st.2.1⟩, fun j h h' st k => ⟨(D.frame j h h' ⟨st.1, st.2.1⟩ k).1, (D.frame j h h' ⟨st.1, st.2.1⟩ k).2, st.2.2⟩, fun j s Q E hj st => absurd st.2.2 (Nat.ne_of_lt hj), fun s Q E st hE => ?_⟩
      exact wpAny_nextOf_tuple_end (show X.A.in1.handled = none from I.ok.hd hc) st.1 st.2.1 (by simp; omega) hE
    exact wpAny_pyNext_enum_endD D0 he ⟨hit, p, rfl⟩ fun h' eb => ⟨rfl, I.turned (t' := s.toks) (fun b o hb q => eb b o hb q) f0 f1 f3 f4 f5⟩
  self := fun A i s Q E st h => by
    obtain ⟨⟨_, he⟩, _⟩ := st
    exact wpAny_pyIter_enum he h
section
variable {X : Cx} {W : WX}
def iEnT (K : Fr0) (ta : TA) : TI := fun σ H R => ta σ H fun vs H1 => ∃ a xs, vs = [.ref a] ∧ SqT K H1 a xs ∧ R (Itu K a) H1
theorem pi_enT {e : Expr} {ta : TA} {p pos tpos : Pos} {elts : List Expr} {kk : Nat} (hg : Gl X "enumerate") (hm : X.mg "enumerate" = none) (ha : PA X [e] ta) (hs : starEach [e] X.env = [(false, eval e X.env)] := by rfl) :
    PI X (.Tuple elts kk tpos) (.Call (.Name "enumerate" p) [e] [] pos) (iEnT X.K ta) := ⟨fun pins s σ H R I h => by
  refine Call_ (ld_blt I hg hm boot_enumerate (PyProof.Rows.callWith_type1 (thn (ha.run pos pins s σ H _ I h) fun us s1 ⟨vs, H1, I1, r1, z⟩ => ?_) hs rfl))
  obtain ⟨a, xs, ex, hq, q⟩ := z
  subst ex
  obtain ⟨u, rfl, ru⟩ := Vals.one r1
  cases ru
  obtain ⟨its, rv, pt, hz⟩ := I1.tuple hq
  have hlt : a < s1.heap.objs.size := by
    obtain ⟨o, ho, _⟩ := pt
    exact Heap.lt_size ho
  refine enCall (begins_tuple a its.toArray) (show s1.heap.IsTuple a its.toArray from pt) fun h' he hit hk => wpAny_pyIter_enum he ?_
  have I2 : Inv X pins σ H1 { s1 with heap := h' } := I1.kept (t' := s1.toks) hk
  refine ⟨s1.heap.objs.size + 1, [s1.heap.objs.size + 1, s1.heap.objs.size], _, _, H1, rfl, I2, turn_u a (s1.heap.objs.size + 1) s1.heap.objs.size, ⟨⟨.none, he⟩, ⟨_, hit, rfl, rfl⟩, Nat.succ_ne_self _, Nat.ne_of_lt hlt, Nat.ne_of_gt (Nat.lt_succ_of_lt hlt)⟩, fun b hb => ?_, q⟩
  have hle : s1.heap.objs.size ≤ b := by
    rcases (show b = s1.heap.objs.size + 1 ∨ b = s1.heap.objs.size by simpa using hb) with z | z
    · subst z; exact Nat.le_add_right _ _
    · subst z; exact Nat.le_refl _
  exact I1.fpOk hle (I1.hok.fresh hle)⟩
theorem walk_u {K : Fr0} {a : Addr} {xs : List V} : Walk (Itu K a) xs.length (fun H => SqT K H a xs) (YPair (fun i => some (.int (i : Nat))) (fun i => xs[i]?)) :=
  ⟨fun i _ hi q => ⟨xs, xs[i], q, by simp [hi]⟩, fun _ q => ⟨xs, q, Nat.le_refl _⟩, fun i H x H' hi q y => by
    obtain ⟨T, x1, e1, e2, e3, h1⟩ := y
    exact ⟨T, _, x1, e1, e2, e3, rfl, h1 xs q⟩⟩
theorem en_dn {K : Fr0} {L2 Fb : AS} {H2 : Hp} {H3 : Hp} {x : V} {i : Nat} {xs : List V} {ds : List D} {d : D} (fr : ∀ p, H2 p = none → ¬ U L2 Fb p) (hd : (enumD 0 ds)[i]? = some d) (y : YPair (fun i => some (.int (i : Nat))) (fun i => xs[i]?) i H2 x H3)
    (da : DnA K (U L2 Fb) H2 xs ds) : (∀ a o, H2 a = some o → H3 a = some o) ∧ Dn K (U L2 Fb) H3 x d := by
  obtain ⟨T, x1, y1, rfl, hT, rfl, h1, h2⟩ := y
  cases h1
  obtain ⟨d2, h4, rfl⟩ := enumD_get hd
  obtain ⟨d2', h7, h8⟩ := da.getV h2
  rw [h4] at h7; cases h7
  rw [Nat.zero_add]
  exact ⟨upd_grow hT, .tup (.inl ⟨fr T hT, upd_same⟩) (.cons (.int _) (.cons (h8.mv (mv_grow (upd_grow hT))) .nil))⟩
def dEnum : List D → Option (List D)
  | [.list xs] => some (enumD 0 xs)
  | [.tuple xs] => some (enumD 0 xs)
  | _ => none
theorem pdi_enum {a : Expr} {elts : List Expr} {kk : Nat} {tpos p pos : Pos} {G : GA} (hg : Gl X "enumerate") (hm : X.mg "enumerate" = none) (ha : PDA X W [a] G) (hs : starEach [a] X.env = [(false, eval a X.env)] := by rfl) :
    PDI X W (.Tuple elts kk tpos) (.Call (.Name "enumerate" p) [a] [] pos) (gB G fun ds => gO (dEnum ds)) := ⟨⟨fun pins s σ H R I q => by
  obtain ⟨Wp, Fb, L, env, r, R0, g, k⟩ := q
  unfold gB at g
  split at g
  · cases g
  · rename_i ds e1 hd
    obtain ⟨items, h1, rfl⟩ := gO_some g
    unfold dEnum at h1
    split at h1
    · cases h1
      refine (pi_enum hg hm ha.pa hs).run pins s σ H R I ⟨Wp, Fb, L, env, _, R0, hd, fun H1 L1 t1 R1 v hv => ?_⟩
      obtain ⟨v, rfl, h⟩ := hv.one
      obtain ⟨a, vs, rfl, na, ha, da⟩ := h.lstInv
      exact ⟨a, vs, rfl, SqL.of ha, k H1 L1 t1 R1 _ (wk_of (walk_enum (xs := vs)) (by rw [enumD_length, da.length]) (fun L2 H2 t => SqL.of (t a _ ha fun z => na (.inl z)).1) fun Fb' L2 H2 m fr i d x H3 hd y => en_dn fr hd y (da.mv m))⟩
    · cases h1
      refine (pi_enT hg hm ha.pa hs).run pins s σ H R I ⟨Wp, Fb, L, env, _, R0, hd, fun H1 L1 t1 R1 v hv => ?_⟩
      obtain ⟨v, rfl, h⟩ := hv.one
      cases h with
      | tup ha da =>
        rename_i a vs
        exact ⟨a, vs, rfl, sqt_of ha, k H1 L1 t1 R1 _ (wk_of (walk_u (xs := vs)) (by rw [enumD_length, da.length]) (fun L2 H2 t => sqt_keep ha t) fun Fb' L2 H2 m fr i d x H3 hd y => en_dn fr hd y (da.mv m))⟩
    · cases h1
  · rename_i c fs e1 hd
    cases g
    exact (pi_enum hg hm ha.pa hs).run pins s σ H R I ⟨Wp, Fb, L, env, _, R0, hd, k⟩⟩⟩
end
end PD
namespace PD
open PySem PySem.Spec PyProof.Rows L2
/-! ### targets -/
inductive Tg where
  | one (i : Nat)
  | tup (is : List Nat)
def Tg.is : Tg → List Nat
  | .one i => [i]
  | .tup is => is
def gsOf : List Nat → TGs
  | [] => gNil
  | i :: is => L2.gCons (gName i) (gsOf is)
def gTG (K : Fr0) : Tg → TG
  | .one i => gName i
  | .tup is => fun v σ H Q => L2.gTup K is.length (gsOf is) v σ H Q ∨ L2.gLst K is.length (gsOf is) v σ H Q
def setIm (env : En) (i : Nat) (d : D) : Option En := match env[i]? with
  | some (.mu true _) => none
  | some _ => some (env.set i (.im d))
  | none => none
def setIms : En → List Nat → List D → Option En
  | env, [], [] => some env
  | env, i :: is, d :: ds => (setIm env i d).bind fun e => setIms e is ds
  | _, _, _ => none
def tTG : Tg → D → En → Option En
  | .one i, d, env => setIm env i d
  | .tup is, .tuple ds, env => setIms env is ds
  | .tup is, .list ds, env => setIms env is ds
  | .tup _, _, _ => none
def sets : L2.St → List Nat → List V → L2.St
  | σ, i :: is, v :: vs => sets (σ.set i (some v)) is vs
  | σ, _, _ => σ
section
variable {K : Fr0} {Wp σ : L2.St} {Fb L : AS} {H : Hp} {env env' : En}
theorem ER.put (R : ER K Wp Fb L H σ env) {i : Nat} {x : Option V} {s : Sl} (hi : ∀ ds, env[i]? ≠ some (.mu true ds)) (h : (∃ v d, x = some v ∧ s = .im d ∧ Dn K (U L Fb) H v d) ∨ s = .no) : ER K Wp Fb L H (σ.set i x) (env.set i s) := by
  have nmu : ∀ b es, s ≠ .mu b es := fun b es z => by
    rcases h with ⟨v, d, _, e, _⟩ | e
    · rw [e] at z; cases z
    · rw [e] at z; cases z
  refine ⟨by simpa using R.len, R.trk, R.dis, fun j t e => ?_, fun j k b c ds es a ne e1 e2 e3 => ?_⟩
  · by_cases hj : i = j
    · subst hj
      have hlt : i < env.length := by
        have := (List.getElem?_eq_some_iff.mp e).1
        simpa using this
      rw [List.getElem?_set_self hlt] at e
      cases e
      rcases h with ⟨v, d, rfl, rfl, dn⟩ | rfl
      · exact ⟨v, List.getElem?_set_self (by rw [← R.len]; exact hlt), dn⟩
      · trivial
    · rw [List.getElem?_set_ne hj] at e
      rw [List.getElem?_set_ne hj]
      exact R.sl j t e
  · by_cases hj : i = j
    · subst hj
      have hlt : i < env.length := by
        have := (List.getElem?_eq_some_iff.mp e1).1
        simpa using this
      rw [List.getElem?_set_self hlt] at e1
      exact (nmu _ _ (Option.some.inj e1)).elim
    · by_cases hk : i = k
      · subst hk
        have hlt : i < env.length := by
          have := (List.getElem?_eq_some_iff.mp e2).1
          simpa using this
        rw [List.getElem?_set_self hlt] at e2
        exact (nmu _ _ (Option.some.inj e2)).elim
      · rw [List.getElem?_set_ne hj] at e1 e3
        rw [List.getElem?_set_ne hk] at e2 ⊢
        exact R.apart j k b c ds es a ne e1 e2 e3
theorem ER.setIm (R : ER K Wp Fb L H σ env) {i : Nat} {v : V} {d : D} (hv : Dn K (U L Fb) H v d) (h : PD.setIm env i d = some env') : ER K Wp Fb L H (σ.set i (some v)) env' := by
  unfold PD.setIm at h
  split at h
  · cases h
  · rename_i s hs e
    cases h
    exact R.put (fun ds z => hs ds (by rw [e] at z; exact Option.some.inj z)) (.inl ⟨v, d, rfl, rfl, hv⟩)
  · cases h
theorem ER.setIms : ∀ {is : List Nat} {ds : List D} {vs : List V} {σ : L2.St} {env env' : En}, ER K Wp Fb L H σ env → DnA K (U L Fb) H vs ds → PD.setIms env is ds = some env' → vs.length = is.length ∧ ER K Wp Fb L H (sets σ is vs) env'
  | [], [], vs, σ, env, env', R, hv, h => by
    cases hv
    cases h
    exact ⟨rfl, R⟩
  | i :: is, d :: ds, vs, σ, env, env', R, hv, h => by
    cases hv with
    | cons a b =>
      obtain ⟨e1, h1, h2⟩ := Option.bind_eq_some_iff.mp h
      obtain ⟨hl, R'⟩ := ER.setIms (R.setIm a h1) b h2
      exact ⟨by simp [hl], R'⟩
  | [], _ :: _, _, _, _, _, _, _, h => by cases h
  | _ :: _, [], _, _, _, _, _, _, h => by cases h
theorem gsOf_read : ∀ {is : List Nat} {vs : List V} {σ : L2.St} {H : Hp} {Q : L2.St → Hp → Prop}, vs.length = is.length → Q (sets σ is vs) H → gsOf is vs σ H Q
  | [], [], _, _, _, _, q => ⟨rfl, q⟩
  | i :: is, v :: vs, σ, H, Q, hl, q => ⟨v, vs, rfl, gsOf_read (is := is) (by simpa using hl) q⟩
  | [], _ :: _, _, _, _, hl, _ => by simp at hl
  | _ :: _, [], _, _, _, hl, _ => by simp at hl
theorem gTG_read {t : Tg} {v : V} {d : D} {Q : L2.St → Hp → Prop} (R : ER K Wp Fb L H σ env) (hv : Dn K (U L Fb) H v d) (h : tTG t d env = some env') (k : ∀ vals : List V, vals.length = t.is.length → ER K Wp Fb L H (sets σ t.is vals) env' → Q (sets σ t.is vals) H) : gTG K t v σ H Q := by
  cases t with
  | one i => exact k [v] rfl (R.setIm hv h)
  | tup is =>
    cases d <;> simp only [tTG] at h <;> first | cases h | skip
    · obtain ⟨a, vs, rfl, na, ha, da⟩ := hv.lstInv
      obtain ⟨hl, R'⟩ := ER.setIms R da h
      exact .inr ⟨a, vs, rfl, SqL.of ha, hl, gsOf_read hl (k vs hl R')⟩
    · obtain ⟨a, vs, rfl, ha, da⟩ := hv.tupInv
      obtain ⟨hl, R'⟩ := ER.setIms R da h
      exact .inl ⟨a, vs, rfl, ha, hl, gsOf_read hl (k vs hl R')⟩
theorem pg_tl {X : Cx} {es : List Expr} {k : Nat} {pos : Pos} {is : List Nat} (hc : X.calm = true) (h : PGs X es (gsOf is)) (h1 : (assignEach es X.env).length = is.length := by rfl) (h2 : List.findIdx? (fun x => x.fst) (assignEach es X.env) = none := by rfl) : PG X (.Tuple es k pos) (gTG X.K (.tup is)) :=
  ⟨fun pins s σ H v u Q I r q => q.elim (fun q => (pg_tup hc h h1 h2).run pins s σ H v u Q I r q) fun q => (pg_lst hc h h1 h2).run pins s σ H v u Q I r q⟩
/-! ### the slots of a block forgotten -/
def wipeE (env : En) : List Nat → En
  | [] => env
  | v :: vs => (wipeE env vs).set v .no
def noMu (env : En) (vs : List Nat) : Bool := vs.all fun i => match env[i]? with
  | some (.mu _ _) => false
  | some _ => true
  | none => false
theorem wipeE_mu {b : Bool} {ds : List D} {i : Nat} : ∀ {vs : List Nat}, (wipeE env vs)[i]? = some (.mu b ds) → env[i]? = some (.mu b ds)
  | [], h => h
  | v :: vs, h => by
    unfold wipeE at h
    by_cases hv : v = i
    · subst hv
      by_cases hl : v < (wipeE env vs).length
      · rw [List.getElem?_set_self hl] at h; cases h
      · rw [List.getElem?_eq_none (by simpa using hl)] at h; cases h
    · rw [List.getElem?_set_ne hv] at h
      exact wipeE_mu h
/-- whatever stands in these slots -/
theorem ER.wipe1 (R : ER K Wp Fb L H σ env) {i : Nat} : ER K Wp Fb L H (σ.set i none) (env.set i .no) := by
  refine ⟨by simpa using R.len, R.trk, R.dis, fun j t e => ?_, fun j k b c ds es a ne e1 e2 e3 => ?_⟩
  · by_cases hj : i = j
    · subst hj
      have hlt : i < env.length := by
        have := (List.getElem?_eq_some_iff.mp e).1
        simpa using this
      rw [List.getElem?_set_self hlt] at e
      cases e
      trivial
    · rw [List.getElem?_set_ne hj] at e
      rw [List.getElem?_set_ne hj]
      exact R.sl j t e
  · by_cases hj : i = j
    · subst hj
      have hlt : i < env.length := by
        have := (List.getElem?_eq_some_iff.mp e1).1
        simpa using this
      rw [List.getElem?_set_self hlt] at e1
      cases e1
    · by_cases hk : i = k
      · subst hk
        have hlt : i < env.length := by
          have := (List.getElem?_eq_some_iff.mp e2).1
          simpa using this
        rw [List.getElem?_set_self hlt] at e2
        cases e2
      · rw [List.getElem?_set_ne hj] at e1 e3
        rw [List.getElem?_set_ne hk] at e2 ⊢
        exact R.apart j k b c ds es a ne e1 e2 e3
theorem ER.wipe (R : ER K Wp Fb L H σ env) : ∀ vs : List Nat, ER K Wp Fb L H (L2.wipe σ vs) (wipeE env vs)
  | [] => R
  | v :: vs => (ER.wipe R vs).wipe1
theorem wipe_set {x : Option V} {i : Nat} : ∀ {vs : List Nat} {σ : L2.St}, i ∈ vs → L2.wipe (σ.set i x) vs = L2.wipe σ vs
  | [], σ, h => by simp at h
  | v :: vs, σ, h => by
    show (L2.wipe (σ.set i x) vs).set v none = (L2.wipe σ vs).set v none
    by_cases hi : i ∈ vs
    · rw [wipe_set hi]
    · have e : i = v := by
        rcases List.mem_cons.mp h with z | z
        · exact z
        · exact (hi z).elim
      subst e
      have c : ∀ vs : List Nat, i ∉ vs → L2.wipe (σ.set i x) vs = (L2.wipe σ vs).set i x := by
        intro vs
        induction vs with
        | nil => intro _; rfl
        | cons u us ih =>
          intro hn
          show (L2.wipe (σ.set i x) us).set u none = ((L2.wipe σ us).set u none).set i x
          rw [ih fun z => hn (List.mem_cons_of_mem _ z), List.set_comm]
          exact fun z => hn (by rw [z]; exact List.mem_cons_self)
      rw [c vs hi, List.set_set]
theorem wipe_sets : ∀ {is : List Nat} {xs : List V} {vs : List Nat} {σ : L2.St}, (∀ i ∈ is, i ∈ vs) → L2.wipe (sets σ is xs) vs = L2.wipe σ vs
  | [], _, _, _, _ => by cases ‹List V› <;> rfl
  | i :: is, [], _, _, _ => rfl
  | i :: is, x :: xs, vs, σ, h => by
    show L2.wipe (sets (σ.set i (some x)) is xs) vs = _
    rw [wipe_sets fun j hj => h j (List.mem_cons_of_mem _ hj), wipe_set (h i List.mem_cons_self)]
theorem wipe_wipe : ∀ {vs us : List Nat} {σ : L2.St}, (∀ v ∈ us, v ∈ vs) → L2.wipe (L2.wipe σ us) vs = L2.wipe σ vs
  | vs, [], σ, _ => rfl
  | vs, u :: us, σ, h => by
    show L2.wipe ((L2.wipe σ us).set u none) vs = _
    rw [wipe_set (h u List.mem_cons_self), wipe_wipe fun v hv => h v (List.mem_cons_of_mem _ hv)]
/-- the slots as they were, the others as they are -/
def back (env e : En) : List Nat → En
  | [] => e
  | v :: vs => (back env e vs).set v (env.getD v .no)
theorem back_length {e : En} : ∀ vs : List Nat, (back env e vs).length = e.length
  | [] => rfl
  | v :: vs => by
    unfold back
    rw [List.length_set, back_length vs]
theorem back_get {e : En} {i : Nat} {s : Sl} : ∀ {vs : List Nat}, (back env e vs)[i]? = some s → (i ∈ vs ∧ s = env.getD i .no) ∨ (i ∉ vs ∧ e[i]? = some s)
  | [], h => .inr ⟨by simp, h⟩
  | v :: vs, h => by
    unfold back at h
    by_cases hv : v = i
    · subst hv
      by_cases hl : v < (back env e vs).length
      · rw [List.getElem?_set_self hl] at h
        exact .inl ⟨List.mem_cons_self, (Option.some.inj h).symm⟩
      · rw [List.getElem?_eq_none (by simpa using hl)] at h; cases h
    · rw [List.getElem?_set_ne hv] at h
      rcases back_get h with ⟨a, b⟩ | ⟨a, b⟩
      · exact .inl ⟨List.mem_cons_of_mem _ a, b⟩
      · exact .inr ⟨fun z => (List.mem_cons.mp z).elim (fun w => hv w.symm) a, b⟩
end
end PD
namespace PD
open PySem PySem.Spec PyProof.Rows L2
abbrev W0 : WX := fun _ _ _ _ => False
structure PDTs (X : Cx) (W : WX) (ifs : List Expr) (G : GT) : Prop where
  pts : PTs X ifs (tT X W G)
section
variable {X : Cx} {W : WX}
theorem PTs.wk {ifs : List Expr} {t t' : TT} (h : PTs X ifs t) (w : ∀ σ H Q, t' σ H Q → t σ H Q) : PTs X ifs t' := ⟨fun pins s σ H Q I q => h.run pins s σ H Q I (w σ H Q q)⟩
theorem pdts_nil : PDTs X W [] (gP true) := ⟨PTs.wk pts_nil fun σ H Q q => by
  obtain ⟨Wp, Fb, L, env, r, R, g, k⟩ := q
  cases gP_some g
  exact k H L (Tr.refl H L) R true rfl⟩
theorem pdts_one {c : Expr} {G : GT} (h : PDT X W c G) : PDTs X W [c] G := ⟨pts_one h.pt⟩
/-- the turns of a comprehension: what is in hand, what is made so far -/
def lcLoop (t : Tg) (Gt : GT) (Ge : GE) (vs : List Nat) : List D → List D → En → Option (List D × En)
  | [], acc, e => some (acc, e)
  | d :: ds, acc, e => match tTG t d e with
    | none => none
    | some e1 => match Gt e1 with
      | some (.ok true e2) => match Ge e2 with
        | some (.ok v e3) => if acc.length < 100000 then lcLoop t Gt Ge vs ds (acc ++ [v]) (wipeE e3 vs) else none
        | _ => none
      | some (.ok false e2) => lcLoop t Gt Ge vs ds acc (wipeE e2 vs)
      | _ => none
def gLc (Gi : GA) (t : Tg) (Gt : GT) (Ge : GE) (vs : List Nat) : GA := gB Gi fun items env => if noMu env vs = true then (lcLoop t Gt Ge vs items [] (wipeE env vs)).map fun p => .ok p.1 (back env p.2 vs) else none
/-- D stands apart from now on -/
theorem ER.guard {K : Fr0} {Wp σ : L2.St} {Fb L : AS} {H : Hp} {env : En} (R : ER K Wp Fb L H σ env) {p : Addr} {o : HO} (hp : H p = none) : ER K Wp (fun a => Fb a ∨ a = p) L (upd H p o) σ env where
  len := R.len
  trk := fun a h => by
    by_cases ha : a = p
    · subst ha; exact ⟨o, upd_same⟩
    · obtain ⟨u, e⟩ := R.trk a (h.elim .inl fun z => z.elim .inr fun w => (ha w).elim)
      exact ⟨u, by rw [upd_ne ha]; exact e⟩
  dis := fun a l z => z.elim (R.dis a l) fun w => by
    subst w
    exact R.free hp (.inl l)
  sl := fun i s e => by
    have m : Mv (U L Fb) H (U L fun a => Fb a ∨ a = p) (upd H p o) := fun a u n e => by
      have ne := ne_of_none e hp
      exact ⟨fun z => n (z.elim .inl fun z => z.elim .inr fun w => (ne w).elim), by rw [upd_ne ne]; exact e⟩
    have q := R.sl i s e
    cases s with
    | no => trivial
    | im d => obtain ⟨v, e1, h⟩ := q; exact ⟨v, e1, h.mv m⟩
    | mu b ds =>
      obtain ⟨a, vs, e1, l, h1, h2, w⟩ := q
      exact ⟨a, vs, e1, l, by rw [upd_ne (ne_of_none h1 hp)]; exact h1, h2.mv m, w⟩
  apart := R.apart
/-- D is written, what stands apart of it stays -/
theorem ER.write {K : Fr0} {Wp σ : L2.St} {Fb L : AS} {H : Hp} {env : En} (R : ER K Wp Fb L H σ env) {p : Addr} {o u : HO} (hp : Fb p) (ho : H p = some o) : ER K Wp Fb L (upd H p u) σ env ∧ Mv (U L Fb) H (U L Fb) (upd H p u) := by
  have m : Mv (U L Fb) H (U L Fb) (upd H p u) := fun a w n e => by
    have ne : a ≠ p := fun z => n (by subst z; exact .inr hp)
    exact ⟨n, by rw [upd_ne ne]; exact e⟩
  refine ⟨⟨R.len, fun a h => ?_, R.dis, fun i s e => ?_, R.apart⟩, m⟩
  · by_cases ha : a = p
    · subst ha; exact ⟨u, upd_same⟩
    · obtain ⟨w, e⟩ := R.trk a h
      exact ⟨w, by rw [upd_ne ha]; exact e⟩
  · have q := R.sl i s e
    cases s with
    | no => trivial
    | im d => obtain ⟨v, e1, h⟩ := q; exact ⟨v, e1, h.mv m⟩
    | mu b ds =>
      obtain ⟨a, vs, e1, l, h1, h2, w⟩ := q
      have ne : a ≠ p := fun z => R.dis a l (by subst z; exact hp)
      exact ⟨a, vs, e1, l, by rw [upd_ne ne]; exact h1, h2.mv m, w⟩
/-- behind the block -/
theorem ER.back {K : Fr0} {Wp σ : L2.St} {Fb L L' : AS} {H H' : Hp} {env e : En} {p : Addr} {vs : List Nat} (R : ER K Wp Fb L H σ env) (R' : ER K Wp (fun a => Fb a ∨ a = p) L' H' (L2.wipe σ vs) e) (t : Tr H L H' L') (hp : H p = none) (nm : noMu env vs = true) :
    ER K Wp Fb (fun a => L' a ∨ a = p) H' σ (PD.back env e vs) := by
  have lw : (L2.wipe σ vs).length = σ.length := wipe_length σ vs
  have outV : ∀ {i : Nat}, i ∉ vs → (L2.wipe σ vs)[i]? = σ[i]? := fun h => wipe_out h
  have nmu : ∀ {i : Nat}, i ∈ vs → ∀ b ds, env.getD i .no ≠ .mu b ds := fun {i} h b ds z => by
    have q := List.all_eq_true.mp nm i h
    rw [List.getD_eq_getElem?_getD] at z
    cases he : env[i]? with
    | none => rw [he] at z; cases z
    | some s =>
      rw [he] at z q
      cases (show s = .mu b ds from z)
      cases q
  have m : Mv (U L Fb) H (U (fun a => L' a ∨ a = p) Fb) H' := fun a o n e => by
    obtain ⟨e1, n1⟩ := t a o e fun z => n (.inl z)
    exact ⟨fun z => z.elim (fun z => z.elim n1 (ne_of_none e hp)) fun z => n (.inr z), e1⟩
  have m' : Mv (U L' fun a => Fb a ∨ a = p) H' (U (fun a => L' a ∨ a = p) Fb) H' := fun a o n e => ⟨fun z => n (z.elim (fun z => z.elim .inl fun w => .inr (.inr w)) fun z => .inr (.inl z)), e⟩
  refine ⟨by rw [back_length, R'.len, lw], fun a h => R'.trk a (h.elim (fun z => z.elim .inl fun w => .inr (.inr w)) fun z => .inr (.inl z)), fun a h z => ?_, fun i s e1 => ?_, fun j k b c ds es a ne e1 e2 e3 => ?_⟩
  · rcases h with h | h
    · exact R'.dis a h (.inl z)
    · subst h
      exact R.free hp (.inr z)
  · rcases back_get e1 with ⟨hi, rfl⟩ | ⟨hi, h1⟩
    · cases he : env[i]? with
      | none =>
        rw [List.getD_eq_getElem?_getD, he]
        trivial
      | some s0 =>
        have q := R.sl i s0 he
        have es : env.getD i .no = s0 := by rw [List.getD_eq_getElem?_getD, he]; rfl
        rw [es]
        cases s0 with
        | no => trivial
        | im d => obtain ⟨v, e2, h⟩ := q; exact ⟨v, e2, h.mv m⟩
        | mu b ds => exact (nmu hi b ds es).elim
    · have q := R'.sl i s h1
      rw [outV hi] at q
      cases s with
      | no => trivial
      | im d => obtain ⟨v, e2, h⟩ := q; exact ⟨v, e2, h.mv m'⟩
      | mu b ds => obtain ⟨a, ws, e2, l, h2, h3, w⟩ := q; exact ⟨a, ws, e2, .inl l, h2, h3.mv m', w⟩
  · rcases back_get e1 with ⟨hi, z⟩ | ⟨hi, h1⟩
    · exact (nmu hi _ _ z.symm).elim
    · rcases back_get e2 with ⟨hk, z⟩ | ⟨hk, h2⟩
      · exact (nmu hk _ _ z.symm).elim
      · have q := R'.apart j k b c ds es a ne h1 h2
        rw [outV hi, outV hk] at q
        exact q e3
theorem back_mu {env e : En} {vs : List Nat} {i : Nat} {b : Bool} {ds : List D} (nm : noMu env vs = true) (h : (PD.back env e vs)[i]? = some (.mu b ds)) : i ∉ vs ∧ e[i]? = some (.mu b ds) := by
  rcases back_get h with ⟨hi, z⟩ | h
  · exfalso
    have q := List.all_eq_true.mp nm i hi
    rw [List.getD_eq_getElem?_getD] at z
    cases he : env[i]? with
    | none => rw [he] at z; cases z
    | some s =>
      rw [he] at z q
      cases (show Sl.mu b ds = s from z)
      cases q
  · exact h
/-- the reading of a comprehension -/
theorem lc_read {Gi : GA} {t : Tg} {Gt : GT} {Ge : GE} {vs : List Nat} {σ : L2.St} {H : Hp} {Q : VK} (sub : ∀ i ∈ t.is, i ∈ vs) (q : tF X W (gLc Gi t Gt Ge vs) σ H Q) : tLc (tI X W Gi) (gTG X.K t) (tT X W0 Gt) (tD X W0 Ge) vs σ H Q := by
  obtain ⟨Wp, Fb, L, env, r, R, g, k⟩ := q
  unfold gLc gB at g
  split at g
  · cases g
  rotate_left
  · rename_i c fs e hg
    cases g
    exact ⟨Wp, Fb, L, env, _, R, hg, k⟩
  rename_i items e0 hg
  dsimp only at g
  split at g
  rotate_left
  · cases g
  rename_i nm
  obtain ⟨pf, hl, rfl⟩ := Option.map_eq_some_iff.mp g
  refine ⟨Wp, Fb, L, env, _, R, hg, fun H1 L1 t1 R1 J wk D hD => ?_⟩
  -- what holds between two turns
  refine ⟨fun i m H' => m = items.length - i ∧ i ≤ items.length ∧ ∃ (L' : AS) (acc : List PyData) (e : En) (ws : List V), lcLoop t Gt Ge vs (items.drop i) acc e = some pf ∧ Tr H1 L1 H' L' ∧ ER X.K Wp (fun a => Fb a ∨ a = D) L' H' (L2.wipe σ vs) e ∧ H' D = some (.lst ws) ∧ DnA X.K (U L' fun a => Fb a ∨ a = D) H' ws acc,
    ⟨_, rfl, Nat.zero_le _, L1, [], wipeE e0 vs, [], hl, Tr.new hD, (R1.guard hD).wipe vs, upd_same, .nil⟩, ?_⟩
  rintro i m H' ⟨rfl, hi, L', acc, e, ws, hl', t', R', hDs, dn⟩
  have nb : ∀ a, (Fb a ∨ a = D) → Fb a ∨ H1 a = none := fun a h => h.imp id fun z => by subst z; exact hD
  obtain ⟨go, stop⟩ := wk _ L' H' nb t' R'.trk
  by_cases hlt : i < items.length
  · refine .inr ?_
    have hd : items[i]? = some items[i] := by simp [hlt]
    obtain ⟨g1, g2⟩ := go i _ hd
    have edrop : items.drop i = items[i] :: items.drop (i + 1) := List.drop_eq_getElem_cons hlt
    rw [edrop] at hl'
    unfold lcLoop at hl'
    refine ⟨g1, fun H'' => ∃ (L' : AS) (acc : List PyData) (e : En) (ws : List V), lcLoop t Gt Ge vs (items.drop (i + 1)) acc e = some pf ∧ Tr H1 L1 H'' L' ∧ ER X.K Wp (fun a => Fb a ∨ a = D) L' H'' (L2.wipe σ vs) e ∧ H'' D = some (.lst ws) ∧ DnA X.K (U L' fun a => Fb a ∨ a = D) H'' ws acc,
      fun H'' z => ⟨items.length - (i + 1), by omega, rfl, hlt, z⟩, fun x H3 y => ?_⟩
    obtain ⟨gr, dx⟩ := g2 x H3 y
    have R3 := R'.grow gr
    split at hl'
    · cases hl'
    rename_i e1 he1
    refine gTG_read R3 dx he1 fun vals hvl R4 => ⟨by rw [wipe_sets sub, wipe_wipe fun _ h => h], ?_⟩
    have wp2 : L2.wipe (sets (L2.wipe σ vs) t.is vals) vs = L2.wipe σ vs := by rw [wipe_sets sub, wipe_wipe fun _ h => h]
    have t3 : Tr H1 L1 H3 L' := t'.trans (grow_tr gr)
    split at hl'
    · -- kept
      rename_i e2 ht
      refine ⟨Wp, _, L', e1, _, R4, ht, fun H5 L5 t5 R5 b hb => ?_⟩
      subst hb
      show tD X W0 Ge (sets (L2.wipe σ vs) t.is vals) H5 _
      split at hl'
      rotate_left
      · cases hl'
      rename_i v e3 hv
      split at hl'
      rotate_left
      · cases hl'
      rename_i hsz
      refine ⟨Wp, _, L5, e2, _, R5, hv, fun H6 L6 t6 R6 y hy => ?_⟩
      have hD6 : H6 D = some (.lst ws) := by
        have n1 : ¬ L' D := fun z => R'.dis D z (.inr rfl)
        have a1 := t5 D _ (gr D _ hDs) n1
        exact (t6 D _ a1.1 a1.2).1
      have tt := t5.trans t6
      obtain ⟨R7, m7⟩ := R6.write (u := .lst (ws ++ [y])) (.inr rfl) hD6
      have dn6 := (dn.mv (mv_grow gr)).mv tt.mv
      refine ⟨ws, hD6, Nat.lt_of_lt_of_le (by rw [dn.length]; exact hsz) (by decide), L6, acc ++ [v], wipeE e3 vs, ws ++ [y], hl', fun a o ea na => ?_, ?_, upd_same, (dn6.app (.cons hy .nil)).mv m7⟩
      · obtain ⟨b1, b2⟩ := t3.trans tt a o ea na
        have ne : a ≠ D := ne_of_none ea hD
        exact ⟨by rw [upd_ne ne]; exact b1, b2⟩
      · have R8 := R7.wipe vs
        rw [wp2] at R8
        exact R8
    · rename_i e2 ht
      refine ⟨Wp, _, L', e1, _, R4, ht, fun H5 L5 t5 R5 b hb => ?_⟩
      subst hb
      show ∃ (L' : AS) (acc : List PyData) (e : En) (ws : List V), _
      have hD5 : H5 D = some (.lst ws) := (t5 D _ (gr D _ hDs) fun z => R'.dis D z (.inr rfl)).1
      have R8 := R5.wipe vs
      rw [wp2] at R8
      exact ⟨L5, acc, wipeE e2 vs, ws, hl', t3.trans t5, R8, hD5, (dn.mv (mv_grow gr)).mv t5.mv⟩
    · cases hl'
  · have ei : i = items.length := by omega
    subst ei
    refine .inl ⟨stop, ?_⟩
    rw [List.drop_length] at hl'
    unfold lcLoop at hl'
    cases hl'
    have RB := R1.back R' t' hD nm
    refine k D ws H' (fun a => L' a ∨ a = D) (t1.trans fun a o ea na => ⟨(t' a o ea na).1, fun z => z.elim (t' a o ea na).2 (ne_of_none ea hD)⟩) (.inr rfl) RB hDs (dn.mv fun a o n e => ⟨fun z => n (z.elim (fun z => z.elim .inl fun w => .inr (.inr w)) fun z => .inr (.inl z)), e⟩) fun j b es e1 e2 => ?_
    obtain ⟨hj, h1⟩ := back_mu nm e1
    obtain ⟨a, ws', e3, l, _⟩ := R'.sl j _ h1
    rw [wipe_out hj, e2] at e3
    cases e3
    exact R'.dis D l (.inr rfl)
section
variable {elt tg iter : Expr} {ifs : List Expr} {scope : Scope} {own : List (Str × Nat)} {pos : Pos} {Gi : GA} {t : Tg} {Gt : GT} {Ge : GE}
theorem pdf_lc (hc : X.calm = true) (hN : X.N.Nodup) (hi : PDI X W tg iter Gi) (ok : BlkOk X.N X.env.scope scope own)
    (hg : ∀ (s : Shared) (H : Hp) (C : Addr) (cl : List (Str × Addr)) (fp : List Addr), PG (X.blk s H scope (compEnvC scope cl C X.env) fp) tg (gTG X.K t)) (ht : ∀ (s : Shared) (H : Hp) (C : Addr) (cl : List (Str × Addr)) (fp : List Addr), PDTs (X.blk s H scope (compEnvC scope cl C X.env) fp) W0 ifs Gt)
    (he : ∀ (s : Shared) (H : Hp) (C : Addr) (cl : List (Str × Addr)) (fp : List Addr), PD (X.blk s H scope (compEnvC scope cl C X.env) fp) W0 elt Ge) (sub : ∀ i ∈ t.is, i ∈ own.map (·.2)) (hs : ∀ x, foldedSetIterable iter X.env x = pure x := by intro _; rfl) :
    PDF X W (.ListComp elt [⟨tg, iter, ifs, 0⟩] scope pos) (gLc Gi t Gt Ge (own.map (·.2))) :=
  ⟨PE.wk (pe_lc hc hN hi.pi ok hg (fun s H C cl fp => (ht s H C cl fp).pts) (fun s H C cl fp => (he s H C cl fp).pe) hs) fun σ H Q q => lc_read sub q⟩
end
end
end PD
namespace PD
open PySem PySem.Spec PyProof.Rows L2
/-! ### statements -/
inductive Fl where
  | nx (e : En) | rt (d : D) (e : En) | bk (e : En) | ct (e : En) | ex (c : Str) (fs : List (Str × D)) (e : En)
abbrev Gs := En → Option Fl
def Fo (X : Cx) (W : WX) (Wp : L2.St) (Fb : AS) (H : Hp) (L : AS) (D : Ends) : Fl → Prop
  | .nx e => ∀ σ' H' L', Tr H L H' L' → ER X.K Wp Fb L' H' σ' e → D.nx σ' H'
  | .rt d e => ∀ v σ' H' L', Tr H L H' L' → ER X.K Wp Fb L' H' σ' e → Dn X.K (U L' Fb) H' v d → D.rt v H'
  | .bk e => ∀ σ' H' L', Tr H L H' L' → ER X.K Wp Fb L' H' σ' e → D.bk σ' H'
  | .ct e => ∀ σ' H' L', Tr H L H' L' → ER X.K Wp Fb L' H' σ' e → D.ct σ' H'
  | .ex c fs e => ∀ cls dd σ' H' L', Tr H L H' L' → ER X.K Wp Fb L' H' σ' e → ExIs X.K X.mg (U L' Fb) H' c fs cls dd → W cls dd σ' H'
theorem Fo.from {X : Cx} {W : WX} {Wp : L2.St} {Fb : AS} {H H1 : Hp} {L L1 : AS} {D : Ends} {r : Fl} (k : Fo X W Wp Fb H L D r) (t : Tr H L H1 L1) : Fo X W Wp Fb H1 L1 D r := by
  cases r with
  | nx e => exact fun σ' H' L' t' R => k σ' H' L' (t.trans t') R
  | rt d e => exact fun v σ' H' L' t' R h => k v σ' H' L' (t.trans t') R h
  | bk e => exact fun σ' H' L' t' R => k σ' H' L' (t.trans t') R
  | ct e => exact fun σ' H' L' t' R => k σ' H' L' (t.trans t') R
  | ex c fs e => exact fun cls dd σ' H' L' t' R x => k cls dd σ' H' L' (t.trans t') R x
def tS (X : Cx) (W : WX) (B : Gs) : TS := fun D σ H => ∃ (Wp : L2.St) (Fb L : AS) (env : En) (r : Fl), ER X.K Wp Fb L H σ env ∧ B env = some r ∧ Fo X W Wp Fb H L D r
structure PDS (X : Cx) (W : WX) (st : Stmt) (B : Gs) : Prop where
  ps : PS X st (tS X W B)
structure PDSs (X : Cx) (W : WX) (st : List Stmt) (B : Gs) : Prop where
  pss : PSs X st (tS X W B)
section
variable {X : Cx} {W : WX}
def gSkip : Gs := fun env => some (.nx env)
def gSeq (B1 B2 : Gs) : Gs := fun env => match B1 env with
  | some (.nx e) => B2 e
  | r => r
theorem pdss_nil : PDSs X W [] gSkip := ⟨PSs.wk pss_nil fun D σ H q => by
  obtain ⟨Wp, Fb, L, env, r, R, g, k⟩ := q
  cases g
  exact k σ H L (Tr.refl H L) R⟩
theorem tS.seq {B1 B2 : Gs} {D : Ends} {σ : L2.St} {H : Hp} (q : tS X W (gSeq B1 B2) D σ H) : tS X W B1 { D with nx := tS X W B2 D } σ H := by
  obtain ⟨Wp, Fb, L, env, r, R, g, k⟩ := q
  unfold gSeq at g
  split at g
  · rename_i e he
    exact ⟨Wp, Fb, L, env, _, R, he, fun σ' H' L' t R' => ⟨Wp, Fb, L', e, r, R', g, k.from t⟩⟩
  · rename_i hn
    refine ⟨Wp, Fb, L, env, r, R, g, ?_⟩
    cases r with
    | nx e => exact (hn e g).elim
    | rt d e => exact k
    | bk e => exact k
    | ct e => exact k
    | ex c fs e => exact k
theorem pdss_cons {st : Stmt} {rest : List Stmt} {B1 B2 : Gs} (h1 : PDS X W st B1) (h2 : PDSs X W rest B2) : PDSs X W (st :: rest) (gSeq B1 B2) := ⟨PSs.wk (pss_cons h1.ps h2.pss) fun D σ H q => tS.seq q⟩
/-- a step of an expression, then the statement's end -/
def gS {α : Type} (g : Gm α) (f : α → Gs) : Gs := fun env => match g env with
  | none => none
  | some (.ok a e) => f a e
  | some (.ex c fs e) => some (.ex c fs e)
theorem tS.after {α β : Type} {ρ : Rel α β} {g : Gm α} {f : α → Gs} {D : Ends} {σ : L2.St} {H : Hp} (q : tS X W (gS g f) D σ H) : tG ρ X W g σ H fun b H1 => ∃ (a : α) (Wp : L2.St) (Fb L : AS) (env : En) (r : Fl), ρ a b (U L Fb) H1 ∧ ER X.K Wp Fb L H1 σ env ∧ f a env = some r ∧ Fo X W Wp Fb H1 L D r := by
  obtain ⟨Wp, Fb, L, env, r, R, h, k⟩ := q
  unfold gS at h
  split at h
  · cases h
  · rename_i a e hg
    exact ⟨Wp, Fb, L, env, _, R, hg, fun H1 L1 t R1 b hb => ⟨a, Wp, Fb, L1, e, r, hb, R1, h, k.from t⟩⟩
  · rename_i c fs e hg
    cases h
    exact ⟨Wp, Fb, L, env, _, R, hg, fun cls dd H' L' t R' x => k cls dd σ H' L' t R' x⟩
theorem tS.afterF {g : GA} {f : List PyData → Gs} {D : Ends} {σ : L2.St} {H : Hp} (q : tS X W (gS g f) D σ H) : tF X W g σ H fun b H1 => ∃ (ds : List PyData) (a : Addr) (vs : List V) (Wp : L2.St) (Fb L : AS) (env : En) (r : Fl), b = .ref a ∧ L a ∧ H1 a = some (.lst vs) ∧ DnA X.K (U L Fb) H1 vs ds ∧
    (∀ (j : Nat) (b : Bool) (es : List PyData), env[j]? = some (.mu b es) → σ[j]? ≠ some (some (.ref a))) ∧ ER X.K Wp Fb L H1 σ env ∧ f ds env = some r ∧ Fo X W Wp Fb H1 L D r := by
  obtain ⟨Wp, Fb, L, env, r, R, h, k⟩ := q
  unfold gS at h
  split at h
  · cases h
  · rename_i a e hg
    exact ⟨Wp, Fb, L, env, _, R, hg, fun p vs H1 L1 t la R1 hp hd ap => ⟨a, p, vs, Wp, Fb, L1, e, r, rfl, la, hp, hd, ap, R1, h, k.from t⟩⟩
  · rename_i c fs e hg
    cases h
    exact ⟨Wp, Fb, L, env, _, R, hg, fun cls dd H' L' t R' x => k cls dd σ H' L' t R' x⟩
def gRet (G : GE) : Gs := gS G fun d env => some (.rt d env)
theorem pds_ret {e : Expr} {G : GE} {pos : Pos} (h : PD X W e G) : PDS X W (.Return (some e) pos) (gRet G) := ⟨PS.wk (ps_ret h.pe) fun D σ H q => (tS.after (ρ := ρD X.K) q).mono fun v H1 z => by
  obtain ⟨d, Wp, Fb, L, env, r, hv, R, g, k⟩ := z
  cases g
  exact k v σ H1 L (Tr.refl H1 L) R hv⟩
theorem pds_retN {pos : Pos} : PDS X W (.Return none pos) (fun env => some (.rt .none env)) := ⟨PS.wk ps_retN fun D σ H q => by
  obtain ⟨Wp, Fb, L, env, r, R, g, k⟩ := q
  cases g
  exact k .non σ H L (Tr.refl H L) R .non⟩
theorem pds_pass {pos : Pos} : PDS X W (.Pass pos) gSkip := ⟨PS.wk ps_pass fun D σ H q => by
  obtain ⟨Wp, Fb, L, env, r, R, g, k⟩ := q
  cases g
  exact k σ H L (Tr.refl H L) R⟩
theorem pds_break {pos : Pos} : PDS X W (.Break pos) (fun env => some (.bk env)) := ⟨PS.wk ps_break fun D σ H q => by
  obtain ⟨Wp, Fb, L, env, r, R, g, k⟩ := q
  cases g
  exact k σ H L (Tr.refl H L) R⟩
theorem pds_continue {pos : Pos} : PDS X W (.Continue pos) (fun env => some (.ct env)) := ⟨PS.wk ps_continue fun D σ H q => by
  obtain ⟨Wp, Fb, L, env, r, R, g, k⟩ := q
  cases g
  exact k σ H L (Tr.refl H L) R⟩
/-- x = e -/
def gAsg (i : Nat) (G : GE) : Gs := gS G fun d env => (setIm env i d).map .nx
theorem pds_asg {x : Str} {p pos : Pos} {e : Expr} {i : Nat} {G : GE} (h : PD X W e G) (hg : PG X (.Name x p) (gName i)) (hs : swapsWithSole [.Name x p] e pos.line X.env = pure false := by rfl) (hw : swappedStores [.Name x p] e X.env = pure none := by rfl)
    (h1 : (assignEach [.Name x p] X.env).map (·.2) = [assign (.Name x p) X.env] := by rfl) : PDS X W (.Assign [.Name x p] e pos) (gAsg i G) := ⟨PS.wk (ps_asg h.pe hg hs hw h1) fun D σ H q => (tS.after (ρ := ρD X.K) q).mono fun v H1 z => by
  obtain ⟨d, Wp, Fb, L, env, r, hv, R, g, k⟩ := z
  obtain ⟨e1, h1, rfl⟩ := Option.map_eq_some_iff.mp g
  exact k _ H1 L (Tr.refl H1 L) (R.setIm hv h1)⟩
/-- x = [..], the list x's own -/
def setMu (env : En) (i : Nat) (ds : List D) : Option En := match env[i]? with
  | some (.mu true _) => none
  | some _ => some (env.set i (.mu false ds))
  | none => none
theorem ER.setMu {K : Fr0} {Wp σ : L2.St} {Fb L : AS} {H : Hp} {env env' : En} (R : ER K Wp Fb L H σ env) {i : Nat} {a : Addr} {vs : List V} {ds : List D} (la : L a) (ha : H a = some (.lst vs)) (hd : DnA K (U L Fb) H vs ds)
    (ap : ∀ (j : Nat) (b : Bool) (es : List D), env[j]? = some (.mu b es) → σ[j]? ≠ some (some (.ref a))) (h : PD.setMu env i ds = some env') : ER K Wp Fb L H (σ.set i (some (.ref a))) env' := by
  unfold PD.setMu at h
  split at h
  · cases h
  · rename_i s hs he
    cases h
    have hlt : i < env.length := (List.getElem?_eq_some_iff.mp he).1
    refine ⟨by simpa using R.len, R.trk, R.dis, fun j t e => ?_, fun j k b c ds' es x ne e1 e2 e3 => ?_⟩
    · by_cases hj : i = j
      · subst hj
        rw [List.getElem?_set_self hlt] at e
        cases e
        exact ⟨a, vs, List.getElem?_set_self (by rw [← R.len]; exact hlt), la, ha, hd, fun z => by cases z⟩
      · rw [List.getElem?_set_ne hj] at e
        rw [List.getElem?_set_ne hj]
        exact R.sl j t e
    · by_cases hj : i = j
      · subst hj
        rw [List.getElem?_set_ne ne] at e2 ⊢
        rw [List.getElem?_set_self (by rw [← R.len]; exact hlt)] at e3
        have e3' : V.ref a = V.ref x := Option.some.inj (Option.some.inj e3)
        cases e3'
        exact ap k _ _ e2
      · rw [List.getElem?_set_ne hj] at e1 e3
        by_cases hk : i = k
        · subst hk
          rw [List.getElem?_set_self (by rw [← R.len]; exact hlt)]
          intro z
          have z' : V.ref a = V.ref x := Option.some.inj (Option.some.inj z)
          cases z'
          exact ap j _ _ e1 e3
        · rw [List.getElem?_set_ne hk] at e2 ⊢
          exact R.apart j k b c ds' es x ne e1 e2 e3
  · cases h
def gAsgF (i : Nat) (G : GA) : Gs := gS G fun ds env => (setMu env i ds).map .nx
theorem asgF_read {i : Nat} {G : GA} {D : Ends} {σ : L2.St} {H : Hp} (q : tS X W (gAsgF i G) D σ H) : tF X W G σ H fun b H1 => gName i b σ H1 D.nx := by
  have q2 := tS.afterF q
  obtain ⟨Wp, Fb, L, env, r, R, g, k⟩ := q2
  refine ⟨Wp, Fb, L, env, r, R, g, ?_⟩
  cases r with
  | ex c fs e => exact k
  | ok ds e =>
    intro a vs H' L' t la R' ha hd ap
    obtain ⟨ds', a', vs', Wp', Fb', L2, env2, r2, e1, la2, ha2, hd2, ap2, R2, g2, k2⟩ := k a vs H' L' t la R' ha hd ap
    cases e1
    obtain ⟨e2, h2, rfl⟩ := Option.map_eq_some_iff.mp g2
    exact k2 _ H' L2 (Tr.refl H' L2) (R2.setMu la2 ha2 hd2 ap2 h2)
theorem pds_asgF {x : Str} {p pos : Pos} {e : Expr} {i : Nat} {G : GA} (h : PDF X W e G) (hg : PG X (.Name x p) (gName i)) (hs : swapsWithSole [.Name x p] e pos.line X.env = pure false := by rfl) (hw : swappedStores [.Name x p] e X.env = pure none := by rfl)
    (h1 : (assignEach [.Name x p] X.env).map (·.2) = [assign (.Name x p) X.env] := by rfl) : PDS X W (.Assign [.Name x p] e pos) (gAsgF i G) := ⟨PS.wk (ps_asg h.pe hg hs hw h1) fun D σ H q => asgF_read q⟩
section
variable {elt tg iter : Expr} {ifs : List Expr} {scope : Scope} {own : List (Str × Nat)} {pos spos py : Pos} {Gi : GA} {t : Tg} {Gt : GT} {Ge : GE} {y : Str} {i : Nat}
theorem pds_asgLc (hc : X.calm = true) (hN : X.N.Nodup) (hy : X.N[i]? = some y) (hyl : X.env.scope.names.lookup y = some .local) (hsw : swapsWith (.ListComp elt [⟨tg, iter, ifs, 0⟩] scope pos) (some (.Name y py)) spos.line X.env = pure true) (hi : PDI X W tg iter Gi) (ok : BlkOk X.N X.env.scope scope own)
    (hg : ∀ (s : Shared) (H : Hp) (C : Addr) (cl : List (Str × Addr)) (fp : List Addr), PG (X.blk s H scope (compEnvC scope cl C X.env) fp) tg (gTG X.K t)) (ht : ∀ (s : Shared) (H : Hp) (C : Addr) (cl : List (Str × Addr)) (fp : List Addr), PDTs (X.blk s H scope (compEnvC scope cl C X.env) fp) W0 ifs Gt)
    (he : ∀ (s : Shared) (H : Hp) (C : Addr) (cl : List (Str × Addr)) (fp : List Addr), PD (X.blk s H scope (compEnvC scope cl C X.env) fp) W0 elt Ge) (sub : ∀ i ∈ t.is, i ∈ own.map (·.2)) (hs : ∀ x, foldedSetIterable iter X.env x = pure x := by intro _; rfl) :
    PDS X W (.Assign [.Name y py] (.ListComp elt [⟨tg, iter, ifs, 0⟩] scope pos) spos) (gAsgF i (gLc Gi t Gt Ge (own.map (·.2)))) :=
  ⟨PS.wk (ps_setLc hc hN hy hyl hsw hi.pi ok hg (fun s H C cl fp => (ht s H C cl fp).pts) (fun s H C cl fp => (he s H C cl fp).pe) hs) fun D σ H q => lc_read sub (asgF_read q)⟩
end
/-- a, b = e1, e2 -/
def gPar (is : List Nat) (G : GA) : Gs := gS G fun ds env => (setIms env is ds).map .nx
theorem pds_par {i j : Nat} {x y : Str} {a b : Expr} {px py pt pos pos2 : Pos} {kt k2 : Nat} {G : GA} (h : PDA X W [a, b] G) (hp : ∀ {ta : TA}, PA X [a, b] ta → PS X (.Assign [.Tuple [.Name x px, .Name y py] kt pt] (.Tuple [a, b] k2 pos2) pos) (tPar i j ta)) :
    PDS X W (.Assign [.Tuple [.Name x px, .Name y py] kt pt] (.Tuple [a, b] k2 pos2) pos) (gPar [i, j] G) := ⟨PS.wk (hp h.pa) fun D σ H q => (tS.after (ρ := ρA X.K) q).mono fun vs H1 z => by
  obtain ⟨ds, Wp, Fb, L, env, r, hv, R, g, k⟩ := z
  obtain ⟨e1, h1, rfl⟩ := Option.map_eq_some_iff.mp g
  obtain ⟨hl, R'⟩ := R.setIms hv h1
  match vs, hl with
  | [u, w], _ => exact ⟨u, w, rfl, k _ H1 L (Tr.refl H1 L) R'⟩⟩
theorem pds_par3 {i j l : Nat} {x y z : Str} {a b c : Expr} {px py pz pt pos pos2 : Pos} {kt k2 : Nat} {G : GA} (h : PDA X W [a, b, c] G) (hp : ∀ {ta : TA}, PA X [a, b, c] ta → PS X (.Assign [.Tuple [.Name x px, .Name y py, .Name z pz] kt pt] (.Tuple [a, b, c] k2 pos2) pos) (tPar3 i j l ta)) :
    PDS X W (.Assign [.Tuple [.Name x px, .Name y py, .Name z pz] kt pt] (.Tuple [a, b, c] k2 pos2) pos) (gPar [i, j, l] G) := ⟨PS.wk (hp h.pa) fun D σ H q => (tS.after (ρ := ρA X.K) q).mono fun vs H1 z => by
  obtain ⟨ds, Wp, Fb, L, env, r, hv, R, g, k⟩ := z
  obtain ⟨e1, h1, rfl⟩ := Option.map_eq_some_iff.mp g
  obtain ⟨hl, R'⟩ := R.setIms hv h1
  match vs, hl with
  | [u, w, v], _ => exact ⟨u, w, v, rfl, k _ H1 L (Tr.refl H1 L) R'⟩⟩
/-- any target without a subscript -/
def gAsgT (t : Tg) (G : GE) : Gs := gS G fun d env => (tTG t d env).map .nx
theorem pds_asgT {tg e : Expr} {pos : Pos} {t : Tg} {G : GE} (h : PD X W e G) (hg : PG X tg (gTG X.K t)) (hs : swapsWithSole [tg] e pos.line X.env = pure false := by rfl) (hw : swappedStores [tg] e X.env = pure none := by rfl)
    (h1 : (assignEach [tg] X.env).map (·.2) = [assign tg X.env] := by rfl) : PDS X W (.Assign [tg] e pos) (gAsgT t G) := ⟨PS.wk (ps_asg h.pe hg hs hw h1) fun D σ H q => (tS.after (ρ := ρD X.K) q).mono fun v H1 z => by
  obtain ⟨d, Wp, Fb, L, env, r, hv, R, g, k⟩ := z
  obtain ⟨e1, h1, rfl⟩ := Option.map_eq_some_iff.mp g
  exact gTG_read R hv h1 fun vals hl R' => k _ H1 L (Tr.refl H1 L) R'⟩
/-! ### one's own list changed -/
theorem ER.chg {K : Fr0} {Wp σ : L2.St} {Fb L : AS} {H : Hp} {env : En} (R : ER K Wp Fb L H σ env) {i : Nat} {b : Bool} {ds es : List D} {a : Addr} {ws : List V} (he : env[i]? = some (.mu b ds)) (hs : σ[i]? = some (some (.ref a))) (dn : DnA K (U L Fb) H ws es) :
    ER K Wp Fb L (upd H a (.lst ws)) σ (env.set i (.mu b es)) ∧ Tr H L (upd H a (.lst ws)) L ∧ Mv (U L Fb) H (U L Fb) (upd H a (.lst ws)) := by
  obtain ⟨a', vs, e1, la, h1, h2, w⟩ := R.sl i _ he
  rw [hs] at e1
  cases e1
  have hlt : i < env.length := (List.getElem?_eq_some_iff.mp he).1
  have m : Mv (U L Fb) H (U L Fb) (upd H a (.lst ws)) := fun c o n e => by
    have ne : c ≠ a := fun z => n (by subst z; exact .inl la)
    exact ⟨n, by rw [upd_ne ne]; exact e⟩
  refine ⟨⟨by simpa using R.len, fun c h => ?_, R.dis, fun j t e => ?_, fun j k c d ds' es' x ne e1 e2 e3 => ?_⟩, fun c o e n => ?_, m⟩
  · by_cases hc : c = a
    · subst hc; exact ⟨_, upd_same⟩
    · obtain ⟨o, e⟩ := R.trk c h
      exact ⟨o, by rw [upd_ne hc]; exact e⟩
  · by_cases hj : i = j
    · subst hj
      rw [List.getElem?_set_self hlt] at e
      cases e
      exact ⟨a, ws, hs, la, upd_same, dn.mv m, w⟩
    · rw [List.getElem?_set_ne hj] at e
      have q := R.sl j t e
      cases t with
      | no => trivial
      | im d => obtain ⟨v, e2, h⟩ := q; exact ⟨v, e2, h.mv m⟩
      | mu c fs =>
        obtain ⟨x, vs', e2, l', h1', h2', w'⟩ := q
        have ne : x ≠ a := fun z => by
          subst z
          exact R.apart i j _ _ _ _ x hj he e hs e2
        exact ⟨x, vs', e2, l', by rw [upd_ne ne]; exact h1', h2'.mv m, w'⟩
  · have f : ∀ {j : Nat} {c : Bool} {fs : List D}, (env.set i (.mu b es))[j]? = some (.mu c fs) → ∃ c' fs', env[j]? = some (.mu c' fs') := fun {j c fs} h => by
      by_cases hj : i = j
      · subst hj; exact ⟨_, _, he⟩
      · rw [List.getElem?_set_ne hj] at h; exact ⟨_, _, h⟩
    obtain ⟨_, _, f1⟩ := f e1
    obtain ⟨_, _, f2⟩ := f e2
    exact R.apart j k _ _ _ _ x ne f1 f2 e3
  · have ne : c ≠ a := fun z => n (by subst z; exact la)
    exact ⟨by rw [upd_ne ne]; exact e, n⟩
/-- what one's own list at slot i holds -/
def own? (env : En) (i : Nat) : Option (Bool × List D) := match env[i]? with
  | some (.mu b ds) => some (b, ds)
  | _ => none
theorem own_of {env : En} {i : Nat} {b : Bool} {ds : List D} (h : own? env i = some (b, ds)) : env[i]? = some (.mu b ds) := by
  unfold own? at h
  split at h
  · cases h; assumption
  · cases h
/-- x[j] = e -/
def setN? (env : En) (i : Nat) (z d : D) : Option En := match z with
  | .int k => (own? env i).bind fun p => (ixN p.2.length k).map fun j => env.set i (.mu p.1 (p.2.set j d))
  | _ => none
def gSetN (i : Nat) (Gi G : GE) : Gs := gS G fun d => gS (gHas i Gi) fun z env => (setN? env i z d).map .nx
theorem pds_setN {y : Str} {q p pos : Pos} {i : Nat} {ix e : Expr} {Gi G : GE} (hn : PE X (.Name y q) (tVar i)) (hi : PD X W ix Gi) (h : PD X W e G) (hg : ∀ {to ti : TE}, PE X (.Name y q) to → PE X ix ti → PG X (.Subscript (.Name y q) ix p) (gSub to ti rSetL))
    (hs : swapsWithSole [.Subscript (.Name y q) ix p] e pos.line X.env = pure false := by rfl) (hw : swappedStores [.Subscript (.Name y q) ix p] e X.env = pure none := by rfl)
    (h1 : (assignEach [.Subscript (.Name y q) ix p] X.env).map (·.2) = [assign (.Subscript (.Name y q) ix p) X.env] := by rfl) : PDS X W (.Assign [.Subscript (.Name y q) ix p] e pos) (gSetN i Gi G) :=
  ⟨PS.wk (ps_asg h.pe (hg hn hi.pe) hs hw h1) fun D σ H q => (tS.after (ρ := ρD X.K) q).mono fun v H1 z => by
    obtain ⟨d, Wp, Fb, L, env, r, hv, R, g, k⟩ := z
    show ∃ o, σ[i]? = some (some o) ∧ tD X W Gi σ H1 fun iv H2 => rSetL o iv v H2 fun H3 => D.nx σ H3
    unfold gS at g
    split at g
    · cases g
    · rename_i z e1 hz
      obtain ⟨⟨d0, hd0⟩, hz⟩ := gHas_of hz
      obtain ⟨o, eo, _⟩ := R.peek hd0
      refine ⟨o, eo, Wp, Fb, L, env, _, R, hz, fun H2 L2 t2 R2 iv hiv => ?_⟩
      obtain ⟨e2, h2, rfl⟩ := Option.map_eq_some_iff.mp g
      unfold setN? at h2
      split at h2
      · skip
        obtain ⟨p, ho, h2⟩ := Option.bind_eq_some_iff.mp h2
        obtain ⟨j, hj, rfl⟩ := Option.map_eq_some_iff.mp h2
        have ho := own_of (b := p.1) (ds := p.2) ho
        obtain ⟨a, vs, e2, la, h2, h3, _⟩ := R2.sl i _ ho
        rw [eo] at e2
        cases e2
        cases hiv
        obtain ⟨R3, t3, m3⟩ := R2.chg ho eo (h3.set j (hv.mv t2.mv))
        exact ⟨a, vs, _, j, rfl, rfl, h2, by rw [h3.length]; exact hj, k σ _ L2 (t2.trans t3) R3⟩
      · cases h2
    · rename_i c fs e1 hz
      cases g
      obtain ⟨⟨d0, hd0⟩, hz⟩ := gHas_of hz
      obtain ⟨o, eo, _⟩ := R.peek hd0
      exact ⟨o, eo, Wp, Fb, L, env, _, R, hz, fun cls dd H' L' t R' x => k cls dd σ H' L' t R' x⟩⟩
/-- x.append(e) -/
def gHasO {α : Type} (i : Nat) (G : Gm α) : Gm α := fun env => match own? env i with
  | some _ => G env
  | none => none
theorem gHasO_of {α : Type} {i : Nat} {G : Gm α} {env : En} {r : Rs α} (h : gHasO i G env = some r) : (∃ b ds, env[i]? = some (.mu b ds)) ∧ G env = some r := by
  unfold gHasO at h
  split at h
  · rename_i p hp
    exact ⟨⟨p.1, p.2, own_of hp⟩, h⟩
  · cases h
def gApp (i : Nat) (G : GE) : Gs := gS (gHasO i G) fun d env => match own? env i with
  | some (b, ds) => if ds.length < 100000 then some (.nx (env.set i (.mu b (ds ++ [d])))) else none
  | none => none
theorem app_read {i : Nat} {G : GE} {D : Ends} {σ : L2.St} {H : Hp} (q : tS X W (gApp i G) D σ H) : tDrop (tBM X.K "list" rAppend (tVar i) (L2.tCons (tD X W G) tNil)) D σ H := by
  obtain ⟨Wp, Fb, L, env, r, R, g, k⟩ := q
  unfold gApp gS at g
  split at g
  · cases g
  · rename_i d e1 hz
    obtain ⟨⟨b0, ds0, h0⟩, hz⟩ := gHasO_of hz
    obtain ⟨a, vs, e2, la, h2, h3, _⟩ := R.sl i _ h0
    refine ⟨_, e2, .inl ⟨rfl, vs, SqL.of h2⟩, Wp, Fb, L, env, _, R, hz, fun H1 L1 t1 R1 v hv => ?_⟩
    dsimp only at g
    split at g
    · rename_i b ds ho
      split at g
      · rename_i hl
        cases g
        have ho := own_of ho
        obtain ⟨a', ws, e3, la1, h4, h5, _⟩ := R1.sl i _ ho
        rw [e2] at e3
        cases e3
        obtain ⟨R3, t3, m3⟩ := R1.chg ho e2 (h5.app (.cons hv .nil))
        exact ⟨a, ws, v, rfl, rfl, h4, Nat.lt_of_lt_of_le (by rw [h5.length]; exact hl) (by decide), k σ _ L1 (t1.trans t3) R3⟩
      · cases g
    · cases g
  · rename_i c fs e1 hz
    cases g
    obtain ⟨⟨b0, ds0, h0⟩, hz⟩ := gHasO_of hz
    obtain ⟨a, vs, e2, la, h2, h3, _⟩ := R.sl i _ h0
    exact ⟨_, e2, .inl ⟨rfl, vs, SqL.of h2⟩, Wp, Fb, L, env, _, R, hz, fun cls dd H' L' t R' x => k cls dd σ H' L' t R' x⟩
theorem pds_app {st : Stmt} {i : Nat} {e : Expr} {G : GE} (h : PD X W e G) (hp : ∀ {te : TE}, PE X e te → PS X st (tDrop (tBM X.K "list" rAppend (tVar i) (L2.tCons te tNil)))) : PDS X W st (gApp i G) := ⟨PS.wk (hp h.pe) fun D σ H q => app_read q⟩
/-- if -/
def gIfS (Gt : GT) (B1 B2 : Gs) : Gs := gS Gt fun b => if b = true then B1 else B2
theorem pds_if {c : Expr} {a b : List Stmt} {pos : Pos} {Gt : GT} {B1 B2 : Gs} (hc : PDT X W c Gt) (ha : PDSs X W a B1) (hb : PDSs X W b B2) : PDS X W (.If c a b pos) (gIfS Gt B1 B2) := ⟨PS.wk (ps_if hc.pt ha.pss hb.pss) fun D σ H q => (tS.after (ρ := ρB) q).mono fun v H1 z => by
  obtain ⟨d, Wp, Fb, L, env, r, hv, R, g, k⟩ := z
  subst hv
  cases v with
  | true => exact ⟨Wp, Fb, L, env, r, R, g, k⟩
  | false => exact ⟨Wp, Fb, L, env, r, R, g, k⟩⟩
/-- an expression as a statement -/
theorem pds_expr {e : Expr} {pos : Pos} {G : GE} (h : PD X W e G) (hs : swapsWith e none pos.line X.env = pure false := by rfl) : PDS X W (.Expr e pos) (gS G fun _ env => some (.nx env)) := ⟨PS.wk (ps_expr h.pe hs) fun D σ H q => (tS.after (ρ := ρD X.K) q).mono fun v H1 z => by
  obtain ⟨d, Wp, Fb, L, env, r, hv, R, g, k⟩ := z
  cases g
  exact k σ H1 L (Tr.refl H1 L) R⟩
end
end PD
namespace PD
open PySem PySem.Spec PyProof.Rows L2
section
variable {X : Cx} {W : WX}
/-! ### for -/
def forLoop (t : Tg) (B : Gs) : List D → Gs
  | [], e => some (.nx e)
  | d :: ds, e => match tTG t d e with
    | none => none
    | some e1 => match B e1 with
      | some (.nx e2) => forLoop t B ds e2
      | some (.ct e2) => forLoop t B ds e2
      | some (.bk e2) => some (.nx e2)
      | some (.rt v e2) => some (.rt v e2)
      | some (.ex c fs e2) => some (.ex c fs e2)
      | none => none
def gFor (Gi : GA) (t : Tg) (B : Gs) : Gs := gS Gi fun items => forLoop t B items
theorem pds_for {tg iter : Expr} {body : List Stmt} {pos : Pos} {Gi : GA} {t : Tg} {B : Gs} (hp : PassesOwn (model X.prog X.w) X.A X.env X.xe) (hc : X.calm = true) (hi : PDI X W tg iter Gi) (hg : PG X tg (gTG X.K t)) (hb : PDSs X W body B)
    (hs : ∀ x, foldedSetIterable iter X.env x = pure x := by intro _; rfl) : PDS X W (.For tg iter body [] pos) (gFor Gi t B) := ⟨PS.wk (ps_for hp hc hi.pi hg hb.pss hs) fun Dn σ H q => by
  obtain ⟨Wp, Fb, L, env, r, R, g, k⟩ := q
  unfold gFor gS at g
  split at g
  · cases g
  rotate_left
  · rename_i c fs e hg
    cases g
    exact ⟨Wp, Fb, L, env, _, R, hg, fun cls dd H' L' t R' x => k cls dd σ H' L' t R' x⟩
  rename_i items e0 hgi
  refine ⟨Wp, Fb, L, env, _, R, hgi, fun H1 L1 t1 R1 J wk => ?_⟩
  refine ⟨fun i m σ' H' => m = items.length - i ∧ i ≤ items.length ∧ ∃ (L' : AS) (e : En), forLoop t B (items.drop i) e = some r ∧ Tr H1 L1 H' L' ∧ ER X.K Wp Fb L' H' σ' e, ⟨_, rfl, Nat.zero_le _, L1, e0, g, Tr.refl H1 L1, R1⟩, ?_⟩
  rintro i m σ' H' ⟨rfl, hi, L', e, hl, t', R'⟩
  obtain ⟨go, stop⟩ := wk Fb L' H' (fun a h => .inl h) t' R'.trk
  by_cases hlt : i < items.length
  · refine .inr ?_
    have hd : items[i]? = some items[i] := by simp [hlt]
    obtain ⟨g1, g2⟩ := go i _ hd
    rw [List.drop_eq_getElem_cons hlt] at hl
    unfold forLoop at hl
    refine ⟨g1, fun σ'' H'' => ∃ (L' : AS) (e : En), forLoop t B (items.drop (i + 1)) e = some r ∧ Tr H1 L1 H'' L' ∧ ER X.K Wp Fb L' H'' σ'' e, fun σ'' H'' z => ⟨items.length - (i + 1), by omega, rfl, hlt, z⟩, fun x H3 y => ?_⟩
    obtain ⟨gr, dx⟩ := g2 x H3 y
    have R3 := R'.grow gr
    have t3 : Tr H1 L1 H3 L' := t'.trans (grow_tr gr)
    split at hl
    · cases hl
    rename_i e1 he1
    refine gTG_read R3 dx he1 fun vals hvl R4 => ?_
    have kk := k.from (t1.trans t3)
    split at hl
    · rename_i e2 hB
      exact ⟨Wp, Fb, L', e1, _, R4, hB, fun σ5 H5 L5 t5 R5 => ⟨L5, e2, hl, t3.trans t5, R5⟩⟩
    · rename_i e2 hB
      exact ⟨Wp, Fb, L', e1, _, R4, hB, fun σ5 H5 L5 t5 R5 => ⟨L5, e2, hl, t3.trans t5, R5⟩⟩
    · rename_i e2 hB
      cases hl
      exact ⟨Wp, Fb, L', e1, _, R4, hB, fun σ5 H5 L5 t5 R5 => kk σ5 H5 L5 t5 R5⟩
    · rename_i v e2 hB
      cases hl
      exact ⟨Wp, Fb, L', e1, _, R4, hB, kk⟩
    · rename_i c fs e2 hB
      cases hl
      exact ⟨Wp, Fb, L', e1, _, R4, hB, kk⟩
    · cases hl
  · have ei : i = items.length := by omega
    subst ei
    rw [List.drop_length] at hl
    unfold forLoop at hl
    cases hl
    exact .inl ⟨stop, k σ' H' L' (t1.trans t') R'⟩⟩
/-! ### while -/
def whileLoop (C : GT) (B : Gs) : Nat → Gs
  | 0, _ => none
  | n + 1, e => match C e with
    | some (.ok false e1) => some (.nx e1)
    | some (.ex c fs e1) => some (.ex c fs e1)
    | none => none
    | some (.ok true e1) => match B e1 with
      | some (.nx e2) => whileLoop C B n e2
      | some (.ct e2) => whileLoop C B n e2
      | some (.bk e2) => some (.nx e2)
      | some (.rt v e2) => some (.rt v e2)
      | some (.ex c fs e2) => some (.ex c fs e2)
      | none => none
theorem pds_while {c : Expr} {body : List Stmt} {pos : Pos} {C : GT} {B : Gs} (n : Nat) (hp : PassesOwn (model X.prog X.w) X.A X.env X.xe) (hc : PDT X W c C) (hb : PDSs X W body B) : PDS X W (.While c body [] pos) (whileLoop C B n) := ⟨PS.wk (ps_while hp hc.pt hb.pss) fun Dn σ H q => by
  obtain ⟨Wp, Fb, L, env, r, R, g, k⟩ := q
  refine ⟨fun m σ' H' => ∃ (L' : AS) (e : En), whileLoop C B m e = some r ∧ Tr H L H' L' ∧ ER X.K Wp Fb L' H' σ' e, ⟨n, L, env, g, Tr.refl H L, R⟩, ?_⟩
  rintro m σ' H' ⟨L', e, hl, t', R'⟩
  cases m with
  | zero => cases hl
  | succ m =>
    unfold whileLoop at hl
    split at hl
    · rename_i e1 hC
      cases hl
      refine ⟨Wp, Fb, L', e, _, R', hC, fun H2 L2 t2 R2 b hb => ?_⟩
      subst hb
      rw [if_neg Bool.false_ne_true]
      exact k σ' H2 L2 (t'.trans t2) R2
    · rename_i c fs e1 hC
      cases hl
      exact ⟨Wp, Fb, L', e, _, R', hC, fun cls dd H2 L2 t2 R2 x => k cls dd σ' H2 L2 (t'.trans t2) R2 x⟩
    · cases hl
    · rename_i e1 hC
      refine ⟨Wp, Fb, L', e, _, R', hC, fun H2 L2 t2 R2 b hb => ?_⟩
      subst hb
      rw [if_pos rfl]
      refine ⟨fun σ3 H3 => ∃ (L3 : AS) (e3 : En), whileLoop C B m e3 = some r ∧ Tr H L H3 L3 ∧ ER X.K Wp Fb L3 H3 σ3 e3, fun σ3 H3 z => ⟨m, Nat.lt_succ_self m, z⟩, ?_⟩
      have tt := t'.trans t2
      have kk := k.from tt
      split at hl
      · rename_i e2 hB
        exact ⟨Wp, Fb, L2, e1, _, R2, hB, fun σ5 H5 L5 t5 R5 => ⟨L5, e2, hl, tt.trans t5, R5⟩⟩
      · rename_i e2 hB
        exact ⟨Wp, Fb, L2, e1, _, R2, hB, fun σ5 H5 L5 t5 R5 => ⟨L5, e2, hl, tt.trans t5, R5⟩⟩
      · rename_i e2 hB
        cases hl
        exact ⟨Wp, Fb, L2, e1, _, R2, hB, fun σ5 H5 L5 t5 R5 => kk σ5 H5 L5 t5 R5⟩
      · rename_i v e2 hB
        cases hl
        exact ⟨Wp, Fb, L2, e1, _, R2, hB, kk⟩
      · rename_i c fs e2 hB
        cases hl
        exact ⟨Wp, Fb, L2, e1, _, R2, hB, kk⟩
      · cases hl⟩
/-! ### calls of the text's own defs -/
inductive Ar where
  | val (d : D) | bor (i : Nat)
inductive FR where
  | val (d : D) (sl : List Sl)
  | exc (c : Str) (fs : List (Str × D)) (sl : List Sl)
def Only (vs : List V) (sl : List Sl) (L : AS) : Prop := ∀ a, L a → ∃ (i : Nat) (ds : List D), sl[i]? = some (.mu true ds) ∧ vs[i]? = some (.ref a)
def spF (K : Fr0) (mg : Str → Option Value) (F : List Sl → Option FR) : Sp := fun vs H Q E => ∃ (Fb L : AS) (sl : List Sl) (r : FR), ER K (vs.map some) Fb L H (vs.map some) sl ∧ Only vs sl L ∧ F sl = some r ∧ match r with
  | .val d sl' => ∀ v H', (∀ a o, H a = some o → ¬ L a → H' a = some o) → ER K (vs.map some) Fb L H' (vs.map some) sl' → Dn K (U L Fb) H' v d → Q v H'
  | .exc c fs sl' => ∀ cls dd H', (∀ a o, H a = some o → ¬ L a → H' a = some o) → ER K (vs.map some) Fb L H' (vs.map some) sl' → ExIs K mg (U L Fb) H' c fs cls dd → E cls dd H'
def ρAr (K : Fr0) (σ : L2.St) : Rel Ar V := fun a v F H => match a with
  | .val d => Dn K F H v d
  | .bor i => σ[i]? = some (some v)
inductive All2 {α β : Type} (P : α → β → Prop) : List α → List β → Prop
  | nil : All2 P [] []
  | cons {a : α} {b : β} {as : List α} {bs : List β} : P a b → All2 P as bs → All2 P (a :: as) (b :: bs)
theorem All2.imp {α β : Type} {P Q : α → β → Prop} (f : ∀ a b, P a b → Q a b) : ∀ {as : List α} {bs : List β}, All2 P as bs → All2 Q as bs
  | _, _, .nil => .nil
  | _, _, .cons h t => .cons (f _ _ h) (All2.imp f t)
theorem All2.length {α β : Type} {P : α → β → Prop} : ∀ {as : List α} {bs : List β}, All2 P as bs → as.length = bs.length
  | _, _, .nil => rfl
  | _, _, .cons h t => by simp [All2.length t]
theorem All2.get {α β : Type} {P : α → β → Prop} : ∀ {as : List α} {bs : List β} {i : Nat} {a : α}, All2 P as bs → as[i]? = some a → ∃ b, bs[i]? = some b ∧ P a b
  | _, _, _, _, .nil, h => by simp at h
  | _, _, 0, _, .cons h t, e => by simp at e; subst e; exact ⟨_, rfl, h⟩
  | _, _, i + 1, _, .cons h t, e => by
    obtain ⟨b, h1, h2⟩ := All2.get (i := i) t (by simpa using e)
    exact ⟨b, by simpa using h1, h2⟩
abbrev ρAs (K : Fr0) (σ : L2.St) : Rel (List Ar) (List V) := fun as vs F H => All2 (fun a v => ρAr K σ a v F H) as vs
theorem stabAr (K : Fr0) (σ : L2.St) : Stab (ρAr K σ) := fun a b F H F' H' m h => by
  cases a with
  | val d => exact Dn.mv m h
  | bor i => exact h
theorem stabAs (K : Fr0) (σ : L2.St) : Stab (ρAs K σ) := fun a b F H F' H' m h => h.imp fun a b h => stabAr K σ a b F H F' H' m h
structure PDR (X : Cx) (W : WX) (es : List Expr) (G : Gm (List Ar)) : Prop where
  pa : PA X es (fun σ H Q => tG (ρAs X.K σ) X W G σ H Q)
theorem pdr_nil : PDR X W [] (gP []) := ⟨PA.wk pa_nil fun σ H Q q => by
  obtain ⟨Wp, Fb, L, env, r, R, g, k⟩ := q
  cases gP_some g
  exact k H L (Tr.refl H L) R [] .nil⟩
def gArV (Ga : GE) (Gr : Gm (List Ar)) : Gm (List Ar) := gB Ga fun d => gB Gr fun as => gP (.val d :: as)
theorem pdr_val {e : Expr} {es : List Expr} {Ga : GE} {Gr : Gm (List Ar)} (ha : PD X W e Ga) (hr : PDR X W es Gr) (hs : starEach (e :: es) X.env = (false, eval e X.env) :: starEach es X.env := by rfl) : PDR X W (e :: es) (gArV Ga Gr) :=
  ⟨PA.wk (pa_cons ha.pe hr.pa hs) fun σ H Q q => (tG.seq2 (ρ := ρD X.K) (ρ1 := ρAs X.K σ) (stabD X.K) q).mono fun x H1 z => z.mono fun xs H2 z => by
    obtain ⟨d, ds, Wp, Fb, L, env, r, hx, hy, R, g, k⟩ := z
    cases gP_some g
    exact k H2 L (Tr.refl H2 L) R (x :: xs) (.cons hx hy)⟩
def gArB (i : Nat) (Gr : Gm (List Ar)) : Gm (List Ar) := gHasO i (gB Gr fun as => gP (.bor i :: as))
theorem pdr_bor {i : Nat} {x : Str} {p : Pos} {es : List Expr} {Gr : Gm (List Ar)} (ha : PE X (.Name x p) (tVar i)) (hr : PDR X W es Gr) (hs : starEach (.Name x p :: es) X.env = (false, eval (.Name x p) X.env) :: starEach es X.env := by rfl) : PDR X W (.Name x p :: es) (gArB i Gr) :=
  ⟨PA.wk (pa_cons ha hr.pa hs) fun σ H Q q => by
    obtain ⟨Wp, Fb, L, env, r, R, g, k⟩ := q
    obtain ⟨⟨b, ds, h0⟩, g⟩ := gHasO_of g
    obtain ⟨a, vs, e2, la, h2, h3, _⟩ := R.sl i _ h0
    refine ⟨_, e2, (tG.seq (ρ := ρAs X.K σ) (ρ' := ρAs X.K σ) (X := X) (W := W) ⟨Wp, Fb, L, env, r, R, g, k⟩).mono fun xs H2 z => ?_⟩
    obtain ⟨ds, Wp, Fb, L, env, r, hx, R, g, k⟩ := z
    cases gP_some g
    exact k H2 L (Tr.refl H2 L) R (_ :: xs) (.cons e2 hx)⟩
/-- the arguments as the def's slots -/
def slotsOf (env : En) : List Ar → Option (List Sl)
  | [] => some []
  | .val d :: as => (slotsOf env as).map (.im d :: ·)
  | .bor i :: as => (own? env i).bind fun p => (slotsOf env as).map (.mu true p.2 :: ·)
def bors : List Ar → List Nat
  | [] => []
  | .val _ :: as => bors as
  | .bor i :: as => i :: bors as
/-- what was lent, as it comes back -/
def takeBack (env : En) : List Ar → List Sl → Option En
  | [], [] => some env
  | .val _ :: as, _ :: sl => takeBack env as sl
  | .bor i :: as, .mu true ds :: sl => (own? env i).bind fun p => takeBack (env.set i (.mu p.1 ds)) as sl
  | _, _ => none
def gCallF (F : List Sl → Option FR) (G : Gm (List Ar)) : GE := gB G fun as env => match slotsOf env as with
  | none => none
  | some sl => if (bors as).Nodup then match F sl with
    | none => none
    | some (.val d sl') => (takeBack env as sl').map fun e => .ok d e
    | some (.exc c fs sl') => (takeBack env as sl').map fun e => .ex c fs e
  else none
end
end PD
namespace PD
open PySem PySem.Spec PyProof.Rows L2
/-! ### what a call lends -/
section
variable {K : Fr0} {Wp σ : L2.St} {Fb L : AS} {H : Hp} {env : En}
/-- the addresses lent -/
def Lent (σ : L2.St) (as : List Ar) : AS := fun a => ∃ i, i ∈ bors as ∧ σ[i]? = some (some (.ref a))
theorem slots_mu : ∀ {as : List Ar} {sl : List Sl} {i : Nat}, slotsOf env as = some sl → i ∈ bors as → ∃ b ds, env[i]? = some (.mu b ds)
  | [], _, _, _, h => by simp [bors] at h
  | .val d :: as, sl, i, e, h => by
    obtain ⟨s2, h1, _⟩ := Option.map_eq_some_iff.mp e
    exact slots_mu h1 (by simpa [bors] using h)
  | .bor j :: as, sl, i, e, h => by
    obtain ⟨p, h1, h2⟩ := Option.bind_eq_some_iff.mp e
    obtain ⟨s2, h3, _⟩ := Option.map_eq_some_iff.mp h2
    rcases List.mem_cons.mp (show i ∈ j :: bors as from h) with z | z
    · subst z; exact ⟨p.1, p.2, own_of h1⟩
    · exact slots_mu h3 z
theorem Lent.own (R : ER K Wp Fb L H σ env) {as : List Ar} {sl : List Sl} (e : slotsOf env as = some sl) : ∀ a, Lent σ as a → L a := fun a ⟨i, hi, hs⟩ => by
  obtain ⟨b, ds, he⟩ := slots_mu e hi
  obtain ⟨a', vs, e1, la, _⟩ := R.sl i _ he
  rw [hs] at e1
  cases e1
  exact la
/-- what is not lent of one's own is another's there -/
def Rest (Fb L M : AS) : AS := fun a => Fb a ∨ (L a ∧ ¬ M a)
theorem rest_mv {M : AS} (hM : ∀ a, M a → L a) : Mv (U L Fb) H (U M (Rest Fb L M)) H := fun a o n e => ⟨fun z => n (z.elim (fun z => .inl (hM a z)) fun z => z.elim .inr fun z => .inl z.1), e⟩
theorem mv_rest {M : AS} {H' : Hp} (g : ∀ a o, H a = some o → ¬ M a → H' a = some o) : Mv (U M (Rest Fb L M)) H (U M (Rest Fb L M)) H' := fun a o n e => ⟨n, g a o e fun z => n (.inl z)⟩
theorem unrest_mv {M : AS} : Mv (U M (Rest Fb L M)) H (U L Fb) H := fun a o n e => ⟨fun z => n (z.elim (fun z => by
  by_cases h : M a
  · exact .inl h
  · exact .inr (.inr ⟨z, h⟩)) fun z => .inr (.inl z)), e⟩
theorem own_env {i : Nat} {p : Bool × List D} (h : own? env i = some p) : env[i]? = some (.mu p.1 p.2) := own_of (b := p.1) (ds := p.2) h
/-- the def's slots stand for its arguments -/
theorem slots_at {vs : List V} (R : ER K Wp Fb L H σ env) {M : AS} (hM : ∀ a, M a → L a) : ∀ {as : List Ar} {sl : List Sl} {us : List V}, All2 (fun a v => ρAr K σ a v (U L Fb) H) as us → slotsOf env as = some sl → (∀ a, Lent σ as a → M a) →
    sl.length = us.length ∧ ∀ (i : Nat) (s : Sl), sl[i]? = some s → (∃ v d, us[i]? = some v ∧ s = .im d ∧ Dn K (U M (Rest Fb L M)) H v d) ∨
      (∃ (j : Nat) (a : Addr) (b : Bool) (ds : List D) (ws : List V), as[i]? = some (.bor j) ∧ us[i]? = some (.ref a) ∧ σ[j]? = some (some (.ref a)) ∧ env[j]? = some (.mu b ds) ∧ s = .mu true ds ∧ M a ∧ H a = some (.lst ws) ∧ DnA K (U M (Rest Fb L M)) H ws ds)
  | [], sl, us, h, e, hl => by
    cases h
    cases e
    exact ⟨rfl, fun i s h => by simp at h⟩
  | .val d :: as, sl, us, h, e, hl => by
    cases h with
    | cons h1 h2 =>
      obtain ⟨s2, e2, rfl⟩ := Option.map_eq_some_iff.mp e
      obtain ⟨l1, f1⟩ := slots_at (vs := vs) R hM h2 e2 (fun a ⟨i, hi, hs⟩ => hl a ⟨i, hi, hs⟩)
      refine ⟨by simp [l1], fun i s hs => ?_⟩
      cases i with
      | zero =>
        simp at hs
        subst hs
        exact .inl ⟨_, d, rfl, rfl, Dn.mv (rest_mv hM) h1⟩
      | succ i => exact f1 i s (by simpa using hs)
  | .bor j :: as, sl, us, h, e, hl => by
    cases h with
    | cons h1 h2 =>
      obtain ⟨p, e1, e⟩ := Option.bind_eq_some_iff.mp e
      obtain ⟨s2, e2, rfl⟩ := Option.map_eq_some_iff.mp e
      obtain ⟨l1, f1⟩ := slots_at (vs := vs) R hM h2 e2 (fun a ⟨i, hi, hs⟩ => hl a ⟨i, List.mem_cons_of_mem _ hi, hs⟩)
      refine ⟨by simp [l1], fun i s hs => ?_⟩
      cases i with
      | zero =>
        simp at hs
        subst hs
        obtain ⟨a, ws, e3, la, h3, h4, _⟩ := R.sl j _ (own_env e1)
        have h1 : σ[j]? = some (some _) := h1
        rw [e3] at h1
        cases h1
        exact .inr ⟨j, a, p.1, p.2, ws, rfl, rfl, e3, own_env e1, rfl, hl a ⟨j, List.mem_cons_self, e3⟩, h3, h4.mv (rest_mv hM)⟩
      | succ i => exact f1 i s (by simpa using hs)
theorem bors_get : ∀ {as : List Ar} {i j : Nat}, as[i]? = some (.bor j) → j ∈ bors as
  | [], _, _, h => by simp at h
  | .val d :: as, 0, j, h => by simp at h
  | .val d :: as, i + 1, j, h => by
    show j ∈ bors as
    exact bors_get (i := i) (by simpa using h)
  | .bor k :: as, 0, j, h => by
    simp at h
    subst h
    exact List.mem_cons_self
  | .bor k :: as, i + 1, j, h => List.mem_cons_of_mem _ (bors_get (i := i) (by simpa using h))
theorem bors_inj : ∀ {as : List Ar} {i k j : Nat}, (bors as).Nodup → as[i]? = some (.bor j) → as[k]? = some (.bor j) → i = k
  | [], _, _, _, _, h, _ => by simp at h
  | .val d :: as, 0, _, j, _, h, _ => by simp at h
  | .val d :: as, _ + 1, 0, j, _, _, h => by simp at h
  | .val d :: as, i + 1, k + 1, j, n, h, g => by rw [bors_inj (as := as) (i := i) (k := k) (j := j) n (by simpa using h) (by simpa using g)]
  | .bor m :: as, 0, 0, j, _, _, _ => rfl
  | .bor m :: as, 0, k + 1, j, n, h, g => by
    simp at h
    subst h
    exact ((List.nodup_cons.mp n).1 (bors_get (i := k) (by simpa using g))).elim
  | .bor m :: as, i + 1, 0, j, n, h, g => by
    simp at g
    subst g
    exact ((List.nodup_cons.mp n).1 (bors_get (i := i) (by simpa using h))).elim
  | .bor m :: as, i + 1, k + 1, j, n, h, g => by rw [bors_inj (as := as) (i := i) (k := k) (j := j) (List.nodup_cons.mp n).2 (by simpa using h) (by simpa using g)]
theorem map_some_get {us : List V} {i : Nat} {v : V} (h : us[i]? = some v) : (us.map some)[i]? = some (some v) := by
  rw [List.getElem?_map, h]; rfl
theorem get_map_some {us : List V} {i : Nat} {v : V} (h : (us.map some)[i]? = some (some v)) : us[i]? = some v := by
  rw [List.getElem?_map] at h
  obtain ⟨x, h1, h2⟩ := Option.map_eq_some_iff.mp h
  cases h2
  exact h1
/-- how the def starts -/
theorem ER.lend (R : ER K Wp Fb L H σ env) {as : List Ar} {sl : List Sl} {us : List V} (h : All2 (fun a v => ρAr K σ a v (U L Fb) H) as us) (e : slotsOf env as = some sl) (nd : (bors as).Nodup) :
    ER K (us.map some) (Rest Fb L (Lent σ as)) (Lent σ as) H (us.map some) sl ∧ Only us sl (Lent σ as) := by
  have hM := Lent.own R e
  obtain ⟨l1, f⟩ := slots_at (vs := us) R hM h e fun _ z => z
  refine ⟨⟨by simpa using l1, fun a h => R.trk a (h.elim (fun z => .inl (hM a z)) fun z => z.elim .inr fun z => .inl z.1), fun a h z => z.elim (R.dis a (hM a h)) fun z => z.2 h, fun i s hs => ?_, fun i k b c ds es a ne e1 e2 e3 e4 => ?_⟩, fun a ⟨j, hj, hs⟩ => ?_⟩
  · rcases f i s hs with ⟨v, d, h1, rfl, h2⟩ | ⟨j, a, b, ds, ws, h1, h2, h3, h4, rfl, h5, h6, h7⟩
    · exact ⟨v, map_some_get h1, h2⟩
    · exact ⟨a, ws, map_some_get h2, h5, h6, h7, fun _ => map_some_get h2⟩
  · rcases f i _ e1 with ⟨v, d, h1, h2, _⟩ | ⟨j, a1, b1, ds1, ws, h1, h2, h3, h4, h5, _⟩
    · cases h2
    · rcases f k _ e2 with ⟨v, d, g1, g2, _⟩ | ⟨m, a2, b2, ds2, ws2, g1, g2, g3, g4, g5, _⟩
      · cases g2
      · have q1 := get_map_some e3
        have q2 := get_map_some e4
        rw [h2] at q1
        rw [g2] at q2
        cases q1
        cases q2
        by_cases hjm : j = m
        · subst hjm
          exact ne (bors_inj nd h1 g1)
        · exact R.apart j m _ _ _ _ a hjm h4 g4 h3 g3
  · -- each lent one has its place
    have find : ∀ {as : List Ar} {j : Nat}, j ∈ bors as → ∃ i : Nat, as[i]? = some (Ar.bor j) := by
      intro as
      induction as with
      | nil => intro j h; simp [bors] at h
      | cons x as ih =>
        intro j h
        cases x with
        | val d =>
          obtain ⟨i, hi⟩ := ih (show j ∈ bors as from h)
          exact ⟨i + 1, by simpa using hi⟩
        | bor m =>
          rcases List.mem_cons.mp (show j ∈ m :: bors as from h) with z | z
          · subst z; exact ⟨0, rfl⟩
          · obtain ⟨i, hi⟩ := ih z
            exact ⟨i + 1, by simpa using hi⟩
    obtain ⟨i, hi⟩ := find hj
    obtain ⟨v, h1, h2⟩ := h.get hi
    have h2 : σ[j]? = some (some v) := h2
    rw [hs] at h2
    cases h2
    have hlt : i < sl.length := by
      rw [l1]
      exact (List.getElem?_eq_some_iff.mp h1).1
    rcases f i sl[i] (by simp [hlt]) with ⟨v, d, g1, g2, g3⟩ | ⟨m, a1, b1, ds1, ws, g1, g2, g3, g4, g5, _⟩
    · exfalso
      -- a lent place has no data slot
      have : ∀ {as : List Ar} {sl : List Sl} {i j : Nat}, slotsOf env as = some sl → as[i]? = some (.bor j) → ∃ ds, sl[i]? = some (.mu true ds) := by
        intro as
        induction as with
        | nil => intro sl i j _ h; simp at h
        | cons x as ih =>
          intro sl i j e h
          cases x with
          | val d =>
            obtain ⟨s2, e2, rfl⟩ := Option.map_eq_some_iff.mp e
            cases i with
            | zero => simp at h
            | succ i =>
              have q := ih (sl := s2) (i := i) (j := j) e2 (by simpa using h)
              simpa using q
          | bor m =>
            obtain ⟨p, e1, e⟩ := Option.bind_eq_some_iff.mp e
            obtain ⟨s2, e2, rfl⟩ := Option.map_eq_some_iff.mp e
            cases i with
            | zero => exact ⟨p.2, rfl⟩
            | succ i =>
              have q := ih (sl := s2) (i := i) (j := j) e2 (by simpa using h)
              simpa using q
      obtain ⟨ds, z⟩ := this e hi
      rw [List.getElem?_eq_getElem hlt, g2] at z
      cases z
    · exact ⟨i, ds1, by rw [List.getElem?_eq_getElem hlt, g5], h1⟩
/-- behind the call -/
theorem ER.taken {H' : Hp} {M : AS} (hM : ∀ a, M a → L a) (keep : ∀ a o, H a = some o → ¬ M a → H' a = some o) : ∀ {as : List Ar} {sl' : List Sl} {env' : En} {env : En} {us : List V}, (bors as).Nodup → (∀ j ∈ bors as, ∃ (b : Bool) (ds : List D), env[j]? = some (Sl.mu b ds)) →
    -- the slots not yet taken back stand as they did, those lent are still out
    (∃ env0, ER K Wp Fb L H σ env0 ∧ env.length = env0.length ∧ (∀ (i : Nat) (b : Bool) (ds : List D), env[i]? = some (Sl.mu b ds) → ∃ ds0 : List D, env0[i]? = some (Sl.mu b ds0)) ∧
      ∀ (i : Nat) (s : Sl), env[i]? = some s → i ∉ bors as → Slk K Wp (U L Fb) L H' i σ[i]? s) →
    All2 (fun a v => ∀ j, a = .bor j → σ[j]? = some (some v)) as us → (∀ (i : Nat) (ds : List D) (a : Addr), sl'[i]? = some (Sl.mu true ds) → us[i]? = some (.ref a) → ∃ ws, L a ∧ H' a = some (.lst ws) ∧ DnA K (U L Fb) H' ws ds) →
    takeBack env as sl' = some env' → ∃ env0, ER K Wp Fb L H σ env0 ∧ env'.length = env0.length ∧ (∀ (i : Nat) (b : Bool) (ds : List D), env'[i]? = some (Sl.mu b ds) → ∃ ds0 : List D, env0[i]? = some (Sl.mu b ds0)) ∧ ∀ (i : Nat) (s : Sl), env'[i]? = some s → Slk K Wp (U L Fb) L H' i σ[i]? s
  | [], [], env', env, us, nd, hb, ⟨env0, R, el, em, h⟩, ha, hs, e => by
    cases e
    exact ⟨env0, R, el, em, fun i s z => h i s z (by simp [bors])⟩
  | [], _ :: _, env', env, us, nd, hb, h, ha, hs, e => by cases e
  | .val d :: as, [], env', env, us, nd, hb, h, ha, hs, e => by cases e
  | .bor j :: as, [], env', env, us, nd, hb, h, ha, hs, e => by cases e
  | .val d :: as, _ :: sl, env', env, us, nd, hb, h, ha, hs, e => by
    cases ha with
    | cons h1 h2 => exact ER.taken hM keep (as := as) (sl' := sl) nd hb h h2 (fun i ds a z1 z2 => hs (i + 1) ds a (by simpa using z1) (by simpa using z2)) e
  | .bor j :: as, .no :: sl, env', env, us, nd, hb, h, ha, hs, e => by cases e
  | .bor j :: as, .im d :: sl, env', env, us, nd, hb, h, ha, hs, e => by cases e
  | .bor j :: as, .mu bb ds :: sl, env', env, us, nd, hb, ⟨env0, R, el, em, h⟩, ha, hs, e => by
    cases ha with
    | cons h1 h2 =>
      cases bb with
      | false => cases e
      | true =>
      obtain ⟨p, ho, e⟩ := Option.bind_eq_some_iff.mp e
      have he := own_env ho
      have hlt : j < env.length := (List.getElem?_eq_some_iff.mp he).1
      obtain ⟨ds0, he0⟩ := em j _ _ he
      obtain ⟨a, ws0, e1, la, _, _, w⟩ := R.sl j _ he0
      have e2 := h1 j rfl
      rw [e1] at e2
      cases e2
      obtain ⟨ws, la2, h3, h4⟩ := hs 0 ds a rfl rfl
      refine ER.taken hM keep (as := as) (sl' := sl) (List.nodup_cons.mp nd).2 (fun k hk => ?_) ⟨env0, R, by simpa using el, fun i b es z => ?_, fun i s z hi => ?_⟩ h2 (fun i ds a z1 z2 => hs (i + 1) ds a (by simpa using z1) (by simpa using z2)) e
      · have nk : j ≠ k := fun z => (List.nodup_cons.mp nd).1 (by rw [z]; exact hk)
        obtain ⟨b, es, z⟩ := hb k (List.mem_cons_of_mem _ hk)
        exact ⟨b, es, by rw [List.getElem?_set_ne nk]; exact z⟩
      · by_cases hj : j = i
        · subst hj
          rw [List.getElem?_set_self hlt] at z
          cases z
          exact ⟨ds0, he0⟩
        · rw [List.getElem?_set_ne hj] at z
          exact em i b es z
      · by_cases hj : j = i
        · subst hj
          rw [List.getElem?_set_self hlt] at z
          cases z
          exact ⟨a, ws, e1, la, h3, h4, w⟩
        · rw [List.getElem?_set_ne hj] at z
          exact h i s z fun w => (List.mem_cons.mp w).elim (fun q => hj q.symm) hi
end
theorem ER.call {K : Fr0} {Wp σ : L2.St} {Fb L : AS} {H H' : Hp} {env env' : En} {as : List Ar} {sl sl' : List Sl} {us : List V} (R : ER K Wp Fb L H σ env) (h : All2 (fun a v => ρAr K σ a v (U L Fb) H) as us) (e : slotsOf env as = some sl) (nd : (bors as).Nodup)
    (keep : ∀ a o, H a = some o → ¬ Lent σ as a → H' a = some o) (R2 : ER K (us.map some) (Rest Fb L (Lent σ as)) (Lent σ as) H' (us.map some) sl') (e2 : takeBack env as sl' = some env') : ER K Wp Fb L H' σ env' ∧ Tr H L H' L := by
  have hM := Lent.own R e
  have mm : Mv (U L Fb) H (U L Fb) H' := fun a o n ea => ⟨n, keep a o ea fun z => n (.inl (hM a z))⟩
  obtain ⟨env0, R0, el, em, hsl⟩ := ER.taken (Fb := Fb) (L := L) (Wp := Wp) (K := K) hM keep (as := as) (sl' := sl') (env' := env') (env := env) (us := us) nd (fun j hj => slots_mu e hj)
    ⟨env, R, rfl, fun i b ds z => ⟨ds, z⟩, fun i s z hi => by
      have q := R.sl i s z
      cases s with
      | no => trivial
      | im d => obtain ⟨v, e1, h⟩ := q; exact ⟨v, e1, h.mv mm⟩
      | mu b ds =>
        obtain ⟨a, ws, e1, la, h1, h2, w⟩ := q
        refine ⟨a, ws, e1, la, keep a _ h1 fun ⟨j, hj, hs⟩ => ?_, h2.mv mm, w⟩
        obtain ⟨c, es, he⟩ := slots_mu e hj
        have ne : i ≠ j := fun w => hi (by rw [w]; exact hj)
        exact R.apart i j _ _ _ _ a ne z he e1 hs⟩
    (h.imp fun a v z j ej => by subst ej; exact z)
    (fun i ds a z1 z2 => by
      obtain ⟨a', ws, e1, la, h1, h2, w⟩ := R2.sl i _ z1
      have z3 := map_some_get z2
      rw [z3] at e1
      cases e1
      exact ⟨ws, hM a la, h1, h2.mv unrest_mv⟩) e2
  refine ⟨⟨by rw [el]; exact R0.len, fun a z => ?_, R.dis, hsl, fun i j b c ds es a ne e1 e3 e4 => ?_⟩, fun a o ea na => ⟨keep a o ea fun z => na (hM a z), na⟩⟩
  · obtain ⟨o, ea⟩ := R.trk a z
    by_cases ha : Lent σ as a
    · obtain ⟨o', e'⟩ := R2.trk a (.inl ha)
      exact ⟨o', e'⟩
    · exact ⟨o, keep a o ea ha⟩
  · obtain ⟨_, f1⟩ := em i _ _ e1
    obtain ⟨_, f2⟩ := em j _ _ e3
    exact R0.apart i j _ _ _ _ a ne f1 f2 e4
section
variable {X : Cx} {W : WX}
theorem pd_call {x : Str} {p pos : Pos} {e : Expr} {es : List Expr} {G : Gm (List Ar)} {F : List Sl → Option FR} {k : Nat} {f : Addr} {fd : FuncData} {ps : List Str} (Fn : FnOk X.prog X.w X.K X.mg X.base (L2.CX X.prog X.w) k f fd ps (spF X.K X.mg F)) (hr : Room k X.A)
    (hg : Gl X x) (hm : X.mg x = some (.ref f)) (hk : PySem.W.keepIn X.K (.ref f) = true) (hb : Binds X.K fd ps []) (tk : Takes X W) (ha : PDR X W (e :: es) G)
    (pc : ∀ {E : L2.St → XK} {ta : TA}, (∀ σ, PassesAt (L2.CX X.prog X.w) X σ (E σ)) → PA X (e :: es) ta → PE X (.Call (.Name x p) (e :: es) [] pos) (tCallS (spF X.K X.mg F) E ta)) : PD X W (.Call (.Name x p) (e :: es) [] pos) (gCallF F G) :=
  ⟨PE.wk (pc (fun σ => passAt tk σ) ha.pa) fun σ H Q q => (tG.seq (ρ := ρAs X.K σ) q).mono fun us H1 z => by
    obtain ⟨as, Wp, Fb, L, env, r, hx, R, g, k⟩ := z
    dsimp only at g
    split at g
    · cases g
    rename_i sl hsl
    split at g
    rotate_left
    · cases g
    rename_i nd
    obtain ⟨RC, on⟩ := R.lend hx hsl nd
    split at g
    · cases g
    · rename_i d sl' hF
      obtain ⟨e1, h1, rfl⟩ := Option.map_eq_some_iff.mp g
      refine ⟨_, _, sl, _, RC, on, hF, fun v H' keep R2 dn => ?_⟩
      obtain ⟨R3, t3⟩ := R.call hx hsl nd keep R2 h1
      exact k H' L t3 R3 v (dn.mv unrest_mv)
    · rename_i c fs sl' hF
      obtain ⟨e1, h1, rfl⟩ := Option.map_eq_some_iff.mp g
      refine ⟨_, _, sl, _, RC, on, hF, fun cls dd H' keep R2 x => ?_⟩
      obtain ⟨R3, t3⟩ := R.call hx hsl nd keep R2 h1
      refine k cls dd H' L t3 R3 ⟨x.1, ?_⟩
      have x2 := x.2
      match fs, x2 with
      | [], x2 => exact x2
      | [(f, d)], ⟨a, v, ea, na, ha, hd⟩ => exact ⟨a, v, ea, (unrest_mv (H := H') a _ na ha).1, ha, hd.mv unrest_mv⟩⟩
end
end PD
namespace PD
open PySem PySem.Spec PyProof.Rows L2
/-- the slots lent come back, the others are as the caller has them -/
def retSl : List Sl → En → Option (List Sl)
  | [], _ => some []
  | .mu true _ :: sl, .mu true ds :: e => (retSl sl e).map (.mu true ds :: ·)
  | .mu true _ :: _, _ => none
  | s :: sl, _ :: e => (retSl sl e).map (s :: ·)
  | _ :: _, [] => none
def fnF (n m : Nat) (B : Gs) : List Sl → Option FR := fun sl => if sl.length = n then match B (sl ++ List.replicate (m - n) .no) with
    | some (.nx e) => (retSl sl e).map (.val .none)
    | some (.rt d e) => (retSl sl e).map (.val d)
    | some (.ex c fs e) => (retSl sl e).map (.exc c fs)
    | _ => none
  else none
theorem retSl_get : ∀ {sl : List Sl} {e : En} {sl' : List Sl}, retSl sl e = some sl' → sl'.length = sl.length ∧ ∀ (i : Nat) (s : Sl), sl'[i]? = some s → (∃ ds ds0, s = .mu true ds ∧ sl[i]? = some (.mu true ds0) ∧ e[i]? = some (.mu true ds)) ∨ ((∀ ds, s ≠ .mu true ds) ∧ sl[i]? = some s)
  | [], e, sl', h => by
    cases e <;> (cases h; exact ⟨rfl, fun i s h => by simp at h⟩)
  | .mu true ds0 :: sl, .mu true ds :: e, sl', h => by
    obtain ⟨s2, h1, rfl⟩ := Option.map_eq_some_iff.mp (show (retSl sl e).map (.mu true ds :: ·) = some sl' from h)
    obtain ⟨l1, f⟩ := retSl_get h1
    refine ⟨by simp [l1], fun i s hs => ?_⟩
    cases i with
    | zero => simp at hs; subst hs; exact .inl ⟨ds, ds0, rfl, rfl, rfl⟩
    | succ i => exact f i s (by simpa using hs)
  | .mu true _ :: _, [], _, h => by cases h
  | .mu true _ :: _, .no :: _, _, h => by cases h
  | .mu true _ :: _, .im _ :: _, _, h => by cases h
  | .mu true _ :: _, .mu false _ :: _, _, h => by cases h
  | .no :: sl, x :: e, sl', h => by
    obtain ⟨s2, h1, rfl⟩ := Option.map_eq_some_iff.mp (show (retSl sl e).map (.no :: ·) = some sl' by cases x <;> exact h)
    obtain ⟨l1, f⟩ := retSl_get h1
    refine ⟨by simp [l1], fun i s hs => ?_⟩
    cases i with
    | zero => simp at hs; subst hs; exact .inr ⟨(fun ds z => by cases z), rfl⟩
    | succ i => exact f i s (by simpa using hs)
  | .im d :: sl, x :: e, sl', h => by
    obtain ⟨s2, h1, rfl⟩ := Option.map_eq_some_iff.mp (show (retSl sl e).map (.im d :: ·) = some sl' by cases x <;> exact h)
    obtain ⟨l1, f⟩ := retSl_get h1
    refine ⟨by simp [l1], fun i s hs => ?_⟩
    cases i with
    | zero => simp at hs; subst hs; exact .inr ⟨(fun ds z => by cases z), rfl⟩
    | succ i => exact f i s (by simpa using hs)
  | .mu false d :: sl, x :: e, sl', h => by
    obtain ⟨s2, h1, rfl⟩ := Option.map_eq_some_iff.mp (show (retSl sl e).map (.mu false d :: ·) = some sl' by cases x <;> exact h)
    obtain ⟨l1, f⟩ := retSl_get h1
    refine ⟨by simp [l1], fun i s hs => ?_⟩
    cases i with
    | zero => simp at hs; subst hs; exact .inr ⟨(fun ds z => by cases z), rfl⟩
    | succ i => exact f i s (by simpa using hs)
  | .no :: _, [], _, h => by cases h
  | .im _ :: _, [], _, h => by cases h
  | .mu false _ :: _, [], _, h => by cases h
/-- a lent slot is given back -/
theorem retSl_of : ∀ {sl : List Sl} {e : En} {sl' : List Sl} {i : Nat} {ds0 : List D}, retSl sl e = some sl' → sl[i]? = some (.mu true ds0) → ∃ ds, e[i]? = some (.mu true ds) ∧ sl'[i]? = some (.mu true ds) := fun {sl e sl' i ds0} h hs => by
  obtain ⟨l1, f⟩ := retSl_get h
  have hlt : i < sl'.length := by
    rw [l1]
    exact (List.getElem?_eq_some_iff.mp hs).1
  rcases f i sl'[i] (by simp [hlt]) with ⟨ds, d0, h1, h2, h3⟩ | ⟨h1, h2⟩
  · exact ⟨ds, h3, by rw [List.getElem?_eq_getElem hlt, h1]⟩
  · rw [hs] at h2
    exact (h1 ds0 (Option.some.inj h2).symm).elim
section
variable {P : Program} {w : World} {K : Fr0} {mg : Str → Option Value} {base : Heap}
theorem start_get {N : List Str} {vs : List V} {i : Nat} (hi : i < vs.length) : (L2.start N vs)[i]? = (vs.map some)[i]? := by
  unfold L2.start
  rw [List.getElem?_append_left (by simpa using hi)]
theorem ER.begin {Fb L : AS} {H : Hp} {vs : List V} {sl : List Sl} {N : List Str} (R : ER K (vs.map some) Fb L H (vs.map some) sl) (hl : vs.length ≤ N.length) : ER K (L2.start N vs) Fb L H (L2.start N vs) (sl ++ List.replicate (N.length - vs.length) .no) := by
  have el : sl.length = vs.length := by simpa using R.len
  have split : ∀ {i : Nat} {s : Sl}, (sl ++ List.replicate (N.length - vs.length) Sl.no)[i]? = some s → (i < vs.length ∧ sl[i]? = some s) ∨ s = .no := fun {i s} h => by
    by_cases hi : i < sl.length
    · rw [List.getElem?_append_left hi] at h
      exact .inl ⟨by rw [← el]; exact hi, h⟩
    · rw [List.getElem?_append_right (by omega)] at h
      obtain ⟨_, h2⟩ := List.getElem?_eq_some_iff.mp h
      rw [List.getElem_replicate] at h2
      exact .inr h2.symm
  refine ⟨by unfold L2.start; simp [el], R.trk, R.dis, fun i s e => ?_, fun i j b c ds es a ne e1 e2 e3 => ?_⟩
  · rcases split e with ⟨hi, h⟩ | rfl
    · have q := R.sl i s h
      rw [start_get hi]
      cases s with
      | no => trivial
      | im d => exact q
      | mu b ds =>
        obtain ⟨a, ws, q1, q2, q3, q4, q5⟩ := q
        exact ⟨a, ws, q1, q2, q3, q4, fun z => by rw [start_get hi]; exact q5 z⟩
    · trivial
  · rcases split e1 with ⟨hi, h⟩ | z
    · rcases split e2 with ⟨hj, h'⟩ | z
      · rw [start_get hi] at e3
        rw [start_get hj]
        exact R.apart i j b c ds es a ne h h' e3
      · cases z
    · cases z
/-- the end of a def: what the caller has -/
theorem ER.ended {Fb L L' : AS} {H H' : Hp} {vs : List V} {sl sl' : List Sl} {N : List Str} {σ' : L2.St} {e : En} (R : ER K (vs.map some) Fb L H (vs.map some) sl) (on : Only vs sl L) (R' : ER K (L2.start N vs) Fb L' H' σ' e) (t : Tr H L H' L') (h : retSl sl e = some sl') :
    ER K (vs.map some) Fb L H' (vs.map some) sl' ∧ Mv (U L' Fb) H' (U L Fb) H' ∧ (∀ a o, H a = some o → ¬ L a → H' a = some o) := by
  have el : sl.length = vs.length := by simpa using R.len
  have ll : ∀ a, L a → L' a := fun a la => by
    obtain ⟨i, ds0, h1, h2⟩ := on a la
    obtain ⟨ds, h3, h4⟩ := retSl_of h h1
    obtain ⟨a', ws, _, la', _, _, w⟩ := R'.sl i _ h3
    have hi : i < vs.length := (List.getElem?_eq_some_iff.mp h2).1
    have q := w rfl
    rw [start_get hi, map_some_get h2] at q
    cases q
    exact la'
  have m : Mv (U L' Fb) H' (U L Fb) H' := fun a o n ea => ⟨fun z => n (z.elim (fun z => .inl (ll a z)) .inr), ea⟩
  have keep : ∀ a o, H a = some o → ¬ L a → H' a = some o := fun a o ea na => (t a o ea na).1
  have mm : Mv (U L Fb) H (U L Fb) H' := fun a o n ea => ⟨n, keep a o ea fun z => n (.inl z)⟩
  obtain ⟨l1, f⟩ := retSl_get h
  refine ⟨⟨by rw [l1]; exact R.len, fun a z => ?_, R.dis, fun i s hs => ?_, fun i j b c ds es a ne e1 e2 e3 => ?_⟩, m, keep⟩
  · rcases z with z | z
    · exact R'.trk a (.inl (ll a z))
    · exact R'.trk a (.inr z)
  · rcases f i s hs with ⟨ds, ds0, rfl, h1, h2⟩ | ⟨h1, h2⟩
    · obtain ⟨a, ws, q1, la', q3, q4, w⟩ := R'.sl i _ h2
      obtain ⟨a0, ws0, p1, la0, p3, p4, p5⟩ := R.sl i _ h1
      have hi : i < vs.length := by
        rw [← el]
        exact (List.getElem?_eq_some_iff.mp h1).1
      have q := w rfl
      rw [start_get hi, p1] at q
      cases q
      exact ⟨a, ws, p1, la0, q3, q4.mv m, p5⟩
    · have q := R.sl i s h2
      cases s with
      | no => trivial
      | im d => obtain ⟨v, e1, h⟩ := q; exact ⟨v, e1, h.mv mm⟩
      | mu b ds =>
        cases b with
        | true => exact (h1 ds rfl).elim
        | false =>
          obtain ⟨a, ws, q1, la, q3, q4, w⟩ := q
          obtain ⟨k, ds2, h3, h4⟩ := on a la
          exact (R.apart i k _ _ _ _ a (fun z => by subst z; rw [h2] at h3; cases h3) h2 h3 q1 (map_some_get h4)).elim
  · have old : ∀ {i : Nat} {b : Bool} {ds : List D}, sl'[i]? = some (.mu b ds) → ∃ ds0, sl[i]? = some (.mu b ds0) := fun {i b ds} z => by
      rcases f i _ z with ⟨ds1, ds0, h0, h1, h2⟩ | ⟨h1, h2⟩
      · cases h0; exact ⟨ds0, h1⟩
      · exact ⟨ds, h2⟩
    obtain ⟨_, f1⟩ := old e1
    obtain ⟨_, f2⟩ := old e2
    exact R.apart i j _ _ _ _ a ne f1 f2 e3
theorem fn_pd {x qual : Str} {st : Stmt} {f : Addr} {fd : FuncData} {N ps : List Str} {k : Nat} {B : Gs} (Fn : Fun K x qual st f fd) (S : FnScope N ps (defScope st)) (hn : ps.length ≤ N.length)
    (body : ∀ (cdv : Value) (A : Around) (outer : List Env) (s : Shared) (H : Hp) (E : XK), Room k (A.deeper (envOfC qual (defScope st) s.heap.objs.size f cdv)) →
      PDSs (cxOf (L2.CX P w) P w K mg base N qual (defScope st) f cdv A outer s H E) (fun cls d _ H' => E cls d H') (defBody st) B) : FnOk P w K mg base (L2.CX P w) (k + 1) f fd ps (spF K mg (fnF ps.length N.length B)) := by
  have len : ∀ vs H Q E, spF K mg (fnF ps.length N.length B) vs H Q E → vs.length = ps.length := fun vs H Q E h => by
    obtain ⟨Fb, L, sl, r, R, on, hF, _⟩ := h
    have el : sl.length = vs.length := by simpa using R.len
    unfold fnF at hF
    split at hF
    · rename_i h; rw [← el]; exact h
    · cases hF
  refine Fn.okX S len fun cdv A outer s H vs Q E hr h => ⟨_, (body cdv A outer s H E hr).pss, ?_⟩
  have hvl := len vs H Q E h
  obtain ⟨Fb, L, sl, r, R, on, hF, k⟩ := h
  have el : sl.length = vs.length := by simpa using R.len
  have R1 := R.begin (N := N) (by omega)
  unfold fnF at hF
  split at hF
  rotate_left
  · cases hF
  have er : N.length - vs.length = N.length - ps.length := by rw [hvl]
  rw [er] at R1
  split at hF
  · rename_i e hB
    obtain ⟨sl', h1, rfl⟩ := Option.map_eq_some_iff.mp hF
    refine ⟨L2.start N vs, Fb, L, _, _, R1, hB, fun σ' H' L' t R' => ?_⟩
    obtain ⟨R2, m, kp⟩ := R.ended on R' t h1
    exact k .non H' kp R2 .non
  · rename_i d e hB
    obtain ⟨sl', h1, rfl⟩ := Option.map_eq_some_iff.mp hF
    refine ⟨L2.start N vs, Fb, L, _, _, R1, hB, fun v σ' H' L' t R' hv => ?_⟩
    obtain ⟨R2, m, kp⟩ := R.ended on R' t h1
    exact k v H' kp R2 (hv.mv m)
  · rename_i c fs e hB
    obtain ⟨sl', h1, rfl⟩ := Option.map_eq_some_iff.mp hF
    refine ⟨L2.start N vs, Fb, L, _, _, R1, hB, fun cls dd σ' H' L' t R' hx => ?_⟩
    obtain ⟨R2, m, kp⟩ := R.ended on R' t h1
    refine k cls dd H' kp R2 ⟨hx.1, ?_⟩
    have x2 := hx.2
    match fs, x2 with
    | [], x2 => exact x2
    | [(f, d)], ⟨a, v, ea, na, ha, hd⟩ => exact ⟨a, v, ea, (m a _ na ha).1, ha, hd.mv m⟩
  · cases hF
end
end PD
/-! Own errors over any built-in base, their __init__ a def of the text. -/
namespace PD
open PySem PySem.Spec PyProof.Rows L2
/-- what the written part says of such a class: all by looking -/
structure ExK (K : Fr0) (C : Addr) (B newId : String) (bmB : List Value) : Prop where
  ini : PySem.W.excInitIn K C bmB newId = true
  over : PySem.W.excOver K C bmB = true
  sa : PySem.W.findIn K (.ref C) "__setattr__" = some (some (.builtin "object.__setattr__"))
  hd : PySem.W.hasDictIn K C = true
  exC : PySem.W.subIn K (.ref C) (.type "BaseException") = some true
  tyC : PySem.W.typeIn K (.ref C) = some (.type "type")
  kC : PySem.W.keepIn K (.ref C) = true
section
open PySem.W PySem.HandSPX PySem.Builtin PySem.Builtin.ObjectAttr
variable {P : Program} {w : World} {A : Around} {R : Result → Shared → Prop} {hp : Heap} {g : Array GenState} {d : Drawn} {t : Nat} {os : OsState}
theorem first_field {K : Fr0} {name : Str} {tk : Tok} {v : Value} {x C : Addr} {fv : Array Value} {B newId : String} {bmB : List Value} (SF : StoreFacts B bmB "object.__setattr__" "object") (T : ExK K C B newId bmB)
    (kin : K.In hp) (hx : hp.get? x = some { cls := .ref C, data := .fields fv }) (ht : takerIn K C name = some none)
    (hq : ∀ h' tk' dx, (∀ b o, b ≠ x → hp.get? b = some o → h'.get? b = some o) → hp.objs.size ≤ dx → dx ≠ x → h'.get? x = some { cls := .ref C, dict := some dx, data := .fields fv } →
      h'.Ns1 dx (fun y => if y = name then some v else none) → R (.ok (.ret .none)) ⟨h', g, d, tk', os⟩) :
    codeAny (model P w) A (.call (.builtin "object.__setattr__") ⟨[.ref x, .str name tk, v], []⟩) R ⟨hp, g, d, t, os⟩ := by
  have J : InstAt hp x { cls := .ref C, data := .fields fv } C none := ⟨hx, rfl, rfl, trivial⟩
  have xs : x ≠ hp.objs.size := Nat.ne_of_lt (Heap.lt_size hx)
  obtain ⟨cd, hc, hdc⟩ := any_some T.hd
  have cl : Looks (model P w) hp (classData C) cd := looks_clsIn kin hc
  refine osa_openX (s := ⟨hp, g, d, t, os⟩) SF kin J T.over ht fun b => ?_
  show wpAny _ _ (storeInOwnDict (.ref x) (.ref C) (.str name tk) name v b) _ _ _
  obtain ⟨c1, c2, c3, c4, c5, c6, c7, c8, c9, c10, c11⟩ := cd
  dsimp only at hdc
  subst hdc
  cases b <;> unfold storeInOwnDict ownDictForStores
  all_goals repeat (first | with_reducible refine store_in_new ?_ ?_ | with_reducible refine wpAny_loadPart_at hx ?_ | with_reducible refine cl.at ?_ | wp_step)
  all_goals first
    | exact ⟨_, #[], _, (Heap.get?_update_ne _ _ _ _ xs.symm).trans (Heap.get?_push_at rfl rfl), rfl, fun e he => absurd he (by simp), fun _ => rfl⟩
    | (intro h' tk' hn' hs
       have hx2 : (hp.push { cls := .type "dict", data := .dict #[] }).get? x = some { cls := .ref C, data := .fields fv } := Heap.get?_push_of_some _ hx
       refine hq h' tk' hp.objs.size (fun b o hb ho => ?_) (Nat.le_refl _) xs.symm ((hs.2 x xs).trans (Heap.get?_update_self _ hx2 rfl)) hn'
       exact (hs.2 b (Nat.ne_of_lt (Heap.lt_size ho))).trans ((Heap.get?_update_ne _ _ _ _ hb).trans (Heap.get?_push_of_some _ ho)))
end
section
variable {X : Cx} {pins : List (Addr × Obj)} {σ : L2.St} {H : Hp} {s : Shared} {a C dx : Addr} {f : Str} {y : V} {u : Value}
theorem first_set {B newId : String} {bmB : List Value} {Q : Unit → Shared → Prop} {E : Value → Shared → Prop} {A : Around} (SF : PySem.StoreFacts B bmB "object.__setattr__" "object") (T : ExK X.K C B newId bmB) (I : Inv X pins σ H s) (e : H a = some (exo a C none))
    (ht : PySem.W.takerIn X.K C f = some none) (ry : RelV y u) (h : ∀ dx s', H dx = none → dx ≠ a → Inv X pins σ (upd (upd H dx (exd dx [(f, y)])) a (exo a C (some dx))) s' → Q () s') : wpAny (model X.prog X.w) A (setAttr (.ref a) f u) Q E s := by
  obtain ⟨t1, ho⟩ := exo_at I.hok e
  obtain ⟨hp, g, d, t, os⟩ := s
  refine PySem.W.set_plain I.kIn (ox := { cls := .ref C, dict := none, data := .fields #[.ref t1, .none, .none, .none, .bool false, .none] }) (od := none) ⟨ho, rfl, rfl, trivial⟩ T.sa ?_
  refine first_field SF T I.kIn ho ht fun h' tk' dx k dn dne hx hn => ?_
  have hnd : H dx = none := I.hok.fresh dn
  have nd : ∀ {b : Addr} {o : Obj}, hp.get? b = some o → b ≠ dx := fun {b o} q => Nat.ne_of_lt (Nat.lt_of_lt_of_le (Heap.lt_size q) dn)
  have na : ∀ {b : Addr}, H b = none → b ≠ a := fun {b} n z => by rw [z, e] at n; cases n
  have U1 : Un X.fs [] H (upd (upd H dx (exd dx [(f, y)])) a (exo a C (some dx))) hp h' := by
    refine ⟨fun b o q n _ _ => k b o (na n) q, fun b o q n _ _ => ⟨o.slots, k b o (na n) q⟩, fun b o q n _ => ?_, fun b o q _ => ?_, fun b xs q => ?_, fun b o v q => ?_, fun b ps q => ⟨#[], ?_⟩⟩
    · rw [upd_ne (na n), upd_ne (nd q)]; exact n
    · by_cases hb : b = a
      · subst hb; exact ⟨_, hx⟩
      · exact ⟨o, k b o hb q⟩
    · rw [upd_ne (at_ne e q exo_tup), upd_ne (ne_of_none q hnd)]; exact q
    · rw [upd_ne (at_ne e q exo_frz), upd_ne (ne_of_none q hnd)]; exact q
    · rw [upd_ne (at_ne e q exo_tbl), upd_ne (ne_of_none q hnd), q]; simp
  refine h dx _ hnd dne (I.un (t' := tk') U1 fun b o q => ?_)
  by_cases hb : b = a
  · subst hb
    rw [upd_same] at q
    cases q
    exact exo_ok hx
  · rw [upd_ne hb] at q
    by_cases hd : b = dx
    · subst hd
      rw [upd_same] at q
      cases q
      exact exd_ok hn (relO_put (fs := []) ry fun g => True.intro)
    · rw [upd_ne hd] at q
      refine (I.hok b o q).stay (fun c v hc z => k c v ?_ z) (fun c hc => ?_) fun c xs hc => ?_
      · rcases hc with hc | hc
        · rw [hc]; exact hb
        · exact at_ne e hc exo_own
      · rw [upd_ne (at_ne e hc exo_own), upd_ne (ne_of_none hc hnd)]; exact hc
      · rw [upd_ne (at_ne e hc exo_tup), upd_ne (ne_of_none hc hnd)]; exact hc
end
/-! ### the __init__ that stores its one argument -/
def tFs (K : Fr0) (C : Addr) (f : Str) (to te : TE) : TS := fun D σ H => te σ H fun y H1 => to σ H1 fun x H2 => ∃ a : Addr, x = .ref a ∧ H2 a = some (exo a C none) ∧ ∀ dx, H2 dx = none → dx ≠ a → D.nx σ (upd (upd H2 dx (exd dx [(f, y)])) a (exo a C (some dx)))
theorem ps_fs {X : Cx} {C : Addr} {o e : Expr} {to te : TE} {f : Str} {p' pos : Pos} {B newId : String} {bmB : List Value} (SF : PySem.StoreFacts B bmB "object.__setattr__" "object") (T : ExK X.K C B newId bmB) (ht : PySem.W.takerIn X.K C f = some none) (ho : PE X o to) (he : PE X e te)
    (hs : swapsWith e (some (.Attribute o f p')) pos.line X.env = pure false := by rfl) : PS X (.Assign [.Attribute o f p'] e pos) (tFs X.K C f to te) := ⟨fun pins s σ H D I h => by
  refine plainObj_wpAny_Assign_Attribute (thn (he.run pins s σ H _ I h) fun v s1 ⟨y, H1, I1, r1, q1⟩ => thn (ho.run pins s1 σ H1 _ I1 q1) fun u s2 ⟨x, H2, I2, r2, a, ex, ea, q⟩ => ?_) hs
  subst ex
  obtain rfl : u = Value.ref a := r2
  exact first_set SF T I2 ea ht r1 fun dx s' n ne J => ⟨σ, _, J, q dx n ne⟩⟩
def spIni (C : Addr) (f : Str) : Sp := fun vs H Q _ => ∃ (a : Addr) (v : V), vs = [.ref a, v] ∧ H a = some (exo a C none) ∧ ∀ dx, H dx = none → dx ≠ a → Q .non (upd (upd H dx (exd dx [(f, v)])) a (exo a C (some dx)))
/-- the __init__ that does nothing -/
def spIni0 (C : Addr) : Sp := fun vs H Q _ => ∃ (a : Addr), vs = [.ref a] ∧ H a = some (exo a C none) ∧ Q .non H
theorem ok_ini {P : Program} {w : World} {K : Fr0} {mg : Str → Option Value} {base : Heap} {C f0 : Addr} {x qual : Str} {st : Stmt} {fd : FuncData} {a1 a2 f : Str} {B newId : String} {bmB : List Value} (SF : PySem.StoreFacts B bmB "object.__setattr__" "object") (T : ExK K C B newId bmB)
    (ht : PySem.W.takerIn K C f = some none) (Fn : Fun K x qual st f0 fd) (S : FnScope [a1, a2] [a1, a2] (defScope st)) {p1 p2 p3 p4 : Pos} (hb : defBody st = [.Assign [.Attribute (.Name a1 p1) f p2] (.Name a2 p3) p4])
    (pv0 : ∀ X : Cx, X.N = [a1, a2] → X.env.scope = defScope st → PE X (.Name a1 p1) (tVar 0)) (pv1 : ∀ X : Cx, X.N = [a1, a2] → X.env.scope = defScope st → PE X (.Name a2 p3) (tVar 1))
    (hs : ∀ X : Cx, X.env.scope = defScope st → swapsWith (.Name a2 p3) (some (.Attribute (.Name a1 p1) f p2)) p4.line X.env = pure false) : FnOk P w K mg base (L2.CX P w) 1 f0 fd [a1, a2] (spIni C f) := by
  refine Fn.okX S (fun vs H Q E h => ?_) (fun cdv A outer s H vs Q E hr h => ?_)
  · obtain ⟨a, v, rfl, _⟩ := h
    rfl
  · obtain ⟨a, v, rfl, ha, q⟩ := h
    rw [hb]
    refine ⟨_, pss_one (ps_fs SF T ht (pv0 _ rfl rfl) (pv1 _ rfl rfl) (hs _ rfl)), v, rfl, .ref a, rfl, a, rfl, ha, fun dx h1 h2 => q dx h1 h2⟩
theorem ok_ini0 {P : Program} {w : World} {K : Fr0} {mg : Str → Option Value} {base : Heap} {C f0 : Addr} {x qual : Str} {st : Stmt} {fd : FuncData} {a1 : Str} (Fn : Fun K x qual st f0 fd) (S : FnScope [a1] [a1] (defScope st)) {p4 : Pos} (hb : defBody st = [.Pass p4]) : FnOk P w K mg base (L2.CX P w) 1 f0 fd [a1] (spIni0 C) := by
  refine Fn.okX S (fun vs H Q E h => ?_) (fun cdv A outer s H vs Q E hr h => ?_)
  · obtain ⟨a, rfl, _⟩ := h
    rfl
  · obtain ⟨a, rfl, ha, q⟩ := h
    rw [hb]
    exact ⟨_, pss_one ps_pass, q⟩
/-! ### made -/
section
variable {X : Cx} {C fI : Addr} {x : Str} {p pos : Pos} {B newId initId : String} {bmB : List Value} {k : Nat} {fd : FuncData}
/-- C(e) -/
theorem pmk_one {e : Expr} {ta : TA} {f : Str} {ps : List Str} (FB : ExcBaseFacts B newId initId bmB) (T : ExK X.K C B newId bmB) (iC : PySem.W.findIn X.K (.ref C) "__init__" = some (some (.ref fI))) (tI : PySem.W.typeIn X.K (.ref fI) = some (.type "function"))
    (F1 : FnOk X.prog X.w X.K X.mg X.base (L2.CX X.prog X.w) k fI fd ps (spIni C f)) (hr : Room (k + 1) X.A) (hb : Binds X.K fd ps []) (hg : Gl X x) (hm : X.mg x = some (.ref C)) (ha : PA X [e] ta)
    (hdb : (x == ("__debug__" : Str)) = false := by decide) (he : starEach [e] X.env = (false, eval e X.env) :: starEach [] X.env := by rfl) (hpl : (backTo pos (starEach [] X.env)).any (·.1) = false := by rfl) :
    PMk X (.Call (.Name x p) [e] [] pos) (fun σ H Q => ta σ H fun vs H1 => ∃ v, vs = [v] ∧ ∀ d, H1 d = none → Q (.ref C) (some d) (upd H1 d (.xd [(f, v)]))) := by
  intro pins s σ H Q I h
  refine wpAny_Call_Name_kw (ld_glob I hg hm ?_ hdb)
  refine PySem.W.callWith_K (h₀ := X.base) I.ok.mod.kin T.kC (thn (ha.run pos pins s σ H _ I h) fun us s1 ⟨vs, H1, I1, r1, q0⟩ => ⟨I1.kIn, ?_⟩) he hpl
  obtain ⟨v, ev, q1⟩ := q0
  subst ev
  obtain ⟨u, rfl, ru⟩ := Vals.one r1
  show wpAny _ _ (call (.ref C) [u]) _ _ _
  obtain ⟨hp, g, dr, tk, os⟩ := s1
  obtain ⟨nm, N', qn, bs, bm, hdct, sn, sub, ab, col, dd, k0, k1, k2, k3, k5, hC, hT⟩ := PySem.W.excInit_of I1.kIn T.ini
  have sz1 : hp.objs.size ≤ hp.objs.size + 1 := Nat.le_succ _
  have hn : H1 (hp.objs.size + 1) = none := I1.hok.fresh sz1
  have kk : ∀ b o, hp.get? b = some o → ((hp.push (PySem.W.kdv_tup [u])).push (PySem.HandSPX.excO C hp.objs.size)).get? b = some o := fun b o e => Heap.get?_push_of_some _ (Heap.get?_push_of_some _ e)
  have hget : ((hp.push (PySem.W.kdv_tup [u])).push (PySem.HandSPX.excO C hp.objs.size)).get? (hp.objs.size + 1) = some (PySem.HandSPX.excO C hp.objs.size) := by heap_get
  have I2 : Inv X pins σ (upd H1 (hp.objs.size + 1) (exo (hp.objs.size + 1) C none)) ⟨(hp.push (PySem.W.kdv_tup [u])).push (PySem.HandSPX.excO C hp.objs.size), g, dr, tk, os⟩ := I1.laid (t' := tk) (a := hp.objs.size + 1) (o := exo (hp.objs.size + 1) C none) kk sz1 (exo_ok hget)
  have hq : spIni C f [V.ref (hp.objs.size + 1), v] (upd H1 (hp.objs.size + 1) (exo (hp.objs.size + 1) C none))
      (fun z H2 => z = .non ∧ ∃ (d : Addr) (fs : List (Str × V)), H2 (hp.objs.size + 1) = some (exo (hp.objs.size + 1) C (some d)) ∧ H2 d = some (exd d fs) ∧ H1 d = none ∧ Q (.ref C) (some d) (upd (del H2 (hp.objs.size + 1)) d (.xd fs))) (fun _ _ _ => False) := by
    refine ⟨_, v, rfl, upd_same, fun dx h1 h2 => ⟨rfl, dx, [(f, v)], upd_same, ?_, ?_, ?_⟩⟩
    · rw [upd_ne h2]; exact upd_same
    · rw [upd_ne h2] at h1; exact h1
    · have h1' : H1 dx = none := by rw [upd_ne h2] at h1; exact h1
      have e : upd (del (upd (upd (upd H1 (hp.objs.size + 1) (exo (hp.objs.size + 1) C none)) dx (exd dx [(f, v)])) (hp.objs.size + 1) (exo (hp.objs.size + 1) C (some dx))) (hp.objs.size + 1)) dx (.xd [(f, v)]) = upd H1 dx (.xd [(f, v)]) := by
        funext b
        by_cases hb : b = dx
        · subst hb; rw [upd_same, upd_same]
        · rw [upd_ne hb, upd_ne hb]
          by_cases hb2 : b = hp.objs.size + 1
          · subst hb2; rw [del_same, hn]
          · rw [del_ne hb2, upd_ne hb2, upd_ne hb, upd_ne hb2]
      rw [e]
      exact q1 dx h1'
  have r2 : Vals [V.ref (hp.objs.size + 1), v] [Value.ref (hp.objs.size + 1), u] := .cons rfl (.cons ru .nil)
  have hl : [Value.ref (hp.objs.size + 1), u].length = ps.length := by
    have e := r2.length
    rw [F1.len _ _ _ _ hq] at e
    exact e.symm
  refine wpAny_call (PySem.HandSPX.call_own FB hT hC (PySem.W.looks_findIn I1.kIn iC) (fun self => PySem.W.bind_fn I1.kIn self tI) (by show 1 ≤ sizeLine; decide)
    (codeAny_mono (F1.run _ X.stack _ _ ⟨[Value.ref (hp.objs.size + 1), u], []⟩ [Value.ref (hp.objs.size + 1), u] _ _ (fun _ _ _ => False) (hr.make C [u] []) (I2.env0.make C [u] []) (hb _ [Value.ref (hp.objs.size + 1), u] I2.kIn (by simpa using hl)) r2 hq) fun r s' hq' => ?_))
  cases r with
  | error er => exact passL pins σ _ _ er s' I2 hq'
  | ok fl =>
    cases fl with
    | ret z =>
      obtain ⟨z0, H2, os2, bare2, un2, hok2, rz, ez, d, fs, ea, ed, hd1, q2⟩ := hq'
      subst ez
      obtain ⟨h2, g2, d2, t2, os'⟩ := s'
      exact ⟨rz, mk_end (raises_own T.exC T.tyC) I1 sz1 kk un2 hok2 os2 bare2 ea ed hd1 q2⟩
    | next => exact False.elim hq'
    | brk => exact False.elim hq'
    | cont => exact False.elim hq'
end
end PD
namespace PD
open PySem PySem.Spec PyProof.Rows L2
section
variable {X : Cx} {W : WX}
/-- raise c(e), e kept in the field f -/
def gRaise1 (c f : Str) (G : GE) : Gs := gS G fun d env => some (.ex c [(f, d)] env)
theorem pds_raise1 {c f x : Str} {C : Addr} {e : Expr} {p pos pos2 : Pos} {G : GE} (hc : X.calm = true) (tk : Takes X W) (hm : X.mg c = some (.ref C)) (he : PD X W e G)
    (hp : ∀ {ta : TA}, PA X [e] ta → PMk X (.Call (.Name x p) [e] [] pos) (fun σ H Q => ta σ H fun vs H1 => ∃ v, vs = [v] ∧ ∀ d, H1 d = none → Q (.ref C) (some d) (upd H1 d (.xd [(f, v)]))))
    (hs : starEach [e] X.env = (false, eval e X.env) :: starEach [] X.env := by rfl) : PDS X W (.Raise (some (.Call (.Name x p) [e] [] pos)) none pos2) (gRaise1 c f G) := ⟨PS.wk (ps_raise hc tk (hp (pa_cons he.pe pa_nil hs))) fun D σ H q => by
  show tD X W G σ H fun v H1 => ∃ u, [v] = [u] ∧ ∀ d, H1 d = none → W (.ref C) (some d) σ (upd H1 d (.xd [(f, u)]))
  refine (tS.after (ρ := ρD X.K) q).mono fun v H1 z => ?_
  obtain ⟨d, Wp, Fb, L, env, r, hv, R, g, k⟩ := z
  cases g
  exact ⟨v, rfl, fun dx hd => k (.ref C) (some dx) σ _ L (Tr.new hd) (R.new hd) ⟨hm, dx, v, rfl, R.free hd, upd_same, hv.mv (mv_grow (upd_grow hd))⟩⟩⟩
/-- try: body except c as n: return [z, n.f] -/
def gTry1 (i : Nat) (c : Str) (z f : Str) (B : Gs) : Gs := fun env => match B env with
  | some (.ex c' [(f', d)] e) => if c' = c ∧ f' = f ∧ i < e.length then some (.rt (.list [.str z, d]) e) else none
  | some (.ex _ _ _) => none
  | r => r
theorem pds_try1 {c n z f : Str} {C : Addr} {i : Nat} {body : List Stmt} {np pos pos' q1 q2 q3 q4 q5 : Pos} {k1 : Nat} {B : Gs} (hs : X.stack = X.env :: X.outer) (hf : X.env.frame = some X.env.locals) (hN : X.N.Nodup) (hi : X.N[i]? = some n) (hln : X.env.kindOf n = some .local)
    (hc : Names X c (.ref C)) (hm : X.mg c = some (.ref C)) (te : PySem.W.exmOne X.K (.ref C) (.ref C) = some true) (hx : XfC X.K C) (hno : PySem.W.findIn X.K (.ref C) f = some none)
    (hb : ∀ (W : WX) (pn : List (Addr × Obj)) (xe : Value → Shared → Prop), Takes (X.tr pn xe) W → PassesOwn (model X.prog X.w) X.A X.env xe → PDSs (X.tr pn xe) W body B)
    (hv : Vis X.env.scope n) (hdb : (n == ("__debug__" : Str)) = false) (hcd : (n == ("__classdict__" : Str)) = false) (hat : attributeBase (.Name n q3) f X.env (eval (.Name n q3) X.env) = eval (.Name n q3) X.env)
    (s1 : starEach [.Constant (.str z) k1 q2, .Attribute (.Name n q3) f q4] X.env = (false, eval (.Constant (.str z) k1 q2) X.env) :: starEach [.Attribute (.Name n q3) f q4] X.env := by rfl) (s2 : starEach [.Attribute (.Name n q3) f q4] X.env = (false, eval (.Attribute (.Name n q3) f q4) X.env) :: starEach [] X.env := by rfl) :
    PDS X W (.Try body [.ExceptHandler (some (.Name c np)) (some n) [.Return (some (.List [.Constant (.str z) k1 q2, .Attribute (.Name n q3) f q4] q5)) q1] pos'] [] [] pos) (gTry1 i c z f B) := by
  have tkN : Takes X (fun _ _ _ _ => False) := takes0
  refine ⟨PS.wk (ps_try_as (i := i) (tb := fun W => tS X W B) hs hf hN hi hln hc tkN (fun W pn xe tk po => (hb W pn xe tk po).pss) (fun a oe cls d pn hz hfl => pss_one (ps_ret (pe_lst (pa_cons (pe_str (X := X.suite a ((a, oe) :: pn))) (pa_cons (pe_xf hx hno hz hfl (pe_var (i := i) hi hv hdb hcd) hat) pa_nil s2) s1))))) fun D σ H q => ?_⟩
  obtain ⟨Wp, Fb, L, env, r, R, g, k⟩ := q
  unfold gTry1 at g
  split at g
  · rename_i c' f' d e hB
    split at g
    rotate_left
    · cases g
    rename_i hcf
    obtain ⟨rfl, rfl, hil⟩ := hcf
    cases g
    refine ⟨Wp, Fb, L, env, _, R, hB, fun cls dd σ' H' L' t R' x => ?_⟩
    obtain ⟨hcl, da, v, rfl, na, hda, hd⟩ := x
    rw [hm] at hcl
    cases hcl
    refine ⟨true, te, fun _ a ha => ?_, fun z => nomatch z⟩
    rw [R'.len] at hil
    refine ⟨.ref a, List.getElem?_set_self hil, rfl, rfl, da, [(f', v)], v, rfl, hda, by simp [List.lookup], ⟨by show 2 ≤ sizeLine; decide, fun p hp => ?_⟩⟩
    exact k _ σ' _ L' (t.trans (Tr.new hp)) (R'.new hp) (.lst (R'.free hp) upd_same (.cons (.str z) (.cons (hd.mv (mv_grow (upd_grow hp))) .nil)))
  · cases g
  · rename_i hn1 hn2
    refine ⟨Wp, Fb, L, env, r, R, g, ?_⟩
    cases r with
    | nx e => exact k
    | rt d e => exact k
    | bk e => exact k
    | ct e => exact k
    | ex c' fs e => exact (hn2 c' fs e g).elim
end
end PD
namespace PD
open PySem PySem.Spec PyProof.Rows L2
/-! ### a def of the text, with all that its callers ask -/
structure Df (P : Program) (w : World) (K : Fr0) (mg : Str → Option Value) (base : Heap) (k : Nat) (x : Str) (st : Stmt) (ps : List Str) (F : List Sl → Option FR) : Prop where
  ex : ∃ (f : Addr) (fd : FuncData), FnOk P w K mg base (L2.CX P w) k f fd ps (spF K mg F) ∧ mg x = some (.ref f) ∧ PySem.W.keepIn K (.ref f) = true ∧ Binds K fd ps [] ∧ Fun K x x st f fd
section
variable {X : Cx} {W : WX} {x : Str} {p pos : Pos} {e : Expr} {es : List Expr} {k : Nat} {st : Stmt} {ps : List Str} {F : List Sl → Option FR}
theorem pd_callD {G : Gm (List Ar)} (D : Df X.prog X.w X.K X.mg X.base k x st ps F) (hr : Room k X.A) (hg : Gl X x) (tk : Takes X W) (ha : PDR X W (e :: es) G)
    (hdb : (x == ("__debug__" : Str)) = false := by decide) (he : starEach (e :: es) X.env = (false, eval e X.env) :: starEach es X.env := by rfl) (hpl : (backTo pos (starEach es X.env)).any (·.1) = false := by rfl) : PD X W (.Call (.Name x p) (e :: es) [] pos) (gCallF F G) := by
  obtain ⟨f, fd, Fn, hm, hk, hb, _⟩ := D.ex
  exact pd_call Fn hr hg hm hk hb tk ha fun hx ha => pe_callS Fn hr hg hm hk hb hx ha hdb he hpl
/-- the call, its arguments in hand -/
def gF (F : List Sl → Option FR) (as : List Ar) : GE := fun env => match slotsOf env as with
  | none => none
  | some sl => if (bors as).Nodup then match F sl with
    | none => none
    | some (.val d sl') => (takeBack env as sl').map fun e => .ok d e
    | some (.exc c fs sl') => (takeBack env as sl').map fun e => .ex c fs e
  else none
theorem gF_go {as : List Ar} {us : List V} {σ : L2.St} {H : Hp} {Q : VK} {Wp : L2.St} {Fb L : AS} {env : En} {r : Rs PyData} (hx : All2 (fun a v => ρAr X.K σ a v (U L Fb) H) as us) (R : ER X.K Wp Fb L H σ env) (g : gF F as env = some r)
    (k : Go X W Wp Fb σ H L r fun a H' L' => ∀ b, ρD X.K a b (U L' Fb) H' → Q b H') : spF X.K X.mg F us H Q (WE W σ) := by
  unfold gF at g
  split at g
  · cases g
  rename_i sl hsl
  split at g
  rotate_left
  · cases g
  rename_i nd
  obtain ⟨RC, on⟩ := R.lend hx hsl nd
  split at g
  · cases g
  · rename_i d sl' hF
    obtain ⟨e1, h1, rfl⟩ := Option.map_eq_some_iff.mp g
    refine ⟨_, _, sl, _, RC, on, hF, fun v H' keep R2 dn => ?_⟩
    obtain ⟨R3, t3⟩ := R.call hx hsl nd keep R2 h1
    exact k H' L t3 R3 v (dn.mv unrest_mv)
  · rename_i c fs sl' hF
    obtain ⟨e1, h1, rfl⟩ := Option.map_eq_some_iff.mp g
    refine ⟨_, _, sl, _, RC, on, hF, fun cls dd H' keep R2 x => ?_⟩
    obtain ⟨R3, t3⟩ := R.call hx hsl nd keep R2 h1
    refine k cls dd H' L t3 R3 ⟨x.1, ?_⟩
    have x2 := x.2
    match fs, x2 with
    | [], x2 => exact x2
    | [(f, d)], ⟨a, v, ea, na, ha, hd⟩ => exact ⟨a, v, ea, (unrest_mv (H := H') a _ na ha).1, ha, hd.mv unrest_mv⟩
/-! ### no arguments -/
theorem pd_call0 (D : Df X.prog X.w X.K X.mg X.base k x st ps F) (hr : Room k X.A) (hg : Gl X x) (tk : Takes X W) (hdb : (x == ("__debug__" : Str)) = false := by decide) : PD X W (.Call (.Name x p) [] [] pos) (gCallF F (gP [])) := by
  obtain ⟨f, fd, Fn, hm, hk, hb, _⟩ := D.ex
  have pc : ∀ {E : L2.St → XK}, (∀ σ, PassesAt (L2.CX X.prog X.w) X σ (E σ)) → PE X (.Call (.Name x p) [] [] pos) (tCallS (spF X.K X.mg F) E tNil) := fun {E} hx => ⟨fun pins s σ H Q I h => by
    refine wpAny_Call_Name_kw (ld_glob I hg hm ?_ hdb)
    exact PySem.W.callWith_K0 I.kIn hk (run_fnS (us := []) Fn hr hb (hx σ) I .nil h)⟩
  refine ⟨PE.wk (pc fun σ => passAt tk σ) fun σ H Q q => ?_⟩
  obtain ⟨Wp, Fb, L, env, r, R, g, kk⟩ := q
  exact gF_go (as := []) (us := []) .nil R g kk
/-! ### keywords alone: is tells for each parameter which keyword's value it takes -/
structure PDK (X : Cx) (W : WX) (kws : List Keyword) (G : GA) : Prop where
  pk : PK X kws (fun σ H Q => tG (ρA X.K) X W G σ H Q)
theorem PK.wk {kws : List Keyword} {t t' : TA} (h : PK X kws t) (w : ∀ σ H Q, t' σ H Q → t σ H Q) : PK X kws t' := ⟨fun pos pins s σ H Q I q => h.run pos pins s σ H Q I (w σ H Q q)⟩
theorem pdk_nil : PDK X W [] (gP []) := ⟨PK.wk pk_nil fun σ H Q q => by
  obtain ⟨Wp, Fb, L, env, r, R, g, k⟩ := q
  cases gP_some g
  exact k H L (Tr.refl H L) R [] .nil⟩
theorem pdk_cons {nm : Option Str} {kp : Pos} {kws : List Keyword} {Ga : GE} {Gr : GA} (ha : PD X W e Ga) (hr : PDK X W kws Gr) : PDK X W (⟨nm, e, kp⟩ :: kws) (gCons Ga Gr) :=
  ⟨PK.wk (pk_cons ha.pe hr.pk) fun σ H Q q => (tG.seq2 (ρ1 := ρA X.K) (stabD X.K) q).mono fun x H1 z => z.mono fun xs H2 z => by
    obtain ⟨d, ds, Wp, Fb, L, env, r, hx, hy, R, g, k⟩ := z
    cases gP_some g
    exact k H2 L (Tr.refl H2 L) R (x :: xs) (.cons hx hy)⟩
def pick {α : Type} (z : α) (is : List Nat) (xs : List α) : List α := is.map fun i => xs.getD i z
theorem pick_vals {is : List Nat} {vs : List V} {us : List Value} (r : Vals vs us) : Vals (pick V.non is vs) (pick Value.none is us) := by
  induction is with
  | nil => exact .nil
  | cons i is ih =>
    refine .cons ?_ ih
    show RelV (vs.getD i V.non) (us.getD i Value.none)
    rw [List.getD_eq_getElem?_getD, List.getD_eq_getElem?_getD]
    cases h : vs[i]? with
    | none =>
      have : us[i]? = none := by
        rw [List.getElem?_eq_none_iff] at h ⊢
        rw [← r.length]; exact h
      rw [this]
      rfl
    | some v =>
      obtain ⟨u, hu, ru⟩ := r.get h
      rw [hu]
      exact ru
theorem pick_dn {K : Fr0} {F : AS} {H : Hp} {is : List Nat} {vs : List V} {ds : List D} (r : DnA K F H vs ds) : DnA K F H (pick V.non is vs) (pick PyData.none is ds) := by
  induction is with
  | nil => exact .nil
  | cons i is ih =>
    refine .cons ?_ ih
    show Dn K F H (vs.getD i V.non) (ds.getD i PyData.none)
    rw [List.getD_eq_getElem?_getD, List.getD_eq_getElem?_getD]
    cases h : vs[i]? with
    | none =>
      have : ds[i]? = none := by
        rw [List.getElem?_eq_none_iff] at h ⊢
        rw [← r.length]; exact h
      rw [this]
      exact .non
    | some v =>
      obtain ⟨d, hu, ru⟩ := r.getV h
      rw [hu]
      exact ru
def gKwF (n : Nat) (is : List Nat) (F : List Sl → Option FR) : List PyData → GE := fun ds env => if ds.length = n then gF F ((pick PyData.none is ds).map Ar.val) env else none
theorem vals_all2 {K : Fr0} {σ : L2.St} {F : AS} {H : Hp} {vs : List V} {ds : List D} (h : DnA K F H vs ds) : All2 (fun a v => ρAr K σ a v F H) (ds.map Ar.val) vs := by
  induction ds generalizing vs with
  | nil => cases h; exact .nil
  | cons d ds ih =>
    cases h with
    | cons a b => exact .cons a (ih b)
theorem pd_callK {kws : List Keyword} {G : GA} {ks : List Str} (is : List Nat) (D : Df X.prog X.w X.K X.mg X.base k x st ps F) (hr : Room k X.A) (hg : Gl X x) (tk : Takes X W) (hkw : PDK X W kws G)
    (hl : is.length = ps.length) (hks : (backToKw pos (keywordEach kws X.env)).filterMap (·.1) = ks)
    (hbd : ∀ (kV doc pm : Value) (an : Option Addr) (cdv ct : Value) (ws : List Value), ws.length = ks.length → bindArgs (PySem.W.fnOf x x (defArgs st) (defBody st) (defScope st) .none kV doc pm an cdv ct) ⟨[], ks.zip ws⟩ = pure (ps.zip (pick Value.none is ws)))
    (hall : (backToKw pos (keywordEach kws X.env)).all (·.1.isSome) = true := by rfl) (hdb : (x == ("__debug__" : Str)) = false := by decide)
    (hpl : ((backTo pos (starEach [] X.env)).any (·.1) || (backToKw pos (keywordEach kws X.env)).any (·.1.isNone)) = false := by rfl) (hln : kws.length = ks.length := by rfl) : PD X W (.Call (.Name x p) [] kws pos) (gB G (gKwF ks.length is F)) := by
  obtain ⟨f, fd, Fn, hm, hk, hb, Fu⟩ := D.ex
  obtain ⟨oc, od, kV, doc, pm, an, cdv, ct, osl, rfl, lk, hcd⟩ := Fu.ex
  have pc : ∀ {E : L2.St → XK} {t : TA}, (∀ σ, PassesAt (L2.CX X.prog X.w) X σ (E σ)) → PK X kws t → PE X (.Call (.Name x p) [] kws pos) (fun σ H Q => t σ H fun zs H2 => zs.length = ks.length ∧ spF X.K X.mg F (pick V.non is zs) H2 Q (E σ)) := fun {E t} hx hkw => ⟨fun pins s σ H Q I h => by
    refine wpAny_Call_Name_kw (ld_glob I hg hm ?_ hdb)
    refine PySem.W.callWith_KW0 (h₀ := X.base) I.ok.mod.kin hk hall (thn (hkw.run pos pins s σ H _ I h) fun ws s2 ⟨zs, H2, I2, rz, l, q2⟩ => ⟨I2.kIn, ?_⟩) hpl
    rw [hks]
    have r2 := pick_vals (is := is) rz
    have hlw : ws.length = ks.length := rz.length.symm.trans l
    refine wpAny_call (codeAny_mono (Fn.run X.A X.stack s2 H2 ⟨[], ks.zip ws⟩ (pick Value.none is ws) (pick V.non is zs) Q (E σ) hr I2.env0 (.of_eq (hbd kV doc pm an cdv ct ws hlw)) r2 q2) fun r s' hq => ?_)
    cases r with
    | error e => exact hx σ pins H2 s2 e s' I2 hq
    | ok fl =>
      cases fl with
      | ret u => exact I2.after hq
      | next => exact False.elim hq
      | brk => exact False.elim hq
      | cont => exact False.elim hq⟩
  refine ⟨PE.wk (pc (fun σ => passAt tk σ) hkw.pk) fun σ H Q q => (tG.seq (ρ := ρA X.K) q).mono fun zs H1 z => ?_⟩
  obtain ⟨ds, Wp, Fb, L, env, r, hx, R, g, kk⟩ := z
  unfold gKwF at g
  split at g
  rotate_left
  · cases g
  rename_i hn
  exact ⟨by rw [hx.length]; exact hn, gF_go (vals_all2 (pick_dn hx)) R g kk⟩
end
end PD
/-! isinstance(e, B) of an own exception that the suite holds, with fields or without. -/
namespace PDI
open PySem PySem.Spec PySem.W PySem.Calls PyProof.Rows
section
variable {prog : Program} {w : World} {A : Around} {E : Value → Shared → Prop} {s : Shared} {K : Frag} {x D : Addr} {ox : Obj} {od : Option Obj}
theorem findObj_D {C : Addr} {name : Str} {a g : Value} (hc : (clsIn K C).isSome = true) (ha : findIn K (.ref C) name = some (some a)) (hg : specialIn K a "__get__" = some (some g)) (ht : takesIn K a = some true) : findObj K C od name = some (.bind g a) := by
  obtain ⟨cd, hc⟩ := Option.isSome_iff_exists.mp hc
  unfold findObj
  rw [hc, Option.bind_some, ha, Option.bind_some]
  simp [hg, ht]
theorem cls_get {Q : Option Value → Shared → Prop} (T : L2.ExcC K D) (X : K.In s.heap) (I : InstAt s.heap x ox D od) (h : Q (some (.ref D)) { s with toks := s.toks + 1 }) : wpAny (model prog w) A (getAttr? (.ref x) "__class__") Q E s := by
  have hf : findObj K D od "__class__" = some (.bind (.builtin "getset_descriptor.__get__") (.builtin "object.__class__")) := findObj_D (by obtain ⟨cd, hc, _⟩ := any_some T.hd; rw [hc]; rfl) T.ha T.hn T.ht
  have hm := T.hm
  obtain ⟨hp, g, d, t, os⟩ := s
  have Ly := I.type (M := model prog w)
  have La := looks_findIn (M := model prog w) X T.hg
  have Lb := looks_findIn (M := model prog w) X T.hk
  have Lc := looks_find (M := model prog w) X I hf
  have sub : Looks (model prog w) hp (isInstance (.ref x) (.type "BaseException")) true := Ly.andThen (looks_subIn X T.hs)
  unfold getAttr? getAttrBy? getAttrBy
  refine wpAny_bind (wpAny_mkText (wpAny_bind (wpAny_attempt (wpAny_holding (wpAny_bind (Ly.at (wpAny_bind (La.at ?_))))))))
  have bb : (Value.builtin "BaseException.__getattribute__" == Value.builtin "object.__getattribute__") = false := by decide +kernel
  dsimp only []
  rw [bb, Bool.and_false, if_neg Bool.false_ne_true]
  unfold getAttrByItsOwn hookBefore
  refine wpAny_bind ?_
  rw [if_pos (show onTheHeap (Value.ref D) = true from rfl)]
  refine Lb.at ?_
  refine wpAny_bind (wpAny_attempt (wpAny_holding ?_))
  unfold callGetattribute
  rw [show (false && onTheHeap (Value.builtin "BaseException.__getattribute__")) = false from rfl, if_neg Bool.false_ne_true]
  unfold boundAndCalled
  rw [PySem.F.excAttr_ValueError.ga.bind (.ref x)]
  refine wpAny_bind (wpAny_pure ?_)
  refine wpAny_call (codeAny_call_builtin PySem.F.excAttr_ValueError.ga.plain PySem.F.entry_bexc_ga ?_)
  refine @check_slot (model prog w) _ _ ⟨hp, g, d, t + 1, os⟩ "BaseException.__getattribute__" "BaseException" "__getattribute__" (.ref x) [.str "__class__" t] [] _ (by decide +kernel) (by decide +kernel) sub (PySem.F.args_bexc_ga (.ref x) (.str "__class__" t)) ?_
  unfold Builtin.«object.__getattribute__»
  refine wpAny_bind (wpAny_of_eq (a := ((Value.ref x : Value), [Value.str "__class__" t])) (by first | rfl | (simp only [slotArgs]; rfl)) ?_)
  refine wpAny_bind (wpAny_pure (wpAny_bind (Ly.at (wpAny_bind (Lc.at ?_)))))
  show wpAny _ _ (holding [Value.builtin "object.__class__"] (call (.builtin "getset_descriptor.__get__") [.builtin "object.__class__", .ref x, .ref D]) >>= ret) _ _ _
  refine wpAny_bind (wpAny_holding (wpAny_call (class_get (s := ⟨hp, g, d, t + 1, os⟩) (ox := ox) (od := od) X I hm ?_)))
  refine wpAny_pure ?_
  show wpAny _ _ (handedOut (.ref D)) _ _ _
  rw [handedOut_of (v := .ref D) rfl]
  first
    | exact wpAny_pure (wpAny_pure h)
    | exact wpAny_pure h
    | exact wpAny_pure (wpAny_bind (wpAny_pure (wpAny_pure h)))
theorem kitx (T : L2.ExcC K D) : KitX K (.ref x) (.ref D) (fun h => InstAt h x ox D od) where
  ty := fun _ _ _ I => I.type
  it := fun _ _ X _ => by
    obtain ⟨cdD, hcD, _⟩ := any_some T.hd
    unfold clsIn at hcD
    split at hcD
    · rename_i ho
      intro _ _ _ _ keep q
      unfold isType loadHead
      exact wpAny_bind (wpAny_loadPart (keep _ _ (X _ _ ho)) (wpAny_pure q))
    · cases hcD
  ne := fun h tp dd its n sl X htp => (PySem.W.handS_kitx_exc (x := x) (ox := ox) T.hg T.hk T.hs T.hd T.ha T.hn T.ht T.hm).ne h tp dd its n sl X htp
  ca := fun X I k => cls_get T X I k
end
end PDI
namespace PD
open PySem PySem.Spec PyProof.Rows L2
/-- isinstance(e, c), e what the suite holds, its dict d's object there -/
def rIsX (K : Fr0) (D a : Addr) (d : Option Addr) : List V → Hp → VK → Prop := fun xs H Q => ∃ (c : V) (cv : Value) (b : Bool), xs = [.ref a, c] ∧ (∀ u, RelV c u → u = cv) ∧ PySem.W.kitOne K (.ref D) cv = some b ∧ (d = none ∨ ∃ dd fs, d = some dd ∧ H dd = some (.xd fs)) ∧ Q (.bl b) H
theorem call_isX {X : Cx} {a D : Addr} {d : Option Addr} {oe : Obj} {pn : List (Addr × Obj)} (C : ExcC X.K D) (hz : Zc (.ref D) d oe) (hf : ∃ vs, oe.data = .fields vs) : CallR (X.suite a ((a, oe) :: pn)) (.builtin "isinstance") (rIsX X.K D a d) := by
  intro pins s σ H xs us Q I r h
  obtain ⟨c, cv, b, rfl, hcv, e, hd, q⟩ := h
  cases r with
  | cons rx rr =>
    cases rr with
    | cons rt rr =>
      cases rr
      cases rx
      have ec := hcv _ rt
      subst ec
      have hget := (I.pin (a, oe) (List.mem_append.mpr (.inl List.mem_cons_self))).1
      obtain ⟨vs, hv⟩ := hf
      have J : ∃ od, PySem.W.InstAt s.heap a oe D od := by
        rcases hd with rfl | ⟨dd, fs, rfl, hdd⟩
        · obtain ⟨oc, od, oda, osl⟩ := oe
          obtain ⟨h1, h2⟩ := hz
          dsimp only at h1 h2 hv
          subst h1 h2 hv
          exact ⟨none, hget, rfl, rfl, trivial⟩
        · have hx : ObjOk X.prog X.w H s.heap dd (.xd fs) := I.hok dd _ hdd
          obtain ⟨mA, hns, hr⟩ := hx
          obtain ⟨od, ho, hl⟩ := lookIn_ns hns
          exact ⟨some od, hget, hz.1, by unfold PySem.W.notCls; rw [hv] <;> rfl, by rw [hz.2]; exact ho⟩
      obtain ⟨od, J⟩ := J
      exact PySem.W.kia_one (PDI.kitx C) I.kIn J e (fun z => nomatch z) fun tk => ⟨.bl b, H, I.kept (t' := tk) fun _ _ z => z, rfl, q⟩
/-! ### what a suite says of its exception: a list of texts, fields, isinstance -/
/-- what an element says: of the field's data -/
structure PSE (X : Cx) (a : Addr) (cls : Value) (d : Option Addr) (i : Nat) (C : Addr) (f : Str) (es : List Expr) (φ : PyData → List PyData) : Prop where
  pa : PA X es (fun σ H Q => ∃ (F : AS) (dd : Addr) (v : V) (x : PyData), σ[i]? = some (some (.ref a)) ∧ cls = .ref C ∧ d = some dd ∧ H dd = some (.xd [(f, v)]) ∧ Dn X.K F H v x ∧ ∀ vs, DnA X.K F H vs (φ x) → Q vs H)
section
variable {X : Cx} {a : Addr} {cls : Value} {d : Option Addr} {i : Nat} {C : Addr} {f : Str} {es : List Expr} {φ : PyData → List PyData}
theorem pse_nil : PSE X a cls d i C f [] (fun _ => []) := ⟨PA.wk pa_nil fun σ H Q q => by
  obtain ⟨F, dd, v, x, h1, h2, h3, h4, h5, k⟩ := q
  exact k [] .nil⟩
theorem pse_str {z : Str} {k : Nat} {p : Pos} (h : PSE X a cls d i C f es φ) (hs : starEach (.Constant (.str z) k p :: es) X.env = (false, eval (.Constant (.str z) k p) X.env) :: starEach es X.env := by rfl) : PSE X a cls d i C f (.Constant (.str z) k p :: es) (fun x => .str z :: φ x) := ⟨PA.wk (pa_cons pe_str h.pa hs) fun σ H Q q => by
  obtain ⟨F, dd, v, x, h1, h2, h3, h4, h5, k⟩ := q
  exact ⟨F, dd, v, x, h1, h2, h3, h4, h5, fun vs hv => k _ (.cons (.str z) hv)⟩⟩
theorem pse_fld {oe : Obj} {pn : List (Addr × Obj)} {n : Str} {q3 q4 : Pos} (T : XfC X.K C) (hno : PySem.W.findIn X.K (.ref C) f = some none) (hz : Zc cls d oe) (hf : ∃ vs, oe.data = .fields vs) (hv : PE (X.suite a ((a, oe) :: pn)) (.Name n q3) (tVar i)) (h : PSE (X.suite a ((a, oe) :: pn)) a cls d i C f es φ)
    (hat : attributeBase (.Name n q3) f X.env (eval (.Name n q3) X.env) = eval (.Name n q3) X.env) (hs : starEach (.Attribute (.Name n q3) f q4 :: es) X.env = (false, eval (.Attribute (.Name n q3) f q4) X.env) :: starEach es X.env := by rfl) :
    PSE (X.suite a ((a, oe) :: pn)) a cls d i C f (.Attribute (.Name n q3) f q4 :: es) (fun x => x :: φ x) := ⟨PA.wk (pa_cons (pe_xf T hno hz hf hv hat) h.pa hs) fun σ H Q q => by
  obtain ⟨F, dd, v, x, h1, h2, h3, h4, h5, k⟩ := q
  exact ⟨_, h1, rfl, h2, dd, _, v, h3, h4, by simp [List.lookup], F, dd, v, x, h1, h2, h3, h4, h5, fun vs hv => k _ (.cons h5 hv)⟩⟩
theorem pse_isi {oe : Obj} {pn : List (Addr × Obj)} {n x y : Str} {B : String} {b : Bool} {p q3 q4 pos : Pos} (T : ExcC X.K C) (hB : PySem.W.kitOne X.K (.ref C) (.type B) = some b) (hg : Gl X x) (hm : X.mg x = none) (hv : bootBuiltins x = some (.builtin "isinstance")) (hgy : Gl X y) (hmy : X.mg y = none) (hvy : bootBuiltins y = some (.type B))
    (hc : cls = .ref C) (hz : Zc cls d oe) (hf : ∃ vs, oe.data = .fields vs) (hvr : PE (X.suite a ((a, oe) :: pn)) (.Name n q3) (tVar i)) (h : PSE (X.suite a ((a, oe) :: pn)) a cls d i C f es φ) (hn : x ≠ "__name__" := by decide) (hdb : (x == ("__debug__" : Str)) = false := by decide) (hny : y ≠ "__name__" := by decide) (hdy : (y == ("__debug__" : Str)) = false := by decide)
    (hs : starEach (.Call (.Name x p) [.Name n q3, .Name y q4] [] pos :: es) X.env = (false, eval (.Call (.Name x p) [.Name n q3, .Name y q4] [] pos) X.env) :: starEach es X.env := by rfl)
    (s1 : starEach [.Name n q3, .Name y q4] X.env = (false, eval (.Name n q3) X.env) :: starEach [.Name y q4] X.env := by rfl) (s2 : starEach [.Name y q4] X.env = (false, eval (.Name y q4) X.env) :: starEach [] X.env := by rfl) (hpl : (backTo pos (starEach [.Name y q4] X.env)).any (·.1) = false := by rfl) :
    PSE (X.suite a ((a, oe) :: pn)) a cls d i C f (.Call (.Name x p) [.Name n q3, .Name y q4] [] pos :: es) (fun x => .bool b :: φ x) := by
  subst hc
  exact ⟨PA.wk (pa_cons (pe_callB (call_isX T hz hf) hg hm hv (pa_cons hvr (pa_cons (pe_bltn (v := .ty B) hgy hmy hvy rfl hny hdy) pa_nil s2) s1) hn hdb s1 hpl) h.pa hs) fun σ H Q q => by
    obtain ⟨F, dd, v, x, h1, h2, h3, h4, h5, k⟩ := q
    exact ⟨_, h1, .ty B, .type B, b, rfl, fun u r => r, hB, .inr ⟨dd, _, h3, h4⟩, F, dd, v, x, h1, h2, h3, h4, h5, fun vs hv => k _ (.cons (.bl b) hv)⟩⟩
end
/-- try: body except c as n: return [..] -/
def gTryR (i : Nat) (c : Str) (f : Str) (φ : PyData → List PyData) (B : Gs) : Gs := fun env => match B env with
  | some (.ex c' [(f', d)] e) => if c' = c ∧ f' = f ∧ i < e.length ∧ (φ d).length ≤ 1000 then some (.rt (.list (φ d)) e) else none
  | some (.ex _ _ _) => none
  | r => r
theorem pds_tryR {X : Cx} {W : WX} {c n f : Str} {C : Addr} {i : Nat} {body : List Stmt} {es : List Expr} {np pos pos' q1 q5 : Pos} {B : Gs} {φ : PyData → List PyData} (hs : X.stack = X.env :: X.outer) (hf : X.env.frame = some X.env.locals) (hN : X.N.Nodup) (hi : X.N[i]? = some n) (hln : X.env.kindOf n = some .local)
    (hc : Names X c (.ref C)) (hm : X.mg c = some (.ref C)) (te : PySem.W.exmOne X.K (.ref C) (.ref C) = some true)
    (hb : ∀ (W : WX) (pn : List (Addr × Obj)) (xe : Value → Shared → Prop), Takes (X.tr pn xe) W → PassesOwn (model X.prog X.w) X.A X.env xe → PDSs (X.tr pn xe) W body B)
    (hsu : ∀ (a : Addr) (oe : Obj) (d : Option Addr) (pn : List (Addr × Obj)), Zc (.ref C) d oe → (∃ vs, oe.data = .fields vs) → PSE (X.suite a ((a, oe) :: pn)) a (.ref C) d i C f es φ) :
    PDS X W (.Try body [.ExceptHandler (some (.Name c np)) (some n) [.Return (some (.List es q5)) q1] pos'] [] [] pos) (gTryR i c f φ B) := by
  have tkN : Takes X (fun _ _ _ _ => False) := takes0
  have hsu2 : ∀ (a : Addr) (oe : Obj) (cls : Value) (d : Option Addr) (pn : List (Addr × Obj)), Zc cls d oe → (∃ vs, oe.data = .fields vs) → PSs (X.suite a ((a, oe) :: pn)) [.Return (some (.List es q5)) q1]
      (fun D σ H => cls = .ref C ∧ tRet (tLst (fun σ H Q => ∃ (F : AS) (dd : Addr) (v : V) (x : PyData), σ[i]? = some (some (.ref a)) ∧ cls = .ref C ∧ d = some dd ∧ H dd = some (.xd [(f, v)]) ∧ Dn X.K F H v x ∧ ∀ vs, DnA X.K F H vs (φ x) → Q vs H)) D σ H) := fun a oe cls d pn hz hfl => by
    by_cases hcl : cls = .ref C
    · subst hcl
      refine PSs.wk (pss_one (ps_ret (pe_lst (hsu a oe d pn hz hfl).pa))) fun D σ H q => q.2
    · exact ⟨fun pins s σ H D I h => (hcl h.1).elim⟩
  refine ⟨PS.wk (ps_try_as (i := i) (tb := fun W => tS X W B) hs hf hN hi hln hc tkN (fun W pn xe tk po => (hb W pn xe tk po).pss) hsu2) fun D σ H q => ?_⟩
  obtain ⟨Wp, Fb, L, env, r, R, g, k⟩ := q
  unfold gTryR at g
  split at g
  · rename_i c' f' d e hB
    split at g
    rotate_left
    · cases g
    rename_i hcf
    obtain ⟨rfl, rfl, hil, hlen⟩ := hcf
    cases g
    refine ⟨Wp, Fb, L, env, _, R, hB, fun cls dd σ' H' L' t R' x => ?_⟩
    obtain ⟨hcl, da, v, rfl, na, hda, hd⟩ := x
    rw [hm] at hcl
    cases hcl
    refine ⟨true, te, fun _ a ha => ⟨rfl, ?_⟩, fun z => nomatch z⟩
    rw [R'.len] at hil
    refine ⟨_, da, v, d, List.getElem?_set_self hil, rfl, rfl, hda, hd, fun vs hv => ⟨Nat.le_trans (by rw [hv.length]; exact hlen) (by decide), fun p hp => ?_⟩⟩
    exact k _ σ' _ L' (t.trans (Tr.new hp)) (R'.new hp) (.lst (R'.free hp) upd_same (hv.mv (mv_grow (upd_grow hp))))
  · cases g
  · rename_i hn1 hn2
    refine ⟨Wp, Fb, L, env, r, R, g, ?_⟩
    cases r with
    | nx e => exact k
    | rt d e => exact k
    | bk e => exact k
    | ct e => exact k
    | ex c' fs e => exact (hn2 c' fs e g).elim
end PD
namespace PD
open PySem PySem.Spec PyProof.Rows L2
section
variable {X : Cx} {W : WX}
/-! ### times: numbers, lists, tuples -/
def dMul3 : PyData → PyData → Option PyData
  | .tuple xs, .int k => if xs ≠ [] ∧ 2 ≤ k ∧ k ≤ 1000 ∧ xs.length ≤ 1000 then some (.tuple (List.replicate k.toNat xs).flatten) else none
  | a, b => dMul a b
theorem rd_mul3 {K : Fr0} : RD2 K (fun x y H Q => rRepT K x y H Q ∨ rMul x y H Q) dMul3 := ⟨by
  intro F H x y d e z Q hx hy hz hf k
  unfold dMul3 at hz
  split at hz
  · rename_i xs n
    split at hz
    · rename_i hc
      cases hz; cases hy
      obtain ⟨a, vs, rfl, ha, da⟩ := hx.tupInv
      refine .inl ⟨a, n, vs, rfl, rfl, ha, fun z => ?_, hc.2.1, hc.2.2.1, by rw [da.length]; exact hc.2.2.2, fun p hp => k _ _ (upd_grow hp) (.tup (.inl ⟨hf p hp, upd_same⟩) ((da.rep _).mv (mv_grow (upd_grow hp))))⟩
      subst z
      cases da
      exact hc.1 rfl
    · cases hz
  · exact .inr (rd_mul.go hx hy hz hf k)⟩
theorem pd_mul3 {a b : Expr} {Ga Gb : GE} {pos : Pos} (ha : PD X W a Ga) (hb : PD X W b Gb) : PD X W (.BinOp a .Mult b pos) (gOp dMul3 Ga Gb) := pd_op (L2.OpR.or op_repT or_mul) rd_mul3 ha hb
/-! ### one of several defs, by its place in a list -/
structure Hd (X : Cx) (k : Nat) (f : Addr) (F : List Sl → Option FR) : Prop where
  ex : ∃ (fd : FuncData) (ps : List Str), FnOk X.prog X.w X.K X.mg X.base (L2.CX X.prog X.w) k f fd ps (spF X.K X.mg F) ∧ PySem.W.keepIn X.K (.ref f) = true ∧ Binds X.K fd ps []
theorem Df.hd {k j : Nat} {x : Str} {st : Stmt} {ps : List Str} {F : List Sl → Option FR} (D : Df X.prog X.w X.K X.mg X.base k x st ps F) : ∃ f, X.mg x = some (.ref f) ∧ Hd X k f F := by
  obtain ⟨f, fd, Fn, hm, hk, hb, _⟩ := D.ex
  exact ⟨f, hm, fd, ps, Fn, hk, hb⟩
def gSel (Gi : GE) (Fs : List (List Sl → Option FR)) (G : Gm (List Ar)) : GE := gB Gi fun d env => match d with
  | .int (.ofNat n) => (Fs[n]?).bind fun F => (gB G (gF F)) env
  | _ => none
inductive HdA (X : Cx) : List Nat → List Addr → List (List Sl → Option FR) → Prop
  | nil : HdA X [] [] []
  | cons {k : Nat} {f : Addr} {F : List Sl → Option FR} {ks : List Nat} {fs : List Addr} {Fs : List (List Sl → Option FR)} : Room k X.A → Hd X k f F → HdA X ks fs Fs → HdA X (k :: ks) (f :: fs) (F :: Fs)
theorem HdA.get {ks : List Nat} {fs : List Addr} {Fs : List (List Sl → Option FR)} (h : HdA X ks fs Fs) : ∀ {n : Nat} {F : List Sl → Option FR}, Fs[n]? = some F → ∃ k f, fs[n]? = some f ∧ Room k X.A ∧ Hd X k f F := by
  induction h with
  | nil => intro n F h; simp at h
  | cons r d _ ih =>
    intro n F h
    cases n with
    | zero => simp at h; subst h; exact ⟨_, _, rfl, r, d⟩
    | succ n => exact ih (n := n) (by simpa using h)
theorem HdA.len {ks : List Nat} {fs : List Addr} {Fs : List (List Sl → Option FR)} (h : HdA X ks fs Fs) : fs.length = Fs.length := by
  induction h with
  | nil => rfl
  | cons _ _ _ ih => simp [ih]
theorem pd_callSel {els : List Expr} {ix e : Expr} {es : List Expr} {lp sp pos : Pos} {Gi : GE} {G : Gm (List Ar)} {ks : List Nat} {fs : List Addr} {Fs : List (List Sl → Option FR)} {tl : TA} (hs : HdA X ks fs Fs) (hel : PA X els tl) (htl : ∀ σ H (Q : List V → Hp → Prop), Q (fs.map V.ref) H → tl σ H Q) (hsz : fs.length ≤ 100) (tk : Takes X W)
    (hi : PD X W ix Gi) (ha : PDR X W (e :: es) G) (hp : PlainIx ix := by intros; rfl)
    (ht : eval (.Call (.Subscript (.List els lp) ix sp) (e :: es) [] pos) X.env = (do callWith pos (← eval (.Subscript (.List els lp) ix sp) X.env) [] (backTo pos (starEach (e :: es) X.env)) (backToKw pos (keywordEach [] X.env))) := by rfl)
    (he : starEach (e :: es) X.env = (false, eval e X.env) :: starEach es X.env := by rfl) (hpl : (backTo pos (starEach es X.env)).any (·.1) = false := by rfl) :
    PD X W (.Call (.Subscript (.List els lp) ix sp) (e :: es) [] pos) (gSel Gi Fs G) := ⟨⟨fun pins s σ H Q I q => by
  have hq : tOp (rIx X.K) (tLst tl) (tD X W Gi) σ H fun y H1 => ∃ (n : Nat) (F : List Sl → Option FR) (k : Nat) (f : Addr), y = .ref f ∧ Room k X.A ∧ Hd X k f F ∧ tD X W (gB G (gF F)) σ H1 Q := by
    refine htl σ H _ ⟨Nat.le_trans (by simpa using hsz) (by decide), fun p hp => ?_⟩
    obtain ⟨Wp, Fb, L, env, r, R, g, k⟩ := q
    have hp2 : ¬ L p := fun z => R.free hp (.inl z)
    have R1 : ER X.K Wp Fb L (upd H p (.lst (fs.map V.ref))) σ env := R.new hp
    have t1 : Tr H L (upd H p (.lst (fs.map V.ref))) L := Tr.new hp
    unfold gSel gB at g
    split at g
    · cases g
    · rename_i d e1 hg
      refine ⟨Wp, Fb, L, env, _, R1, hg, fun H2 L2 t2 R2 b hb => ?_⟩
      dsimp only at g
      split at g
      · rename_i n
        obtain ⟨F, hF, g⟩ := Option.bind_eq_some_iff.mp g
        obtain ⟨k2, f, hf, hr, hd⟩ := hs.get hF
        cases hb
        refine .inl ⟨p, fs.map V.ref, _, .ref f, rfl, rfl, SqL.of (t2 p _ upd_same hp2).1, ?_, n, F, k2, f, rfl, hr, hd, Wp, Fb, L2, e1, r, R2, g, k.from (t1.trans t2)⟩
        have hlt : n < fs.length := (List.getElem?_eq_some_iff.mp hf).1
        unfold atI
        rw [show ixN (fs.map V.ref).length (Int.ofNat n) = some n by
          unfold ixN
          simp
          omega]
        rw [Option.bind_some, List.getElem?_map, hf]
        rfl
      · cases g
    · rename_i c fs' e1 hg
      cases g
      exact ⟨Wp, Fb, L, env, _, R1, hg, fun cls dd H' L' t R' x => k cls dd H' L' (t1.trans t) R' x⟩
  refine Call_ (thn ((pe_ix ix_seq (pe_lst hel) hi.pe hp).run pins s σ H _ I hq) fun u s1 ⟨y, H1, I1, ry, n, F, k, f, ey, hr, hd, q1⟩ => ?_) ht
  subst ey
  obtain rfl : u = Value.ref f := ry
  obtain ⟨fd, ps, Fn, hk, hb⟩ := hd.ex
  have q2 := tG.seq (ρ := ρAs X.K σ) q1
  refine PySem.W.callWith_K (h₀ := X.base) I1.ok.mod.kin hk (thn (ha.pa.run pos pins s1 σ H1 _ I1 q2) fun us s2 ⟨vs, H2, I2, r, z⟩ => ⟨I2.kIn, ?_⟩) he hpl
  obtain ⟨as, Wp, Fb, L, env, r', hx, R, g, kk⟩ := z
  exact run_fnS Fn hr hb (passAt tk σ) I2 r (gF_go hx R g kk)⟩⟩
end
end PD
namespace PD
open PySem PySem.Spec PyProof.Rows L2
section
variable {X : Cx} {W : WX} {k : Nat} {b : Expr}
/-! ### by the room -/
theorem cr_lt (hr : Room k X.A) : CD X .Lt b dLt := cd_lt (by have := hr.un; omega)
theorem cr_eq (hr : Room k X.A) : CD X .Eq b (dEq false) := cd_eq (by have := hr.un; omega)
theorem cr_ne (hr : Room k X.A) : CD X .NotEq b (dEq true) := cd_ne (by have := hr.un; omega)
/-! ### built-ins by name -/
variable {e e2 : Expr} {es : List Expr} {G : GA} {p pos : Pos}
theorem pd_len (hm : X.mg "len" = none) (ha : PDA X W [e] G) (hg : Gl X "len" := by rfl) (hs : starEach [e] X.env = (false, eval e X.env) :: starEach [] X.env := by rfl) (hpl : (backTo pos (starEach [] X.env)).any (·.1) = false := by rfl) : PD X W (.Call (.Name "len" p) [e] [] pos) (gCall dLen G) := pd_cb call_len_seq rc_len hg hm boot_len ha (by decide) (by decide) hs hpl
theorem pd_abs (hm : X.mg "abs" = none) (ha : PDA X W [e] G) (hg : Gl X "abs" := by rfl) (hs : starEach [e] X.env = (false, eval e X.env) :: starEach [] X.env := by rfl) (hpl : (backTo pos (starEach [] X.env)).any (·.1) = false := by rfl) : PD X W (.Call (.Name "abs" p) [e] [] pos) (gCall dAbs G) := pd_cb call_abs rc_abs hg hm (by decide +kernel) ha (by decide) (by decide) hs hpl
theorem pd_int1 (hm : X.mg "int" = none) (ha : PDA X W [e] G) (hg : Gl X "int" := by rfl) (hs : starEach [e] X.env = (false, eval e X.env) :: starEach [] X.env := by rfl) (hpl : (backTo pos (starEach [] X.env)).any (·.1) = false := by rfl) : PD X W (.Call (.Name "int" p) [e] [] pos) (gCall dToInt G) := pd_ct call_int1 rc_int hg hm (by decide +kernel) ha (by decide) (by decide) hs hpl
theorem pd_tuple (hm : X.mg "tuple" = none) (ha : PDA X W [e] G) (hg : Gl X "tuple" := by rfl) (hs : starEach [e] X.env = (false, eval e X.env) :: starEach [] X.env := by rfl) (hpl : (backTo pos (starEach [] X.env)).any (·.1) = false := by rfl) : PD X W (.Call (.Name "tuple" p) [e] [] pos) (gCall dToTup G) := pd_ct call_tuple_of rc_tuple hg hm (by decide +kernel) ha (by decide) (by decide) hs hpl
theorem pd_all (hc : X.calm = true) (hm : X.mg "all" = none) (ha : PDA X W [e] G) (hg : Gl X "all" := by rfl) (hs : starEach [e] X.env = (false, eval e X.env) :: starEach [] X.env := by rfl) (hpl : (backTo pos (starEach [] X.env)).any (·.1) = false := by rfl) : PD X W (.Call (.Name "all" p) [e] [] pos) (gCall dAll G) := pd_cb (cr_all hc) rc_all hg hm (by decide +kernel) ha (by decide) (by decide) hs hpl
theorem pd_any (hc : X.calm = true) (hm : X.mg "any" = none) (ha : PDA X W [e] G) (hg : Gl X "any" := by rfl) (hs : starEach [e] X.env = (false, eval e X.env) :: starEach [] X.env := by rfl) (hpl : (backTo pos (starEach [] X.env)).any (·.1) = false := by rfl) : PD X W (.Call (.Name "any" p) [e] [] pos) (gCall dAny G) := pd_cb (cr_any hc) rc_any hg hm (by decide +kernel) ha (by decide) (by decide) hs hpl
theorem pd_max2 (hc : X.calm = true) (hm : X.mg "max" = none) (ha : PDA X W [e, e2] G) (hg : Gl X "max" := by rfl) (hs : starEach [e, e2] X.env = (false, eval e X.env) :: starEach [e2] X.env := by rfl) (hpl : (backTo pos (starEach [e2] X.env)).any (·.1) = false := by rfl) : PD X W (.Call (.Name "max" p) [e, e2] [] pos) (gCall dMax G) := pd_cb (call_max2 hc) rc_max hg hm (by decide +kernel) ha (by decide) (by decide) hs hpl
theorem pd_min2 (hc : X.calm = true) (hm : X.mg "min" = none) (ha : PDA X W [e, e2] G) (hg : Gl X "min" := by rfl) (hs : starEach [e, e2] X.env = (false, eval e X.env) :: starEach [e2] X.env := by rfl) (hpl : (backTo pos (starEach [e2] X.env)).any (·.1) = false := by rfl) : PD X W (.Call (.Name "min" p) [e, e2] [] pos) (gCall dMin G) := pd_cb (call_min2 hc) rc_min hg hm (by decide +kernel) ha (by decide) (by decide) hs hpl
/-! ### blocks -/
theorem blk_mk {N : List Str} {sc scope : Scope} {own : List (Str × Nat)} (h1 : scope.kind = .function)
    (h : (∀ y ∈ scope.names, scope.names.lookup y.1 = some y.2) ∧ (∀ p ∈ own, N[p.2]? = some p.1) ∧ (∀ y ∈ scope.names, y.2 = .free → sc.names.lookup y.1 = some .cell ∨ sc.names.lookup y.1 = some .free) ∧ ∀ y ∈ scope.names, y.2 = .local ∨ y.2 = .cell → y.1 ∈ own.map (·.1) ∨ y.1 ∉ N) : BlkOk N sc scope own := ⟨h1, h.1, h.2.1, h.2.2.1, h.2.2.2⟩
end
section
variable {P : Program} {w : World} {K : Fr0} {mg : Str → Option Value} {base : Heap}
theorem df_mk {x : Str} {st : Stmt} {f : Addr} {fd : FuncData} {N ps : List Str} {k : Nat} {B : Gs} (Fn : Fun K x x st f fd) (hm : mg x = some (.ref f)) (hb : Binds K fd ps []) (S : FnScope N ps (defScope st)) (hn : ps.length ≤ N.length)
    (body : ∀ (cdv : Value) (A : Around) (outer : List Env) (s : Shared) (H : Hp) (E : XK), Room k (A.deeper (envOfC x (defScope st) s.heap.objs.size f cdv)) →
      PDSs (cxOf (L2.CX P w) P w K mg base N x (defScope st) f cdv A outer s H E) (fun cls d _ H' => E cls d H') (defBody st) B) : Df P w K mg base (k + 1) x st ps (fnF ps.length N.length B) :=
  ⟨f, fd, fn_pd Fn S hn body, hm, Fn.kp, hb, Fn⟩
/-- nothing is promised -/
theorem df_no {x : Str} {st : Stmt} {f : Addr} {fd : FuncData} {ps : List Str} {k : Nat} (Fn : Fun K x x st f fd) (hm : mg x = some (.ref f)) (hb : Binds K fd ps []) : Df P w K mg base k x st ps (fun _ => none) :=
  ⟨f, fd, ⟨fun _ _ _ _ ⟨_, _, _, _, _, _, z, _⟩ => (nomatch z), fun _ _ _ _ _ _ _ _ _ _ _ _ _ ⟨_, _, _, _, _, _, z, _⟩ => (nomatch z)⟩, hm, Fn.kp, hb, Fn⟩
/-- a def as the head tells it -/
theorem fun_of {x q : Str} {st : Stmt} {f : Addr} {fd : FuncData} (F : FunD K x q (defArgs st) (defBody st) (defScope st) [] [] f fd) : Fun K x q st f fd := by
  obtain ⟨oc, od, dV, kV, doc, pm, an, cdv, ct, osl, rfl, lk, hcd, hD, hK⟩ := F.ex
  rcases hD with ⟨_, rfl⟩ | ⟨e, _⟩
  · exact ⟨⟨oc, od, kV, doc, pm, an, cdv, ct, osl, rfl, lk, hcd⟩, F.kp⟩
  · exact absurd rfl e
end
end PD
namespace PD
open PySem PySem.Spec PyProof.Rows L2
def clsDef (s : Stmt) (j : Nat) : Stmt := match s with
  | .ClassDef _ _ _ b _ _ _ _ _ _ _ => b.getD j (.Pass ⟨0, 0, 0, 0⟩)
  | _ => .Pass ⟨0, 0, 0, 0⟩
/-- an own error with one field: all that is asked of it -/
structure Ec (P : Program) (w : World) (K : Fr0) (mg : Str → Option Value) (base : Heap) (c f : Str) (B newId : String) (bmB : List Value) (C : Addr) : Prop where
  g : mg c = some (.ref C)
  x : ExK K C B newId bmB
  xf : XfC K C
  te : PySem.W.exmOne K (.ref C) (.ref C) = some true
  no : PySem.W.findIn K (.ref C) f = some none
  is : ExcC K C
  ini : ∃ (fI : Addr) (fd : FuncData) (ps : List Str), PySem.W.findIn K (.ref C) "__init__" = some (some (.ref fI)) ∧ PySem.W.typeIn K (.ref fI) = some (.type "function") ∧ FnOk P w K mg base (L2.CX P w) 1 fI fd ps (spIni C f) ∧ Binds K fd ps []
section
variable {X : Cx} {W : WX} {c f : Str} {B newId initId : String} {bmB : List Value} {C : Addr}
theorem pds_raiseE {e : Expr} {p pos pos2 : Pos} {G : GE} (FB : ExcBaseFacts B newId initId bmB) (T : Ec X.prog X.w X.K X.mg X.base c f B newId bmB C) (hr : Room 2 X.A) (hc : X.calm = true) (tk : Takes X W) (hg : Gl X c) (he : PD X W e G)
    (hs : starEach [e] X.env = (false, eval e X.env) :: starEach [] X.env := by rfl) (hdb : (c == ("__debug__" : Str)) = false := by decide) (hpl : (backTo pos (starEach [] X.env)).any (·.1) = false := by rfl) :
    PDS X W (.Raise (some (.Call (.Name c p) [e] [] pos)) none pos2) (gRaise1 c f G) := by
  obtain ⟨fI, fd, ps, h1, h2, h3, h4⟩ := T.ini
  exact pds_raise1 hc tk T.g he (fun ha => pmk_one FB T.x h1 h2 h3 hr h4 hg T.g ha hdb hs hpl) hs
end
/-! ### the head's facts, each a Bool -/
def eB (a b : Option (Option Value)) : Bool := decide (a = b)
def clsB (x f : Str) (B newId : String) (bmB : List Value) (isi : List (String × Bool)) (K : Fr0) : Bool :=
  (He.Fa.glo x).ok K && (PySem.W.excInitIn K (He.ga K x) bmB newId && (PySem.W.excOver K (He.ga K x) bmB && (eB (PySem.W.findIn K (.ref (He.ga K x)) "__setattr__") (some (some (.builtin "object.__setattr__"))) &&
  (PySem.W.hasDictIn K (He.ga K x) && (decide (PySem.W.subIn K (.ref (He.ga K x)) (.type "BaseException") = some true) && (decide (PySem.W.typeIn K (.ref (He.ga K x)) = some (.type "type")) && (PySem.W.keepIn K (.ref (He.ga K x)) &&
  (xfB K (He.ga K x) && (decide (PySem.W.exmOne K (.ref (He.ga K x)) (.ref (He.ga K x)) = some true) && (eB (PySem.W.findIn K (.ref (He.ga K x)) f) (some none) &&
  (eB (PySem.W.findIn K (.ref (He.ga K x)) "__class__") (some (some (.builtin "object.__class__"))) && (eB (PySem.W.specialIn K (.builtin "object.__class__") "__get__") (some (some (.builtin "getset_descriptor.__get__"))) &&
  (decide (PySem.W.takesIn K (.builtin "object.__class__") = some true) && (decide (PySem.W.mroIn K (He.ga K x) (.type "object") = some true) &&
  (eB (PySem.W.findIn K (.ref (He.ga K x)) "__init__") (some (some (.ref (He.ma K (He.ga K x) "__init__")))) && (decide (PySem.W.typeIn K (.ref (He.ma K (He.ga K x) "__init__")) = some (.type "function")) &&
  (eB (PySem.W.takerIn K (He.ga K x) f) (some none) && isi.all fun q => decide (PySem.W.kitOne K (.ref (He.ga K x)) (.type q.1) = some q.2))))))))))))))))))
structure ClsF (K : Fr0) (x f : Str) (B newId : String) (bmB : List Value) (isi : List (String × Bool)) : Prop where
  glo : (He.Fa.glo x).ok K = true
  xk : ExK K (He.ga K x) B newId bmB
  xf : XfC K (He.ga K x)
  te : PySem.W.exmOne K (.ref (He.ga K x)) (.ref (He.ga K x)) = some true
  no : PySem.W.findIn K (.ref (He.ga K x)) f = some none
  is : ExcC K (He.ga K x)
  ii : PySem.W.findIn K (.ref (He.ga K x)) "__init__" = some (some (.ref (He.ma K (He.ga K x) "__init__")))
  it : PySem.W.typeIn K (.ref (He.ma K (He.ga K x) "__init__")) = some (.type "function")
  ht : PySem.W.takerIn K (He.ga K x) f = some none
  isi : ∀ q ∈ isi, PySem.W.kitOne K (.ref (He.ga K x)) (.type q.1) = some q.2
theorem clsB_ok {x f : Str} {B newId : String} {bmB : List Value} {isi : List (String × Bool)} {K : Fr0} (h : clsB x f B newId bmB isi K = true) : ClsF K x f B newId bmB isi := by
  unfold clsB at h
  obtain ⟨h1, h⟩ := He.ba h
  obtain ⟨h2, h⟩ := He.ba h
  obtain ⟨h3, h⟩ := He.ba h
  obtain ⟨h4, h⟩ := He.ba h
  obtain ⟨h5, h⟩ := He.ba h
  obtain ⟨h6, h⟩ := He.ba h
  obtain ⟨h7, h⟩ := He.ba h
  obtain ⟨h8, h⟩ := He.ba h
  obtain ⟨h9, h⟩ := He.ba h
  obtain ⟨h10, h⟩ := He.ba h
  obtain ⟨h11, h⟩ := He.ba h
  obtain ⟨h12, h⟩ := He.ba h
  obtain ⟨h13, h⟩ := He.ba h
  obtain ⟨h14, h⟩ := He.ba h
  obtain ⟨h15, h⟩ := He.ba h
  obtain ⟨h16, h⟩ := He.ba h
  obtain ⟨h17, h⟩ := He.ba h
  obtain ⟨h18, h⟩ := He.ba h
  have xf := xfB_ok h9
  exact ⟨h1, ⟨h2, h3, of_decide_eq_true h4, h5, of_decide_eq_true h6, of_decide_eq_true h7, h8⟩, xf, of_decide_eq_true h10, of_decide_eq_true h11, ⟨xf.ga, xf.gg, xf.exC, xf.hdC, of_decide_eq_true h12, of_decide_eq_true h13, of_decide_eq_true h14, of_decide_eq_true h15⟩,
    of_decide_eq_true h16, of_decide_eq_true h17, of_decide_eq_true h18, fun q hq => of_decide_eq_true (List.all_eq_true.mp h q hq)⟩
/-! ### the head, read by facts of one's own -/
def obsP (fa : List (Fr0 → Bool)) (fn : List He.DefD) (K : Fr0) : He.AlD := ((fa.all fun f => f K) && fn.all fun d => d.ok K, fn.map fun d => He.fnW K d.at_)
def SaysP (fa : List (Fr0 → Bool)) (fn : List He.DefD) (K : Fr0) : Prop := obsP fa fn K = He.valD fn
def obsPG (n : Nat) (fa : List (Fr0 → Bool)) (fn : List He.DefD) (g : Addr → Option Obj) : He.AlD := obsP fa fn (He.frG g (He.asD g n))
def hookP (n : Nat) (fa : List (Fr0 → Bool)) (fn : List He.DefD) : PySem.W.Hook where
  α := He.AlD
  obs := fun s => obsPG n fa fn s.heap.get?
  val := fun _ => He.valD fn
  says := fun _ h => ∃ K : Fr0, K.In h ∧ SaysP fa fn K
  of := fun _ _ e => ⟨_, He.frG_in, e⟩
  keeps := fun _ _ _ ⟨K, hK, c⟩ k => ⟨K, PySem.W.Frag.In.keeps hK k, c⟩
theorem obsPG_eq {n : Nat} {fa : List (Fr0 → Bool)} {fn : List He.DefD} {g : Addr → Option Obj} {s : Shared} (h : ∀ a, g a = s.heap.get? a) : obsPG n fa fn g = (hookP n fa fn).obs s := by
  have e : g = s.heap.get? := funext h
  rw [e] <;> rfl
section
variable {fa : List (Fr0 → Bool)} {fn : List He.DefD} {K : Fr0}
theorem SaysP.fact (c : SaysP fa fn K) (i : Nat) {f : Fr0 → Bool} (h : fa[i]? = some f := by rfl) : f K = true := by
  have z := (He.ba (show ((fa.all fun f => f K) && fn.all fun d => d.ok K) = true from congrArg (fun z : He.AlD => z.1) c)).1
  exact List.all_eq_true.mp z f (List.mem_of_getElem? h)
theorem SaysP.def_ (c : SaysP fa fn K) (i : Nat) {d : He.DefD} (h : fn[i]? = some d := by rfl) : ∃ fd, FunD K d.name d.qual d.params d.body d.scope (d.dvs K) (d.kws K) (He.fAd K d.at_) fd := by
  have z := (He.ba (show ((fa.all fun f => f K) && fn.all fun d => d.ok K) = true from congrArg (fun z : He.AlD => z.1) c)).2
  have e : fn.map (fun d => He.fnW K d.at_) = fn.map He.DefD.val := congrArg (fun z : He.AlD => z.2) c
  have y : (fn.map fun d => He.fnW K d.at_)[i]? = (fn.map He.DefD.val)[i]? := by rw [e]
  rw [List.getElem?_map, List.getElem?_map, h] at y
  exact He.DefD.funD (Option.some.inj y) (List.all_eq_true.mp z d (List.mem_of_getElem? h))
end
end PD
namespace PD
open PySem PySem.Spec PyProof.Rows L2 PpSet
abbrev gFrz (G : GA) : GE := gB G fun ds => gP (.list ds)
theorem boot_LookupError : bootBuiltins "LookupError" = some (.type "LookupError") := by decide +kernel
/-! ### {elt for tg in iter if ..} over any kind of set: what is tracked of the set at D is told by t -/
structure SKd (X : Cx) (τ : Type) where
  ob : Addr → τ → HO
  t0 : τ
  put : τ → V → τ → Prop
  new : ∀ {Hq : Hp} {s : Shared}, ObjOk X.prog X.w Hq (s.heap.push { cls := .type "set", dict := none, data := .set #[] 0 (.fresh 0 0 (!X.w.params.followText "set-order")) }) s.heap.objs.size (ob s.heap.objs.size t0)
  add : ∀ {Z : Cx} {pins : List (Addr × Obj)} {σ : L2.St} {H : Hp} {s : Shared} {E : Value → Shared → Prop} {D : Addr} {t t' : τ} {y : V} {u : Value} {Q : Value → Shared → Prop}, Z.prog = X.prog → Z.w = X.w → Z.K = X.K → Inv Z pins σ H s → H D = some (ob D t) → RelV y u → put t y t' →
    (∀ s', Inv Z pins σ (upd H D (ob D t')) s' → Q .none s') → wpAny (model Z.prog Z.w) Z.A (call (.builtin "set.add") [.ref D, u]) Q E s
def tScK {X : Cx} {τ : Type} (Kd : SKd X τ) (wi : TI) (g : TG) (tt : TT) (te : TE) (vs : List Nat) : TE := fun σ H Q => wi σ H fun J H1 => ∀ D, H1 D = none → ∃ M : Nat → Nat → Hp → Prop, (∃ m, M 0 m (upd H1 D (Kd.ob D Kd.t0))) ∧ ∀ i m Hi, M i m Hi →
  (J.stop i Hi ∧ Q (.ref D) Hi) ∨ (J.go i Hi ∧ ∃ Nx : Hp → Prop, (∀ Hn, Nx Hn → ∃ m', m' < m ∧ M (i + 1) m' Hn) ∧ ∀ x Hy, J.yld i Hi x Hy → g x (wipe σ vs) Hy fun σb Hb => wipe σb vs = wipe σ vs ∧ tt σb Hb fun b Hc =>
    if b = true then te σb Hc fun y Hd => ∃ t t', Hd D = some (Kd.ob D t) ∧ Kd.put t y t' ∧ Nx (upd Hd D (Kd.ob D t')) else Nx Hc)
section
variable {X : Cx} {τ : Type} {Kd : SKd X τ} {elt tg iter : Expr} {ifs : List Expr} {scope : Scope} {own : List (Str × Nat)} {pos : Pos} {wi : TI} {g : TG} {tt : TT} {te : TE}
theorem pe_scK (hc : X.calm = true) (hN : X.N.Nodup) (hi : PI X tg iter wi) (ok : BlkOk X.N X.env.scope scope own)
    (hg : ∀ (s : Shared) (H : Hp) (C : Addr) (cl : List (Str × Addr)) (fp : List Addr), PG (X.blk s H scope (compEnvC scope cl C X.env) fp) tg g) (ht : ∀ (s : Shared) (H : Hp) (C : Addr) (cl : List (Str × Addr)) (fp : List Addr), PTs (X.blk s H scope (compEnvC scope cl C X.env) fp) ifs tt)
    (he : ∀ (s : Shared) (H : Hp) (C : Addr) (cl : List (Str × Addr)) (fp : List Addr), PE (X.blk s H scope (compEnvC scope cl C X.env) fp) elt te) (hs : ∀ x, foldedSetIterable iter X.env x = pure x := by intro _; rfl) : PE X (.SetComp elt [⟨tg, iter, ifs, 0⟩] scope pos) (tScK Kd wi g tt te (own.map (·.2))) := by
  refine ⟨fun pins s σ H Q I h => ?_⟩
  rw [eval_SetComp]
  have fre : ∀ y ∈ scope.names, y.2 = .free → ∃ c, X.env.cells.lookup y.1 = some c := fun y hy e => (ok.free y hy e).elim (fun z => I.ok.has _ (.inl z)) fun z => I.ok.has _ (.inr z)
  refine wpAny_comprehension_free (use := none) rfl hs (closure_ok fre) ok.kind (fun y hy e => by rw [ok.uniq y hy, e]) (thn (hi.run pins s σ H _ I h) fun _ _ hx => thn hx fun _ s2 ⟨it, fp, tn, J, H2, e, I2, T, st2, f2, q⟩ => ?_)
  subst e
  refine newSet_ok (newEnv_comp ?_)
  -- the set stands
  let D : Addr := s2.heap.objs.size
  have bel : ∀ b ∈ fp, b < D := fun b hb => by
    obtain ⟨o, eo, _⟩ := T.obj _ _ st2 b hb
    exact Heap.lt_size eo
  obtain ⟨M, ⟨m0, w0⟩, turn⟩ := q D (I2.hok.fresh (Nat.le_refl _))
  let sS : Shared := { s2 with heap := s2.heap.push { cls := .type "set", dict := none, data := .set #[] 0 (.fresh 0 0 (!X.w.params.followText "set-order")) } }
  have grS : ∀ b o, s2.heap.get? b = some o → sS.heap.get? b = some o := fun b o eo => Heap.get?_push_of_some _ eo
  obtain ⟨HS, hHS⟩ : ∃ Z, upd H2 D (Kd.ob D Kd.t0) = Z := ⟨_, rfl⟩
  rw [hHS] at w0
  have IS : Inv X pins σ HS sS := hHS ▸ I2.laid (t' := s2.toks) grS (Nat.le_refl _) Kd.new
  have szS : D < sS.heap.objs.size := by
    show D < (s2.heap.push _).objs.size
    rw [Heap.size_push]
    exact Nat.lt_succ_self _
  have fS : ∀ b ∈ fp, FpOk X pins HS b ∧ b < sS.heap.objs.size := fun b hb => ⟨⟨by rw [← hHS, upd_ne (Nat.ne_of_lt (bel b hb))]; exact (f2 b hb).1, (f2 b hb).2⟩, Nat.lt_trans (bel b hb) szS⟩
  have stS : tn 0 sS.heap := T.keep _ _ _ st2 fun b _ => grS b
  have IB := block_start IS ok hN fS
  let cl := cellsFrom (sS.heap.objs.size + 1) scope.names (cloFrom X.env.cells scope.names [])
  let C : Addr := sS.heap.objs.size
  let ce : Env := compEnvC scope cl C X.env
  have pg := hg sS HS C cl fp
  have pt := ht sS HS C cl fp
  have pe := he sS HS C cl fp
  let sB : Shared := { sS with heap := pushCells (sS.heap.push { cls := .type "dict", data := .dict #[] }) scope.names }
  have stB : tn 0 sB.heap := T.keep _ _ _ stS fun b _ o eo => pushCells_keeps _ _ _ _ (Heap.get?_push_of_some _ eo)
  show codeAny (model X.prog X.w) X.A (.compStart (.SetComp elt [⟨tg, iter, ifs, 0⟩] scope pos) 0 (.ref it) (.ref D) ce) (compPost (model X.prog X.w) X.A X.xe none (EP X pins σ Q) (.ref D) C) sB
  let Y : Cx := X.blk sS HS scope ce fp
  let vs := own.map (·.2)
  have nfp : ∀ b ∈ fp, HS b = none := fun b hb => (fS b hb).1.1
  -- what a Turn asks of its addresses, at any time in the block
  have stat : ∀ {σq : L2.St} {Hq : Hp} {sq : Shared}, Inv Y [] σq Hq sq → (∀ b ∈ fp, Hq b = none) → ∀ b ∈ fp, FpOk Y [] Hq b := fun {σq Hq sq} Iq hn b hb =>
    ⟨hn b hb, (Iq.ok.exf b hb).1, Iq.ok.exfs b hb, .inl hb, fun x c e => (Iq.ok.exf b hb).2 x c e, fun p hp => by cases hp⟩
  have loop : codeAny (model X.prog X.w) X.A (.compLoop (.SetComp elt [⟨tg, iter, ifs, 0⟩] scope pos) 0 (.ref it) (.ref D) ce) (compPost (model X.prog X.w) X.A X.xe none (EP X pins σ Q) (.ref D) C) sB := by
    refine compLoopS_any (fun n sq => ∃ i Hq, Inv Y [] (wipe σ vs) Hq sq ∧ tn i sq.heap ∧ (∀ b ∈ fp, Hq b = none) ∧ M i n Hq) (fun n s5 z => ?_) m0 ⟨0, HS, IB, stB, nfp, w0⟩
    obtain ⟨i, H5, I5, st5, n5, w5⟩ := z
    have fq := stat I5 n5
    rcases turn i n H5 w5 with ⟨stp, qq⟩ | ⟨gos, Nx, hNx, step⟩
    · refine thnF (T.done Y rfl rfl rfl hc i [] s5 _ H5 (fun _ _ => False) I5 fq st5 stp) fun r s6 ⟨hr, I6⟩ => ?_
      subst hr
      have I7 : Inv X pins σ H5 s6 := IS.call' (ch := fp) I6.os I6.base I6.hok I6.bare fun b hb =>
        have f := (fS b hb).1
        ⟨f.2.2.2.1, f.2.1, f.2.2.2.2.1, f.2.2.2.2.2⟩
      obtain ⟨m, hn, _⟩ := I6.loc
      have f := IS.fpOk (Nat.le_refl _) (show H5 C = none from I6.free)
      exact ⟨m, hn, fun h'' sb => ⟨.ref D, H5, I7.turned (t' := s6.toks) (fun b o hb e => (sb.2 b hb).trans e) f.1 f.2.1 f.2.2.2.1 f.2.2.2.2.1 f.2.2.2.2.2, rfl, qq⟩⟩
    · refine thnF (T.item Y rfl rfl rfl hc i [] s5 _ H5 (fun _ _ => False) I5 fq st5 gos) fun r s6 ⟨u, hr, h6⟩ => ?_
      subst hr
      refine thnF h6 fun _ s7 ⟨x, H7, I7, r7, y7, st7, n7⟩ => ?_
      refine thnF (pg.run _ s7 _ H7 x u _ (I7.pinned (stat I7 n7) (T.obj _ _ st7)) r7 (step x H7 y7)) fun _ s8 ⟨σ8, H8, I8, hw, q8⟩ => thnF (pt.run _ s8 σ8 H8 _ I8 q8) fun b s9 ⟨H9, I9, q9⟩ => ?_
      have fin : ∀ {sq : Shared} {Hq : Hp}, Inv Y ([] ++ pinsAt fp s7.heap) σ8 Hq sq → Nx Hq → ∃ m, m < n ∧ ∃ i Hq, Inv Y [] (wipe σ vs) Hq sq ∧ tn i sq.heap ∧ (∀ b ∈ fp, Hq b = none) ∧ M i m Hq := fun {sq Hq} Iq nx => by
        obtain ⟨m', hm, wq⟩ := hNx Hq nx
        have pin : ∀ b ∈ fp, ∀ o, s7.heap.get? b = some o → sq.heap.get? b = some o ∧ Hq b = none := fun b hb o e =>
          have z := Iq.pin (b, o) (List.mem_append_right _ (List.mem_append_right _ (mem_pinsAt hb e)))
          ⟨z.1, z.2.1⟩
        refine ⟨m', hm, i + 1, Hq, (Iq.unpinned (pins := [])).weak (by rw [show wipe σ vs = wipe σ8 vs from hw.symm, wipe_length]) (fun j v e => (wipe_some (vs := vs) (by rw [hw]; exact e)).1), T.keep _ _ _ st7 fun b hb o e => (pin b hb o e).1, fun b hb => ?_, wq⟩
        obtain ⟨o, e, _⟩ := T.obj _ _ st7 b hb
        exact (pin b hb o e).2
      cases b with
      | false =>
        rw [if_neg Bool.false_ne_true]
        exact fin I9 q9
      | true =>
        rw [if_pos rfl]
        refine thnF (pe.run _ s9 σ8 H9 _ I9 q9) fun z s10 ⟨yv, H10, I10, r10, t, t', hD10, pu, nx⟩ => ?_
        exact Kd.add (Z := Y) rfl rfl rfl I10 hD10 r10 pu fun s11 I11 => fin I11 nx
  exact codeAny_compStart_set loop (T.self X.A 0 _ _ _ stB loop)
end
/-! ### sets of ints -/
def insU (k : Int) : List Int → List Int
  | [] => [k]
  | x :: xs => if k < x then k :: x :: xs else if k = x then x :: xs else x :: insU k xs
def sortU (ns : List Int) : List Int := ns.foldl (fun s k => insU k s) []
theorem insU_mem (k j : Int) : ∀ s : List Int, j ∈ insU k s ↔ j = k ∨ j ∈ s
  | [] => by simp [insU]
  | x :: xs => by
    unfold insU
    split
    · simp
    · split
      · rename_i h
        subst h
        simp
      · rw [List.mem_cons, insU_mem k j xs, List.mem_cons]
        constructor
        · rintro (h | h | h)
          · exact .inr (.inl h)
          · exact .inl h
          · exact .inr (.inr h)
        · rintro (h | h | h)
          · exact .inr (.inl h)
          · exact .inl h
          · exact .inr (.inr h)
theorem insU_ord (k : Int) : ∀ {s : List Int}, s.Pairwise (· < ·) → (insU k s).Pairwise (· < ·)
  | [], _ => by simp [insU]
  | x :: xs, h => by
    obtain ⟨h1, h2⟩ := List.pairwise_cons.mp h
    unfold insU
    split
    · rename_i hk
      refine List.pairwise_cons.mpr ⟨fun y hy => ?_, h⟩
      rcases List.mem_cons.mp hy with z | z
      · rw [z]; exact hk
      · exact Int.lt_trans hk (h1 y z)
    · split
      · exact h
      · rename_i g1 g2
        refine List.pairwise_cons.mpr ⟨fun y hy => ?_, insU_ord k h2⟩
        rcases (insU_mem k y xs).mp hy with z | z
        · rw [z]; omega
        · exact h1 y z
theorem insU_len (k : Int) : ∀ {s : List Int}, s.Pairwise (· < ·) → (insU k s).length = if k ∈ s then s.length else s.length + 1
  | [], _ => by simp [insU]
  | x :: xs, h => by
    obtain ⟨h1, h2⟩ := List.pairwise_cons.mp h
    unfold insU
    split
    · rename_i hk
      have n : k ∉ x :: xs := fun z => by
        rcases List.mem_cons.mp z with y | y
        · omega
        · have := h1 k y
          omega
      rw [if_neg n]
      rfl
    · split
      · rename_i g
        rw [if_pos (by rw [g]; exact List.mem_cons_self)]
      · rename_i g1 g2
        show (insU k xs).length + 1 = _
        rw [insU_len k h2]
        by_cases c : k ∈ xs
        · rw [if_pos c, if_pos (List.mem_cons_of_mem _ c)]
          rfl
        · rw [if_neg c, if_neg (fun z => (List.mem_cons.mp z).elim g2 c)]
          rfl
theorem sortU_snoc (ns : List Int) (k : Int) : sortU (ns ++ [k]) = insU k (sortU ns) := by
  unfold sortU
  rw [List.foldl_append]
  rfl
theorem foldU_ord : ∀ (ns s : List Int), s.Pairwise (· < ·) → (ns.foldl (fun s k => insU k s) s).Pairwise (· < ·)
  | [], s, h => h
  | n :: ns, s, h => foldU_ord ns _ (insU_ord n h)
theorem foldU_mem (j : Int) : ∀ (ns s : List Int), j ∈ ns.foldl (fun s k => insU k s) s ↔ j ∈ ns ∨ j ∈ s
  | [], s => by simp
  | n :: ns, s => by
    show j ∈ ns.foldl (fun s k => insU k s) (insU n s) ↔ _
    rw [foldU_mem j ns, insU_mem, List.mem_cons]
    constructor
    · rintro (h | h | h)
      · exact .inl (.inr h)
      · exact .inl (.inl h)
      · exact .inr h
    · rintro ((h | h) | h)
      · exact .inr (.inl h)
      · exact .inl h
      · exact .inr (.inr h)
theorem sortU_ord (ns : List Int) : (sortU ns).Pairwise (· < ·) := foldU_ord ns [] List.Pairwise.nil
theorem sortU_mem (j : Int) (ns : List Int) : j ∈ sortU ns ↔ j ∈ ns := by
  unfold sortU
  rw [foldU_mem]
  simp
theorem sortU_len (ns : List Int) (k : Int) : (sortU (ns ++ [k])).length = if k ∈ ns then (sortU ns).length else (sortU ns).length + 1 := by
  rw [sortU_snoc, insU_len k (sortU_ord ns)]
  by_cases c : k ∈ ns
  · rw [if_pos c, if_pos ((sortU_mem k ns).mpr c)]
  · rw [if_neg c, if_neg fun z => c ((sortU_mem k ns).mp z)]
theorem sortU_le (ns : List Int) : (sortU ns).length ≤ ns.length := by
  have : ∀ (ns s : List Int), s.Pairwise (· < ·) → (ns.foldl (fun s k => insU k s) s).length ≤ ns.length + s.length := by
    intro ns
    induction ns with
    | nil => intro s _; simp
    | cons n ns ih =>
      intro s h
      have := ih (insU n s) (insU_ord n h)
      have e := insU_len n h
      show (ns.foldl _ (insU n s)).length ≤ ns.length + 1 + s.length
      split at e <;> omega
  simpa [sortU] using this ns [] List.Pairwise.nil
theorem ord_uniq : ∀ {a b : List Int}, a.Pairwise (· < ·) → b.Pairwise (· < ·) → (∀ k : Int, k ∈ a ↔ k ∈ b) → a = b
  | [], [], _, _, _ => rfl
  | [], y :: ys, _, _, h => by
    have := (h y).mpr List.mem_cons_self
    cases this
  | x :: xs, [], _, _, h => by
    have := (h x).mp List.mem_cons_self
    cases this
  | x :: xs, y :: ys, ha, hb, h => by
    obtain ⟨a1, a2⟩ := List.pairwise_cons.mp ha
    obtain ⟨b1, b2⟩ := List.pairwise_cons.mp hb
    have e : x = y := by
      rcases List.mem_cons.mp ((h x).mp List.mem_cons_self) with z | z
      · exact z
      · rcases List.mem_cons.mp ((h y).mpr List.mem_cons_self) with y' | y'
        · exact y'.symm
        · have := b1 x z
          have := a1 y y'
          omega
    subst e
    rw [ord_uniq a2 b2 fun k => ⟨fun z => ?_, fun z => ?_⟩]
    · rcases List.mem_cons.mp ((h k).mp (List.mem_cons_of_mem _ z)) with q | q
      · have := a1 k z
        omega
      · exact q
    · rcases List.mem_cons.mp ((h k).mpr (List.mem_cons_of_mem _ z)) with q | q
      · have := b1 k z
        omega
      · exact q
abbrev inS (ns : List Int) : Int → Bool := fun j => decide (j ∈ ns)
theorem inS_snoc (ns : List Int) (k : Int) : (fun j => inS ns j || decide (j = k)) = inS (ns ++ [k]) := by
  funext j
  simp [inS, List.mem_append]
def skI (X : Cx) : SKd X (List Int) where
  ob := fun a ns => SetO X.w a (inS ns) (sortU ns).length
  t0 := []
  put := fun ns y ns' => ∃ k, y = .int k ∧ ns.length < 4000 ∧ ns' = ns ++ [k]
  new := fun {Hq s} => by
    have e : inS [] = fun j => decide (j ∈ ([] : List Int).take 0) := by funext j; simp [inS]
    rw [e]
    exact setO_new (setR_new_at (ns := []) (Heap.get?_push_size _ rfl))
  add := fun {Z pins σ H s E D ns ns' y u Q} eP eW eK I hD r pu h => by
    obtain ⟨k, rfl, hl, rfl⟩ := pu
    obtain ⟨tk, rfl⟩ := r
    rw [← eW] at hD h
    refine setR_add (setO_get I hD) (Nat.lt_of_le_of_lt (Nat.succ_le_succ (sortU_le ns)) (by show ns.length + 1 < 4096; omega)) fun h' sb nw => ?_
    have he : ∃ z, h'.get? D = some z := by
      have ⟨o, _, _, _, ho, _⟩ := nw
      exact ⟨o, ho⟩
    have nw2 : SetR Z.w h' D (inS (ns ++ [k])) (sortU (ns ++ [k])).length := by
      rw [← inS_snoc, sortU_len]
      by_cases c : k ∈ ns
      · rw [if_pos (show inS ns k = true from decide_eq_true c)] at nw
        rw [if_pos c]; exact nw
      · rw [if_neg (show ¬ inS ns k = true from fun z => c (of_decide_eq_true z))] at nw
        rw [if_neg c]; exact nw
    exact h _ (I.write (e := D) (t' := s.toks + 1) (by rw [hD]; trivial) (.inl rfl) (fun b z hb hu => (sb.2 b hb).trans hu) he (setO_new nw2))
/-! ### sorted({..}) -/
theorem lcLoop_pre {t : Tg} {Gt : GT} {Ge : GE} {vs : List Nat} : ∀ {ds acc : List D} {e : En} {pf : List D × En}, lcLoop t Gt Ge vs ds acc e = some pf → ∃ r, pf.1 = acc ++ r
  | [], acc, e, pf, h => by
    unfold lcLoop at h
    cases h
    exact ⟨[], by simp⟩
  | d :: ds, acc, e, pf, h => by
    unfold lcLoop at h
    split at h
    · cases h
    · split at h
      · split at h
        · split at h
          · obtain ⟨r, hr⟩ := lcLoop_pre h
            exact ⟨_ :: r, by rw [hr, List.append_assoc]; rfl⟩
          · cases h
        · cases h
      · exact lcLoop_pre h
      · cases h
theorem ints_app : ∀ {a b : List D} {ns : List Int}, ints? (a ++ b) = some ns → ∃ p q, ints? a = some p ∧ ints? b = some q ∧ ns = p ++ q
  | [], b, ns, h => ⟨[], ns, rfl, h, rfl⟩
  | x :: a, b, ns, h => by
    cases x <;> first
      | (have h : (ints? (a ++ b)).map _ = some ns := h
         obtain ⟨m, h1, rfl⟩ := Option.map_eq_some_iff.mp h
         obtain ⟨p, q, h2, h3, rfl⟩ := ints_app h1
         refine ⟨_ :: p, q, ?_, h3, rfl⟩
         unfold ints?
         rw [h2]
         rfl)
      | (cases h)
def dSortU (ds : List D) : Option D := (ints? ds).bind fun ns => if ns.length < 64 then some (.list ((sortU ns).map PyData.int)) else none
def gSc (Gi : GA) (t : Tg) (Gt : GT) (Ge : GE) (vs : List Nat) : GE := gB (gLc Gi t Gt Ge vs) fun ds => gO (dSortU ds)
section
variable {X : Cx} {W : WX}
theorem sc_read {Gi : GA} {t : Tg} {Gt : GT} {Ge : GE} {vs : List Nat} {σ : L2.St} {H : Hp} {Q : VK} (sub : ∀ i ∈ t.is, i ∈ vs) (q : tD X W (gSc Gi t Gt Ge vs) σ H Q) : tScK (skI X) (tI X W Gi) (gTG X.K t) (tT X W0 Gt) (tD X W0 Ge) vs σ H fun v H1 => rSortedSet X.w [v] H1 Q := by
  obtain ⟨Wp, Fb, L, env, r, R, g, k⟩ := q
  unfold gSc gLc gB at g
  split at g
  · cases g
  rotate_left
  · rename_i c fs e hg
    cases g
    split at hg
    · cases hg
    · dsimp only at hg
      split at hg
      · obtain ⟨z, _, y⟩ := Option.map_eq_some_iff.mp hg
        cases y
      · cases hg
    · rename_i hq
      cases hg
      exact ⟨Wp, Fb, L, env, _, R, hq, k⟩
  rename_i dsF eF hg
  split at hg
  · cases hg
  rotate_left
  · cases hg
  rename_i items e0 hq
  dsimp only at hg
  split at hg
  rotate_left
  · cases hg
  rename_i nm
  obtain ⟨pf, hl, he⟩ := Option.map_eq_some_iff.mp hg
  cases he
  obtain ⟨zF, hz, rfl⟩ := gO_some g
  obtain ⟨nsF, hF, hz⟩ := Option.bind_eq_some_iff.mp hz
  split at hz
  rotate_left
  · cases hz
  rename_i h64
  cases hz
  refine ⟨Wp, Fb, L, env, _, R, hq, fun H1 L1 t1 R1 J wk D hD => ?_⟩
  refine ⟨fun i m Hi => m = items.length - i ∧ i ≤ items.length ∧ ∃ (Li : AS) (acc : List PyData) (e : En) (ns : List Int), lcLoop t Gt Ge vs (items.drop i) acc e = some pf ∧ Tr H1 L1 Hi Li ∧ ER X.K Wp (fun a => Fb a ∨ a = D) Li Hi (L2.wipe σ vs) e ∧ ints? acc = some ns ∧ Hi D = some ((skI X).ob D ns),
    ⟨_, rfl, Nat.zero_le _, L1, [], wipeE e0 vs, [], hl, Tr.new hD, (R1.guard hD).wipe vs, rfl, upd_same⟩, ?_⟩
  rintro i m Hi ⟨rfl, hi, Li, acc, e, ns, hm, ti, Ri, hns, hDi⟩
  obtain ⟨go, stop⟩ := wk _ Li Hi (fun a h => h.imp id fun z => by subst z; exact hD) ti Ri.trk
  by_cases hlt : i < items.length
  · refine .inr ?_
    obtain ⟨g1, g2⟩ := go i _ (show items[i]? = some items[i] by simp [hlt])
    rw [List.drop_eq_getElem_cons hlt] at hm
    unfold lcLoop at hm
    refine ⟨g1, fun Hn => ∃ (Li : AS) (acc : List PyData) (e : En) (ns : List Int), lcLoop t Gt Ge vs (items.drop (i + 1)) acc e = some pf ∧ Tr H1 L1 Hn Li ∧ ER X.K Wp (fun a => Fb a ∨ a = D) Li Hn (L2.wipe σ vs) e ∧ ints? acc = some ns ∧ Hn D = some ((skI X).ob D ns),
      fun Hn z => ⟨items.length - (i + 1), by omega, rfl, hlt, z⟩, fun x H3 y => ?_⟩
    obtain ⟨gr, dx⟩ := g2 x H3 y
    split at hm
    · cases hm
    rename_i e1 he1
    refine gTG_read (Ri.grow gr) dx he1 fun vals hvl R4 => ⟨by rw [wipe_sets sub, wipe_wipe fun _ h => h], ?_⟩
    have wp2 : L2.wipe (sets (L2.wipe σ vs) t.is vals) vs = L2.wipe σ vs := by rw [wipe_sets sub, wipe_wipe fun _ h => h]
    have t3 : Tr H1 L1 H3 Li := ti.trans (grow_tr gr)
    have stay : ∀ {Ha Hb : Hp} {La Lb : AS} {o : HO}, Tr Ha La Hb Lb → ¬ La D → Ha D = some o → Hb D = some o ∧ ¬ Lb D := fun t n h => t D _ h n
    have nD : ¬ Li D := fun z => Ri.dis D z (.inr rfl)
    split at hm
    · rename_i e2 ht
      refine ⟨Wp, _, Li, e1, _, R4, ht, fun H5 L5 t5 R5 b hb => ?_⟩
      subst hb
      show tD X W0 Ge (sets (L2.wipe σ vs) t.is vals) H5 _
      split at hm
      rotate_left
      · cases hm
      rename_i v e3 hv
      split at hm
      rotate_left
      · cases hm
      refine ⟨Wp, _, L5, e2, _, R5, hv, fun H6 L6 t6 R6 yv hy => ?_⟩
      obtain ⟨d5, n5⟩ := stay t5 nD (gr D _ hDi)
      obtain ⟨d6, n6⟩ := stay t6 n5 d5
      -- what is put is an int
      obtain ⟨rs, hr⟩ := lcLoop_pre hm
      rw [hr] at hF
      obtain ⟨p1, q1, f1, _, fe⟩ := ints_app hF
      obtain ⟨p2, q2, f2, f3, f4⟩ := ints_app f1
      rw [hns] at f2
      cases f2
      have fv : ∃ n, v = PyData.int n ∧ q2 = [n] := by
        cases v <;> first
          | (cases f3; exact ⟨_, rfl, rfl⟩)
          | (cases f3)
      obtain ⟨n, rfl, rfl⟩ := fv
      cases hy
      have len : ns.length < 4000 := by
        rw [fe, f4] at h64
        simp only [List.length_append] at h64
        omega
      refine ⟨ns, ns ++ [n], d6, ⟨n, rfl, len, rfl⟩, ?_⟩
      have tt := t5.trans t6
      obtain ⟨R7, m7⟩ := R6.write (u := (skI X).ob D (ns ++ [n])) (.inr rfl) d6
      refine ⟨L6, acc ++ [PyData.int n], wipeE e3 vs, ns ++ [n], hm, fun a o ea na => ?_, ?_, by rw [← f4]; exact f1, upd_same⟩
      · obtain ⟨b1, b2⟩ := t3.trans tt a o ea na
        exact ⟨by rw [upd_ne (ne_of_none ea hD)]; exact b1, b2⟩
      · have R8 := R7.wipe vs
        rw [wp2] at R8
        exact R8
    · rename_i e2 ht
      refine ⟨Wp, _, Li, e1, _, R4, ht, fun H5 L5 t5 R5 b hb => ?_⟩
      subst hb
      show ∃ (Li : AS) (acc : List PyData) (e : En) (ns : List Int), _
      have R8 := R5.wipe vs
      rw [wp2] at R8
      exact ⟨L5, acc, wipeE e2 vs, ns, hm, t3.trans t5, R8, hns, (stay t5 nD (gr D _ hDi)).1⟩
    · cases hm
  · have ei : i = items.length := by omega
    subst ei
    rw [List.drop_length] at hm
    unfold lcLoop at hm
    cases hm
    rw [hF] at hns
    cases hns
    have RB := R1.back Ri ti hD nm
    have tB : Tr H1 L1 Hi fun a => Li a ∨ a = D := fun a o ea na => ⟨(ti a o ea na).1, fun z => z.elim (ti a o ea na).2 (ne_of_none ea hD)⟩
    refine .inl ⟨stop, D, inS nsF, (sortU nsF).length, rfl, hDi, Nat.lt_of_le_of_lt (sortU_le nsF) h64, fun ks p ho hk hlen hp => ?_⟩
    have ek : ks = sortU nsF := ord_uniq ho (sortU_ord nsF) fun j => (hk j).trans ((decide_eq_true_iff).trans (sortU_mem j nsF).symm)
    subst ek
    refine k _ _ (t1.trans (tB.trans (Tr.new hp))) (RB.new hp) _ (.lst (RB.free hp) upd_same (DnA.ints _))
variable {elt tg iter : Expr} {ifs : List Expr} {scope : Scope} {own : List (Str × Nat)} {p pos cpos : Pos} {Gi : GA} {t : Tg} {Gt : GT} {Ge : GE}
theorem pd_sortedSc (hc : X.calm = true) (hN : X.N.Nodup) (hgl : Gl X "sorted") (hm : X.mg "sorted" = none) (hi : PDI X W tg iter Gi) (ok : BlkOk X.N X.env.scope scope own)
    (hg : ∀ (s : Shared) (H : Hp) (C : Addr) (cl : List (Str × Addr)) (fp : List Addr), PG (X.blk s H scope (compEnvC scope cl C X.env) fp) tg (gTG X.K t)) (ht : ∀ (s : Shared) (H : Hp) (C : Addr) (cl : List (Str × Addr)) (fp : List Addr), PDTs (X.blk s H scope (compEnvC scope cl C X.env) fp) W0 ifs Gt)
    (he : ∀ (s : Shared) (H : Hp) (C : Addr) (cl : List (Str × Addr)) (fp : List Addr), PD (X.blk s H scope (compEnvC scope cl C X.env) fp) W0 elt Ge) (sub : ∀ i ∈ t.is, i ∈ own.map (·.2)) (hs : ∀ x, foldedSetIterable iter X.env x = pure x := by intro _; rfl)
    (h1 : starEach [.SetComp elt [⟨tg, iter, ifs, 0⟩] scope pos] X.env = (false, eval (.SetComp elt [⟨tg, iter, ifs, 0⟩] scope pos) X.env) :: starEach [] X.env := by rfl) (hpl : (backTo cpos (starEach [] X.env)).any (·.1) = false := by rfl) :
    PD X W (.Call (.Name "sorted" p) [.SetComp elt [⟨tg, iter, ifs, 0⟩] scope pos] [] cpos) (gSc Gi t Gt Ge (own.map (·.2))) :=
  ⟨PE.wk (pe_callB (cr_sortedSet hc) hgl hm (by decide +kernel) (pa_cons (pe_scK (Kd := skI X) hc hN hi.pi ok hg (fun s H C cl fp => (ht s H C cl fp).pts) (fun s H C cl fp => (he s H C cl fp).pe) hs) pa_nil h1) (by decide) (by decide) h1 hpl) fun σ H Q q => sc_read sub q⟩
end
end PD
namespace PD
open PySem PySem.Spec PyProof.Rows L2
section
variable {P : Program} {w : World} {K : Fr0} {mg : Str → Option Value} {base : Heap} {k : Nat} {f : Addr} {fd : FuncData} {ps : List Str} {sp : Sp}
/-- where nothing may be raised -/
theorem fn_quiet (F : FnOk P w K mg base (L2.CX P w) k f fd ps sp) : FnOk P w K mg base CX0 k f fd ps (fun vs H Q _ => sp vs H Q fun _ _ _ => False) :=
  ⟨fun _ _ _ _ h => F.len _ _ _ _ h, fun A outer s H args us vs Q E hr he hb hv hs => codeAny_mono (F.run A outer s H args us vs Q _ hr he hb hv hs) fun r s' q => by
    cases r with
    | error e =>
      obtain ⟨_, _, _, _, _, _, _, _, _, _, _, _, z⟩ := q
      exact z.elim
    | ok fl => cases fl <;> exact q⟩
def isT : Option FR → Bool
  | some (.val (.bool true) _) => true
  | _ => false
theorem isT_ok {o : Option FR} (h : isT o = true) : ∃ sl, o = some (.val (.bool true) sl) := by
  unfold isT at h
  split at h
  · exact ⟨_, rfl⟩
  · cases h
theorem fun_fd {x q : Str} {st : Stmt} {fd2 : FuncData} (F : Fun K x q st f fd) (F2 : Fun K x q st f fd2) : fd = fd2 := by
  obtain ⟨_, _, _, _, _, _, _, _, _, _, h1, _⟩ := F.ex
  obtain ⟨_, _, _, _, _, _, _, _, _, _, h2, _⟩ := F2.ex
  rw [h1] at h2
  cases h2
  rfl
theorem law_fn {x : Str} {st : Stmt} {F : List Sl → Option FR} (D : Df P w K mg base k x st ps F) (Fu : Fun K x x st f fd) (hm : mg x = some (.ref f)) : FnOk P w K mg base CX0 k f fd ps (fun vs H Q _ => spF K mg F vs H Q fun _ _ _ => False) := by
  obtain ⟨f2, fd2, Fn, hm2, _, _, Fu2⟩ := D.ex
  cases Option.some.inj (hm.symm.trans hm2)
  rw [fun_fd Fu Fu2]
  exact fn_quiet Fn
/-- a law that does not look at its script -/
theorem law_blind {F : List Sl → Option FR} (h : isT (F [.no]) = true) (H : Hp) (a : Addr) : spF K mg F [.ref a] H (fun v _ => v = .bl true) fun _ _ _ => False := by
  obtain ⟨sl, e⟩ := isT_ok h
  refine ⟨fun _ => False, fun _ => False, [.no], _, ⟨rfl, fun a h => (h.elim id id).elim, fun a h => h.elim, fun i s e => ?_, fun i j b c ds es a ne e1 => ?_⟩, fun a h => h.elim, e, fun v H' _ _ hv => ?_⟩
  · cases i with
    | zero => cases e; trivial
    | succ i => simp at e
  · cases i with
    | zero => cases e1
    | succ i => simp at e1
  · cases hv
    rfl
end
end PD
namespace PD
open PySem PySem.Spec PyProof.Rows L2 HT
section
variable {P : Program} {w : World} {A : Around} {E : Value → Shared → Prop} {s : Shared}
theorem rev_pick (xs : Array Value) : ((List.range xs.size).filterMap fun (k : Nat) => xs[(((xs.size : Int) - 1) + (k : Int) * (-1)).toNat]?) = xs.toList.reverse := by
  have step : ∀ n : Nat, n ≤ xs.size → ((List.range n).filterMap fun (k : Nat) => xs[(((xs.size : Int) - 1) + (k : Int) * (-1)).toNat]?) = xs.toList.reverse.take n := by
    intro n
    induction n with
    | zero => intro _; rfl
    | succ n ih =>
      intro h
      have hlt : n < xs.toList.reverse.length := by
        simp only [List.length_reverse, Array.length_toList]
        exact h
      rw [List.range_succ, List.filterMap_append, ih (by omega), List.take_succ, List.getElem?_eq_getElem hlt]
      have e : (((xs.size : Int) - 1) + (n : Int) * (-1)).toNat = xs.size - 1 - n := by omega
      have g : xs[xs.size - 1 - n]? = some (xs[xs.size - 1 - n]'(by omega)) := Array.getElem?_eq_getElem _
      simp only [List.filterMap_cons, List.filterMap_nil, e, g]
      rw [List.getElem_reverse]
      simp
  have := step xs.size (Nat.le_refl _)
  rw [this, List.take_of_length_le (by simp)]
theorem slice_rev {sl : Addr} {t : Tok} {n : Nat} {Q : Int × Int × Nat → Shared → Prop} (hs : s.heap.IsSliceOf sl .none .none (.int (-1) t)) (h : Q ((n : Int) - 1, -1, n) s) : wpAny (model P w) A (Builtin.Slice.sliceApplied (.ref sl) (pure (n : Int))) Q E s := by
  obtain ⟨os, hos, hcs, hds⟩ := id hs
  unfold Builtin.Slice.sliceApplied Builtin.Slice.sliceFields
  refine wpAny_bind (wpAny_bind (wpAny_field hos hds (x := .none) rfl (wpAny_bind (wpAny_field hos hds (x := .none) rfl (wpAny_bind (wpAny_field hos hds (x := .int (-1) t) rfl (wpAny_pure ?_)))))))
  refine wpAny_bind (slicePart_int ?_)
  show wpAny _ _ (if ((-1 : Int) == 0) = true then _ else _) _ _ s
  rw [if_neg (show ¬ (((-1 : Int) == 0) = true) by decide)]
  refine wpAny_bind (slicePart_none (wpAny_bind (slicePart_none (wpAny_bind (wpAny_pure ?_)))))
  have e : Builtin.Slice.slicePlaces ((n : Int) - 1) (-1) (-1) = n := by
    unfold Builtin.Slice.slicePlaces
    simp only [show ¬ ((-1 : Int) > 0) by omega, if_false, Int.neg_neg, Int.ediv_one]
    split <;> omega
  show wpAny _ _ (pure ((n : Int) - 1, (-1 : Int), Builtin.Slice.slicePlaces ((n : Int) - 1) (-1) (-1))) _ _ s
  rw [e]
  exact wpAny_pure h
theorem getItem_rev {t sl : Addr} {items : Array Value} {tk : Tok} {Q : Value → Shared → Prop} (ht : IsTup s.heap t items) (hs : s.heap.IsSliceOf sl .none .none (.int (-1) tk))
    (h : Q (.ref s.heap.objs.size) { s with heap := s.heap.push { cls := .type "tuple", data := .seq items.toList.reverse.toArray } }) (hsz : items.size ≤ sizeLine) : wpAny (model P w) A (getItem (.ref t) (.ref sl)) Q E s := by
  have hz : sizeOk (.seq items.toList.reverse.toArray) := by
    show items.toList.reverse.toArray.size ≤ sizeLine
    simpa using hsz
  obtain ⟨os, hos, hcs, hds⟩ := id hs
  have hTs : s.TypeIs (.ref sl) "slice" := ⟨os, hos, hcs⟩
  unfold getItem
  try with_reducible refine wpAny_holding ?_
  first | refine wpAny_bind (wpAny_pure ?_) | skip
  refine wpAny_bind (wpAny_sequenceKey ht.typeIs (by decide) (wpAny_bind (wpAny_callSpecial?_slot (name := Str.ofString "__getitem__") ht.typeIs PyProof.Rows.slot_tuple_getitem (wpAny_call_entry PyProof.Rows.slot_tuple_getitem ht.typeIs entry_tuple_getitem ?_ (args_tuple_getitem _ _)))))
  show wpAny _ _ (Builtin.Tuple.tupleItemsOf (.ref t) >>= _) _ _ s
  refine wpAny_bind (tupleItemsOf_ ht (wpAny_bind (wpAny_typeOf hTs ?_)))
  rw [if_pos (by decide)]
  refine wpAny_bind (slice_rev hs ?_)
  show wpAny _ _ (if ((((items.size : Int) - 1) == 0 && (-1 : Int) == 1 && items.size == items.size) = true) then _ else _) _ _ s
  rw [if_neg (by intro q; rw [Bool.and_eq_true, Bool.and_eq_true] at q; exact absurd q.1.2 (by decide)), rev_pick]
  first
    | exact wpAny_bind (m := Builtin.Tuple.tupleExact _) (wpAny_newObj_type (wpAny_pure ⟨_, rfl, wpAny_pure h⟩) hz)
    | exact wpAny_bind (m := Builtin.Tuple.tupleExact _) (wpAny_newObj_type (wpAny_bind (wpAny_pure (wpAny_pure ⟨_, rfl, wpAny_pure h⟩))) hz)
    | exact wpAny_bind (wpAny_bind (m := Builtin.Tuple.tupleExact _) (wpAny_newObj_type (wpAny_pure (wpAny_pure ⟨_, rfl, wpAny_pure h⟩)) hz))
    | exact wpAny_bind (wpAny_bind (m := Builtin.Tuple.tupleExact _) (wpAny_newObj_type (wpAny_pure ⟨_, rfl, wpAny_pure h⟩) hz))
end
section
variable {X : Cx} {W : WX}
def tRevT (K : Fr0) (te : TE) : TE := fun σ H Q => te σ H fun x H1 => ∃ a xs, x = .ref a ∧ SqT K H1 a xs ∧ ∀ p, H1 p = none → Q (.ref p) (upd H1 p (.tup xs.reverse))
theorem pe_revT {e : Expr} {te : TE} {k : Nat} {p1 p2 p3 pos : Pos} (he : PE X e te) : PE X (.Subscript e (.Slice none none (some (.UnaryOp .USub (.Constant (.int 1) k p1) p2)) p3) pos) (tRevT X.K te) := by
  refine ⟨fun pins s σ H Q I h => Subscript_ (thn (he.run pins s σ H _ I h) fun v s1 ⟨x, H1, I1, r1, a, xs, ex, hx, q⟩ => ?_)⟩
  subst ex
  cases r1
  have neg : PO X (some (.UnaryOp .USub (.Constant (.int 1) k p1) p2)) (tPart (tUn (rU fun i => .int (-i)) (tC (.int 1)))) := po_some (pe_un un_neg pe_int)
  refine wpAny_Slice (thn (po_none.run pins s1 σ H1 (fun o Hq => o = none ∧ Hq = H1) I1 ⟨rfl, rfl⟩) fun vl s2 ⟨l, H2, I2, pl, el, e2⟩ => ?_)
  subst el e2
  refine thn (po_none.run pins s2 σ H2 (fun o Hq => o = none ∧ Hq = H2) I2 ⟨rfl, rfl⟩) fun vu s3 ⟨u, H3, I3, pu, eu, e3⟩ => ?_
  subst eu e3
  refine thn (neg.run pins s3 σ H3 (fun o Hq => o = some (-1) ∧ Hq = H3) I3 ⟨1, rfl, -1, rfl, rfl, rfl⟩) fun vs s4 ⟨o, H4, I4, ps, eo, e4⟩ => ?_
  subst eo e4
  obtain ⟨its, r, ht, hz⟩ := I4.tuple hx
  have hl := r.length
  have evl : vl = .none := by
    first
      | exact pl
      | (cases pl; rfl)
  have evu : vu = .none := by
    first
      | exact pu
      | (cases pu; rfl)
  have evs : ∃ tk, vs = .int (-1) tk := by
    cases ps
    exact ⟨_, rfl⟩
  obtain ⟨t, rfl⟩ := evs
  subst evl evu
  let s5 : Shared := { s4 with heap := s4.heap.push { cls := .type "slice", data := .fields #[.none, .none, .int (-1) t] } }
  have gr : ∀ b ob, s4.heap.get? b = some ob → s5.heap.get? b = some ob := fun b ob q => Heap.get?_push_of_some _ q
  have I5 : Inv X pins σ H4 s5 := I4.kept (t' := s4.toks) gr
  obtain ⟨its5, r5, ht5, hz5⟩ := I5.tuple hx
  refine tail_any (s := s5) (ops := [.ref a, .ref s4.heap.objs.size]) ht5.typeIs PyProof.Rows.slot_tuple_getitem.lookup ?_ (by with_unfolding_all rfl)
  refine getItem_rev (s := s5) ht5 (Heap.IsSliceOf.new _ _ _ _) ?_ (by rw [List.size_toArray, ← r5.length]; exact hz5)
  refine ⟨.ref _, _, I5.laid (t' := s4.toks) (o := .tup xs.reverse) (fun b ob q => Heap.get?_push_of_some _ q) (Nat.le_refl _) ?_, rfl, q _ (I5.hok.fresh (Nat.le_refl _))⟩
  refine ⟨by rw [List.length_reverse]; exact hz5, its5.reverse, r5.reverse, ?_⟩
  exact ⟨_, Heap.get?_push_size _ rfl, rfl, 0, by simp⟩
def dRev : PyData → Option PyData
  | .tuple ds => some (.tuple ds.reverse)
  | _ => none
theorem pd_rev {e : Expr} {G : GE} {k : Nat} {p1 p2 p3 pos : Pos} (h : PD X W e G) : PD X W (.Subscript e (.Slice none none (some (.UnaryOp .USub (.Constant (.int 1) k p1) p2)) p3) pos) (gB G fun d => gO (dRev d)) := ⟨PE.wk (pe_revT h.pe) fun σ H Q q => (tG.seq (ρ := ρD X.K) q).mono fun v H1 z => by
  obtain ⟨d, Wp, Fb, L, env, r, hx, R, g, k⟩ := z
  obtain ⟨z, h1, rfl⟩ := gO_some g
  cases d <;> simp only [dRev] at h1 <;> cases h1
  obtain ⟨a, vs, rfl, ha, da⟩ := hx.tupInv
  exact ⟨a, vs, rfl, ha, fun p hp => k _ L (Tr.new hp) (R.new hp) _ (.tup (.inl ⟨R.free hp, upd_same⟩) (da.rev.mv (mv_grow (upd_grow hp))))⟩⟩
/-! ### sorted(set(xs)) of a tuple of ints -/
def dSortedSet : List PyData → Option PyData
  | [.tuple ds] => dSortU ds
  | _ => none
end
end PD
namespace PD
open PySem PySem.Spec PyProof.Rows L2
section
variable {X : Cx} {W : WX}
/-! ### methods that change one's own list -/
def gMet (φ : List PyData → List PyData → Option (List PyData)) (i : Nat) (G : GA) : Gs := gS (gHasO i G) fun as env => match own? env i with
  | some (b, ds) => (φ ds as).map fun es => .nx (env.set i (.mu b es))
  | none => none
/-- what such a method does to its list -/
structure MLd (K : Fr0) (r : V → List V → Hp → VK → Prop) (φ : List PyData → List PyData → Option (List PyData)) : Prop where
  go : ∀ {F : AS} {H : Hp} {a : Addr} {vs xs : List V} {ds as es : List PyData} {Q : VK}, H a = some (.lst vs) → DnA K F H vs ds → DnA K F H xs as → φ ds as = some es →
    (∀ v ws, DnA K F H ws es → Q v (upd H a (.lst ws))) → r (.ref a) xs H Q
theorem met_read {r : V → List V → Hp → VK → Prop} {φ : List PyData → List PyData → Option (List PyData)} (m : MLd X.K r φ) {i : Nat} {G : GA} {D : Ends} {σ : L2.St} {H : Hp} (q : tS X W (gMet φ i G) D σ H) : tDrop (tBM X.K "list" r (tVar i) (tAs X W G)) D σ H := by
  obtain ⟨Wp, Fb, L, env, rr, R, g, k⟩ := q
  unfold gMet gS at g
  split at g
  · cases g
  · rename_i as e1 hz
    obtain ⟨⟨b0, ds0, h0⟩, hz⟩ := gHasO_of hz
    obtain ⟨a, vs, e2, la, h2, h3, _⟩ := R.sl i _ h0
    refine ⟨_, e2, .inl ⟨rfl, vs, SqL.of h2⟩, Wp, Fb, L, env, _, R, hz, fun H1 L1 t1 R1 xs hxs => ?_⟩
    dsimp only at g
    split at g
    · rename_i b ds ho
      obtain ⟨es, he, rfl⟩ := Option.map_eq_some_iff.mp g
      have ho := own_of ho
      obtain ⟨a', ws, e3, la1, h4, h5, _⟩ := R1.sl i _ ho
      rw [e2] at e3
      cases e3
      exact m.go h4 h5 hxs he fun v us hu => by
        obtain ⟨R3, t3, _⟩ := R1.chg ho e2 hu
        exact k σ _ L1 (t1.trans t3) R3
    · cases g
  · rename_i c fs e1 hz
    cases g
    obtain ⟨⟨b0, ds0, h0⟩, hz⟩ := gHasO_of hz
    obtain ⟨a, vs, e2, la, h2, h3, _⟩ := R.sl i _ h0
    exact ⟨_, e2, .inl ⟨rfl, vs, SqL.of h2⟩, Wp, Fb, L, env, _, R, hz, fun cls dd H' L' t R' x => k cls dd σ H' L' t R' x⟩
theorem pds_met {st : Stmt} {r : V → List V → Hp → VK → Prop} {φ : List PyData → List PyData → Option (List PyData)} (m : MLd X.K r φ) {i : Nat} {es : List Expr} {G : GA} (h : PDA X W es G) (hp : ∀ {ta : TA}, PA X es ta → PS X st (tDrop (tBM X.K "list" r (tVar i) ta))) : PDS X W st (gMet φ i G) := ⟨PS.wk (hp h.pa) fun D σ H q => met_read m q⟩
def fIns (ds as : List PyData) : Option (List PyData) := match as with
  | [.int k, d] => if 0 ≤ k ∧ k ≤ 100000 ∧ ds.length ≤ 100000 then some (ds.take k.toNat ++ [d] ++ ds.drop k.toNat) else none
  | _ => none
theorem ml_ins {K : Fr0} : MLd K (fun x vs H Q => ∃ (l : Addr) (xs : List V) (i : Int) (y : V), x = .ref l ∧ vs = [.int i, y] ∧ H l = some (.lst xs) ∧ xs.length < sizeLine ∧ 0 ≤ i ∧ i < 2 ^ 63 ∧
    Q .non (upd H l (.lst (xs.take i.toNat ++ [y] ++ xs.drop i.toNat)))) fIns := ⟨by
  intro F H a vs xs ds as es Q ha hd hx hf k
  unfold fIns at hf
  split at hf
  · split at hf
    · rename_i hc
      cases hf
      obtain ⟨v, u, rfl, h, h'⟩ := hx.two
      cases h
      exact ⟨a, vs, _, u, rfl, rfl, ha, Nat.lt_of_le_of_lt (by rw [hd.length]; exact hc.2.2) (by decide), hc.1, by have := hc.2.1; omega, k _ _ (((hd.take _).app (.cons h' .nil)).app (hd.drop _))⟩
    · cases hf
  · cases hf⟩
def fPop (ds as : List PyData) : Option (List PyData) := match as with
  | [.int k] => if 0 ≤ k ∧ k < ds.length ∧ ds.length ≤ 100000 then some (ds.eraseIdx k.toNat) else none
  | _ => none
theorem ml_pop {K : Fr0} : MLd K rPopAt fPop := ⟨by
  intro F H a vs xs ds as es Q ha hd hx hf k
  unfold fPop at hf
  split at hf
  · rename_i k0
    split at hf
    · rename_i hc
      cases hf
      obtain ⟨v, rfl, h⟩ := hx.one
      cases h
      have hlt : k0.toNat < vs.length := by rw [hd.length]; omega
      refine ⟨a, vs, _, k0.toNat, vs[k0.toNat], rfl, rfl, ha, by omega, by omega, ?_, List.getElem?_eq_getElem hlt, k _ _ (hd.erase _)⟩
      have e := ixN_seq (n := vs.length) (i := k0) (j := k0.toNat) (by
        unfold ixN
        rw [if_pos hc.1, if_pos (by omega)])
      exact e.1
    · cases hf
  · cases hf⟩
/-! ### sorted(set(xs)) -/
def rSetTI (K : Fr0) (w : World) : List V → Hp → VK → Prop := fun xs H Q => ∃ (a : Addr) (ns : List Int), xs = [.ref a] ∧ SqT K H a (ns.map V.int) ∧ ns.length < 4000 ∧ ∀ p c, H p = none → c ≤ ns.length → Q (.ref p) (upd H p (SetO w p (fun j => decide (j ∈ ns)) c))
theorem cr_setTI (hc : X.calm = true) : CallR X (.type "set") (rSetTI X.K X.w) := by
  intro pins s σ H xs us Q I r h
  obtain ⟨a, ns, rfl, hT, hn, q⟩ := h
  obtain ⟨u, rfl, ru⟩ := Vals.one r
  cases ru
  obtain ⟨its, rv, pt, hz⟩ := I.tuple hT
  refine call_set_tupI ns (I.ok.hd hc) (show s.heap.IsTuple a its.toArray from pt) (by simpa using ints_of_vals rv) (by show ns.length + 1 < 4096; omega) fun h' tk c R1 hcn k => ?_
  exact ⟨.ref _, _, I.laid (t' := tk) k (Nat.le_refl _) (setO_new R1), rfl, q _ c (I.hok.fresh (Nat.le_refl _)) hcn⟩
variable {e : Expr} {p q pos cpos : Pos} {G : GA}
theorem pd_sortedSet (hc : X.calm = true) (hg : Gl X "sorted") (hm : X.mg "sorted" = none) (hg2 : Gl X "set") (hm2 : X.mg "set" = none) (ha : PDA X W [e] G)
    (hs : starEach [e] X.env = (false, eval e X.env) :: starEach [] X.env := by rfl) (hpl : (backTo pos (starEach [] X.env)).any (·.1) = false := by rfl)
    (hs2 : starEach [.Call (.Name "set" q) [e] [] pos] X.env = (false, eval (.Call (.Name "set" q) [e] [] pos) X.env) :: starEach [] X.env := by rfl) (hpl2 : (backTo cpos (starEach [] X.env)).any (·.1) = false := by rfl) :
    PD X W (.Call (.Name "sorted" p) [.Call (.Name "set" q) [e] [] pos] [] cpos) (gCall dSortedSet G) :=
  ⟨PE.wk (pe_callB (cr_sortedSet hc) hg hm (by decide +kernel) (pa_cons (pe_callTy (cr_setTI hc) hg2 hm2 (by decide +kernel) ha.pa (by decide) (by decide) hs hpl) pa_nil hs2) (by decide) (by decide) hs2 hpl2) fun σ H Q z => (tG.seq (ρ := ρA X.K) z).mono fun xs H1 z => by
    obtain ⟨ds, Wp, Fb, L, env, r, hx, R, g, k⟩ := z
    obtain ⟨z, h1, rfl⟩ := gO_some g
    unfold dSortedSet at h1
    split at h1
    · unfold dSortU at h1
      obtain ⟨ns, h2, h1⟩ := Option.bind_eq_some_iff.mp h1
      split at h1
      · rename_i h64
        cases h1
        obtain ⟨v, rfl, h⟩ := hx.one
        obtain ⟨a, vs, rfl, ha, da⟩ := h.tupInv
        rw [ints_of h2] at da
        rw [da.ints_inv] at ha
        refine ⟨a, ns, rfl, ha, by omega, fun p c hp hcn => ⟨p, inS ns, c, rfl, upd_same, by omega, fun ks p2 ho hk hlen hp2 => ?_⟩⟩
        have ek : ks = sortU ns := ord_uniq ho (sortU_ord ns) fun j => (hk j).trans ((decide_eq_true_iff).trans (sortU_mem j ns).symm)
        subst ek
        exact k _ L ((Tr.new hp).trans (Tr.new hp2)) ((R.new hp).new hp2) _ (.lst ((R.new hp).free hp2) upd_same (DnA.ints _))
      · cases h1
    · cases h1⟩
/-! ### x or y of fresh lists -/
def gOrF (G1 G2 : GA) : GA := gB G1 fun ds => if ds.isEmpty = true then G2 else gP ds
end
end PD
namespace PD
open PySem PySem.Spec PyProof.Rows L2
variable {X : Cx} {W : WX}
/-! ### a < b < c -/
def gChain (φ ψ : D → D → Option D) (Ga Gb Gc : GE) : GE := gB Ga fun d => gB Gb fun e => gB (gO (φ d e)) fun z => match z with | .bool true => (gB Gc fun f => gO (ψ e f)) | .bool false => gP (.bool false) | _ => fun _ => none
theorem tChain_of {r r' : R2} {φ ψ : D → D → Option D} {Ga Gb Gc : GE} {σ : L2.St} {H : Hp} {Q : VK} (hr : RD2 X.K r φ) (hr' : RD2 X.K r' ψ) (q : tD X W (gChain φ ψ Ga Gb Gc) σ H Q) : tChain r r' (tD X W Ga) (tD X W Gb) (tD X W Gc) σ H Q := by
  refine (tG.seq2 (ρ1 := ρD X.K) (stabD X.K) q).mono fun x H1 z => z.mono fun y H2 z => ?_
  obtain ⟨d, e, Wp, Fb, L, env, r0, hx, hy, R, g, k⟩ := z
  obtain ⟨z, h1, g⟩ := gB_O g
  refine hr.go hx hy h1 (fun p hp => R.free hp) fun v H' gr dn => ?_
  have R' := R.grow gr
  have m : Mv (U L Fb) H2 (U L Fb) H' := mv_grow gr
  cases z with
  | bool t =>
    obtain rfl : v = .bl t := by cases dn; rfl
    refine ⟨t, rfl, ?_⟩
    cases t with
    | false =>
      rw [if_neg Bool.false_ne_true]
      cases gP_some g
      exact k H' L (grow_tr gr) R' _ (Dn.bl _)
    | true =>
      rw [if_pos rfl]
      have k' := k.from (grow_tr gr)
      dsimp only at g
      unfold gB at g
      split at g
      · cases g
      · rename_i f e2 hf
        refine ⟨Wp, Fb, L, env, _, R', hf, fun H3 L3 t R3 w hw => ?_⟩
        obtain ⟨z, h3, rfl⟩ := gO_some g
        exact hr'.go ((hy.mv m).mv t.mv) hw h3 (fun p hp => R3.free hp) fun v H4 gr4 dn4 => k' H4 L3 (t.trans (grow_tr gr4)) (R3.grow gr4) v dn4
      · rename_i c fs e2 hf
        cases g
        exact ⟨Wp, Fb, L, env, _, R', hf, k'⟩
  | _ => cases g
theorem pd_chain {op op' : CmpOp} {φ ψ : D → D → Option D} {a b c : Expr} {Ga Gb Gc : GE} {pos : Pos} (c1 : CD X op b φ) (c2 : CD X op' c ψ) (ha : PD X W a Ga) (hb : PD X W b Gb) (hc : PD X W c Gc) (hl : lastMarks [op, op'] [b, c] = false := by rfl)
    : PD X W (.Compare a [op, op'] [b, c] pos) (gChain φ ψ Ga Gb Gc) := by
  obtain ⟨r, ho, hr, _⟩ := c1.ex
  obtain ⟨r', ho', hr', _⟩ := c2.ex
  exact ⟨PE.wk (pe_chain ho ho' ha.pe hb.pe hc.pe hl) fun σ H Q q => tChain_of hr hr' q⟩
theorem pdt_chain {op op' : CmpOp} {φ ψ : D → D → Option D} {a b c : Expr} {Ga Gb Gc : GE} {pos : Pos} (c1 : CD X op b φ) (c2 : CD X op' c ψ) (ha : PD X W a Ga) (hb : PD X W b Gb) (hc : PD X W c Gc) (hl : lastMarks [op, op'] [b, c] = false := by rfl)
    : PDT X W (.Compare a [op, op'] [b, c] pos) (gBool (gChain φ ψ Ga Gb Gc)) := by
  obtain ⟨r, ho, hr, _⟩ := c1.ex
  obtain ⟨r', ho', hr', _⟩ := c2.ex
  refine ⟨PT.wk (pt_chain ho ho' ha.pe hb.pe hc.pe hl) fun σ H Q q => tChain_of hr hr' ((tG.seq (ρ := ρD X.K) q).mono fun v H1 z => ?_)⟩
  obtain ⟨d, Wp, Fb, L, env, r, hx, R, g, k⟩ := z
  obtain ⟨b, h1, rfl⟩ := gO_some g
  split at h1
  · cases h1
    cases hx
    exact ⟨_, rfl, k H1 L (Tr.refl H1 L) R _ rfl⟩
  · cases h1
/-! ### {k: v, l: u}[e] -/
def dPick (a b c d : Str) : D → Option D
  | .str z => if z = a then some (.str b) else if z = c then some (.str d) else none
  | _ => none
abbrev pkL (a b c d : Str) : List (Key × V) := [(.inr a, .str b), (.inr c, .str d)]
def rPick (a b c d : Str) : R2 := fun x y H Q => ∃ p z r, x = .ref p ∧ y = .str z ∧ H p = some (.dK (pkL a b c d)) ∧ dPick a b c d (.str z) = some (.str r) ∧ Q (.str r) H
theorem ix_pick {a b c d : Str} (hn : a ≠ c) : IxR X (rPick a b c d) := by
  intro value slice pins s σ H x y v u Q I rx ry h hs
  obtain ⟨p, z, r, rfl, rfl, e, hp, q⟩ := h
  obtain rfl : v = Value.ref p := rx
  obtain ⟨t, rfl⟩ : ∃ t, u = Value.str z t := ry
  obtain ⟨_, _, vs, kv, ho⟩ := dk_of I.hok e
  have tl : s.TypeIs (Value.ref p) "dict" := by
    obtain ⟨o, es, ep, e1, e2, _⟩ := ho
    exact ⟨o, e1, e2.1⟩
  refine tail_any tl PySem.F.slot_dict_getitem.lookup ?_ hs
  cases kv with
  | cons h1 kv => cases kv with
  | cons h2 kv => cases kv with
  | nil =>
    rename_i p1 p2
    obtain ⟨k1, u1⟩ := p1
    obtain ⟨k2, u2⟩ := p2
    obtain ⟨rfl, r1⟩ := h1
    obtain ⟨rfl, r2⟩ := h2
    unfold dPick at hp
    dsimp only at hp r1 r2
    split at hp
    · rename_i hz
      subst hz
      cases hp
      exact wpAny_getItem_of (knd := mixKind X.prog X.w) (mixKind_str _ _ _ _) ho.mapOf (v := u1) (by simp [valueAt]) ⟨_, H, I.kept fun _ _ h => h, r1, q⟩
    · rename_i hz
      split at hp
      · rename_i hz2
        subst hz2
        cases hp
        exact wpAny_getItem_of (knd := mixKind X.prog X.w) (mixKind_str _ _ _ _) ho.mapOf (v := u2) (by simp [valueAt, hn]) ⟨_, H, I.kept fun _ _ h => h, r2, q⟩
      · cases hp
theorem pd_pick {a b c d : Str} {i1 i2 i3 i4 : Nat} {p1 p2 p3 p4 p5 pos : Pos} {e : Expr} {Ge : GE} (hn : a ≠ c) (he : PD X W e Ge) (hs : PlainIx e := by intros; rfl) :
    PD X W (.Subscript (.Dict [some (.Constant (.str a) i1 p1), some (.Constant (.str c) i2 p2)] [.Constant (.str b) i3 p3, .Constant (.str d) i4 p4] p5) e pos) (gB Ge fun x => gO (dPick a b c d x)) :=
  ⟨PE.wk (pe_ix (ix_pick (b := b) (d := d) hn) (pe_disp (pps_cons pe_str pe_str (pps_cons pe_str pe_str pps_nil)) rfl rfl (by simp) (by simp)) he.pe hs) fun σ H Q q => by
    intro p hp
    refine ⟨upd_same, [(.inr a, .str b), (.inr c, .str d)], rfl, by simp, ?_⟩
    obtain ⟨Wp, Fb, L, env, r, R, g, k⟩ := q
    have em : mergeK [] [((.inr a : Key), V.str b), (.inr c, V.str d)] = pkL a b c d := by simp [mergeK, putK, hn]
    rw [em]
    have eu : upd (upd H p (HO.dK [])) p (HO.dK (pkL a b c d)) = upd H p (HO.dK (pkL a b c d)) := by
      funext z
      by_cases h : z = p
      · subst h; rw [upd_same, upd_same]
      · rw [upd_ne h, upd_ne h, upd_ne h]
    rw [eu]
    have R1 := R.new (o := .dK (pkL a b c d)) hp
    have nl : ¬ L p := fun z => R.free hp (.inl z)
    unfold gB at g
    split at g
    · cases g
    · rename_i x e1 hx
      refine ⟨Wp, Fb, L, env, _, R1, hx, fun H' L' t R' y hy => ?_⟩
      obtain ⟨z, h1, rfl⟩ := gO_some g
      cases x <;> first | (cases h1; done) | skip
      rename_i x
      cases hy
      have hz : ∃ r, dPick a b c d (.str x) = some (.str r) ∧ z = .str r := by
        unfold dPick at h1 ⊢
        dsimp only at h1 ⊢
        split at h1
        · rename_i e; cases h1; exact ⟨_, by rw [if_pos e], rfl⟩
        · rename_i e
          split at h1
          · rename_i e2; cases h1; exact ⟨_, by rw [if_neg e, if_pos e2], rfl⟩
          · cases h1
      obtain ⟨r, h2, rfl⟩ := hz
      exact ⟨p, x, r, rfl, rfl, (t p _ upd_same nl).1, h2, k H' L' ((Tr.new hp).trans t) R' _ (.str r)⟩
    · rename_i cc fs e1 hx
      cases g
      exact ⟨Wp, Fb, L, env, _, R1, hx, k.from (Tr.new hp)⟩⟩
/-! ### a, b = e, [..] -/
def gParF (i j : Nat) (Ga : GE) (Gb : GA) : Gs := gS Ga fun d => gS Gb fun ds env => ((setIm env i d).bind fun e => setMu e j ds).map .nx
theorem setIm_get {env e : En} {i : Nat} {d : D} (h : setIm env i d = some e) : e = env.set i (.im d) ∧ i < env.length := by
  unfold setIm at h
  split at h
  · cases h
  · rename_i s _ hs
    cases h
    exact ⟨rfl, (List.getElem?_eq_some_iff.mp hs).1⟩
  · cases h
theorem pds_parF {i j : Nat} {x y : Str} {a b : Expr} {px py pt pos pos2 : Pos} {kt k2 : Nat} {Ga : GE} {Gb : GA} (ha : PD X W a Ga) (hb : PDF X W b Gb) (hp : ∀ {ta : TA}, PA X [a, b] ta → PS X (.Assign [.Tuple [.Name x px, .Name y py] kt pt] (.Tuple [a, b] k2 pos2) pos) (tPar i j ta))
    (s1 : starEach [a, b] X.env = (false, eval a X.env) :: starEach [b] X.env := by rfl) (s2 : starEach [b] X.env = (false, eval b X.env) :: starEach [] X.env := by rfl) :
    PDS X W (.Assign [.Tuple [.Name x px, .Name y py] kt pt] (.Tuple [a, b] k2 pos2) pos) (gParF i j Ga Gb) := ⟨PS.wk (hp (pa_cons ha.pe (pa_cons hb.pe pa_nil s2) s1)) fun D σ H q => (tS.after (ρ := ρD X.K) q).mono fun v H1 z => by
  obtain ⟨d, Wp, Fb, L, env, r, hv, R, g, k⟩ := z
  unfold gS at g
  split at g
  · cases g
  · rename_i ds e hg
    refine ⟨Wp, Fb, L, env, _, R, hg, fun p vs H2 L2 t la R2 hp2 hd ap => ?_⟩
    obtain ⟨e3, h3, rfl⟩ := Option.map_eq_some_iff.mp g
    obtain ⟨e2, h2, h3⟩ := Option.bind_eq_some_iff.mp h3
    obtain ⟨ee, hi⟩ := setIm_get h2
    have R3 := R2.setIm (hv.mv t.mv) h2
    have R4 := R3.setMu la hp2 hd (fun j b es z w => by
      subst ee
      by_cases c : i = j
      · subst c
        rw [List.getElem?_set_self hi] at z
        cases z
      · rw [List.getElem?_set_ne c] at z w
        exact ap j b es z w) h3
    exact ⟨v, .ref p, rfl, k _ H2 L2 t R4⟩
  · rename_i c fs e hg
    cases g
    exact ⟨Wp, Fb, L, env, _, R, hg, fun cls dd H' L' t R' x => k cls dd σ H' L' t R' x⟩⟩
end PD
namespace K17
open PySem PySem.Spec PyProof.Rows L2 PD
def topS (i : Nat) : Stmt := PySem.Challenge.pw_nextsuch_k17_whole_asks_and_namings.main.body.getD i (.Pass ⟨0, 0, 0, 0⟩)
abbrev s_check_place : Stmt := topS 9
abbrev n_check_place : List Str := ["text", "place"]
theorem sc_check_place : FnScope n_check_place ["text", "place"] (defScope s_check_place) := ⟨rfl, rfl, rfl, by decide +kernel, rfl, by decide +kernel, by decide +kernel⟩
abbrev s_next_place : Stmt := topS 10
abbrev n_next_place : List Str := ["text", "place", "letters", "own"]
theorem sc_next_place : FnScope n_next_place ["text", "place", "letters"] (defScope s_next_place) := ⟨rfl, rfl, rfl, by decide +kernel, rfl, by decide +kernel, by decide +kernel⟩
abbrev s_last_place : Stmt := topS 11
abbrev n_last_place : List Str := ["text", "place", "letters", "own"]
theorem sc_last_place : FnScope n_last_place ["text", "place", "letters"] (defScope s_last_place) := ⟨rfl, rfl, rfl, by decide +kernel, rfl, by decide +kernel, by decide +kernel⟩
abbrev s_found : Stmt := topS 17
abbrev n_found : List Str := ["text", "place", "side", "letters"]
theorem sc_found : FnScope n_found ["text", "place", "side", "letters"] (defScope s_found) := ⟨rfl, rfl, rfl, by decide +kernel, rfl, by decide +kernel, by decide +kernel⟩
abbrev s_row_named : Stmt := topS 18
abbrev n_row_named : List Str := ["text", "naming", "place", "row", "side", "letters"]
theorem sc_row_named : FnScope n_row_named ["text", "naming"] (defScope s_row_named) := ⟨rfl, rfl, rfl, by decide +kernel, rfl, by decide +kernel, by decide +kernel⟩
abbrev s_named : Stmt := topS 19
abbrev n_named : List Str := ["text", "naming"]
theorem sc_named : FnScope n_named ["text", "naming"] (defScope s_named) := ⟨rfl, rfl, rfl, by decide +kernel, rfl, by decide +kernel, by decide +kernel⟩
abbrev s_stands_at : Stmt := topS 20
abbrev n_stands_at : List Str := ["text", "place"]
theorem sc_stands_at : FnScope n_stands_at ["text", "place"] (defScope s_stands_at) := ⟨rfl, rfl, rfl, by decide +kernel, rfl, by decide +kernel, by decide +kernel⟩
abbrev s_other_side : Stmt := topS 21
abbrev n_other_side : List Str := ["side"]
theorem sc_other_side : FnScope n_other_side ["side"] (defScope s_other_side) := ⟨rfl, rfl, rfl, by decide +kernel, rfl, by decide +kernel, by decide +kernel⟩
abbrev s_turned : Stmt := topS 22
abbrev n_turned : List Str := ["naming", "side", "letters"]
theorem sc_turned : FnScope n_turned ["naming"] (defScope s_turned) := ⟨rfl, rfl, rfl, by decide +kernel, rfl, by decide +kernel, by decide +kernel⟩
abbrev s__law_same : Stmt := topS 28
abbrev n__law_same : List Str := ["got", "goal", "mine_so", "own"]
theorem sc__law_same : FnScope n__law_same ["got", "goal"] (defScope s__law_same) := ⟨rfl, rfl, rfl, by decide +kernel, rfl, by decide +kernel, by decide +kernel⟩
abbrev s__law_by_hand_right : Stmt := topS 37
abbrev n__law_by_hand_right : List Str := ["row", "tale", "got"]
theorem sc__law_by_hand_right : FnScope n__law_by_hand_right [] (defScope s__law_by_hand_right) := ⟨rfl, rfl, rfl, by decide +kernel, rfl, by decide +kernel, by decide +kernel⟩
abbrev s_is_number : Stmt := topS 1
abbrev n_is_number : List Str := ["thing"]
theorem sc_is_number : FnScope n_is_number ["thing"] (defScope s_is_number) := ⟨rfl, rfl, rfl, by decide +kernel, rfl, by decide +kernel, by decide +kernel⟩
abbrev s_is_number_in : Stmt := topS 2
abbrev n_is_number_in : List Str := ["thing", "low", "high"]
theorem sc_is_number_in : FnScope n_is_number_in ["thing", "low", "high"] (defScope s_is_number_in) := ⟨rfl, rfl, rfl, by decide +kernel, rfl, by decide +kernel, by decide +kernel⟩
abbrev s_is_row_in : Stmt := topS 3
abbrev n_is_row_in : List Str := ["thing", "low", "high", "own"]
theorem sc_is_row_in : FnScope n_is_row_in ["thing", "low", "high"] (defScope s_is_row_in) := ⟨rfl, rfl, rfl, by decide +kernel, rfl, by decide +kernel, by decide +kernel⟩
abbrev s_is_set_in : Stmt := topS 4
abbrev n_is_set_in : List Str := ["thing", "low", "high", "one", "other"]
theorem sc_is_set_in : FnScope n_is_set_in ["thing", "low", "high"] (defScope s_is_set_in) := ⟨rfl, rfl, rfl, by decide +kernel, rfl, by decide +kernel, by decide +kernel⟩
abbrev s_is_letters : Stmt := topS 8
abbrev n_is_letters : List Str := ["wide", "thing"]
theorem sc_is_letters : FnScope n_is_letters ["wide", "thing"] (defScope s_is_letters) := ⟨rfl, rfl, rfl, by decide +kernel, rfl, by decide +kernel, by decide +kernel⟩
abbrev s_is_side : Stmt := topS 13
abbrev n_is_side : List Str := ["thing"]
theorem sc_is_side : FnScope n_is_side ["thing"] (defScope s_is_side) := ⟨rfl, rfl, rfl, by decide +kernel, rfl, by decide +kernel, by decide +kernel⟩
abbrev s_is_ask : Stmt := topS 14
abbrev n_is_ask : List Str := ["wide", "thing", "spot", "side", "letters"]
theorem sc_is_ask : FnScope n_is_ask ["wide", "thing"] (defScope s_is_ask) := ⟨rfl, rfl, rfl, by decide +kernel, rfl, by decide +kernel, by decide +kernel⟩
abbrev s_is_named_pair : Stmt := topS 15
abbrev n_is_named_pair : List Str := ["wide", "thing"]
theorem sc_is_named_pair : FnScope n_is_named_pair ["wide", "thing"] (defScope s_is_named_pair) := ⟨rfl, rfl, rfl, by decide +kernel, rfl, by decide +kernel, by decide +kernel⟩
abbrev s_is_naming : Stmt := topS 16
abbrev n_is_naming : List Str := ["wide", "thing", "own"]
theorem sc_is_naming : FnScope n_is_naming ["wide", "thing"] (defScope s_is_naming) := ⟨rfl, rfl, rfl, by decide +kernel, rfl, by decide +kernel, by decide +kernel⟩
abbrev s__law_take : Stmt := topS 25
abbrev n__law_take : List Str := ["urn", "low_so", "drawn", "once", "far", "twice"]
theorem sc__law_take : FnScope n__law_take ["urn", "low_so"] (defScope s__law_take) := ⟨rfl, rfl, rfl, by decide +kernel, rfl, by decide +kernel, by decide +kernel⟩
abbrev s__law_lists : Stmt := topS 27
abbrev n__law_lists : List Str := ["matter", "own"]
theorem sc__law_lists : FnScope n__law_lists ["matter"] (defScope s__law_lists) := ⟨rfl, rfl, rfl, by decide +kernel, rfl, by decide +kernel, by decide +kernel⟩
abbrev s__law_of : Stmt := topS 29
abbrev n__law_of : List Str := ["urn", "goods"]
theorem sc__law_of : FnScope n__law_of ["urn", "goods"] (defScope s__law_of) := ⟨rfl, rfl, rfl, by decide +kernel, rfl, by decide +kernel, by decide +kernel⟩
abbrev s__law_text : Stmt := topS 30
abbrev n__law_text : List Str := ["urn", "wide", "most", "lap"]
theorem sc__law_text : FnScope n__law_text ["urn", "wide", "most"] (defScope s__law_text) := ⟨rfl, rfl, rfl, by decide +kernel, rfl, by decide +kernel, by decide +kernel⟩
abbrev s__law_letters : Stmt := topS 31
abbrev n__law_letters : List Str := ["urn", "wide", "some", "own"]
theorem sc__law_letters : FnScope n__law_letters ["urn", "wide"] (defScope s__law_letters) := ⟨rfl, rfl, rfl, by decide +kernel, rfl, by decide +kernel, by decide +kernel⟩
abbrev s__law_next : Stmt := topS 32
abbrev n__law_next : List Str := ["text", "place", "letters", "goods", "k", "own"]
theorem sc__law_next : FnScope n__law_next ["text", "place", "letters"] (defScope s__law_next) := ⟨rfl, rfl, rfl, by decide +kernel, rfl, by decide +kernel, by decide +kernel⟩
abbrev s__law_last : Stmt := topS 33
abbrev n__law_last : List Str := ["text", "place", "letters", "goods", "k", "own"]
theorem sc__law_last : FnScope n__law_last ["text", "place", "letters"] (defScope s__law_last) := ⟨rfl, rfl, rfl, by decide +kernel, rfl, by decide +kernel, by decide +kernel⟩
abbrev s__law_found : Stmt := topS 34
abbrev n__law_found : List Str := ["text", "place", "side", "letters"]
theorem sc__law_found : FnScope n__law_found ["text", "place", "side", "letters"] (defScope s__law_found) := ⟨rfl, rfl, rfl, by decide +kernel, rfl, by decide +kernel, by decide +kernel⟩
abbrev s__law_row : Stmt := topS 35
abbrev n__law_row : List Str := ["text", "naming", "place", "row", "side", "letters"]
theorem sc__law_row : FnScope n__law_row ["text", "naming"] (defScope s__law_row) := ⟨rfl, rfl, rfl, by decide +kernel, rfl, by decide +kernel, by decide +kernel⟩
abbrev s__law_right : Stmt := topS 36
abbrev n__law_right : List Str := ["urn", "wide", "text", "size", "naming", "lap", "row", "other", "side", "letters", "got", "own", "place", "due", "told", "tail", "far", "at"]
theorem sc__law_right : FnScope n__law_right ["urn"] (defScope s__law_right) := ⟨rfl, rfl, rfl, by decide +kernel, rfl, by decide +kernel, by decide +kernel⟩
abbrev s__law_box : Stmt := topS 24
abbrev n__law_box : List Str := ["script", "k", "cell"]
theorem sc__law_box : FnScope n__law_box ["script", "k"] (defScope s__law_box) := ⟨rfl, rfl, rfl, by decide +kernel, rfl, by decide +kernel, by decide +kernel⟩
def F_check_place : List Sl → Option FR := fnF 2 2 (gSeq (gIfS (gOr (gBool (gOp dLt (gVar 1) (gP (.int 0)))) (gBool (gOp (dCmp fun i j => decide (j < i)) (gVar 1) (gOp dAdd (gCall dLen (PD.gCons (gVar 0) (gP []))) (gP (.int 1)))))) (gSeq (gRaise1 "NoPlace" "place" (gVar 1))
    gSkip) gSkip)
    gSkip)
def q1_next_place : Gs := (gSeq (gIfS (gBool (gOp (dIn false) (gOp dIx (gVar 0) (gOp dSub (gVar 3) (gP (.int 1)))) (gVar 2))) (gSeq (gRet (gVar 3))
    gSkip) gSkip)
    gSkip)
def F_next_place : List Sl → Option FR := fnF 3 4 (gSeq (gS (gCallF (F_check_place) (gArV (gVar 0) (gArV (gVar 1) (gP [])))) fun _ env => some (.nx env))
    (gSeq (gFor (gB (PD.gCons (gOp dAdd (gVar 1) (gP (.int 1))) (PD.gCons (gOp dAdd (gCall dLen (PD.gCons (gVar 0) (gP []))) (gP (.int 1))) (gP []))) fun ds => gO (dRange2 ds)) (.one 3) q1_next_place)
    (gSeq (gRet (gOp dAdd (gCall dLen (PD.gCons (gVar 0) (gP []))) (gP (.int 1))))
    gSkip)))
def q1_last_place : Gs := (gSeq (gIfS (gBool (gOp (dIn false) (gOp dIx (gVar 0) (gOp dSub (gVar 3) (gP (.int 1)))) (gVar 2))) (gSeq (gRet (gVar 3))
    gSkip) gSkip)
    gSkip)
def F_last_place : List Sl → Option FR := fnF 3 4 (gSeq (gS (gCallF (F_check_place) (gArV (gVar 0) (gArV (gVar 1) (gP [])))) fun _ env => some (.nx env))
    (gSeq (gFor (gB (PD.gCons (gOp dSub (gVar 1) (gP (.int 1))) (PD.gCons (gP (.int 0)) (PD.gCons (gB (gP (.int 1)) fun d => gO (dNeg d)) (gP [])))) fun ds => gO (dRange3 ds)) (.one 3) q1_last_place)
    (gSeq (gRet (gP (.int 0)))
    gSkip)))
def F_found : List Sl → Option FR := fnF 4 4 (gSeq (gIfS (gBool (gOp (dEq false) (gVar 2) (gP (.str "next")))) (gSeq (gRet (gCallF (F_next_place) (gArV (gVar 0) (gArV (gVar 1) (gArV (gVar 3) (gP []))))))
    gSkip) gSkip)
    (gSeq (gRet (gCallF (F_last_place) (gArV (gVar 0) (gArV (gVar 1) (gArV (gVar 3) (gP []))))))
    gSkip))
def q1_row_named : Gs := (gSeq (gAsg 2 (gCallF (F_found) (gArV (gVar 0) (gArV (gVar 2) (gArV (gVar 4) (gArV (gVar 5) (gP [])))))))
    (gSeq (gApp 3 (gVar 2))
    gSkip))
def F_row_named : List Sl → Option FR := fnF 2 6 (gSeq (gAsg 2 (gIf (gBool (gOp (dEq false) (gOp dIx (gOp dIx (gVar 1) (gP (.int 0))) (gP (.int 0))) (gP (.str "next")))) (gP (.int 0)) (gOp dAdd (gCall dLen (PD.gCons (gVar 0) (gP []))) (gP (.int 1)))))
    (gSeq (gAsgF 3 (gLst (gP [])))
    (gSeq (gFor (gSeqOf (gVar 1)) (.tup [4, 5]) q1_row_named)
    (gSeq (gRet (gCall dToTup (PD.gCons (gVar 3) (gP []))))
    gSkip))))
def F_named : List Sl → Option FR := fnF 2 2 (gSeq (gRet (gOp dIx (gCallF (F_row_named) (gArV (gVar 0) (gArV (gVar 1) (gP [])))) (gB (gP (.int 1)) fun d => gO (dNeg d))))
    gSkip)
def F_stands_at : List Sl → Option FR := fnF 2 2 (gSeq (gS (gCallF (F_check_place) (gArV (gVar 0) (gArV (gVar 1) (gP [])))) fun _ env => some (.nx env))
    (gSeq (gIfS (gBool (gOp (dEq false) (gVar 1) (gP (.int 0)))) (gSeq (gRet (gP (.str "front")))
    gSkip) gSkip)
    (gSeq (gIfS (gBool (gOp (dEq false) (gVar 1) (gOp dAdd (gCall dLen (PD.gCons (gVar 0) (gP []))) (gP (.int 1))))) (gSeq (gRet (gP (.str "back")))
    gSkip) gSkip)
    (gSeq (gRet (gOp dIx (gVar 0) (gOp dSub (gVar 1) (gP (.int 1)))))
    gSkip))))
def F_other_side : List Sl → Option FR := fnF 1 1 (gSeq (gRet (gIf (gBool (gOp (dEq false) (gVar 0) (gP (.str "next")))) (gP (.str "last")) (gP (.str "next"))))
    gSkip)
def q1_turned : GE := (gTup (PD.gCons (gCallF (F_other_side) (gArV (gVar 1) (gP []))) (PD.gCons (gCall dToTup (PD.gCons (gVar 2) (gP []))) (gP []))))
def F_turned : List Sl → Option FR := fnF 1 3 (gSeq (gRet (gCall dToTup (PD.gCons (gFrz (gLc (gSeqOf (gVar 0)) (.tup [1, 2]) (gP true) q1_turned [1, 2])) (gP []))))
    gSkip)
def q1__law_same (F : List Sl → Option FR) : GE := (gCallF (F) (gArV (gVar 2) (gArV (gVar 3) (gP []))))
def F__law_same : Nat → List Sl → Option FR
  | 0 => fun _ => none
  | n + 1 => let F := F__law_same n
    fnF 2 4 (gSeq (gIfS (gTru (gB (gVar 1) fun d => gO (dIsi2 "list" "tuple" d))) (gSeq (gIfS (gOr (gBool (gOp (dEq true) (gB (gVar 0) fun d => gO (dIsi "list" d)) (gB (gVar 1) fun d => gO (dIsi "list" d)))) (gBool (gOp (dEq true) (gB (gVar 0) fun d => gO (dIsi "tuple" d)) (gB (gVar 1) fun d => gO (dIsi "tuple" d))))) (gSeq (gRet (gP (.bool false)))
    gSkip) gSkip)
    (gSeq (gRet (gAndV (gOp (dEq false) (gCall dLen (PD.gCons (gVar 0) (gP []))) (gCall dLen (PD.gCons (gVar 1) (gP [])))) (gCall dAll (PD.gCons (gFrz (gLc (gB (PD.gCons (gVar 0) (PD.gCons (gVar 1) (gP []))) fun ds => gO (dZip ds)) (.tup [2, 3]) (gP true) (q1__law_same F) [2, 3])) (gP [])))))
    gSkip)) gSkip)
    (gSeq (gIfS (gOr (gBool (gOp (dIsN false) (gVar 1) (gP .none))) (gTru (gB (gVar 1) fun d => gO (dIsi2 "bool" "str" d)))) (gSeq (gRet (gAndV (gOp (dEq false) (gVar 0) (gVar 1)) (gAndV (gOp (dEq false) (gB (gVar 0) fun d => gO (dIsi "bool" d)) (gB (gVar 1) fun d => gO (dIsi "bool" d))) (gOp (dEq false) (gOp (dIsN false) (gVar 0) (gP .none)) (gOp (dIsN false) (gVar 1) (gP .none))))))
    gSkip) gSkip)
    (gSeq (gRet (gAndV (gB (gVar 0) fun d => gO (dIsi "int" d)) (gAndV (gB (gB (gVar 0) fun d => gO (dIsi "bool" d)) fun d => gO (dNot d)) (gOp (dEq false) (gVar 0) (gVar 1)))))
    gSkip)))
def F__law_by_hand_right : List Sl → Option FR := fnF 0 3 (gSeq (gAsgT (.tup [0, 1]) (gTup (PD.gCons (gTup (PD.gCons (gP (.int 2)) (PD.gCons (gP (.int 1)) (PD.gCons (gP (.int 3)) (PD.gCons (gP (.int 1)) (gP [])))))) (PD.gCons (gTup (PD.gCons (gTup (PD.gCons (gP (.str "next")) (PD.gCons (gTup (PD.gCons (gP (.int 3)) (gP []))) (gP [])))) (PD.gCons (gTup (PD.gCons (gP (.str "last")) (PD.gCons (gTup (PD.gCons (gP (.int 1)) (PD.gCons (gP (.int 2)) (gP [])))) (gP [])))) (PD.gCons (gTup (PD.gCons (gP (.str "last")) (PD.gCons (gTup (PD.gCons (gP (.int 1)) (gP []))) (gP [])))) (gP []))))) (gP [])))))
    (gSeq (gAsg 2 (gFrz (gLst (PD.gCons (gCallF (F_row_named) (gArV (gVar 0) (gArV (gVar 1) (gP [])))) (PD.gCons (gCallF (F_named) (gArV (gVar 0) (gArV (gVar 1) (gP [])))) (PD.gCons (gCallF (F_row_named) (gArV (gTup (gP [])) (gArV (gVar 1) (gP [])))) (PD.gCons (gCallF (F_row_named) (gArV (gB (gVar 0) fun d => gO (dRev d)) (gArV (gCallF (F_turned) (gArV (gVar 1) (gP []))) (gP [])))) (PD.gCons (gCallF (F_found) (gArV (gVar 0) (gArV (gP (.int 0)) (gArV (gP (.str "next")) (gArV (gTup (PD.gCons (gP (.int 1)) (gP []))) (gP [])))))) (PD.gCons (gCallF (F_found) (gArV (gVar 0) (gArV (gP (.int 5)) (gArV (gP (.str "last")) (gArV (gTup (PD.gCons (gP (.int 2)) (PD.gCons (gP (.int 3)) (gP [])))) (gP [])))))) (PD.gCons (gCallF (F_found) (gArV (gVar 0) (gArV (gP (.int 2)) (gArV (gP (.str "last")) (gArV (gTup (PD.gCons (gP (.int 3)) (gP []))) (gP [])))))) (PD.gCons (gCallF (F_found) (gArV (gVar 0) (gArV (gP (.int 5)) (gArV (gP (.str "next")) (gArV (gTup (PD.gCons (gP (.int 1)) (gP []))) (gP [])))))) (PD.gCons (gCallF (F_stands_at) (gArV (gVar 0) (gArV (gP (.int 3)) (gP [])))) (PD.gCons (gCallF (F_stands_at) (gArV (gVar 0) (gArV (gP (.int 5)) (gP [])))) (gP []))))))))))))))
    (gSeq (gRet (gCallF (F__law_same 12) (gArV (gVar 2) (gArV (gFrz (gLst (PD.gCons (gTup (PD.gCons (gP (.int 3)) (PD.gCons (gP (.int 2)) (PD.gCons (gP (.int 0)) (gP []))))) (PD.gCons (gP (.int 0)) (PD.gCons (gTup (PD.gCons (gP (.int 1)) (PD.gCons (gP (.int 0)) (PD.gCons (gP (.int 0)) (gP []))))) (PD.gCons (gTup (PD.gCons (gP (.int 2)) (PD.gCons (gP (.int 3)) (PD.gCons (gP (.int 5)) (gP []))))) (PD.gCons (gP (.int 2)) (PD.gCons (gP (.int 3)) (PD.gCons (gP (.int 0)) (PD.gCons (gP (.int 5)) (PD.gCons (gP (.int 3)) (PD.gCons (gP (.str "back")) (gP []))))))))))))) (gP [])))))
    gSkip)))
def F_is_number : List Sl → Option FR := fnF 1 1 (gSeq (gRet (gAndV (gB (gVar 0) fun d => gO (dIsi "int" d)) (gB (gB (gVar 0) fun d => gO (dIsi "bool" d)) fun d => gO (dNot d))))
    gSkip)
def F_is_number_in : List Sl → Option FR := fnF 3 3 (gSeq (gRet (gAndV (gCallF (F_is_number) (gArV (gVar 0) (gP []))) (gAndV (gOp (dCmp fun i j => decide (i ≤ j)) (gVar 1) (gVar 0)) (gOp (dCmp fun i j => decide (i ≤ j)) (gVar 0) (gVar 2)))))
    gSkip)
def q1_is_row_in : GE := (gCallF (F_is_number_in) (gArV (gVar 3) (gArV (gVar 1) (gArV (gVar 2) (gP [])))))
def F_is_row_in : List Sl → Option FR := fnF 3 4 (gSeq (gRet (gAndV (gB (gVar 0) fun d => gO (dIsi "tuple" d)) (gCall dAll (PD.gCons (gFrz (gLc (gSeqOf (gVar 0)) (.one 3) (gP true) q1_is_row_in [3])) (gP [])))))
    gSkip)
def q1_is_set_in : GE := (gOp dLt (gVar 3) (gVar 4))
def F_is_set_in : List Sl → Option FR := fnF 3 5 (gSeq (gRet (gAndV (gCallF (F_is_row_in) (gArV (gVar 0) (gArV (gVar 1) (gArV (gVar 2) (gP []))))) (gCall dAll (PD.gCons (gFrz (gLc (gB (PD.gCons (gVar 0) (PD.gCons (gSl (gVar 0) (gB (gP (.int 1)) fun d => gO (dPart d)) (gP none)) (gP []))) fun ds => gO (dZip ds)) (.tup [3, 4]) (gP true) q1_is_set_in [3, 4])) (gP [])))))
    gSkip)
def F_is_letters : List Sl → Option FR := fnF 2 2 (gSeq (gRet (gAndV (gCallF (F_is_set_in) (gArV (gVar 1) (gArV (gP (.int 1)) (gArV (gVar 0) (gP []))))) (gOp (dCmp fun i j => decide (j < i)) (gCall dLen (PD.gCons (gVar 1) (gP []))) (gP (.int 0)))))
    gSkip)
def F_is_side : List Sl → Option FR := fnF 1 1 (gSeq (gRet (gOrV (gOp (dEq false) (gVar 0) (gP (.str "next"))) (gOp (dEq false) (gVar 0) (gP (.str "last")))))
    gSkip)
def F_is_ask : List Sl → Option FR := fnF 2 5 (gSeq (gIfS (gOr (gB (gTru (gB (gVar 1) fun d => gO (dIsi "tuple" d))) fun b => gP !b) (gBool (gOp (dEq true) (gCall dLen (PD.gCons (gVar 1) (gP []))) (gP (.int 3))))) (gSeq (gRet (gP (.bool false)))
    gSkip) gSkip)
    (gSeq (gAsgT (.tup [2, 3, 4]) (gVar 1))
    (gSeq (gRet (gAndV (gCallF (F_is_number) (gArV (gVar 2) (gP []))) (gAndV (gOp (dCmp fun i j => decide (j ≤ i)) (gVar 2) (gP (.int 0))) (gAndV (gCallF (F_is_side) (gArV (gVar 3) (gP []))) (gCallF (F_is_letters) (gArV (gVar 0) (gArV (gVar 4) (gP []))))))))
    gSkip)))
def F_is_named_pair : List Sl → Option FR := fnF 2 2 (gSeq (gRet (gAndV (gB (gVar 1) fun d => gO (dIsi "tuple" d)) (gAndV (gOp (dEq false) (gCall dLen (PD.gCons (gVar 1) (gP []))) (gP (.int 2))) (gAndV (gCallF (F_is_side) (gArV (gOp dIx (gVar 1) (gP (.int 0))) (gP []))) (gCallF (F_is_letters) (gArV (gVar 0) (gArV (gOp dIx (gVar 1) (gP (.int 1))) (gP []))))))))
    gSkip)
def q1_is_naming : GE := (gCallF (F_is_named_pair) (gArV (gVar 0) (gArV (gVar 2) (gP []))))
def F_is_naming : List Sl → Option FR := fnF 2 3 (gSeq (gRet (gAndV (gB (gVar 1) fun d => gO (dIsi "tuple" d)) (gAndV (gOp (dCmp fun i j => decide (j < i)) (gCall dLen (PD.gCons (gVar 1) (gP []))) (gP (.int 0))) (gCall dAll (PD.gCons (gFrz (gLc (gSeqOf (gVar 1)) (.one 2) (gP true) q1_is_naming [2])) (gP []))))))
    gSkip)
def F__law_take : List Sl → Option FR := fnF 2 6 (gSeq (gIfS (gBool (gOp (dCmp fun i j => decide (j < i)) (gHas 0 (gAtN 0 (gP (.int 0)))) (gP (.int 0)))) (gSeq (gAsg 2 (gOp (dInt bMod Int.fmod) (gCall dToInt (PD.gCons (gHas 0 (gAtN 0 (gP (.int 0)))) (gP []))) (gVar 1)))
    (gSeq (gSetN 0 (gP (.int 0)) (gOp (dInt bDiv Int.fdiv) (gHas 0 (gAtN 0 (gP (.int 0)))) (gVar 1)))
    (gSeq (gRet (gVar 2))
    gSkip))) gSkip)
    (gSeq (gSetN 0 (gP (.int 2)) (gOp dAdd (gHas 0 (gAtN 0 (gP (.int 2)))) (gP (.int 1))))
    (gSeq (gAsg 3 (gOp (dInt bMod Int.fmod) (gCall dToInt (PD.gCons (gOp dMul3 (gOp dAdd (gHas 0 (gAtN 0 (gP (.int 1)))) (gOp dMul3 (gP (.int 48271)) (gHas 0 (gAtN 0 (gP (.int 2)))))) (gOp dAdd (gP (.int 39373)) (gHas 0 (gAtN 0 (gP (.int 2)))))) (gP []))) (gP (.int 2147483647))))
    (gSeq (gAsg 4 (gOp dAdd (gOp (dInt bMod Int.fmod) (gCall dToInt (PD.gCons (gVar 3) (gP []))) (gP (.int 40009))) (gP (.int 7))))
    (gSeq (gAsg 5 (gOp (dInt bMod Int.fmod) (gCall dToInt (PD.gCons (gOp dMul3 (gOp dAdd (gOp dAdd (gVar 3) (gHas 0 (gAtN 0 (gP (.int 2))))) (gOp (dInt bDiv Int.fdiv) (gHas 0 (gAtN 0 (gP (.int 1)))) (gP (.int 1000003)))) (gVar 4)) (gP []))) (gP (.int 2147483629))))
    (gSeq (gRet (gOp (dInt bMod Int.fmod) (gCall dToInt (PD.gCons (gOp (dInt bDiv Int.fdiv) (gOp (dInt bMod Int.fmod) (gCall dToInt (PD.gCons (gOp dAdd (gOp dMul3 (gVar 5) (gP (.int 48271))) (gVar 3)) (gP []))) (gP (.int 2147483587))) (gP (.int 64))) (gP []))) (gVar 1)))
    gSkip))))))
def q1__law_lists (F : List Sl → Option FR) : GE := (gCallF (F) (gArV (gVar 1) (gP [])))
def F__law_lists : Nat → List Sl → Option FR
  | 0 => fun _ => none
  | n + 1 => let F := F__law_lists n
    fnF 1 2 (gSeq (gRet (gIf (gTru (gB (gVar 0) fun d => gO (dIsi2 "list" "tuple" d))) (gFrz (gLc (gSeqOf (gVar 0)) (.one 1) (gP true) (q1__law_lists F) [1])) (gVar 0)))
    gSkip)
def F__law_of : List Sl → Option FR := fnF 2 2 (gSeq (gRet (gOp dIx (gVar 1) (gCallF (F__law_take) (gArB 0 (gArV (gCall dLen (PD.gCons (gVar 1) (gP []))) (gP []))))))
    gSkip)
def q1__law_text : GE := (gOp dAdd (gP (.int 1)) (gCallF (F__law_take) (gArB 0 (gArV (gVar 1) (gP [])))))
def F__law_text : List Sl → Option FR := fnF 3 4 (gSeq (gRet (gCall dToTup (PD.gCons (gFrz (gLc (gB (PD.gCons (gCallF (F__law_take) (gArB 0 (gArV (gOp dAdd (gVar 2) (gP (.int 1))) (gP [])))) (gP [])) fun ds => gO (dRange1 ds)) (.one 3) (gP true) q1__law_text [3])) (gP []))))
    gSkip)
def q1__law_letters : GT := (gBool (gOp (dEq false) (gCallF (F__law_take) (gArB 0 (gArV (gP (.int 2)) (gP [])))) (gP (.int 0))))
def F__law_letters : List Sl → Option FR := fnF 2 4 (gSeq (gAsgF 2 (gLc (gB (PD.gCons (gP (.int 1)) (PD.gCons (gOp dAdd (gVar 1) (gP (.int 1))) (gP []))) fun ds => gO (dRange2 ds)) (.one 3) q1__law_letters (gVar 3) [3]))
    (gSeq (gRet (gIf (gBool (gOp (dEq true) (gVar 2) (gFrz (gLst (gP []))))) (gCall dToTup (PD.gCons (gVar 2) (gP []))) (gTup (PD.gCons (gOp dAdd (gP (.int 1)) (gCallF (F__law_take) (gArB 0 (gArV (gVar 1) (gP []))))) (gP [])))))
    gSkip))
def q1__law_next : GE := (gOp dAdd (gVar 4) (gP (.int 1)))
def q2__law_next : GT := (gAnd (gBool (gOp (dCmp fun i j => decide (j < i)) (gOp dAdd (gVar 4) (gP (.int 1))) (gVar 1))) (gBool (gOp (dIn false) (gVar 5) (gVar 2))))
def F__law_next : List Sl → Option FR := fnF 3 6 (gSeq (gAsgF 3 (gLc (gB (PD.gCons (gVar 0) (gP [])) fun ds => gO (dEnum ds)) (.tup [4, 5]) q2__law_next q1__law_next [4, 5]))
    (gSeq (gRet (gIf (gBool (gOp (dEq true) (gVar 3) (gFrz (gLst (gP []))))) (gOp dIx (gVar 3) (gP (.int 0))) (gOp dAdd (gCall dLen (PD.gCons (gVar 0) (gP []))) (gP (.int 1)))))
    gSkip))
def q1__law_last : GE := (gOp dAdd (gVar 4) (gP (.int 1)))
def q2__law_last : GT := (gAnd (gBool (gOp dLt (gOp dAdd (gVar 4) (gP (.int 1))) (gVar 1))) (gBool (gOp (dIn false) (gVar 5) (gVar 2))))
def F__law_last : List Sl → Option FR := fnF 3 6 (gSeq (gAsgF 3 (gLc (gB (PD.gCons (gVar 0) (gP [])) fun ds => gO (dEnum ds)) (.tup [4, 5]) q2__law_last q1__law_last [4, 5]))
    (gSeq (gRet (gIf (gBool (gOp (dEq true) (gVar 3) (gFrz (gLst (gP []))))) (gOp dIx (gVar 3) (gB (gP (.int 1)) fun d => gO (dNeg d))) (gP (.int 0))))
    gSkip))
def F__law_found : List Sl → Option FR := fnF 4 4 (gSeq (gRet (gIf (gBool (gOp (dEq false) (gVar 2) (gP (.str "next")))) (gCallF (F__law_next) (gArV (gVar 0) (gArV (gVar 1) (gArV (gVar 3) (gP []))))) (gCallF (F__law_last) (gArV (gVar 0) (gArV (gVar 1) (gArV (gVar 3) (gP [])))))))
    gSkip)
def q1__law_row : Gs := (gSeq (gAsg 2 (gCallF (F__law_found) (gArV (gVar 0) (gArV (gVar 2) (gArV (gVar 4) (gArV (gVar 5) (gP [])))))))
    (gSeq (gApp 3 (gVar 2))
    gSkip))
def F__law_row : List Sl → Option FR := fnF 2 6 (gSeq (gParF 2 3 (gIf (gBool (gOp (dEq false) (gOp dIx (gOp dIx (gVar 1) (gP (.int 0))) (gP (.int 0))) (gP (.str "last")))) (gOp dAdd (gCall dLen (PD.gCons (gVar 0) (gP []))) (gP (.int 1))) (gP (.int 0))) (gLst (gP [])))
    (gSeq (gFor (gSeqOf (gVar 1)) (.tup [4, 5]) q1__law_row)
    (gSeq (gRet (gCall dToTup (PD.gCons (gVar 3) (gP []))))
    gSkip)))
def q1__law_right : Gs := (gSeq (gPar [12, 8, 9] (PD.gCons (gCallF (F__law_take) (gArB 0 (gArV (gOp dAdd (gVar 3) (gP (.int 2))) (gP [])))) (PD.gCons (gCallF (F__law_of) (gArB 0 (gArV (gFrz (gLst (PD.gCons (gP (.str "next")) (PD.gCons (gP (.str "last")) (gP []))))) (gP [])))) (PD.gCons (gCallF (F__law_letters) (gArB 0 (gArV (gVar 1) (gP [])))) (gP [])))))
    (gSeq (gAsg 13 (gCallF (F__law_found) (gArV (gVar 2) (gArV (gVar 12) (gArV (gVar 8) (gArV (gVar 9) (gP [])))))))
    (gSeq (gAsg 14 (gIf (gBool (gOp (dEq false) (gVar 13) (gP (.int 0)))) (gP (.str "front")) (gIf (gBool (gOp (dCmp fun i j => decide (j < i)) (gVar 13) (gVar 3))) (gP (.str "back")) (gOp dIx (gVar 2) (gOp dSub (gVar 13) (gP (.int 1)))))))
    (gSeq (gAsg 15 (gCallF (F__law_text) (gArB 0 (gArV (gVar 1) (gArV (gP (.int 5)) (gP []))))))
    (gSeq (gAsgT (.tup [16, 17]) (gIf (gBool (gOp (dEq false) (gVar 8) (gP (.str "next")))) (gTup (PD.gCons (gOp dAdd (gSl (gVar 2) (gP none) (gB (gVar 13) fun d => gO (dPart d))) (gVar 15)) (PD.gCons (gVar 12) (gP [])))) (gTup (PD.gCons (gOp dAdd (gVar 15) (gSl (gVar 2) (gB (gCall dMax (PD.gCons (gP (.int 0)) (PD.gCons (gOp dSub (gVar 13) (gP (.int 1))) (gP [])))) fun d => gO (dPart d)) (gP none))) (PD.gCons (gOp dAdd (gOp dSub (gVar 12) (gCall dMax (PD.gCons (gP (.int 0)) (PD.gCons (gOp dSub (gVar 13) (gP (.int 1))) (gP []))))) (gCall dLen (PD.gCons (gVar 15) (gP [])))) (gP []))))))
    (gSeq (gAsg 10 (gFrz (gLst (PD.gCons (gCallF (F_is_ask) (gArV (gVar 1) (gArV (gTup (PD.gCons (gVar 12) (PD.gCons (gVar 8) (PD.gCons (gVar 9) (gP []))))) (gP [])))) (PD.gCons (gCallF (F_found) (gArV (gVar 2) (gArV (gVar 12) (gArV (gVar 8) (gArV (gVar 9) (gP [])))))) (PD.gCons (gCallF (F_found) (gArV (gFrz (gList (PD.gCons (gVar 2) (gP [])))) (gArV (gVar 12) (gArV (gVar 8) (gArV (gFrz (gList (PD.gCons (gVar 9) (gP [])))) (gP [])))))) (PD.gCons (gCallF (F_stands_at) (gArV (gVar 2) (gArV (gVar 13) (gP [])))) (gP []))))))))
    (gSeq (gIfS (gB (gTru (gCallF (F__law_same 12) (gArV (gVar 10) (gArV (gFrz (gLst (PD.gCons (gP (.bool true)) (PD.gCons (gVar 13) (PD.gCons (gVar 13) (PD.gCons (gVar 14) (gP []))))))) (gP []))))) fun b => gP !b) (gSeq (gRet (gP (.bool false)))
    gSkip) gSkip)
    (gSeq (gIfS (gAnd (gBool (gChain dLt (dCmp fun i j => decide (i ≤ j)) (gP (.int 0)) (gVar 13) (gVar 3))) (gB (gTru (gCallF (F__law_same 12) (gArV (gCallF (F_found) (gArV (gVar 16) (gArV (gVar 17) (gArV (gVar 8) (gArV (gVar 9) (gP [])))))) (gArV (gIf (gBool (gOp (dEq false) (gVar 8) (gP (.str "next")))) (gVar 13) (gOp dAdd (gCall dLen (PD.gCons (gVar 15) (gP []))) (gP (.int 1)))) (gP []))))) fun b => gP !b)) (gSeq (gRet (gP (.bool false)))
    gSkip) gSkip)
    gSkip))))))))
def q2__law_right : GE := (gOp dSub (gOp dAdd (gVar 3) (gP (.int 1))) (gVar 11))
def q3__law_right : GE := (gTup (PD.gCons (gB (gVar 8) fun x => gO (dPick "next" "last" "last" "next" x)) (PD.gCons (gVar 9) (gP []))))
def q4__law_right : GE := (gTup (PD.gCons (gCallF (F__law_of) (gArB 0 (gArV (gFrz (gLst (PD.gCons (gP (.str "next")) (PD.gCons (gP (.str "last")) (gP []))))) (gP [])))) (PD.gCons (gCallF (F__law_letters) (gArB 0 (gArV (gVar 1) (gP [])))) (gP []))))
def F__law_right : List Sl → Option FR := fnF 1 18 (gSeq (gAsg 1 (gOp dAdd (gP (.int 1)) (gCallF (F__law_take) (gArB 0 (gArV (gP (.int 3)) (gP []))))))
    (gSeq (gAsg 2 (gCallF (F__law_text) (gArB 0 (gArV (gVar 1) (gArV (gP (.int 14)) (gP []))))))
    (gSeq (gAsg 3 (gCall dLen (PD.gCons (gVar 2) (gP []))))
    (gSeq (gAsg 4 (gCall dToTup (PD.gCons (gFrz (gLc (gB (PD.gCons (gOp dAdd (gP (.int 1)) (gCallF (F__law_take) (gArB 0 (gArV (gP (.int 5)) (gP []))))) (gP [])) fun ds => gO (dRange1 ds)) (.one 5) (gP true) q4__law_right [5])) (gP []))))
    (gSeq (gPar [6, 7] (PD.gCons (gCallF (F__law_row) (gArV (gVar 2) (gArV (gVar 4) (gP [])))) (PD.gCons (gCall dToTup (PD.gCons (gFrz (gLc (gSeqOf (gVar 4)) (.tup [8, 9]) (gP true) q3__law_right [8, 9])) (gP []))) (gP []))))
    (gSeq (gAsg 10 (gFrz (gLst (PD.gCons (gCallF (F_is_naming) (gArV (gVar 1) (gArV (gVar 4) (gP [])))) (PD.gCons (gCallF (F_row_named) (gArV (gVar 2) (gArV (gVar 4) (gP [])))) (PD.gCons (gCallF (F_row_named) (gArV (gFrz (gList (PD.gCons (gVar 2) (gP [])))) (gArV (gCallF (F__law_lists 12) (gArV (gVar 4) (gP []))) (gP [])))) (PD.gCons (gCallF (F_named) (gArV (gVar 2) (gArV (gVar 4) (gP [])))) (PD.gCons (gCallF (F_named) (gArV (gFrz (gList (PD.gCons (gVar 2) (gP [])))) (gArV (gVar 4) (gP [])))) (PD.gCons (gCallF (F_turned) (gArV (gVar 4) (gP []))) (PD.gCons (gCallF (F_turned) (gArV (gCallF (F__law_lists 12) (gArV (gVar 4) (gP []))) (gP []))) (gP [])))))))))))
    (gSeq (gIfS (gB (gTru (gCallF (F__law_same 12) (gArV (gVar 10) (gArV (gFrz (gLst (PD.gCons (gP (.bool true)) (PD.gCons (gVar 6) (PD.gCons (gVar 6) (PD.gCons (gOp dIx (gVar 6) (gB (gP (.int 1)) fun d => gO (dNeg d))) (PD.gCons (gOp dIx (gVar 6) (gB (gP (.int 1)) fun d => gO (dNeg d))) (PD.gCons (gVar 7) (PD.gCons (gVar 7) (gP [])))))))))) (gP []))))) fun b => gP !b) (gSeq (gRet (gP (.bool false)))
    gSkip) gSkip)
    (gSeq (gIfS (gB (gTru (gCallF (F__law_same 12) (gArV (gCallF (F_row_named) (gArV (gB (gVar 2) fun d => gO (dRev d)) (gArV (gCallF (F_turned) (gArV (gVar 4) (gP []))) (gP [])))) (gArV (gCall dToTup (PD.gCons (gFrz (gLc (gSeqOf (gVar 6)) (.one 11) (gP true) q2__law_right [11])) (gP []))) (gP []))))) fun b => gP !b) (gSeq (gRet (gP (.bool false)))
    gSkip) gSkip)
    (gSeq (gFor (gB (PD.gCons (gP (.int 3)) (gP [])) fun ds => gO (dRange1 ds)) (.one 5) q1__law_right)
    (gSeq (gRet (gP (.bool true)))
    gSkip))))))))))
def F__law_box : List Sl → Option FR := fnF 2 3 (gSeq (gAsg 2 (gIf (gBool (gOp dLt (gVar 1) (gCall dLen (PD.gCons (gVar 0) (gP []))))) (gOp dIx (gVar 0) (gVar 1)) (gP (.int 0))))
    (gSeq (gRet (gFrz (gLst (PD.gCons (gOp dMul3 (gCall dAbs (PD.gCons (gVar 2) (gP []))) (gCall dToInt (PD.gCons (gOp (dCmp fun i j => decide (j ≤ i)) (gCall dAbs (PD.gCons (gVar 2) (gP []))) (gOp (dInt bPow fun i j => i ^ j.toNat) (gP (.int 10)) (gP (.int 18)))) (gP [])))) (PD.gCons (gOp dAdd (gOp dAdd (gOp (dInt bMod Int.fmod) (gCall dToInt (PD.gCons (gVar 2) (gP []))) (gP (.int 2305843009213693951))) (gOp dMul3 (gP (.int 39373)) (gVar 1))) (gP (.int 3185017))) (PD.gCons (gP (.int 0)) (gP [])))))))
    gSkip))
abbrev s_NoPlace : Stmt := clsDef (topS 6) 0
structure Tx (K : PySem.W.Frag) (mg : Str → Option Value) : Prop where
  b_abs : mg "abs" = none
  b_all : mg "all" = none
  b_bool : mg "bool" = none
  b_enumerate : mg "enumerate" = none
  b_int : mg "int" = none
  b_isinstance : mg "isinstance" = none
  b_len : mg "len" = none
  b_list : mg "list" = none
  b_max : mg "max" = none
  b_range : mg "range" = none
  b_str : mg "str" = none
  b_tuple : mg "tuple" = none
  b_zip : mg "zip" = none
  f_check_place : ∃ fd, Fun K "check_place" "check_place" s_check_place (He.ga K "check_place") fd ∧ mg "check_place" = some (.ref (He.ga K "check_place"))
  f_next_place : ∃ fd, Fun K "next_place" "next_place" s_next_place (He.ga K "next_place") fd ∧ mg "next_place" = some (.ref (He.ga K "next_place"))
  f_last_place : ∃ fd, Fun K "last_place" "last_place" s_last_place (He.ga K "last_place") fd ∧ mg "last_place" = some (.ref (He.ga K "last_place"))
  f_found : ∃ fd, Fun K "found" "found" s_found (He.ga K "found") fd ∧ mg "found" = some (.ref (He.ga K "found"))
  f_row_named : ∃ fd, Fun K "row_named" "row_named" s_row_named (He.ga K "row_named") fd ∧ mg "row_named" = some (.ref (He.ga K "row_named"))
  f_named : ∃ fd, Fun K "named" "named" s_named (He.ga K "named") fd ∧ mg "named" = some (.ref (He.ga K "named"))
  f_stands_at : ∃ fd, Fun K "stands_at" "stands_at" s_stands_at (He.ga K "stands_at") fd ∧ mg "stands_at" = some (.ref (He.ga K "stands_at"))
  f_other_side : ∃ fd, Fun K "other_side" "other_side" s_other_side (He.ga K "other_side") fd ∧ mg "other_side" = some (.ref (He.ga K "other_side"))
  f_turned : ∃ fd, Fun K "turned" "turned" s_turned (He.ga K "turned") fd ∧ mg "turned" = some (.ref (He.ga K "turned"))
  f__law_same : ∃ fd, Fun K "_law_same" "_law_same" s__law_same (He.ga K "_law_same") fd ∧ mg "_law_same" = some (.ref (He.ga K "_law_same"))
  f__law_by_hand_right : ∃ fd, Fun K "_law_by_hand_right" "_law_by_hand_right" s__law_by_hand_right (He.ga K "_law_by_hand_right") fd ∧ mg "_law_by_hand_right" = some (.ref (He.ga K "_law_by_hand_right"))
  f_is_number : ∃ fd, Fun K "is_number" "is_number" s_is_number (He.ga K "is_number") fd ∧ mg "is_number" = some (.ref (He.ga K "is_number"))
  f_is_number_in : ∃ fd, Fun K "is_number_in" "is_number_in" s_is_number_in (He.ga K "is_number_in") fd ∧ mg "is_number_in" = some (.ref (He.ga K "is_number_in"))
  f_is_row_in : ∃ fd, Fun K "is_row_in" "is_row_in" s_is_row_in (He.ga K "is_row_in") fd ∧ mg "is_row_in" = some (.ref (He.ga K "is_row_in"))
  f_is_set_in : ∃ fd, Fun K "is_set_in" "is_set_in" s_is_set_in (He.ga K "is_set_in") fd ∧ mg "is_set_in" = some (.ref (He.ga K "is_set_in"))
  f_is_letters : ∃ fd, Fun K "is_letters" "is_letters" s_is_letters (He.ga K "is_letters") fd ∧ mg "is_letters" = some (.ref (He.ga K "is_letters"))
  f_is_side : ∃ fd, Fun K "is_side" "is_side" s_is_side (He.ga K "is_side") fd ∧ mg "is_side" = some (.ref (He.ga K "is_side"))
  f_is_ask : ∃ fd, Fun K "is_ask" "is_ask" s_is_ask (He.ga K "is_ask") fd ∧ mg "is_ask" = some (.ref (He.ga K "is_ask"))
  f_is_named_pair : ∃ fd, Fun K "is_named_pair" "is_named_pair" s_is_named_pair (He.ga K "is_named_pair") fd ∧ mg "is_named_pair" = some (.ref (He.ga K "is_named_pair"))
  f_is_naming : ∃ fd, Fun K "is_naming" "is_naming" s_is_naming (He.ga K "is_naming") fd ∧ mg "is_naming" = some (.ref (He.ga K "is_naming"))
  f__law_take : ∃ fd, Fun K "_law_take" "_law_take" s__law_take (He.ga K "_law_take") fd ∧ mg "_law_take" = some (.ref (He.ga K "_law_take"))
  f__law_lists : ∃ fd, Fun K "_law_lists" "_law_lists" s__law_lists (He.ga K "_law_lists") fd ∧ mg "_law_lists" = some (.ref (He.ga K "_law_lists"))
  f__law_of : ∃ fd, Fun K "_law_of" "_law_of" s__law_of (He.ga K "_law_of") fd ∧ mg "_law_of" = some (.ref (He.ga K "_law_of"))
  f__law_text : ∃ fd, Fun K "_law_text" "_law_text" s__law_text (He.ga K "_law_text") fd ∧ mg "_law_text" = some (.ref (He.ga K "_law_text"))
  f__law_letters : ∃ fd, Fun K "_law_letters" "_law_letters" s__law_letters (He.ga K "_law_letters") fd ∧ mg "_law_letters" = some (.ref (He.ga K "_law_letters"))
  f__law_next : ∃ fd, Fun K "_law_next" "_law_next" s__law_next (He.ga K "_law_next") fd ∧ mg "_law_next" = some (.ref (He.ga K "_law_next"))
  f__law_last : ∃ fd, Fun K "_law_last" "_law_last" s__law_last (He.ga K "_law_last") fd ∧ mg "_law_last" = some (.ref (He.ga K "_law_last"))
  f__law_found : ∃ fd, Fun K "_law_found" "_law_found" s__law_found (He.ga K "_law_found") fd ∧ mg "_law_found" = some (.ref (He.ga K "_law_found"))
  f__law_row : ∃ fd, Fun K "_law_row" "_law_row" s__law_row (He.ga K "_law_row") fd ∧ mg "_law_row" = some (.ref (He.ga K "_law_row"))
  f__law_right : ∃ fd, Fun K "_law_right" "_law_right" s__law_right (He.ga K "_law_right") fd ∧ mg "_law_right" = some (.ref (He.ga K "_law_right"))
  f__law_box : ∃ fd, Fun K "_law_box" "_law_box" s__law_box (He.ga K "_law_box") fd ∧ mg "_law_box" = some (.ref (He.ga K "_law_box"))
  k_NoPlace : ClsF K "NoPlace" "place" "LookupError" "LookupError.__new__" [.type "LookupError", .type "Exception", .type "BaseException", .type "object"] []
  g_NoPlace : mg "NoPlace" = some (.ref (He.ga K "NoPlace"))
  i_NoPlace : ∃ fd, Fun K "__init__" "NoPlace.__init__" s_NoPlace (He.ma K (He.ga K "NoPlace") "__init__") fd
section
variable {P : Program} {w : World} {K : PySem.W.Frag} {mg : Str → Option Value} {base : Heap}
theorem c_NoPlace (T : Tx K mg) : Ec P w K mg base "NoPlace" "place" "LookupError" "LookupError.__new__" [.type "LookupError", .type "Exception", .type "BaseException", .type "object"] (He.ga K "NoPlace") := by
  obtain ⟨fd, Fn⟩ := T.i_NoPlace
  have k := T.k_NoPlace
  exact ⟨T.g_NoPlace, k.xk, k.xf, k.te, k.no, k.is, _, fd, _, k.ii, k.it, ok_ini F.store_LookupError k.xk k.ht Fn (⟨rfl, rfl, rfl, by decide +kernel, rfl, by decide +kernel, by decide +kernel⟩ : FnScope ["self", "place"] ["self", "place"] (defScope s_NoPlace)) rfl
    (fun X hN hS => pv 0 (by rw [hN]; rfl) (by rw [hS]; exact .inl rfl)) (fun X hN hS => pv 1 (by rw [hN]; rfl) (by rw [hS]; exact .inl rfl)) (fun X hS => by rfl), Fn.binds fun _ _ _ _ _ _ us hl => match us, hl with | [_, _], _ => rfl⟩
theorem df_check_place (T : Tx K mg) : Df P w K mg base 3 "check_place" s_check_place ["text", "place"] F_check_place := by
  obtain ⟨fd, Fn, hm⟩ := T.f_check_place
  exact df_mk Fn hm (Fn.binds fun _ _ _ _ _ _ us hl => match us, hl with | [_, _], _ => rfl) sc_check_place (by decide) fun cdv A outer s H E hr =>
    (pdss_cons (pds_if (pdw_or (pdt_cmp (cr_lt hr) (pd_var (pv 1)) pd_int) (pdw_or1 (pdt_cmp cd_gt (pd_var (pv 1)) (pd_add (pd_len T.b_len (pda_cons (pd_var (pv 0)) pda_nil)) pd_int)))).t (pdss_cons (pds_raiseE F.excBase_LookupError (c_NoPlace T) hr rfl (takes_of rfl rfl rfl rfl) (by rfl) (pd_var (pv 1)))
    pdss_nil) pdss_nil)
    pdss_nil)
theorem df_next_place (T : Tx K mg) : Df P w K mg base 4 "next_place" s_next_place ["text", "place", "letters"] F_next_place := by
  obtain ⟨fd, Fn, hm⟩ := T.f_next_place
  have D_check_place := df_check_place (P := P) (w := w) (base := base) T
  exact df_mk Fn hm (Fn.binds fun _ _ _ _ _ _ us hl => match us, hl with | [_, _, _], _ => rfl) sc_next_place (by decide) fun cdv A outer s H E hr =>
    (pdss_cons (pds_expr (pd_callD D_check_place (hr.mono (by decide)) (by rfl) (takes_of rfl rfl rfl rfl) (pdr_val (pd_var (pv 0)) (pdr_val (pd_var (pv 1)) pdr_nil))))
    (pdss_cons (pds_for (passes_of rfl) rfl (pdi_range2 (by rfl) T.b_range (pda_cons (pd_add (pd_var (pv 1)) pd_int) (pda_cons (pd_add (pd_len T.b_len (pda_cons (pd_var (pv 0)) pda_nil)) pd_int) pda_nil))) (pg_name (i := 3) sc_next_place.nd rfl (by first | exact .inl rfl | exact .inr rfl)) (pdss_cons (pds_if (pdt_cmp (cd_in (by rfl)) (pd_at (pd_var (pv 0)) (pd_sub (pd_var (pv 3)) pd_int) (fun _ _ => rfl)) (pd_var (pv 2))) (pdss_cons (pds_ret (pd_var (pv 3)))
    pdss_nil) pdss_nil)
    pdss_nil))
    (pdss_cons (pds_ret (pd_add (pd_len T.b_len (pda_cons (pd_var (pv 0)) pda_nil)) pd_int))
    pdss_nil)))
theorem df_last_place (T : Tx K mg) : Df P w K mg base 4 "last_place" s_last_place ["text", "place", "letters"] F_last_place := by
  obtain ⟨fd, Fn, hm⟩ := T.f_last_place
  have D_check_place := df_check_place (P := P) (w := w) (base := base) T
  exact df_mk Fn hm (Fn.binds fun _ _ _ _ _ _ us hl => match us, hl with | [_, _, _], _ => rfl) sc_last_place (by decide) fun cdv A outer s H E hr =>
    (pdss_cons (pds_expr (pd_callD D_check_place (hr.mono (by decide)) (by rfl) (takes_of rfl rfl rfl rfl) (pdr_val (pd_var (pv 0)) (pdr_val (pd_var (pv 1)) pdr_nil))))
    (pdss_cons (pds_for (passes_of rfl) rfl (pdi_range3 (by rfl) T.b_range (pda_cons (pd_sub (pd_var (pv 1)) pd_int) (pda_cons pd_int (pda_cons (pd_neg pd_int) pda_nil)))) (pg_name (i := 3) sc_last_place.nd rfl (by first | exact .inl rfl | exact .inr rfl)) (pdss_cons (pds_if (pdt_cmp (cd_in (by rfl)) (pd_at (pd_var (pv 0)) (pd_sub (pd_var (pv 3)) pd_int) (fun _ _ => rfl)) (pd_var (pv 2))) (pdss_cons (pds_ret (pd_var (pv 3)))
    pdss_nil) pdss_nil)
    pdss_nil))
    (pdss_cons (pds_ret pd_int)
    pdss_nil)))
theorem df_found (T : Tx K mg) : Df P w K mg base 5 "found" s_found ["text", "place", "side", "letters"] F_found := by
  obtain ⟨fd, Fn, hm⟩ := T.f_found
  have D_last_place := df_last_place (P := P) (w := w) (base := base) T
  have D_next_place := df_next_place (P := P) (w := w) (base := base) T
  exact df_mk Fn hm (Fn.binds fun _ _ _ _ _ _ us hl => match us, hl with | [_, _, _, _], _ => rfl) sc_found (by decide) fun cdv A outer s H E hr =>
    (pdss_cons (pds_if (pdt_cmp (cr_eq hr) (pd_var (pv 2)) pd_str) (pdss_cons (pds_ret (pd_callD D_next_place (hr.mono (by decide)) (by rfl) (takes_of rfl rfl rfl rfl) (pdr_val (pd_var (pv 0)) (pdr_val (pd_var (pv 1)) (pdr_val (pd_var (pv 3)) pdr_nil)))))
    pdss_nil) pdss_nil)
    (pdss_cons (pds_ret (pd_callD D_last_place (hr.mono (by decide)) (by rfl) (takes_of rfl rfl rfl rfl) (pdr_val (pd_var (pv 0)) (pdr_val (pd_var (pv 1)) (pdr_val (pd_var (pv 3)) pdr_nil)))))
    pdss_nil))
theorem df_row_named (T : Tx K mg) : Df P w K mg base 6 "row_named" s_row_named ["text", "naming"] F_row_named := by
  obtain ⟨fd, Fn, hm⟩ := T.f_row_named
  have D_found := df_found (P := P) (w := w) (base := base) T
  exact df_mk Fn hm (Fn.binds fun _ _ _ _ _ _ us hl => match us, hl with | [_, _], _ => rfl) sc_row_named (by decide) fun cdv A outer s H E hr =>
    (pdss_cons (pds_asg (pd_ifExp (pdt_cmp (cr_eq hr) (pd_at (pd_at (pd_var (pv 1)) pd_int (fun _ _ => rfl)) pd_int (fun _ _ => rfl)) pd_str) pd_int (pd_add (pd_len T.b_len (pda_cons (pd_var (pv 0)) pda_nil)) pd_int)) (pg_name (i := 2) sc_row_named.nd rfl (by first | exact .inl rfl | exact .inr rfl)))
    (pdss_cons (pds_asgF (pdf_lst (k := 0) pda_nil) (pg_name (i := 3) sc_row_named.nd rfl (by first | exact .inl rfl | exact .inr rfl)))
    (pdss_cons (pds_for (passes_of rfl) rfl (pdi_seq (pd_var (pv 1))) (pg_tl rfl (pgs_cons (pg_name (i := 4) sc_row_named.nd rfl (by first | exact .inl rfl | exact .inr rfl)) (pgs_cons (pg_name (i := 5) sc_row_named.nd rfl (by first | exact .inl rfl | exact .inr rfl)) pgs_nil))) (pdss_cons (pds_asg (pd_callD D_found (hr.mono (by decide)) (by rfl) (takes_of rfl rfl rfl rfl) (pdr_val (pd_var (pv 0)) (pdr_val (pd_var (pv 2)) (pdr_val (pd_var (pv 4)) (pdr_val (pd_var (pv 5)) pdr_nil))))) (pg_name (i := 2) sc_row_named.nd rfl (by first | exact .inl rfl | exact .inr rfl)))
    (pdss_cons (pds_app (pd_var (pv 2)) (fun h => ps_expr (pe_bm PySem.F.plainAttrs_list PySem.F.slot_list_append PySem.F.type_list_append mt_append (pv 3) (pa_cons h pa_nil))))
    pdss_nil)))
    (pdss_cons (pds_ret (pd_tuple T.b_tuple (pda_cons (pd_var (pv 3)) pda_nil)))
    pdss_nil))))
theorem df_named (T : Tx K mg) : Df P w K mg base 7 "named" s_named ["text", "naming"] F_named := by
  obtain ⟨fd, Fn, hm⟩ := T.f_named
  have D_row_named := df_row_named (P := P) (w := w) (base := base) T
  exact df_mk Fn hm (Fn.binds fun _ _ _ _ _ _ us hl => match us, hl with | [_, _], _ => rfl) sc_named (by decide) fun cdv A outer s H E hr =>
    (pdss_cons (pds_ret (pd_at (pd_callD D_row_named (hr.mono (by decide)) (by rfl) (takes_of rfl rfl rfl rfl) (pdr_val (pd_var (pv 0)) (pdr_val (pd_var (pv 1)) pdr_nil))) (pd_neg pd_int) (fun _ _ => rfl)))
    pdss_nil)
theorem df_stands_at (T : Tx K mg) : Df P w K mg base 4 "stands_at" s_stands_at ["text", "place"] F_stands_at := by
  obtain ⟨fd, Fn, hm⟩ := T.f_stands_at
  have D_check_place := df_check_place (P := P) (w := w) (base := base) T
  exact df_mk Fn hm (Fn.binds fun _ _ _ _ _ _ us hl => match us, hl with | [_, _], _ => rfl) sc_stands_at (by decide) fun cdv A outer s H E hr =>
    (pdss_cons (pds_expr (pd_callD D_check_place (hr.mono (by decide)) (by rfl) (takes_of rfl rfl rfl rfl) (pdr_val (pd_var (pv 0)) (pdr_val (pd_var (pv 1)) pdr_nil))))
    (pdss_cons (pds_if (pdt_cmp (cr_eq hr) (pd_var (pv 1)) pd_int) (pdss_cons (pds_ret pd_str)
    pdss_nil) pdss_nil)
    (pdss_cons (pds_if (pdt_cmp (cr_eq hr) (pd_var (pv 1)) (pd_add (pd_len T.b_len (pda_cons (pd_var (pv 0)) pda_nil)) pd_int)) (pdss_cons (pds_ret pd_str)
    pdss_nil) pdss_nil)
    (pdss_cons (pds_ret (pd_at (pd_var (pv 0)) (pd_sub (pd_var (pv 1)) pd_int) (fun _ _ => rfl)))
    pdss_nil))))
theorem df_other_side (T : Tx K mg) : Df P w K mg base 2 "other_side" s_other_side ["side"] F_other_side := by
  obtain ⟨fd, Fn, hm⟩ := T.f_other_side
  exact df_mk Fn hm (Fn.binds fun _ _ _ _ _ _ us hl => match us, hl with | [_], _ => rfl) sc_other_side (by decide) fun cdv A outer s H E hr =>
    (pdss_cons (pds_ret (pd_ifExp (pdt_cmp (cr_eq hr) (pd_var (pv 0)) pd_str) pd_str pd_str))
    pdss_nil)
theorem df_turned (T : Tx K mg) : Df P w K mg base 3 "turned" s_turned ["naming"] F_turned := by
  obtain ⟨fd, Fn, hm⟩ := T.f_turned
  have D_other_side := df_other_side (P := P) (w := w) (base := base) T
  exact df_mk Fn hm (Fn.binds fun _ _ _ _ _ _ us hl => match us, hl with | [_], _ => rfl) sc_turned (by decide) fun cdv A outer s H E hr =>
    (pdss_cons (pds_ret (pd_tuple T.b_tuple (pda_cons (pdf_lc (own := [("side", 1), ("letters", 2)]) rfl sc_turned.nd (pdi_seq (pd_var (pv 0))) (blk_mk (N := n_turned) (sc := defScope s_turned) rfl (by decide +kernel)) (fun _ _ _ _ _ => (pg_tl rfl (pgs_cons (pg_name (i := 1) sc_turned.nd rfl (by first | exact .inl rfl | exact .inr rfl)) (pgs_cons (pg_name (i := 2) sc_turned.nd rfl (by first | exact .inl rfl | exact .inr rfl)) pgs_nil)))) (fun _ _ _ _ _ => pdts_nil) (fun _ _ _ _ _ => (pd_tup (pda_cons (pd_callD D_other_side (hr.mono (by decide)) (by rfl) takes0 (pdr_val (pd_var (pv 1)) pdr_nil)) (pda_cons (pd_tuple T.b_tuple (pda_cons (pd_var (pv 2)) pda_nil)) pda_nil)))) (by decide)).pd pda_nil)))
    pdss_nil)
theorem df__law_same (T : Tx K mg) : ∀ n, Df P w K mg base (n + 2) "_law_same" s__law_same ["got", "goal"] (F__law_same n) := by
  obtain ⟨fd, Fn, hm⟩ := T.f__law_same
  intro n
  induction n with
  | zero => exact df_no Fn hm (Fn.binds fun _ _ _ _ _ _ us hl => match us, hl with | [_, _], _ => rfl)
  | succ n D =>
  exact df_mk Fn hm (Fn.binds fun _ _ _ _ _ _ us hl => match us, hl with | [_, _], _ => rfl) sc__law_same (by decide) fun cdv A outer s H E hr =>
    (pdss_cons (pds_if (pdt_val (pd_isi2 (by rfl) T.b_isinstance rfl (by rfl) T.b_list rfl (by rfl) T.b_tuple rfl (pd_var (pv 1)))) (pdss_cons (pds_if (pdw_or (pdt_cmp (cr_ne hr) (pd_isi (by rfl) T.b_isinstance rfl (by rfl) T.b_list rfl (pd_var (pv 0))) (pd_isi (by rfl) T.b_isinstance rfl (by rfl) T.b_list rfl (pd_var (pv 1)))) (pdw_or1 (pdt_cmp (cr_ne hr) (pd_isi (by rfl) T.b_isinstance rfl (by rfl) T.b_tuple rfl (pd_var (pv 0))) (pd_isi (by rfl) T.b_isinstance rfl (by rfl) T.b_tuple rfl (pd_var (pv 1)))))).t (pdss_cons (pds_ret pd_bl)
    pdss_nil) pdss_nil)
    (pdss_cons (pds_ret (pd_and (pd_cmp (cr_eq hr) (pd_len T.b_len (pda_cons (pd_var (pv 0)) pda_nil)) (pd_len T.b_len (pda_cons (pd_var (pv 1)) pda_nil))) (pd_last (pd_all rfl T.b_all (pda_cons (pdf_lc (own := [("mine_so", 2), ("own", 3)]) rfl sc__law_same.nd (pdi_zip (by rfl) T.b_zip (pda_cons (pd_var (pv 0)) (pda_cons (pd_var (pv 1)) pda_nil))) (blk_mk (N := n__law_same) (sc := defScope s__law_same) rfl (by decide +kernel)) (fun _ _ _ _ _ => (pg_tl rfl (pgs_cons (pg_name (i := 2) sc__law_same.nd rfl (by first | exact .inl rfl | exact .inr rfl)) (pgs_cons (pg_name (i := 3) sc__law_same.nd rfl (by first | exact .inl rfl | exact .inr rfl)) pgs_nil)))) (fun _ _ _ _ _ => pdts_nil) (fun _ _ _ _ _ => (pd_callD D hr (by rfl) takes0 (pdr_val (pd_var (pv 2)) (pdr_val (pd_var (pv 3)) pdr_nil)))) (by decide)).pd pda_nil)))))
    pdss_nil)) pdss_nil)
    (pdss_cons (pds_if (pdw_or (pdt_cmp cd_is (pd_var (pv 1)) pd_non) (pdw_or1 (pdt_val (pd_isi2 (by rfl) T.b_isinstance rfl (by rfl) T.b_bool rfl (by rfl) T.b_str rfl (pd_var (pv 1)))))).t (pdss_cons (pds_ret (pd_and (pd_cmp (cr_eq hr) (pd_var (pv 0)) (pd_var (pv 1))) (pd_and (pd_cmp (cr_eq hr) (pd_isi (by rfl) T.b_isinstance rfl (by rfl) T.b_bool rfl (pd_var (pv 0))) (pd_isi (by rfl) T.b_isinstance rfl (by rfl) T.b_bool rfl (pd_var (pv 1)))) (pd_last (pd_cmp (cr_eq hr) (pd_cmp cd_is (pd_var (pv 0)) pd_non) (pd_cmp cd_is (pd_var (pv 1)) pd_non))))))
    pdss_nil) pdss_nil)
    (pdss_cons (pds_ret (pd_and (pd_isi (by rfl) T.b_isinstance rfl (by rfl) T.b_int rfl (pd_var (pv 0))) (pd_and (pd_not (pd_isi (by rfl) T.b_isinstance rfl (by rfl) T.b_bool rfl (pd_var (pv 0)))) (pd_last (pd_cmp (cr_eq hr) (pd_var (pv 0)) (pd_var (pv 1)))))))
    pdss_nil)))
theorem df__law_by_hand_right (T : Tx K mg) : Df P w K mg base 15 "_law_by_hand_right" s__law_by_hand_right [] F__law_by_hand_right := by
  obtain ⟨fd, Fn, hm⟩ := T.f__law_by_hand_right
  have D__law_same := df__law_same (P := P) (w := w) (base := base) T 12
  have D_found := df_found (P := P) (w := w) (base := base) T
  have D_named := df_named (P := P) (w := w) (base := base) T
  have D_row_named := df_row_named (P := P) (w := w) (base := base) T
  have D_stands_at := df_stands_at (P := P) (w := w) (base := base) T
  have D_turned := df_turned (P := P) (w := w) (base := base) T
  exact df_mk Fn hm (Fn.binds fun _ _ _ _ _ _ us hl => match us, hl with | [], _ => rfl) sc__law_by_hand_right (by decide) fun cdv A outer s H E hr =>
    (pdss_cons (pds_asgT (pd_tup (pda_cons (pd_tup (pda_cons pd_int (pda_cons pd_int (pda_cons pd_int (pda_cons pd_int pda_nil))))) (pda_cons (pd_tup (pda_cons (pd_tup (pda_cons pd_str (pda_cons (pd_tup (pda_cons pd_int pda_nil)) pda_nil))) (pda_cons (pd_tup (pda_cons pd_str (pda_cons (pd_tup (pda_cons pd_int (pda_cons pd_int pda_nil))) pda_nil))) (pda_cons (pd_tup (pda_cons pd_str (pda_cons (pd_tup (pda_cons pd_int pda_nil)) pda_nil))) pda_nil)))) pda_nil))) (pg_tl rfl (pgs_cons (pg_name (i := 0) sc__law_by_hand_right.nd rfl (by first | exact .inl rfl | exact .inr rfl)) (pgs_cons (pg_name (i := 1) sc__law_by_hand_right.nd rfl (by first | exact .inl rfl | exact .inr rfl)) pgs_nil))))
    (pdss_cons (pds_asg (pdf_lst (k := 0) (pda_cons (pd_callD D_row_named (hr.mono (by decide)) (by rfl) (takes_of rfl rfl rfl rfl) (pdr_val (pd_var (pv 0)) (pdr_val (pd_var (pv 1)) pdr_nil))) (pda_cons (pd_callD D_named (hr.mono (by decide)) (by rfl) (takes_of rfl rfl rfl rfl) (pdr_val (pd_var (pv 0)) (pdr_val (pd_var (pv 1)) pdr_nil))) (pda_cons (pd_callD D_row_named (hr.mono (by decide)) (by rfl) (takes_of rfl rfl rfl rfl) (pdr_val (pd_tup pda_nil) (pdr_val (pd_var (pv 1)) pdr_nil))) (pda_cons (pd_callD D_row_named (hr.mono (by decide)) (by rfl) (takes_of rfl rfl rfl rfl) (pdr_val (pd_rev (pd_var (pv 0))) (pdr_val (pd_callD D_turned (hr.mono (by decide)) (by rfl) (takes_of rfl rfl rfl rfl) (pdr_val (pd_var (pv 1)) pdr_nil)) pdr_nil))) (pda_cons (pd_callD D_found (hr.mono (by decide)) (by rfl) (takes_of rfl rfl rfl rfl) (pdr_val (pd_var (pv 0)) (pdr_val pd_int (pdr_val pd_str (pdr_val (pd_tup (pda_cons pd_int pda_nil)) pdr_nil))))) (pda_cons (pd_callD D_found (hr.mono (by decide)) (by rfl) (takes_of rfl rfl rfl rfl) (pdr_val (pd_var (pv 0)) (pdr_val pd_int (pdr_val pd_str (pdr_val (pd_tup (pda_cons pd_int (pda_cons pd_int pda_nil))) pdr_nil))))) (pda_cons (pd_callD D_found (hr.mono (by decide)) (by rfl) (takes_of rfl rfl rfl rfl) (pdr_val (pd_var (pv 0)) (pdr_val pd_int (pdr_val pd_str (pdr_val (pd_tup (pda_cons pd_int pda_nil)) pdr_nil))))) (pda_cons (pd_callD D_found (hr.mono (by decide)) (by rfl) (takes_of rfl rfl rfl rfl) (pdr_val (pd_var (pv 0)) (pdr_val pd_int (pdr_val pd_str (pdr_val (pd_tup (pda_cons pd_int pda_nil)) pdr_nil))))) (pda_cons (pd_callD D_stands_at (hr.mono (by decide)) (by rfl) (takes_of rfl rfl rfl rfl) (pdr_val (pd_var (pv 0)) (pdr_val pd_int pdr_nil))) (pda_cons (pd_callD D_stands_at (hr.mono (by decide)) (by rfl) (takes_of rfl rfl rfl rfl) (pdr_val (pd_var (pv 0)) (pdr_val pd_int pdr_nil))) pda_nil))))))))))).pd (pg_name (i := 2) sc__law_by_hand_right.nd rfl (by first | exact .inl rfl | exact .inr rfl)))
    (pdss_cons (pds_ret (pd_callD D__law_same (hr.mono (by decide)) (by rfl) (takes_of rfl rfl rfl rfl) (pdr_val (pd_var (pv 2)) (pdr_val (pdf_lst (k := 0) (pda_cons (pd_tup (pda_cons pd_int (pda_cons pd_int (pda_cons pd_int pda_nil)))) (pda_cons pd_int (pda_cons (pd_tup (pda_cons pd_int (pda_cons pd_int (pda_cons pd_int pda_nil)))) (pda_cons (pd_tup (pda_cons pd_int (pda_cons pd_int (pda_cons pd_int pda_nil)))) (pda_cons pd_int (pda_cons pd_int (pda_cons pd_int (pda_cons pd_int (pda_cons pd_int (pda_cons pd_str pda_nil))))))))))).pd pdr_nil))))
    pdss_nil)))
theorem df_is_number (T : Tx K mg) : Df P w K mg base 2 "is_number" s_is_number ["thing"] F_is_number := by
  obtain ⟨fd, Fn, hm⟩ := T.f_is_number
  exact df_mk Fn hm (Fn.binds fun _ _ _ _ _ _ us hl => match us, hl with | [_], _ => rfl) sc_is_number (by decide) fun cdv A outer s H E hr =>
    (pdss_cons (pds_ret (pd_and (pd_isi (by rfl) T.b_isinstance rfl (by rfl) T.b_int rfl (pd_var (pv 0))) (pd_last (pd_not (pd_isi (by rfl) T.b_isinstance rfl (by rfl) T.b_bool rfl (pd_var (pv 0)))))))
    pdss_nil)
theorem df_is_number_in (T : Tx K mg) : Df P w K mg base 3 "is_number_in" s_is_number_in ["thing", "low", "high"] F_is_number_in := by
  obtain ⟨fd, Fn, hm⟩ := T.f_is_number_in
  have D_is_number := df_is_number (P := P) (w := w) (base := base) T
  exact df_mk Fn hm (Fn.binds fun _ _ _ _ _ _ us hl => match us, hl with | [_, _, _], _ => rfl) sc_is_number_in (by decide) fun cdv A outer s H E hr =>
    (pdss_cons (pds_ret (pd_and (pd_callD D_is_number (hr.mono (by decide)) (by rfl) (takes_of rfl rfl rfl rfl) (pdr_val (pd_var (pv 0)) pdr_nil)) (pd_and (pd_cmp cd_le (pd_var (pv 1)) (pd_var (pv 0))) (pd_last (pd_cmp cd_le (pd_var (pv 0)) (pd_var (pv 2)))))))
    pdss_nil)
theorem df_is_row_in (T : Tx K mg) : Df P w K mg base 4 "is_row_in" s_is_row_in ["thing", "low", "high"] F_is_row_in := by
  obtain ⟨fd, Fn, hm⟩ := T.f_is_row_in
  have D_is_number_in := df_is_number_in (P := P) (w := w) (base := base) T
  exact df_mk Fn hm (Fn.binds fun _ _ _ _ _ _ us hl => match us, hl with | [_, _, _], _ => rfl) sc_is_row_in (by decide) fun cdv A outer s H E hr =>
    (pdss_cons (pds_ret (pd_and (pd_isi (by rfl) T.b_isinstance rfl (by rfl) T.b_tuple rfl (pd_var (pv 0))) (pd_last (pd_all rfl T.b_all (pda_cons (pdf_lc (own := [("own", 3)]) rfl sc_is_row_in.nd (pdi_seq (pd_var (pv 0))) (blk_mk (N := n_is_row_in) (sc := defScope s_is_row_in) rfl (by decide +kernel)) (fun _ _ _ _ _ => (pg_name (i := 3) sc_is_row_in.nd rfl (by first | exact .inl rfl | exact .inr rfl))) (fun _ _ _ _ _ => pdts_nil) (fun _ _ _ _ _ => (pd_callD D_is_number_in (hr.mono (by decide)) (by rfl) takes0 (pdr_val (pd_var (pv 3)) (pdr_val (pd_var (pv 1)) (pdr_val (pd_var (pv 2)) pdr_nil))))) (by decide)).pd pda_nil)))))
    pdss_nil)
theorem df_is_set_in (T : Tx K mg) : Df P w K mg base 5 "is_set_in" s_is_set_in ["thing", "low", "high"] F_is_set_in := by
  obtain ⟨fd, Fn, hm⟩ := T.f_is_set_in
  have D_is_row_in := df_is_row_in (P := P) (w := w) (base := base) T
  exact df_mk Fn hm (Fn.binds fun _ _ _ _ _ _ us hl => match us, hl with | [_, _, _], _ => rfl) sc_is_set_in (by decide) fun cdv A outer s H E hr =>
    (pdss_cons (pds_ret (pd_and (pd_callD D_is_row_in (hr.mono (by decide)) (by rfl) (takes_of rfl rfl rfl rfl) (pdr_val (pd_var (pv 0)) (pdr_val (pd_var (pv 1)) (pdr_val (pd_var (pv 2)) pdr_nil)))) (pd_last (pd_all rfl T.b_all (pda_cons (pdf_lc (own := [("one", 3), ("other", 4)]) rfl sc_is_set_in.nd (pdi_zip (by rfl) T.b_zip (pda_cons (pd_var (pv 0)) (pda_cons (pd_slice (pd_var (pv 0)) (pdo_some pd_int) pdo_none) pda_nil))) (blk_mk (N := n_is_set_in) (sc := defScope s_is_set_in) rfl (by decide +kernel)) (fun _ _ _ _ _ => (pg_tl rfl (pgs_cons (pg_name (i := 3) sc_is_set_in.nd rfl (by first | exact .inl rfl | exact .inr rfl)) (pgs_cons (pg_name (i := 4) sc_is_set_in.nd rfl (by first | exact .inl rfl | exact .inr rfl)) pgs_nil)))) (fun _ _ _ _ _ => pdts_nil) (fun _ _ _ _ _ => (pd_cmp (cr_lt hr) (pd_var (pv 3)) (pd_var (pv 4)))) (by decide)).pd pda_nil)))))
    pdss_nil)
theorem df_is_letters (T : Tx K mg) : Df P w K mg base 6 "is_letters" s_is_letters ["wide", "thing"] F_is_letters := by
  obtain ⟨fd, Fn, hm⟩ := T.f_is_letters
  have D_is_set_in := df_is_set_in (P := P) (w := w) (base := base) T
  exact df_mk Fn hm (Fn.binds fun _ _ _ _ _ _ us hl => match us, hl with | [_, _], _ => rfl) sc_is_letters (by decide) fun cdv A outer s H E hr =>
    (pdss_cons (pds_ret (pd_and (pd_callD D_is_set_in (hr.mono (by decide)) (by rfl) (takes_of rfl rfl rfl rfl) (pdr_val (pd_var (pv 1)) (pdr_val pd_int (pdr_val (pd_var (pv 0)) pdr_nil)))) (pd_last (pd_cmp cd_gt (pd_len T.b_len (pda_cons (pd_var (pv 1)) pda_nil)) pd_int))))
    pdss_nil)
theorem df_is_side (T : Tx K mg) : Df P w K mg base 2 "is_side" s_is_side ["thing"] F_is_side := by
  obtain ⟨fd, Fn, hm⟩ := T.f_is_side
  exact df_mk Fn hm (Fn.binds fun _ _ _ _ _ _ us hl => match us, hl with | [_], _ => rfl) sc_is_side (by decide) fun cdv A outer s H E hr =>
    (pdss_cons (pds_ret (pd_or (pd_cmp (cr_eq hr) (pd_var (pv 0)) pd_str) (pd_last (pd_cmp (cr_eq hr) (pd_var (pv 0)) pd_str))))
    pdss_nil)
theorem df_is_ask (T : Tx K mg) : Df P w K mg base 7 "is_ask" s_is_ask ["wide", "thing"] F_is_ask := by
  obtain ⟨fd, Fn, hm⟩ := T.f_is_ask
  have D_is_letters := df_is_letters (P := P) (w := w) (base := base) T
  have D_is_number := df_is_number (P := P) (w := w) (base := base) T
  have D_is_side := df_is_side (P := P) (w := w) (base := base) T
  exact df_mk Fn hm (Fn.binds fun _ _ _ _ _ _ us hl => match us, hl with | [_, _], _ => rfl) sc_is_ask (by decide) fun cdv A outer s H E hr =>
    (pdss_cons (pds_if (pdw_or (pdt_not (pdt_val (pd_isi (by rfl) T.b_isinstance rfl (by rfl) T.b_tuple rfl (pd_var (pv 1))))) (pdw_or1 (pdt_cmp (cr_ne hr) (pd_len T.b_len (pda_cons (pd_var (pv 1)) pda_nil)) pd_int))).t (pdss_cons (pds_ret pd_bl)
    pdss_nil) pdss_nil)
    (pdss_cons (pds_asgT (pd_var (pv 1)) (pg_tl rfl (pgs_cons (pg_name (i := 2) sc_is_ask.nd rfl (by first | exact .inl rfl | exact .inr rfl)) (pgs_cons (pg_name (i := 3) sc_is_ask.nd rfl (by first | exact .inl rfl | exact .inr rfl)) (pgs_cons (pg_name (i := 4) sc_is_ask.nd rfl (by first | exact .inl rfl | exact .inr rfl)) pgs_nil)))))
    (pdss_cons (pds_ret (pd_and (pd_callD D_is_number (hr.mono (by decide)) (by rfl) (takes_of rfl rfl rfl rfl) (pdr_val (pd_var (pv 2)) pdr_nil)) (pd_and (pd_cmp cd_ge (pd_var (pv 2)) pd_int) (pd_and (pd_callD D_is_side (hr.mono (by decide)) (by rfl) (takes_of rfl rfl rfl rfl) (pdr_val (pd_var (pv 3)) pdr_nil)) (pd_last (pd_callD D_is_letters (hr.mono (by decide)) (by rfl) (takes_of rfl rfl rfl rfl) (pdr_val (pd_var (pv 0)) (pdr_val (pd_var (pv 4)) pdr_nil))))))))
    pdss_nil)))
theorem df_is_named_pair (T : Tx K mg) : Df P w K mg base 7 "is_named_pair" s_is_named_pair ["wide", "thing"] F_is_named_pair := by
  obtain ⟨fd, Fn, hm⟩ := T.f_is_named_pair
  have D_is_letters := df_is_letters (P := P) (w := w) (base := base) T
  have D_is_side := df_is_side (P := P) (w := w) (base := base) T
  exact df_mk Fn hm (Fn.binds fun _ _ _ _ _ _ us hl => match us, hl with | [_, _], _ => rfl) sc_is_named_pair (by decide) fun cdv A outer s H E hr =>
    (pdss_cons (pds_ret (pd_and (pd_isi (by rfl) T.b_isinstance rfl (by rfl) T.b_tuple rfl (pd_var (pv 1))) (pd_and (pd_cmp (cr_eq hr) (pd_len T.b_len (pda_cons (pd_var (pv 1)) pda_nil)) pd_int) (pd_and (pd_callD D_is_side (hr.mono (by decide)) (by rfl) (takes_of rfl rfl rfl rfl) (pdr_val (pd_at (pd_var (pv 1)) pd_int (fun _ _ => rfl)) pdr_nil)) (pd_last (pd_callD D_is_letters (hr.mono (by decide)) (by rfl) (takes_of rfl rfl rfl rfl) (pdr_val (pd_var (pv 0)) (pdr_val (pd_at (pd_var (pv 1)) pd_int (fun _ _ => rfl)) pdr_nil))))))))
    pdss_nil)
theorem df_is_naming (T : Tx K mg) : Df P w K mg base 8 "is_naming" s_is_naming ["wide", "thing"] F_is_naming := by
  obtain ⟨fd, Fn, hm⟩ := T.f_is_naming
  have D_is_named_pair := df_is_named_pair (P := P) (w := w) (base := base) T
  exact df_mk Fn hm (Fn.binds fun _ _ _ _ _ _ us hl => match us, hl with | [_, _], _ => rfl) sc_is_naming (by decide) fun cdv A outer s H E hr =>
    (pdss_cons (pds_ret (pd_and (pd_isi (by rfl) T.b_isinstance rfl (by rfl) T.b_tuple rfl (pd_var (pv 1))) (pd_and (pd_cmp cd_gt (pd_len T.b_len (pda_cons (pd_var (pv 1)) pda_nil)) pd_int) (pd_last (pd_all rfl T.b_all (pda_cons (pdf_lc (own := [("own", 2)]) rfl sc_is_naming.nd (pdi_seq (pd_var (pv 1))) (blk_mk (N := n_is_naming) (sc := defScope s_is_naming) rfl (by decide +kernel)) (fun _ _ _ _ _ => (pg_name (i := 2) sc_is_naming.nd rfl (by first | exact .inl rfl | exact .inr rfl))) (fun _ _ _ _ _ => pdts_nil) (fun _ _ _ _ _ => (pd_callD D_is_named_pair (hr.mono (by decide)) (by rfl) takes0 (pdr_val (pd_var (pv 0)) (pdr_val (pd_var (pv 2)) pdr_nil)))) (by decide)).pd pda_nil))))))
    pdss_nil)
theorem df__law_take (T : Tx K mg) : Df P w K mg base 2 "_law_take" s__law_take ["urn", "low_so"] F__law_take := by
  obtain ⟨fd, Fn, hm⟩ := T.f__law_take
  exact df_mk Fn hm (Fn.binds fun _ _ _ _ _ _ us hl => match us, hl with | [_, _], _ => rfl) sc__law_take (by decide) fun cdv A outer s H E hr =>
    (pdss_cons (pds_if (pdt_cmp cd_gt (pd_atN (pv 0) pd_int (fun _ _ => rfl)) pd_int) (pdss_cons (pds_asg (pd_mod (pd_int1 T.b_int (pda_cons (pd_atN (pv 0) pd_int (fun _ _ => rfl)) pda_nil)) (pd_var (pv 1))) (pg_name (i := 2) sc__law_take.nd rfl (by first | exact .inl rfl | exact .inr rfl)))
    (pdss_cons (pds_setN (pv 0) pd_int (pd_fdiv (pd_atN (pv 0) pd_int (fun _ _ => rfl)) (pd_var (pv 1))) (fun h1 h2 => pg_sub h1 h2 set_list))
    (pdss_cons (pds_ret (pd_var (pv 2)))
    pdss_nil))) pdss_nil)
    (pdss_cons (pds_setN (pv 0) pd_int (pd_add (pd_atN (pv 0) pd_int (fun _ _ => rfl)) pd_int) (fun h1 h2 => pg_sub h1 h2 set_list))
    (pdss_cons (pds_asg (pd_mod (pd_int1 T.b_int (pda_cons (pd_mul3 (pd_add (pd_atN (pv 0) pd_int (fun _ _ => rfl)) (pd_mul3 pd_int (pd_atN (pv 0) pd_int (fun _ _ => rfl)))) (pd_add pd_int (pd_atN (pv 0) pd_int (fun _ _ => rfl)))) pda_nil)) pd_int) (pg_name (i := 3) sc__law_take.nd rfl (by first | exact .inl rfl | exact .inr rfl)))
    (pdss_cons (pds_asg (pd_add (pd_mod (pd_int1 T.b_int (pda_cons (pd_var (pv 3)) pda_nil)) pd_int) pd_int) (pg_name (i := 4) sc__law_take.nd rfl (by first | exact .inl rfl | exact .inr rfl)))
    (pdss_cons (pds_asg (pd_mod (pd_int1 T.b_int (pda_cons (pd_mul3 (pd_add (pd_add (pd_var (pv 3)) (pd_atN (pv 0) pd_int (fun _ _ => rfl))) (pd_fdiv (pd_atN (pv 0) pd_int (fun _ _ => rfl)) pd_int)) (pd_var (pv 4))) pda_nil)) pd_int) (pg_name (i := 5) sc__law_take.nd rfl (by first | exact .inl rfl | exact .inr rfl)))
    (pdss_cons (pds_ret (pd_mod (pd_int1 T.b_int (pda_cons (pd_fdiv (pd_mod (pd_int1 T.b_int (pda_cons (pd_add (pd_mul3 (pd_var (pv 5)) pd_int) (pd_var (pv 3))) pda_nil)) pd_int) pd_int) pda_nil)) (pd_var (pv 1))))
    pdss_nil))))))
theorem df__law_lists (T : Tx K mg) : ∀ n, Df P w K mg base (n + 2) "_law_lists" s__law_lists ["matter"] (F__law_lists n) := by
  obtain ⟨fd, Fn, hm⟩ := T.f__law_lists
  intro n
  induction n with
  | zero => exact df_no Fn hm (Fn.binds fun _ _ _ _ _ _ us hl => match us, hl with | [_], _ => rfl)
  | succ n D =>
  exact df_mk Fn hm (Fn.binds fun _ _ _ _ _ _ us hl => match us, hl with | [_], _ => rfl) sc__law_lists (by decide) fun cdv A outer s H E hr =>
    (pdss_cons (pds_ret (pd_ifExp (pdt_val (pd_isi2 (by rfl) T.b_isinstance rfl (by rfl) T.b_list rfl (by rfl) T.b_tuple rfl (pd_var (pv 0)))) (pdf_lc (own := [("own", 1)]) rfl sc__law_lists.nd (pdi_seq (pd_var (pv 0))) (blk_mk (N := n__law_lists) (sc := defScope s__law_lists) rfl (by decide +kernel)) (fun _ _ _ _ _ => (pg_name (i := 1) sc__law_lists.nd rfl (by first | exact .inl rfl | exact .inr rfl))) (fun _ _ _ _ _ => pdts_nil) (fun _ _ _ _ _ => (pd_callD D hr (by rfl) takes0 (pdr_val (pd_var (pv 1)) pdr_nil))) (by decide)).pd (pd_var (pv 0))))
    pdss_nil)
theorem df__law_of (T : Tx K mg) : Df P w K mg base 3 "_law_of" s__law_of ["urn", "goods"] F__law_of := by
  obtain ⟨fd, Fn, hm⟩ := T.f__law_of
  have D__law_take := df__law_take (P := P) (w := w) (base := base) T
  exact df_mk Fn hm (Fn.binds fun _ _ _ _ _ _ us hl => match us, hl with | [_, _], _ => rfl) sc__law_of (by decide) fun cdv A outer s H E hr =>
    (pdss_cons (pds_ret (pd_at (pd_var (pv 1)) (pd_callD D__law_take (hr.mono (by decide)) (by rfl) (takes_of rfl rfl rfl rfl) (pdr_bor (pv 0) (pdr_val (pd_len T.b_len (pda_cons (pd_var (pv 1)) pda_nil)) pdr_nil))) (fun _ _ => rfl)))
    pdss_nil)
theorem df__law_text (T : Tx K mg) : Df P w K mg base 3 "_law_text" s__law_text ["urn", "wide", "most"] F__law_text := by
  obtain ⟨fd, Fn, hm⟩ := T.f__law_text
  have D__law_take := df__law_take (P := P) (w := w) (base := base) T
  exact df_mk Fn hm (Fn.binds fun _ _ _ _ _ _ us hl => match us, hl with | [_, _, _], _ => rfl) sc__law_text (by decide) fun cdv A outer s H E hr =>
    (pdss_cons (pds_ret (pd_tuple T.b_tuple (pda_cons (pdf_lc (own := [("lap", 3)]) rfl sc__law_text.nd (pdi_range1 (by rfl) T.b_range (pda_cons (pd_callD D__law_take (hr.mono (by decide)) (by rfl) (takes_of rfl rfl rfl rfl) (pdr_bor (pv 0) (pdr_val (pd_add (pd_var (pv 2)) pd_int) pdr_nil))) pda_nil)) (blk_mk (N := n__law_text) (sc := defScope s__law_text) rfl (by decide +kernel)) (fun _ _ _ _ _ => (pg_name (i := 3) sc__law_text.nd rfl (by first | exact .inl rfl | exact .inr rfl))) (fun _ _ _ _ _ => pdts_nil) (fun _ _ _ _ _ => (pd_add pd_int (pd_callD D__law_take (hr.mono (by decide)) (by rfl) takes0 (pdr_bor (pv 0) (pdr_val (pd_var (pv 1)) pdr_nil))))) (by decide)).pd pda_nil)))
    pdss_nil)
theorem df__law_letters (T : Tx K mg) : Df P w K mg base 3 "_law_letters" s__law_letters ["urn", "wide"] F__law_letters := by
  obtain ⟨fd, Fn, hm⟩ := T.f__law_letters
  have D__law_take := df__law_take (P := P) (w := w) (base := base) T
  exact df_mk Fn hm (Fn.binds fun _ _ _ _ _ _ us hl => match us, hl with | [_, _], _ => rfl) sc__law_letters (by decide) fun cdv A outer s H E hr =>
    (pdss_cons (pds_asgLc (i := 2) (own := [("own", 3)]) rfl sc__law_letters.nd rfl rfl rfl (pdi_range2 (by rfl) T.b_range (pda_cons pd_int (pda_cons (pd_add (pd_var (pv 1)) pd_int) pda_nil))) (blk_mk (N := n__law_letters) (sc := defScope s__law_letters) rfl (by decide +kernel)) (fun _ _ _ _ _ => (pg_name (i := 3) sc__law_letters.nd rfl (by first | exact .inl rfl | exact .inr rfl))) (fun _ _ _ _ _ => (pdts_one (pdt_cmp (cr_eq hr) (pd_callD D__law_take (hr.mono (by decide)) (by rfl) takes0 (pdr_bor (pv 0) (pdr_val pd_int pdr_nil))) pd_int))) (fun _ _ _ _ _ => (pd_var (pv 3))) (by decide))
    (pdss_cons (pds_ret (pd_ifExp (pdt_cmp (cr_ne hr) (pd_var (pv 2)) (pdf_lst (k := 0) pda_nil).pd) (pd_tuple T.b_tuple (pda_cons (pd_var (pv 2)) pda_nil)) (pd_tup (pda_cons (pd_add pd_int (pd_callD D__law_take (hr.mono (by decide)) (by rfl) (takes_of rfl rfl rfl rfl) (pdr_bor (pv 0) (pdr_val (pd_var (pv 1)) pdr_nil)))) pda_nil))))
    pdss_nil))
theorem df__law_next (T : Tx K mg) : Df P w K mg base 2 "_law_next" s__law_next ["text", "place", "letters"] F__law_next := by
  obtain ⟨fd, Fn, hm⟩ := T.f__law_next
  exact df_mk Fn hm (Fn.binds fun _ _ _ _ _ _ us hl => match us, hl with | [_, _, _], _ => rfl) sc__law_next (by decide) fun cdv A outer s H E hr =>
    (pdss_cons (pds_asgLc (i := 3) (own := [("k", 4), ("own", 5)]) rfl sc__law_next.nd rfl rfl rfl (pdi_enum (by rfl) T.b_enumerate (pda_cons (pd_var (pv 0)) pda_nil)) (blk_mk (N := n__law_next) (sc := defScope s__law_next) rfl (by decide +kernel)) (fun _ _ _ _ _ => (pg_tl rfl (pgs_cons (pg_name (i := 4) sc__law_next.nd rfl (by first | exact .inl rfl | exact .inr rfl)) (pgs_cons (pg_name (i := 5) sc__law_next.nd rfl (by first | exact .inl rfl | exact .inr rfl)) pgs_nil)))) (fun _ _ _ _ _ => (pdts_one (pdw_and (pdt_cmp cd_gt (pd_add (pd_var (pv 4)) pd_int) (pd_var (pv 1))) (pdw_and1 (pdt_cmp (cd_in (by rfl)) (pd_var (pv 5)) (pd_var (pv 2))))).t)) (fun _ _ _ _ _ => (pd_add (pd_var (pv 4)) pd_int)) (by decide))
    (pdss_cons (pds_ret (pd_ifExp (pdt_cmp (cr_ne hr) (pd_var (pv 3)) (pdf_lst (k := 0) pda_nil).pd) (pd_at (pd_var (pv 3)) pd_int (fun _ _ => rfl)) (pd_add (pd_len T.b_len (pda_cons (pd_var (pv 0)) pda_nil)) pd_int)))
    pdss_nil))
theorem df__law_last (T : Tx K mg) : Df P w K mg base 2 "_law_last" s__law_last ["text", "place", "letters"] F__law_last := by
  obtain ⟨fd, Fn, hm⟩ := T.f__law_last
  exact df_mk Fn hm (Fn.binds fun _ _ _ _ _ _ us hl => match us, hl with | [_, _, _], _ => rfl) sc__law_last (by decide) fun cdv A outer s H E hr =>
    (pdss_cons (pds_asgLc (i := 3) (own := [("k", 4), ("own", 5)]) rfl sc__law_last.nd rfl rfl rfl (pdi_enum (by rfl) T.b_enumerate (pda_cons (pd_var (pv 0)) pda_nil)) (blk_mk (N := n__law_last) (sc := defScope s__law_last) rfl (by decide +kernel)) (fun _ _ _ _ _ => (pg_tl rfl (pgs_cons (pg_name (i := 4) sc__law_last.nd rfl (by first | exact .inl rfl | exact .inr rfl)) (pgs_cons (pg_name (i := 5) sc__law_last.nd rfl (by first | exact .inl rfl | exact .inr rfl)) pgs_nil)))) (fun _ _ _ _ _ => (pdts_one (pdw_and (pdt_cmp (cr_lt hr) (pd_add (pd_var (pv 4)) pd_int) (pd_var (pv 1))) (pdw_and1 (pdt_cmp (cd_in (by rfl)) (pd_var (pv 5)) (pd_var (pv 2))))).t)) (fun _ _ _ _ _ => (pd_add (pd_var (pv 4)) pd_int)) (by decide))
    (pdss_cons (pds_ret (pd_ifExp (pdt_cmp (cr_ne hr) (pd_var (pv 3)) (pdf_lst (k := 0) pda_nil).pd) (pd_at (pd_var (pv 3)) (pd_neg pd_int) (fun _ _ => rfl)) pd_int))
    pdss_nil))
theorem df__law_found (T : Tx K mg) : Df P w K mg base 3 "_law_found" s__law_found ["text", "place", "side", "letters"] F__law_found := by
  obtain ⟨fd, Fn, hm⟩ := T.f__law_found
  have D__law_last := df__law_last (P := P) (w := w) (base := base) T
  have D__law_next := df__law_next (P := P) (w := w) (base := base) T
  exact df_mk Fn hm (Fn.binds fun _ _ _ _ _ _ us hl => match us, hl with | [_, _, _, _], _ => rfl) sc__law_found (by decide) fun cdv A outer s H E hr =>
    (pdss_cons (pds_ret (pd_ifExp (pdt_cmp (cr_eq hr) (pd_var (pv 2)) pd_str) (pd_callD D__law_next (hr.mono (by decide)) (by rfl) (takes_of rfl rfl rfl rfl) (pdr_val (pd_var (pv 0)) (pdr_val (pd_var (pv 1)) (pdr_val (pd_var (pv 3)) pdr_nil)))) (pd_callD D__law_last (hr.mono (by decide)) (by rfl) (takes_of rfl rfl rfl rfl) (pdr_val (pd_var (pv 0)) (pdr_val (pd_var (pv 1)) (pdr_val (pd_var (pv 3)) pdr_nil))))))
    pdss_nil)
theorem df__law_row (T : Tx K mg) : Df P w K mg base 4 "_law_row" s__law_row ["text", "naming"] F__law_row := by
  obtain ⟨fd, Fn, hm⟩ := T.f__law_row
  have D__law_found := df__law_found (P := P) (w := w) (base := base) T
  exact df_mk Fn hm (Fn.binds fun _ _ _ _ _ _ us hl => match us, hl with | [_, _], _ => rfl) sc__law_row (by decide) fun cdv A outer s H E hr =>
    (pdss_cons (pds_parF (pd_ifExp (pdt_cmp (cr_eq hr) (pd_at (pd_at (pd_var (pv 1)) pd_int (fun _ _ => rfl)) pd_int (fun _ _ => rfl)) pd_str) (pd_add (pd_len T.b_len (pda_cons (pd_var (pv 0)) pda_nil)) pd_int) pd_int) (pdf_lst (k := 0) pda_nil) (fun h => ps_par rfl sc__law_row.nd rfl rfl (by decide) rfl rfl h rfl))
    (pdss_cons (pds_for (passes_of rfl) rfl (pdi_seq (pd_var (pv 1))) (pg_tl rfl (pgs_cons (pg_name (i := 4) sc__law_row.nd rfl (by first | exact .inl rfl | exact .inr rfl)) (pgs_cons (pg_name (i := 5) sc__law_row.nd rfl (by first | exact .inl rfl | exact .inr rfl)) pgs_nil))) (pdss_cons (pds_asg (pd_callD D__law_found (hr.mono (by decide)) (by rfl) (takes_of rfl rfl rfl rfl) (pdr_val (pd_var (pv 0)) (pdr_val (pd_var (pv 2)) (pdr_val (pd_var (pv 4)) (pdr_val (pd_var (pv 5)) pdr_nil))))) (pg_name (i := 2) sc__law_row.nd rfl (by first | exact .inl rfl | exact .inr rfl)))
    (pdss_cons (pds_app (pd_var (pv 2)) (fun h => ps_expr (pe_bm PySem.F.plainAttrs_list PySem.F.slot_list_append PySem.F.type_list_append mt_append (pv 3) (pa_cons h pa_nil))))
    pdss_nil)))
    (pdss_cons (pds_ret (pd_tuple T.b_tuple (pda_cons (pd_var (pv 3)) pda_nil)))
    pdss_nil)))
theorem df__law_right (T : Tx K mg) : Df P w K mg base 15 "_law_right" s__law_right ["urn"] F__law_right := by
  obtain ⟨fd, Fn, hm⟩ := T.f__law_right
  have D__law_found := df__law_found (P := P) (w := w) (base := base) T
  have D__law_letters := df__law_letters (P := P) (w := w) (base := base) T
  have D__law_lists := df__law_lists (P := P) (w := w) (base := base) T 12
  have D__law_of := df__law_of (P := P) (w := w) (base := base) T
  have D__law_row := df__law_row (P := P) (w := w) (base := base) T
  have D__law_same := df__law_same (P := P) (w := w) (base := base) T 12
  have D__law_take := df__law_take (P := P) (w := w) (base := base) T
  have D__law_text := df__law_text (P := P) (w := w) (base := base) T
  have D_found := df_found (P := P) (w := w) (base := base) T
  have D_is_ask := df_is_ask (P := P) (w := w) (base := base) T
  have D_is_naming := df_is_naming (P := P) (w := w) (base := base) T
  have D_named := df_named (P := P) (w := w) (base := base) T
  have D_row_named := df_row_named (P := P) (w := w) (base := base) T
  have D_stands_at := df_stands_at (P := P) (w := w) (base := base) T
  have D_turned := df_turned (P := P) (w := w) (base := base) T
  exact df_mk Fn hm (Fn.binds fun _ _ _ _ _ _ us hl => match us, hl with | [_], _ => rfl) sc__law_right (by decide) fun cdv A outer s H E hr =>
    (pdss_cons (pds_asg (pd_add pd_int (pd_callD D__law_take (hr.mono (by decide)) (by rfl) (takes_of rfl rfl rfl rfl) (pdr_bor (pv 0) (pdr_val pd_int pdr_nil)))) (pg_name (i := 1) sc__law_right.nd rfl (by first | exact .inl rfl | exact .inr rfl)))
    (pdss_cons (pds_asg (pd_callD D__law_text (hr.mono (by decide)) (by rfl) (takes_of rfl rfl rfl rfl) (pdr_bor (pv 0) (pdr_val (pd_var (pv 1)) (pdr_val pd_int pdr_nil)))) (pg_name (i := 2) sc__law_right.nd rfl (by first | exact .inl rfl | exact .inr rfl)))
    (pdss_cons (pds_asg (pd_len T.b_len (pda_cons (pd_var (pv 2)) pda_nil)) (pg_name (i := 3) sc__law_right.nd rfl (by first | exact .inl rfl | exact .inr rfl)))
    (pdss_cons (pds_asg (pd_tuple T.b_tuple (pda_cons (pdf_lc (own := [("lap", 5)]) rfl sc__law_right.nd (pdi_range1 (by rfl) T.b_range (pda_cons (pd_add pd_int (pd_callD D__law_take (hr.mono (by decide)) (by rfl) (takes_of rfl rfl rfl rfl) (pdr_bor (pv 0) (pdr_val pd_int pdr_nil)))) pda_nil)) (blk_mk (N := n__law_right) (sc := defScope s__law_right) rfl (by decide +kernel)) (fun _ _ _ _ _ => (pg_name (i := 5) sc__law_right.nd rfl (by first | exact .inl rfl | exact .inr rfl))) (fun _ _ _ _ _ => pdts_nil) (fun _ _ _ _ _ => (pd_tup (pda_cons (pd_callD D__law_of (hr.mono (by decide)) (by rfl) takes0 (pdr_bor (pv 0) (pdr_val (pdf_lst (k := 0) (pda_cons pd_str (pda_cons pd_str pda_nil))).pd pdr_nil))) (pda_cons (pd_callD D__law_letters (hr.mono (by decide)) (by rfl) takes0 (pdr_bor (pv 0) (pdr_val (pd_var (pv 1)) pdr_nil))) pda_nil)))) (by decide)).pd pda_nil)) (pg_name (i := 4) sc__law_right.nd rfl (by first | exact .inl rfl | exact .inr rfl)))
    (pdss_cons (pds_par (pda_cons (pd_callD D__law_row (hr.mono (by decide)) (by rfl) (takes_of rfl rfl rfl rfl) (pdr_val (pd_var (pv 2)) (pdr_val (pd_var (pv 4)) pdr_nil))) (pda_cons (pd_tuple T.b_tuple (pda_cons (pdf_lc (own := [("side", 8), ("letters", 9)]) rfl sc__law_right.nd (pdi_seq (pd_var (pv 4))) (blk_mk (N := n__law_right) (sc := defScope s__law_right) rfl (by decide +kernel)) (fun _ _ _ _ _ => (pg_tl rfl (pgs_cons (pg_name (i := 8) sc__law_right.nd rfl (by first | exact .inl rfl | exact .inr rfl)) (pgs_cons (pg_name (i := 9) sc__law_right.nd rfl (by first | exact .inl rfl | exact .inr rfl)) pgs_nil)))) (fun _ _ _ _ _ => pdts_nil) (fun _ _ _ _ _ => (pd_tup (pda_cons (pd_pick (by decide) (pd_var (pv 8)) (fun _ _ => rfl)) (pda_cons (pd_var (pv 9)) pda_nil)))) (by decide)).pd pda_nil)) pda_nil)) (fun h => ps_par rfl sc__law_right.nd rfl rfl (by decide) rfl rfl h rfl))
    (pdss_cons (pds_asg (pdf_lst (k := 0) (pda_cons (pd_callD D_is_naming (hr.mono (by decide)) (by rfl) (takes_of rfl rfl rfl rfl) (pdr_val (pd_var (pv 1)) (pdr_val (pd_var (pv 4)) pdr_nil))) (pda_cons (pd_callD D_row_named (hr.mono (by decide)) (by rfl) (takes_of rfl rfl rfl rfl) (pdr_val (pd_var (pv 2)) (pdr_val (pd_var (pv 4)) pdr_nil))) (pda_cons (pd_callD D_row_named (hr.mono (by decide)) (by rfl) (takes_of rfl rfl rfl rfl) (pdr_val (pdf_list (by rfl) T.b_list (by decide +kernel) (pda_cons (pd_var (pv 2)) pda_nil)).pd (pdr_val (pd_callD D__law_lists (hr.mono (by decide)) (by rfl) (takes_of rfl rfl rfl rfl) (pdr_val (pd_var (pv 4)) pdr_nil)) pdr_nil))) (pda_cons (pd_callD D_named (hr.mono (by decide)) (by rfl) (takes_of rfl rfl rfl rfl) (pdr_val (pd_var (pv 2)) (pdr_val (pd_var (pv 4)) pdr_nil))) (pda_cons (pd_callD D_named (hr.mono (by decide)) (by rfl) (takes_of rfl rfl rfl rfl) (pdr_val (pdf_list (by rfl) T.b_list (by decide +kernel) (pda_cons (pd_var (pv 2)) pda_nil)).pd (pdr_val (pd_var (pv 4)) pdr_nil))) (pda_cons (pd_callD D_turned (hr.mono (by decide)) (by rfl) (takes_of rfl rfl rfl rfl) (pdr_val (pd_var (pv 4)) pdr_nil)) (pda_cons (pd_callD D_turned (hr.mono (by decide)) (by rfl) (takes_of rfl rfl rfl rfl) (pdr_val (pd_callD D__law_lists (hr.mono (by decide)) (by rfl) (takes_of rfl rfl rfl rfl) (pdr_val (pd_var (pv 4)) pdr_nil)) pdr_nil)) pda_nil)))))))).pd (pg_name (i := 10) sc__law_right.nd rfl (by first | exact .inl rfl | exact .inr rfl)))
    (pdss_cons (pds_if (pdt_not (pdt_val (pd_callD D__law_same (hr.mono (by decide)) (by rfl) (takes_of rfl rfl rfl rfl) (pdr_val (pd_var (pv 10)) (pdr_val (pdf_lst (k := 0) (pda_cons pd_bl (pda_cons (pd_var (pv 6)) (pda_cons (pd_var (pv 6)) (pda_cons (pd_at (pd_var (pv 6)) (pd_neg pd_int) (fun _ _ => rfl)) (pda_cons (pd_at (pd_var (pv 6)) (pd_neg pd_int) (fun _ _ => rfl)) (pda_cons (pd_var (pv 7)) (pda_cons (pd_var (pv 7)) pda_nil)))))))).pd pdr_nil))))) (pdss_cons (pds_ret pd_bl)
    pdss_nil) pdss_nil)
    (pdss_cons (pds_if (pdt_not (pdt_val (pd_callD D__law_same (hr.mono (by decide)) (by rfl) (takes_of rfl rfl rfl rfl) (pdr_val (pd_callD D_row_named (hr.mono (by decide)) (by rfl) (takes_of rfl rfl rfl rfl) (pdr_val (pd_rev (pd_var (pv 2))) (pdr_val (pd_callD D_turned (hr.mono (by decide)) (by rfl) (takes_of rfl rfl rfl rfl) (pdr_val (pd_var (pv 4)) pdr_nil)) pdr_nil))) (pdr_val (pd_tuple T.b_tuple (pda_cons (pdf_lc (own := [("own", 11)]) rfl sc__law_right.nd (pdi_seq (pd_var (pv 6))) (blk_mk (N := n__law_right) (sc := defScope s__law_right) rfl (by decide +kernel)) (fun _ _ _ _ _ => (pg_name (i := 11) sc__law_right.nd rfl (by first | exact .inl rfl | exact .inr rfl))) (fun _ _ _ _ _ => pdts_nil) (fun _ _ _ _ _ => (pd_sub (pd_add (pd_var (pv 3)) pd_int) (pd_var (pv 11)))) (by decide)).pd pda_nil)) pdr_nil))))) (pdss_cons (pds_ret pd_bl)
    pdss_nil) pdss_nil)
    (pdss_cons (pds_for (passes_of rfl) rfl (pdi_range1 (by rfl) T.b_range (pda_cons pd_int pda_nil)) (pg_name (i := 5) sc__law_right.nd rfl (by first | exact .inl rfl | exact .inr rfl)) (pdss_cons (pds_par3 (pda_cons (pd_callD D__law_take (hr.mono (by decide)) (by rfl) (takes_of rfl rfl rfl rfl) (pdr_bor (pv 0) (pdr_val (pd_add (pd_var (pv 3)) pd_int) pdr_nil))) (pda_cons (pd_callD D__law_of (hr.mono (by decide)) (by rfl) (takes_of rfl rfl rfl rfl) (pdr_bor (pv 0) (pdr_val (pdf_lst (k := 0) (pda_cons pd_str (pda_cons pd_str pda_nil))).pd pdr_nil))) (pda_cons (pd_callD D__law_letters (hr.mono (by decide)) (by rfl) (takes_of rfl rfl rfl rfl) (pdr_bor (pv 0) (pdr_val (pd_var (pv 1)) pdr_nil))) pda_nil))) (fun h => ps_par3 rfl sc__law_right.nd rfl rfl rfl (by decide) (by decide) (by decide) rfl rfl rfl h rfl))
    (pdss_cons (pds_asg (pd_callD D__law_found (hr.mono (by decide)) (by rfl) (takes_of rfl rfl rfl rfl) (pdr_val (pd_var (pv 2)) (pdr_val (pd_var (pv 12)) (pdr_val (pd_var (pv 8)) (pdr_val (pd_var (pv 9)) pdr_nil))))) (pg_name (i := 13) sc__law_right.nd rfl (by first | exact .inl rfl | exact .inr rfl)))
    (pdss_cons (pds_asg (pd_ifExp (pdt_cmp (cr_eq hr) (pd_var (pv 13)) pd_int) pd_str (pd_ifExp (pdt_cmp cd_gt (pd_var (pv 13)) (pd_var (pv 3))) pd_str (pd_at (pd_var (pv 2)) (pd_sub (pd_var (pv 13)) pd_int) (fun _ _ => rfl)))) (pg_name (i := 14) sc__law_right.nd rfl (by first | exact .inl rfl | exact .inr rfl)))
    (pdss_cons (pds_asg (pd_callD D__law_text (hr.mono (by decide)) (by rfl) (takes_of rfl rfl rfl rfl) (pdr_bor (pv 0) (pdr_val (pd_var (pv 1)) (pdr_val pd_int pdr_nil)))) (pg_name (i := 15) sc__law_right.nd rfl (by first | exact .inl rfl | exact .inr rfl)))
    (pdss_cons (pds_asgT (pd_ifExp (pdt_cmp (cr_eq hr) (pd_var (pv 8)) pd_str) (pd_tup (pda_cons (pd_add (pd_slice (pd_var (pv 2)) pdo_none (pdo_some (pd_var (pv 13)))) (pd_var (pv 15))) (pda_cons (pd_var (pv 12)) pda_nil))) (pd_tup (pda_cons (pd_add (pd_var (pv 15)) (pd_slice (pd_var (pv 2)) (pdo_some (pd_max2 rfl T.b_max (pda_cons pd_int (pda_cons (pd_sub (pd_var (pv 13)) pd_int) pda_nil)))) pdo_none)) (pda_cons (pd_add (pd_sub (pd_var (pv 12)) (pd_max2 rfl T.b_max (pda_cons pd_int (pda_cons (pd_sub (pd_var (pv 13)) pd_int) pda_nil)))) (pd_len T.b_len (pda_cons (pd_var (pv 15)) pda_nil))) pda_nil)))) (pg_tl rfl (pgs_cons (pg_name (i := 16) sc__law_right.nd rfl (by first | exact .inl rfl | exact .inr rfl)) (pgs_cons (pg_name (i := 17) sc__law_right.nd rfl (by first | exact .inl rfl | exact .inr rfl)) pgs_nil))))
    (pdss_cons (pds_asg (pdf_lst (k := 0) (pda_cons (pd_callD D_is_ask (hr.mono (by decide)) (by rfl) (takes_of rfl rfl rfl rfl) (pdr_val (pd_var (pv 1)) (pdr_val (pd_tup (pda_cons (pd_var (pv 12)) (pda_cons (pd_var (pv 8)) (pda_cons (pd_var (pv 9)) pda_nil)))) pdr_nil))) (pda_cons (pd_callD D_found (hr.mono (by decide)) (by rfl) (takes_of rfl rfl rfl rfl) (pdr_val (pd_var (pv 2)) (pdr_val (pd_var (pv 12)) (pdr_val (pd_var (pv 8)) (pdr_val (pd_var (pv 9)) pdr_nil))))) (pda_cons (pd_callD D_found (hr.mono (by decide)) (by rfl) (takes_of rfl rfl rfl rfl) (pdr_val (pdf_list (by rfl) T.b_list (by decide +kernel) (pda_cons (pd_var (pv 2)) pda_nil)).pd (pdr_val (pd_var (pv 12)) (pdr_val (pd_var (pv 8)) (pdr_val (pdf_list (by rfl) T.b_list (by decide +kernel) (pda_cons (pd_var (pv 9)) pda_nil)).pd pdr_nil))))) (pda_cons (pd_callD D_stands_at (hr.mono (by decide)) (by rfl) (takes_of rfl rfl rfl rfl) (pdr_val (pd_var (pv 2)) (pdr_val (pd_var (pv 13)) pdr_nil))) pda_nil))))).pd (pg_name (i := 10) sc__law_right.nd rfl (by first | exact .inl rfl | exact .inr rfl)))
    (pdss_cons (pds_if (pdt_not (pdt_val (pd_callD D__law_same (hr.mono (by decide)) (by rfl) (takes_of rfl rfl rfl rfl) (pdr_val (pd_var (pv 10)) (pdr_val (pdf_lst (k := 0) (pda_cons pd_bl (pda_cons (pd_var (pv 13)) (pda_cons (pd_var (pv 13)) (pda_cons (pd_var (pv 14)) pda_nil))))).pd pdr_nil))))) (pdss_cons (pds_ret pd_bl)
    pdss_nil) pdss_nil)
    (pdss_cons (pds_if (pdw_and (pdt_chain (cr_lt hr) cd_le pd_int (pd_var (pv 13)) (pd_var (pv 3))) (pdw_and1 (pdt_not (pdt_val (pd_callD D__law_same (hr.mono (by decide)) (by rfl) (takes_of rfl rfl rfl rfl) (pdr_val (pd_callD D_found (hr.mono (by decide)) (by rfl) (takes_of rfl rfl rfl rfl) (pdr_val (pd_var (pv 16)) (pdr_val (pd_var (pv 17)) (pdr_val (pd_var (pv 8)) (pdr_val (pd_var (pv 9)) pdr_nil))))) (pdr_val (pd_ifExp (pdt_cmp (cr_eq hr) (pd_var (pv 8)) pd_str) (pd_var (pv 13)) (pd_add (pd_len T.b_len (pda_cons (pd_var (pv 15)) pda_nil)) pd_int)) pdr_nil))))))).t (pdss_cons (pds_ret pd_bl)
    pdss_nil) pdss_nil)
    pdss_nil)))))))))
    (pdss_cons (pds_ret pd_bl)
    pdss_nil))))))))))
theorem df__law_box (T : Tx K mg) : Df P w K mg base 2 "_law_box" s__law_box ["script", "k"] F__law_box := by
  obtain ⟨fd, Fn, hm⟩ := T.f__law_box
  exact df_mk Fn hm (Fn.binds fun _ _ _ _ _ _ us hl => match us, hl with | [_, _], _ => rfl) sc__law_box (by decide) fun cdv A outer s H E hr =>
    (pdss_cons (pds_asg (pd_ifExp (pdt_cmp (cr_lt hr) (pd_var (pv 1)) (pd_len T.b_len (pda_cons (pd_var (pv 0)) pda_nil))) (pd_at (pd_var (pv 0)) (pd_var (pv 1)) (fun _ _ => rfl)) pd_int) (pg_name (i := 2) sc__law_box.nd rfl (by first | exact .inl rfl | exact .inr rfl)))
    (pdss_cons (pds_ret (pdf_lst (k := 0) (pda_cons (pd_mul3 (pd_abs T.b_abs (pda_cons (pd_var (pv 2)) pda_nil)) (pd_int1 T.b_int (pda_cons (pd_cmp cd_ge (pd_abs T.b_abs (pda_cons (pd_var (pv 2)) pda_nil)) (pd_pow pd_int pd_int)) pda_nil))) (pda_cons (pd_add (pd_add (pd_mod (pd_int1 T.b_int (pda_cons (pd_var (pv 2)) pda_nil)) pd_int) (pd_mul3 pd_int (pd_var (pv 1)))) pd_int) (pda_cons pd_int pda_nil)))).pd)
    pdss_nil))
end
end K17
namespace K17
open PySem PySem.Spec PyProof.Rows L2 PD
/-! ### one statement after the other -/
theorem seq_nx {B1 B2 : Gs} {e e1 : En} (h : B1 e = some (.nx e1)) : gSeq B1 B2 e = B2 e1 := by unfold gSeq; rw [h]
theorem seq_rt {B1 B2 : Gs} {e e1 : En} {d : PyData} (h : B1 e = some (.rt d e1)) : gSeq B1 B2 e = some (.rt d e1) := by unfold gSeq; rw [h]
theorem seq_ex {B1 B2 : Gs} {e e1 : En} {c : Str} {fs : List (Str × PyData)} (h : B1 e = some (.ex c fs e1)) : gSeq B1 B2 e = some (.ex c fs e1) := by unfold gSeq; rw [h]
theorem for_of {Gi : GA} {t : Tg} {B : Gs} {e e1 : En} {ds : List PyData} (h : Gi e = some (.ok ds e1)) : gFor Gi t B e = forLoop t B ds e1 := by unfold gFor gS; rw [h]
theorem fn_rt {n m : Nat} {B : Gs} {sl sl' : List Sl} {d : PyData} {e : En} (hl : sl.length = n) (h : B (sl ++ List.replicate (m - n) .no) = some (.rt d e)) (hr : retSl sl e = some sl') : fnF n m B sl = some (.val d sl') := by
  unfold fnF
  rw [if_pos hl, h]
  simp [hr]
theorem fn_nx {n m : Nat} {B : Gs} {sl sl' : List Sl} {e : En} (hl : sl.length = n) (h : B (sl ++ List.replicate (m - n) .no) = some (.nx e)) (hr : retSl sl e = some sl') : fnF n m B sl = some (.val .none sl') := by
  unfold fnF
  rw [if_pos hl, h]
  simp [hr]
theorem fn_ex {n m : Nat} {B : Gs} {sl sl' : List Sl} {c : Str} {fs : List (Str × PyData)} {e : En} (hl : sl.length = n) (h : B (sl ++ List.replicate (m - n) .no) = some (.ex c fs e)) (hr : retSl sl e = some sl') : fnF n m B sl = some (.exc c fs sl') := by
  unfold fnF
  rw [if_pos hl, h]
  simp [hr]
/-! ### what a draw gives -/
theorem bMul_r {i j : Int} (h0 : 0 ≤ j) (h1 : j < 18446744073709551616) : bMul i j = true := by
  unfold bMul
  simp only [Bool.or_eq_true, Bool.and_eq_true, decide_eq_true_eq]
  omega
theorem bMul_l {i j : Int} (h0 : 0 ≤ i) (h1 : i < 18446744073709551616) : bMul i j = true := by
  unfold bMul
  simp only [Bool.or_eq_true, Bool.and_eq_true, decide_eq_true_eq]
  omega
theorem bMod_p {i j : Int} (h : 0 < j) : bMod i j = true := decide_eq_true (by omega)
theorem bDiv_p {i j : Int} (h : 0 < j) (h2 : j < 1000000000) : bDiv i j = true := by
  unfold bDiv
  simp only [Bool.and_eq_true, decide_eq_true_eq]
  omega
def Ug (n : Nat) (u : List PyData) : Prop := ∃ a b c : Int, u = [.int a, .int b, .int c] ∧ 0 ≤ c ∧ c ≤ n
theorem take_ok {u : List PyData} {low : Int} {n : Nat} (hu : Ug n u) (h1 : 1 ≤ low) (h2 : low ≤ 1000) (hn : n ≤ 100000) :
    ∃ (d : Int) (u' : List PyData), F__law_take [.mu true u, .im (.int low)] = some (.val (.int d) [.mu true u', .im (.int low)]) ∧ 0 ≤ d ∧ d < low ∧ Ug (n + 1) u' := by
  obtain ⟨a, b, c, rfl, c0, cn⟩ := hu
  by_cases ha : 0 < a
  · refine ⟨a.fmod low, [.int (a.fdiv low), .int b, .int c], ?_, Int.fmod_nonneg (by omega) (by omega), Int.fmod_lt_of_pos _ (by omega), _, _, _, rfl, c0, by omega⟩
    have e1 : bMod a low = true := bMod_p (by omega)
    have e2 : bDiv a low = true := bDiv_p (by omega) (by omega)
    unfold F__law_take fnF
    simp [gSeq, gIfS, gS, gBool, gOp, gB, gHas, gAtN, PD.peek, gP, gO, dIx, dCmp, atI, ixN, gAsg, gCall, PD.gCons, dToInt, dInt, gVar, setIm, gSetN, setN?, own?, retSl, gRet, gSkip, dAdd, dMul3, dMul, gCallF, gArB, gArV, gHasO, slotsOf, bors, takeBack, dLen, PD.gTup, PD.gLst, gAndV, gOrV, truD, dNot, dNeg, gTru, gAnd, gOr, gIf, dEq, dIn, gPar, setIms, gAsgT, tTG, gAsgF, setMu, gFrz, dToTup, gSl, dPart, dLt, dMax, dMin, dSub, gLenN, gApp, dAbs, ha, e1, e2]
  · obtain ⟨once, ho⟩ : ∃ z, Int.fmod ((b + 48271 * (c + 1)) * (39373 + (c + 1))) 2147483647 = z := ⟨_, rfl⟩
    obtain ⟨far, hf⟩ : ∃ z, Int.fmod once 40009 + 7 = z := ⟨_, rfl⟩
    have hf0 : 0 ≤ Int.fmod once 40009 := Int.fmod_nonneg_of_pos _ (by decide)
    have hf1 : Int.fmod once 40009 < 40009 := Int.fmod_lt_of_pos _ (by decide)
    have b1 : bMul 48271 (c + 1) = true := bMul_l (by decide) (by decide)
    have b2 : bMul (b + 48271 * (c + 1)) (39373 + (c + 1)) = true := bMul_r (by omega) (by omega)
    obtain ⟨tw, ht⟩ : ∃ z, Int.fmod ((once + (c + 1) + Int.fdiv b 1000003) * far) 2147483629 = z := ⟨_, rfl⟩
    have b3 : bMul (once + (c + 1) + Int.fdiv b 1000003) far = true := bMul_r (by omega) (by omega)
    have b4 : bMul tw 48271 = true := bMul_r (by decide) (by decide)
    have m1 : ∀ i : Int, bMod i 2147483647 = true := fun i => bMod_p (by decide)
    have m2 : ∀ i : Int, bMod i 40009 = true := fun i => bMod_p (by decide)
    have m3 : ∀ i : Int, bMod i 2147483629 = true := fun i => bMod_p (by decide)
    have m4 : ∀ i : Int, bMod i 2147483587 = true := fun i => bMod_p (by decide)
    have m5 : ∀ i : Int, bMod i low = true := fun i => bMod_p (by omega)
    have d1 : ∀ i : Int, bDiv i 1000003 = true := fun i => bDiv_p (by decide) (by decide)
    have d2 : ∀ i : Int, bDiv i 64 = true := fun i => bDiv_p (by decide) (by decide)
    refine ⟨Int.fmod (Int.fdiv (Int.fmod (tw * 48271 + once) 2147483587) 64) low, [.int a, .int b, .int (c + 1)], ?_, Int.fmod_nonneg_of_pos _ (by omega), Int.fmod_lt_of_pos _ (by omega), _, _, _, rfl, by omega, by omega⟩
    unfold F__law_take fnF
    simp [gSeq, gIfS, gS, gBool, gOp, gB, gHas, gAtN, PD.peek, gP, gO, dIx, dCmp, atI, ixN, gAsg, gCall, PD.gCons, dToInt, dInt, gVar, setIm, gSetN, setN?, own?, retSl, gRet, gSkip, dAdd, dMul3, dMul, gCallF, gArB, gArV, gHasO, slotsOf, bors, takeBack, dLen, PD.gTup, PD.gLst, gAndV, gOrV, truD, dNot, dNeg, gTru, gAnd, gOr, gIf, dEq, dIn, gPar, setIms, gAsgT, tTG, gAsgF, setMu, gFrz, dToTup, gSl, dPart, dLt, dMax, dMin, dSub, gLenN, gApp, dAbs, ha, b1, b2, ho, m1, m2, hf, d1, b3, ht, m3, b4, m4, d2, m5]
/-- the box -/
theorem box_ok (c : Int) : ∃ u sl, F__law_box [.im (.list [.int c]), .im (.int 0)] = some (.val (.list u) sl) ∧ Ug 0 u := by
  have m1 : ∀ i : Int, bMod i 2305843009213693951 = true := fun i => bMod_p (by decide)
  have p1 : bPow 10 18 = true := by decide
  have a1 : bMul 39373 0 = true := by decide
  have b1 : ∀ i : Int, bMul i 1 = true := fun i => bMul_r (by decide) (by decide)
  have b0 : ∀ i : Int, bMul i 0 = true := fun i => bMul_r (by decide) (by decide)
  unfold F__law_box fnF
  obtain ⟨z, hz⟩ : ∃ z, (if c < 0 then -c else c) = z := ⟨_, rfl⟩
  by_cases h : (1000000000000000000 : Int) ≤ z
  · refine ⟨[.int (z * 1), .int (Int.fmod c 2305843009213693951 + 39373 * 0 + 3185017), .int 0], [.im (.list [.int c]), .im (.int 0)], ?_, _, _, _, rfl, by decide, by decide⟩
    simp [gSeq, gIfS, gS, gBool, gOp, gB, gHas, gAtN, PD.peek, gP, gO, dIx, dCmp, atI, ixN, gAsg, gCall, PD.gCons, dToInt, dInt, gVar, setIm, gSetN, setN?, own?, retSl, gRet, gSkip, dAdd, dMul3, dMul, gCallF, gArB, gArV, gHasO, slotsOf, bors, takeBack, dLen, PD.gTup, PD.gLst, gAndV, gOrV, truD, dNot, dNeg, gTru, gAnd, gOr, gIf, dEq, dIn, gPar, setIms, gAsgT, tTG, gAsgF, setMu, gFrz, dToTup, gSl, dPart, dLt, dMax, dMin, dSub, gLenN, gApp, dAbs, m1, p1, a1, b1, b0, h, hz]
  · refine ⟨[.int (z * 0), .int (Int.fmod c 2305843009213693951 + 39373 * 0 + 3185017), .int 0], [.im (.list [.int c]), .im (.int 0)], ?_, _, _, _, rfl, by decide, by decide⟩
    simp [gSeq, gIfS, gS, gBool, gOp, gB, gHas, gAtN, PD.peek, gP, gO, dIx, dCmp, atI, ixN, gAsg, gCall, PD.gCons, dToInt, dInt, gVar, setIm, gSetN, setN?, own?, retSl, gRet, gSkip, dAdd, dMul3, dMul, gCallF, gArB, gArV, gHasO, slotsOf, bors, takeBack, dLen, PD.gTup, PD.gLst, gAndV, gOrV, truD, dNot, dNeg, gTru, gAnd, gOr, gIf, dEq, dIn, gPar, setIms, gAsgT, tTG, gAsgF, setMu, gFrz, dToTup, gSl, dPart, dLt, dMax, dMin, dSub, gLenN, gApp, dAbs, m1, p1, a1, b1, b0, h, hz]
/-! ### plain checks -/
def lets (w : Int) (t : List Int) : Prop := ∀ x ∈ t, 1 ≤ x ∧ x ≤ w
abbrev dT (t : List Int) : PyData := .tuple (t.map PyData.int)
theorem isi_ii (i : Int) : dIsi "int" (.int i) = some (.bool true) := rfl
theorem isi_ib (i : Int) : dIsi "bool" (.int i) = some (.bool false) := rfl
theorem isi_tt (t : List PyData) : dIsi "tuple" (.tuple t) = some (.bool true) := rfl
theorem number_int (i : Int) : F_is_number [.im (.int i)] = some (.val (.bool true) [.im (.int i)]) := by
  unfold F_is_number fnF
  simp [gSeq, gIfS, gS, gBool, gOp, gB, gHas, gAtN, PD.peek, gP, gO, dIx, dCmp, atI, ixN, gAsg, gCall, PD.gCons, dToInt, dInt, gVar, setIm, gSetN, setN?, own?, retSl, gRet, gSkip, dAdd, dMul3, dMul, gCallF, gArB, gArV, gHasO, slotsOf, bors, takeBack, dLen, PD.gTup, PD.gLst, gAndV, gOrV, truD, dNot, dNeg, gTru, gAnd, gOr, gIf, dEq, dIn, gPar, setIms, gAsgT, tTG, gAsgF, setMu, gFrz, dToTup, gSl, dPart, dLt, dMax, dMin, dSub, gLenN, gApp, dAbs, isi_ii, isi_ib]
theorem number_in (i lo hi : Int) : F_is_number_in [.im (.int i), .im (.int lo), .im (.int hi)] = some (.val (.bool (decide (lo ≤ i) && decide (i ≤ hi))) [.im (.int i), .im (.int lo), .im (.int hi)]) := by
  unfold F_is_number_in fnF
  by_cases h : lo ≤ i <;> simp [gSeq, gIfS, gS, gBool, gOp, gB, gHas, gAtN, PD.peek, gP, gO, dIx, dCmp, atI, ixN, gAsg, gCall, PD.gCons, dToInt, dInt, gVar, setIm, gSetN, setN?, own?, retSl, gRet, gSkip, dAdd, dMul3, dMul, gCallF, gArB, gArV, gHasO, slotsOf, bors, takeBack, dLen, PD.gTup, PD.gLst, gAndV, gOrV, truD, dNot, dNeg, gTru, gAnd, gOr, gIf, dEq, dIn, gPar, setIms, gAsgT, tTG, gAsgF, setMu, gFrz, dToTup, gSl, dPart, dLt, dMax, dMin, dSub, gLenN, gApp, dAbs, number_int, h]
/-- a list comprehension over ints whose element is pure -/
theorem lc_ints {G : GE} {e : En} {vs : List Nat} {i : Nat} {f : Int → PyData} (hG : ∀ n : Int, G (e.set i (.im (.int n))) = some (.ok (f n) (e.set i (.im (.int n))))) (hw : ∀ n : Int, wipeE (e.set i (.im (.int n))) vs = e) (hm : ∀ ds, e[i]? ≠ some (.mu true ds)) (hi : i < e.length) : ∀ (t : List Int) (acc : List PyData), acc.length + t.length ≤ 1000 →
    lcLoop (.one i) (gP true) G vs (t.map PyData.int) acc e = some (acc ++ t.map f, e)
  | [], acc, _ => by simp [lcLoop]
  | n :: t, acc, h => by
    have hl : acc.length < 100000 := by simp at h; omega
    have hs : tTG (.one i) (.int n) e = some (e.set i (.im (.int n))) := by
      show setIm e i (.int n) = _
      unfold setIm
      split
      · rename_i ds h2; exact (hm ds h2).elim
      · rfl
      · rename_i h2; rw [List.getElem?_eq_getElem hi] at h2; cases h2
    show lcLoop (.one i) (gP true) G vs (PyData.int n :: t.map PyData.int) acc e = _
    unfold lcLoop
    rw [hs]
    simp only [gP, hG, hw, if_pos hl]
    rw [lc_ints hG hw hm hi t _ (by simp at h ⊢; omega)]
    simp
theorem bools_map : ∀ l : List Bool, bools? (l.map PyData.bool) = some l
  | [] => rfl
  | b :: l => by
    show (bools? (l.map PyData.bool)).map (b :: ·) = _
    rw [bools_map l]
    rfl
theorem all_map {α : Type} (l : List α) (f : α → Bool) : dAll [.list (l.map fun x => PyData.bool (f x))] = some (.bool (l.all f)) := by
  have e : (l.map fun x => PyData.bool (f x)) = (l.map f).map PyData.bool := by rw [List.map_map]; rfl
  show (bools? _).map _ = _
  rw [e, bools_map]
  simp [List.all_map, Function.comp_def]
theorem row_in (t : List Int) (lo hi : Int) (ht : t.length ≤ 900) : F_is_row_in [.im (dT t), .im (.int lo), .im (.int hi)] = some (.val (.bool (t.all fun x => decide (lo ≤ x) && decide (x ≤ hi))) [.im (dT t), .im (.int lo), .im (.int hi)]) := by
  unfold F_is_row_in fnF
  have L := lc_ints (G := q1_is_row_in) (e := [.im (dT t), .im (.int lo), .im (.int hi), .no]) (vs := [3]) (i := 3) (f := fun n => .bool (decide (lo ≤ n) && decide (n ≤ hi)))
    (fun n => by unfold q1_is_row_in; simp [gSeq, gIfS, gS, gBool, gOp, gB, gHas, gAtN, PD.peek, gP, gO, dIx, dCmp, atI, ixN, gAsg, gCall, PD.gCons, dToInt, dInt, gVar, setIm, gSetN, setN?, own?, retSl, gRet, gSkip, dAdd, dMul3, dMul, gCallF, gArB, gArV, gHasO, slotsOf, bors, takeBack, dLen, PD.gTup, PD.gLst, gAndV, gOrV, truD, dNot, dNeg, gTru, gAnd, gOr, gIf, dEq, dIn, gPar, setIms, gAsgT, tTG, gAsgF, setMu, gFrz, dToTup, gSl, dPart, dLt, dMax, dMin, dSub, gLenN, gApp, dAbs, number_in]) (fun n => by simp [wipeE]) (by simp) (by simp) t [] (by simp only [List.length_nil]; omega)
  have A := all_map t fun x => decide (lo ≤ x) && decide (x ≤ hi)
  simp only [List.nil_append] at L
  simp [gSeq, gIfS, gS, gBool, gOp, gB, gHas, gAtN, PD.peek, gP, gO, dIx, dCmp, atI, ixN, gAsg, gCall, PD.gCons, dToInt, dInt, gVar, setIm, gSetN, setN?, own?, retSl, gRet, gSkip, dAdd, dMul3, dMul, gCallF, gArB, gArV, gHasO, slotsOf, bors, takeBack, dLen, PD.gTup, PD.gLst, gAndV, gOrV, truD, dNot, dNeg, gTru, gAnd, gOr, gIf, dEq, dIn, gPar, setIms, gAsgT, tTG, gAsgF, setMu, gFrz, dToTup, gSl, dPart, dLt, dMax, dMin, dSub, gLenN, gApp, dAbs, isi_tt, gLc, gSeqOf, noMu, wipeE, PD.back, L, A]
/-! ### places -/
abbrev inT (ls : List Int) (x : Int) : Bool := ls.any (· == x)
theorem place_ok (s : PyData) (n : Nat) (p : Int) (hs : s = .tuple ds ∨ s = .list ds) (hn : ds.length = n) (h0 : 0 ≤ p) (h1 : p ≤ n + 1) : F_check_place [.im s, .im (.int p)] = some (.val .none [.im s, .im (.int p)]) := by
  unfold F_check_place fnF
  have e1 : ¬ p < 0 := by omega
  have e2 : ¬ ((ds.length : Int) + 1 < p) := by omega
  rcases hs with rfl | rfl <;> simp [gSeq, gIfS, gS, gBool, gOp, gB, gHas, gAtN, PD.peek, gP, gO, dIx, dCmp, atI, ixN, gAsg, gCall, PD.gCons, dToInt, dInt, gVar, setIm, gSetN, setN?, own?, retSl, gRet, gSkip, dAdd, dMul3, dMul, gCallF, gArB, gArV, gHasO, slotsOf, bors, takeBack, dLen, PD.gTup, PD.gLst, gAndV, gOrV, truD, dNot, dNeg, gTru, gAnd, gOr, gIf, dEq, dIn, gPar, setIms, gAsgT, tTG, gAsgF, setMu, gFrz, dToTup, gSl, dPart, dLt, dMax, dMin, dSub, gLenN, gApp, dAbs, e1, e2]
/-- what a letter's place holds -/
theorem at_int (ds : List PyData) (i : Nat) (d : PyData) (h : ds[i]? = some d) : atI ds (i : Int) = some d := by
  have hl : i < ds.length := (List.getElem?_eq_some_iff.mp h).1
  unfold atI ixN
  rw [if_pos (by omega), if_pos (by omega)]
  simpa using h
theorem in_ints (x : Int) (ls : List Int) : dIn false (.int x) (dT ls) = some (.bool (inT ls x)) := by
  show (ints? (ls.map PyData.int)).map _ = _
  rw [PD.ints_map]
  simp [inT]
theorem in_intsL (x : Int) (ls : List Int) : dIn false (.int x) (.list (ls.map PyData.int)) = some (.bool (inT ls x)) := by
  show (ints? (ls.map PyData.int)).map _ = _
  rw [PD.ints_map]
  simp [inT]
abbrev Sq (ds : List PyData) (s : PyData) : Prop := s = .tuple ds ∨ s = .list ds
theorem ix_sq {ds : List PyData} {s d : PyData} (hs : Sq ds s) (i : Nat) (h : ds[i]? = some d) : dIx s (.int (i : Int)) = some d := by
  rcases hs with rfl | rfl <;> exact at_int ds i d h
theorem in_sq {ls : List Int} {s : PyData} (hs : Sq (ls.map PyData.int) s) (x : Int) : dIn false (.int x) s = some (.bool (inT ls x)) := by
  rcases hs with rfl | rfl
  · exact in_ints x ls
  · exact in_intsL x ls
theorem len_sq {ds : List PyData} {s : PyData} (hs : Sq ds s) : dLen [s] = some (.int ds.length) := by
  rcases hs with rfl | rfl <;> rfl
/-- the search at places told one by one -/
theorem seek {t ls : List Int} {s l p : PyData} (hs : Sq (t.map PyData.int) s) (hl : Sq (ls.map PyData.int) l) : ∀ (js : List Nat) (x : Sl), (∀ j ∈ js, 1 ≤ j ∧ j ≤ t.length) → x = .no ∨ (∃ d, x = .im d) →
    ∃ x', forLoop (.one 3) q1_next_place (js.map fun (j : Nat) => PyData.int j) [.im s, .im p, .im l, x] = match js.find? (fun j => inT ls (t.getD (j - 1) 0)) with
      | some j => some (.rt (.int j) [.im s, .im p, .im l, .im (.int j)])
      | none => some (.nx [.im s, .im p, .im l, x'])
  | [], x, _, _ => ⟨x, rfl⟩
  | j :: js, x, h, hx => by
    obtain ⟨h1, h2⟩ := h j List.mem_cons_self
    have hg : (t.map PyData.int)[j - 1]? = some (PyData.int (t.getD (j - 1) 0)) := by
      rw [List.getElem?_map, List.getElem?_eq_getElem (by omega)]
      simp [List.getD_eq_getElem?_getD, List.getElem?_eq_getElem (show j - 1 < t.length by omega)]
    obtain ⟨y, hy⟩ : ∃ y, t.getD (j - 1) 0 = y := ⟨_, rfl⟩
    rw [hy] at hg
    have hi := ix_sq hs (j - 1) hg
    have ej : ((j - 1 : Nat) : Int) = (j : Int) - 1 := by omega
    rw [ej] at hi
    have hn := in_sq hl y
    have hset : tTG (.one 3) (.int j) [.im s, .im p, .im l, x] = some [.im s, .im p, .im l, .im (.int j)] := by
      rcases hx with rfl | ⟨d, rfl⟩ <;> rfl
    obtain ⟨x', ih⟩ := seek (p := p) hs hl js (.im (.int j)) (fun i hi => h i (List.mem_cons_of_mem _ hi)) (.inr ⟨_, rfl⟩)
    refine ⟨x', ?_⟩
    show forLoop (.one 3) q1_next_place (PyData.int j :: js.map fun (j : Nat) => PyData.int j) _ = _
    unfold forLoop
    rw [hset]
    by_cases c : inT ls y = true
    · have hb : q1_next_place [.im s, .im p, .im l, .im (.int j)] = some (.rt (.int j) [.im s, .im p, .im l, .im (.int j)]) := by
        rw [c] at hn
        unfold q1_next_place
        simp [gSeq, gIfS, gS, gBool, gOp, gB, gVar, gP, gO, dSub, hi, hn, gRet, gSkip]
      rw [List.find?_cons_of_pos (p := fun j => inT ls (t.getD (j - 1) 0)) (by rw [hy]; exact c)]
      simp only [hb]
    · have hb : q1_next_place [.im s, .im p, .im l, .im (.int j)] = some (.nx [.im s, .im p, .im l, .im (.int j)]) := by
        rw [Bool.eq_false_iff.mpr c] at hn
        unfold q1_next_place
        simp [gSeq, gIfS, gS, gBool, gOp, gB, gVar, gP, gO, dSub, hi, hn, gRet, gSkip]
      rw [List.find?_cons_of_neg (p := fun j => inT ls (t.getD (j - 1) 0)) (by rw [hy]; exact c)]
      simp only [hb]
      exact ih
theorem dAdd_ii (i j : Int) : dAdd (.int i) (.int j) = some (.int (i + j)) := rfl
end K17

namespace K17
open PySem PySem.Spec PyProof.Rows L2 PD
section
variable {env : En} {Ga Gb : GE} {G : GA} {x y z d : PyData} {ds : List PyData}
theorem op_of {φ : PyData → PyData → Option PyData} (ha : Ga env = some (.ok x env)) (hb : Gb env = some (.ok y env)) (h : φ x y = some z) : gOp φ Ga Gb env = some (.ok z env) := by
  unfold gOp gB gO
  rw [ha]
  dsimp only
  rw [hb]
  dsimp only
  rw [h]
theorem add_of (ha : Ga env = some (.ok x env)) (hb : Gb env = some (.ok y env)) (h : dAdd x y = some z) : gOp dAdd Ga Gb env = some (.ok z env) := op_of ha hb h
theorem one_of (ha : Ga env = some (.ok d env)) : PD.gCons Ga (gP []) env = some (.ok [d] env) := by
  unfold PD.gCons gB
  rw [ha]
  rfl
theorem call_of {φ : List PyData → Option PyData} (ha : G env = some (.ok ds env)) (h : φ ds = some z) : gCall φ G env = some (.ok z env) := by
  unfold gCall gB gO
  rw [ha]
  dsimp only
  rw [h]
theorem cons1 {e1 e2 : En} {Gr : GA} (ha : Ga env = some (.ok d e1)) (hr : Gr e1 = some (.ok ds e2)) : PD.gCons Ga Gr env = some (.ok (d :: ds) e2) := by
  unfold PD.gCons gB
  rw [ha]
  dsimp only
  rw [hr]
  rfl
theorem let_of {α β : Type} {e1 : En} {g : Gm α} {f : α → Gm β} {a : α} (h : g env = some (.ok a e1)) : gB g f env = f a e1 := by
  unfold gB
  rw [h]
theorem ret_of {e1 : En} (h : Ga env = some (.ok d e1)) : gRet Ga env = some (.rt d e1) := by
  unfold gRet gS
  rw [h]
end
/-- the place that the next letter of ls has, beyond p; the last one ahead of p -/
def nextP (t : List Int) (p : Nat) (ls : List Int) : Nat := (((List.range (t.length - p)).map fun k => p + 1 + k).find? fun j => inT ls (t.getD (j - 1) 0)).getD (t.length + 1)
def lastP (t : List Int) (p : Nat) (ls : List Int) : Nat := (((List.range (p - 1)).map fun k => p - 1 - k).find? fun j => inT ls (t.getD (j - 1) 0)).getD 0
theorem bRg_ok2 {i : Int} (h : -1000 ≤ i) (h2 : i ≤ 1000) : bRg i = true := by
  unfold bRg
  simp only [Bool.and_eq_true, decide_eq_true_eq]
  omega
theorem next_ok {t ls : List Int} {s l : PyData} {p : Nat} (hs : Sq (t.map PyData.int) s) (hl : Sq (ls.map PyData.int) l) (hp : p ≤ t.length + 1) (ht : t.length ≤ 100) : F_next_place [.im s, .im (.int p), .im l] = some (.val (.int (nextP t p ls)) [.im s, .im (.int p), .im l]) := by
  have hc := place_ok (ds := t.map PyData.int) s t.length p hs (by simp) (by omega) (by omega)
  have hn := len_sq hs
  obtain ⟨x', S⟩ := seek (p := .int p) hs hl ((List.range (t.length - p)).map fun k => p + 1 + k) .no (fun j hj => by
    obtain ⟨k, hk, rfl⟩ := List.mem_map.mp hj
    have := List.mem_range.mp hk
    omega) (.inl rfl)
  have eu : upto ((p : Int) + 1) 1 ((((t.map PyData.int).length : Int) + 1) - ((p : Int) + 1)).toNat = ((List.range (t.length - p)).map fun k => p + 1 + k).map fun (j : Nat) => PyData.int j := by
    unfold upto
    rw [List.map_map, List.length_map]
    rw [show ((t.length : Int) + 1 - ((p : Int) + 1)).toNat = t.length - p by omega]
    refine List.map_congr_left fun k _ => ?_
    show PyData.int _ = PyData.int _
    congr 1
    simp only [Function.comp_def]
    omega
  have r1 : bRg ((p : Int) + 1) = true := bRg_ok2 (by omega) (by omega)
  have r2 : bRg (((t.map PyData.int).length : Int) + 1) = true := bRg_ok2 (by omega) (by simp; omega)
  have R : dRange2 [.int ((p : Int) + 1), .int (((t.map PyData.int).length : Int) + 1)] = some (((List.range (t.length - p)).map fun k => p + 1 + k).map fun (j : Nat) => PyData.int j) := by
    unfold dRange2
    dsimp only
    rw [r1, r2]
    exact congrArg some eu
  have h1 : (gS (gCallF (F_check_place) (gArV (gVar 0) (gArV (gVar 1) (gP [])))) fun _ env => some (.nx env)) [.im s, .im (.int p), .im l, .no] = some (.nx [.im s, .im (.int p), .im l, .no]) := by
    simp [gS, gCallF, gArV, gVar, gB, gP, slotsOf, bors, hc, takeBack]
  have h2 : (gB (PD.gCons (gOp dAdd (gVar 1) (gP (.int 1))) (PD.gCons (gOp dAdd (gCall dLen (PD.gCons (gVar 0) (gP []))) (gP (.int 1))) (gP []))) fun ds => gO (dRange2 ds)) [.im s, .im (.int p), .im l, .no] = some (.ok (((List.range (t.length - p)).map fun k => p + 1 + k).map fun (j : Nat) => PyData.int j) [.im s, .im (.int p), .im l, .no]) := by
    have g1 := add_of (Ga := gVar 1) (Gb := gP (.int 1)) (env := [.im s, .im (.int p), .im l, .no]) (x := .int p) (y := .int 1) rfl rfl (dAdd_ii _ _)
    have g2 := add_of (Ga := gCall dLen (PD.gCons (gVar 0) (gP []))) (Gb := gP (.int 1)) (env := [.im s, .im (.int p), .im l, .no]) (call_of (one_of (d := s) rfl) hn) rfl (dAdd_ii _ _)
    rw [let_of (cons1 g1 (one_of g2)), R]
    rfl
  have h3 := (for_of (t := .one 3) (B := q1_next_place) h2).trans S
  unfold F_next_place nextP
  cases hf : ((List.range (t.length - p)).map fun k => p + 1 + k).find? fun j => inT ls (t.getD (j - 1) 0) with
  | some j =>
    rw [hf] at h3
    exact fn_rt rfl ((seq_nx h1).trans (seq_rt h3)) rfl
  | none =>
    rw [hf] at h3
    refine fn_rt (e := [.im s, .im (.int p), .im l, x']) rfl ((seq_nx h1).trans ((seq_nx h3).trans (seq_rt ?_))) rfl
    have z := add_of (Ga := gCall dLen (PD.gCons (gVar 0) (gP []))) (Gb := gP (.int 1)) (env := [.im s, .im (.int p), .im l, x']) (call_of (one_of (d := s) rfl) hn) rfl (dAdd_ii _ _)
    exact ret_of (by rw [z, List.length_map]; rfl)
theorem q_same : q1_last_place = q1_next_place := rfl
theorem last_ok {t ls : List Int} {s l : PyData} {p : Nat} (hs : Sq (t.map PyData.int) s) (hl : Sq (ls.map PyData.int) l) (hp : p ≤ t.length + 1) (ht : t.length ≤ 100) : F_last_place [.im s, .im (.int p), .im l] = some (.val (.int (lastP t p ls)) [.im s, .im (.int p), .im l]) := by
  have hc := place_ok (ds := t.map PyData.int) s t.length p hs (by simp) (by omega) (by omega)
  obtain ⟨x', S⟩ := seek (p := .int p) hs hl ((List.range (p - 1)).map fun k => p - 1 - k) .no (fun j hj => by
    obtain ⟨k, hk, rfl⟩ := List.mem_map.mp hj
    have := List.mem_range.mp hk
    omega) (.inl rfl)
  have eu : upto ((p : Int) - 1) (-1) (((p : Int) - 1) - 0).toNat = ((List.range (p - 1)).map fun k => p - 1 - k).map fun (j : Nat) => PyData.int j := by
    unfold upto
    rw [List.map_map, show ((p : Int) - 1 - 0).toNat = p - 1 by omega]
    refine List.map_congr_left fun k hk => ?_
    have := List.mem_range.mp hk
    show PyData.int _ = PyData.int _
    congr 1
    simp only [Function.comp_def]
    omega
  have r1 : bRg ((p : Int) - 1) = true := bRg_ok2 (by omega) (by omega)
  have r2 : bRg 0 = true := by decide
  have R : dRange3 [.int ((p : Int) - 1), .int 0, .int (-1)] = some (((List.range (p - 1)).map fun k => p - 1 - k).map fun (j : Nat) => PyData.int j) := by
    unfold dRange3
    dsimp only
    rw [r1, r2]
    exact congrArg some eu
  have h1 : (gS (gCallF (F_check_place) (gArV (gVar 0) (gArV (gVar 1) (gP [])))) fun _ env => some (.nx env)) [.im s, .im (.int p), .im l, .no] = some (.nx [.im s, .im (.int p), .im l, .no]) := by
    simp [gS, gCallF, gArV, gVar, gB, gP, slotsOf, bors, hc, takeBack]
  have g1 := op_of (φ := dSub) (Ga := gVar 1) (Gb := gP (.int 1)) (env := [.im s, .im (.int p), .im l, .no]) (x := .int p) (y := .int 1) (z := .int ((p : Int) - 1)) rfl rfl rfl
  have g3 : (gB (gP (.int 1)) fun d => gO (dNeg d)) [.im s, .im (.int p), .im l, .no] = some (.ok (.int (-1)) [.im s, .im (.int p), .im l, .no]) := rfl
  have h2 := (let_of (f := fun ds => gO (dRange3 ds)) (cons1 g1 (cons1 (d := .int 0) (Ga := gP (.int 0)) rfl (one_of g3)))).trans (show gO (dRange3 [.int ((p : Int) - 1), .int 0, .int (-1)]) [.im s, .im (.int p), .im l, .no] = some (.ok (((List.range (p - 1)).map fun k => p - 1 - k).map fun (j : Nat) => PyData.int j) [.im s, .im (.int p), .im l, .no]) by rw [R]; rfl)
  have h3 := (for_of (t := .one 3) (B := q1_next_place) h2).trans S
  unfold F_last_place lastP
  rw [q_same]
  cases hf : ((List.range (p - 1)).map fun k => p - 1 - k).find? fun j => inT ls (t.getD (j - 1) 0) with
  | some j =>
    rw [hf] at h3
    exact fn_rt rfl ((seq_nx h1).trans (seq_rt h3)) rfl
  | none =>
    rw [hf] at h3
    exact fn_rt (e := [.im s, .im (.int p), .im l, x']) rfl ((seq_nx h1).trans ((seq_nx h3).trans (seq_rt rfl))) rfl
/-! ### slices, between, changes -/
theorem part_nat {G : GE} {env : En} {n : Int} (h : G env = some (.ok (.int n) env)) (hp : dPart (.int n) = some (some n)) : (gB G fun d => gO (dPart d)) env = some (.ok (some n) env) := by
  rw [let_of h]
  show gO (dPart _) _ = _
  rw [hp]
  rfl
end K17

namespace K17
open PySem PySem.Spec PyProof.Rows L2 PD
/-! ### the law's own search: all places, then the first or the last -/
def goods (P : Nat → Int → Bool) : Nat → List Int → List Nat
  | _, [] => []
  | n, x :: xs => (if P n x = true then [n + 1] else []) ++ goods P (n + 1) xs
theorem goods_eq (P : Nat → Int → Bool) (t : List Int) : ∀ (m n : Nat), n + m = t.length → goods P n (t.drop n) = ((List.range m).map fun k => n + 1 + k).filter fun j => P (j - 1) (t.getD (j - 1) 0)
  | 0, n, h => by
    rw [List.drop_of_length_le (by omega)]
    rfl
  | m + 1, n, h => by
    have hlt : n < t.length := by omega
    rw [List.drop_eq_getElem_cons hlt]
    show (if P n t[n] = true then [n + 1] else []) ++ goods P (n + 1) (t.drop (n + 1)) = _
    rw [goods_eq P t m (n + 1) (by omega), List.range_succ_eq_map, List.map_cons, List.map_map, List.filter_cons]
    have e : t.getD (n + 1 + 0 - 1) 0 = t[n] := by simp [List.getD_eq_getElem?_getD, hlt]
    have f : ((fun k => n + 1 + k) ∘ Nat.succ) = fun k => n + 1 + 1 + k := by funext k; simp only [Function.comp_def]; omega
    rw [f, e, show n + 1 + 0 - 1 = n by omega, show n + 1 + 0 = n + 1 by omega]
    by_cases c : P n t[n] = true <;> simp [c]
theorem goods0 (P : Nat → Int → Bool) (t : List Int) : goods P 0 t = ((List.range t.length).map fun k => k + 1).filter fun j => P (j - 1) (t.getD (j - 1) 0) := by
  have h := goods_eq P t t.length 0 (by omega)
  rw [List.drop_zero] at h
  rw [h]
  congr 1
  refine List.map_congr_left fun k _ => ?_
  omega
theorem lc_enum {q1 : GE} {q2 : GT} {e : En} {P : Nat → Int → Bool} {i j : Nat} {vs : List Nat} (hset : ∀ (k : Nat) (x : Int), tTG (.tup [i, j]) (.tuple [.int k, .int x]) e = some ((e.set i (.im (.int k))).set j (.im (.int x))))
    (hT : ∀ (k : Nat) (x : Int), q2 ((e.set i (.im (.int k))).set j (.im (.int x))) = some (.ok (P k x) ((e.set i (.im (.int k))).set j (.im (.int x)))))
    (hG : ∀ (k : Nat) (x : Int), q1 ((e.set i (.im (.int k))).set j (.im (.int x))) = some (.ok (.int ((k : Int) + 1)) ((e.set i (.im (.int k))).set j (.im (.int x)))))
    (hw : ∀ (k : Nat) (x : Int), wipeE ((e.set i (.im (.int k))).set j (.im (.int x))) vs = e) : ∀ (t : List Int) (n : Nat) (acc : List PyData), acc.length + t.length ≤ 1000 →
    lcLoop (.tup [i, j]) q2 q1 vs (enumD n (t.map PyData.int)) acc e = some (acc ++ (goods P n t).map (fun (k : Nat) => PyData.int k), e)
  | [], n, acc, _ => by simp [lcLoop, enumD, goods]
  | x :: t, n, acc, h => by
    have hl : acc.length < 100000 := by simp at h; omega
    show lcLoop (.tup [i, j]) q2 q1 vs (PyData.tuple [.int n, .int x] :: enumD (n + 1) (t.map PyData.int)) acc e = _
    unfold lcLoop
    rw [hset]
    dsimp only
    rw [hT]
    by_cases c : P n x = true
    · rw [c]
      dsimp only
      rw [hG]
      dsimp only
      rw [if_pos hl, hw, lc_enum hset hT hG hw t (n + 1) _ (by simp at h ⊢; omega)]
      simp [goods, c]
    · rw [Bool.eq_false_iff.mpr c]
      dsimp only
      rw [hw, lc_enum hset hT hG hw t (n + 1) _ (by simp at h ⊢; omega)]
      simp [goods, c]
end K17

namespace K17
open PySem PySem.Spec PyProof.Rows L2 PD
theorem ne_nil (ns : List Nat) (h : SeqAt.shaped (.list (ns.map fun (k : Nat) => PyData.int k)) = true) : dEq true (.list (ns.map fun (k : Nat) => PyData.int k)) (.list []) = some (.bool !ns.isEmpty) := by
  have h0 : SeqAt.shaped (.list []) = true := rfl
  show (if (SeqAt.shaped _ && SeqAt.shaped _) = true then _ else _) = _
  rw [h, h0]
  cases ns with
  | nil => rfl
  | cons n ns => rfl
theorem head_filter {α : Type} (P : α → Bool) : ∀ l : List α, (l.filter P).head? = l.find? P
  | [] => rfl
  | x :: l => by
    by_cases c : P x = true
    · rw [List.filter_cons_of_pos c, List.find?_cons_of_pos c]; rfl
    · rw [List.filter_cons_of_neg c, List.find?_cons_of_neg c, head_filter P l]
theorem find_congr {α : Type} {P Q : α → Bool} : ∀ {l : List α}, (∀ x ∈ l, P x = Q x) → l.find? P = l.find? Q
  | [], _ => rfl
  | x :: l, h => by
    have e := h x List.mem_cons_self
    by_cases c : P x = true
    · rw [List.find?_cons_of_pos c, List.find?_cons_of_pos (by rw [← e]; exact c)]
    · rw [List.find?_cons_of_neg c, List.find?_cons_of_neg (by rw [← e]; exact c), find_congr fun y hy => h y (List.mem_cons_of_mem _ hy)]
theorem next_goods (t ls : List Int) (p : Nat) (hp : p ≤ t.length + 1) : ((goods (fun k x => decide (p < k + 1) && inT ls x) 0 t).head?).getD (t.length + 1) = nextP t p ls := by
  rw [goods0, head_filter]
  unfold nextP
  congr 1
  by_cases hp2 : p ≤ t.length
  · have e : (List.range t.length).map (fun k => k + 1) = ((List.range p).map fun k => k + 1) ++ ((List.range (t.length - p)).map fun k => p + 1 + k) := by
      have : t.length = p + (t.length - p) := by omega
      conv => lhs; rw [this, List.range_add, List.map_append, List.map_map]
      congr 1
      refine List.map_congr_left fun k _ => ?_
      simp only [Function.comp_def]
      omega
    rw [e, List.find?_append]
    have n : ((List.range p).map fun k => k + 1).find? (fun j => decide (p < j - 1 + 1) && inT ls (t.getD (j - 1) 0)) = none := by
      rw [List.find?_eq_none]
      intro j hj
      obtain ⟨k, hk, rfl⟩ := List.mem_map.mp hj
      have := List.mem_range.mp hk
      simp
      omega
    rw [n, Option.none_or]
    refine find_congr fun j hj => ?_
    obtain ⟨k, hk, rfl⟩ := List.mem_map.mp hj
    rw [decide_eq_true (by omega), Bool.true_and]
  · have z : t.length - p = 0 := by omega
    rw [z]
    show _ = none
    rw [List.find?_eq_none]
    intro j hj
    obtain ⟨k, hk, rfl⟩ := List.mem_map.mp hj
    have := List.mem_range.mp hk
    simp
    omega
theorem last_goods (t ls : List Int) (p : Nat) (hp : p ≤ t.length + 1) : ((goods (fun k x => decide (k + 1 < p) && inT ls x) 0 t).getLast?).getD 0 = lastP t p ls := by
  rw [goods0, ← List.head?_reverse, ← List.filter_reverse, head_filter]
  unfold lastP
  congr 1
  have e : ((List.range t.length).map fun k => k + 1).reverse = ((List.range (t.length - (p - 1))).map fun k => t.length - k) ++ ((List.range (p - 1)).map fun k => p - 1 - k) := by
    refine List.ext_getElem (by simp; omega) fun i h1 h2 => ?_
    simp only [List.length_reverse, List.length_map, List.length_range] at h1
    rw [List.getElem_reverse]
    by_cases c : i < t.length - (p - 1)
    · rw [List.getElem_append_left (by simpa using c)]
      simp
      omega
    · rw [List.getElem_append_right (by simpa using c)]
      simp
      omega
  rw [e, List.find?_append]
  have n : ((List.range (t.length - (p - 1))).map fun k => t.length - k).find? (fun j => decide (j - 1 + 1 < p) && inT ls (t.getD (j - 1) 0)) = none := by
    rw [List.find?_eq_none]
    intro j hj
    obtain ⟨k, hk, rfl⟩ := List.mem_map.mp hj
    have := List.mem_range.mp hk
    simp
    omega
  rw [n, Option.none_or]
  refine find_congr fun j hj => ?_
  obtain ⟨k, hk, rfl⟩ := List.mem_map.mp hj
  have := List.mem_range.mp hk
  rw [decide_eq_true (by omega), Bool.true_and]
end K17

namespace K17
open PySem PySem.Spec PyProof.Rows L2 PD
theorem depthAll_ints : ∀ ns : List Int, PyData.depthAll (ns.map PyData.int) = 0
  | [] => rfl
  | n :: ns => by
    show max (PyData.depth (.int n)) (PyData.depthAll (ns.map PyData.int)) = 0
    rw [depthAll_ints ns]
    rfl
theorem canLay_ints : ∀ ns : List Int, PyData.canLayAll0 (ns.map PyData.int) = true
  | [] => rfl
  | n :: ns => by
    show (PyData.canLay0 (.int n) && PyData.canLayAll0 (ns.map PyData.int)) = true
    rw [canLay_ints ns]
    rfl
theorem shaped_L (ns : List Int) : SeqAt.shaped (.list (ns.map PyData.int)) = true := by
  show (PyData.canLayAll0 (ns.map PyData.int) && decide (PyData.depthAll (ns.map PyData.int) + 1 ≤ 64)) = true
  rw [canLay_ints, depthAll_ints]
  rfl
theorem nat_int (ns : List Nat) : (ns.map fun (k : Nat) => PyData.int k) = (ns.map fun (k : Nat) => (k : Int)).map PyData.int := by rw [List.map_map]; rfl
theorem ne_nilN (ns : List Nat) : dEq true (.list (ns.map fun (k : Nat) => PyData.int k)) (.list []) = some (.bool !ns.isEmpty) := ne_nil ns (by rw [nat_int]; exact shaped_L _)
/-- what the law's own search walks -/
theorem enum_sq {ds : List PyData} {s : PyData} (hs : Sq ds s) : dEnum [s] = some (enumD 0 ds) := by
  rcases hs with rfl | rfl <;> rfl
theorem lc_of {Gi : GA} {t : Tg} {Gt : GT} {Ge : GE} {vs : List Nat} {env e1 e2 : En} {items acc : List PyData} (hi : Gi env = some (.ok items e1)) (hm : noMu e1 vs = true) (h : lcLoop t Gt Ge vs items [] (wipeE e1 vs) = some (acc, e2)) : gLc Gi t Gt Ge vs env = some (.ok acc (PD.back e1 e2 vs)) := by
  unfold gLc
  rw [let_of hi, if_pos hm, h]
  rfl
theorem asgF_of {i : Nat} {G : GA} {env e1 e2 : En} {ds : List PyData} (h : G env = some (.ok ds e1)) (hs : setMu e1 i ds = some e2) : gAsgF i G env = some (.nx e2) := by
  unfold gAsgF gS
  rw [h]
  dsimp only
  rw [hs]
  rfl
theorem lnext_ok {t ls : List Int} {s l : PyData} {p : Nat} (hs : Sq (t.map PyData.int) s) (hl : Sq (ls.map PyData.int) l) (hp : p ≤ t.length + 1) (ht : t.length ≤ 100) : F__law_next [.im s, .im (.int p), .im l] = some (.val (.int (nextP t p ls)) [.im s, .im (.int p), .im l]) := by
  have hn := len_sq hs
  have L := lc_enum (q1 := q1__law_next) (q2 := q2__law_next) (e := [.im s, .im (.int p), .im l, .no, .no, .no]) (P := fun k x => decide (p < k + 1) && inT ls x) (i := 4) (j := 5) (vs := [4, 5]) (fun k x => rfl)
    (fun k x => by
      have hin := in_sq hl x
      unfold q2__law_next
      by_cases c : p < k + 1
      · have c2 : (p : Int) < (k : Int) + 1 := by omega
        simp [gAnd, gBool, gOp, gB, gVar, gP, gO, dAdd_ii, dCmp, hin, c, c2]
      · have c2 : ¬ (p : Int) < (k : Int) + 1 := by omega
        simp [gAnd, gBool, gOp, gB, gVar, gP, gO, dAdd_ii, dCmp, hin, c, c2])
    (fun k x => by
      unfold q1__law_next
      exact op_of rfl rfl (dAdd_ii _ _))
    (fun k x => rfl) t 0 [] (by simp; omega)
  have hi : (gB (PD.gCons (gVar 0) (gP [])) fun ds => gO (dEnum ds)) [.im s, .im (.int p), .im l, .no, .no, .no] = some (.ok (enumD 0 (t.map PyData.int)) [.im s, .im (.int p), .im l, .no, .no, .no]) := by
    rw [let_of (one_of (d := s) rfl), enum_sq hs]
    rfl
  have h1 := asgF_of (i := 3) (lc_of hi rfl L) (e2 := [.im s, .im (.int p), .im l, .mu false ((goods (fun k x => decide (p < k + 1) && inT ls x) 0 t).map fun (k : Nat) => PyData.int k), .no, .no]) rfl
  have hg := next_goods t ls p hp
  obtain ⟨gs, hgs⟩ : ∃ gs, goods (fun k x => decide (p < k + 1) && inT ls x) 0 t = gs := ⟨_, rfl⟩
  rw [hgs] at h1 hg
  unfold F__law_next
  have hne := ne_nilN gs
  have ht2 : gBool (gOp (dEq true) (gVar 3) (gFrz (PD.gLst (gP [])))) [.im s, .im (.int p), .im l, .mu false (gs.map fun (k : Nat) => PyData.int k), .no, .no] = some (.ok (!gs.isEmpty) [.im s, .im (.int p), .im l, .im (.list (gs.map fun (k : Nat) => PyData.int k)), .no, .no]) := by
    unfold gBool gOp gFrz PD.gLst gB gP gO gVar
    simp [hne]
  cases gs with
  | nil =>
    have z := op_of (φ := dAdd) (Ga := gCall dLen (PD.gCons (gVar 0) (gP []))) (Gb := gP (.int 1)) (env := [.im s, .im (.int p), .im l, .im (.list []), .no, .no]) (call_of (one_of (d := s) rfl) hn) rfl (dAdd_ii _ _)
    have r : gIf (gBool (gOp (dEq true) (gVar 3) (gFrz (PD.gLst (gP []))))) (gOp dIx (gVar 3) (gP (.int 0))) (gOp dAdd (gCall dLen (PD.gCons (gVar 0) (gP []))) (gP (.int 1))) [.im s, .im (.int p), .im l, .mu false [], .no, .no] = some (.ok (.int (nextP t p ls)) [.im s, .im (.int p), .im l, .im (.list []), .no, .no]) := by
      refine (let_of ht2).trans (z.trans ?_)
      rw [← hg, List.length_map]
      rfl
    exact fn_rt rfl ((seq_nx h1).trans (seq_rt (ret_of r))) rfl
  | cons g gs =>
    have r : gIf (gBool (gOp (dEq true) (gVar 3) (gFrz (PD.gLst (gP []))))) (gOp dIx (gVar 3) (gP (.int 0))) (gOp dAdd (gCall dLen (PD.gCons (gVar 0) (gP []))) (gP (.int 1))) [.im s, .im (.int p), .im l, .mu false ((g :: gs).map fun (k : Nat) => PyData.int k), .no, .no] = some (.ok (.int (nextP t p ls)) [.im s, .im (.int p), .im l, .im (.list ((g :: gs).map fun (k : Nat) => PyData.int k)), .no, .no]) := by
      rw [← hg]
      refine (let_of ht2).trans ?_
      exact op_of (x := .list ((g :: gs).map fun (k : Nat) => PyData.int k)) (y := .int 0) rfl rfl (at_int ((g :: gs).map fun (k : Nat) => PyData.int k) 0 _ rfl)
    exact fn_rt rfl ((seq_nx h1).trans (seq_rt (ret_of r))) rfl
theorem llast_ok {t ls : List Int} {s l : PyData} {p : Nat} (hs : Sq (t.map PyData.int) s) (hl : Sq (ls.map PyData.int) l) (hp : p ≤ t.length + 1) (ht : t.length ≤ 100) : F__law_last [.im s, .im (.int p), .im l] = some (.val (.int (lastP t p ls)) [.im s, .im (.int p), .im l]) := by
  have L := lc_enum (q1 := q1__law_last) (q2 := q2__law_last) (e := [.im s, .im (.int p), .im l, .no, .no, .no]) (P := fun k x => decide (k + 1 < p) && inT ls x) (i := 4) (j := 5) (vs := [4, 5]) (fun k x => rfl)
    (fun k x => by
      have hin := in_sq hl x
      unfold q2__law_last
      by_cases c : k + 1 < p
      · have c2 : (k : Int) + 1 < (p : Int) := by omega
        simp [gAnd, gBool, gOp, gB, gVar, gP, gO, dAdd_ii, dLt, hin, c, c2]
      · have c2 : ¬ (k : Int) + 1 < (p : Int) := by omega
        simp [gAnd, gBool, gOp, gB, gVar, gP, gO, dAdd_ii, dLt, hin, c, c2])
    (fun k x => by
      unfold q1__law_last
      exact op_of rfl rfl (dAdd_ii _ _))
    (fun k x => rfl) t 0 [] (by simp; omega)
  have hi : (gB (PD.gCons (gVar 0) (gP [])) fun ds => gO (dEnum ds)) [.im s, .im (.int p), .im l, .no, .no, .no] = some (.ok (enumD 0 (t.map PyData.int)) [.im s, .im (.int p), .im l, .no, .no, .no]) := by
    rw [let_of (one_of (d := s) rfl), enum_sq hs]
    rfl
  have h1 := asgF_of (i := 3) (lc_of hi rfl L) (e2 := [.im s, .im (.int p), .im l, .mu false ((goods (fun k x => decide (k + 1 < p) && inT ls x) 0 t).map fun (k : Nat) => PyData.int k), .no, .no]) rfl
  have hg := last_goods t ls p hp
  obtain ⟨gs, hgs⟩ : ∃ gs, goods (fun k x => decide (k + 1 < p) && inT ls x) 0 t = gs := ⟨_, rfl⟩
  rw [hgs] at h1 hg
  unfold F__law_last
  have hne := ne_nilN gs
  have ht2 : gBool (gOp (dEq true) (gVar 3) (gFrz (PD.gLst (gP [])))) [.im s, .im (.int p), .im l, .mu false (gs.map fun (k : Nat) => PyData.int k), .no, .no] = some (.ok (!gs.isEmpty) [.im s, .im (.int p), .im l, .im (.list (gs.map fun (k : Nat) => PyData.int k)), .no, .no]) := by
    unfold gBool gOp gFrz PD.gLst gB gP gO gVar
    simp [hne]
  have r : gIf (gBool (gOp (dEq true) (gVar 3) (gFrz (PD.gLst (gP []))))) (gOp dIx (gVar 3) (gB (gP (.int 1)) fun d => gO (dNeg d))) (gP (.int 0)) [.im s, .im (.int p), .im l, .mu false (gs.map fun (k : Nat) => PyData.int k), .no, .no] = some (.ok (.int (lastP t p ls)) [.im s, .im (.int p), .im l, .im (.list (gs.map fun (k : Nat) => PyData.int k)), .no, .no]) := by
    unfold gIf
    rw [let_of ht2, ← hg]
    cases hgl : gs.getLast? with
    | none =>
      rw [List.getLast?_eq_none_iff] at hgl
      subst hgl
      rfl
    | some z =>
      have hne2 : gs ≠ [] := fun e => by subst e; cases hgl
      have hpos : 0 < gs.length := List.length_pos_iff.mpr hne2
      rw [if_pos (by cases gs with | nil => cases hgl | cons a b => rfl)]
      refine op_of (x := .list (gs.map fun (k : Nat) => PyData.int k)) (y := .int (-1)) rfl rfl ?_
      show atI (gs.map fun (k : Nat) => PyData.int k) (-1) = _
      unfold atI ixN
      rw [List.length_map, if_neg (by decide), if_pos (by omega)]
      show (gs.map fun (k : Nat) => PyData.int k)[((-1 : Int) + (gs.length : Int)).toNat]? = _
      rw [show ((-1 : Int) + (gs.length : Int)).toNat = gs.length - 1 by omega, List.getElem?_map, ← List.getLast?_eq_getElem?, hgl]
      rfl
  exact fn_rt rfl ((seq_nx h1).trans (seq_rt (ret_of r))) rfl
end K17

namespace K17
open PySem PySem.Spec PyProof.Rows L2 PD
/-! ### draws as they stand in the text -/
theorem draw_of {env : En} {b : Bool} {u : List PyData} {G : GE} {low : Int} {n : Nat} (he : env[0]? = some (.mu b u)) (hG : G env = some (.ok (.int low) env)) (hu : Ug n u) (h1 : 1 ≤ low) (h2 : low ≤ 1000) (hn : n ≤ 100000) :
    ∃ (d : Int) (u' : List PyData), gCallF F__law_take (gArB 0 (gArV G (gP []))) env = some (.ok (.int d) (env.set 0 (.mu b u'))) ∧ 0 ≤ d ∧ d < low ∧ Ug (n + 1) u' := by
  obtain ⟨d, u', e, d0, d1, hu'⟩ := take_ok hu h1 h2 hn
  refine ⟨d, u', ?_, d0, d1, hu'⟩
  have ho : own? env 0 = some (b, u) := by
    unfold own?
    rw [he]
  have ha : gArB 0 (gArV G (gP [])) env = some (.ok [.bor 0, .val (.int low)] env) := by
    unfold gArB gHasO
    rw [ho]
    dsimp only
    have : gArV G (gP []) env = some (.ok [.val (.int low)] env) := by
      unfold gArV
      rw [let_of hG]
      rfl
    rw [let_of this]
    rfl
  unfold gCallF
  rw [let_of ha]
  have hs : slotsOf env [.bor 0, .val (.int low)] = some [.mu true u, .im (.int low)] := by
    unfold slotsOf
    rw [ho]
    rfl
  rw [hs]
  dsimp only
  rw [show bors [.bor 0, .val (.int low)] = [0] from rfl, if_pos (by decide), e]
  show (takeBack env [.bor 0, .val (.int low)] [.mu true u', .im (.int low)]).map _ = _
  unfold takeBack
  rw [ho]
  rfl
/-- letters from a draw: 1 + .. -/
theorem letter_of {env : En} {b : Bool} {u : List PyData} {G : GE} {low : Int} {n : Nat} (he : env[0]? = some (.mu b u)) (hG : G env = some (.ok (.int low) env)) (hu : Ug n u) (h1 : 1 ≤ low) (h2 : low ≤ 1000) (hn : n ≤ 100000) :
    ∃ (d : Int) (u' : List PyData), gOp dAdd (gP (.int 1)) (gCallF F__law_take (gArB 0 (gArV G (gP [])))) env = some (.ok (.int d) (env.set 0 (.mu b u'))) ∧ 1 ≤ d ∧ d ≤ low ∧ Ug (n + 1) u' := by
  obtain ⟨d, u', e, d0, d1, hu'⟩ := draw_of he hG hu h1 h2 hn
  refine ⟨1 + d, u', ?_, by omega, by omega, hu'⟩
  unfold gOp
  rw [let_of (show gP (PyData.int 1) env = some (.ok (.int 1) env) from rfl), let_of e]
  rfl
theorem draws_text {w m : Int} (h1 : 1 ≤ w) (h2 : w ≤ 1000) : ∀ (js : List PyData) (u : List PyData) (n : Nat) (acc : List PyData), (∀ j ∈ js, ∃ i : Int, j = .int i) → Ug n u → n + js.length ≤ 100000 → acc.length + js.length ≤ 1000 →
    ∃ (t : List Int) (u' : List PyData), lcLoop (.one 3) (gP true) q1__law_text [3] js acc [.mu true u, .im (.int w), .im (.int m), .no] = some (acc ++ t.map PyData.int, [.mu true u', .im (.int w), .im (.int m), .no]) ∧ t.length = js.length ∧ lets w t ∧ Ug (n + js.length) u'
  | [], u, n, acc, _, hu, _, _ => ⟨[], u, by simp [lcLoop], rfl, (fun x hx => nomatch hx), hu⟩
  | j :: js, u, n, acc, hj, hu, hn, hl => by
    obtain ⟨i, rfl⟩ := hj j List.mem_cons_self
    simp only [List.length_cons] at hn hl
    have hl2 : acc.length < 100000 := by omega
    obtain ⟨d, u', e, d0, d1, hu'⟩ := letter_of (env := [.mu true u, .im (.int w), .im (.int m), .im (.int i)]) (b := true) (G := gVar 1) (low := w) rfl rfl hu h1 h2 (by omega)
    obtain ⟨t, u2, e2, tl, tw, hu2⟩ := draws_text (m := m) h1 h2 js u' (n + 1) (acc ++ [.int d]) (fun j hj2 => hj j (List.mem_cons_of_mem _ hj2)) hu' (by omega) (by simp; omega)
    refine ⟨d :: t, u2, ?_, by simp [tl], fun x hx => ?_, by rw [show n + (PyData.int i :: js).length = n + 1 + js.length by simp; omega]; exact hu2⟩
    · unfold lcLoop
      show (match q1__law_text [.mu true u, .im (.int w), .im (.int m), .im (.int i)] with | some (.ok v e3) => if acc.length < 100000 then lcLoop (.one 3) (gP true) q1__law_text [3] js (acc ++ [v]) (wipeE e3 [3]) else none | _ => none) = _
      rw [show q1__law_text [.mu true u, .im (.int w), .im (.int m), .im (.int i)] = _ from e]
      dsimp only
      rw [if_pos hl2]
      show lcLoop (.one 3) (gP true) q1__law_text [3] js (acc ++ [.int d]) [.mu true u', .im (.int w), .im (.int m), .no] = _
      rw [e2]
      simp
    · rcases List.mem_cons.mp hx with z | z
      · rw [z]; exact ⟨d0, d1⟩
      · exact tw x z
theorem text_of {u : List PyData} {w m : Int} {n : Nat} (hu : Ug n u) (h1 : 1 ≤ w) (h2 : w ≤ 1000) (m0 : 0 ≤ m) (m1 : m ≤ 100) (hn : n ≤ 5000) :
    ∃ (t : List Int) (u' : List PyData) (n' : Nat), F__law_text [.mu true u, .im (.int w), .im (.int m)] = some (.val (dT t) [.mu true u', .im (.int w), .im (.int m)]) ∧ t.length ≤ m ∧ lets w t ∧ Ug n' u' ∧ n' ≤ n + 101 := by
  obtain ⟨d, u1, e, d0, d1, hu1⟩ := draw_of (env := [.mu true u, .im (.int w), .im (.int m), .no]) (b := true) (G := gOp dAdd (gVar 2) (gP (.int 1))) (low := m + 1) rfl (op_of rfl rfl (dAdd_ii m 1)) hu (by omega) (by omega) (by omega)
  have hr : dRange1 [.int d] = some (upto 0 1 d.toNat) := by
    unfold dRange1
    dsimp only
    rw [bRg_ok2 (by omega) (by omega)]
    rfl
  obtain ⟨t, u2, e2, tl, tw, hu2⟩ := draws_text (w := w) (m := m) h1 h2 (upto 0 1 d.toNat) u1 (n + 1) [] (fun j hj => by
    obtain ⟨i, hi⟩ := List.mem_iff_getElem?.mp hj
    exact ⟨_, upto_get hi⟩) hu1 (by rw [upto_length]; omega) (by rw [upto_length]; simp; omega)
  rw [upto_length] at tl hu2
  refine ⟨t, u2, _, ?_, by omega, tw, hu2, by omega⟩
  have hi : (gB (PD.gCons (gCallF F__law_take (gArB 0 (gArV (gOp dAdd (gVar 2) (gP (.int 1))) (gP [])))) (gP [])) fun ds => gO (dRange1 ds)) [.mu true u, .im (.int w), .im (.int m), .no] = some (.ok (upto 0 1 d.toNat) [.mu true u1, .im (.int w), .im (.int m), .no]) := by
    have : PD.gCons (gCallF F__law_take (gArB 0 (gArV (gOp dAdd (gVar 2) (gP (.int 1))) (gP [])))) (gP []) [.mu true u, .im (.int w), .im (.int m), .no] = some (.ok [.int d] [.mu true u1, .im (.int w), .im (.int m), .no]) := cons1 e rfl
    rw [let_of this, hr]
    rfl
  have L := lc_of (vs := [3]) hi rfl e2
  unfold F__law_text
  refine fn_rt (e := [.mu true u2, .im (.int w), .im (.int m), .no]) rfl (seq_rt (ret_of ?_)) rfl
  have f : gFrz (gLc (gB (PD.gCons (gCallF F__law_take (gArB 0 (gArV (gOp dAdd (gVar 2) (gP (.int 1))) (gP [])))) (gP [])) fun ds => gO (dRange1 ds)) (.one 3) (gP true) q1__law_text [3]) [.mu true u, .im (.int w), .im (.int m), .no] = some (.ok (.list (t.map PyData.int)) [.mu true u2, .im (.int w), .im (.int m), .no]) := by
    unfold gFrz
    rw [let_of L]
    rfl
  exact (let_of (f := fun ds => gO (dToTup ds)) (cons1 f rfl)).trans rfl
end K17

namespace K17
open PySem PySem.Spec PyProof.Rows L2 PD
theorem draws_some {w : Int} : ∀ (is : List Int) (u : List PyData) (n : Nat) (acc : List PyData), Ug n u → n + is.length ≤ 100000 → acc.length + is.length ≤ 1000 →
    ∃ (ls : List Int) (u' : List PyData), lcLoop (.one 3) q1__law_letters (gVar 3) [3] (is.map PyData.int) acc [.mu true u, .im (.int w), .no, .no] = some (acc ++ ls.map PyData.int, [.mu true u', .im (.int w), .no, .no]) ∧ ls.Sublist is ∧ Ug (n + is.length) u'
  | [], u, n, acc, hu, _, _ => ⟨[], u, by simp [lcLoop], List.Sublist.refl _, hu⟩
  | i :: is, u, n, acc, hu, hn, hl => by
    simp only [List.length_cons] at hn hl
    have hl2 : acc.length < 100000 := by omega
    obtain ⟨d, u', e, d0, d1, hu'⟩ := draw_of (env := [.mu true u, .im (.int w), .no, .im (.int i)]) (b := true) (G := gP (.int 2)) (low := 2) rfl rfl hu (by decide) (by decide) (by omega)
    have ht : q1__law_letters [.mu true u, .im (.int w), .no, .im (.int i)] = some (.ok (d == 0) [.mu true u', .im (.int w), .no, .im (.int i)]) := by
      unfold q1__law_letters gBool gOp
      rw [let_of (let_of e)]
      rw [Bool.false_xor]
      rfl
    by_cases c : (d == 0) = true
    · obtain ⟨ls, u2, e2, sl, hu2⟩ := draws_some (w := w) is u' (n + 1) (acc ++ [.int i]) hu' (by omega) (by simp; omega)
      refine ⟨i :: ls, u2, ?_, sl.cons₂ i, by rw [show n + (i :: is).length = n + 1 + is.length by simp; omega]; exact hu2⟩
      show lcLoop (.one 3) q1__law_letters (gVar 3) [3] (PyData.int i :: is.map PyData.int) acc _ = _
      unfold lcLoop
      show (match q1__law_letters [.mu true u, .im (.int w), .no, .im (.int i)] with | some (.ok true e2) => (match gVar 3 e2 with | some (.ok v e3) => if acc.length < 100000 then lcLoop (.one 3) q1__law_letters (gVar 3) [3] (is.map PyData.int) (acc ++ [v]) (wipeE e3 [3]) else none | _ => none) | some (.ok false e2) => lcLoop (.one 3) q1__law_letters (gVar 3) [3] (is.map PyData.int) acc (wipeE e2 [3]) | _ => none) = _
      rw [ht, c]
      show (if acc.length < 100000 then lcLoop (.one 3) q1__law_letters (gVar 3) [3] (is.map PyData.int) (acc ++ [.int i]) [.mu true u', .im (.int w), .no, .no] else none) = _
      rw [if_pos hl2, e2]
      simp
    · obtain ⟨ls, u2, e2, sl, hu2⟩ := draws_some (w := w) is u' (n + 1) acc hu' (by omega) (by omega)
      refine ⟨ls, u2, ?_, sl.cons i, by rw [show n + (i :: is).length = n + 1 + is.length by simp; omega]; exact hu2⟩
      show lcLoop (.one 3) q1__law_letters (gVar 3) [3] (PyData.int i :: is.map PyData.int) acc _ = _
      unfold lcLoop
      show (match q1__law_letters [.mu true u, .im (.int w), .no, .im (.int i)] with | some (.ok true e2) => (match gVar 3 e2 with | some (.ok v e3) => if acc.length < 100000 then lcLoop (.one 3) q1__law_letters (gVar 3) [3] (is.map PyData.int) (acc ++ [v]) (wipeE e3 [3]) else none | _ => none) | some (.ok false e2) => lcLoop (.one 3) q1__law_letters (gVar 3) [3] (is.map PyData.int) acc (wipeE e2 [3]) | _ => none) = _
      rw [ht, Bool.eq_false_iff.mpr c]
      exact e2
theorem letters_of {u : List PyData} {w : Int} {n : Nat} (hu : Ug n u) (h1 : 1 ≤ w) (h2 : w ≤ 100) (hn : n ≤ 5000) :
    ∃ (ls : List Int) (u' : List PyData) (n' : Nat), F__law_letters [.mu true u, .im (.int w)] = some (.val (dT ls) [.mu true u', .im (.int w)]) ∧ ls ≠ [] ∧ ls.Pairwise (· < ·) ∧ lets w ls ∧ ls.length ≤ 100 ∧ Ug n' u' ∧ n' ≤ n + 101 := by
  let is : List Int := (List.range w.toNat).map fun (k : Nat) => 1 + (k : Int) * 1
  have hil : is.length = w.toNat := by simp [is]
  have eu : upto 1 1 (w + 1 - 1).toNat = is.map PyData.int := by
    unfold upto
    rw [List.map_map, show (w + 1 - 1).toNat = w.toNat by omega]
    rfl
  obtain ⟨ls, u1, e, sl, hu1⟩ := draws_some (w := w) is u n [] hu (by omega) (by simp; omega)
  have hr : dRange2 [.int 1, .int (w + 1)] = some (is.map PyData.int) := by
    unfold dRange2
    dsimp only
    rw [bRg_ok2 (by decide) (by decide), bRg_ok2 (by omega) (by omega)]
    exact congrArg some eu
  have hi : (gB (PD.gCons (gP (.int 1)) (PD.gCons (gOp dAdd (gVar 1) (gP (.int 1))) (gP []))) fun ds => gO (dRange2 ds)) [.mu true u, .im (.int w), .no, .no] = some (.ok (is.map PyData.int) [.mu true u, .im (.int w), .no, .no]) := by
    have g2 := op_of (φ := dAdd) (Ga := gVar 1) (Gb := gP (.int 1)) (env := [.mu true u, .im (.int w), .no, .no]) (x := .int w) (y := .int 1) rfl rfl (dAdd_ii _ _)
    rw [let_of (cons1 (Ga := gP (.int 1)) (d := .int 1) rfl (one_of g2)), hr]
    rfl
  have h1' := asgF_of (i := 2) (lc_of (vs := [3]) hi rfl e) (e2 := [.mu true u1, .im (.int w), .mu false (ls.map PyData.int), .no]) rfl
  have hp : is.Pairwise (· < ·) := by
    show ((List.range w.toNat).map fun (k : Nat) => 1 + (k : Int) * 1).Pairwise (· < ·)
    rw [List.pairwise_map]
    exact List.pairwise_lt_range.imp fun h => by omega
  have hm : lets w is := fun x hx => by
    obtain ⟨k, hk, rfl⟩ := List.mem_map.mp hx
    have := List.mem_range.mp hk
    omega
  have hne : dEq true (.list (ls.map PyData.int)) (.list []) = some (.bool !ls.isEmpty) := by
    show (if (SeqAt.shaped _ && SeqAt.shaped _) = true then _ else _) = _
    rw [shaped_L, show SeqAt.shaped (.list []) = true from rfl]
    cases ls <;> rfl
  have ht2 : gBool (gOp (dEq true) (gVar 2) (gFrz (PD.gLst (gP [])))) [.mu true u1, .im (.int w), .mu false (ls.map PyData.int), .no] = some (.ok (!ls.isEmpty) [.mu true u1, .im (.int w), .im (.list (ls.map PyData.int)), .no]) := by
    unfold gBool gOp gFrz PD.gLst gB gP gO gVar
    simp [hne]
  unfold F__law_letters
  cases ls with
  | nil =>
    obtain ⟨d, u2, e2, d0, d1, hu2⟩ := letter_of (env := [.mu true u1, .im (.int w), .im (.list []), .no]) (b := true) (G := gVar 1) (low := w) rfl rfl hu1 h1 (by omega) (by omega)
    refine ⟨[d], u2, _, fn_rt (e := [.mu true u2, .im (.int w), .im (.list []), .no]) rfl ((seq_nx h1').trans (seq_rt (ret_of ?_))) rfl, by simp, by simp, fun x hx => by rw [List.mem_singleton.mp hx]; exact ⟨d0, d1⟩, by simp, hu2, by omega⟩
    refine (let_of (f := fun b => if b = true then gCall dToTup (PD.gCons (gVar 2) (gP [])) else PD.gTup (PD.gCons (gOp dAdd (gP (.int 1)) (gCallF F__law_take (gArB 0 (gArV (gVar 1) (gP []))))) (gP []))) ht2).trans ?_
    exact (let_of (f := fun ds => gO (if ds.length ≤ 100000 then some (PyData.tuple ds) else none)) (cons1 (Gr := gP []) e2 rfl)).trans rfl
  | cons l ls =>
    refine ⟨l :: ls, u1, _, fn_rt (e := [.mu true u1, .im (.int w), .im (.list ((l :: ls).map PyData.int)), .no]) rfl ((seq_nx h1').trans (seq_rt (ret_of ?_))) rfl, by simp, hp.sublist sl, fun x hx => hm x (sl.subset hx), by have := sl.length_le; omega, hu1, by omega⟩
    refine (let_of (f := fun b => if b = true then gCall dToTup (PD.gCons (gVar 2) (gP [])) else PD.gTup (PD.gCons (gOp dAdd (gP (.int 1)) (gCallF F__law_take (gArB 0 (gArV (gVar 1) (gP []))))) (gP []))) ht2).trans ?_
    rfl
end K17

namespace K17
open PySem PySem.Spec PyProof.Rows L2 PD
end K17

namespace K17
open PySem PySem.Spec PyProof.Rows L2 PD
theorem cut_to {ds : List PyData} {k : Nat} (h : k ≤ ds.length) : PD.cutD ds none (some (k : Int)) = ds.take k := by
  unfold PD.cutD
  rw [HT.sIx_nat, HT.sIx_none, Nat.min_eq_left h]
  rfl
theorem cut_from {ds : List PyData} {k : Nat} (h : k ≤ ds.length) : PD.cutD ds (some (k : Int)) none = ds.drop k := by
  unfold PD.cutD
  rw [HT.sIx_nat, HT.sIx_none, Nat.min_eq_left h, List.take_of_length_le (by rw [List.length_drop]; omega)]
/-- a tuple of a slice -/
theorem slice_of {ds : List PyData} {s : PyData} {env : En} {G : GE} {Gl Gh : Gm (Option Int)} {lo hi : Option Int} (hs : Sq ds s) (hg : G env = some (.ok s env)) (hl : Gl env = some (.ok lo env)) (hh : Gh env = some (.ok hi env)) : gCall dToTup (PD.gCons (gSl G Gl Gh) (gP [])) env = some (.ok (.tuple (PD.cutD ds lo hi)) env) := by
  have : gSl G Gl Gh env = some (.ok (match s with | .list _ => .list (PD.cutD ds lo hi) | _ => .tuple (PD.cutD ds lo hi)) env) := by
    unfold gSl
    rw [let_of hg, let_of hl, let_of hh]
    rcases hs with rfl | rfl <;> rfl
  refine call_of (one_of this) ?_
  rcases hs with rfl | rfl <;> rfl
theorem part_of {env : En} {G : GE} {n : Int} (h : G env = some (.ok (.int n) env)) : (gB G fun d => gO (dPart d)) env = some (.ok (some n) env) := (let_of h).trans rfl
theorem add_tup {a b : List PyData} (h : a.length + b.length ≤ 1000) : dAdd (.tuple a) (.tuple b) = some (.tuple (a ++ b)) := by
  show (if a.length + b.length ≤ 100000 then _ else _) = _
  rw [if_pos (by omega)]
theorem tup_of {env : En} {G : GA} {ds : List PyData} (h : G env = some (.ok ds env)) (hl : ds.length ≤ 1000) : PD.gTup G env = some (.ok (.tuple ds) env) := by
  unfold PD.gTup
  rw [let_of h, if_pos (by omega)]
  rfl
theorem if_of {Gt : GT} {B1 B2 : Gs} {env e : En} {b : Bool} {r : Option Fl} (h : Gt env = some (.ok b e)) (hr : (if b = true then B1 else B2) e = r) : gIfS Gt B1 B2 env = r := by
  unfold gIfS gS
  rw [h]
  exact hr
theorem gif_of {Gt : GT} {Ga Gb : GE} {env e : En} {r : Option (Rs PyData)} (b : Bool) (h : Gt env = some (.ok b e)) (hr : (if b = true then Ga else Gb) e = r) : gIf Gt Ga Gb env = r := (let_of h).trans hr
theorem bool_of {env e : En} {G : GE} {b : Bool} (h : G env = some (.ok (.bool b) e)) : gBool G env = some (.ok b e) := (let_of h).trans rfl
theorem asg_of {i : Nat} {G : GE} {env e1 e2 : En} {d : PyData} (h : G env = some (.ok d e1)) (hs : setIm e1 i d = some e2) : gAsg i G env = some (.nx e2) := by
  unfold gAsg gS
  rw [h]
  show (setIm e1 i d).map Fl.nx = _
  rw [hs]
  rfl
theorem eq_str (a b : String) : dEq false (.str a) (.str b) = some (.bool (decide ((a : Str) = (b : Str)))) := by
  simp [dEq]
section
variable {t : List Int} {s c : PyData} {w : Wd} {p : Nat} {x : Int}
end
end K17

namespace K17
open PySem PySem.Spec PyProof.Rows L2 PD
theorem callv2 {F : List Sl → Option FR} {a b : PyData} {env : En} {Ga Gb : GE} (ha : Ga env = some (.ok a env)) (hb : Gb env = some (.ok b env)) : gCallF F (gArV Ga (gArV Gb (gP []))) env = match F [.im a, .im b] with
    | none => none
    | some (.val d [_, _]) => some (.ok d env)
    | some (.exc c fs [_, _]) => some (.ex c fs env)
    | _ => none := by
  have h : gArV Ga (gArV Gb (gP [])) env = some (.ok [.val a, .val b] env) := by
    unfold gArV
    rw [let_of ha, let_of (let_of hb)]
    rfl
  unfold gCallF
  rw [let_of h, show slotsOf env [.val a, .val b] = some [.im a, .im b] by simp [slotsOf]]
  dsimp only
  rw [show bors [.val a, .val b] = [] from rfl, if_pos (by decide)]
  cases F [.im a, .im b] with
  | none => rfl
  | some r =>
    cases r with
    | val d sl =>
      match sl with
      | [] => rfl
      | [_] => rfl
      | [_, _] => rfl
      | _ :: _ :: _ :: _ => rfl
    | exc c fs sl =>
      match sl with
      | [] => rfl
      | [_] => rfl
      | [_, _] => rfl
      | _ :: _ :: _ :: _ => rfl
end K17

namespace K17
open PySem PySem.Spec PyProof.Rows L2 PD
theorem set_eq {ds : List PyData} {k : Nat} {d : PyData} (h : k < ds.length) : ds.set k d = ds.take k ++ [d] ++ ds.drop (k + 1) := by
  rw [List.set_eq_take_append_cons_drop, if_pos h]
  simp
theorem erase_eq {ds : List PyData} {k : Nat} (h : k < ds.length) : ds.eraseIdx k = ds.take k ++ ds.drop (k + 1) := List.eraseIdx_eq_take_drop_succ _ _
theorem asgT_of {t : Tg} {G : GE} {env e1 e2 : En} {d : PyData} (h : G env = some (.ok d e1)) (hs : tTG t d e1 = some e2) : gAsgT t G env = some (.nx e2) := by
  unfold gAsgT gS
  rw [h]
  show (tTG t d e1).map Fl.nx = _
  rw [hs]
  rfl
theorem sl_of {s z : PyData} {env : En} {G : GE} {Gl Gh : Gm (Option Int)} {lo hi : Option Int} (hg : G env = some (.ok s env)) (hl : Gl env = some (.ok lo env)) (hh : Gh env = some (.ok hi env)) (h : dSl lo hi s = some z) : gSl G Gl Gh env = some (.ok z env) := by
  unfold gSl
  rw [let_of hg, let_of hl, let_of hh, h]
  rfl
theorem met_of {φ : List PyData → List PyData → Option (List PyData)} {i : Nat} {G : GA} {env e1 : En} {b b1 : Bool} {ds as es d0 : List PyData} (h0 : env[i]? = some (.mu b d0)) (h : G env = some (.ok as e1)) (ho : e1[i]? = some (.mu b1 ds)) (hf : φ ds as = some es) : gMet φ i G env = some (.nx (e1.set i (.mu b1 es))) := by
  unfold gMet gS gHasO
  rw [show own? env i = some (b, d0) by unfold own?; rw [h0]]
  dsimp only
  rw [h]
  dsimp only
  rw [show own? e1 i = some (b1, ds) by unfold own?; rw [ho]]
  dsimp only
  rw [hf]
  rfl
theorem setN_of {i : Nat} {Gi G : GE} {env : En} {d : PyData} {k : Int} {j : Nat} {b : Bool} {ds : List PyData} (hG : G env = some (.ok d env)) (hi : Gi env = some (.ok (.int k) env)) (ho : env[i]? = some (.mu b ds)) (hk : ixN ds.length k = some j) : gSetN i Gi G env = some (.nx (env.set i (.mu b (ds.set j d)))) := by
  have hp : PD.peek env i = some (.list ds) := by unfold PD.peek; rw [ho]
  have hh : gHas i Gi env = some (.ok (.int k) env) := by
    unfold gHas
    rw [hp]
    exact hi
  unfold gSetN gS
  rw [hG]
  dsimp only
  rw [hh]
  show (setN? env i (.int k) d).map Fl.nx = _
  unfold setN?
  rw [show own? env i = some (b, ds) by unfold own?; rw [ho]]
  show ((ixN ds.length k).map fun j => env.set i (.mu b (ds.set j d))).map Fl.nx = _
  rw [hk]
  rfl
theorem callG {φ : List PyData → Option PyData} {G : GA} {env e1 : En} {ds : List PyData} {z : PyData} (h : G env = some (.ok ds e1)) (hz : φ ds = some z) : gCall φ G env = some (.ok z e1) := by
  unfold gCall
  rw [let_of h, hz]
  rfl
end K17

namespace K17
open PySem PySem.Spec PyProof.Rows L2 PD
/-! ### the law's comparison holds of equal things -/
def plD : Nat → PyData → Prop
  | 0, _ => False
  | _ + 1, .int _ => True
  | _ + 1, .bool _ => True
  | _ + 1, .str _ => True
  | n + 1, .list ds => ds.length ≤ 900 ∧ ∀ d ∈ ds, plD n d
  | n + 1, .tuple ds => ds.length ≤ 900 ∧ ∀ d ∈ ds, plD n d
  | _ + 1, _ => False
theorem lc_same {F : List Sl → Option FR} {a b : PyData} : ∀ (ds acc : List PyData), (∀ d ∈ ds, F [.im d, .im d] = some (.val (.bool true) [.im d, .im d])) → acc.length + ds.length ≤ 1000 →
    lcLoop (.tup [2, 3]) (gP true) (q1__law_same F) [2, 3] (PD.pairs ds ds) acc [.im a, .im b, .no, .no] = some (acc ++ ds.map (fun _ => PyData.bool true), [.im a, .im b, .no, .no])
  | [], acc, _, _ => by simp [lcLoop, PD.pairs]
  | d :: ds, acc, h, hl => by
    simp only [List.length_cons] at hl
    have e : q1__law_same F [.im a, .im b, .im d, .im d] = some (.ok (.bool true) [.im a, .im b, .im d, .im d]) := by
      unfold q1__law_same
      rw [callv2 (a := d) (b := d) rfl rfl, h d List.mem_cons_self]
    show lcLoop (.tup [2, 3]) (gP true) (q1__law_same F) [2, 3] (PyData.tuple [d, d] :: PD.pairs ds ds) acc _ = _
    unfold lcLoop
    show (match q1__law_same F [.im a, .im b, .im d, .im d] with | some (.ok v e3) => if acc.length < 100000 then lcLoop (.tup [2, 3]) (gP true) (q1__law_same F) [2, 3] (PD.pairs ds ds) (acc ++ [v]) (wipeE e3 [2, 3]) else none | _ => none) = _
    rw [e]
    show (if acc.length < 100000 then lcLoop (.tup [2, 3]) (gP true) (q1__law_same F) [2, 3] (PD.pairs ds ds) (acc ++ [PyData.bool true]) [.im a, .im b, .no, .no] else none) = _
    rw [if_pos (by omega), lc_same ds _ (fun d hd => h d (List.mem_cons_of_mem _ hd)) (by simp; omega)]
    simp
theorem all_true (ds : List PyData) : dAll [.list (ds.map fun _ => PyData.bool true)] = some (.bool true) := by
  rw [all_map ds fun _ => true]
  simp
theorem andV_of {Ga Gb : GE} {env e1 : En} {d : PyData} {r : Option (Rs PyData)} (h : Ga env = some (.ok d e1)) (ht : truD d = some true) (hr : Gb e1 = r) : gAndV Ga Gb env = r := by
  unfold gAndV
  rw [let_of h]
  show gB (gO (truD d)) _ e1 = r
  rw [ht]
  exact hr
theorem eq_self_int (i : Int) : dEq false (.int i) (.int i) = some (.bool true) := by
  show some (PyData.bool (xor false (i == i))) = _
  simp
theorem eq_self_bool (i : Bool) : dEq false (.bool i) (.bool i) = some (.bool true) := by
  show some (PyData.bool (xor false (i == i))) = _
  simp
theorem eq_self_str (i : Str) : dEq false (.str i) (.str i) = some (.bool true) := by
  show some (PyData.bool (xor false (decide (i = i)))) = _
  simp
theorem if_t {Gt : GT} {B1 B2 : Gs} {env e : En} {r : Option Fl} (h : Gt env = some (.ok true e)) (hr : B1 e = r) : gIfS Gt B1 B2 env = r := if_of h hr
theorem if_f {Gt : GT} {B1 B2 : Gs} {env e : En} {r : Option Fl} (h : Gt env = some (.ok false e)) (hr : B2 e = r) : gIfS Gt B1 B2 env = r := if_of h hr
theorem same_seq {F : List Sl → Option FR} {ds : List PyData} {d : PyData} (hd : d = .list ds ∨ d = .tuple ds) (hl : ds.length ≤ 900) (h : ∀ d ∈ ds, F [.im d, .im d] = some (.val (.bool true) [.im d, .im d])) :
    gRet (gAndV (gOp (dEq false) (gCall dLen (PD.gCons (gVar 0) (gP []))) (gCall dLen (PD.gCons (gVar 1) (gP [])))) (gCall dAll (PD.gCons (gFrz (gLc (gB (PD.gCons (gVar 0) (PD.gCons (gVar 1) (gP []))) fun ds => gO (dZip ds)) (.tup [2, 3]) (gP true) (q1__law_same F) [2, 3])) (gP [])))) [.im d, .im d, .no, .no] = some (.rt (.bool true) [.im d, .im d, .no, .no]) := by
  have hn : dLen [d] = some (.int ds.length) := by rcases hd with rfl | rfl <;> rfl
  have hz : dZip [d, d] = some (PD.pairs ds ds) := by rcases hd with rfl | rfl <;> rfl
  have hi : (gB (PD.gCons (gVar 0) (PD.gCons (gVar 1) (gP []))) fun ds => gO (dZip ds)) [.im d, .im d, .no, .no] = some (.ok (PD.pairs ds ds) [.im d, .im d, .no, .no]) := by
    rw [let_of (cons1 (Ga := gVar 0) (d := d) rfl (one_of (Ga := gVar 1) (d := d) rfl)), hz]
    rfl
  have L := lc_of (vs := [2, 3]) hi rfl (lc_same (a := d) (b := d) ds [] h (by simp; omega))
  have t4 : gCall dAll (PD.gCons (gFrz (gLc (gB (PD.gCons (gVar 0) (PD.gCons (gVar 1) (gP []))) fun ds => gO (dZip ds)) (.tup [2, 3]) (gP true) (q1__law_same F) [2, 3])) (gP [])) [.im d, .im d, .no, .no] = some (.ok (.bool true) [.im d, .im d, .no, .no]) := by
    refine callG (cons1 (Gr := gP []) (d := .list (ds.map fun _ => PyData.bool true)) ((let_of L).trans rfl) rfl) (all_true ds)
  exact ret_of (andV_of (op_of (call_of (one_of (d := d) rfl) hn) (call_of (one_of (d := d) rfl) hn) (eq_self_int _)) rfl t4)
theorem same_ok : ∀ (n : Nat) (d : PyData), plD n d → F__law_same n [.im d, .im d] = some (.val (.bool true) [.im d, .im d])
  | 0, d, h => by cases d <;> exact h.elim
  | n + 1, .int i, _ => by
    unfold F__law_same
    refine fn_rt (e := [.im (.int i), .im (.int i), .no, .no]) rfl ((seq_nx (if_of (b := false) rfl rfl)).trans ((seq_nx (if_of (b := false) rfl rfl)).trans (seq_rt (ret_of (andV_of (d := .bool true) rfl rfl (andV_of (d := .bool true) rfl rfl (op_of (x := .int i) (y := .int i) rfl rfl (eq_self_int i)))))))) rfl
  | n + 1, .bool i, _ => by
    unfold F__law_same
    refine fn_rt (e := [.im (.bool i), .im (.bool i), .no, .no]) rfl ((seq_nx (if_of (b := false) rfl rfl)).trans (seq_rt (if_of (b := true) rfl (seq_rt (ret_of (andV_of (d := .bool true) (op_of (x := .bool i) (y := .bool i) rfl rfl (eq_self_bool i)) rfl rfl)))))) rfl
  | n + 1, .str i, _ => by
    unfold F__law_same
    refine fn_rt (e := [.im (.str i), .im (.str i), .no, .no]) rfl ((seq_nx (if_of (b := false) rfl rfl)).trans (seq_rt (if_of (b := true) rfl (seq_rt (ret_of (andV_of (d := .bool true) (op_of (x := .str i) (y := .str i) rfl rfl (eq_self_str i)) rfl rfl)))))) rfl
  | n + 1, .list ds, h => by
    unfold F__law_same
    refine fn_rt (e := [.im (.list ds), .im (.list ds), .no, .no]) rfl (seq_rt (if_t rfl ((seq_nx (if_f rfl rfl)).trans (seq_rt (same_seq (.inl rfl) h.1 fun d hd => same_ok n d (h.2 d hd)))))) rfl
  | n + 1, .tuple ds, h => by
    unfold F__law_same
    refine fn_rt (e := [.im (.tuple ds), .im (.tuple ds), .no, .no]) rfl (seq_rt (if_t rfl ((seq_nx (if_f rfl rfl)).trans (seq_rt (same_seq (.inr rfl) h.1 fun d hd => same_ok n d (h.2 d hd)))))) rfl
  | n + 1, .none, h => h.elim
  | n + 1, .dict _, h => h.elim
end K17

namespace K17
open PySem PySem.Spec PyProof.Rows L2 PD
theorem arv {env : En} {Ga : GE} {Gr : Gm (List Ar)} {a : PyData} {as : List Ar} (ha : Ga env = some (.ok a env)) (hr : Gr env = some (.ok as env)) : gArV Ga Gr env = some (.ok (.val a :: as) env) := by
  unfold gArV
  rw [let_of ha, let_of hr]
  rfl
theorem callv1 {F : List Sl → Option FR} {a z : PyData} {env : En} {Ga : GE} (ha : Ga env = some (.ok a env)) (h : F [.im a] = some (.val z [.im a])) : gCallF F (gArV Ga (gP [])) env = some (.ok z env) := by
  have hh : gArV Ga (gP []) env = some (.ok [.val a] env) := by
    unfold gArV
    rw [let_of ha]
    rfl
  unfold gCallF
  rw [let_of hh, show slotsOf env [.val a] = some [.im a] by simp [slotsOf]]
  dsimp only
  rw [show bors [.val a] = [] from rfl, if_pos (by decide), h]
  rfl
theorem callv3 {F : List Sl → Option FR} {a b c z : PyData} {env : En} {Ga Gb Gc : GE} (ha : Ga env = some (.ok a env)) (hb : Gb env = some (.ok b env)) (hc : Gc env = some (.ok c env)) (h : F [.im a, .im b, .im c] = some (.val z [.im a, .im b, .im c])) : gCallF F (gArV Ga (gArV Gb (gArV Gc (gP [])))) env = some (.ok z env) := by
  have hh : gArV Ga (gArV Gb (gArV Gc (gP []))) env = some (.ok [.val a, .val b, .val c] env) := by
    exact arv ha (arv hb (arv hc rfl))
  unfold gCallF
  rw [let_of hh, show slotsOf env [.val a, .val b, .val c] = some [.im a, .im b, .im c] by simp [slotsOf]]
  dsimp only
  rw [show bors [.val a, .val b, .val c] = [] from rfl, if_pos (by decide), h]
  rfl
end K17

namespace K17
open PySem PySem.Spec PyProof.Rows L2 PD
def ltAll : List Int → List Int → Prop
  | x :: xs, y :: ys => x < y ∧ ltAll xs ys
  | _, _ => True
theorem lt_of_pw : ∀ {t : List Int}, t.Pairwise (· < ·) → ltAll t (t.drop 1)
  | [], _ => trivial
  | [x], _ => trivial
  | x :: y :: t, h => by
    obtain ⟨h1, h2⟩ := List.pairwise_cons.mp h
    exact ⟨h1 y List.mem_cons_self, lt_of_pw (t := y :: t) h2⟩
theorem lc_lt {a b c : PyData} : ∀ (xs ys : List Int) (acc : List PyData), ltAll xs ys → acc.length + xs.length ≤ 1000 →
    lcLoop (.tup [3, 4]) (gP true) q1_is_set_in [3, 4] (PD.pairs (xs.map PyData.int) (ys.map PyData.int)) acc [.im a, .im b, .im c, .no, .no] = some (acc ++ (PD.pairs (xs.map PyData.int) (ys.map PyData.int)).map (fun _ => PyData.bool true), [.im a, .im b, .im c, .no, .no])
  | [], ys, acc, _, _ => by simp [PD.pairs, lcLoop]
  | x :: xs, [], acc, _, _ => by simp [PD.pairs, lcLoop]
  | x :: xs, y :: ys, acc, h, hl => by
    simp only [List.length_cons] at hl
    have e : q1_is_set_in [.im a, .im b, .im c, .im (.int x), .im (.int y)] = some (.ok (.bool true) [.im a, .im b, .im c, .im (.int x), .im (.int y)]) := op_of (x := .int x) (y := .int y) rfl rfl (by show some (PyData.bool (decide (x < y))) = _; rw [decide_eq_true h.1])
    show lcLoop (.tup [3, 4]) (gP true) q1_is_set_in [3, 4] (PyData.tuple [.int x, .int y] :: PD.pairs (xs.map PyData.int) (ys.map PyData.int)) acc _ = _
    unfold lcLoop
    show (match q1_is_set_in [.im a, .im b, .im c, .im (.int x), .im (.int y)] with | some (.ok v e3) => if acc.length < 100000 then lcLoop (.tup [3, 4]) (gP true) q1_is_set_in [3, 4] (PD.pairs (xs.map PyData.int) (ys.map PyData.int)) (acc ++ [v]) (wipeE e3 [3, 4]) else none | _ => none) = _
    rw [e]
    show (if acc.length < 100000 then lcLoop (.tup [3, 4]) (gP true) q1_is_set_in [3, 4] (PD.pairs (xs.map PyData.int) (ys.map PyData.int)) (acc ++ [PyData.bool true]) [.im a, .im b, .im c, .no, .no] else none) = _
    rw [if_pos (by omega), lc_lt xs ys _ h.2 (by simp; omega)]
    simp [PD.pairs]
theorem set_in {t : List Int} {lo hi : Int} (hp : t.Pairwise (· < ·)) (h : t.all (fun x => decide (lo ≤ x) && decide (x ≤ hi)) = true) (ht : t.length ≤ 900) : F_is_set_in [.im (dT t), .im (.int lo), .im (.int hi)] = some (.val (.bool true) [.im (dT t), .im (.int lo), .im (.int hi)]) := by
  let e : En := [.im (dT t), .im (.int lo), .im (.int hi), .no, .no]
  have r := row_in t lo hi ht
  rw [h] at r
  have v := callv3 (F := F_is_row_in) (env := e) (Ga := gVar 0) (Gb := gVar 1) (Gc := gVar 2) rfl rfl rfl r
  have hcut : t.length = 0 ∨ 1 ≤ t.length := by omega
  have sl : gSl (gVar 0) (gB (gP (.int 1)) fun d => gO (dPart d)) (gP none) e = some (.ok (dT (t.drop 1)) e) := by
    refine sl_of (s := dT t) (lo := some 1) (hi := none) rfl (part_of (n := 1) rfl) rfl ?_
    show some (PyData.tuple (PD.cutD (t.map PyData.int) (some 1) none)) = some (PyData.tuple ((t.drop 1).map PyData.int))
    congr 2
    rcases hcut with z | z
    · rw [List.length_eq_zero_iff] at z
      subst z
      rfl
    · rw [show (some (1 : Int)) = some ((1 : Nat) : Int) from rfl, cut_from (by rw [List.length_map]; exact z), List.map_drop]
  have hi' : (gB (PD.gCons (gVar 0) (PD.gCons (gSl (gVar 0) (gB (gP (.int 1)) fun d => gO (dPart d)) (gP none)) (gP []))) fun ds => gO (dZip ds)) e = some (.ok (PD.pairs (t.map PyData.int) ((t.drop 1).map PyData.int)) e) := by
    rw [let_of (cons1 (Ga := gVar 0) (d := dT t) rfl (one_of sl))]
    rfl
  have L := lc_of (vs := [3, 4]) hi' rfl (lc_lt (a := dT t) (b := .int lo) (c := .int hi) t (t.drop 1) [] (lt_of_pw hp) (by simp; omega))
  have w := callG (φ := dAll) (cons1 (Gr := gP []) ((let_of (f := fun ds => gP (PyData.list ds)) L).trans rfl) rfl) (all_true _)
  unfold F_is_set_in
  exact fn_rt (e := e) rfl (seq_rt (ret_of (andV_of (d := .bool true) v rfl w))) rfl
theorem letters_ok {t : List Int} {w : Int} (hp : t.Pairwise (· < ·)) (h : lets w t) (hn : t ≠ []) (ht : t.length ≤ 900) : F_is_letters [.im (.int w), .im (dT t)] = some (.val (.bool true) [.im (.int w), .im (dT t)]) := by
  have s := set_in (lo := 1) (hi := w) hp (List.all_eq_true.mpr fun x hx => by rw [decide_eq_true (h x hx).1, decide_eq_true (h x hx).2]; rfl) ht
  let e : En := [.im (.int w), .im (dT t)]
  have v := callv3 (F := F_is_set_in) (env := e) (Ga := gVar 1) (Gb := gP (.int 1)) (Gc := gVar 0) rfl rfl rfl s
  have l : gCall dLen (PD.gCons (gVar 1) (gP [])) e = some (.ok (.int t.length) e) := call_of (one_of (d := dT t) rfl) (by rw [len_sq (.inl rfl), List.length_map])
  have hpos : 0 < t.length := List.length_pos_iff.mpr hn
  unfold F_is_letters
  exact fn_rt (e := e) rfl (seq_rt (ret_of (andV_of (d := .bool true) v rfl (op_of l rfl (by show some (PyData.bool (decide ((0 : Int) < t.length))) = some (PyData.bool true); rw [decide_eq_true (by omega)]))))) rfl
end K17

namespace K17
open PySem PySem.Spec PyProof.Rows L2 PD
/-! ### pure: more letters, the text turned round -/
theorem find_map_getD {P : Nat → Bool} {f : Nat → Nat} {df : Nat} : ∀ l : List Nat, ((l.map f).find? P).getD df = ((l.find? (P ∘ f)).map f).getD df := by
  intro l
  rw [List.find?_map]
theorem last_turned (t ls : List Int) (p : Nat) (hp : p ≤ t.length + 1) : (t.length : Int) + 1 - (nextP t.reverse (t.length + 1 - p) ls : Nat) = (lastP t p ls : Nat) := by
  unfold nextP lastP
  rw [List.length_reverse, find_map_getD, find_map_getD, show t.length - (t.length + 1 - p) = p - 1 by omega]
  have e : ((List.range (p - 1)).find? ((fun j => inT ls (t.reverse.getD (j - 1) 0)) ∘ fun k => t.length + 1 - p + 1 + k)) = (List.range (p - 1)).find? ((fun j => inT ls (t.getD (j - 1) 0)) ∘ fun k => p - 1 - k) := by
    refine find_congr fun k hk => ?_
    have := List.mem_range.mp hk
    simp only [Function.comp_def]
    rw [show t.length + 1 - p + 1 + k - 1 = t.length + 1 - p + k by omega, List.getD_eq_getElem?_getD, List.getElem?_reverse (by omega), List.getD_eq_getElem?_getD]
    rw [show t.length - 1 - (t.length + 1 - p + k) = p - 1 - k - 1 by omega]
  rw [e]
  cases hf : (List.range (p - 1)).find? ((fun j => inT ls (t.getD (j - 1) 0)) ∘ fun k => p - 1 - k) with
  | none => simp
  | some k =>
    have := List.mem_range.mp (List.mem_of_find?_eq_some hf)
    simp only [Option.map_some, Option.getD_some]
    omega
end K17

namespace K17
open PySem PySem.Spec PyProof.Rows L2 PD
/-! ### one of some goods -/
theorem of_ok {u gs : List PyData} {n : Nat} (hu : Ug n u) (hn : n ≤ 10000) (h0 : gs ≠ []) (h1 : gs.length ≤ 100) : ∃ (d : PyData) (u' : List PyData), F__law_of [.mu true u, .im (.list gs)] = some (.val d [.mu true u', .im (.list gs)]) ∧ d ∈ gs ∧ Ug (n + 1) u' := by
  have hp : 0 < gs.length := List.length_pos_iff.mpr h0
  obtain ⟨i, u', e, i0, i1, hu'⟩ := draw_of (env := [.mu true u, .im (.list gs)]) (b := true) (G := gCall dLen (PD.gCons (gVar 1) (gP []))) (low := gs.length) rfl (call_of (one_of (d := .list gs) rfl) rfl) hu (by omega) (by omega) (by omega)
  have hlt : i.toNat < gs.length := by omega
  refine ⟨gs[i.toNat], u', ?_, List.getElem_mem hlt, hu'⟩
  have ix : dIx (.list gs) (.int i) = some gs[i.toNat] := by
    have := at_int gs i.toNat _ (List.getElem?_eq_getElem hlt)
    rw [show ((i.toNat : Nat) : Int) = i by omega] at this
    exact this
  unfold F__law_of
  refine fn_rt (e := [.mu true u', .im (.list gs)]) rfl (seq_rt (ret_of ?_)) rfl
  exact (let_of (show gVar 1 [.mu true u, .im (.list gs)] = some (.ok (.list gs) _) from rfl)).trans ((let_of e).trans (by rw [ix]; rfl))
theorem callu {F : List Sl → Option FR} {u u' : List PyData} {a z : PyData} {b : Bool} {env : En} {Ga : GE} (he : env[0]? = some (.mu b u)) (ha : Ga env = some (.ok a env)) (h : F [.mu true u, .im a] = some (.val z [.mu true u', .im a])) : gCallF F (gArB 0 (gArV Ga (gP []))) env = some (.ok z (env.set 0 (.mu b u'))) := by
  have ho : own? env 0 = some (b, u) := by unfold own?; rw [he]
  have hh : gArB 0 (gArV Ga (gP [])) env = some (.ok [.bor 0, .val a] env) := by
    unfold gArB gHasO
    rw [ho]
    dsimp only
    rw [let_of (arv ha rfl)]
    rfl
  unfold gCallF
  rw [let_of hh, show slotsOf env [.bor 0, .val a] = some [.mu true u, .im a] by unfold slotsOf; rw [ho]; rfl]
  dsimp only
  rw [show bors [.bor 0, .val a] = [0] from rfl, if_pos (by decide), h]
  show (takeBack env [.bor 0, .val a] [.mu true u', .im a]).map _ = _
  unfold takeBack
  rw [ho]
  rfl
theorem callu2 {F : List Sl → Option FR} {u u' : List PyData} {a c z : PyData} {b : Bool} {env : En} {Ga Gc : GE} (he : env[0]? = some (.mu b u)) (ha : Ga env = some (.ok a env)) (hc : Gc env = some (.ok c env)) (h : F [.mu true u, .im a, .im c] = some (.val z [.mu true u', .im a, .im c])) : gCallF F (gArB 0 (gArV Ga (gArV Gc (gP [])))) env = some (.ok z (env.set 0 (.mu b u'))) := by
  have ho : own? env 0 = some (b, u) := by unfold own?; rw [he]
  have hh : gArB 0 (gArV Ga (gArV Gc (gP []))) env = some (.ok [.bor 0, .val a, .val c] env) := by
    unfold gArB gHasO
    rw [ho]
    dsimp only
    rw [let_of (arv ha (arv hc rfl))]
    rfl
  unfold gCallF
  rw [let_of hh, show slotsOf env [.bor 0, .val a, .val c] = some [.mu true u, .im a, .im c] by unfold slotsOf; rw [ho]; rfl]
  dsimp only
  rw [show bors [.bor 0, .val a, .val c] = [0] from rfl, if_pos (by decide), h]
  show (takeBack env [.bor 0, .val a, .val c] [.mu true u', .im a, .im c]).map _ = _
  unfold takeBack
  rw [ho]
  rfl
/-! ### a turn of the first loop -/
/-- a slot that may be given a value -/
def fr : Sl → Prop
  | .mu true _ => False
  | _ => True
theorem par_nx {i j : Nat} {G : GA} {env e1 : En} {a b : PyData} {s s' : Sl} (h : G env = some (.ok [a, b] e1)) (hi : e1[i]? = some s) (hj : (e1.set i (.im a))[j]? = some s') (fs : fr s) (fs' : fr s') : gPar [i, j] G env = some (.nx ((e1.set i (.im a)).set j (.im b))) := by
  have si : ∀ {e : En} {k : Nat} {s : Sl} {d : PyData}, e[k]? = some s → fr s → setIm e k d = some (e.set k (.im d)) := fun {e k s d} h f => by
    unfold setIm
    rw [h]
    cases s with
    | no => rfl
    | im d => rfl
    | mu b ds => cases b <;> first | rfl | exact f.elim
  unfold gPar gS
  rw [h]
  show (setIms e1 [i, j] [a, b]).map Fl.nx = _
  unfold setIms
  rw [si hi fs]
  show (setIms (e1.set i (.im a)) [j] [b]).map Fl.nx = _
  unfold setIms
  rw [si hj fs']
  rfl
end K17

namespace K17
open PySem PySem.Spec PyProof.Rows L2 PD
theorem lst_of {G : GA} {env e1 : En} {ds : List PyData} (h : G env = some (.ok ds e1)) (hl : ds.length ≤ 1000) : PD.gLst G env = some (.ok ds e1) := by
  unfold PD.gLst
  rw [let_of h, if_pos (by omega)]
  rfl
theorem frz_of {G : GA} {env e1 : En} {ds : List PyData} (h : G env = some (.ok ds e1)) : gFrz G env = some (.ok (.list ds) e1) := (let_of h).trans rfl
theorem asgF_nx {i : Nat} {G : GA} {env e1 : En} {ds : List PyData} {s : Sl} (h : G env = some (.ok ds e1)) (hi : e1[i]? = some s) (f : fr s) : gAsgF i G env = some (.nx (e1.set i (.mu false ds))) := by
  refine asgF_of h ?_
  unfold setMu
  rw [hi]
  cases s with
  | no => rfl
  | im d => rfl
  | mu b ds => cases b <;> first | rfl | exact f.elim
theorem asg_nx {i : Nat} {G : GE} {env e1 : En} {d : PyData} {s : Sl} (h : G env = some (.ok d e1)) (hi : e1[i]? = some s) (f : fr s) : gAsg i G env = some (.nx (e1.set i (.im d))) := by
  refine asg_of h ?_
  unfold setIm
  rw [hi]
  cases s with
  | no => rfl
  | im d => rfl
  | mu b ds => cases b <;> first | rfl | exact f.elim
theorem same_call {a : PyData} {env e1 e2 : En} {Ga Gb : GE} (ha : Ga env = some (.ok a e1)) (hb : Gb e1 = some (.ok a e2)) (h : plD 12 a) : (gB (gTru (gCallF (F__law_same 12) (gArV Ga (gArV Gb (gP []))))) fun b => gP !b) env = some (.ok false e2) := by
  have hh : gArV Ga (gArV Gb (gP [])) env = some (.ok [.val a, .val a] e2) := by
    unfold gArV
    rw [let_of ha, let_of (let_of hb)]
    rfl
  have c : gCallF (F__law_same 12) (gArV Ga (gArV Gb (gP []))) env = some (.ok (.bool true) e2) := by
    unfold gCallF
    rw [let_of hh, show slotsOf e2 [.val a, .val a] = some [.im a, .im a] by simp [slotsOf]]
    dsimp only
    rw [show bors [.val a, .val a] = [] from rfl, if_pos (by decide), same_ok 12 a h]
    rfl
  exact (let_of ((let_of c).trans rfl)).trans rfl
theorem app_of {i : Nat} {G : GE} {env e1 : En} {b b1 : Bool} {d0 ds : List PyData} {d : PyData} (h0 : env[i]? = some (.mu b d0)) (h : G env = some (.ok d e1)) (ho : e1[i]? = some (.mu b1 ds)) (hl : ds.length ≤ 1000) : gApp i G env = some (.nx (e1.set i (.mu b1 (ds ++ [d])))) := by
  unfold gApp gS gHasO
  rw [show own? env i = some (b, d0) by unfold own?; rw [h0]]
  dsimp only
  rw [h]
  dsimp only
  rw [show own? e1 i = some (b1, ds) by unfold own?; rw [ho]]
  dsimp only
  rw [if_pos (by omega)]
theorem add_lst {a b : List PyData} (h : a.length + b.length ≤ 1000) : dAdd (.list a) (.list b) = some (.list (a ++ b)) := by
  show (if a.length + b.length ≤ 100000 then _ else _) = _
  rw [if_pos (by omega)]
theorem plD_ints (n : Nat) (t : List Int) (h : t.length ≤ 900) : plD (n + 2) (dT t) := ⟨by rw [List.length_map]; exact h, fun d hd => by
  obtain ⟨x, _, rfl⟩ := List.mem_map.mp hd
  trivial⟩
end K17

namespace K17
open PySem PySem.Spec PyProof.Rows L2 PD
theorem tupE_of {env e1 : En} {G : GA} {ds : List PyData} (h : G env = some (.ok ds e1)) (hl : ds.length ≤ 1000) : PD.gTup G env = some (.ok (.tuple ds) e1) := by
  unfold PD.gTup
  rw [let_of h, if_pos (by omega)]
  rfl
end K17

namespace K17
open PySem PySem.Spec PyProof.Rows L2 PD
end K17

namespace K17
open PySem PySem.Spec PyProof.Rows L2 PD
theorem same_c {a : PyData} {env e1 e2 : En} {Ga Gb : GE} (ha : Ga env = some (.ok a e1)) (hb : Gb e1 = some (.ok a e2)) (h : plD 12 a) : gCallF (F__law_same 12) (gArV Ga (gArV Gb (gP []))) env = some (.ok (.bool true) e2) := by
  have hh : gArV Ga (gArV Gb (gP [])) env = some (.ok [.val a, .val a] e2) := by
    unfold gArV
    rw [let_of ha, let_of (let_of hb)]
    rfl
  unfold gCallF
  rw [let_of hh, show slotsOf e2 [.val a, .val a] = some [.im a, .im a] by simp [slotsOf]]
  dsimp only
  rw [show bors [.val a, .val a] = [] from rfl, if_pos (by decide), same_ok 12 a h]
  rfl
theorem cut_head (ds : List PyData) (k : Nat) : PD.cutD ds none (some (k : Int)) = ds.take k := by
  unfold PD.cutD
  rw [HT.sIx_nat, HT.sIx_none]
  show (ds.drop 0).take (min k ds.length - 0) = _
  rw [List.drop_zero, Nat.sub_zero]
  by_cases c : k ≤ ds.length
  · rw [Nat.min_eq_left c]
  · rw [Nat.min_eq_right (by omega), List.take_length, List.take_of_length_le (by omega)]
theorem cut_last (ds : List PyData) : PD.cutD ds none (some (-1)) = ds.take (ds.length - 1) := by
  unfold PD.cutD
  rw [HT.sIx_none]
  show (ds.drop 0).take (((-1 : Int) + (ds.length : Int)).toNat - 0) = _
  rw [List.drop_zero, Nat.sub_zero, show ((-1 : Int) + (ds.length : Int)).toNat = ds.length - 1 by omega]
end K17

namespace K17
open PySem PySem.Spec PyProof.Rows L2 PD
end K17

namespace K17
open PySem PySem.Spec PyProof.Rows L2 PD
/-! ### sides, and what is found -/
def sd : Bool → Str | true => "next" | false => "last"
theorem side_n (b : Bool) : dEq false (.str (sd b)) (.str "next") = some (.bool b) := by
  show some (PyData.bool (xor false (decide (sd b = ("next" : Str))))) = _
  cases b
  · rw [show decide (sd false = ("next" : Str)) = false by decide +kernel]; rfl
  · rw [show decide (sd true = ("next" : Str)) = true by decide +kernel]; rfl
theorem side_l (b : Bool) : dEq false (.str (sd b)) (.str "last") = some (.bool !b) := by
  show some (PyData.bool (xor false (decide (sd b = ("last" : Str))))) = _
  cases b
  · rw [show decide (sd false = ("last" : Str)) = true by decide +kernel]; rfl
  · rw [show decide (sd true = ("last" : Str)) = false by decide +kernel]; rfl
def fnd (t : List Int) (p : Nat) (b : Bool) (ls : List Int) : Nat := if b = true then nextP t p ls else lastP t p ls
theorem nextP_le (t ls : List Int) (p : Nat) : nextP t p ls ≤ t.length + 1 := by
  unfold nextP
  cases h : List.find? (fun j => inT ls (t.getD (j - 1) 0)) ((List.range (t.length - p)).map fun k => p + 1 + k) with
  | none => exact Nat.le_refl _
  | some j =>
    obtain ⟨k, hk, rfl⟩ := List.mem_map.mp (List.mem_of_find?_eq_some h)
    have := List.mem_range.mp hk
    show p + 1 + k ≤ _
    omega
theorem lastP_le (t ls : List Int) (p : Nat) (hp : p ≤ t.length + 1) : lastP t p ls ≤ t.length := by
  unfold lastP
  cases h : List.find? (fun j => inT ls (t.getD (j - 1) 0)) ((List.range (p - 1)).map fun k => p - 1 - k) with
  | none => exact Nat.zero_le _
  | some j =>
    obtain ⟨k, hk, rfl⟩ := List.mem_map.mp (List.mem_of_find?_eq_some h)
    have := List.mem_range.mp hk
    show p - 1 - k ≤ _
    omega
theorem fnd_le (t ls : List Int) (p : Nat) (b : Bool) (hp : p ≤ t.length + 1) : fnd t p b ls ≤ t.length + 1 := by
  cases b
  · exact Nat.le_succ_of_le (lastP_le t ls p hp)
  · exact nextP_le t ls p
theorem callv4 {F : List Sl → Option FR} {a b c d z : PyData} {env : En} {Ga Gb Gc Gd : GE} (ha : Ga env = some (.ok a env)) (hb : Gb env = some (.ok b env)) (hc : Gc env = some (.ok c env)) (hd : Gd env = some (.ok d env)) (h : F [.im a, .im b, .im c, .im d] = some (.val z [.im a, .im b, .im c, .im d])) : gCallF F (gArV Ga (gArV Gb (gArV Gc (gArV Gd (gP []))))) env = some (.ok z env) := by
  have hh : gArV Ga (gArV Gb (gArV Gc (gArV Gd (gP [])))) env = some (.ok [.val a, .val b, .val c, .val d] env) := by
    exact arv ha (arv hb (arv hc (arv hd rfl)))
  unfold gCallF
  rw [let_of hh, show slotsOf env [.val a, .val b, .val c, .val d] = some [.im a, .im b, .im c, .im d] by simp [slotsOf]]
  dsimp only
  rw [show bors [.val a, .val b, .val c, .val d] = [] from rfl, if_pos (by decide), h]
  rfl
theorem callv2' {F : List Sl → Option FR} {a b z : PyData} {env : En} {Ga Gb : GE} (ha : Ga env = some (.ok a env)) (hb : Gb env = some (.ok b env)) (h : F [.im a, .im b] = some (.val z [.im a, .im b])) : gCallF F (gArV Ga (gArV Gb (gP []))) env = some (.ok z env) := by
  rw [callv2 ha hb, h]
section
variable {t ls : List Int} {s l : PyData} {p : Nat}
theorem found_ok (hs : Sq (t.map PyData.int) s) (hl : Sq (ls.map PyData.int) l) (hp : p ≤ t.length + 1) (ht : t.length ≤ 100) (b : Bool) : F_found [.im s, .im (.int p), .im (.str (sd b)), .im l] = some (.val (.int (fnd t p b ls)) [.im s, .im (.int p), .im (.str (sd b)), .im l]) := by
  let e : En := [.im s, .im (.int p), .im (.str (sd b)), .im l]
  have tb : gBool (gOp (dEq false) (gVar 2) (gP (.str "next"))) e = some (.ok b e) := bool_of (op_of (x := .str (sd b)) (y := .str "next") rfl rfl (side_n b))
  unfold F_found
  cases b with
  | true => exact fn_rt (e := e) rfl (seq_rt (if_t tb (seq_rt (ret_of (callv3 (Ga := gVar 0) (Gb := gVar 1) (Gc := gVar 3) (env := e) rfl rfl rfl (next_ok hs hl hp ht)))))) rfl
  | false => exact fn_rt (e := e) rfl ((seq_nx (if_f tb rfl)).trans (seq_rt (ret_of (callv3 (Ga := gVar 0) (Gb := gVar 1) (Gc := gVar 3) (env := e) rfl rfl rfl (last_ok hs hl hp ht))))) rfl
theorem lfound_ok (hs : Sq (t.map PyData.int) s) (hl : Sq (ls.map PyData.int) l) (hp : p ≤ t.length + 1) (ht : t.length ≤ 100) (b : Bool) : F__law_found [.im s, .im (.int p), .im (.str (sd b)), .im l] = some (.val (.int (fnd t p b ls)) [.im s, .im (.int p), .im (.str (sd b)), .im l]) := by
  let e : En := [.im s, .im (.int p), .im (.str (sd b)), .im l]
  have tb : gBool (gOp (dEq false) (gVar 2) (gP (.str "next"))) e = some (.ok b e) := bool_of (op_of (x := .str (sd b)) (y := .str "next") rfl rfl (side_n b))
  unfold F__law_found
  cases b with
  | true => exact fn_rt (e := e) rfl (seq_rt (ret_of (gif_of true tb (callv3 (Ga := gVar 0) (Gb := gVar 1) (Gc := gVar 3) (env := e) rfl rfl rfl (lnext_ok hs hl hp ht))))) rfl
  | false => exact fn_rt (e := e) rfl (seq_rt (ret_of (gif_of false tb (callv3 (Ga := gVar 0) (Gb := gVar 1) (Gc := gVar 3) (env := e) rfl rfl rfl (llast_ok hs hl hp ht))))) rfl
end
/-! ### the row of a naming -/
abbrev Nm := List (Bool × List Int)
def NmD : Nm → List PyData → Prop
  | [], [] => True
  | x :: N, d :: ds => (∃ l, Sq (x.2.map PyData.int) l ∧ Sq [.str (sd x.1), l] d) ∧ NmD N ds
  | _, _ => False
def rowP (t : List Int) : Nat → Nm → List Nat
  | _, [] => []
  | p, x :: N => fnd t p x.1 x.2 :: rowP t (fnd t p x.1 x.2) N
abbrev nI (k : Nat) : PyData := .int k
def rowB (F : List Sl → Option FR) : Gs := gSeq (gAsg 2 (gCallF (F) (gArV (gVar 0) (gArV (gVar 2) (gArV (gVar 4) (gArV (gVar 5) (gP []))))))) (gSeq (gApp 3 (gVar 2)) gSkip)
theorem row_loop {F : List Sl → Option FR} {s n : PyData} {t : List Int} (hF : ∀ (p : Nat) (b : Bool) (ls : List Int) (l : PyData), Sq (ls.map PyData.int) l → p ≤ t.length + 1 → F [.im s, .im (.int p), .im (.str (sd b)), .im l] = some (.val (.int (fnd t p b ls)) [.im s, .im (.int p), .im (.str (sd b)), .im l])) :
    ∀ (N : Nm) (ds : List PyData) (p : Nat) (acc : List Nat) (s4 s5 : Sl), NmD N ds → p ≤ t.length + 1 → acc.length + N.length ≤ 900 → fr s4 → fr s5 →
      ∃ r2 r4 r5, forLoop (.tup [4, 5]) (rowB F) ds [.im s, .im n, .im (.int p), .mu false (acc.map nI), s4, s5] = some (.nx [.im s, .im n, r2, .mu false ((acc ++ rowP t p N).map nI), r4, r5])
  | [], [], p, acc, s4, s5, _, _, _, _, _ => ⟨_, _, _, by unfold forLoop rowP; rw [List.append_nil]⟩
  | [], d :: ds, p, acc, s4, s5, h, _, _, _, _ => h.elim
  | x :: N, [], p, acc, s4, s5, h, _, _, _, _ => h.elim
  | x :: N, d :: ds, p, acc, s4, s5, h, hp, hl, f4, f5 => by
    obtain ⟨⟨l, hl1, hd⟩, hN⟩ := h
    simp only [List.length_cons] at hl
    have hs : tTG (.tup [4, 5]) d [.im s, .im n, .im (.int p), .mu false (acc.map nI), s4, s5] = some [.im s, .im n, .im (.int p), .mu false (acc.map nI), .im (.str (sd x.1)), .im l] := by
      have : setIms [.im s, .im n, .im (.int p), .mu false (acc.map nI), s4, s5] [4, 5] [.str (sd x.1), l] = some [.im s, .im n, .im (.int p), .mu false (acc.map nI), .im (.str (sd x.1)), .im l] := by
        cases s4 with
        | no => cases s5 with
          | no => rfl
          | im d => rfl
          | mu b ds => cases b <;> first | rfl | exact f5.elim
        | im d => cases s5 with
          | no => rfl
          | im d => rfl
          | mu b ds => cases b <;> first | rfl | exact f5.elim
        | mu b ds =>
          cases b
          · cases s5 with
            | no => rfl
            | im d => rfl
            | mu b ds => cases b <;> first | rfl | exact f5.elim
          · exact f4.elim
      rcases hd with rfl | rfl <;> exact this
    let e1 : En := [.im s, .im n, .im (.int p), .mu false (acc.map nI), .im (.str (sd x.1)), .im l]
    have c := callv4 (F := F) (env := e1) (Ga := gVar 0) (Gb := gVar 2) (Gc := gVar 4) (Gd := gVar 5) rfl rfl rfl rfl (hF p x.1 x.2 l hl1 hp)
    have st1 := asg_nx (i := 2) c (s := .im (.int p)) rfl trivial
    let q := fnd t p x.1 x.2
    let e2 : En := [.im s, .im n, .im (.int q), .mu false (acc.map nI), .im (.str (sd x.1)), .im l]
    have st2 := app_of (i := 3) (env := e2) (b := false) (b1 := false) (d0 := acc.map nI) (ds := acc.map nI) (G := gVar 2) (d := .int q) rfl rfl rfl (by rw [List.length_map]; omega)
    obtain ⟨r2, r4, r5, e3⟩ := row_loop hF N ds q (acc ++ [q]) (.im (.str (sd x.1))) (.im l) hN (fnd_le t x.2 p x.1 hp) (by simp; omega) trivial trivial
    refine ⟨r2, r4, r5, ?_⟩
    unfold forLoop
    rw [hs]
    dsimp only
    have b1 : rowB F e1 = some (.nx [.im s, .im n, .im (.int q), .mu false ((acc ++ [q]).map nI), .im (.str (sd x.1)), .im l]) := by
      unfold rowB
      rw [List.map_append]
      exact (seq_nx st1).trans ((seq_nx st2).trans rfl)
    rw [show rowB F [.im s, .im n, .im (.int p), .mu false (acc.map nI), .im (.str (sd x.1)), .im l] = _ from b1]
    dsimp only
    rw [e3]
    rw [show rowP t p (x :: N) = q :: rowP t q N from rfl, show acc ++ [q] ++ rowP t q N = acc ++ q :: rowP t q N by simp]
def startP (t : List Int) : Nm → Nat
  | (true, _) :: _ => 0
  | (false, _) :: _ => t.length + 1
  | [] => 0
theorem startP_le (t : List Int) : ∀ N : Nm, startP t N ≤ t.length + 1
  | (true, _) :: _ => Nat.zero_le _
  | (false, _) :: _ => Nat.le_refl _
  | [] => Nat.zero_le _
theorem q_row : q1_row_named = rowB F_found := rfl
theorem q_lrow : q1__law_row = rowB F__law_found := rfl
abbrev rowD (t : List Int) (N : Nm) : PyData := .tuple ((rowP t (startP t N) N).map nI)
section
variable {t : List Int} {s n : PyData} {N : Nm} {ds : List PyData}
theorem head_side (hn : Sq ds n) (hN : NmD N ds) (h0 : N ≠ []) : ∃ (b : Bool) (ls : List Int) (N' : Nm) (d l : PyData), N = (b, ls) :: N' ∧ dIx n (.int 0) = some d ∧ dIx d (.int 0) = some (.str (sd b)) := by
  match N, ds, hN with
  | [], _, _ => exact (h0 rfl).elim
  | (b, ls) :: N', d :: ds, ⟨⟨l, h1, h2⟩, _⟩ => exact ⟨b, ls, N', d, l, rfl, ix_sq hn 0 rfl, ix_sq h2 0 rfl⟩
theorem seq_items (hn : Sq ds n) {env : En} {i : Nat} (h : gVar i env = some (.ok n env)) : gSeqOf (gVar i) env = some (.ok ds env) := by
  unfold gSeqOf
  rw [let_of h]
  rcases hn with rfl | rfl <;> rfl
theorem row_ok (hs : Sq (t.map PyData.int) s) (hn : Sq ds n) (hN : NmD N ds) (h0 : N ≠ []) (h1 : N.length ≤ 100) (ht : t.length ≤ 100) : F_row_named [.im s, .im n] = some (.val (rowD t N) [.im s, .im n]) := by
  obtain ⟨b, ls, N', d, l, rfl, i1, i2⟩ := head_side hn hN h0
  let e : En := [.im s, .im n, .no, .no, .no, .no]
  have tb : gBool (gOp (dEq false) (gOp dIx (gOp dIx (gVar 1) (gP (.int 0))) (gP (.int 0))) (gP (.str "next"))) e = some (.ok b e) := bool_of (op_of (x := .str (sd b)) (y := .str "next") (op_of (x := d) (y := .int 0) (op_of (x := n) (y := .int 0) rfl rfl i1) rfl i2) rfl (side_n b))
  have ln : gOp dAdd (gCall dLen (PD.gCons (gVar 0) (gP []))) (gP (.int 1)) e = some (.ok (.int ((t.length + 1 : Nat) : Int)) e) := op_of (call_of (one_of (d := s) rfl) (by rw [len_sq hs, List.length_map])) rfl rfl
  have st1 : gAsg 2 (gIf (gBool (gOp (dEq false) (gOp dIx (gOp dIx (gVar 1) (gP (.int 0))) (gP (.int 0))) (gP (.str "next")))) (gP (.int 0)) (gOp dAdd (gCall dLen (PD.gCons (gVar 0) (gP []))) (gP (.int 1)))) e = some (.nx [.im s, .im n, .im (.int (startP t ((b, ls) :: N'))), .no, .no, .no]) := by
    cases b with
    | true => exact asg_nx (i := 2) (d := .int 0) (e1 := e) (gif_of true tb rfl) (s := .no) rfl trivial
    | false => exact asg_nx (i := 2) (gif_of false tb ln) (s := .no) rfl trivial
  have st2 : gAsgF 3 (PD.gLst (gP [])) [.im s, .im n, .im (.int (startP t ((b, ls) :: N'))), .no, .no, .no] = some (.nx [.im s, .im n, .im (.int (startP t ((b, ls) :: N'))), .mu false [], .no, .no]) := rfl
  obtain ⟨r2, r4, r5, L⟩ := row_loop (F := F_found) (s := s) (n := n) (t := t) (fun p b ls l h1 h2 => found_ok hs h1 h2 ht b) _ ds (startP t ((b, ls) :: N')) [] .no .no hN (startP_le t _) (by rw [List.length_nil]; omega) trivial trivial
  have it := seq_items hn (env := [.im s, .im n, .im (.int (startP t ((b, ls) :: N'))), .mu false [], .no, .no]) (i := 1) rfl
  have st3 := (for_of (t := .tup [4, 5]) (B := q1_row_named) it).trans L
  unfold F_row_named
  exact fn_rt (e := [.im s, .im n, r2, .im (.list ((rowP t (startP t ((b, ls) :: N')) ((b, ls) :: N')).map nI)), r4, r5]) rfl ((seq_nx st1).trans ((seq_nx st2).trans ((seq_nx st3).trans (seq_rt (ret_of (callG (cons1 (Gr := gP []) (d := .list ((rowP t (startP t ((b, ls) :: N')) ((b, ls) :: N')).map nI)) rfl rfl) rfl)))))) rfl
theorem lrow_ok (hs : Sq (t.map PyData.int) s) (hn : Sq ds n) (hN : NmD N ds) (h0 : N ≠ []) (h1 : N.length ≤ 100) (ht : t.length ≤ 100) : F__law_row [.im s, .im n] = some (.val (rowD t N) [.im s, .im n]) := by
  obtain ⟨b, ls, N', d, l, rfl, i1, i2⟩ := head_side hn hN h0
  let e : En := [.im s, .im n, .no, .no, .no, .no]
  have tb : gBool (gOp (dEq false) (gOp dIx (gOp dIx (gVar 1) (gP (.int 0))) (gP (.int 0))) (gP (.str "last"))) e = some (.ok (!b) e) := bool_of (op_of (x := .str (sd b)) (y := .str "last") (op_of (x := d) (y := .int 0) (op_of (x := n) (y := .int 0) rfl rfl i1) rfl i2) rfl (side_l b))
  have ln : gOp dAdd (gCall dLen (PD.gCons (gVar 0) (gP []))) (gP (.int 1)) e = some (.ok (.int ((t.length + 1 : Nat) : Int)) e) := op_of (call_of (one_of (d := s) rfl) (by rw [len_sq hs, List.length_map])) rfl rfl
  have v1 : gIf (gBool (gOp (dEq false) (gOp dIx (gOp dIx (gVar 1) (gP (.int 0))) (gP (.int 0))) (gP (.str "last")))) (gOp dAdd (gCall dLen (PD.gCons (gVar 0) (gP []))) (gP (.int 1))) (gP (.int 0)) e = some (.ok (.int (startP t ((b, ls) :: N'))) e) := by
    cases b with
    | true => exact gif_of false tb rfl
    | false => exact gif_of true tb ln
  have st1 : gParF 2 3 (gIf (gBool (gOp (dEq false) (gOp dIx (gOp dIx (gVar 1) (gP (.int 0))) (gP (.int 0))) (gP (.str "last")))) (gOp dAdd (gCall dLen (PD.gCons (gVar 0) (gP []))) (gP (.int 1))) (gP (.int 0))) (PD.gLst (gP [])) e = some (.nx [.im s, .im n, .im (.int (startP t ((b, ls) :: N'))), .mu false [], .no, .no]) := by
    unfold gParF
    unfold gS
    rw [v1]
    rfl
  obtain ⟨r2, r4, r5, L⟩ := row_loop (F := F__law_found) (s := s) (n := n) (t := t) (fun p b ls l h1 h2 => lfound_ok hs h1 h2 ht b) _ ds (startP t ((b, ls) :: N')) [] .no .no hN (startP_le t _) (by rw [List.length_nil]; omega) trivial trivial
  have it := seq_items hn (env := [.im s, .im n, .im (.int (startP t ((b, ls) :: N'))), .mu false [], .no, .no]) (i := 1) rfl
  have st3 := (for_of (t := .tup [4, 5]) (B := q1__law_row) it).trans L
  unfold F__law_row
  exact fn_rt (e := [.im s, .im n, r2, .im (.list ((rowP t (startP t ((b, ls) :: N')) ((b, ls) :: N')).map nI)), r4, r5]) rfl ((seq_nx st1).trans ((seq_nx st3).trans (seq_rt (ret_of (callG (cons1 (Gr := gP []) (d := .list ((rowP t (startP t ((b, ls) :: N')) ((b, ls) :: N')).map nI)) rfl rfl) rfl))))) rfl
end
end K17
namespace K17
open PySem PySem.Spec PyProof.Rows L2 PD
theorem lc_step {t : Tg} {G : GE} {vs : List Nat} {d v : PyData} {ds acc : List PyData} {e e1 e3 : En} (hs : tTG t d e = some e1) (hG : G e1 = some (.ok v e3)) (hl : acc.length < 100000) : lcLoop t (gP true) G vs (d :: ds) acc e = lcLoop t (gP true) G vs ds (acc ++ [v]) (wipeE e3 vs) := by
  conv => lhs; unfold lcLoop
  rw [hs]
  show (match G e1 with | some (.ok v e3) => if acc.length < 100000 then lcLoop t (gP true) G vs ds (acc ++ [v]) (wipeE e3 vs) else none | _ => none) = _
  rw [hG]
  dsimp only
  rw [if_pos hl]
abbrev nmT (x : Bool × List Int) : PyData := .tuple [.str (sd x.1), dT x.2]
abbrev nmL (x : Bool × List Int) : PyData := .list [.str (sd x.1), .list (x.2.map PyData.int)]
theorem nmD_T : ∀ N : Nm, NmD N (N.map nmT)
  | [] => trivial
  | x :: N => ⟨⟨_, .inl rfl, .inl rfl⟩, nmD_T N⟩
theorem nmD_L : ∀ N : Nm, NmD N (N.map nmL)
  | [] => trivial
  | x :: N => ⟨⟨_, .inr rfl, .inr rfl⟩, nmD_L N⟩
def fl (N : Nm) : Nm := N.map fun x => (!x.1, x.2)
theorem other_ok (b : Bool) : F_other_side [.im (.str (sd b))] = some (.val (.str (sd !b)) [.im (.str (sd b))]) := by
  let e : En := [.im (.str (sd b))]
  have tb : gBool (gOp (dEq false) (gVar 0) (gP (.str "next"))) e = some (.ok b e) := bool_of (op_of (x := .str (sd b)) (y := .str "next") rfl rfl (side_n b))
  unfold F_other_side
  cases b with
  | true => exact fn_rt (e := e) rfl (seq_rt (ret_of (gif_of true tb rfl))) rfl
  | false => exact fn_rt (e := e) rfl (seq_rt (ret_of (gif_of false tb rfl))) rfl
theorem turned_loop {n : PyData} : ∀ (N : Nm) (ds acc : List PyData), NmD N ds → acc.length + N.length ≤ 900 → lcLoop (.tup [1, 2]) (gP true) q1_turned [1, 2] ds acc [.im n, .no, .no] = some (acc ++ (fl N).map nmT, [.im n, .no, .no])
  | [], [], acc, _, _ => by unfold lcLoop fl; simp
  | [], d :: ds, acc, h, _ => h.elim
  | x :: N, [], acc, h, _ => h.elim
  | x :: N, d :: ds, acc, ⟨⟨l, h1, h2⟩, hN⟩, hl => by
    simp only [List.length_cons] at hl
    have hs : tTG (.tup [1, 2]) d [.im n, .no, .no] = some [.im n, .im (.str (sd x.1)), .im l] := by rcases h2 with rfl | rfl <;> rfl
    let e1 : En := [.im n, .im (.str (sd x.1)), .im l]
    have c1 := callv1 (F := F_other_side) (env := e1) (Ga := gVar 1) rfl (other_ok x.1)
    have c2 : gCall dToTup (PD.gCons (gVar 2) (gP [])) e1 = some (.ok (dT x.2) e1) := call_of (one_of (d := l) rfl) (by rcases h1 with rfl | rfl <;> rfl)
    have hG : q1_turned e1 = some (.ok (nmT (!x.1, x.2)) e1) := tup_of (cons1 c1 (one_of c2)) (by simp)
    rw [lc_step hs hG (by omega)]
    show lcLoop (.tup [1, 2]) (gP true) q1_turned [1, 2] ds (acc ++ [nmT (!x.1, x.2)]) [.im n, .no, .no] = _
    rw [turned_loop N ds _ hN (by simp; omega)]
    simp [fl]
theorem turned_ok {N : Nm} {ds : List PyData} {n : PyData} (hn : Sq ds n) (hN : NmD N ds) (h1 : N.length ≤ 100) : F_turned [.im n] = some (.val (.tuple ((fl N).map nmT)) [.im n]) := by
  let e : En := [.im n, .no, .no]
  have L := lc_of (vs := [1, 2]) (seq_items hn (env := e) (i := 0) rfl) rfl (turned_loop N ds [] hN (by rw [List.length_nil]; omega))
  unfold F_turned
  exact fn_rt (e := e) rfl (seq_rt (ret_of (callG (cons1 (Gr := gP []) (frz_of L) rfl) rfl))) rfl
/-! ### lists for tuples -/
def lstD : Nat → PyData → PyData
  | n + 1, .list ds => .list (ds.map (lstD n))
  | n + 1, .tuple ds => .list (ds.map (lstD n))
  | _, d => d
theorem lists_loop {F : List Sl → Option FR} {m : PyData} {f : PyData → PyData} : ∀ (ds acc : List PyData), (∀ d ∈ ds, F [.im d] = some (.val (f d) [.im d])) → acc.length + ds.length ≤ 1000 → lcLoop (.one 1) (gP true) (q1__law_lists F) [1] ds acc [.im m, .no] = some (acc ++ ds.map f, [.im m, .no])
  | [], acc, _, _ => by unfold lcLoop; simp
  | d :: ds, acc, h, hl => by
    simp only [List.length_cons] at hl
    have hG : q1__law_lists F [.im m, .im d] = some (.ok (f d) [.im m, .im d]) := callv1 (F := F) (Ga := gVar 1) rfl (h d List.mem_cons_self)
    rw [lc_step (e1 := [.im m, .im d]) rfl hG (by omega)]
    show lcLoop (.one 1) (gP true) (q1__law_lists F) [1] ds (acc ++ [f d]) [.im m, .no] = _
    rw [lists_loop ds _ (fun d hd => h d (List.mem_cons_of_mem _ hd)) (by simp; omega)]
    simp
theorem lists_ok : ∀ (n : Nat) (d : PyData), plD n d → F__law_lists n [.im d] = some (.val (lstD n d) [.im d])
  | 0, d, h => by cases d <;> exact h.elim
  | n + 1, .int i, _ => by
    unfold F__law_lists
    exact fn_rt (e := [.im (.int i), .no]) rfl (seq_rt (ret_of (gif_of (env := [.im (.int i), .no]) (e := [.im (.int i), .no]) false rfl rfl))) rfl
  | n + 1, .bool i, _ => by
    unfold F__law_lists
    exact fn_rt (e := [.im (.bool i), .no]) rfl (seq_rt (ret_of (gif_of (env := [.im (.bool i), .no]) (e := [.im (.bool i), .no]) false rfl rfl))) rfl
  | n + 1, .str i, _ => by
    unfold F__law_lists
    exact fn_rt (e := [.im (.str i), .no]) rfl (seq_rt (ret_of (gif_of (env := [.im (.str i), .no]) (e := [.im (.str i), .no]) false rfl rfl))) rfl
  | n + 1, .list ds, h => by
    have L := lc_of (vs := [1]) (seq_items (.inr rfl) (env := [.im (.list ds), .no]) (i := 0) rfl) rfl (lists_loop (f := lstD n) ds [] (fun d hd => lists_ok n d (h.2 d hd)) (by have := h.1; rw [List.length_nil]; omega))
    unfold F__law_lists
    exact fn_rt (e := [.im (.list ds), .no]) rfl (seq_rt (ret_of (gif_of (env := [.im (.list ds), .no]) (e := [.im (.list ds), .no]) true rfl (frz_of L)))) rfl
  | n + 1, .tuple ds, h => by
    have L := lc_of (vs := [1]) (seq_items (.inl rfl) (env := [.im (.tuple ds), .no]) (i := 0) rfl) rfl (lists_loop (f := lstD n) ds [] (fun d hd => lists_ok n d (h.2 d hd)) (by have := h.1; rw [List.length_nil]; omega))
    unfold F__law_lists
    exact fn_rt (e := [.im (.tuple ds), .no]) rfl (seq_rt (ret_of (gif_of (env := [.im (.tuple ds), .no]) (e := [.im (.tuple ds), .no]) true rfl (frz_of L)))) rfl
  | n + 1, .none, h => h.elim
  | n + 1, .dict _, h => h.elim
theorem lst_ints (n : Nat) (t : List Int) : (t.map PyData.int).map (lstD n) = t.map PyData.int := by
  rw [List.map_map]
  congr 1
  funext i
  cases n <;> rfl
theorem lst_nm (n : Nat) (x : Bool × List Int) : lstD (n + 2) (nmT x) = nmL x := by
  show PyData.list [lstD (n + 1) (.str (sd x.1)), lstD (n + 1) (dT x.2)] = _
  show PyData.list [PyData.str (sd x.1), .list ((x.2.map PyData.int).map (lstD n))] = _
  rw [lst_ints]
/-! ### what is well made -/
def okN (w : Int) (N : Nm) : Prop := ∀ x ∈ N, x.2 ≠ [] ∧ x.2.Pairwise (· < ·) ∧ lets w x.2 ∧ x.2.length ≤ 100
theorem plD_nm {w : Int} {N : Nm} (h : okN w N) (hl : N.length ≤ 100) (n : Nat) : plD (n + 4) (.tuple (N.map nmT)) := ⟨by rw [List.length_map]; omega, fun d hd => by
  obtain ⟨x, hx, rfl⟩ := List.mem_map.mp hd
  refine ⟨by simp, fun d hd => ?_⟩
  simp only [List.mem_cons, List.not_mem_nil, or_false] at hd
  rcases hd with rfl | rfl
  · trivial
  · exact plD_ints n _ (by have := (h x hx).2.2.2; omega)⟩
theorem lists_nm {w : Int} {N : Nm} (h : okN w N) (hl : N.length ≤ 100) : F__law_lists 12 [.im (.tuple (N.map nmT))] = some (.val (.list (N.map nmL)) [.im (.tuple (N.map nmT))]) := by
  rw [lists_ok 12 _ (plD_nm h hl 8)]
  show some (FR.val (PyData.list ((N.map nmT).map (lstD 11))) _) = _
  rw [List.map_map, show (lstD 11 ∘ nmT) = nmL from funext fun x => lst_nm 9 x]
theorem side_ok (b : Bool) : F_is_side [.im (.str (sd b))] = some (.val (.bool true) [.im (.str (sd b))]) := by
  let e : En := [.im (.str (sd b))]
  have t1 : gOp (dEq false) (gVar 0) (gP (.str "next")) e = some (.ok (.bool b) e) := op_of (x := .str (sd b)) (y := .str "next") rfl rfl (side_n b)
  have t2 : gOp (dEq false) (gVar 0) (gP (.str "last")) e = some (.ok (.bool !b) e) := op_of (x := .str (sd b)) (y := .str "last") rfl rfl (side_l b)
  have t3 : gOrV (gOp (dEq false) (gVar 0) (gP (.str "next"))) (gOp (dEq false) (gVar 0) (gP (.str "last"))) e = some (.ok (.bool true) e) := by
    unfold gOrV
    rw [let_of t1]
    cases b
    · exact t2
    · rfl
  unfold F_is_side
  exact fn_rt (e := e) rfl (seq_rt (ret_of t3)) rfl
theorem pair_ok {w : Int} {x : Bool × List Int} (h : x.2 ≠ [] ∧ x.2.Pairwise (· < ·) ∧ lets w x.2 ∧ x.2.length ≤ 100) : F_is_named_pair [.im (.int w), .im (nmT x)] = some (.val (.bool true) [.im (.int w), .im (nmT x)]) := by
  let e : En := [.im (.int w), .im (nmT x)]
  have i0 : gOp dIx (gVar 1) (gP (.int 0)) e = some (.ok (.str (sd x.1)) e) := op_of (x := nmT x) (y := .int 0) rfl rfl (ix_sq (.inl rfl) 0 rfl)
  have i1 : gOp dIx (gVar 1) (gP (.int 1)) e = some (.ok (dT x.2) e) := op_of (x := nmT x) (y := .int 1) rfl rfl (ix_sq (.inl rfl) 1 rfl)
  have c1 := callv1 (F := F_is_side) (env := e) i0 (side_ok x.1)
  have c2 := callv2' (F := F_is_letters) (env := e) (Ga := gVar 0) rfl i1 (letters_ok h.2.1 h.2.2.1 h.1 (by have := h.2.2.2; omega))
  unfold F_is_named_pair
  exact fn_rt (e := e) rfl (seq_rt (ret_of (andV_of (d := .bool true) (e1 := e) rfl rfl (andV_of (d := .bool true) (e1 := e) rfl rfl (andV_of c1 rfl c2))))) rfl
theorem naming_loop {w : Int} {n : PyData} : ∀ (ds acc : List PyData), (∀ d ∈ ds, F_is_named_pair [.im (.int w), .im d] = some (.val (.bool true) [.im (.int w), .im d])) → acc.length + ds.length ≤ 1000 → lcLoop (.one 2) (gP true) q1_is_naming [2] ds acc [.im (.int w), .im n, .no] = some (acc ++ ds.map (fun _ => PyData.bool true), [.im (.int w), .im n, .no])
  | [], acc, _, _ => by unfold lcLoop; simp
  | d :: ds, acc, h, hl => by
    simp only [List.length_cons] at hl
    have hG : q1_is_naming [.im (.int w), .im n, .im d] = some (.ok (.bool true) [.im (.int w), .im n, .im d]) := callv2' (F := F_is_named_pair) (Ga := gVar 0) (Gb := gVar 2) rfl rfl (h d List.mem_cons_self)
    rw [lc_step (e1 := [.im (.int w), .im n, .im d]) rfl hG (by omega)]
    show lcLoop (.one 2) (gP true) q1_is_naming [2] ds (acc ++ [.bool true]) [.im (.int w), .im n, .no] = _
    rw [naming_loop ds _ (fun d hd => h d (List.mem_cons_of_mem _ hd)) (by simp; omega)]
    simp
theorem naming_ok {w : Int} {N : Nm} (h : okN w N) (h0 : N ≠ []) (hl : N.length ≤ 100) : F_is_naming [.im (.int w), .im (.tuple (N.map nmT))] = some (.val (.bool true) [.im (.int w), .im (.tuple (N.map nmT))]) := by
  let n : PyData := .tuple (N.map nmT)
  let e : En := [.im (.int w), .im n, .no]
  have L := lc_of (vs := [2]) (seq_items (.inl rfl) (env := e) (i := 1) rfl) rfl (naming_loop (w := w) (n := n) (N.map nmT) [] (fun d hd => by
    obtain ⟨x, hx, rfl⟩ := List.mem_map.mp hd
    exact pair_ok (h x hx)) (by rw [List.length_nil, List.length_map]; omega))
  have ln : gOp (dCmp fun i j => decide (j < i)) (gCall dLen (PD.gCons (gVar 1) (gP []))) (gP (.int 0)) e = some (.ok (.bool true) e) := op_of (x := .int (N.map nmT).length) (y := .int 0) (call_of (one_of (d := n) rfl) rfl) rfl (by
    have := List.length_pos_iff.mpr h0
    show some (PyData.bool (decide ((0 : Int) < ((N.map nmT).length : Int)))) = _
    rw [decide_eq_true (by rw [List.length_map]; omega)])
  unfold F_is_naming
  exact fn_rt (e := e) rfl (seq_rt (ret_of (andV_of (d := .bool true) (e1 := e) rfl rfl (andV_of ln rfl (callG (cons1 (Gr := gP []) (frz_of L) rfl) (all_true _)))))) rfl
theorem ask_ok {w : Int} {p : Nat} {b : Bool} {ls : List Int} (h : ls ≠ [] ∧ ls.Pairwise (· < ·) ∧ lets w ls ∧ ls.length ≤ 100) : F_is_ask [.im (.int w), .im (.tuple [.int p, .str (sd b), dT ls])] = some (.val (.bool true) [.im (.int w), .im (.tuple [.int p, .str (sd b), dT ls])]) := by
  let a : PyData := .tuple [.int p, .str (sd b), dT ls]
  let e : En := [.im (.int w), .im a, .no, .no, .no]
  let e2 : En := [.im (.int w), .im a, .im (.int p), .im (.str (sd b)), .im (dT ls)]
  have st2 : gAsgT (.tup [2, 3, 4]) (gVar 1) e = some (.nx e2) := rfl
  have c0 := callv1 (F := F_is_number) (env := e2) (Ga := gVar 2) rfl (number_int p)
  have c1 := callv1 (F := F_is_side) (env := e2) (Ga := gVar 3) rfl (side_ok b)
  have c2 := callv2' (F := F_is_letters) (env := e2) (Ga := gVar 0) (Gb := gVar 4) rfl rfl (letters_ok h.2.1 h.2.2.1 h.1 (by have := h.2.2.2; omega))
  have ge : gOp (dCmp fun i j => decide (j ≤ i)) (gVar 2) (gP (.int 0)) e2 = some (.ok (.bool true) e2) := op_of (x := .int p) (y := .int 0) rfl rfl (by
    show some (PyData.bool (decide ((0 : Int) ≤ (p : Int)))) = _
    rw [decide_eq_true (by omega)])
  unfold F_is_ask
  exact fn_rt (e := e2) rfl ((seq_nx (if_f (e := e) rfl rfl)).trans ((seq_nx st2).trans (seq_rt (ret_of (andV_of c0 rfl (andV_of ge rfl (andV_of c1 rfl c2))))))) rfl
def standD (t : List Int) (q : Nat) : PyData := if q = 0 then .str "front" else if q = t.length + 1 then .str "back" else .int (t.getD (q - 1) 0)
theorem at_text {t : List Int} {q : Nat} (h0 : q ≠ 0) (h1 : q ≤ t.length) : dIx (dT t) (.int ((q : Int) - 1)) = some (.int (t.getD (q - 1) 0)) := by
  have := ix_sq (ds := t.map PyData.int) (s := dT t) (.inl rfl) (q - 1) (d := .int (t.getD (q - 1) 0)) (by
    rw [List.getElem?_map, List.getElem?_eq_getElem (by omega), List.getD_eq_getElem?_getD, List.getElem?_eq_getElem (by omega)]
    rfl)
  rw [show (q : Int) - 1 = ((q - 1 : Nat) : Int) by omega]
  exact this
theorem stands_ok {t : List Int} {q : Nat} (hq : q ≤ t.length + 1) (ht : t.length ≤ 100) : F_stands_at [.im (dT t), .im (.int q)] = some (.val (standD t q) [.im (dT t), .im (.int q)]) := by
  let e : En := [.im (dT t), .im (.int q)]
  have ck : (gS (gCallF F_check_place (gArV (gVar 0) (gArV (gVar 1) (gP [])))) fun _ env => some (.nx env)) e = some (.nx e) := by
    unfold gS
    rw [callv2' (F := F_check_place) (env := e) (Ga := gVar 0) (Gb := gVar 1) rfl rfl (place_ok (ds := t.map PyData.int) (dT t) t.length q (.inl rfl) (by rw [List.length_map]) (by omega) (by omega))]
  have e0 : ∀ b, decide (q = 0) = b → gBool (gOp (dEq false) (gVar 1) (gP (.int 0))) e = some (.ok b e) := fun b hb => bool_of (op_of (x := .int q) (y := .int 0) rfl rfl (by
    show some (PyData.bool (xor false ((q : Int) == 0))) = _
    rw [← hb, Bool.false_xor]
    congr 2
    apply Bool.eq_iff_iff.mpr
    simp))
  have ln : gOp dAdd (gCall dLen (PD.gCons (gVar 0) (gP []))) (gP (.int 1)) e = some (.ok (.int ((t.length : Int) + 1)) e) := op_of (x := .int t.length) (y := .int 1) (call_of (one_of (d := dT t) rfl) (by rw [len_sq (.inl rfl), List.length_map])) rfl (dAdd_ii _ _)
  have e1 : ∀ b, decide (q = t.length + 1) = b → gBool (gOp (dEq false) (gVar 1) (gOp dAdd (gCall dLen (PD.gCons (gVar 0) (gP []))) (gP (.int 1)))) e = some (.ok b e) := fun b hb => bool_of (op_of (x := .int q) (y := .int ((t.length : Int) + 1)) rfl ln (by
    show some (PyData.bool (xor false ((q : Int) == (t.length : Int) + 1))) = _
    rw [← hb, Bool.false_xor]
    congr 2
    apply Bool.eq_iff_iff.mpr
    simp only [beq_iff_eq, decide_eq_true_eq]
    omega))
  unfold F_stands_at standD
  by_cases c0 : q = 0
  · rw [if_pos c0]
    exact fn_rt (e := e) rfl ((seq_nx ck).trans (seq_rt (if_t (e0 true (decide_eq_true c0)) (seq_rt (ret_of rfl))))) rfl
  · rw [if_neg c0]
    by_cases c1 : q = t.length + 1
    · rw [if_pos c1]
      exact fn_rt (e := e) rfl ((seq_nx ck).trans ((seq_nx (if_f (e0 false (decide_eq_false c0)) rfl)).trans (seq_rt (if_t (e1 true (decide_eq_true c1)) (seq_rt (ret_of rfl)))))) rfl
    · rw [if_neg c1]
      have ix : gOp dIx (gVar 0) (gOp dSub (gVar 1) (gP (.int 1))) e = some (.ok (.int (t.getD (q - 1) 0)) e) := op_of (x := dT t) (y := .int ((q : Int) - 1)) rfl (op_of (x := .int q) (y := .int 1) rfl rfl rfl) (at_text c0 (by omega))
      exact fn_rt (e := e) rfl ((seq_nx ck).trans ((seq_nx (if_f (e0 false (decide_eq_false c0)) rfl)).trans ((seq_nx (if_f (e1 false (decide_eq_false c1)) rfl)).trans (seq_rt (ret_of ix))))) rfl
theorem last_of {xs : List Nat} (h : xs ≠ []) : ∃ k : Nat, dIx (.tuple (xs.map nI)) (.int (-1)) = some (.int k) := by
  have hp := List.length_pos_iff.mpr h
  refine ⟨xs[xs.length - 1], ?_⟩
  show atI (xs.map nI) (-1) = _
  unfold atI
  rw [show ixN (xs.map nI).length (-1) = some (xs.length - 1) by
    unfold ixN
    rw [List.length_map]
    rw [if_neg (by decide), if_pos (by omega)]
    congr 1
    omega]
  show (xs.map nI)[xs.length - 1]? = _
  rw [List.getElem?_map, List.getElem?_eq_getElem (by omega)]
  rfl
theorem rowP_len (t : List Int) : ∀ (p : Nat) (N : Nm), (rowP t p N).length = N.length
  | _, [] => rfl
  | p, x :: N => by
    unfold rowP
    rw [List.length_cons, rowP_len t _ N, List.length_cons]
theorem named_ok {t : List Int} {s n : PyData} {N : Nm} {ds : List PyData} {z : PyData} (hs : Sq (t.map PyData.int) s) (hn : Sq ds n) (hN : NmD N ds) (h0 : N ≠ []) (h1 : N.length ≤ 100) (ht : t.length ≤ 100) (hz : dIx (rowD t N) (.int (-1)) = some z) : F_named [.im s, .im n] = some (.val z [.im s, .im n]) := by
  let e : En := [.im s, .im n]
  have c := callv2' (F := F_row_named) (env := e) (Ga := gVar 0) (Gb := gVar 1) rfl rfl (row_ok hs hn hN h0 h1 ht)
  unfold F_named
  exact fn_rt (e := e) rfl (seq_rt (ret_of (op_of (y := .int (-1)) c rfl hz))) rfl
end K17
namespace K17
open PySem PySem.Spec PyProof.Rows L2 PD
/-! ### the TEXT turned round -/
theorem fnd_rev (t ls : List Int) (p : Nat) (b : Bool) (hp : p ≤ t.length + 1) : fnd t.reverse (t.length + 1 - p) (!b) ls = t.length + 1 - fnd t p b ls := by
  cases b
  · show nextP t.reverse (t.length + 1 - p) ls = t.length + 1 - lastP t p ls
    have h := last_turned t ls p hp
    have h2 := nextP_le t.reverse ls (t.length + 1 - p)
    rw [List.length_reverse] at h2
    omega
  · show lastP t.reverse (t.length + 1 - p) ls = t.length + 1 - nextP t p ls
    have h := last_turned t.reverse ls (t.length + 1 - p) (by rw [List.length_reverse]; omega)
    rw [List.length_reverse, List.reverse_reverse, show t.length + 1 - (t.length + 1 - p) = p by omega] at h
    have h2 := nextP_le t ls p
    omega
theorem row_rev (t : List Int) : ∀ (N : Nm) (p : Nat), p ≤ t.length + 1 → rowP t.reverse (t.length + 1 - p) (fl N) = (rowP t p N).map fun k => t.length + 1 - k
  | [], _, _ => rfl
  | x :: N, p, hp => by
    show fnd t.reverse (t.length + 1 - p) (!x.1) x.2 :: rowP t.reverse (fnd t.reverse (t.length + 1 - p) (!x.1) x.2) (fl N) = (fnd t p x.1 x.2 :: rowP t (fnd t p x.1 x.2) N).map _
    rw [fnd_rev t x.2 p x.1 hp, row_rev t N _ (fnd_le t x.2 p x.1 hp)]
    rfl
theorem start_rev (t : List Int) : ∀ N : Nm, N ≠ [] → startP t.reverse (fl N) = t.length + 1 - startP t N
  | [], h => (h rfl).elim
  | (true, _) :: _, _ => by show t.reverse.length + 1 = t.length + 1 - 0; rw [List.length_reverse]; rfl
  | (false, _) :: _, _ => by show 0 = t.length + 1 - (t.length + 1); omega
theorem rowP_le (t : List Int) : ∀ (N : Nm) (p : Nat), p ≤ t.length + 1 → ∀ k ∈ rowP t p N, k ≤ t.length + 1
  | [], _, _, k, h => nomatch h
  | x :: N, p, hp, k, h => by
    have e : rowP t p (x :: N) = fnd t p x.1 x.2 :: rowP t (fnd t p x.1 x.2) N := rfl
    rw [e] at h
    rcases List.mem_cons.mp h with h | h
    · rw [h]; exact fnd_le t x.2 p x.1 hp
    · exact rowP_le t N _ (fnd_le t x.2 p x.1 hp) k h
theorem rows_rev (t : List Int) (N : Nm) (h0 : N ≠ []) : (rowP t.reverse (startP t.reverse (fl N)) (fl N)).map nI = (rowP t (startP t N) N).map fun (k : Nat) => PyData.int ((t.length : Int) + 1 - k) := by
  rw [start_rev t N h0, row_rev t N _ (startP_le t N), List.map_map]
  refine List.map_congr_left fun k hk => ?_
  have := rowP_le t N _ (startP_le t N) k hk
  show PyData.int ((t.length + 1 - k : Nat) : Int) = _
  congr 1
  omega
/-! ### the first of a list in its order -/
section
variable {r : Nat → Nat → Prop} {P : Nat → Bool}
theorem find_in {q : Nat} : ∀ l : List Nat, l.Pairwise r → q ∈ l → P q = true → (∀ j ∈ l, r j q → P j = false) → l.find? P = some q
  | [], _, h, _, _ => nomatch h
  | a :: l, hp, h, hq, hj => by
    by_cases c : P a = true
    · rcases List.mem_cons.mp h with rfl | h
      · rw [List.find?_cons_of_pos c]
      · have := hj a List.mem_cons_self (List.rel_of_pairwise_cons hp h)
        rw [this] at c
        cases c
    · rcases List.mem_cons.mp h with rfl | h
      · exact (c hq).elim
      · rw [List.find?_cons_of_neg c]
        exact find_in l hp.of_cons h hq fun j hj2 => hj j (List.mem_cons_of_mem _ hj2)
theorem find_out (as : ∀ a b, r a b → ¬ r b a) {q : Nat} : ∀ l : List Nat, l.Pairwise r → l.find? P = some q → q ∈ l ∧ P q = true ∧ ∀ j ∈ l, r j q → P j = false
  | [], _, h => by cases h
  | a :: l, hp, h => by
    by_cases c : P a = true
    · rw [List.find?_cons_of_pos c] at h
      cases h
      refine ⟨List.mem_cons_self, c, fun j hj hr => ?_⟩
      rcases List.mem_cons.mp hj with rfl | hj
      · exact (as _ _ hr hr).elim
      · exact (as _ _ hr (List.rel_of_pairwise_cons hp hj)).elim
    · rw [List.find?_cons_of_neg c] at h
      obtain ⟨h1, h2, h3⟩ := find_out as l hp.of_cons h
      refine ⟨List.mem_cons_of_mem _ h1, h2, fun j hj hr => ?_⟩
      rcases List.mem_cons.mp hj with rfl | hj
      · exact Bool.eq_false_iff.mpr c
      · exact h3 j hj hr
end
theorem up_pw (n p : Nat) : ((List.range (n - p)).map fun k => p + 1 + k).Pairwise (· < ·) := by
  rw [List.pairwise_map]
  exact List.pairwise_lt_range.imp fun h => by omega
theorem up_mem {n p j : Nat} : j ∈ ((List.range (n - p)).map fun k => p + 1 + k) ↔ p < j ∧ j ≤ n := by
  rw [List.mem_map]
  constructor
  · rintro ⟨k, hk, rfl⟩
    have := List.mem_range.mp hk
    omega
  · rintro ⟨h1, h2⟩
    exact ⟨j - p - 1, List.mem_range.mpr (by omega), by omega⟩
theorem dn_pw (p : Nat) : ((List.range (p - 1)).map fun k => p - 1 - k).Pairwise (· > ·) := by
  rw [List.pairwise_map]
  refine (List.pairwise_lt_range (n := p - 1)).imp_of_mem fun {a b} ha hb h => ?_
  have := List.mem_range.mp hb
  omega
theorem dn_mem {p j : Nat} : j ∈ ((List.range (p - 1)).map fun k => p - 1 - k) ↔ 1 ≤ j ∧ j ≤ p - 1 := by
  rw [List.mem_map]
  constructor
  · rintro ⟨k, hk, rfl⟩
    have := List.mem_range.mp hk
    omega
  · rintro ⟨h1, h2⟩
    exact ⟨p - 1 - j, List.mem_range.mpr (by omega), by omega⟩
theorem next_is {t ls : List Int} {p q : Nat} (h1 : p < q) (h2 : q ≤ t.length) (h3 : inT ls (t.getD (q - 1) 0) = true) (h4 : ∀ j, p < j → j < q → inT ls (t.getD (j - 1) 0) = false) : nextP t p ls = q := by
  unfold nextP
  rw [find_in (r := (· < ·)) _ (up_pw _ _) (up_mem.mpr ⟨h1, h2⟩) h3 fun j hj hr => h4 j (up_mem.mp hj).1 hr]
  rfl
theorem next_of {t ls : List Int} {p q : Nat} (h : nextP t p ls = q) (hq : q ≤ t.length) : p < q ∧ inT ls (t.getD (q - 1) 0) = true ∧ ∀ j, p < j → j < q → inT ls (t.getD (j - 1) 0) = false := by
  unfold nextP at h
  cases e : List.find? (fun j => inT ls (t.getD (j - 1) 0)) ((List.range (t.length - p)).map fun k => p + 1 + k) with
  | none => rw [e] at h; simp at h; omega
  | some j =>
    rw [e] at h
    obtain rfl : j = q := h
    obtain ⟨m, h2, h3⟩ := find_out (r := (· < ·)) (fun a b h => by omega) _ (up_pw _ _) e
    exact ⟨(up_mem.mp m).1, h2, fun i hi hj => h3 i (up_mem.mpr ⟨hi, by omega⟩) hj⟩
theorem last_is {t ls : List Int} {p q : Nat} (h1 : 1 ≤ q) (h2 : q ≤ p - 1) (h3 : inT ls (t.getD (q - 1) 0) = true) (h4 : ∀ j, q < j → j ≤ p - 1 → inT ls (t.getD (j - 1) 0) = false) : lastP t p ls = q := by
  unfold lastP
  rw [find_in (r := (· > ·)) _ (dn_pw _) (dn_mem.mpr ⟨h1, h2⟩) h3 fun j hj hr => h4 j hr (dn_mem.mp hj).2]
  rfl
theorem last_at {t ls : List Int} {p q : Nat} (h : lastP t p ls = q) (hq : 1 ≤ q) : q ≤ p - 1 ∧ inT ls (t.getD (q - 1) 0) = true ∧ ∀ j, q < j → j ≤ p - 1 → inT ls (t.getD (j - 1) 0) = false := by
  unfold lastP at h
  cases e : List.find? (fun j => inT ls (t.getD (j - 1) 0)) ((List.range (p - 1)).map fun k => p - 1 - k) with
  | none => rw [e] at h; simp at h; omega
  | some j =>
    rw [e] at h
    obtain rfl : j = q := h
    obtain ⟨m, h2, h3⟩ := find_out (r := (· > ·)) (fun a b h => by omega) _ (dn_pw _) e
    exact ⟨(dn_mem.mp m).2, h2, fun i hi hj => h3 i (dn_mem.mpr ⟨by omega, hj⟩) hi⟩
theorem getD_app_l {a b : List Int} {i : Nat} (h : i < a.length) : (a ++ b).getD i 0 = a.getD i 0 := by
  rw [List.getD_eq_getElem?_getD, List.getD_eq_getElem?_getD, List.getElem?_append_left h]
theorem getD_app_r {a b : List Int} {i : Nat} (h : a.length ≤ i) : (a ++ b).getD i 0 = b.getD (i - a.length) 0 := by
  rw [List.getD_eq_getElem?_getD, List.getD_eq_getElem?_getD, List.getElem?_append_right h]
theorem getD_take {a : List Int} {i q : Nat} (h : i < q) : (a.take q).getD i 0 = a.getD i 0 := by
  rw [List.getD_eq_getElem?_getD, List.getD_eq_getElem?_getD, List.getElem?_take_of_lt h]
theorem getD_drop {a : List Int} {i q : Nat} : (a.drop q).getD i 0 = a.getD (q + i) 0 := by
  rw [List.getD_eq_getElem?_getD, List.getD_eq_getElem?_getD, List.getElem?_drop]
theorem next_cut {t ls e : List Int} {p q : Nat} (h : nextP t p ls = q) (hq : q ≤ t.length) : nextP (t.take q ++ e) p ls = q := by
  obtain ⟨h1, h2, h3⟩ := next_of h hq
  have hl : (t.take q).length = q := by rw [List.length_take]; omega
  have g : ∀ j, 1 ≤ j → j ≤ q → (t.take q ++ e).getD (j - 1) 0 = t.getD (j - 1) 0 := fun j a b => by rw [getD_app_l (by omega), getD_take (by omega)]
  exact next_is h1 (by rw [List.length_append]; omega) (by rw [g q (by omega) (by omega)]; exact h2) fun j a b => by rw [g j (by omega) (by omega)]; exact h3 j a b
theorem last_cut {t ls e : List Int} {p q : Nat} (h : lastP t p ls = q) (hq : 1 ≤ q) : lastP (e ++ t.drop (q - 1)) (p - (q - 1) + e.length) ls = e.length + 1 := by
  obtain ⟨h1, h2, h3⟩ := last_at h hq
  have g : ∀ j, e.length < j → (e ++ t.drop (q - 1)).getD (j - 1) 0 = t.getD (q - 1 + (j - 1 - e.length)) 0 := fun j a => by rw [getD_app_r (by omega), getD_drop]
  refine last_is (by omega) (by omega) (by rw [g _ (by omega), show q - 1 + (e.length + 1 - 1 - e.length) = q - 1 by omega]; exact h2) fun j a b => ?_
  rw [g j (by omega)]
  have := h3 (q + (j - 1 - e.length)) (by omega) (by omega)
  rw [show q + (j - 1 - e.length) - 1 = q - 1 + (j - 1 - e.length) by omega] at this
  exact this
end K17
namespace K17
open PySem PySem.Spec PyProof.Rows L2 PD
theorem setIm_fr {e : En} {k : Nat} {s : Sl} {d : PyData} (h : e[k]? = some s) (f : fr s) : setIm e k d = some (e.set k (.im d)) := by
  unfold setIm
  rw [h]
  cases s with
  | no => rfl
  | im d => rfl
  | mu b ds => cases b <;> first | rfl | exact f.elim
theorem par3_nx {i j l : Nat} {G : GA} {env e1 : En} {a b c : PyData} {s s' s'' : Sl} (h : G env = some (.ok [a, b, c] e1)) (hi : e1[i]? = some s) (hj : (e1.set i (.im a))[j]? = some s') (hl : ((e1.set i (.im a)).set j (.im b))[l]? = some s'') (fs : fr s) (fs' : fr s') (fs'' : fr s'') : gPar [i, j, l] G env = some (.nx (((e1.set i (.im a)).set j (.im b)).set l (.im c))) := by
  unfold gPar gS
  rw [h]
  show (setIms e1 [i, j, l] [a, b, c]).map Fl.nx = _
  unfold setIms
  rw [setIm_fr hi fs]
  show (setIms (e1.set i (.im a)) [j, l] [b, c]).map Fl.nx = _
  unfold setIms
  rw [setIm_fr hj fs']
  show (setIms ((e1.set i (.im a)).set j (.im b)) [l] [c]).map Fl.nx = _
  unfold setIms
  rw [setIm_fr hl fs'']
  rfl
theorem asgT2_nx {i j : Nat} {G : GE} {env e1 : En} {a b : PyData} {s s' : Sl} (h : G env = some (.ok (.tuple [a, b]) e1)) (hi : e1[i]? = some s) (hj : (e1.set i (.im a))[j]? = some s') (fs : fr s) (fs' : fr s') : gAsgT (.tup [i, j]) G env = some (.nx ((e1.set i (.im a)).set j (.im b))) := by
  unfold gAsgT gS
  rw [h]
  show (setIms e1 [i, j] [a, b]).map Fl.nx = _
  unfold setIms
  rw [setIm_fr hi fs]
  show (setIms (e1.set i (.im a)) [j] [b]).map Fl.nx = _
  unfold setIms
  rw [setIm_fr hj fs']
  rfl
/-- the slots of _law_right -/
def EV (u : List PyData) (w : Int) (t : List Int) (nm row oth : PyData) (s5 s8 s9 s10 s11 s12 s13 s14 s15 s16 s17 : Sl) : En :=
  [.mu true u, .im (.int w), .im (dT t), .im (.int t.length), .im nm, s5, .im row, .im oth, s8, s9, s10, s11, s12, s13, s14, s15, s16, s17]
abbrev sidesG : GE := gFrz (PD.gLst (PD.gCons (gP (.str "next")) (PD.gCons (gP (.str "last")) (gP []))))
theorem side_of {u : List PyData} {n : Nat} (hu : Ug n u) (hn : n ≤ 10000) : ∃ (b : Bool) (u' : List PyData), F__law_of [.mu true u, .im (.list [.str "next", .str "last"])] = some (.val (.str (sd b)) [.mu true u', .im (.list [.str "next", .str "last"])]) ∧ Ug (n + 1) u' := by
  obtain ⟨d, u1, r1, mem, hu1⟩ := of_ok (gs := [.str "next", .str "last"]) hu hn (by simp) (by simp)
  simp only [List.mem_cons, List.not_mem_nil, or_false] at mem
  rcases mem with rfl | rfl
  · exact ⟨true, u1, r1, hu1⟩
  · exact ⟨false, u1, r1, hu1⟩
/-- the text and place beside it -/
def farT (t e : List Int) (q : Nat) (b : Bool) : List Int := if b = true then t.take q ++ e else e ++ t.drop (q - 1)
def farP (p q n : Nat) (b : Bool) : Int := if b = true then (p : Int) else (p : Int) - ((q - 1 : Nat) : Int) + n
theorem far_ok {t ls e : List Int} {p q : Nat} {b : Bool} (hp : p ≤ t.length + 1) (ht : t.length ≤ 20) (he : e.length ≤ 20) (hl : ls.length ≤ 100) (h : fnd t p b ls = q) (h0 : 0 < q) (h1 : q ≤ t.length) :
    F_found [.im (dT (farT t e q b)), .im (.int (farP p q e.length b)), .im (.str (sd b)), .im (dT ls)] = some (.val (.int (if b = true then (q : Int) else (e.length : Int) + 1)) [.im (dT (farT t e q b)), .im (.int (farP p q e.length b)), .im (.str (sd b)), .im (dT ls)]) := by
  cases b with
  | true =>
    have hn : nextP t p ls = q := h
    have h2 := (next_of hn h1).1
    have k := found_ok (t := t.take q ++ e) (ls := ls) (p := p) (.inl rfl) (.inl rfl) (by rw [List.length_append, List.length_take]; omega) (by rw [List.length_append, List.length_take]; omega) true
    rw [show fnd (t.take q ++ e) p true ls = q from next_cut hn h1] at k
    exact k
  | false =>
    have hn : lastP t p ls = q := h
    have h2 := (last_at hn h0).1
    have k := found_ok (t := e ++ t.drop (q - 1)) (ls := ls) (p := p - (q - 1) + e.length) (.inl rfl) (.inl rfl) (by rw [List.length_append, List.length_drop]; omega) (by rw [List.length_append, List.length_drop]; omega) false
    rw [show fnd (e ++ t.drop (q - 1)) (p - (q - 1) + e.length) false ls = e.length + 1 from last_cut hn h0] at k
    have e1 : farP p q e.length false = ((p - (q - 1) + e.length : Nat) : Int) := by
      show (p : Int) - ((q - 1 : Nat) : Int) + (e.length : Int) = _
      omega
    rw [e1]
    exact k
theorem told_ok {t : List Int} {q : Nat} (hq : q ≤ t.length + 1) {A : En} (v2 : gVar 2 A = some (.ok (dT t) A)) (v3 : gVar 3 A = some (.ok (.int t.length) A)) (v13 : gVar 13 A = some (.ok (.int q) A)) :
    gIf (gBool (gOp (dEq false) (gVar 13) (gP (.int 0)))) (gP (.str "front")) (gIf (gBool (gOp (dCmp fun i j => decide (j < i)) (gVar 13) (gVar 3))) (gP (.str "back")) (gOp dIx (gVar 2) (gOp dSub (gVar 13) (gP (.int 1))))) A = some (.ok (standD t q) A) := by
  have e0 : ∀ b, decide (q = 0) = b → gBool (gOp (dEq false) (gVar 13) (gP (.int 0))) A = some (.ok b A) := fun b hb => bool_of (op_of (x := .int q) (y := .int 0) v13 rfl (by
    show some (PyData.bool (xor false ((q : Int) == 0))) = _
    rw [← hb, Bool.false_xor]
    congr 2
    apply Bool.eq_iff_iff.mpr
    simp))
  have e1 : ∀ b, decide (q = t.length + 1) = b → gBool (gOp (dCmp fun i j => decide (j < i)) (gVar 13) (gVar 3)) A = some (.ok b A) := fun b hb => bool_of (op_of (x := .int q) (y := .int t.length) v13 v3 (by
    show some (PyData.bool (decide ((t.length : Int) < (q : Int)))) = _
    rw [← hb]
    congr 2
    apply Bool.eq_iff_iff.mpr
    simp only [decide_eq_true_eq]
    omega))
  unfold standD
  by_cases c0 : q = 0
  · rw [if_pos c0]
    exact gif_of true (e0 true (decide_eq_true c0)) rfl
  · rw [if_neg c0]
    refine gif_of false (e0 false (decide_eq_false c0)) ?_
    by_cases c1 : q = t.length + 1
    · rw [if_pos c1]
      exact gif_of true (e1 true (decide_eq_true c1)) rfl
    · rw [if_neg c1]
      exact gif_of false (e1 false (decide_eq_false c1)) (op_of (x := dT t) (y := .int ((q : Int) - 1)) v2 (op_of (x := .int q) (y := .int 1) v13 rfl rfl) (at_text c0 (by omega)))
theorem max0 (q : Nat) {A : En} {i : Nat} (v : gVar i A = some (.ok (.int q) A)) : gCall dMax (PD.gCons (gP (.int 0)) (PD.gCons (gOp dSub (gVar i) (gP (.int 1))) (gP []))) A = some (.ok (.int ((q - 1 : Nat) : Int)) A) := by
  refine callG (cons1 (Ga := gP (.int 0)) (d := .int 0) rfl (one_of (op_of (x := .int q) (y := .int 1) v rfl rfl))) ?_
  show some (PyData.int (if (q : Int) - 1 > 0 then (q : Int) - 1 else 0)) = _
  congr 2
  split <;> omega
theorem farV_ok {t e : List Int} {p q : Nat} {b : Bool} (hq : q ≤ t.length + 1) (ht : t.length ≤ 20) (he : e.length ≤ 20) {A : En} (v2 : gVar 2 A = some (.ok (dT t) A)) (v12 : gVar 12 A = some (.ok (.int p) A)) (v13 : gVar 13 A = some (.ok (.int q) A)) (v15 : gVar 15 A = some (.ok (dT e) A)) (v8 : gVar 8 A = some (.ok (.str (sd b)) A)) :
    gIf (gBool (gOp (dEq false) (gVar 8) (gP (.str "next")))) (PD.gTup (PD.gCons (gOp dAdd (gSl (gVar 2) (gP none) (gB (gVar 13) fun d => gO (dPart d))) (gVar 15)) (PD.gCons (gVar 12) (gP [])))) (PD.gTup (PD.gCons (gOp dAdd (gVar 15) (gSl (gVar 2) (gB (gCall dMax (PD.gCons (gP (.int 0)) (PD.gCons (gOp dSub (gVar 13) (gP (.int 1))) (gP [])))) fun d => gO (dPart d)) (gP none))) (PD.gCons (gOp dAdd (gOp dSub (gVar 12) (gCall dMax (PD.gCons (gP (.int 0)) (PD.gCons (gOp dSub (gVar 13) (gP (.int 1))) (gP []))))) (gCall dLen (PD.gCons (gVar 15) (gP [])))) (gP [])))) A = some (.ok (.tuple [dT (farT t e q b), .int (farP p q e.length b)]) A) := by
  have tb : gBool (gOp (dEq false) (gVar 8) (gP (.str "next"))) A = some (.ok b A) := bool_of (op_of (x := .str (sd b)) (y := .str "next") v8 rfl (side_n b))
  cases b with
  | true =>
    refine gif_of true tb (tup_of (cons1 (op_of (φ := dAdd) (x := dT (t.take q)) (y := dT e) (sl_of (z := dT (t.take q)) v2 (show gP none A = some (.ok none A) from rfl) (part_of v13) (by
      show some (PyData.tuple (PD.cutD (t.map PyData.int) none (some (q : Int)))) = _
      rw [cut_head, ← List.map_take])) v15 (by
      show dAdd (.tuple _) (.tuple _) = some (PyData.tuple (List.map PyData.int (t.take q ++ e)))
      rw [List.map_append]
      exact add_tup (by simp only [List.length_map, List.length_take]; omega))) (one_of v12)) (by simp))
  | false =>
    have mx := max0 q v13
    have ln : gCall dLen (PD.gCons (gVar 15) (gP [])) A = some (.ok (.int e.length) A) := call_of (one_of v15) (by rw [len_sq (.inl rfl), List.length_map])
    refine gif_of false tb (tup_of (cons1 (op_of (φ := dAdd) (x := dT e) (y := dT (t.drop (q - 1))) v15 (sl_of (z := dT (t.drop (q - 1))) v2 (part_of mx) (show gP none A = some (.ok none A) from rfl) (by
      show some (PyData.tuple (PD.cutD (t.map PyData.int) (some ((q - 1 : Nat) : Int)) none)) = _
      rw [cut_from (by rw [List.length_map]; omega), ← List.map_drop])) (by
      show dAdd (.tuple _) (.tuple _) = some (PyData.tuple (List.map PyData.int (e ++ t.drop (q - 1))))
      rw [List.map_append]
      exact add_tup (by simp only [List.length_map, List.length_drop]; omega))) (one_of (op_of (φ := dAdd) (x := .int ((p : Int) - ((q - 1 : Nat) : Int))) (y := .int e.length) (op_of (x := .int p) (y := .int ((q - 1 : Nat) : Int)) v12 mx rfl) ln (dAdd_ii _ _)))) (by simp))
theorem plD_stand (t : List Int) (q n : Nat) : plD (n + 1) (standD t q) := by
  unfold standD
  split
  · trivial
  · split <;> trivial
theorem turn {u : List PyData} {w : Int} {t : List Int} {nm row oth : PyData} {n : Nat} {s5 s8 s9 s10 s11 s12 s13 s14 s15 s16 s17 : Sl} (w1 : 1 ≤ w) (w2 : w ≤ 3) (T : t.length ≤ 14) (hu : Ug n u) (hn : n ≤ 4000) (f8 : fr s8) (f9 : fr s9) (f10 : fr s10) (f12 : fr s12) (f13 : fr s13) (f14 : fr s14) (f15 : fr s15) (f16 : fr s16) (f17 : fr s17) :
    ∃ (u' : List PyData) (n' : Nat) (d8 d9 d10 d12 d13 d14 d15 d16 d17 : PyData), q1__law_right (EV u w t nm row oth s5 s8 s9 s10 s11 s12 s13 s14 s15 s16 s17) = some (.nx (EV u' w t nm row oth s5 (.im d8) (.im d9) (.im d10) s11 (.im d12) (.im d13) (.im d14) (.im d15) (.im d16) (.im d17))) ∧ Ug n' u' ∧ n' ≤ n + 204 := by
  obtain ⟨p', u1, r1, p0, p1, hu1⟩ := draw_of (env := EV u w t nm row oth s5 s8 s9 s10 s11 s12 s13 s14 s15 s16 s17) (b := true) (G := gOp dAdd (gVar 3) (gP (.int 2))) (low := (t.length : Int) + 2) rfl (op_of rfl rfl (dAdd_ii _ _)) hu (by omega) (by omega) (by omega)
  obtain ⟨p, rfl⟩ : ∃ p : Nat, p' = p := ⟨p'.toNat, by omega⟩
  have hp : p ≤ t.length + 1 := by omega
  obtain ⟨b, u2, r2, hu2⟩ := side_of hu1 (by omega)
  have c2 := callu (F := F__law_of) (env := EV u1 w t nm row oth s5 s8 s9 s10 s11 s12 s13 s14 s15 s16 s17) (b := true) (Ga := sidesG) (a := .list [.str "next", .str "last"]) rfl rfl r2
  obtain ⟨ls, u3, n3, r3, l0, l1, l2, l3, hu3, hn3⟩ := letters_of (w := w) hu2 w1 (by omega) (by omega)
  have c3 := callu (F := F__law_letters) (env := EV u2 w t nm row oth s5 s8 s9 s10 s11 s12 s13 s14 s15 s16 s17) (b := true) (Ga := gVar 1) rfl rfl r3
  have st1 := par3_nx (i := 12) (j := 8) (l := 9) (cons1 r1 (cons1 c2 (cons1 (Gr := gP []) c3 rfl))) (s := s12) (s' := s8) (s'' := s9) rfl rfl rfl f12 f8 f9
  let A : En := EV u3 w t nm row oth s5 (.im (.str (sd b))) (.im (dT ls)) s10 s11 (.im (.int p)) s13 s14 s15 s16 s17
  obtain ⟨q, hq⟩ : ∃ q, fnd t p b ls = q := ⟨_, rfl⟩
  have hq1 : q ≤ t.length + 1 := hq ▸ fnd_le t ls p b hp
  have k2 := callv4 (F := F__law_found) (env := A) (Ga := gVar 2) (Gb := gVar 12) (Gc := gVar 8) (Gd := gVar 9) rfl rfl rfl rfl (lfound_ok (t := t) (ls := ls) (p := p) (.inl rfl) (.inl rfl) hp (by omega) b)
  rw [hq] at k2
  have st2 := asg_nx (i := 13) k2 (s := s13) rfl f13
  let B : En := EV u3 w t nm row oth s5 (.im (.str (sd b))) (.im (dT ls)) s10 s11 (.im (.int p)) (.im (.int q)) s14 s15 s16 s17
  have st3 := asg_nx (i := 14) (told_ok (t := t) (A := B) hq1 rfl rfl rfl) (s := s14) rfl f14
  let C : En := EV u3 w t nm row oth s5 (.im (.str (sd b))) (.im (dT ls)) s10 s11 (.im (.int p)) (.im (.int q)) (.im (standD t q)) s15 s16 s17
  obtain ⟨e, u4, n4, r4, e1, e2, hu4, hn4⟩ := text_of (w := w) (m := 5) hu3 w1 (by omega) (by decide) (by decide) (by omega)
  have c4 := callu2 (F := F__law_text) (env := C) (b := true) (Ga := gVar 1) (Gc := gP (.int 5)) rfl rfl rfl r4
  have st4 := asg_nx (i := 15) c4 (s := s15) rfl f15
  let D : En := EV u4 w t nm row oth s5 (.im (.str (sd b))) (.im (dT ls)) s10 s11 (.im (.int p)) (.im (.int q)) (.im (standD t q)) (.im (dT e)) s16 s17
  have st5 := asgT2_nx (i := 16) (j := 17) (farV_ok (t := t) (e := e) (p := p) (q := q) (b := b) (A := D) hq1 (by omega) (by omega) rfl rfl rfl rfl rfl) (s := s16) (s' := s17) rfl rfl f16 f17
  let E : En := EV u4 w t nm row oth s5 (.im (.str (sd b))) (.im (dT ls)) s10 s11 (.im (.int p)) (.im (.int q)) (.im (standD t q)) (.im (dT e)) (.im (dT (farT t e q b))) (.im (.int (farP p q e.length b)))
  have tp : PD.gTup (PD.gCons (gVar 12) (PD.gCons (gVar 8) (PD.gCons (gVar 9) (gP [])))) E = some (.ok (.tuple [.int p, .str (sd b), dT ls]) E) := tup_of (cons1 (Ga := gVar 12) (d := .int p) rfl (cons1 (Ga := gVar 8) (d := .str (sd b)) rfl (one_of (Ga := gVar 9) (d := dT ls) rfl))) (by simp)
  have g1 := callv2' (F := F_is_ask) (env := E) (Ga := gVar 1) rfl tp (ask_ok (w := w) (p := p) (b := b) (ls := ls) ⟨l0, l1, l2, l3⟩)
  have g2 := callv4 (F := F_found) (env := E) (Ga := gVar 2) (Gb := gVar 12) (Gc := gVar 8) (Gd := gVar 9) rfl rfl rfl rfl (found_ok (t := t) (ls := ls) (p := p) (.inl rfl) (.inl rfl) hp (by omega) b)
  have g3 := callv4 (F := F_found) (env := E) (Ga := gFrz (gList (PD.gCons (gVar 2) (gP [])))) (Gb := gVar 12) (Gc := gVar 8) (Gd := gFrz (gList (PD.gCons (gVar 9) (gP [])))) (a := .list (t.map PyData.int)) (d := .list (ls.map PyData.int)) rfl rfl rfl rfl (found_ok (t := t) (ls := ls) (p := p) (.inr rfl) (.inr rfl) hp (by omega) b)
  rw [hq] at g2 g3
  have g4 := callv2' (F := F_stands_at) (env := E) (Ga := gVar 2) (Gb := gVar 13) rfl rfl (stands_ok (t := t) (q := q) hq1 (by omega))
  let four : List PyData := [.bool true, .int q, .int q, standD t q]
  have st6 := asg_nx (i := 10) (frz_of (lst_of (ds := four) (cons1 g1 (cons1 g2 (cons1 g3 (cons1 (Gr := gP []) g4 rfl)))) (by simp [four]))) (s := s10) rfl f10
  let H : En := EV u4 w t nm row oth s5 (.im (.str (sd b))) (.im (dT ls)) (.im (.list four)) s11 (.im (.int p)) (.im (.int q)) (.im (standD t q)) (.im (dT e)) (.im (dT (farT t e q b))) (.im (.int (farP p q e.length b)))
  have pd : plD 12 (.list four) := ⟨by simp [four], fun d hd => by
    simp only [four, List.mem_cons, List.not_mem_nil, or_false] at hd
    rcases hd with rfl | rfl | rfl | rfl
    · trivial
    · trivial
    · trivial
    · exact plD_stand t q 10⟩
  have st7 := same_call (env := H) (e1 := H) (Ga := gVar 10) (a := .list four) rfl (frz_of (lst_of (ds := four) (cons1 (Ga := gP (.bool true)) (d := .bool true) rfl (cons1 (Ga := gVar 13) (d := .int q) rfl (cons1 (Ga := gVar 13) (d := .int q) rfl (one_of (Ga := gVar 14) (d := standD t q) rfl)))) (by simp [four]))) pd
  have st8 : gAnd (gBool (gChain dLt (dCmp fun i j => decide (i ≤ j)) (gP (.int 0)) (gVar 13) (gVar 3))) (gB (gTru (gCallF (F__law_same 12) (gArV (gCallF (F_found) (gArV (gVar 16) (gArV (gVar 17) (gArV (gVar 8) (gArV (gVar 9) (gP [])))))) (gArV (gIf (gBool (gOp (dEq false) (gVar 8) (gP (.str "next")))) (gVar 13) (gOp dAdd (gCall dLen (PD.gCons (gVar 15) (gP []))) (gP (.int 1)))) (gP []))))) fun b => gP !b) H = some (.ok false H) := by
    have ch : gBool (gChain dLt (dCmp fun i j => decide (i ≤ j)) (gP (.int 0)) (gVar 13) (gVar 3)) H = some (.ok (decide (0 < q) && decide (q ≤ t.length)) H) := by
      refine bool_of ?_
      unfold gChain
      rw [let_of (show gP (PyData.int 0) H = some (.ok (.int 0) H) from rfl), let_of (show gVar 13 H = some (.ok (.int q) H) from rfl)]
      by_cases c : 0 < q
      · have : dLt (.int 0) (.int q) = some (.bool true) := by
          show some (PyData.bool (decide ((0 : Int) < (q : Int)))) = _
          rw [decide_eq_true (by omega)]
        rw [this, decide_eq_true c, Bool.true_and]
        show (gB (gVar 3) fun f => gO (dCmp (fun i j => decide (i ≤ j)) (.int q) f)) H = _
        rw [let_of (show gVar 3 H = some (.ok (.int t.length) H) from rfl)]
        show some (Rs.ok (PyData.bool (decide ((q : Int) ≤ (t.length : Int)))) H) = _
        congr 3
        apply Bool.eq_iff_iff.mpr
        simp only [decide_eq_true_eq]
        omega
      · have : dLt (.int 0) (.int q) = some (.bool false) := by
          show some (PyData.bool (decide ((0 : Int) < (q : Int)))) = _
          rw [decide_eq_false (by omega)]
        rw [this, decide_eq_false c]
        rfl
    refine (let_of ch).trans ?_
    by_cases c : 0 < q ∧ q ≤ t.length
    · rw [decide_eq_true c.1, decide_eq_true c.2]
      have f1 := callv4 (F := F_found) (env := H) (Ga := gVar 16) (Gb := gVar 17) (Gc := gVar 8) (Gd := gVar 9) rfl rfl rfl rfl (far_ok (t := t) (ls := ls) (e := e) (p := p) (q := q) (b := b) hp (by omega) (by omega) l3 hq c.1 c.2)
      have tb : gBool (gOp (dEq false) (gVar 8) (gP (.str "next"))) H = some (.ok b H) := bool_of (op_of (x := .str (sd b)) (y := .str "next") rfl rfl (side_n b))
      have f2 : gIf (gBool (gOp (dEq false) (gVar 8) (gP (.str "next")))) (gVar 13) (gOp dAdd (gCall dLen (PD.gCons (gVar 15) (gP []))) (gP (.int 1))) H = some (.ok (.int (if b = true then (q : Int) else (e.length : Int) + 1)) H) := by
        cases b with
        | true => exact gif_of true tb rfl
        | false => exact gif_of false tb (op_of (x := .int e.length) (y := .int 1) (call_of (one_of (d := dT e) rfl) (by rw [len_sq (.inl rfl), List.length_map])) rfl (dAdd_ii _ _))
      exact same_call f1 f2 trivial
    · have : (decide (0 < q) && decide (q ≤ t.length)) = false := by
        by_cases c1 : 0 < q
        · rw [decide_eq_true c1, decide_eq_false (fun z => c ⟨c1, z⟩)]; rfl
        · rw [decide_eq_false c1]; rfl
      rw [this]
      rfl
  refine ⟨u4, n4, .str (sd b), dT ls, .list four, .int p, .int q, standD t q, dT e, dT (farT t e q b), .int (farP p q e.length b), ?_, hu4, by omega⟩
  unfold q1__law_right
  exact (seq_nx st1).trans ((seq_nx st2).trans ((seq_nx st3).trans ((seq_nx st4).trans ((seq_nx st5).trans ((seq_nx st6).trans ((seq_nx (if_f st7 rfl)).trans ((seq_nx (if_f st8 rfl)).trans rfl)))))))
end K17
namespace K17
open PySem PySem.Spec PyProof.Rows L2 PD
theorem laps {w : Int} {t : List Int} {nm row oth : PyData} {s11 : Sl} (w1 : 1 ≤ w) (w2 : w ≤ 3) (T : t.length ≤ 14) : ∀ (js : List PyData) (u : List PyData) (n : Nat) (s5 s8 s9 s10 s12 s13 s14 s15 s16 s17 : Sl), Ug n u → n + 204 * js.length ≤ 4000 → fr s5 → fr s8 → fr s9 → fr s10 → fr s12 → fr s13 → fr s14 → fr s15 → fr s16 → fr s17 →
    ∃ (u' : List PyData) (r5 r8 r9 r10 r12 r13 r14 r15 r16 r17 : Sl), forLoop (.one 5) q1__law_right js (EV u w t nm row oth s5 s8 s9 s10 s11 s12 s13 s14 s15 s16 s17) = some (.nx (EV u' w t nm row oth r5 r8 r9 r10 s11 r12 r13 r14 r15 r16 r17))
  | [], u, n, s5, s8, s9, s10, s12, s13, s14, s15, s16, s17, hu, _, f5, f8, f9, f10, f12, f13, f14, f15, f16, f17 => ⟨u, s5, s8, s9, s10, s12, s13, s14, s15, s16, s17, rfl⟩
  | j :: js, u, n, s5, s8, s9, s10, s12, s13, s14, s15, s16, s17, hu, hn, f5, f8, f9, f10, f12, f13, f14, f15, f16, f17 => by
    simp only [List.length_cons] at hn
    have hs : tTG (.one 5) j (EV u w t nm row oth s5 s8 s9 s10 s11 s12 s13 s14 s15 s16 s17) = some (EV u w t nm row oth (.im j) s8 s9 s10 s11 s12 s13 s14 s15 s16 s17) := by
      have := setIm_fr (e := EV u w t nm row oth s5 s8 s9 s10 s11 s12 s13 s14 s15 s16 s17) (k := 5) (d := j) rfl f5
      exact this
    obtain ⟨u1, n1, d8, d9, d10, d12, d13, d14, d15, d16, d17, e, hu1, hn1⟩ := turn (nm := nm) (row := row) (oth := oth) (s5 := .im j) (s11 := s11) w1 w2 T hu (by omega) f8 f9 f10 f12 f13 f14 f15 f16 f17
    obtain ⟨u2, r5, r8, r9, r10, r12, r13, r14, r15, r16, r17, e2⟩ := laps w1 w2 T js u1 n1 (.im j) (.im d8) (.im d9) (.im d10) (.im d12) (.im d13) (.im d14) (.im d15) (.im d16) (.im d17) hu1 (by omega) trivial trivial trivial trivial trivial trivial trivial trivial trivial trivial
    refine ⟨u2, r5, r8, r9, r10, r12, r13, r14, r15, r16, r17, ?_⟩
    unfold forLoop
    rw [hs]
    dsimp only
    rw [e]
    exact e2
/-- the slots while the NAMING is drawn -/
def EN (u : List PyData) (w : Int) (t : List Int) (s5 : Sl) : En :=
  [.mu true u, .im (.int w), .im (dT t), .im (.int t.length), .no, s5, .no, .no, .no, .no, .no, .no, .no, .no, .no, .no, .no, .no]
theorem draws_nm {w : Int} {t : List Int} (w1 : 1 ≤ w) (w2 : w ≤ 3) : ∀ (js : List PyData) (u : List PyData) (n : Nat) (acc : List PyData), Ug n u → n + 102 * js.length ≤ 4000 → acc.length + js.length ≤ 1000 →
    ∃ (N : Nm) (u' : List PyData) (n' : Nat), lcLoop (.one 5) (gP true) q4__law_right [5] js acc (EN u w t .no) = some (acc ++ N.map nmT, EN u' w t .no) ∧ N.length = js.length ∧ okN w N ∧ Ug n' u' ∧ n' ≤ n + 102 * js.length
  | [], u, n, acc, hu, _, _ => ⟨[], u, n, by unfold lcLoop; simp, rfl, (fun x hx => nomatch hx), hu, by simp⟩
  | j :: js, u, n, acc, hu, hn, hl => by
    simp only [List.length_cons] at hn hl
    obtain ⟨b, u2, r2, hu2⟩ := side_of hu (by omega)
    have c2 := callu (F := F__law_of) (env := EN u w t (.im j)) (b := true) (Ga := sidesG) (a := .list [.str "next", .str "last"]) rfl rfl r2
    obtain ⟨ls, u3, n3, r3, l0, l1, l2, l3, hu3, hn3⟩ := letters_of (w := w) hu2 w1 (by omega) (by omega)
    have c3 := callu (F := F__law_letters) (env := EN u2 w t (.im j)) (b := true) (Ga := gVar 1) rfl rfl r3
    have hG : q4__law_right (EN u w t (.im j)) = some (.ok (nmT (b, ls)) (EN u3 w t (.im j))) := tupE_of (cons1 c2 (cons1 (Gr := gP []) c3 rfl)) (by simp)
    obtain ⟨N, u4, n4, e4, nl, ok, hu4, hn4⟩ := draws_nm w1 w2 js u3 n3 (acc ++ [nmT (b, ls)]) hu3 (by omega) (by simp; omega)
    refine ⟨(b, ls) :: N, u4, n4, ?_, by simp [nl], fun x hx => ?_, hu4, by simp only [List.length_cons]; omega⟩
    · rw [lc_step (e1 := EN u w t (.im j)) rfl hG (by omega)]
      show lcLoop (.one 5) (gP true) q4__law_right [5] js (acc ++ [nmT (b, ls)]) (EN u3 w t .no) = _
      rw [e4]
      simp
    · rcases List.mem_cons.mp hx with z | z
      · rw [z]; exact ⟨l0, l1, l2, l3⟩
      · exact ok x z
theorem oth_loop {u : List PyData} {w : Int} {t : List Int} {nm : PyData} : ∀ (N : Nm) (acc : List PyData), acc.length + N.length ≤ 900 →
    lcLoop (.tup [8, 9]) (gP true) q3__law_right [8, 9] (N.map nmT) acc [.mu true u, .im (.int w), .im (dT t), .im (.int t.length), .im nm, .no, .no, .no, .no, .no, .no, .no, .no, .no, .no, .no, .no, .no] = some (acc ++ (fl N).map nmT, [.mu true u, .im (.int w), .im (dT t), .im (.int t.length), .im nm, .no, .no, .no, .no, .no, .no, .no, .no, .no, .no, .no, .no, .no])
  | [], acc, _ => by unfold lcLoop fl; simp
  | x :: N, acc, hl => by
    simp only [List.length_cons] at hl
    let e1 : En := [.mu true u, .im (.int w), .im (dT t), .im (.int t.length), .im nm, .no, .no, .no, .im (.str (sd x.1)), .im (dT x.2), .no, .no, .no, .no, .no, .no, .no, .no]
    have pk : dPick "next" "last" "last" "next" (.str (sd x.1)) = some (.str (sd !x.1)) := by
      unfold dPick
      dsimp only
      cases x.1
      · rw [if_neg (by decide +kernel), if_pos (by decide +kernel)]; rfl
      · rw [if_pos (by decide +kernel)]; rfl
    have c1 : (gB (gVar 8) fun x => gO (dPick "next" "last" "last" "next" x)) e1 = some (.ok (.str (sd !x.1)) e1) := (let_of (show gVar 8 e1 = some (.ok (.str (sd x.1)) e1) from rfl)).trans (by rw [pk]; rfl)
    have hG : q3__law_right e1 = some (.ok (nmT (!x.1, x.2)) e1) := tup_of (cons1 c1 (one_of (Ga := gVar 9) (d := dT x.2) rfl)) (by simp)
    rw [List.map_cons, lc_step (e1 := e1) rfl hG (by omega)]
    show lcLoop (.tup [8, 9]) (gP true) q3__law_right [8, 9] (N.map nmT) (acc ++ [nmT (!x.1, x.2)]) [.mu true u, .im (.int w), .im (dT t), .im (.int t.length), .im nm, .no, .no, .no, .no, .no, .no, .no, .no, .no, .no, .no, .no, .no] = _
    rw [oth_loop N _ (by simp; omega)]
    simp [fl]
/-- the row, turned round -/
theorem back_loop {u : List PyData} {w : Int} {t : List Int} {nm row oth s10 : PyData} : ∀ (ks : List Nat) (acc : List PyData), acc.length + ks.length ≤ 900 →
    lcLoop (.one 11) (gP true) q2__law_right [11] (ks.map nI) acc (EV u w t nm row oth .no .no .no (.im s10) .no .no .no .no .no .no .no) = some (acc ++ ks.map (fun (k : Nat) => PyData.int ((t.length : Int) + 1 - k)), EV u w t nm row oth .no .no .no (.im s10) .no .no .no .no .no .no .no)
  | [], acc, _ => by unfold lcLoop; simp
  | k :: ks, acc, hl => by
    simp only [List.length_cons] at hl
    let e1 : En := EV u w t nm row oth .no .no .no (.im s10) (.im (.int k)) .no .no .no .no .no .no
    have hG : q2__law_right e1 = some (.ok (.int ((t.length : Int) + 1 - k)) e1) := op_of (φ := dSub) (x := .int ((t.length : Int) + 1)) (y := .int k) (op_of (x := .int t.length) (y := .int 1) rfl rfl (dAdd_ii _ _)) rfl rfl
    rw [List.map_cons, lc_step (e1 := e1) rfl hG (by omega)]
    show lcLoop (.one 11) (gP true) q2__law_right [11] (ks.map nI) (acc ++ [.int ((t.length : Int) + 1 - k)]) (EV u w t nm row oth .no .no .no (.im s10) .no .no .no .no .no .no .no) = _
    rw [back_loop ks _ (by simp; omega)]
    simp
theorem plD_nats (n : Nat) (xs : List Nat) (h : xs.length ≤ 900) : plD (n + 2) (.tuple (xs.map nI)) := ⟨by rw [List.length_map]; exact h, fun d hd => by
  obtain ⟨x, _, rfl⟩ := List.mem_map.mp hd
  trivial⟩
theorem fl_ne {N : Nm} (h : N ≠ []) : fl N ≠ [] := fun z => h (List.map_eq_nil_iff.mp z)
theorem fl_ok {w : Int} {N : Nm} (h : okN w N) : okN w (fl N) := fun x hx => by
  obtain ⟨y, hy, rfl⟩ := List.mem_map.mp hx
  exact h y hy
theorem fl_len (N : Nm) : (fl N).length = N.length := List.length_map _
end K17
namespace K17
open PySem PySem.Spec PyProof.Rows L2 PD
theorem right_ok {u : List PyData} (hu : Ug 0 u) : ∃ u', F__law_right [.mu true u] = some (.val (.bool true) [.mu true u']) := by
  let Z : En := [.mu true u, .no, .no, .no, .no, .no, .no, .no, .no, .no, .no, .no, .no, .no, .no, .no, .no, .no]
  obtain ⟨w, u1, r1, w1, w3, hu1⟩ := letter_of (env := Z) (b := true) (G := gP (.int 3)) (low := 3) rfl rfl hu (by decide) (by decide) (by omega)
  have st1 := asg_nx (i := 1) r1 (s := .no) rfl trivial
  let A : En := [.mu true u1, .im (.int w), .no, .no, .no, .no, .no, .no, .no, .no, .no, .no, .no, .no, .no, .no, .no, .no]
  obtain ⟨t, u2, n2, e2, t1, t2, hu2, hn2⟩ := text_of (w := w) (m := 14) hu1 w1 (by omega) (by decide) (by decide) (by omega)
  have T : t.length ≤ 14 := by omega
  have c2 := callu2 (F := F__law_text) (env := A) (b := true) (Ga := gVar 1) (Gc := gP (.int 14)) rfl rfl rfl e2
  have st2 := asg_nx (i := 2) c2 (s := .no) rfl trivial
  let B : En := [.mu true u2, .im (.int w), .im (dT t), .no, .no, .no, .no, .no, .no, .no, .no, .no, .no, .no, .no, .no, .no, .no]
  have ln : gCall dLen (PD.gCons (gVar 2) (gP [])) B = some (.ok (.int t.length) B) := call_of (one_of (d := dT t) rfl) (by rw [len_sq (.inl rfl), List.length_map])
  have st3 := asg_nx (i := 3) ln (s := .no) rfl trivial
  -- the NAMING
  obtain ⟨d, u3, r3, d1, d5, hu3⟩ := letter_of (env := EN u2 w t .no) (b := true) (G := gP (.int 5)) (low := 5) rfl rfl hu2 (by decide) (by decide) (by omega)
  have hr : dRange1 [.int d] = some (upto 0 1 d.toNat) := by
    unfold dRange1
    dsimp only
    rw [bRg_ok2 (by omega) (by omega)]
    rfl
  have hi : (gB (PD.gCons (gOp dAdd (gP (.int 1)) (gCallF F__law_take (gArB 0 (gArV (gP (.int 5)) (gP []))))) (gP [])) fun ds => gO (dRange1 ds)) (EN u2 w t .no) = some (.ok (upto 0 1 d.toNat) (EN u3 w t .no)) := by
    rw [let_of (cons1 (Gr := gP []) r3 rfl), hr]
    rfl
  obtain ⟨N, u4, n4, e4, nl, ok, hu4, hn4⟩ := draws_nm (t := t) w1 (by omega) (upto 0 1 d.toNat) u3 (n2 + 1) [] hu3 (by rw [upto_length]; omega) (by rw [upto_length, List.length_nil]; omega)
  rw [upto_length] at nl hn4
  have N0 : N ≠ [] := fun z => by rw [z] at nl; simp at nl; omega
  have N5 : N.length ≤ 100 := by omega
  have L4 := lc_of (vs := [5]) hi rfl e4
  let nm : PyData := .tuple (N.map nmT)
  have st4 := asg_nx (i := 4) (callG (φ := dToTup) (z := nm) (cons1 (Gr := gP []) (frz_of L4) rfl) rfl) (s := .no) rfl trivial
  let C : En := [.mu true u4, .im (.int w), .im (dT t), .im (.int t.length), .im nm, .no, .no, .no, .no, .no, .no, .no, .no, .no, .no, .no, .no, .no]
  have k1 := callv2' (F := F__law_row) (env := C) (Ga := gVar 2) (Gb := gVar 4) rfl rfl (lrow_ok (t := t) (s := dT t) (n := nm) (.inl rfl) (.inl rfl) (nmD_T N) N0 N5 (by omega))
  have L5 := lc_of (vs := [8, 9]) (seq_items (.inl rfl) (env := C) (i := 4) (n := nm) rfl) rfl (oth_loop (u := u4) (w := w) (t := t) (nm := nm) N [] (by rw [List.length_nil]; omega))
  let oth : PyData := .tuple ((fl N).map nmT)
  have k2 : gCall dToTup (PD.gCons (gFrz (gLc (gSeqOf (gVar 4)) (.tup [8, 9]) (gP true) q3__law_right [8, 9])) (gP [])) C = some (.ok oth C) := callG (cons1 (Gr := gP []) (frz_of L5) rfl) rfl
  have st5 := par_nx (i := 6) (j := 7) (cons1 k1 (one_of k2)) (s := .no) (s' := .no) rfl rfl trivial trivial
  let row : PyData := rowD t N
  let D : En := EV u4 w t nm row oth .no .no .no .no .no .no .no .no .no .no .no
  have rl : rowP t (startP t N) N ≠ [] := fun z => by
    have := rowP_len t (startP t N) N
    rw [z] at this
    simp at this
    omega
  obtain ⟨lk, hz⟩ := last_of rl
  have g1 := callv2' (F := F_is_naming) (env := D) (Ga := gVar 1) (Gb := gVar 4) rfl rfl (naming_ok ok N0 N5)
  have g2 := callv2' (F := F_row_named) (env := D) (Ga := gVar 2) (Gb := gVar 4) rfl rfl (row_ok (t := t) (s := dT t) (n := nm) (.inl rfl) (.inl rfl) (nmD_T N) N0 N5 (by omega))
  have li := callv1 (F := F__law_lists 12) (env := D) (Ga := gVar 4) rfl (lists_nm ok N5)
  have g3 := callv2' (F := F_row_named) (env := D) (Ga := gFrz (gList (PD.gCons (gVar 2) (gP [])))) (a := .list (t.map PyData.int)) rfl li (row_ok (t := t) (s := .list (t.map PyData.int)) (n := .list (N.map nmL)) (.inr rfl) (.inr rfl) (nmD_L N) N0 N5 (by omega))
  have g4 := callv2' (F := F_named) (env := D) (Ga := gVar 2) (Gb := gVar 4) rfl rfl (named_ok (t := t) (s := dT t) (n := nm) (.inl rfl) (.inl rfl) (nmD_T N) N0 N5 (by omega) hz)
  have g5 := callv2' (F := F_named) (env := D) (Ga := gFrz (gList (PD.gCons (gVar 2) (gP [])))) (Gb := gVar 4) (a := .list (t.map PyData.int)) rfl rfl (named_ok (t := t) (s := .list (t.map PyData.int)) (n := nm) (.inr rfl) (.inl rfl) (nmD_T N) N0 N5 (by omega) hz)
  have g6 := callv1 (F := F_turned) (env := D) (Ga := gVar 4) rfl (turned_ok (n := nm) (.inl rfl) (nmD_T N) N5)
  have g7 := callv1 (F := F_turned) (env := D) li (turned_ok (n := .list (N.map nmL)) (.inr rfl) (nmD_L N) N5)
  let seven : List PyData := [.bool true, row, row, .int lk, .int lk, oth, oth]
  have st6 := asg_nx (i := 10) (frz_of (lst_of (ds := seven) (cons1 g1 (cons1 g2 (cons1 g3 (cons1 g4 (cons1 g5 (cons1 g6 (one_of g7))))))) (by simp [seven]))) (s := .no) rfl trivial
  let E : En := EV u4 w t nm row oth .no .no .no (.im (.list seven)) .no .no .no .no .no .no .no
  have pr : ∀ n, plD (n + 2) row := fun n => plD_nats n _ (by rw [rowP_len]; omega)
  have po : ∀ n, plD (n + 4) oth := fun n => plD_nm (fl_ok ok) (by rw [fl_len]; exact N5) n
  have pd : plD 12 (.list seven) := ⟨by simp [seven], fun d hd => by
    simp only [seven, List.mem_cons, List.not_mem_nil, or_false] at hd
    rcases hd with rfl | rfl | rfl | rfl | rfl | rfl | rfl
    · trivial
    · exact pr 9
    · exact pr 9
    · trivial
    · trivial
    · exact po 7
    · exact po 7⟩
  have lz : gOp dIx (gVar 6) (gB (gP (.int 1)) fun d => gO (dNeg d)) E = some (.ok (.int lk) E) := op_of (x := row) (y := .int (-1)) rfl rfl hz
  have st7 := same_call (env := E) (e1 := E) (Ga := gVar 10) (a := .list seven) rfl (frz_of (lst_of (ds := seven) (cons1 (Ga := gP (.bool true)) (d := .bool true) rfl (cons1 (Ga := gVar 6) (d := row) rfl (cons1 (Ga := gVar 6) (d := row) rfl (cons1 lz (cons1 lz (cons1 (Ga := gVar 7) (d := oth) rfl (one_of (Ga := gVar 7) (d := oth) rfl))))))) (by simp [seven]))) pd
  -- turned round
  have rv : (gB (gVar 2) fun d => gO (dRev d)) E = some (.ok (dT t.reverse) E) := (let_of (show gVar 2 E = some (.ok (dT t) E) from rfl)).trans (by show some (Rs.ok (PyData.tuple (t.map PyData.int).reverse) E) = _; rw [← List.map_reverse])
  have tu := callv1 (F := F_turned) (env := E) (Ga := gVar 4) rfl (turned_ok (n := nm) (.inl rfl) (nmD_T N) N5)
  have h1 := callv2' (F := F_row_named) (env := E) rv tu (row_ok (t := t.reverse) (s := dT t.reverse) (n := oth) (.inl rfl) (.inl rfl) (nmD_T (fl N)) (fl_ne N0) (by rw [fl_len]; exact N5) (by rw [List.length_reverse]; omega))
  have L8 := lc_of (vs := [11]) (seq_items (.inl rfl) (env := E) (i := 6) (n := row) rfl) rfl (back_loop (u := u4) (w := w) (t := t) (nm := nm) (row := row) (oth := oth) (s10 := .list seven) (rowP t (startP t N) N) [] (by rw [List.length_nil, rowP_len]; omega))
  have h2 : gCall dToTup (PD.gCons (gFrz (gLc (gSeqOf (gVar 6)) (.one 11) (gP true) q2__law_right [11])) (gP [])) E = some (.ok (rowD t.reverse (fl N)) E) := callG (cons1 (Gr := gP []) (frz_of L8) rfl) (by
    show some (PyData.tuple (List.map (fun (k : Nat) => PyData.int ((t.length : Int) + 1 - k)) (rowP t (startP t N) N))) = _
    rw [← rows_rev t N N0])
  have st8 := same_call (env := E) h1 h2 (plD_nats 10 _ (by rw [rowP_len, fl_len]; omega))
  have i3 : (gB (PD.gCons (gP (.int 3)) (gP [])) fun ds => gO (dRange1 ds)) E = some (.ok (upto 0 1 3) E) := rfl
  obtain ⟨u5, r5, r8, r9, r10, r12, r13, r14, r15, r16, r17, e5⟩ := laps (nm := nm) (row := row) (oth := oth) (s11 := .no) w1 (by omega) T (upto 0 1 3) u4 n4 .no .no .no (.im (.list seven)) .no .no .no .no .no .no hu4 (by rw [upto_length]; omega) trivial trivial trivial trivial trivial trivial trivial trivial trivial trivial
  have st9 := (for_of (t := .one 5) (B := q1__law_right) i3).trans e5
  refine ⟨u5, ?_⟩
  unfold F__law_right
  exact fn_rt (e := EV u5 w t nm row oth r5 r8 r9 r10 .no r12 r13 r14 r15 r16 r17) rfl ((seq_nx st1).trans ((seq_nx st2).trans ((seq_nx st3).trans ((seq_nx st4).trans ((seq_nx st5).trans ((seq_nx st6).trans ((seq_nx (if_f st7 rfl)).trans ((seq_nx (if_f st8 rfl)).trans ((seq_nx st9).trans (seq_rt (ret_of rfl))))))))))) rfl
end K17
namespace K17
open PySem PySem.Spec PyProof.Rows L2 PD
theorem by_hand : isT (F__law_by_hand_right []) = true := by decide +kernel
abbrev s_cells : Stmt := topS 26
theorem sc_cells : FnScope ["script", "top", "cells", "k", "cell", "at_so"] ["script", "top"] (defScope s_cells) := ⟨rfl, rfl, rfl, by decide +kernel, rfl, by decide +kernel, by decide +kernel⟩
/-- one cell of the whole script -/
def spCells (K : PySem.W.Frag) : Sp := fun vs H Q _ => ∃ (a : Addr) (ns : List Int), vs = [.ref a, .int 1] ∧ SqL K H a (ns.map V.int) ∧ ns.length ≤ 63 ∧ ∀ (H' : Hp) (p : Addr) (c : Int), H' p = some (.lst [.int c]) → Q (.ref p) H'
section
variable {P : Program} {w : World} {K : PySem.W.Frag} {mg : Str → Option Value} {base : Heap}
theorem ok_cells {f : Addr} {fd : FuncData} (Fn : Fun K "_law_cells" "_law_cells" s_cells f fd) (m1 : mg "list" = none) (m2 : mg "enumerate" = none) (m3 : mg "int" = none) : FnOk P w K mg base (L2.CX P w) 2 f fd ["script", "top"] (spCells K) := by
  refine Fn.okX sc_cells (fun vs H Q E h => ?_) (fun cdv A outer s H vs Q E hr h => ?_)
  · obtain ⟨a, ns, rfl, _⟩ := h
    rfl
  · refine ⟨_, pss_cons (ps_set (i := 2) sc_cells.nd rfl (by first | exact .inl rfl | exact .inr rfl) (pe_orT (pe_callTy call_list_of (by rfl) m1 (by decide +kernel) (pa_cons (pe_slice sl_list (pv 0) po_none (po_some (pv 1))) pa_nil)) (pe_one (pe_lst (pa_cons pe_int pa_nil)))))
      (pss_cons (ps_for (passes_of rfl) rfl (pi_enum (by rfl) m2 (pa_cons (pe_slice sl_list (pv 0) (po_some (pv 1)) (po_some pe_int)) pa_nil)) (pg_tup rfl (pgs_cons (pg_name (i := 3) sc_cells.nd rfl (by first | exact .inl rfl | exact .inr rfl)) (pgs_cons (pg_name (i := 4) sc_cells.nd rfl (by first | exact .inl rfl | exact .inr rfl)) pgs_nil)))
        (pss_cons (ps_set (i := 5) sc_cells.nd rfl (by first | exact .inl rfl | exact .inr rfl) (pe_op op_modN (pe_callTy call_int1 (by rfl) m3 (by decide +kernel) (pa_cons (pv 3) pa_nil)) (pv 1)))
        (pss_one (ps_asg (pe_op op_add (pe_ix ix_seq (pv 2) (pv 5) (fun _ _ => rfl)) (pe_op op_mul (pv 4) (pe_op op_add (pv 3) pe_int))) (pg_sub (pv 2) (pv 5) set_list)))))
      (pss_one (ps_ret (pv 2)))), ?_⟩
    obtain ⟨a, ns, rfl, hS, hn, q⟩ := h
    -- the rest, once the one cell stands
    have rest : ∀ (p : Addr) (c : Int) (H1 : Hp), (∀ b o, H b = some o → H1 b = some o) → H1 p = some (.lst [.int c]) → tSeq (tFor (iEnum K (L2.tCons (tSl (rSlL K) (tVar 0) (tPart (tVar 1)) (tPart (tC (.int 63)))) tNil)) (L2.gTup K 2 (L2.gCons (gName 3) (L2.gCons (gName 4) gNil)))
        (tSeq (tAsg (tOp (rI (fun _ j => j ≠ 0) fun i j => .int (Int.fmod i j)) (tCB (fun xs H Q => (∃ i, xs = [.int i] ∧ Q (.int i) H) ∨ ∃ k, xs = [.bl k] ∧ Q (.int (if k then 1 else 0)) H) (L2.tCons (tVar 3) tNil)) (tVar 1)) (gName 5))
          (tAsg (tOp (rI0 fun i j => .int (i + j)) (tOp (rIx K) (tVar 2) (tVar 5)) (tOp (rI CMul fun i j => .int (i * j)) (tVar 4) (tOp (rI0 fun i j => .int (i + j)) (tVar 3) (tC (.int 2))))) (gSub (tVar 2) (tVar 5) rSetL))))
        (tRet (tVar 2)) { nx := fun _ H' => Q .non H', rt := Q } [some (.ref a), some (.int 1), some (.ref p), none, none, none] H1 := by
      intro p c H1 g hp
      have hS1 : SqL K H1 a (ns.map V.int) := by
        rcases hS with (h | ⟨o, h⟩) | h
        · exact .inl (.inl (g _ _ h))
        · exact .inl (.inr ⟨o, g _ _ h⟩)
        · exact .inr h
      refine ⟨.ref a, rfl, .int 1, rfl, 1, rfl, 63, rfl, a, _, rfl, hS1, fun p3 n3 => ⟨p3, _, rfl, SqL.of upd_same, ?_⟩⟩
      have hp3 : p3 ≠ p := fun z => by
        subst z
        rw [n3] at hp
        cases hp
      -- what is walked are ints
      have ic : ∀ i x, (cutV (ns.map V.int) (some 1) (some 63))[i]? = some x → ∃ z, x = V.int z := fun i x hx => by
        unfold cutV at hx
        have hm := List.mem_of_getElem? hx
        have := List.mem_of_mem_drop (List.mem_of_mem_take hm)
        obtain ⟨z, _, rfl⟩ := List.mem_map.mp this
        exact ⟨z, rfl⟩
      refine for_it (walk_enum (xs := cutV (ns.map V.int) (some 1) (some 63))) (fun i σ Hi => i ≤ 63 ∧ (∃ v3 v4 v5, σ = [some (.ref a), some (.int 1), some (.ref p), v3, v4, v5]) ∧ (∃ c, Hi p = some (.lst [.int c])) ∧ Hi p3 = some (.lst (cutV (ns.map V.int) (some 1) (some 63)))) ⟨by omega, ⟨_, _, _, rfl⟩, ⟨c, by rw [upd_ne (Ne.symm hp3)]; exact hp⟩, upd_same⟩ (fun i σ Hi _ h => SqL.of h.2.2.2) ?_ ?_
      · rintro i x σ Hi Hj hi ⟨_, ⟨v3, v4, v5, rfl⟩, ⟨c, hc⟩, h3⟩ y
        obtain ⟨T, x1, y1, rfl, hT, rfl, e1, e2⟩ := y
        cases e1
        obtain ⟨z, rfl⟩ := ic i _ e2
        have fm : Int.fmod (i : Int) 1 = 0 := Int.fmod_one _
        have pT : p ≠ T := fun e => by
          subst e
          rw [hT] at hc
          cases hc
        have p3T : p3 ≠ T := fun e => by
          subst e
          rw [hT] at h3
          cases h3
        have hc2 : (upd Hi T (.tup [.int (i : Nat), .int z])) p = some (.lst [.int c]) := by rw [upd_ne pT]; exact hc
        have le : (cutV (ns.map V.int) (some 1) (some 63)).length ≤ 63 := by
          unfold cutV
          rw [List.length_take, List.length_drop, List.length_map]
          omega
        refine ⟨T, [V.int (i : Nat), V.int z], rfl, SqT.of upd_same, rfl, _, _, rfl, _, _, rfl, rfl, ?_⟩
        refine ⟨.int (i : Nat), rfl, .inl ⟨(i : Nat), rfl, .int 1, rfl, (i : Nat), 1, rfl, rfl, (by show (1 : Int) ≠ 0; decide), ?_⟩⟩
        refine ⟨.ref p, rfl, .int (Int.fmod (i : Int) 1), rfl, .inl ⟨p, [.int c], Int.fmod (i : Int) 1, .int c, rfl, rfl, SqL.of hc2, (by rw [fm]; rfl), .int z, rfl, .int (i : Nat), rfl, (i : Nat), 2, rfl, rfl, z, (i : Int) + 2, rfl, rfl, .inr ⟨by omega, by omega⟩, c, z * ((i : Int) + 2), rfl, rfl, .ref p, rfl, .int (Int.fmod (i : Int) 1), rfl, p, [.int c], Int.fmod (i : Int) 1, 0, rfl, rfl, hc2, (by rw [fm]; rfl), by omega, ⟨_, _, _, rfl⟩, ⟨c + z * ((i : Int) + 2), upd_same⟩, ?_⟩⟩
        rw [upd_ne hp3, upd_ne p3T]
        exact h3
      · rintro σ Hi ⟨_, ⟨v3, v4, v5, rfl⟩, ⟨c, hc⟩, _⟩
        exact ⟨_, rfl, q _ _ _ hc⟩
    refine ⟨.ref a, rfl, .int 1, rfl, 1, rfl, a, _, rfl, hS, fun p1 n1 => ⟨p1, _, rfl, .inl (SqL.of upd_same), fun p2 n2 => ⟨!(cutV (ns.map V.int) none (some 1)).isEmpty, .inl ⟨_, SqL.of upd_same, rfl⟩, ?_⟩⟩⟩
    have g1 : ∀ b o, H b = some o → (upd H p1 (.lst (cutV (ns.map V.int) none (some 1)))) b = some o := upd_grow n1
    have g2 : ∀ b o, H b = some o → (upd (upd H p1 (.lst (cutV (ns.map V.int) none (some 1)))) p2 (.lst (cutV (ns.map V.int) none (some 1)))) b = some o := fun b o e => upd_grow n2 b o (g1 b o e)
    cases ns with
    | nil =>
      rw [if_neg (by decide)]
      exact ⟨by show 1 ≤ sizeLine; decide, fun p3 n3 => rest p3 0 _ (fun b o e => upd_grow n3 b o (g2 b o e)) upd_same⟩
    | cons z zs =>
      rw [if_pos (by rfl)]
      refine rest p2 z _ g2 ?_
      rw [upd_same]
      rfl
end
end K17
namespace K17
open PySem PySem.Spec PyProof.Rows L2 PD
abbrev s_law : Stmt := topS 38
theorem sc_law : FnScope ["script"] ["script"] (defScope s_law) := ⟨rfl, rfl, rfl, by decide +kernel, rfl, by decide +kernel, by decide +kernel⟩
def okT : Option (Rs PyData) → Bool
  | some (.ok (.bool true) [.no]) => true
  | _ => false
theorem okT_is {o : Option (Rs PyData)} (h : okT o = true) : o = some (.ok (.bool true) [.no]) := by
  unfold okT at h
  split at h
  · rfl
  · cases h
theorem hand : gCallF F__law_by_hand_right (gP []) [.no] = some (.ok (.bool true) [.no]) := okT_is (by decide +kernel)
def spLaw (K : PySem.W.Frag) : Sp := fun vs H Q _ => ∃ (a : Addr) (ns : List Int), vs = [.ref a] ∧ SqL K H a (ns.map V.int) ∧ ns.length ≤ 63 ∧ ∀ (H' : Hp), Q (.bl true) H'
theorem er0 {K : PySem.W.Frag} {W σ : L2.St} {H : Hp} {env : En} (hl : env.length = σ.length) (h : ∀ (i : Nat) (s : Sl), env[i]? = some s → s = .no ∨ ∃ v d, s = .im d ∧ σ[i]? = some (some v) ∧ Dn K (U (fun _ => False) fun _ => False) H v d) : ER K W (fun _ => False) (fun _ => False) H σ env := by
  refine ⟨hl, fun a h => (h.elim id id).elim, fun a h => h.elim, fun i s e => ?_, fun i j b c ds es a ne e1 => ?_⟩
  · rcases h i s e with rfl | ⟨v, d, rfl, hv, dn⟩
    · trivial
    · exact ⟨v, hv, dn⟩
  · rcases h i _ e1 with z | ⟨v, d, z, _⟩
    · cases z
    · cases z
section
variable {P : Program} {w : World} {K : PySem.W.Frag} {mg : Str → Option Value} {base : Heap}
theorem ok_law (T : Tx K mg) {f fc : Addr} {fd fdc : FuncData} (Fn : Fun K "law" "law" s_law f fd) (Fc : Fun K "_law_cells" "_law_cells" s_cells fc fdc) (gc : mg "_law_cells" = some (.ref fc)) : FnOk P w K mg base (L2.CX P w) 21 f fd ["script"] (spLaw K) := by
  have Dh := df__law_by_hand_right (P := P) (w := w) (base := base) T
  obtain ⟨f1, fd1, F1, g1, k1, b1, _⟩ := (df__law_box (P := P) (w := w) (base := base) T).ex
  obtain ⟨f2, fd2, F2, g2, k2, b2, _⟩ := (df__law_right (P := P) (w := w) (base := base) T).ex
  have C := ok_cells (P := P) (w := w) (base := base) Fc T.b_list T.b_enumerate T.b_int
  have bc : Binds K fdc ["script", "top"] [] := Fc.binds fun _ _ _ _ _ _ us hl => match us, hl with | [_, _], _ => rfl
  refine Fn.okX sc_law (fun vs H Q E h => ?_) (fun cdv A outer s H vs Q E hr h => ?_)
  · obtain ⟨a, ns, rfl, _⟩ := h
    rfl
  · have tk : Takes (cxOf (L2.CX P w) P w K mg base ["script"] "law" (defScope s_law) f cdv A outer s H E) (fun cls d _ H' => E cls d H') := takes_of rfl rfl rfl rfl
    refine ⟨_, pss_one (ps_ret (pe_andT (pd_call0 Dh (hr.mono (by decide)) (by rfl) tk).pe (pe_one (pe_callS F2 (hr.mono (by decide)) (by rfl) g2 k2 b2 (fun σ => passAt tk σ) (pa_cons (pe_callS F1 (hr.mono (by decide)) (by rfl) g1 k1 b1 (fun σ => passAt tk σ) (pa_cons (pe_callS C (hr.mono (by decide)) (by rfl) gc Fc.kp bc (fun σ => passAt tk σ) (pa_cons (pv 0) (pa_cons pe_int pa_nil))) (pa_cons pe_int pa_nil))) pa_nil))))), ?_⟩
    obtain ⟨a, ns, rfl, hS, hn, q⟩ := h
    refine ⟨[], fun _ => False, fun _ => False, [.no], _, er0 rfl (fun i s e => by
      cases i with
      | zero => cases e; exact .inl rfl
      | succ i => simp at e), hand, fun H1 L1 t1 R1 v hv => ?_⟩
    cases hv
    refine ⟨true, rfl, ?_⟩
    rw [if_pos rfl]
    have hS1 : SqL K H1 a (ns.map V.int) := by
      rcases hS with (h | ⟨o, h⟩) | h
      · exact .inl (.inl (t1 _ _ h id).1)
      · exact .inl (.inr ⟨o, (t1 _ _ h id).1⟩)
      · exact .inr h
    refine ⟨.ref a, rfl, a, ns, rfl, hS1, hn, fun H2 p c hp => ?_⟩
    obtain ⟨u, sl, eb, hu⟩ := box_ok c
    refine ⟨fun _ => False, fun _ => False, [.im (.list [.int c]), .im (.int 0)], _, er0 rfl (fun i s e => ?_), fun a h => h.elim, eb, fun v H3 keep R3 dn => ?_⟩
    · cases i with
      | zero => cases e; exact .inr ⟨.ref p, _, rfl, rfl, .lst (fun z => z.elim id id) hp (.cons (.int c) .nil)⟩
      | succ i =>
        cases i with
        | zero => cases e; exact .inr ⟨.int 0, _, rfl, rfl, .int 0⟩
        | succ i => simp at e
    obtain ⟨b, vs, rfl, _, hb, da⟩ := dn.lstInv
    obtain ⟨u', er⟩ := right_ok hu
    obtain ⟨x, y, z, rfl, _⟩ := hu
    have da2 : DnA K (U (fun a => a = b) fun _ => False) H3 vs [.int x, .int y, .int z] := by
      have e := DnA.ints_inv (ns := [x, y, z]) da
      subst e
      exact DnA.ints [x, y, z]
    refine ⟨fun _ => False, fun a => a = b, [.mu true [.int x, .int y, .int z]], _, ⟨rfl, fun a h => ?_, fun a _ h => h, fun i s e => ?_, fun i j b1 c1 ds es a ne e1 e2 => ?_⟩, fun a h => ⟨0, _, rfl, by rw [h]; rfl⟩, er, fun v' H4 _ _ dn' => ?_⟩
    · rcases h with h | h
      · rw [h]; exact ⟨_, hb⟩
      · exact h.elim
    · cases i with
      | zero => cases e; exact ⟨b, vs, rfl, rfl, hb, da2, fun _ => rfl⟩
      | succ i => simp at e
    · cases i with
      | zero =>
        cases j with
        | zero => exact (ne rfl).elim
        | succ j => simp at e2
      | succ i => simp at e1
    · cases dn'
      exact q H4
end
end K17
namespace K17
open PySem PySem.Spec PyProof.Rows L2 PD
def fa : List (PySem.W.Frag → Bool) :=
  [fun K => (He.Fa.free "abs").ok K,
   fun K => (He.Fa.free "all").ok K,
   fun K => (He.Fa.free "bool").ok K,
   fun K => (He.Fa.free "enumerate").ok K,
   fun K => (He.Fa.free "int").ok K,
   fun K => (He.Fa.free "isinstance").ok K,
   fun K => (He.Fa.free "len").ok K,
   fun K => (He.Fa.free "list").ok K,
   fun K => (He.Fa.free "max").ok K,
   fun K => (He.Fa.free "range").ok K,
   fun K => (He.Fa.free "str").ok K,
   fun K => (He.Fa.free "tuple").ok K,
   fun K => (He.Fa.free "zip").ok K,
   fun K => (He.Fa.glo "check_place").ok K,
   fun K => (He.Fa.glo "next_place").ok K,
   fun K => (He.Fa.glo "last_place").ok K,
   fun K => (He.Fa.glo "found").ok K,
   fun K => (He.Fa.glo "row_named").ok K,
   fun K => (He.Fa.glo "named").ok K,
   fun K => (He.Fa.glo "stands_at").ok K,
   fun K => (He.Fa.glo "other_side").ok K,
   fun K => (He.Fa.glo "turned").ok K,
   fun K => (He.Fa.glo "_law_same").ok K,
   fun K => (He.Fa.glo "_law_by_hand_right").ok K,
   fun K => (He.Fa.glo "is_number").ok K,
   fun K => (He.Fa.glo "is_number_in").ok K,
   fun K => (He.Fa.glo "is_row_in").ok K,
   fun K => (He.Fa.glo "is_set_in").ok K,
   fun K => (He.Fa.glo "is_letters").ok K,
   fun K => (He.Fa.glo "is_side").ok K,
   fun K => (He.Fa.glo "is_ask").ok K,
   fun K => (He.Fa.glo "is_named_pair").ok K,
   fun K => (He.Fa.glo "is_naming").ok K,
   fun K => (He.Fa.glo "_law_take").ok K,
   fun K => (He.Fa.glo "_law_lists").ok K,
   fun K => (He.Fa.glo "_law_of").ok K,
   fun K => (He.Fa.glo "_law_text").ok K,
   fun K => (He.Fa.glo "_law_letters").ok K,
   fun K => (He.Fa.glo "_law_next").ok K,
   fun K => (He.Fa.glo "_law_last").ok K,
   fun K => (He.Fa.glo "_law_found").ok K,
   fun K => (He.Fa.glo "_law_row").ok K,
   fun K => (He.Fa.glo "_law_right").ok K,
   fun K => (He.Fa.glo "_law_box").ok K,
   fun K => (He.Fa.glo "_law_cells").ok K,
   fun K => (He.Fa.glo "law").ok K,
   clsB "NoPlace" "place" "LookupError" "LookupError.__new__" [.type "LookupError", .type "Exception", .type "BaseException", .type "object"] []]
def dd_check_place : He.DefD := ⟨("check_place", none), "check_place", "check_place", defArgs s_check_place, defBody s_check_place, defScope s_check_place, [], []⟩
def dd_next_place : He.DefD := ⟨("next_place", none), "next_place", "next_place", defArgs s_next_place, defBody s_next_place, defScope s_next_place, [], []⟩
def dd_last_place : He.DefD := ⟨("last_place", none), "last_place", "last_place", defArgs s_last_place, defBody s_last_place, defScope s_last_place, [], []⟩
def dd_found : He.DefD := ⟨("found", none), "found", "found", defArgs s_found, defBody s_found, defScope s_found, [], []⟩
def dd_row_named : He.DefD := ⟨("row_named", none), "row_named", "row_named", defArgs s_row_named, defBody s_row_named, defScope s_row_named, [], []⟩
def dd_named : He.DefD := ⟨("named", none), "named", "named", defArgs s_named, defBody s_named, defScope s_named, [], []⟩
def dd_stands_at : He.DefD := ⟨("stands_at", none), "stands_at", "stands_at", defArgs s_stands_at, defBody s_stands_at, defScope s_stands_at, [], []⟩
def dd_other_side : He.DefD := ⟨("other_side", none), "other_side", "other_side", defArgs s_other_side, defBody s_other_side, defScope s_other_side, [], []⟩
def dd_turned : He.DefD := ⟨("turned", none), "turned", "turned", defArgs s_turned, defBody s_turned, defScope s_turned, [], []⟩
def dd__law_same : He.DefD := ⟨("_law_same", none), "_law_same", "_law_same", defArgs s__law_same, defBody s__law_same, defScope s__law_same, [], []⟩
def dd__law_by_hand_right : He.DefD := ⟨("_law_by_hand_right", none), "_law_by_hand_right", "_law_by_hand_right", defArgs s__law_by_hand_right, defBody s__law_by_hand_right, defScope s__law_by_hand_right, [], []⟩
def dd_is_number : He.DefD := ⟨("is_number", none), "is_number", "is_number", defArgs s_is_number, defBody s_is_number, defScope s_is_number, [], []⟩
def dd_is_number_in : He.DefD := ⟨("is_number_in", none), "is_number_in", "is_number_in", defArgs s_is_number_in, defBody s_is_number_in, defScope s_is_number_in, [], []⟩
def dd_is_row_in : He.DefD := ⟨("is_row_in", none), "is_row_in", "is_row_in", defArgs s_is_row_in, defBody s_is_row_in, defScope s_is_row_in, [], []⟩
def dd_is_set_in : He.DefD := ⟨("is_set_in", none), "is_set_in", "is_set_in", defArgs s_is_set_in, defBody s_is_set_in, defScope s_is_set_in, [], []⟩
def dd_is_letters : He.DefD := ⟨("is_letters", none), "is_letters", "is_letters", defArgs s_is_letters, defBody s_is_letters, defScope s_is_letters, [], []⟩
def dd_is_side : He.DefD := ⟨("is_side", none), "is_side", "is_side", defArgs s_is_side, defBody s_is_side, defScope s_is_side, [], []⟩
def dd_is_ask : He.DefD := ⟨("is_ask", none), "is_ask", "is_ask", defArgs s_is_ask, defBody s_is_ask, defScope s_is_ask, [], []⟩
def dd_is_named_pair : He.DefD := ⟨("is_named_pair", none), "is_named_pair", "is_named_pair", defArgs s_is_named_pair, defBody s_is_named_pair, defScope s_is_named_pair, [], []⟩
def dd_is_naming : He.DefD := ⟨("is_naming", none), "is_naming", "is_naming", defArgs s_is_naming, defBody s_is_naming, defScope s_is_naming, [], []⟩
def dd__law_take : He.DefD := ⟨("_law_take", none), "_law_take", "_law_take", defArgs s__law_take, defBody s__law_take, defScope s__law_take, [], []⟩
def dd__law_lists : He.DefD := ⟨("_law_lists", none), "_law_lists", "_law_lists", defArgs s__law_lists, defBody s__law_lists, defScope s__law_lists, [], []⟩
def dd__law_of : He.DefD := ⟨("_law_of", none), "_law_of", "_law_of", defArgs s__law_of, defBody s__law_of, defScope s__law_of, [], []⟩
def dd__law_text : He.DefD := ⟨("_law_text", none), "_law_text", "_law_text", defArgs s__law_text, defBody s__law_text, defScope s__law_text, [], []⟩
def dd__law_letters : He.DefD := ⟨("_law_letters", none), "_law_letters", "_law_letters", defArgs s__law_letters, defBody s__law_letters, defScope s__law_letters, [], []⟩
def dd__law_next : He.DefD := ⟨("_law_next", none), "_law_next", "_law_next", defArgs s__law_next, defBody s__law_next, defScope s__law_next, [], []⟩
def dd__law_last : He.DefD := ⟨("_law_last", none), "_law_last", "_law_last", defArgs s__law_last, defBody s__law_last, defScope s__law_last, [], []⟩
def dd__law_found : He.DefD := ⟨("_law_found", none), "_law_found", "_law_found", defArgs s__law_found, defBody s__law_found, defScope s__law_found, [], []⟩
def dd__law_row : He.DefD := ⟨("_law_row", none), "_law_row", "_law_row", defArgs s__law_row, defBody s__law_row, defScope s__law_row, [], []⟩
def dd__law_right : He.DefD := ⟨("_law_right", none), "_law_right", "_law_right", defArgs s__law_right, defBody s__law_right, defScope s__law_right, [], []⟩
def dd__law_box : He.DefD := ⟨("_law_box", none), "_law_box", "_law_box", defArgs s__law_box, defBody s__law_box, defScope s__law_box, [], []⟩
def dd__law_cells : He.DefD := ⟨("_law_cells", none), "_law_cells", "_law_cells", defArgs s_cells, defBody s_cells, defScope s_cells, [], []⟩
def dd_law : He.DefD := ⟨("law", none), "law", "law", defArgs s_law, defBody s_law, defScope s_law, [], []⟩
def dd_NoPlace : He.DefD := ⟨("NoPlace", some "__init__"), "__init__", "NoPlace.__init__", defArgs s_NoPlace, defBody s_NoPlace, defScope s_NoPlace, [], []⟩
def fns : List He.DefD := [dd_check_place, dd_next_place, dd_last_place, dd_found, dd_row_named, dd_named, dd_stands_at, dd_other_side, dd_turned, dd__law_same, dd__law_by_hand_right, dd_is_number, dd_is_number_in, dd_is_row_in, dd_is_set_in, dd_is_letters, dd_is_side, dd_is_ask, dd_is_named_pair, dd_is_naming, dd__law_take, dd__law_lists, dd__law_of, dd__law_text, dd__law_letters, dd__law_next, dd__law_last, dd__law_found, dd__law_row, dd__law_right, dd__law_box, dd__law_cells, dd_law, dd_NoPlace]
abbrev R : PySem.W.OpenRow := PySem.W.OpenLaw.row PySem.Challenge.rw_nextsuch_k17_whole_asks_and_namings
abbrev hk : PySem.W.Hook := hookP 6 fa fns
def ob (s : PySem.W.SharedT) : He.AlD := obsPG 6 fa fns (HandSHeadRun.getT s)
theorem ob_eq (s : PySem.W.SharedT) : ob s = hk.obs s.abs := obsPG_eq (HandSHeadRun.getT_eq s)
def loose : List Str := (["is_number", "is_number_in", "is_row_in", "is_set_in", "NoPlace", "is_letters", "check_place", "next_place", "last_place", "is_side", "is_ask", "is_named_pair", "is_naming", "found", "row_named"] : List Str) ++ (["named", "stands_at", "other_side", "turned", "_law_box", "_law_take", "_law_cells", "_law_lists", "_law_same", "_law_of", "_law_text", "_law_letters", "_law_next", "_law_last", "_law_found"] : List Str) ++ (["_law_row", "_law_right", "_law_by_hand_right"] : List Str)
theorem run (w : World) : HandSHeadRun.RunEq R (PySem.W.view R.prog [38]) hk ob 4000 loose w := by
  intro os
  kernel_rfl
theorem tx {K : PySem.W.Frag} {h : Heap} {mg : Str → Option Value} (X : K.In h) (G : h.Ns mainGlobals mg) (c : SaysP fa fns K) : Tx K mg where
  b_abs := He.free_ok X G (c.fact 0 (f := fun K => (He.Fa.free "abs").ok K))
  b_all := He.free_ok X G (c.fact 1 (f := fun K => (He.Fa.free "all").ok K))
  b_bool := He.free_ok X G (c.fact 2 (f := fun K => (He.Fa.free "bool").ok K))
  b_enumerate := He.free_ok X G (c.fact 3 (f := fun K => (He.Fa.free "enumerate").ok K))
  b_int := He.free_ok X G (c.fact 4 (f := fun K => (He.Fa.free "int").ok K))
  b_isinstance := He.free_ok X G (c.fact 5 (f := fun K => (He.Fa.free "isinstance").ok K))
  b_len := He.free_ok X G (c.fact 6 (f := fun K => (He.Fa.free "len").ok K))
  b_list := He.free_ok X G (c.fact 7 (f := fun K => (He.Fa.free "list").ok K))
  b_max := He.free_ok X G (c.fact 8 (f := fun K => (He.Fa.free "max").ok K))
  b_range := He.free_ok X G (c.fact 9 (f := fun K => (He.Fa.free "range").ok K))
  b_str := He.free_ok X G (c.fact 10 (f := fun K => (He.Fa.free "str").ok K))
  b_tuple := He.free_ok X G (c.fact 11 (f := fun K => (He.Fa.free "tuple").ok K))
  b_zip := He.free_ok X G (c.fact 12 (f := fun K => (He.Fa.free "zip").ok K))
  f_check_place := let ⟨fd, F⟩ := c.def_ 0 (d := dd_check_place) rfl; ⟨fd, fun_of F, He.glo_ok X G (c.fact 13 (f := fun K => (He.Fa.glo "check_place").ok K))⟩
  f_next_place := let ⟨fd, F⟩ := c.def_ 1 (d := dd_next_place) rfl; ⟨fd, fun_of F, He.glo_ok X G (c.fact 14 (f := fun K => (He.Fa.glo "next_place").ok K))⟩
  f_last_place := let ⟨fd, F⟩ := c.def_ 2 (d := dd_last_place) rfl; ⟨fd, fun_of F, He.glo_ok X G (c.fact 15 (f := fun K => (He.Fa.glo "last_place").ok K))⟩
  f_found := let ⟨fd, F⟩ := c.def_ 3 (d := dd_found) rfl; ⟨fd, fun_of F, He.glo_ok X G (c.fact 16 (f := fun K => (He.Fa.glo "found").ok K))⟩
  f_row_named := let ⟨fd, F⟩ := c.def_ 4 (d := dd_row_named) rfl; ⟨fd, fun_of F, He.glo_ok X G (c.fact 17 (f := fun K => (He.Fa.glo "row_named").ok K))⟩
  f_named := let ⟨fd, F⟩ := c.def_ 5 (d := dd_named) rfl; ⟨fd, fun_of F, He.glo_ok X G (c.fact 18 (f := fun K => (He.Fa.glo "named").ok K))⟩
  f_stands_at := let ⟨fd, F⟩ := c.def_ 6 (d := dd_stands_at) rfl; ⟨fd, fun_of F, He.glo_ok X G (c.fact 19 (f := fun K => (He.Fa.glo "stands_at").ok K))⟩
  f_other_side := let ⟨fd, F⟩ := c.def_ 7 (d := dd_other_side) rfl; ⟨fd, fun_of F, He.glo_ok X G (c.fact 20 (f := fun K => (He.Fa.glo "other_side").ok K))⟩
  f_turned := let ⟨fd, F⟩ := c.def_ 8 (d := dd_turned) rfl; ⟨fd, fun_of F, He.glo_ok X G (c.fact 21 (f := fun K => (He.Fa.glo "turned").ok K))⟩
  f__law_same := let ⟨fd, F⟩ := c.def_ 9 (d := dd__law_same) rfl; ⟨fd, fun_of F, He.glo_ok X G (c.fact 22 (f := fun K => (He.Fa.glo "_law_same").ok K))⟩
  f__law_by_hand_right := let ⟨fd, F⟩ := c.def_ 10 (d := dd__law_by_hand_right) rfl; ⟨fd, fun_of F, He.glo_ok X G (c.fact 23 (f := fun K => (He.Fa.glo "_law_by_hand_right").ok K))⟩
  f_is_number := let ⟨fd, F⟩ := c.def_ 11 (d := dd_is_number) rfl; ⟨fd, fun_of F, He.glo_ok X G (c.fact 24 (f := fun K => (He.Fa.glo "is_number").ok K))⟩
  f_is_number_in := let ⟨fd, F⟩ := c.def_ 12 (d := dd_is_number_in) rfl; ⟨fd, fun_of F, He.glo_ok X G (c.fact 25 (f := fun K => (He.Fa.glo "is_number_in").ok K))⟩
  f_is_row_in := let ⟨fd, F⟩ := c.def_ 13 (d := dd_is_row_in) rfl; ⟨fd, fun_of F, He.glo_ok X G (c.fact 26 (f := fun K => (He.Fa.glo "is_row_in").ok K))⟩
  f_is_set_in := let ⟨fd, F⟩ := c.def_ 14 (d := dd_is_set_in) rfl; ⟨fd, fun_of F, He.glo_ok X G (c.fact 27 (f := fun K => (He.Fa.glo "is_set_in").ok K))⟩
  f_is_letters := let ⟨fd, F⟩ := c.def_ 15 (d := dd_is_letters) rfl; ⟨fd, fun_of F, He.glo_ok X G (c.fact 28 (f := fun K => (He.Fa.glo "is_letters").ok K))⟩
  f_is_side := let ⟨fd, F⟩ := c.def_ 16 (d := dd_is_side) rfl; ⟨fd, fun_of F, He.glo_ok X G (c.fact 29 (f := fun K => (He.Fa.glo "is_side").ok K))⟩
  f_is_ask := let ⟨fd, F⟩ := c.def_ 17 (d := dd_is_ask) rfl; ⟨fd, fun_of F, He.glo_ok X G (c.fact 30 (f := fun K => (He.Fa.glo "is_ask").ok K))⟩
  f_is_named_pair := let ⟨fd, F⟩ := c.def_ 18 (d := dd_is_named_pair) rfl; ⟨fd, fun_of F, He.glo_ok X G (c.fact 31 (f := fun K => (He.Fa.glo "is_named_pair").ok K))⟩
  f_is_naming := let ⟨fd, F⟩ := c.def_ 19 (d := dd_is_naming) rfl; ⟨fd, fun_of F, He.glo_ok X G (c.fact 32 (f := fun K => (He.Fa.glo "is_naming").ok K))⟩
  f__law_take := let ⟨fd, F⟩ := c.def_ 20 (d := dd__law_take) rfl; ⟨fd, fun_of F, He.glo_ok X G (c.fact 33 (f := fun K => (He.Fa.glo "_law_take").ok K))⟩
  f__law_lists := let ⟨fd, F⟩ := c.def_ 21 (d := dd__law_lists) rfl; ⟨fd, fun_of F, He.glo_ok X G (c.fact 34 (f := fun K => (He.Fa.glo "_law_lists").ok K))⟩
  f__law_of := let ⟨fd, F⟩ := c.def_ 22 (d := dd__law_of) rfl; ⟨fd, fun_of F, He.glo_ok X G (c.fact 35 (f := fun K => (He.Fa.glo "_law_of").ok K))⟩
  f__law_text := let ⟨fd, F⟩ := c.def_ 23 (d := dd__law_text) rfl; ⟨fd, fun_of F, He.glo_ok X G (c.fact 36 (f := fun K => (He.Fa.glo "_law_text").ok K))⟩
  f__law_letters := let ⟨fd, F⟩ := c.def_ 24 (d := dd__law_letters) rfl; ⟨fd, fun_of F, He.glo_ok X G (c.fact 37 (f := fun K => (He.Fa.glo "_law_letters").ok K))⟩
  f__law_next := let ⟨fd, F⟩ := c.def_ 25 (d := dd__law_next) rfl; ⟨fd, fun_of F, He.glo_ok X G (c.fact 38 (f := fun K => (He.Fa.glo "_law_next").ok K))⟩
  f__law_last := let ⟨fd, F⟩ := c.def_ 26 (d := dd__law_last) rfl; ⟨fd, fun_of F, He.glo_ok X G (c.fact 39 (f := fun K => (He.Fa.glo "_law_last").ok K))⟩
  f__law_found := let ⟨fd, F⟩ := c.def_ 27 (d := dd__law_found) rfl; ⟨fd, fun_of F, He.glo_ok X G (c.fact 40 (f := fun K => (He.Fa.glo "_law_found").ok K))⟩
  f__law_row := let ⟨fd, F⟩ := c.def_ 28 (d := dd__law_row) rfl; ⟨fd, fun_of F, He.glo_ok X G (c.fact 41 (f := fun K => (He.Fa.glo "_law_row").ok K))⟩
  f__law_right := let ⟨fd, F⟩ := c.def_ 29 (d := dd__law_right) rfl; ⟨fd, fun_of F, He.glo_ok X G (c.fact 42 (f := fun K => (He.Fa.glo "_law_right").ok K))⟩
  f__law_box := let ⟨fd, F⟩ := c.def_ 30 (d := dd__law_box) rfl; ⟨fd, fun_of F, He.glo_ok X G (c.fact 43 (f := fun K => (He.Fa.glo "_law_box").ok K))⟩
  k_NoPlace := clsB_ok (c.fact 46)
  g_NoPlace := He.glo_ok X G (clsB_ok (c.fact 46)).glo
  i_NoPlace := let ⟨fd, F⟩ := c.def_ 33 (d := dd_NoPlace) rfl; ⟨fd, fun_of F⟩
theorem tc {K : PySem.W.Frag} {h : Heap} {mg : Str → Option Value} (X : K.In h) (G : h.Ns mainGlobals mg) (c : SaysP fa fns K) : ∃ fd, Fun K "_law_cells" "_law_cells" s_cells (He.ga K "_law_cells") fd ∧ mg "_law_cells" = some (.ref (He.ga K "_law_cells")) :=
  let ⟨fd, F⟩ := c.def_ 31 (d := dd__law_cells) rfl; ⟨fd, fun_of F, He.glo_ok X G (c.fact 44 (f := fun K => (He.Fa.glo "_law_cells").ok K))⟩
theorem tl {K : PySem.W.Frag} {h : Heap} {mg : Str → Option Value} (X : K.In h) (G : h.Ns mainGlobals mg) (c : SaysP fa fns K) : ∃ fd, Fun K "law" "law" s_law (He.ga K "law") fd ∧ mg "law" = some (.ref (He.ga K "law")) :=
  let ⟨fd, F⟩ := c.def_ 32 (d := dd_law) rfl; ⟨fd, fun_of F, He.glo_ok X G (c.fact 45 (f := fun K => (He.Fa.glo "law").ok K))⟩
end K17
open PySem PySem.W PySem.Calls PyProof.Rows
set_option maxHeartbeats 0 in
theorem PySem.Challenge.cw_nextsuch_k17_whole_asks_and_namings_holds : PySem.Challenge.rw_nextsuch_k17_whole_asks_and_namings.Holds := by
  w_on; o_law
  refine HandSHeadRun.head_any (r := OpenLaw.row PySem.Challenge.rw_nextsuch_k17_whole_asks_and_namings) (q := view (OpenLaw.row PySem.Challenge.rw_nextsuch_k17_whole_asks_and_namings).prog [38]) (H := K17.hk) (ob := K17.ob) (M := 4000) (loose := K17.loose) (d := HandSHeadRun.topDef (OpenLaw.row PySem.Challenge.rw_nextsuch_k17_whole_asks_and_namings).prog 38) (kwd := []) K17.ob_eq
    (by kernel_rfl) (fun s => by kernel_rfl) K17.run (by kernel_rfl) (by kernel_rfl) (by kernel_rfl) (by rfl) (by first | assumption | decide +kernel) (by decide +kernel) ⟨rfl, rfl, rfl, rfl, rfl, by decide +kernel⟩ ?hw ?hc
  case hw => w_witness2
  case hc =>
    refine L2.walk_ofE (l := PySem.Challenge.rw_nextsuch_k17_whole_asks_and_namings) (n := 63) (k := 21) (x := "script") (CX := L2.CX0) rfl (by decide) (by kernel_rfl) ⟨rfl, by decide, by decide⟩ ?F (fun _ _ _ _ z => z)
    intro w mg fa h Y G hmg0
    obtain ⟨K, KX, c⟩ := Y
    have hmg : mg ("law" : PySem.Str) = some (.ref fa) := by
      have e : (HandSHeadRun.topDef (OpenLaw.row PySem.Challenge.rw_nextsuch_k17_whole_asks_and_namings).prog 38).name = ("law" : PySem.Str) := by kernel_rfl
      rw [← e]
      exact hmg0
    have T := K17.tx KX G c
    obtain ⟨fdc, Fc, gc⟩ := K17.tc KX G c
    obtain ⟨fd, F, hm2⟩ := K17.tl KX G c
    have ef := Option.some.inj (hmg.symm.trans hm2)
    cases ef
    have F0 := F
    obtain ⟨oc, od, kV, doc, pm, an, cdv, ct, osl, rfl, lk, hcd⟩ := F0.ex
    exact ⟨K, _, (fun vs H Q _ => K17.spLaw K vs H Q fun _ _ _ => False), KX, fun s u => .of_eq rfl, fun H a ns hl _ hS => ⟨a, ns, rfl, hS, hl, fun _ => rfl⟩, fun base hK hG => PD.fn_quiet (K17.ok_law T F Fc gc)⟩
