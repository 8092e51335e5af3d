import PyProof.Rows.All
import Wide.All
import OpenK.AllK
import Wide.FinOn
import HandS.ForMost
import HandS.Flow
import HandS.IsInst
import HandS.Style
import HandS.Zip
import HandS.Conv
import HandS.Exc
import HandS.ExcOwn
import HandS.ExcInit
import HandS.CallSlots
import HandS.TryOnly
import HandS.TryMany
import HandS.WordsExc
import HandS.TupAny
import HandS.RevTup
import HandS.Strs
import HandS.SetFor
import HandS.SetBool
import HandS.Walk
import HandS.Nested
import KE.GoesEnum
import KE.GoesMore
import KE.KExcInit
import HandS.ExcField
import HandS.ExcIs
import HandS.Defaults
import HandS.TupMul
import HandS.HeadHook2
import HandS.Head2
import HandS.HeadEnd
import KE.KDictKeyed
import KE.KDictWalk
import KE.KDictCopyH
import HandS.EndTab
import HandS.EndBits
import KE.KDictDisplayH
import HandS.DictComp
import HandS.SortInts
import HandS.Rev
import HandS.HeadHook4
import HandS.HeadWalk
import HandS.RevRange
import PySem.Challenge.RW_nextsuch_k39_namings_by_hand_and_refused
set_option Elab.async false
set_option linter.all false
set_option maxRecDepth 100000
set_option maxHeartbeats 4000000
noncomputable section
/-! Data of a running def, told without addresses: what slots hold, which lists are its own. -/
namespace PD
open PySem PySem.Spec PyProof.Rows L2

abbrev D := PyData
abbrev AS := Addr → Prop
abbrev Fr0 := PySem.W.Frag
abbrev U (L F : AS) : AS := fun a => L a ∨ F a

mutual
inductive Dn (K : Fr0) (F : AS) (H : Hp) : V → D → Prop
  | non : Dn K F H .non .none
  | bl (b : Bool) : Dn K F H (.bl b) (.bool b)
  | int (i : Int) : Dn K F H (.int i) (.int i)
  | str (x : Str) : Dn K F H (.str x) (.str x)
  | lst {a : Addr} {xs : List V} {ds : List D} : ¬ F a → H a = some (.lst xs) → DnA K F H xs ds → Dn K F H (.ref a) (.list ds)
  | tup {a : Addr} {xs : List V} {ds : List D} : ((¬ F a ∧ H a = some (.tup xs)) ∨ SqT K (fun _ => Option.none) a xs) → DnA K F H xs ds → Dn K F H (.ref a) (.tuple ds)
inductive DnA (K : Fr0) (F : AS) (H : Hp) : List V → List D → Prop
  | nil : DnA K F H [] []
  | cons {v : V} {vs : List V} {d : D} {ds : List D} : Dn K F H v d → DnA K F H vs ds → DnA K F H (v :: vs) (d :: ds)
end

/-- no table of code objects: those may grow -/
def NT (o : HO) : Prop := ∀ t, o ≠ .tbl t
theorem nt_lst {xs : List V} : NT (.lst xs) := fun _ z => by cases z
theorem nt_tup {xs : List V} : NT (.tup xs) := fun _ z => by cases z
theorem nt_xd {xs : List (Str × V)} : NT (.xd xs) := fun _ z => by cases z
theorem nt_ext {p : Heap → Prop} : NT (.ext p) := fun _ z => by cases z
theorem nt_rng {i j : Int} : NT (.rng i j) := fun _ z => by cases z
/-- what F does not hold stands, and stays outside -/
def Mv (F : AS) (H : Hp) (F' : AS) (H' : Hp) : Prop := ∀ a o, ¬ F a → H a = some o → NT o → ¬ F' a ∧ H' a = some o
theorem Mv.refl (F : AS) (H : Hp) : Mv F H F H := fun _ _ a b _ => ⟨a, b⟩
theorem Mv.trans {F F1 F2 : AS} {H H1 H2 : Hp} (p : Mv F H F1 H1) (q : Mv F1 H1 F2 H2) : Mv F H F2 H2 := fun a o n e nt =>
  let ⟨n1, e1⟩ := p a o n e nt
  q a o n1 e1 nt

section
variable {K : Fr0} {F F' : AS} {H H' : Hp}
mutual
theorem Dn.mv (m : Mv F H F' H') : ∀ {d : D} {v : V}, Dn K F H v d → Dn K F' H' v d
  | .none, _, h => by cases h; exact .non
  | .bool _, _, h => by cases h; exact .bl _
  | .int _, _, h => by cases h; exact .int _
  | .str _, _, h => by cases h; exact .str _
  | .list ds, _, h => by
    cases h with
    | lst n e r => exact .lst (m _ _ n e nt_lst).1 (m _ _ n e nt_lst).2 (DnA.mv m r)
  | .tuple ds, _, h => by
    cases h with
    | tup e r => exact .tup (e.elim (fun z => .inl (m _ _ z.1 z.2 nt_tup)) .inr) (DnA.mv m r)
  | .dict _, _, h => by cases h
theorem DnA.mv (m : Mv F H F' H') : ∀ {ds : List D} {vs : List V}, DnA K F H vs ds → DnA K F' H' vs ds
  | [], _, h => by cases h; exact .nil
  | d :: ds, _, h => by
    cases h with
    | cons a b => exact .cons (Dn.mv m a) (DnA.mv m b)
end
mutual
theorem Dn.dp : ∀ {d : D} {v : V}, Dn K F H v d → Dp K H v d
  | .none, _, h => by cases h; exact .non
  | .bool _, _, h => by cases h; exact .bl _
  | .int _, _, h => by cases h; exact .int _
  | .str _, _, h => by cases h; exact .str _
  | .list ds, _, h => by
    cases h with
    | lst n e r => exact .lst (SqL.of e) (DnA.dp r)
  | .tuple ds, _, h => by
    cases h with
    | tup e r =>
      refine .tup ?_ (DnA.dp r)
      rcases e with e | e
      · exact SqT.of e.2
      · rcases e with (e | ⟨o, e⟩) | e
        · cases e
        · cases e
        · exact .inr e
  | .dict _, _, h => by cases h
theorem DnA.dp : ∀ {ds : List D} {vs : List V}, DnA K F H vs ds → DpAll K H vs ds
  | [], _, h => by cases h; exact .nil
  | d :: ds, _, h => by
    cases h with
    | cons a b => exact .cons (Dn.dp a) (DnA.dp b)
end
theorem sqt_of (e : (¬ F a ∧ H a = some (.tup xs)) ∨ SqT K (fun _ => Option.none) a xs) : SqT K H a xs := by
  rcases e with e | e
  · exact SqT.of e.2
  · rcases e with (e | ⟨o, e⟩) | e
    · cases e
    · cases e
    · exact .inr e
theorem Dn.tupInv {v : V} {ds : List D} (h : Dn K F H v (.tuple ds)) : ∃ a xs, v = .ref a ∧ SqT K H a xs ∧ DnA K F H xs ds := by
  cases h with
  | tup e r => exact ⟨_, _, rfl, sqt_of e, r⟩
theorem Dn.lstInv {v : V} {ds : List D} (h : Dn K F H v (.list ds)) : ∃ a xs, v = .ref a ∧ ¬ F a ∧ H a = some (.lst xs) ∧ DnA K F H xs ds := by
  cases h with
  | lst n e r => exact ⟨_, _, rfl, n, e, r⟩
theorem DnA.length : ∀ {ds : List D} {vs : List V}, DnA K F H vs ds → vs.length = ds.length
  | [], _, h => by cases h; rfl
  | d :: ds, _, h => by
    cases h with
    | cons a b => simp [DnA.length b]
theorem DnA.get : ∀ {ds : List D} {vs : List V} {i : Nat} {d : D}, DnA K F H vs ds → ds[i]? = some d → ∃ v, vs[i]? = some v ∧ Dn K F H v d
  | [], _, _, _, h, e => by simp at e
  | d :: ds, _, 0, _, h, e => by
    cases h with
    | cons a b => simp at e; subst e; exact ⟨_, rfl, a⟩
  | d :: ds, _, i + 1, x, h, e => by
    cases h with
    | cons a b =>
      obtain ⟨v, h1, h2⟩ := DnA.get (i := i) b (by simpa using e)
      exact ⟨v, by simpa using h1, h2⟩
theorem DnA.getV : ∀ {ds : List D} {vs : List V} {i : Nat} {v : V}, DnA K F H vs ds → vs[i]? = some v → ∃ d, ds[i]? = some d ∧ Dn K F H v d
  | [], _, _, _, h, e => by cases h; simp at e
  | d :: ds, _, 0, _, h, e => by
    cases h with
    | cons a b => simp at e; subst e; exact ⟨_, rfl, a⟩
  | d :: ds, _, i + 1, x, h, e => by
    cases h with
    | cons a b =>
      obtain ⟨v, h1, h2⟩ := DnA.getV (i := i) b (by simpa using e)
      exact ⟨v, by simpa using h1, h2⟩
theorem DnA.app : ∀ {ds es : List D} {vs ws : List V}, DnA K F H vs ds → DnA K F H ws es → DnA K F H (vs ++ ws) (ds ++ es)
  | [], _, _, _, h, g => by cases h; exact g
  | d :: ds, _, _, _, h, g => by
    cases h with
    | cons a b => exact .cons a (DnA.app b g)
theorem DnA.take : ∀ {ds : List D} {vs : List V} (n : Nat), DnA K F H vs ds → DnA K F H (vs.take n) (ds.take n)
  | [], _, _, h => by cases h; simp; exact .nil
  | d :: ds, _, 0, h => by simp; exact .nil
  | d :: ds, _, n + 1, h => by
    cases h with
    | cons a b => exact .cons a (DnA.take n b)
theorem DnA.drop : ∀ {ds : List D} {vs : List V} (n : Nat), DnA K F H vs ds → DnA K F H (vs.drop n) (ds.drop n)
  | [], _, _, h => by cases h; simp; exact .nil
  | d :: ds, _, 0, h => h
  | d :: ds, _, n + 1, h => by
    cases h with
    | cons a b => exact DnA.drop n b
theorem DnA.set : ∀ {ds : List D} {vs : List V} (n : Nat) {v : V} {d : D}, Dn K F H v d → DnA K F H vs ds → DnA K F H (vs.set n v) (ds.set n d)
  | [], _, _, _, _, _, h => by cases h; exact .nil
  | d :: ds, _, 0, _, _, z, h => by
    cases h with
    | cons a b => exact .cons z b
  | d :: ds, _, n + 1, _, _, z, h => by
    cases h with
    | cons a b => exact .cons a (DnA.set n z b)
theorem DnA.erase : ∀ {ds : List D} {vs : List V} (n : Nat), DnA K F H vs ds → DnA K F H (vs.eraseIdx n) (ds.eraseIdx n)
  | [], _, _, h => by cases h; exact .nil
  | d :: ds, _, 0, h => by
    cases h with
    | cons a b => exact b
  | d :: ds, _, n + 1, h => by
    cases h with
    | cons a b => exact .cons a (DnA.erase n b)
theorem DnA.rev {ds : List D} {vs : List V} (h : DnA K F H vs ds) : DnA K F H vs.reverse ds.reverse := by
  induction ds generalizing vs with
  | nil => cases h; exact .nil
  | cons d ds ih =>
    cases h with
    | cons a b =>
      rw [List.reverse_cons, List.reverse_cons]
      exact DnA.app (ih b) (.cons a .nil)
theorem DnA.ints : ∀ (ns : List Int), DnA K F H (ns.map V.int) (ns.map PyData.int)
  | [] => .nil
  | n :: ns => .cons (.int n) (DnA.ints ns)
theorem DnA.ints_inv : ∀ {ns : List Int} {vs : List V}, DnA K F H vs (ns.map PyData.int) → vs = ns.map V.int
  | [], _, h => by cases h; rfl
  | n :: ns, _, h => by
    cases h with
    | cons a b =>
      cases a
      rw [DnA.ints_inv b]
      rfl
theorem DnA.bls_inv : ∀ {ns : List Bool} {vs : List V}, DnA K F H vs (ns.map PyData.bool) → vs = ns.map V.bl
  | [], _, h => by cases h; rfl
  | n :: ns, _, h => by
    cases h with
    | cons a b =>
      cases a
      rw [DnA.bls_inv b]
      rfl
end

/-- a slot: nothing known; data; a list that may be changed (of the caller: true) -/
inductive Sl where
  | no | im (d : D) | mu (b : Bool) (ds : List D)
abbrev En := List Sl
def Slk (K : Fr0) (W : L2.St) (F L : AS) (H : Hp) (i : Nat) (x : Option (Option V)) : Sl → Prop
  | .no => True
  | .im d => ∃ v, x = some (some v) ∧ Dn K F H v d
  | .mu b ds => ∃ a vs, x = some (some (.ref a)) ∧ L a ∧ H a = some (.lst vs) ∧ DnA K F H vs ds ∧ (b = true → W[i]? = some (some (.ref a)))
structure ER (K : Fr0) (W : L2.St) (Fb L : AS) (H : Hp) (σ : L2.St) (env : En) : Prop where
  len : env.length = σ.length
  trk : ∀ a, U L Fb a → ∃ o, H a = some o
  dis : ∀ a, L a → ¬ Fb a
  sl : ∀ (i : Nat) (s : Sl), env[i]? = some s → Slk K W (U L Fb) L H i σ[i]? s
  apart : ∀ (i j : Nat) (b c : Bool) (ds es : List D) (a : Addr), i ≠ j → env[i]? = some (.mu b ds) → env[j]? = some (.mu c es) → σ[i]? = some (some (.ref a)) → σ[j]? ≠ some (some (.ref a))
/-- a step: what is not one's own stands -/
def Tr (H : Hp) (L : AS) (H' : Hp) (L' : AS) : Prop := ∀ a o, H a = some o → ¬ L a → H' a = some o ∧ ¬ L' a
theorem Tr.refl (H : Hp) (L : AS) : Tr H L H L := fun _ _ a b => ⟨a, b⟩
theorem Tr.trans {H H1 H2 : Hp} {L L1 L2 : AS} (p : Tr H L H1 L1) (q : Tr H1 L1 H2 L2) : Tr H L H2 L2 := fun a o e n =>
  let ⟨e1, n1⟩ := p a o e n
  q a o e1 n1
theorem Tr.mv {H H' : Hp} {L L' Fb : AS} (t : Tr H L H' L') : Mv (U L Fb) H (U L' Fb) H' := fun a o n e _ => by
  obtain ⟨e1, n1⟩ := t a o e fun z => n (.inl z)
  exact ⟨fun z => z.elim n1 fun z => n (.inr z), e1⟩
/-- a new object, not owned -/
theorem Tr.new {H : Hp} {L : AS} {p : Addr} {o : HO} (hp : H p = none) : Tr H L (upd H p o) L := fun a u e n => ⟨by rw [upd_ne (ne_of_none e hp)]; exact e, n⟩

section
variable {K : Fr0} {W σ : L2.St} {Fb L L' : AS} {H H' : Hp} {env : En}
/-- growth: nothing of the slots changes -/
theorem ER.grow (R : ER K W Fb L H σ env) (g : ∀ a o, H a = some o → H' a = some o) : ER K W Fb L H' σ env where
  len := R.len
  trk := fun a h => let ⟨o, e⟩ := R.trk a h; ⟨o, g a o e⟩
  dis := R.dis
  sl := fun i s e => by
    have q := R.sl i s e
    have m : Mv (U L Fb) H (U L Fb) H' := fun a o n e _ => ⟨n, g a o e⟩
    cases s with
    | no => trivial
    | im d => obtain ⟨v, e1, h⟩ := q; exact ⟨v, e1, h.mv m⟩
    | mu b ds => obtain ⟨a, vs, e1, l, h1, h2, w⟩ := q; exact ⟨a, vs, e1, l, g _ _ h1, h2.mv m, w⟩
  apart := R.apart
theorem ER.new (R : ER K W Fb L H σ env) {p : Addr} {o : HO} (hp : H p = none) : ER K W Fb L (upd H p o) σ env := R.grow fun a u e => by rw [upd_ne (ne_of_none e hp)]; exact e
theorem ER.free (R : ER K W Fb L H σ env) {p : Addr} (hp : H p = none) : ¬ U L Fb p := fun z => by
  obtain ⟨o, e⟩ := R.trk p z
  rw [hp] at e; cases e
/-- a slot given up to be data -/
theorem ER.frz (R : ER K W Fb L H σ env) {i : Nat} {a : Addr} {ds : List D} (he : env[i]? = some (.mu false ds)) (hs : σ[i]? = some (some (.ref a))) :
    ER K W Fb (fun b => L b ∧ b ≠ a) H σ (env.set i (.im (.list ds))) ∧ Tr H L H (fun b => L b ∧ b ≠ a) ∧ Dn K (U (fun b => L b ∧ b ≠ a) Fb) H (.ref a) (.list ds) := by
  obtain ⟨a', vs, e1, l, h1, h2, w⟩ := R.sl i _ he
  rw [hs] at e1
  cases e1
  have m : Mv (U L Fb) H (U (fun b => L b ∧ b ≠ a) Fb) H := fun b o n e _ => ⟨fun z => n (z.elim (fun z => .inl z.1) .inr), e⟩
  have dn : Dn K (U (fun b => L b ∧ b ≠ a) Fb) H (.ref a) (.list ds) := .lst (fun z => z.elim (fun z => z.2 rfl) (R.dis a l)) h1 (h2.mv m)
  refine ⟨⟨by simpa using R.len, fun b h => R.trk b (h.elim (fun z => .inl z.1) .inr), fun b h => R.dis b h.1, fun j s e => ?_, fun j k b c es fs x ne e1 e2 e3 => ?_⟩, fun b o e n => ⟨e, fun z => n z.1⟩, dn⟩
  · by_cases hj : i = j
    · subst hj
      rw [List.getElem?_set_self (List.getElem?_eq_some_iff.mp he).1] at e
      cases e
      exact ⟨_, hs, dn⟩
    · rw [List.getElem?_set_ne hj] at e
      have q := R.sl j s e
      cases s with
      | no => trivial
      | im d => obtain ⟨v, e1, h⟩ := q; exact ⟨v, e1, h.mv m⟩
      | mu b es =>
        obtain ⟨x, vs', e1, l', h1', h2', w'⟩ := q
        refine ⟨x, vs', e1, ⟨l', fun z => ?_⟩, h1', h2'.mv m, w'⟩
        subst z
        exact R.apart i j _ _ _ _ x hj he e hs e1
  · by_cases hj : i = j
    · subst hj
      rw [List.getElem?_set_self (List.getElem?_eq_some_iff.mp he).1] at e1
      cases e1
    · by_cases hk : i = k
      · subst hk
        rw [List.getElem?_set_self (List.getElem?_eq_some_iff.mp he).1] at e2
        cases e2
      · rw [List.getElem?_set_ne hj] at e1
        rw [List.getElem?_set_ne hk] at e2
        exact R.apart j k b c es fs x ne e1 e2 e3
end

/-! ### readings over data -/
/-- what comes of a step: a value, or an error of the class named c with its fields -/
inductive Rs (α : Type) where
  | ok (a : α) (env : En)
  | ex (c : Str) (fs : List (Str × D)) (env : En)
abbrev Gm (α : Type) := En → Option (Rs α)
abbrev GE := Gm D
abbrev GT := Gm Bool
abbrev GA := Gm (List D)
def gB {α β : Type} (g : Gm α) (f : α → Gm β) : Gm β := fun env => match g env with
  | none => none
  | some (.ok a e) => f a e
  | some (.ex c fs e) => some (.ex c fs e)
def gO {α : Type} (o : Option α) : Gm α := fun env => match o with
  | none => none
  | some a => some (.ok a env)
def gP {α : Type} (a : α) : Gm α := fun env => some (.ok a env)
/-- the error, as it is told at the heap -/
def ExIs (K : Fr0) (mg : Str → Option Value) (F : AS) (H : Hp) (c : Str) (fs : List (Str × D)) (cls : Value) (dd : Option Addr) : Prop :=
  mg c = some cls ∧ match fs with
    | [] => dd = none
    | [(f, d)] => ∃ a v, dd = some a ∧ ¬ F a ∧ H a = some (.xd [(f, v)]) ∧ Dn K F H v d
    | _ => False
def Go {α : Type} (X : Cx) (W : WX) (Wp : L2.St) (Fb : AS) (σ : L2.St) (H : Hp) (L : AS) (r : Rs α) (k : α → Hp → AS → Prop) : Prop := match r with
  | .ok a env' => ∀ H' L', Tr H L H' L' → ER X.K Wp Fb L' H' σ env' → k a H' L'
  | .ex c fs env' => ∀ cls dd H' L', Tr H L H' L' → ER X.K Wp Fb L' H' σ env' → ExIs X.K X.mg (U L' Fb) H' c fs cls dd → W cls dd σ H'
theorem Go.from {α : Type} {X : Cx} {W : WX} {Wp : L2.St} {Fb : AS} {σ : L2.St} {H H1 : Hp} {L L1 : AS} {r : Rs α} {k : α → Hp → AS → Prop} (g : Go X W Wp Fb σ H L r k) (t : Tr H L H1 L1) : Go X W Wp Fb σ H1 L1 r k := by
  cases r with
  | ok a e => exact fun H' L' t' R => g H' L' (t.trans t') R
  | ex c fs e => exact fun cls dd H' L' t' R x => g cls dd H' L' (t.trans t') R x
theorem Go.imp {α : Type} {X : Cx} {W : WX} {Wp : L2.St} {Fb : AS} {σ : L2.St} {H : Hp} {L : AS} {r : Rs α} {k k' : α → Hp → AS → Prop} (g : Go X W Wp Fb σ H L r k) (h : ∀ a H' L', k a H' L' → k' a H' L') : Go X W Wp Fb σ H L r k' := by
  cases r with
  | ok a e => exact fun H' L' t' R => h _ _ _ (g H' L' t' R)
  | ex c fs e => exact g
abbrev Rel (α β : Type) := α → β → AS → Hp → Prop
def Stab {α β : Type} (ρ : Rel α β) : Prop := ∀ a b F H F' H', Mv F H F' H' → ρ a b F H → ρ a b F' H'
def tG {α β : Type} (ρ : Rel α β) (X : Cx) (W : WX) (G : Gm α) (σ : L2.St) (H : Hp) (Q : β → Hp → Prop) : Prop :=
  ∃ (Wp : L2.St) (Fb L : AS) (env : En) (r : Rs α), ER X.K Wp Fb L H σ env ∧ G env = some r ∧ Go X W Wp Fb σ H L r fun a H' L' => ∀ b, ρ a b (U L' Fb) H' → Q b H'
theorem tG.mono {α β : Type} {ρ : Rel α β} {X : Cx} {W : WX} {G : Gm α} {σ : L2.St} {H : Hp} {Q Q' : β → Hp → Prop} (h : ∀ b H, Q b H → Q' b H) (q : tG ρ X W G σ H Q) : tG ρ X W G σ H Q' := by
  obtain ⟨Wp, Fb, L, env, r, R, g, k⟩ := q
  exact ⟨Wp, Fb, L, env, r, R, g, k.imp fun a H' L' z b hb => h _ _ (z b hb)⟩
/-- one step, then the rest: how the rest starts -/
def Nxt {α β γ δ : Type} (ρ : Rel α β) (ρ' : Rel γ δ) (X : Cx) (W : WX) (f : α → Gm γ) (σ : L2.St) (Q : δ → Hp → Prop) (b : β) (H : Hp) : Prop :=
  ∃ (a : α) (Wp : L2.St) (Fb L : AS) (env : En) (r : Rs γ), ρ a b (U L Fb) H ∧ ER X.K Wp Fb L H σ env ∧ f a env = some r ∧ Go X W Wp Fb σ H L r fun a H' L' => ∀ b, ρ' a b (U L' Fb) H' → Q b H'
theorem tG.seq {α β γ δ : Type} {ρ : Rel α β} {ρ' : Rel γ δ} {X : Cx} {W : WX} {Ga : Gm α} {f : α → Gm γ} {σ : L2.St} {H : Hp} {Q : δ → Hp → Prop} (q : tG ρ' X W (gB Ga f) σ H Q) : tG ρ X W Ga σ H (Nxt ρ ρ' X W f σ Q) := by
  obtain ⟨Wp, Fb, L, env, r, R, g, k⟩ := q
  unfold gB at g
  split at g
  · cases g
  · rename_i a e ha
    exact ⟨Wp, Fb, L, env, _, R, ha, fun H' L' t R' b hb => ⟨a, Wp, Fb, L', e, r, hb, R', g, k.from t⟩⟩
  · rename_i c fs e ha
    cases g
    exact ⟨Wp, Fb, L, env, _, R, ha, k⟩
/-- the same, a thing kept from before -/
def Nxt2 {α β α' β' γ δ : Type} (ρ : Rel α β) (ρ1 : Rel α' β') (ρ' : Rel γ δ) (X : Cx) (W : WX) (f : α → α' → Gm γ) (σ : L2.St) (Q : δ → Hp → Prop) (b : β) (b1 : β') (H : Hp) : Prop :=
  ∃ (a : α) (a1 : α') (Wp : L2.St) (Fb L : AS) (env : En) (r : Rs γ), ρ a b (U L Fb) H ∧ ρ1 a1 b1 (U L Fb) H ∧ ER X.K Wp Fb L H σ env ∧ f a a1 env = some r ∧ Go X W Wp Fb σ H L r fun a H' L' => ∀ b, ρ' a b (U L' Fb) H' → Q b H'
theorem tG.seq2 {α β α' β' γ δ : Type} {ρ : Rel α β} {ρ1 : Rel α' β'} {ρ' : Rel γ δ} {X : Cx} {W : WX} {Ga : Gm α} {Gb : Gm α'} {f : α → α' → Gm γ} {σ : L2.St} {H : Hp} {Q : δ → Hp → Prop} (st : Stab ρ) (q : tG ρ' X W (gB Ga fun a => gB Gb (f a)) σ H Q) :
    tG ρ X W Ga σ H fun b H1 => tG ρ1 X W Gb σ H1 fun b1 H2 => Nxt2 ρ ρ1 ρ' X W f σ Q b b1 H2 := by
  refine (tG.seq (ρ := ρ) q).mono fun b H1 z => ?_
  obtain ⟨a, Wp, Fb, L, env, r, hb, R, g, k⟩ := z
  unfold gB at g
  dsimp only at g
  split at g
  · cases g
  · rename_i a1 e ha
    exact ⟨Wp, Fb, L, env, _, R, ha, fun H' L' t R' b1 hb1 => ⟨a, a1, Wp, Fb, L', e, r, st _ _ _ _ _ _ t.mv hb, hb1, R', g, k.from t⟩⟩
  · rename_i c fs e ha
    cases g
    exact ⟨Wp, Fb, L, env, _, R, ha, k⟩
abbrev ρD (K : Fr0) : Rel D V := fun d v F H => Dn K F H v d
abbrev ρA (K : Fr0) : Rel (List D) (List V) := fun ds vs F H => DnA K F H vs ds
abbrev ρB : Rel Bool Bool := fun a b _ _ => b = a
theorem stabD (K : Fr0) : Stab (ρD K) := fun _ _ _ _ _ _ m h => h.mv m
theorem stabA (K : Fr0) : Stab (ρA K) := fun _ _ _ _ _ _ m h => h.mv m
abbrev tD (X : Cx) (W : WX) (G : GE) : TE := tG (ρD X.K) X W G
abbrev tT (X : Cx) (W : WX) (G : GT) : TT := tG ρB X W G
abbrev tAs (X : Cx) (W : WX) (G : GA) : TA := tG (ρA X.K) X W G
/-- a new list, not told to anyone yet: its address is one's own -/
def tF (X : Cx) (W : WX) (G : GA) : TE := fun σ H Q => ∃ (Wp : L2.St) (Fb L : AS) (env : En) (r : Rs (List D)), ER X.K Wp Fb L H σ env ∧ G env = some r ∧ match r with
  | .ok ds env' => ∀ a vs H' L', Tr H L H' L' → L' a → ER X.K Wp Fb L' H' σ env' → H' a = some (.lst vs) → DnA X.K (U L' Fb) H' vs ds → (∀ (j : Nat) (b : Bool) (es : List D), env'[j]? = some (.mu b es) → σ[j]? ≠ some (some (.ref a))) → Q (.ref a) H'
  | .ex c fs env' => ∀ cls dd H' L', Tr H L H' L' → ER X.K Wp Fb L' H' σ env' → ExIs X.K X.mg (U L' Fb) H' c fs cls dd → W cls dd σ H'
structure PD (X : Cx) (W : WX) (e : Expr) (G : GE) : Prop where
  pe : PE X e (tD X W G)
structure PDT (X : Cx) (W : WX) (e : Expr) (G : GT) : Prop where
  pt : PT X e (tT X W G)
structure PDA (X : Cx) (W : WX) (es : List Expr) (G : GA) : Prop where
  pa : PA X es (tAs X W G)
structure PDF (X : Cx) (W : WX) (e : Expr) (G : GA) : Prop where
  pe : PE X e (tF X W G)
theorem PD.cast {X : Cx} {W : WX} {e : Expr} {G G' : GE} (h : PD X W e G) (q : G = G') : PD X W e G' := q ▸ h

theorem PE.wk {X : Cx} {e : Expr} {t t' : TE} (h : PE X e t) (w : ∀ σ H Q, t' σ H Q → t σ H Q) : PE X e t' := ⟨fun pins s σ H Q I q => h.run pins s σ H Q I (w σ H Q q)⟩
theorem PT.wk {X : Cx} {e : Expr} {t t' : TT} (h : PT X e t) (w : ∀ σ H Q, t' σ H Q → t σ H Q) : PT X e t' := ⟨fun pins s σ H Q I q => h.run pins s σ H Q I (w σ H Q q)⟩
theorem PW.wk {X : Cx} {e : Expr} {t t' : TT} (h : PW X e t) (w : ∀ σ H Q, t' σ H Q → t σ H Q) : PW X e t' := ⟨fun wh pins s σ H Q I q => h.run wh pins s σ H Q I (w σ H Q q)⟩
theorem PA.wk {X : Cx} {es : List Expr} {t t' : TA} (h : PA X es t) (w : ∀ σ H Q, t' σ H Q → t σ H Q) : PA X es t' := ⟨fun pos pins s σ H Q I q => h.run pos pins s σ H Q I (w σ H Q q)⟩
theorem PS.wk {X : Cx} {st : Stmt} {t t' : TS} (h : PS X st t) (w : ∀ D σ H, t' D σ H → t D σ H) : PS X st t' := ⟨fun pins s σ H D I q => h.run pins s σ H D I (w D σ H q)⟩
theorem PSs.wk {X : Cx} {st : List Stmt} {t t' : TS} (h : PSs X st t) (w : ∀ D σ H, t' D σ H → t D σ H) : PSs X st t' := ⟨fun pins s σ H D I q => h.run pins s σ H D I (w D σ H q)⟩

/-- one's own address given up -/
theorem ER.drop {K : Fr0} {Wp σ : L2.St} {Fb L : AS} {H : Hp} {env : En} (R : ER K Wp Fb L H σ env) {a : Addr} (ap : ∀ (j : Nat) (b : Bool) (es : List D), env[j]? = some (.mu b es) → σ[j]? ≠ some (some (.ref a))) :
    ER K Wp Fb (fun b => L b ∧ b ≠ a) H σ env ∧ Mv (U L Fb) H (U (fun b => L b ∧ b ≠ a) Fb) H ∧ Tr H L H (fun b => L b ∧ b ≠ a) := by
  have m : Mv (U L Fb) H (U (fun b => L b ∧ b ≠ a) Fb) H := fun b o n e _ => ⟨fun z => n (z.elim (fun z => .inl z.1) .inr), e⟩
  refine ⟨⟨R.len, fun b hb => R.trk b (hb.elim (fun z => .inl z.1) .inr), fun b hb => R.dis b hb.1, fun j s e => ?_, R.apart⟩, m, fun b o e n => ⟨e, fun z => n z.1⟩⟩
  have q := R.sl j s e
  cases s with
  | no => trivial
  | im d => obtain ⟨v, e1, h⟩ := q; exact ⟨v, e1, h.mv m⟩
  | mu b es =>
    obtain ⟨x, vs', e1, l', h1', h2', w'⟩ := q
    refine ⟨x, vs', e1, ⟨l', fun z => ?_⟩, h1', h2'.mv m, w'⟩
    subst z
    exact ap j b es e e1
/-- a list not kept as one's own is data -/
theorem PDF.pd {X : Cx} {W : WX} {e : Expr} {G : GA} (h : PDF X W e G) : PD X W e (gB G fun ds => gP (.list ds)) := ⟨PE.wk h.pe fun σ H Q q => by
  obtain ⟨Wp, Fb, L, env, r, R, g, k⟩ := q
  unfold gB at g
  split at g
  · cases g
  · rename_i ds e hg
    cases g
    refine ⟨Wp, Fb, L, env, _, R, hg, fun a vs H' L' t la R' ha hd ap => ?_⟩
    obtain ⟨R2, m, t2⟩ := R'.drop ap
    exact k H' _ (t.trans t2) R2 (.ref a) (.lst (fun z => z.elim (fun z => z.2 rfl) (R'.dis a la)) ha (hd.mv m))
  · rename_i c fs e hg
    cases g
    exact ⟨Wp, Fb, L, env, _, R, hg, k⟩⟩
end PD
namespace PD
open PySem PySem.Spec PyProof.Rows L2

/-! ### names and constants -/
section
variable {X : Cx} {W : WX}
def gVar (i : Nat) : GE := fun env => match env[i]? with
  | some (.im d) => some (.ok d env)
  | some (.mu false ds) => some (.ok (.list ds) (env.set i (.im (.list ds))))
  | _ => none
theorem pd_var {i : Nat} {x : Str} {pos : Pos} (h : PE X (.Name x pos) (tVar i)) : PD X W (.Name x pos) (gVar i) := ⟨PE.wk h fun σ H Q q => by
  obtain ⟨Wp, Fb, L, env, r, R, g, k⟩ := q
  unfold gVar at g
  split at g
  · rename_i d0 he
    cases g
    obtain ⟨v, e1, h1⟩ := R.sl i _ he
    exact ⟨v, e1, k H L (Tr.refl H L) R v h1⟩
  · rename_i ds he
    cases g
    obtain ⟨a, vs, e1, _⟩ := R.sl i _ he
    obtain ⟨R', t, dn⟩ := R.frz he e1
    exact ⟨_, e1, k H _ t R' _ dn⟩
  · cases g⟩
theorem pd_c {e : Expr} {v : V} {d : D} (h : PE X e (tC v)) (hd : ∀ K F H, Dn K F H v d) : PD X W e (gP d) := ⟨PE.wk h fun σ H Q q => by
  obtain ⟨Wp, Fb, L, env, r, R, g, k⟩ := q
  cases g
  exact k H L (Tr.refl H L) R v (hd _ _ _)⟩
theorem pd_int {i : Int} {j pos} : PD X W (.Constant (.int i) j pos) (gP (.int i)) := pd_c pe_int fun _ _ _ => .int i
theorem pd_bl {b : Bool} {j pos} : PD X W (.Constant (.bool b) j pos) (gP (.bool b)) := pd_c pe_bl fun _ _ _ => .bl b
theorem pd_non {j pos} : PD X W (.Constant .none j pos) (gP .none) := pd_c pe_non fun _ _ _ => .non
theorem pd_str {x : Str} {j pos} : PD X W (.Constant (.str x) j pos) (gP (.str x)) := pd_c pe_str fun _ _ _ => .str x

/-! ### two-place operations by values -/
structure RD2 (K : Fr0) (r : R2) (φ : D → D → Option D) : Prop where
  go : ∀ {F : AS} {H : Hp} {x y : V} {d e z : D} {Q : VK}, Dn K F H x d → Dn K F H y e → φ d e = some z → (∀ p, H p = none → ¬ F p) →
    (∀ v H', (∀ a o, H a = some o → H' a = some o) → Dn K F H' v z → Q v H') → r x y H Q
def gOp (φ : D → D → Option D) (Ga Gb : GE) : GE := gB Ga fun d => gB Gb fun e => gO (φ d e)
theorem grow_tr {H H' : Hp} {L : AS} (g : ∀ a o, H a = some o → H' a = some o) : Tr H L H' L := fun a o e n => ⟨g a o e, n⟩
theorem gO_some {α : Type} {o : Option α} {env : En} {r : Rs α} (h : gO o env = some r) : ∃ a, o = some a ∧ r = .ok a env := by
  unfold gO at h
  cases o with
  | none => cases h
  | some a => cases h; exact ⟨a, rfl, rfl⟩
theorem tOp_of {r : R2} {φ : D → D → Option D} {Ga Gb : GE} {σ : L2.St} {H : Hp} {Q : VK} (hr : RD2 X.K r φ) (q : tD X W (gOp φ Ga Gb) σ H Q) : tOp r (tD X W Ga) (tD X W Gb) σ H Q := by
  refine (tG.seq2 (ρ1 := ρD X.K) (stabD X.K) q).mono fun x H1 z => z.mono fun y H2 z => ?_
  obtain ⟨d, e, Wp, Fb, L, env, r, hx, hy, R, g, k⟩ := z
  obtain ⟨z, h1, rfl⟩ := gO_some g
  exact hr.go hx hy h1 (fun p hp => R.free hp) fun v H' gr dn => k H' L (grow_tr gr) (R.grow gr) v dn
theorem pd_op {op : Operator} {r : R2} {φ : D → D → Option D} {a b : Expr} {Ga Gb : GE} {pos : Pos} (ho : OpR X (binaryOp op) r) (hr : RD2 X.K r φ) (ha : PD X W a Ga) (hb : PD X W b Gb) : PD X W (.BinOp a op b pos) (gOp φ Ga Gb) :=
  ⟨PE.wk (pe_op ho ha.pe hb.pe) fun σ H Q q => tOp_of hr q⟩
theorem pd_ix {r : R2} {φ : D → D → Option D} {a b : Expr} {Ga Gb : GE} {pos : Pos} (ho : IxR X r) (hr : RD2 X.K r φ) (ha : PD X W a Ga) (hb : PD X W b Gb) (hs : PlainIx b) : PD X W (.Subscript a b pos) (gOp φ Ga Gb) :=
  ⟨PE.wk (pe_ix ho ha.pe hb.pe hs) fun σ H Q q => tOp_of hr q⟩

theorem OpR.or {f : Value → Value → Sem Value} {r r' : R2} (h : OpR X f r) (h' : OpR X f r') : OpR X f (fun x y H Q => r x y H Q ∨ r' x y H Q) := L2.OpR.or h h'

/-! #### + -/
def dAdd : D → D → Option D
  | .int i, .int j => some (.int (i + j))
  | .list xs, .list ys => if xs.length + ys.length ≤ 100000 then some (.list (xs ++ ys)) else none
  | .tuple xs, .tuple ys => if xs.length + ys.length ≤ 100000 then some (.tuple (xs ++ ys)) else none
  | _, _ => none
abbrev rAdd (K : Fr0) : R2 := fun x y H Q => rI0 (fun i j => .int (i + j)) x y H Q ∨ (fun x y H Q => rCat x y H Q ∨ rCatA K x y H Q) x y H Q
theorem or_add : OpR X (binaryOp .Add) (rAdd X.K) := L2.OpR.or op_add (L2.OpR.or op_cat op_catA)
theorem sz {n : Nat} (h : n ≤ 100000) : n ≤ sizeLine := Nat.le_trans h (by decide)
theorem fresh_ne {H : Hp} {a p : Addr} {o : HO} (h : H a = some o) (hp : H p = none) : a ≠ p := ne_of_none h hp
theorem upd_grow {H : Hp} {p : Addr} {o : HO} (hp : H p = none) : ∀ a u, H a = some u → upd H p o a = some u := fun a u e => by rw [upd_ne (ne_of_none e hp)]; exact e
theorem mv_grow {F : AS} {H H' : Hp} (g : ∀ a o, H a = some o → H' a = some o) : Mv F H F H' := fun a o n e _ => ⟨n, g a o e⟩
theorem rd_add {K : Fr0} : RD2 K (rAdd K) dAdd := ⟨by
  intro F H x y d e z Q hx hy hz hf k
  unfold dAdd at hz
  split at hz
  · cases hz; cases hx; cases hy
    exact .inl ⟨_, _, rfl, rfl, k _ H (fun _ _ e => e) (.int _)⟩
  · rename_i xs ys
    split at hz
    · rename_i hl
      cases hz
      obtain ⟨a, vs, rfl, na, ha, da⟩ := hx.lstInv
      obtain ⟨b, ws, rfl, nb, hb, db⟩ := hy.lstInv
      refine .inr (.inl ⟨a, b, vs, ws, rfl, rfl, ha, hb, sz (by rw [da.length, db.length]; exact hl), fun p hp => k _ _ (upd_grow hp) (.lst (hf p hp) upd_same ((da.app db).mv (mv_grow (upd_grow hp))))⟩)
    · cases hz
  · rename_i xs ys
    split at hz
    · rename_i hl
      cases hz
      have hx0 := hx
      have hy0 := hy
      obtain ⟨a, vs, rfl, ha, da⟩ := hx.tupInv
      obtain ⟨b, ws, rfl, hb, db⟩ := hy.tupInv
      refine .inr (.inr ⟨a, b, vs, ws, rfl, rfl, ha, hb, sz (by rw [da.length, db.length]; exact hl), fun z => ?_, fun _ z => ?_, fun _ _ p hp => k _ _ (upd_grow hp) (.tup (.inl ⟨hf p hp, upd_same⟩) ((da.app db).mv (mv_grow (upd_grow hp))))⟩)
      · rw [z] at da; cases da
        exact k _ H (fun _ _ e => e) hy0
      · rw [z] at db; cases db
        exact k _ H (fun _ _ e => e) (by rw [List.append_nil]; exact hx0)
    · cases hz
  · cases hz⟩
/-! #### arithmetic -/
def dInt (C : Int → Int → Bool) (f : Int → Int → Int) : D → D → Option D
  | .int i, .int j => if C i j = true then some (.int (f i j)) else none
  | _, _ => none
theorem rd_int {K : Fr0} {C : Int → Int → Prop} {B : Int → Int → Bool} {f : Int → Int → Int} (h : ∀ i j, B i j = true → C i j) : RD2 K (rI C fun i j => .int (f i j)) (dInt B f) := ⟨by
  intro F H x y d e z Q hx hy hz hf k
  unfold dInt at hz
  split at hz
  · rename_i i j
    split at hz
    · rename_i hc
      cases hz; cases hx; cases hy
      exact ⟨i, j, rfl, rfl, h i j hc, k _ H (fun _ _ e => e) (.int _)⟩
    · cases hz
  · cases hz⟩
def dSub : D → D → Option D
  | .int i, .int j => some (.int (i - j))
  | _, _ => none
theorem rd_sub {K : Fr0} : RD2 K (rI0 fun i j => .int (i - j)) dSub := ⟨by
  intro F H x y d e z Q hx hy hz hf k
  unfold dSub at hz
  split at hz
  · cases hz; cases hx; cases hy
    exact ⟨_, _, rfl, rfl, k _ H (fun _ _ e => e) (.int _)⟩
  · cases hz⟩
def bMul (i j : Int) : Bool := (decide (-18446744073709551616 < i) && decide (i < 18446744073709551616)) || (decide (-18446744073709551616 < j) && decide (j < 18446744073709551616))
theorem bMul_ok (i j : Int) (h : bMul i j = true) : CMul i j := by
  unfold bMul at h
  simp only [Bool.or_eq_true, Bool.and_eq_true, decide_eq_true_eq] at h
  unfold CMul
  rcases h with h | h
  · exact .inl ⟨by omega, by omega⟩
  · exact .inr ⟨by omega, by omega⟩
/-- * of numbers; a list so often -/
def dMul : D → D → Option D
  | .int i, .int j => if bMul i j = true then some (.int (i * j)) else none
  | .list xs, .int k => if 0 ≤ k ∧ k ≤ 100000 ∧ xs.length * k.toNat ≤ 100000 then some (.list (List.replicate k.toNat xs).flatten) else none
  | _, _ => none
abbrev rMul : R2 := fun x y H Q => rI CMul (fun i j => .int (i * j)) x y H Q ∨ rRep x y H Q
theorem or_mul : OpR X (binaryOp .Mult) rMul := L2.OpR.or op_mul op_rep
theorem DnA.rep {K : Fr0} {F : AS} {H : Hp} {ds : List D} {vs : List V} (h : DnA K F H vs ds) : ∀ n : Nat, DnA K F H (List.replicate n vs).flatten (List.replicate n ds).flatten
  | 0 => .nil
  | n + 1 => by
    rw [List.replicate_succ, List.replicate_succ, List.flatten_cons, List.flatten_cons]
    exact h.app (DnA.rep h n)
theorem rd_mul {K : Fr0} : RD2 K rMul dMul := ⟨by
  intro F H x y d e z Q hx hy hz hf k
  unfold dMul at hz
  split at hz
  · rename_i i j
    split at hz
    · rename_i hc
      cases hz; cases hx; cases hy
      exact .inl ⟨i, j, rfl, rfl, bMul_ok i j hc, k _ H (fun _ _ e => e) (.int _)⟩
    · cases hz
  · rename_i xs n
    split at hz
    · rename_i hc
      cases hz; cases hy
      obtain ⟨a, vs, rfl, na, ha, da⟩ := hx.lstInv
      refine .inr ⟨a, n, vs, rfl, rfl, ha, by omega, by omega, sz (by rw [da.length]; exact hc.2.2), fun p hp => k _ _ (upd_grow hp) (.lst (hf p hp) upd_same ((da.rep _).mv (mv_grow (upd_grow hp))))⟩
    · cases hz
  · cases hz⟩
def bMod (_ j : Int) : Bool := decide (j ≠ 0)
def bDiv (_ j : Int) : Bool := decide (j ≠ 0) && decide (j.natAbs < 1073741824)
def bPow (i j : Int) : Bool := decide (0 ≤ j) && decide (j ≤ 1000) && decide (i.natAbs < 1000000)
theorem bMod_ok (i j : Int) (h : bMod i j = true) : j ≠ 0 := of_decide_eq_true h
theorem bDiv_ok (i j : Int) (h : bDiv i j = true) : CDivN i j := by
  unfold bDiv at h
  simp only [Bool.and_eq_true, decide_eq_true_eq] at h
  exact h
theorem bPow_ok (i j : Int) (h : bPow i j = true) : CPow i j := by
  unfold bPow at h
  simp only [Bool.and_eq_true, decide_eq_true_eq] at h
  unfold CPow
  omega
/-! #### comparisons -/
def dCmp (p : Int → Int → Bool) : D → D → Option D
  | .int i, .int j => some (.bool (p i j))
  | _, _ => none
theorem rd_cmp {K : Fr0} {p : Int → Int → Bool} : RD2 K (rI0 fun i j => .bl (p i j)) (dCmp p) := ⟨by
  intro F H x y d e z Q hx hy hz hf k
  unfold dCmp at hz
  split at hz
  · cases hz; cases hx; cases hy
    exact ⟨_, _, rfl, rfl, k _ H (fun _ _ e => e) (.bl _)⟩
  · cases hz⟩
/-- the ints of data that are ints -/
def ints? : List D → Option (List Int)
  | [] => some []
  | .int i :: ds => (ints? ds).map (i :: ·)
  | _ :: _ => none
theorem ints_of : ∀ {ds : List D} {ns : List Int}, ints? ds = some ns → ds = ns.map PyData.int
  | [], ns, h => by cases h; rfl
  | d :: ds, ns, h => by
    cases d <;> first
      | (unfold ints? at h
         obtain ⟨m, h1, h2⟩ := Option.map_eq_some_iff.mp h
         subst h2
         rw [ints_of h1]
         rfl)
      | (unfold ints? at h; cases h)
theorem ints_map : ∀ ns : List Int, ints? (ns.map PyData.int) = some ns
  | [] => rfl
  | n :: ns => by
    show (ints? (ns.map PyData.int)).map (n :: ·) = some (n :: ns)
    rw [ints_map ns]
    rfl
def dLt : D → D → Option D
  | .int i, .int j => some (.bool (decide (i < j)))
  | .tuple xs, .tuple ys => (ints? xs).bind fun ns => (ints? ys).map fun ms => .bool (HT.lexLt ns ms)
  | _, _ => none
abbrev rLt (K : Fr0) : R2 := fun x y H Q => rI0 (fun i j => .bl (decide (i < j))) x y H Q ∨ rLtT K x y H Q
theorem or_lt (hu : X.A.units < cLine) : OpR X (compareOp .Lt) (rLt X.K) := L2.OpR.or op_lt (op_ltT hu)
theorem rd_lt {K : Fr0} : RD2 K (rLt K) dLt := ⟨by
  intro F H x y d e z Q hx hy hz hf k
  unfold dLt at hz
  split at hz
  · cases hz; cases hx; cases hy
    exact .inl ⟨_, _, rfl, rfl, k _ H (fun _ _ e => e) (.bl _)⟩
  · obtain ⟨ns, h1, hz⟩ := Option.bind_eq_some_iff.mp hz
    obtain ⟨ms, h2, hz⟩ := Option.map_eq_some_iff.mp hz
    subst hz
    obtain ⟨a, vs, rfl, ha, da⟩ := hx.tupInv
    obtain ⟨b, ws, rfl, hb, db⟩ := hy.tupInv
    rw [ints_of h1] at da
    rw [ints_of h2] at db
    rw [da.ints_inv] at ha
    rw [db.ints_inv] at hb
    exact .inr ⟨a, b, ns, ms, rfl, rfl, ha, hb, k _ H (fun _ _ e => e) (.bl _)⟩
  · cases hz⟩
def dEq (neg : Bool) : D → D → Option D
  | .int i, .int j => some (.bool (xor neg (i == j)))
  | .str i, .str j => some (.bool (xor neg (decide (i = j))))
  | .bool i, .bool j => some (.bool (xor neg (i == j)))
  | d, e => if (SeqAt.shaped d && SeqAt.shaped e) = true then some (.bool (xor neg (PyData.eqv d e))) else none
abbrev rEq2 (K : Fr0) : R2 := fun x y H Q => rEq x y H Q ∨ rEqD K x y H Q
abbrev rNe2 (K : Fr0) : R2 := fun x y H Q => rNe x y H Q ∨ rNeD K x y H Q
theorem or_eq (hu : X.A.units + 64 < cLine) : OpR X (compareOp .Eq) (rEq2 X.K) := L2.OpR.or op_eq (op_eqD hu)
theorem or_ne (hu : X.A.units + 64 < cLine) : OpR X (compareOp .NotEq) (rNe2 X.K) := L2.OpR.or op_ne (op_neD hu)
theorem rd_eq {K : Fr0} : RD2 K (rEq2 K) (dEq false) := ⟨by
  intro F H x y d e z Q hx hy hz hf k
  unfold dEq at hz
  split at hz
  · cases hz; cases hx; cases hy
    exact .inl ⟨rfl, by rw [dec_int]; exact k _ H (fun _ _ e => e) (by simpa using Dn.bl _)⟩
  · cases hz; cases hx; cases hy
    refine .inl ⟨rfl, k _ H (fun _ _ e => e) ?_⟩
    simpa using Dn.bl _
  · cases hz; cases hx; cases hy
    exact .inl ⟨rfl, by rw [dec_bl]; exact k _ H (fun _ _ e => e) (by simpa using Dn.bl _)⟩
  · split at hz
    · rename_i hs
      cases hz
      rw [Bool.and_eq_true] at hs
      exact .inr ⟨_, _, hx.dp, hy.dp, hs.1, hs.2, k _ H (fun _ _ e => e) (by simpa using Dn.bl _)⟩
    · cases hz⟩
theorem rd_ne {K : Fr0} : RD2 K (rNe2 K) (dEq true) := ⟨by
  intro F H x y d e z Q hx hy hz hf k
  unfold dEq at hz
  split at hz
  · cases hz; cases hx; cases hy
    exact .inl ⟨rfl, by rw [dec_int]; exact k _ H (fun _ _ e => e) (by simpa using Dn.bl _)⟩
  · cases hz; cases hx; cases hy
    refine .inl ⟨rfl, k _ H (fun _ _ e => e) ?_⟩
    simpa using Dn.bl _
  · cases hz; cases hx; cases hy
    exact .inl ⟨rfl, by rw [dec_bl]; exact k _ H (fun _ _ e => e) (by simpa using Dn.bl _)⟩
  · split at hz
    · rename_i hs
      cases hz
      rw [Bool.and_eq_true] at hs
      exact .inr ⟨_, _, hx.dp, hy.dp, hs.1, hs.2, k _ H (fun _ _ e => e) (by simpa using Dn.bl _)⟩
    · cases hz⟩
/-- is None -/
def dIsN (neg : Bool) : D → D → Option D
  | .none, .none => some (.bool (xor neg true))
  | _, .none => some (.bool (xor neg false))
  | _, _ => none
theorem rd_isN {K : Fr0} : RD2 K (fun x y H Q => y = .non ∧ Q (.bl (decide (x = .non))) H) (dIsN false) := ⟨by
  intro F H x y d e z Q hx hy hz hf k
  unfold dIsN at hz
  split at hz
  · cases hz; cases hx; cases hy
    exact ⟨rfl, k _ H (fun _ _ e => e) (by simpa using Dn.bl _)⟩
  · rename_i hn
    cases hz; cases hy
    refine ⟨rfl, k _ H (fun _ _ e => e) ?_⟩
    have : decide (x = .non) = false := by
      cases hx with
      | non => exact (hn rfl).elim
      | _ => simp
    rw [this]
    simpa using Dn.bl _
  · cases hz⟩
theorem rd_notN {K : Fr0} : RD2 K (fun x y H Q => y = .non ∧ Q (.bl (!decide (x = .non))) H) (dIsN true) := ⟨by
  intro F H x y d e z Q hx hy hz hf k
  unfold dIsN at hz
  split at hz
  · cases hz; cases hx; cases hy
    exact ⟨rfl, k _ H (fun _ _ e => e) (by simpa using Dn.bl _)⟩
  · rename_i hn
    cases hz; cases hy
    refine ⟨rfl, k _ H (fun _ _ e => e) ?_⟩
    have : decide (x = .non) = false := by
      cases hx with
      | non => exact (hn rfl).elim
      | _ => simp
    rw [this]
    simpa using Dn.bl _
  · cases hz⟩
/-! #### in -/
theorem inV_ints (i : Int) : ∀ ns : List Int, inV (.int i) (ns.map V.int) = ns.any (· == i)
  | [] => rfl
  | n :: ns => by
    show (eqV (.int n) (.int i) || inV (.int i) (ns.map V.int)) = ((n == i) || ns.any (· == i))
    rw [inV_ints i ns]
    rfl
theorem flat_ints : ∀ ns : List Int, (ns.map V.int).all flatV = true
  | [] => rfl
  | n :: ns => by
    show (flatV (.int n) && (ns.map V.int).all flatV) = true
    rw [flat_ints ns]
    rfl
def dIn (neg : Bool) : D → D → Option D
  | .int i, .list ds => (ints? ds).map fun ns => .bool (xor neg (ns.any (· == i)))
  | .int i, .tuple ds => (ints? ds).map fun ns => .bool (xor neg (ns.any (· == i)))
  | _, _ => none
theorem rd_in {K : Fr0} (neg : Bool) : RD2 K (rIn K neg) (dIn neg) := ⟨by
  intro F H x y d e z Q hx hy hz hf k
  unfold dIn at hz
  split at hz
  · obtain ⟨ns, h1, hz⟩ := Option.map_eq_some_iff.mp hz
    subst hz
    cases hx
    obtain ⟨b, ws, rfl, nb, hb, db⟩ := hy.lstInv
    rw [ints_of h1] at db
    have e := db.ints_inv
    subst e
    refine ⟨b, _, rfl, .inl (SqL.of hb), rfl, flat_ints ns, ?_⟩
    rw [inV_ints]
    refine k _ H (fun _ _ e => e) ?_
    cases neg <;> simpa using Dn.bl _
  · obtain ⟨ns, h1, hz⟩ := Option.map_eq_some_iff.mp hz
    subst hz
    cases hx
    obtain ⟨b, ws, rfl, hb, db⟩ := hy.tupInv
    rw [ints_of h1] at db
    have e := db.ints_inv
    subst e
    refine ⟨b, _, rfl, .inr hb, rfl, flat_ints ns, ?_⟩
    rw [inV_ints]
    refine k _ H (fun _ _ e => e) ?_
    cases neg <;> simpa using Dn.bl _
  · cases hz⟩
/-! #### a place -/
theorem DnA.at {K : Fr0} {F : AS} {H : Hp} {ds : List D} {vs : List V} {i : Int} {d : D} (h : DnA K F H vs ds) (e : atI ds i = some d) : ∃ v, atI vs i = some v ∧ Dn K F H v d := by
  unfold atI at e ⊢
  rw [h.length]
  obtain ⟨j, e1, e2⟩ := Option.bind_eq_some_iff.mp e
  obtain ⟨v, h1, h2⟩ := h.get e2
  exact ⟨v, Option.bind_eq_some_iff.mpr ⟨j, e1, h1⟩, h2⟩
def dIx : D → D → Option D
  | .list ds, .int i => atI ds i
  | .tuple ds, .int i => atI ds i
  | _, _ => none
theorem rd_ix {K : Fr0} : RD2 K (rIx K) dIx := ⟨by
  intro F H x y d e z Q hx hy hz hf k
  unfold dIx at hz
  split at hz
  · cases hy
    obtain ⟨b, ws, rfl, nb, hb, db⟩ := hx.lstInv
    obtain ⟨v, h1, h2⟩ := db.at hz
    exact .inl ⟨b, ws, _, v, rfl, rfl, SqL.of hb, h1, k v H (fun _ _ e => e) h2⟩
  · cases hy
    obtain ⟨b, ws, rfl, hb, db⟩ := hx.tupInv
    obtain ⟨v, h1, h2⟩ := db.at hz
    exact .inr (.inl ⟨b, ws, _, v, rfl, rfl, hb, h1, k v H (fun _ _ e => e) h2⟩)
  · cases hz⟩

/-! ### the rules by their signs -/
/-- a comparison's own -/
structure CD (X : Cx) (op : CmpOp) (b : Expr) (φ : D → D → Option D) : Prop where
  ex : ∃ r : R2, OpR X (compareOp op) r ∧ RD2 X.K r φ ∧ behindInMarks op b = false
section
variable {a b : Expr} {Ga Gb : GE} {pos : Pos}
theorem pd_cmp {op : CmpOp} {φ : D → D → Option D} (c : CD X op b φ) (ha : PD X W a Ga) (hb : PD X W b Gb) : PD X W (.Compare a [op] [b] pos) (gOp φ Ga Gb) := by
  obtain ⟨r, ho, hr, hm⟩ := c.ex
  exact ⟨PE.wk (pe_cmpR ho ha.pe hb.pe hm) fun σ H Q q => tOp_of hr q⟩
theorem pd_add (ha : PD X W a Ga) (hb : PD X W b Gb) : PD X W (.BinOp a .Add b pos) (gOp dAdd Ga Gb) := pd_op or_add rd_add ha hb
theorem pd_sub (ha : PD X W a Ga) (hb : PD X W b Gb) : PD X W (.BinOp a .Sub b pos) (gOp dSub Ga Gb) := pd_op op_sub rd_sub ha hb
theorem pd_mul (ha : PD X W a Ga) (hb : PD X W b Gb) : PD X W (.BinOp a .Mult b pos) (gOp dMul Ga Gb) := pd_op or_mul rd_mul ha hb
theorem pd_mod (ha : PD X W a Ga) (hb : PD X W b Gb) : PD X W (.BinOp a .Mod b pos) (gOp (dInt bMod Int.fmod) Ga Gb) := pd_op op_modN (rd_int bMod_ok) ha hb
theorem pd_fdiv (ha : PD X W a Ga) (hb : PD X W b Gb) : PD X W (.BinOp a .FloorDiv b pos) (gOp (dInt bDiv Int.fdiv) Ga Gb) := pd_op op_fdivN (rd_int bDiv_ok) ha hb
theorem pd_pow (ha : PD X W a Ga) (hb : PD X W b Gb) : PD X W (.BinOp a .Pow b pos) (gOp (dInt bPow fun i j => i ^ j.toNat) Ga Gb) := pd_op op_pow (rd_int bPow_ok) ha hb
theorem cd_lt (hu : X.A.units < cLine) : CD X .Lt b dLt := ⟨_, or_lt hu, rd_lt, nomark _⟩
theorem cd_le : CD X .LtE b (dCmp fun i j => decide (i ≤ j)) := ⟨_, op_le, rd_cmp, nomark _⟩
theorem cd_gt : CD X .Gt b (dCmp fun i j => decide (j < i)) := ⟨_, op_gt, rd_cmp, nomark _⟩
theorem cd_ge : CD X .GtE b (dCmp fun i j => decide (j ≤ i)) := ⟨_, op_ge, rd_cmp, nomark _⟩
theorem cd_eq (hu : X.A.units + 64 < cLine) : CD X .Eq b (dEq false) := ⟨_, or_eq hu, rd_eq, nomark _⟩
theorem cd_ne (hu : X.A.units + 64 < cLine) : CD X .NotEq b (dEq true) := ⟨_, or_ne hu, rd_ne, nomark _⟩
theorem cd_is : CD X .Is b (dIsN false) := ⟨_, op_isN, rd_isN, nomark _⟩
theorem cd_isnot : CD X .IsNot b (dIsN true) := ⟨_, op_notN, rd_notN, nomark _⟩
theorem cd_in (hm : behindInMarks .In b = false) : CD X .In b (dIn false) := ⟨_, op_in_seq, rd_in false, hm⟩
theorem cd_nin (hm : behindInMarks .NotIn b = false) : CD X .NotIn b (dIn true) := ⟨_, op_notIn_seq, rd_in true, hm⟩
theorem pd_at (ha : PD X W a Ga) (hb : PD X W b Gb) (hs : PlainIx b := by intros; rfl) : PD X W (.Subscript a b pos) (gOp dIx Ga Gb) := pd_ix ix_seq rd_ix ha hb hs
end
end
end PD
namespace PD
open PySem PySem.Spec PyProof.Rows L2
section
variable {X : Cx} {W : WX}
/-! ### arguments, displays -/
def gCons (Ga : GE) (Gr : GA) : GA := gB Ga fun d => gB Gr fun ds => gP (d :: ds)
theorem gP_some {α : Type} {a : α} {env : En} {r : Rs α} (h : gP a env = some r) : r = .ok a env := by cases h; rfl
theorem pda_nil : PDA X W [] (gP []) := ⟨PA.wk pa_nil fun σ H Q q => by
  obtain ⟨Wp, Fb, L, env, r, R, g, k⟩ := q
  cases gP_some g
  exact k H L (Tr.refl H L) R [] .nil⟩
theorem pda_cons {e : Expr} {es : List Expr} {Ga : GE} {Gr : GA} (ha : PD X W e Ga) (hr : PDA X W es Gr) (hs : starEach (e :: es) X.env = (false, eval e X.env) :: starEach es X.env := by rfl) : PDA X W (e :: es) (gCons Ga Gr) :=
  ⟨PA.wk (pa_cons ha.pe hr.pa hs) fun σ H Q q => (tG.seq2 (ρ1 := ρA X.K) (stabD X.K) q).mono fun x H1 z => z.mono fun xs H2 z => by
    obtain ⟨d, ds, Wp, Fb, L, env, r, hx, hy, R, g, k⟩ := z
    cases gP_some g
    exact k H2 L (Tr.refl H2 L) R (x :: xs) (.cons hx hy)⟩
def gTup (G : GA) : GE := gB G fun ds => gO (if ds.length ≤ 100000 then some (.tuple ds) else none)
theorem pd_tup {es : List Expr} {G : GA} {k : Nat} {pos : Pos} (h : PDA X W es G) : PD X W (.Tuple es k pos) (gTup G) := ⟨PE.wk (pe_tup h.pa) fun σ H Q q => (tG.seq (ρ := ρA X.K) q).mono fun xs H1 z => by
  obtain ⟨ds, Wp, Fb, L, env, r, hx, R, g, k⟩ := z
  obtain ⟨a, h1, rfl⟩ := gO_some g
  split at h1
  · rename_i hl
    cases h1
    exact ⟨sz (by rw [hx.length]; exact hl), fun p hp => k _ L (Tr.new hp) (R.new hp) _ (.tup (.inl ⟨R.free hp, upd_same⟩) (hx.mv (mv_grow (upd_grow hp))))⟩
  · cases h1⟩
/-- an object just laid, kept as one's own -/
theorem ER.own {K : Fr0} {Wp σ : L2.St} {Fb L : AS} {H : Hp} {env : En} (R : ER K Wp Fb L H σ env) {p : Addr} {o : HO} (hp : H p = none) :
    ER K Wp Fb (fun b => L b ∨ b = p) (upd H p o) σ env ∧ Mv (U L Fb) H (U (fun b => L b ∨ b = p) Fb) (upd H p o) ∧ Tr H L (upd H p o) (fun b => L b ∨ b = p) ∧
      (∀ (j : Nat) (b : Bool) (es : List D), env[j]? = some (.mu b es) → σ[j]? ≠ some (some (.ref p))) := by
  have m : Mv (U L Fb) H (U (fun b => L b ∨ b = p) Fb) (upd H p o) := fun b u n e _ => by
    have ne := ne_of_none e hp
    exact ⟨fun z => n (z.elim (fun z => z.elim .inl fun w => (ne w).elim) .inr), by rw [upd_ne ne]; exact e⟩
  refine ⟨⟨R.len, fun b hb => ?_, fun b hb => ?_, fun j s e => ?_, R.apart⟩, m, fun b u e n => ?_, fun j b es e1 e2 => ?_⟩
  · by_cases hbp : b = p
    · subst hbp; exact ⟨o, upd_same⟩
    · obtain ⟨u, e⟩ := R.trk b (hb.elim (fun z => z.elim .inl fun w => (hbp w).elim) .inr)
      exact ⟨u, by rw [upd_ne hbp]; exact e⟩
  · rcases hb with z | z
    · exact R.dis b z
    · subst z
      exact fun z => R.free hp (.inr z)
  · have q := R.sl j s e
    cases s with
    | no => trivial
    | im d => obtain ⟨v, e1, h⟩ := q; exact ⟨v, e1, h.mv m⟩
    | mu b es =>
      obtain ⟨x, vs', e1, l', h1', h2', w'⟩ := q
      exact ⟨x, vs', e1, .inl l', by rw [upd_ne (ne_of_none h1' hp)]; exact h1', h2'.mv m, w'⟩
  · have ne := ne_of_none e hp
    exact ⟨by rw [upd_ne ne]; exact e, fun z => z.elim n ne⟩
  · obtain ⟨x, vs', e1', l', h1', _⟩ := R.sl j _ e1
    rw [e2] at e1'
    cases e1'
    rw [hp] at h1'
    cases h1'
def gLst (G : GA) : GA := gB G fun ds => gO (if ds.length ≤ 100000 then some ds else none)
theorem tF.mk {α β : Type} {ρ : Rel α β} {G : Gm α} {f : α → GA} {σ : L2.St} {H : Hp} {Q : VK} (q : tF X W (gB G f) σ H Q) : tG ρ X W G σ H fun b H1 => ∃ (a : α) (Wp : L2.St) (Fb L : AS) (env : En) (r : Rs (List D)), ρ a b (U L Fb) H1 ∧ ER X.K Wp Fb L H1 σ env ∧ f a env = some r ∧
    match r with
    | .ok ds env' => ∀ a vs H' L', Tr H1 L H' L' → L' a → ER X.K Wp Fb L' H' σ env' → H' a = some (.lst vs) → DnA X.K (U L' Fb) H' vs ds → (∀ (j : Nat) (b : Bool) (es : List D), env'[j]? = some (.mu b es) → σ[j]? ≠ some (some (.ref a))) → Q (.ref a) H'
    | .ex c fs env' => ∀ cls dd H' L', Tr H1 L H' L' → ER X.K Wp Fb L' H' σ env' → ExIs X.K X.mg (U L' Fb) H' c fs cls dd → W cls dd σ H' := by
  obtain ⟨Wp, Fb, L, env, r, R, g, k⟩ := q
  unfold gB at g
  split at g
  · cases g
  · rename_i ds e hg
    refine ⟨Wp, Fb, L, env, _, R, hg, fun H1 L1 t1 R1 vs hv => ⟨ds, Wp, Fb, L1, e, r, hv, R1, g, ?_⟩⟩
    cases r with
    | ok ds' e' => exact fun a vs' H' L' t la R' ha hd ap => k a vs' H' L' (t1.trans t) la R' ha hd ap
    | ex c fs e' => exact fun cls dd H' L' t R' x => k cls dd H' L' (t1.trans t) R' x
  · rename_i c fs e hg
    cases g
    exact ⟨Wp, Fb, L, env, _, R, hg, k⟩
theorem pdf_lst {es : List Expr} {G : GA} {k : Nat} {pos : Pos} (h : PDA X W es G) : PDF X W (.List es pos) (gLst G) := ⟨PE.wk (pe_lst h.pa) fun σ H Q q => (tF.mk (ρ := ρA X.K) q).mono fun xs H1 z => by
  obtain ⟨ds, Wp, Fb, L, env, r, hx, R, g, k⟩ := z
  obtain ⟨a, h1, rfl⟩ := gO_some g
  split at h1
  · rename_i hl
    cases h1
    refine ⟨sz (by rw [hx.length]; exact hl), fun p hp => ?_⟩
    obtain ⟨R2, m, t, ap⟩ := R.own (o := .lst xs) hp
    exact k p xs _ _ t (.inr rfl) R2 upd_same (hx.mv m) ap
  · cases h1⟩
/-! ### calls of built-ins: by the values -/
/-- what a call does with values, told over data -/
structure RCd (K : Fr0) (r : List V → Hp → VK → Prop) (φ : List D → Option D) : Prop where
  go : ∀ {F : AS} {H : Hp} {xs : List V} {ds : List D} {z : D} {Q : VK}, DnA K F H xs ds → φ ds = some z → (∀ p, H p = none → ¬ F p) →
    (∀ v H', (∀ a o, H a = some o → H' a = some o) → Dn K F H' v z → Q v H') → r xs H Q
def gCall (φ : List D → Option D) (G : GA) : GE := gB G fun ds => gO (φ ds)
theorem tCB_of {r : List V → Hp → VK → Prop} {φ : List D → Option D} {G : GA} {σ : L2.St} {H : Hp} {Q : VK} (hr : RCd X.K r φ) (q : tD X W (gCall φ G) σ H Q) : tCB r (tAs X W G) σ H Q :=
  (tG.seq (ρ := ρA X.K) q).mono fun xs H1 z => by
    obtain ⟨ds, Wp, Fb, L, env, r, hx, R, g, k⟩ := z
    obtain ⟨z, h1, rfl⟩ := gO_some g
    exact hr.go hx h1 (fun p hp => R.free hp) fun v H' gr dn => k H' L (grow_tr gr) (R.grow gr) v dn
section
variable {x : Str} {p pos : Pos} {e : Expr} {es : List Expr} {G : GA} {r : List V → Hp → VK → Prop} {φ : List D → Option D}
theorem pd_cb {id : String} (hc : CallR X (.builtin id) r) (hr : RCd X.K r φ) (hg : Gl X x) (hm : X.mg x = none) (hv : bootBuiltins x = some (.builtin id)) (ha : PDA X W (e :: es) G) (hn : x ≠ "__name__" := by decide) (hdb : (x == ("__debug__" : Str)) = false := by decide)
    (hs : starEach (e :: es) X.env = (false, eval e X.env) :: starEach es X.env := by rfl) (hpl : (backTo pos (starEach es X.env)).any (·.1) = false := by rfl) : PD X W (.Call (.Name x p) (e :: es) [] pos) (gCall φ G) :=
  ⟨PE.wk (pe_callB hc hg hm hv ha.pa hn hdb hs hpl) fun σ H Q q => tCB_of hr q⟩
theorem pd_ct {T : String} (hc : CallR X (.type T) r) (hr : RCd X.K r φ) (hg : Gl X x) (hm : X.mg x = none) (hv : bootBuiltins x = some (.type T)) (ha : PDA X W (e :: es) G) (hn : x ≠ "__name__" := by decide) (hdb : (x == ("__debug__" : Str)) = false := by decide)
    (hs : starEach (e :: es) X.env = (false, eval e X.env) :: starEach es X.env := by rfl) (hpl : (backTo pos (starEach es X.env)).any (·.1) = false := by rfl) : PD X W (.Call (.Name x p) (e :: es) [] pos) (gCall φ G) :=
  ⟨PE.wk (pe_callTy hc hg hm hv ha.pa hn hdb hs hpl) fun σ H Q q => tCB_of hr q⟩
end
theorem DnA.one {K : Fr0} {F : AS} {H : Hp} {xs : List V} {d : D} (h : DnA K F H xs [d]) : ∃ v, xs = [v] ∧ Dn K F H v d := by
  cases h with
  | cons a b => cases b; exact ⟨_, rfl, a⟩
theorem DnA.two {K : Fr0} {F : AS} {H : Hp} {xs : List V} {d e : D} (h : DnA K F H xs [d, e]) : ∃ v u, xs = [v, u] ∧ Dn K F H v d ∧ Dn K F H u e := by
  cases h with
  | cons a b =>
    obtain ⟨u, rfl, h⟩ := b.one
    exact ⟨_, u, rfl, a, h⟩
def dLen : List D → Option D
  | [.list ds] => some (.int ds.length)
  | [.tuple ds] => some (.int ds.length)
  | _ => none
theorem rc_len {K : Fr0} : RCd K (fun xs H Q => ∃ p ys, xs = [V.ref p] ∧ (SqL K H p ys ∨ SqT K H p ys) ∧ Q (.int ys.length) H) dLen := ⟨by
  intro F H xs ds z Q hx hz hf k
  unfold dLen at hz
  split at hz
  · cases hz
    obtain ⟨v, rfl, h⟩ := hx.one
    obtain ⟨a, vs, rfl, na, ha, da⟩ := h.lstInv
    exact ⟨a, vs, rfl, .inl (SqL.of ha), k _ H (fun _ _ e => e) (by rw [da.length]; exact .int _)⟩
  · cases hz
    obtain ⟨v, rfl, h⟩ := hx.one
    obtain ⟨a, vs, rfl, ha, da⟩ := h.tupInv
    exact ⟨a, vs, rfl, .inr ha, k _ H (fun _ _ e => e) (by rw [da.length]; exact .int _)⟩
  · cases hz⟩
def dAbs : List D → Option D
  | [.int i] => some (.int (if i < 0 then -i else i))
  | _ => none
theorem rc_abs {K : Fr0} : RCd K (fun xs H Q => ∃ i, xs = [V.int i] ∧ Q (.int (if i < 0 then -i else i)) H) dAbs := ⟨by
  intro F H xs ds z Q hx hz hf k
  unfold dAbs at hz
  split at hz
  · cases hz
    obtain ⟨v, rfl, h⟩ := hx.one
    cases h
    exact ⟨_, rfl, k _ H (fun _ _ e => e) (.int _)⟩
  · cases hz⟩
def dMax : List D → Option D
  | [.int i, .int j] => some (.int (if j > i then j else i))
  | _ => none
def dMin : List D → Option D
  | [.int i, .int j] => some (.int (if j < i then j else i))
  | _ => none
theorem rc_max {K : Fr0} : RCd K (fun xs H Q => ∃ i j, xs = [V.int i, V.int j] ∧ Q (.int (if j > i then j else i)) H) dMax := ⟨by
  intro F H xs ds z Q hx hz hf k
  unfold dMax at hz
  split at hz
  · cases hz
    obtain ⟨v, u, rfl, h, h'⟩ := hx.two
    cases h; cases h'
    exact ⟨_, _, rfl, k _ H (fun _ _ e => e) (.int _)⟩
  · cases hz⟩
theorem rc_min {K : Fr0} : RCd K (fun xs H Q => ∃ i j, xs = [V.int i, V.int j] ∧ Q (.int (if j < i then j else i)) H) dMin := ⟨by
  intro F H xs ds z Q hx hz hf k
  unfold dMin at hz
  split at hz
  · cases hz
    obtain ⟨v, u, rfl, h, h'⟩ := hx.two
    cases h; cases h'
    exact ⟨_, _, rfl, k _ H (fun _ _ e => e) (.int _)⟩
  · cases hz⟩
def dToInt : List D → Option D
  | [.int i] => some (.int i)
  | [.bool b] => some (.int (if b then 1 else 0))
  | _ => none
theorem rc_int {K : Fr0} : RCd K (fun xs H Q => (∃ i, xs = [V.int i] ∧ Q (.int i) H) ∨ ∃ k, xs = [V.bl k] ∧ Q (.int (if k then 1 else 0)) H) dToInt := ⟨by
  intro F H xs ds z Q hx hz hf k
  unfold dToInt at hz
  split at hz
  · cases hz
    obtain ⟨v, rfl, h⟩ := hx.one
    cases h
    exact .inl ⟨_, rfl, k _ H (fun _ _ e => e) (.int _)⟩
  · cases hz
    obtain ⟨v, rfl, h⟩ := hx.one
    cases h
    exact .inr ⟨_, rfl, k _ H (fun _ _ e => e) (.int _)⟩
  · cases hz⟩
def dToTup : List D → Option D
  | [.list ds] => some (.tuple ds)
  | [.tuple ds] => some (.tuple ds)
  | _ => none
theorem rc_tuple {K : Fr0} : RCd K (fun xs H Q => ∃ p ys, xs = [V.ref p] ∧ ((SqL K H p ys ∧ ∀ l, H l = none → Q (.ref l) (upd H l (.tup ys))) ∨ (SqT K H p ys ∧ Q (.ref p) H))) dToTup := ⟨by
  intro F H xs ds z Q hx hz hf k
  unfold dToTup at hz
  split at hz
  · cases hz
    obtain ⟨v, rfl, h⟩ := hx.one
    obtain ⟨a, vs, rfl, na, ha, da⟩ := h.lstInv
    exact ⟨a, vs, rfl, .inl ⟨SqL.of ha, fun p hp => k _ _ (upd_grow hp) (.tup (.inl ⟨hf p hp, upd_same⟩) (da.mv (mv_grow (upd_grow hp))))⟩⟩
  · cases hz
    obtain ⟨v, rfl, h⟩ := hx.one
    have h0 := h
    obtain ⟨a, vs, rfl, ha, da⟩ := h.tupInv
    exact ⟨a, vs, rfl, .inr ⟨ha, k _ H (fun _ _ e => e) h0⟩⟩
  · cases hz⟩
def bools? : List D → Option (List Bool)
  | [] => some []
  | .bool i :: ds => (bools? ds).map (i :: ·)
  | _ :: _ => none
theorem bools_of : ∀ {ds : List D} {ns : List Bool}, bools? ds = some ns → ds = ns.map PyData.bool
  | [], ns, h => by cases h; rfl
  | d :: ds, ns, h => by
    cases d <;> first
      | (unfold bools? at h
         obtain ⟨m, h1, h2⟩ := Option.map_eq_some_iff.mp h
         subst h2
         rw [bools_of h1]
         rfl)
      | (unfold bools? at h; cases h)
def dAll : List D → Option D
  | [.list ds] => (bools? ds).map fun bs => .bool (bs.all id)
  | _ => none
def dAny : List D → Option D
  | [.list ds] => (bools? ds).map fun bs => .bool (bs.any id)
  | _ => none
theorem rc_all {K : Fr0} : RCd K (rAll K) dAll := ⟨by
  intro F H xs ds z Q hx hz hf k
  unfold dAll at hz
  split at hz
  · obtain ⟨bs, h1, rfl⟩ := Option.map_eq_some_iff.mp hz
    obtain ⟨v, rfl, h⟩ := hx.one
    obtain ⟨a, vs, rfl, na, ha, da⟩ := h.lstInv
    rw [bools_of h1] at da
    have e := da.bls_inv
    subst e
    exact ⟨a, bs, rfl, SqL.of ha, k _ H (fun _ _ e => e) (.bl _)⟩
  · cases hz⟩
theorem rc_any {K : Fr0} : RCd K (rAny K) dAny := ⟨by
  intro F H xs ds z Q hx hz hf k
  unfold dAny at hz
  split at hz
  · obtain ⟨bs, h1, rfl⟩ := Option.map_eq_some_iff.mp hz
    obtain ⟨v, rfl, h⟩ := hx.one
    obtain ⟨a, vs, rfl, na, ha, da⟩ := h.lstInv
    rw [bools_of h1] at da
    have e := da.bls_inv
    subst e
    exact ⟨a, bs, rfl, SqL.of ha, k _ H (fun _ _ e => e) (.bl _)⟩
  · cases hz⟩
/-- list(xs): a new one -/
def gList (G : GA) : GA := gB G fun ds => gO (match ds with | [.list es] => some es | [.tuple es] => some es | _ => none)
theorem pdf_list {x : Str} {p pos : Pos} {e : Expr} {G : GA} (hg : Gl X x) (hm : X.mg x = none) (hv : bootBuiltins x = some (.type "list")) (ha : PDA X W [e] G) (hn : x ≠ "__name__" := by decide) (hdb : (x == ("__debug__" : Str)) = false := by decide)
    (hs : starEach [e] X.env = (false, eval e X.env) :: starEach [] X.env := by rfl) (hpl : (backTo pos (starEach [] X.env)).any (·.1) = false := by rfl) : PDF X W (.Call (.Name x p) [e] [] pos) (gList G) :=
  ⟨PE.wk (pe_callTy call_list_of hg hm hv ha.pa hn hdb hs hpl) fun σ H Q q => (tF.mk (ρ := ρA X.K) q).mono fun xs H1 z => by
    obtain ⟨ds, Wp, Fb, L, env, r, hx, R, g, k⟩ := z
    obtain ⟨es, h1, rfl⟩ := gO_some g
    split at h1
    · cases h1
      obtain ⟨v, rfl, h⟩ := hx.one
      obtain ⟨a, vs, rfl, na, ha, da⟩ := h.lstInv
      refine ⟨a, vs, rfl, .inl (SqL.of ha), fun p hp => ?_⟩
      obtain ⟨R2, m, t, ap⟩ := R.own (o := .lst vs) hp
      exact k p vs _ _ t (.inr rfl) R2 upd_same (da.mv m) ap
    · cases h1
      obtain ⟨v, rfl, h⟩ := hx.one
      obtain ⟨a, vs, rfl, ha, da⟩ := h.tupInv
      refine ⟨a, vs, rfl, .inr ha, fun p hp => ?_⟩
      obtain ⟨R2, m, t, ap⟩ := R.own (o := .lst vs) hp
      exact k p vs _ _ t (.inr rfl) R2 upd_same (da.mv m) ap
    · cases h1⟩
/-! ### isinstance -/
def tyOf : D → Option String
  | .none => some "NoneType"
  | .bool _ => some "bool"
  | .int _ => some "int"
  | .str _ => some "str"
  | .list _ => some "list"
  | .tuple _ => some "tuple"
  | .dict _ => none
theorem Dn.ty {K : Fr0} {F : AS} {H : Hp} {v : V} {d : D} {t : String} (h : Dn K F H v d) (e : tyOf d = some t) : TyX K H v (.type t) := by
  cases h with
  | non => cases e; exact .base .non
  | bl b => cases e; exact .base (.bl b)
  | int i => cases e; exact .base (.int i)
  | str x => cases e; exact .base (.str x)
  | lst n e1 r => cases e; exact .base (.lst e1)
  | tup e1 r =>
    cases e
    rcases e1 with e1 | e1
    · exact .base (.tup e1.2)
    · rcases e1 with (e1 | ⟨o, e1⟩) | ⟨o, its, n, h1, h2, _⟩
      · cases e1
      · cases e1
      · exact .kTuple h1 h2
def dIsi (c : String) (d : D) : Option D := (tyOf d).bind fun t => (kitB t c).map PyData.bool
theorem pd_isi {x y : Str} {p q pos : Pos} {a : Expr} {Ga : GE} {c : String} (hg : Gl X x) (hm : X.mg x = none) (hv : bootBuiltins x = some (.builtin "isinstance")) (hgy : Gl X y) (hmy : X.mg y = none) (hvy : bootBuiltins y = some (.type c)) (ha : PD X W a Ga)
    (hn : x ≠ "__name__" := by decide) (hdb : (x == ("__debug__" : Str)) = false := by decide) (hny : y ≠ "__name__" := by decide) (hdy : (y == ("__debug__" : Str)) = false := by decide)
    (hs : starEach [a, .Name y q] X.env = (false, eval a X.env) :: starEach [.Name y q] X.env := by rfl) (hs2 : starEach [.Name y q] X.env = (false, eval (.Name y q) X.env) :: starEach [] X.env := by rfl) (hpl : (backTo pos (starEach [.Name y q] X.env)).any (·.1) = false := by rfl) :
    PD X W (.Call (.Name x p) [a, .Name y q] [] pos) (gB Ga fun d => gO (dIsi c d)) :=
  ⟨PE.wk (pe_callB call_isi hg hm hv (pa_cons ha.pe (pa_cons (pe_bltn (v := .ty c) hgy hmy hvy rfl hny hdy) pa_nil hs2) hs) hn hdb hs hpl) fun σ H Q q => (tG.seq (ρ := ρD X.K) q).mono fun v H1 z => by
    obtain ⟨d, Wp, Fb, L, env, r, hx, R, g, k⟩ := z
    obtain ⟨es, h1, rfl⟩ := gO_some g
    obtain ⟨t, h2, h1⟩ := Option.bind_eq_some_iff.mp h1
    obtain ⟨b, h3, rfl⟩ := Option.map_eq_some_iff.mp h1
    exact ⟨v, .ty c, .type t, .type c, b, rfl, .ty c, hx.ty h2, kit_ty h3, k H1 L (Tr.refl H1 L) R _ (.bl b)⟩⟩
def dIsi2 (c1 c2 : String) (d : D) : Option D := (tyOf d).bind fun t => (kitB t c1).bind fun b1 => (kitB t c2).map fun b2 => PyData.bool (b1 || b2)
theorem pd_isi2 {x y1 y2 : Str} {p q1 q2 pos pos2 : Pos} {k2 : Nat} {a : Expr} {Ga : GE} {c1 c2 : String} (hg : Gl X x) (hm : X.mg x = none) (hv : bootBuiltins x = some (.builtin "isinstance")) (hgy : Gl X y1) (hmy : X.mg y1 = none) (hvy : bootBuiltins y1 = some (.type c1))
    (hgz : Gl X y2) (hmz : X.mg y2 = none) (hvz : bootBuiltins y2 = some (.type c2)) (ha : PD X W a Ga)
    (hn : x ≠ "__name__" := by decide) (hdb : (x == ("__debug__" : Str)) = false := by decide) (hny : y1 ≠ "__name__" := by decide) (hdy : (y1 == ("__debug__" : Str)) = false := by decide) (hnz : y2 ≠ "__name__" := by decide) (hdz : (y2 == ("__debug__" : Str)) = false := by decide)
    (hs : starEach [a, .Tuple [.Name y1 q1, .Name y2 q2] k2 pos2] X.env = (false, eval a X.env) :: starEach [.Tuple [.Name y1 q1, .Name y2 q2] k2 pos2] X.env := by rfl) (hs2 : starEach [.Tuple [.Name y1 q1, .Name y2 q2] k2 pos2] X.env = (false, eval (.Tuple [.Name y1 q1, .Name y2 q2] k2 pos2) X.env) :: starEach [] X.env := by rfl)
    (hs3 : starEach [.Name y1 q1, .Name y2 q2] X.env = (false, eval (.Name y1 q1) X.env) :: starEach [.Name y2 q2] X.env := by rfl) (hs4 : starEach [.Name y2 q2] X.env = (false, eval (.Name y2 q2) X.env) :: starEach [] X.env := by rfl)
    (hpl : (backTo pos (starEach [.Tuple [.Name y1 q1, .Name y2 q2] k2 pos2] X.env)).any (·.1) = false := by rfl) :
    PD X W (.Call (.Name x p) [a, .Tuple [.Name y1 q1, .Name y2 q2] k2 pos2] [] pos) (gB Ga fun d => gO (dIsi2 c1 c2 d)) :=
  ⟨PE.wk (pe_callB call_isiT hg hm hv (pa_cons ha.pe (pa_cons (pe_tup (pa_cons (pe_bltn (v := .ty c1) hgy hmy hvy rfl hny hdy) (pa_cons (pe_bltn (v := .ty c2) hgz hmz hvz rfl hnz hdz) pa_nil hs4) hs3)) pa_nil hs2) hs) hn hdb hs hpl) fun σ H Q q => (tG.seq (ρ := ρD X.K) q).mono fun v H1 z => by
    obtain ⟨d, Wp, Fb, L, env, r, hx, R, g, k⟩ := z
    obtain ⟨es, h1, rfl⟩ := gO_some g
    obtain ⟨t, h2, h1⟩ := Option.bind_eq_some_iff.mp h1
    obtain ⟨b1, h3, h1⟩ := Option.bind_eq_some_iff.mp h1
    obtain ⟨b2, h4, rfl⟩ := Option.map_eq_some_iff.mp h1
    refine ⟨by show 2 ≤ sizeLine; decide, fun p hp => ⟨v, p, [.ty c1, .ty c2], .type t, [.type c1, .type c2], b1 || b2, rfl, upd_same, .cons (.ty c1) (.cons (.ty c2) .nil), (hx.mv (mv_grow (upd_grow hp))).ty h2, ?_, k _ L (Tr.new hp) (R.new hp) _ (.bl _)⟩⟩
    refine kitAny_cons (kit_ty h3) (fun e => ?_) (fun e => by rw [e]; rfl)
    refine kitAny_cons (kit_ty h4) (fun e2 => ?_) (fun e2 => by rw [e, e2]; rfl)
    rw [e, e2]
    exact kitAny_nil⟩
end
end PD
namespace PD
open PySem PySem.Spec PyProof.Rows L2
section
variable {X : Cx} {W : WX}
/-! ### slices -/
structure PDO (X : Cx) (W : WX) (e : Option Expr) (G : Gm (Option Int)) : Prop where
  po : PO X e (tG (fun a b _ _ => b = a) X W G)
theorem PO.wk {X : Cx} {e : Option Expr} {t t' : TO} (h : PO X e t) (w : ∀ σ H Q, t' σ H Q → t σ H Q) : PO X e t' := ⟨fun pins s σ H Q I q => h.run pins s σ H Q I (w σ H Q q)⟩
theorem pdo_none : PDO X W none (gP none) := ⟨PO.wk po_none fun σ H Q q => by
  obtain ⟨Wp, Fb, L, env, r, R, g, k⟩ := q
  cases gP_some g
  exact k H L (Tr.refl H L) R none rfl⟩
def dPart : D → Option (Option Int)
  | .int i => some (some i)
  | _ => none
theorem pdo_some {e : Expr} {G : GE} (h : PD X W e G) : PDO X W (some e) (gB G fun d => gO (dPart d)) := ⟨PO.wk (po_some h.pe) fun σ H Q q => (tG.seq (ρ := ρD X.K) q).mono fun v H1 z => by
  obtain ⟨d, Wp, Fb, L, env, r, hx, R, g, k⟩ := z
  obtain ⟨a, h1, rfl⟩ := gO_some g
  cases d <;> simp only [dPart] at h1 <;> cases h1
  cases hx
  exact ⟨_, rfl, k H1 L (Tr.refl H1 L) R _ rfl⟩⟩
def cutD (xs : List D) (lo hi : Option Int) : List D := (xs.drop (HT.sIx xs.length 0 lo)).take (HT.sIx xs.length xs.length hi - HT.sIx xs.length 0 lo)
theorem DnA.cut {K : Fr0} {F : AS} {H : Hp} {ds : List D} {vs : List V} (h : DnA K F H vs ds) (lo hi : Option Int) : DnA K F H (cutV vs lo hi) (cutD ds lo hi) := by
  unfold cutV cutD
  rw [h.length]
  exact (h.drop _).take _
def dSl (lo hi : Option Int) : D → Option D
  | .list ds => some (.list (cutD ds lo hi))
  | .tuple ds => some (.tuple (cutD ds lo hi))
  | _ => none
def gSl (Ga : GE) (Gl Gh : Gm (Option Int)) : GE := gB Ga fun d => gB Gl fun lo => gB Gh fun hi => gO (dSl lo hi d)
theorem tG.seq3 {α β α' β' α2 β2 γ δ : Type} {ρ : Rel α β} {ρ1 : Rel α' β'} {ρ2 : Rel α2 β2} {ρ' : Rel γ δ} {Ga : Gm α} {Gb : Gm α'} {Gc : Gm α2} {f : α → α' → α2 → Gm γ} {σ : L2.St} {H : Hp} {Q : δ → Hp → Prop} (st : Stab ρ) (st1 : Stab ρ1)
    (q : tG ρ' X W (gB Ga fun a => gB Gb fun b => gB Gc (f a b)) σ H Q) :
    tG ρ X W Ga σ H fun b H1 => tG ρ1 X W Gb σ H1 fun b1 H2 => tG ρ2 X W Gc σ H2 fun b2 H3 => ∃ (a : α) (a1 : α') (a2 : α2) (Wp : L2.St) (Fb L : AS) (env : En) (r : Rs γ), ρ a b (U L Fb) H3 ∧ ρ1 a1 b1 (U L Fb) H3 ∧ ρ2 a2 b2 (U L Fb) H3 ∧
      ER X.K Wp Fb L H3 σ env ∧ f a a1 a2 env = some r ∧ Go X W Wp Fb σ H3 L r fun a H' L' => ∀ b, ρ' a b (U L' Fb) H' → Q b H' := by
  refine (tG.seq2 (ρ := ρ) (ρ1 := ρ1) (f := fun a b => gB Gc (f a b)) st q).mono fun b H1 z => z.mono fun b1 H2 z => ?_
  obtain ⟨a, a1, Wp, Fb, L, env, r, hb, hb1, R, g, k⟩ := z
  unfold gB at g
  dsimp only at g
  split at g
  · cases g
  · rename_i a2 e ha
    exact ⟨Wp, Fb, L, env, _, R, ha, fun H' L' t R' b2 hb2 => ⟨a, a1, a2, Wp, Fb, L', e, r, st _ _ _ _ _ _ t.mv hb, st1 _ _ _ _ _ _ t.mv hb1, hb2, R', g, k.from t⟩⟩
  · rename_i c fs e ha
    cases g
    exact ⟨Wp, Fb, L, env, _, R, ha, k⟩
theorem stabE {α : Type} : Stab (fun (a b : α) _ _ => b = a) := fun _ _ _ _ _ _ _ h => h
theorem pd_slice {a : Expr} {lo hi : Option Expr} {Ga : GE} {Gl Gh : Gm (Option Int)} {p2 pos : Pos} (ha : PD X W a Ga) (hl : PDO X W lo Gl) (hh : PDO X W hi Gh) : PD X W (.Subscript a (.Slice lo hi none p2) pos) (gSl Ga Gl Gh) :=
  ⟨PE.wk (pe_slice (SlR.or sl_list sl_tupA) ha.pe hl.po hh.po) fun σ H Q q => (tG.seq3 (ρ1 := fun a b _ _ => b = a) (ρ2 := fun a b _ _ => b = a) (stabD X.K) stabE q).mono fun v H1 z => z.mono fun l H2 z => z.mono fun h H3 z => by
    obtain ⟨d, lo', hi', Wp, Fb, L, env, r, hx, e1, e2, R, g, k⟩ := z
    subst e1 e2
    obtain ⟨z, h1, rfl⟩ := gO_some g
    cases d with
    | list ds =>
      cases h1
      obtain ⟨a, vs, rfl, na, ha, da⟩ := hx.lstInv
      exact .inl ⟨a, vs, rfl, SqL.of ha, fun p hp => k _ L (Tr.new hp) (R.new hp) _ (.lst (R.free hp) upd_same ((da.cut _ _).mv (mv_grow (upd_grow hp))))⟩
    | tuple ds =>
      cases h1
      have hx0 := hx
      obtain ⟨a, vs, rfl, ha, da⟩ := hx.tupInv
      refine .inr ⟨a, vs, rfl, ha, fun z => ?_, fun _ p hp => k _ L (Tr.new hp) (R.new hp) _ (.tup (.inl ⟨R.free hp, upd_same⟩) ((da.cut _ _).mv (mv_grow (upd_grow hp))))⟩
      have e : cutD ds l h = ds := by
        unfold cutD
        rw [da.length] at z
        rw [z.1, z.2, List.drop_zero, Nat.sub_zero, List.take_length]
      rw [e] at k
      exact k H3 L (Tr.refl H3 L) R _ hx0
    | _ => cases h1⟩
/-! ### truth -/
def truD : D → Option Bool
  | .none => some false
  | .bool b => some b
  | .int i => some (i != 0)
  | .list ds => some (!ds.isEmpty)
  | .tuple ds => some (!ds.isEmpty)
  | _ => none
theorem DnA.emp {K : Fr0} {F : AS} {H : Hp} {ds : List D} {vs : List V} (h : DnA K F H vs ds) : (!vs.isEmpty) = !ds.isEmpty := by
  cases h <;> rfl
theorem Dn.tru {K : Fr0} {F : AS} {H : Hp} {v : V} {d : D} {b : Bool} (h : Dn K F H v d) (e : truD d = some b) : TruV K v H b := by
  cases h with
  | non => cases e; rfl
  | bl b => cases e; rfl
  | int i => cases e; rfl
  | str x => cases e
  | lst n e1 r => cases e; exact .inl ⟨_, SqL.of e1, r.emp.symm⟩
  | tup e1 r => cases e; exact .inr (.inl ⟨_, sqt_of e1, r.emp.symm⟩)
def gAndV (Ga Gb : GE) : GE := gB Ga fun d => gB (gO (truD d)) fun b => if b = true then Gb else gP d
def gOrV (Ga Gb : GE) : GE := gB Ga fun d => gB (gO (truD d)) fun b => if b = true then gP d else Gb
theorem gB_O {α β : Type} {o : Option α} {f : α → Gm β} {env : En} {r : Rs β} (h : gB (gO o) f env = some r) : ∃ a, o = some a ∧ f a env = some r := by
  unfold gB gO at h
  cases o with
  | none => cases h
  | some a => exact ⟨a, rfl, h⟩
theorem pd_and {a b : Expr} {rest : List Expr} {Ga Gb : GE} {pos : Pos} (ha : PD X W a Ga) (hb : PD X W (.BoolOp .And (b :: rest) pos) Gb) : PD X W (.BoolOp .And (a :: b :: rest) pos) (gAndV Ga Gb) :=
  ⟨PE.wk (pe_andT ha.pe hb.pe) fun σ H Q q => (tG.seq (ρ := ρD X.K) q).mono fun v H1 z => by
    obtain ⟨d, Wp, Fb, L, env, r, hx, R, g, k⟩ := z
    obtain ⟨b, h1, g⟩ := gB_O g
    refine ⟨b, hx.tru h1, ?_⟩
    cases b with
    | true => exact ⟨Wp, Fb, L, env, r, R, g, k⟩
    | false =>
      rw [if_neg Bool.false_ne_true] at g ⊢
      cases gP_some g
      exact k H1 L (Tr.refl H1 L) R v hx⟩
theorem pd_or {a b : Expr} {rest : List Expr} {Ga Gb : GE} {pos : Pos} (ha : PD X W a Ga) (hb : PD X W (.BoolOp .Or (b :: rest) pos) Gb) : PD X W (.BoolOp .Or (a :: b :: rest) pos) (gOrV Ga Gb) :=
  ⟨PE.wk (pe_orT ha.pe hb.pe) fun σ H Q q => (tG.seq (ρ := ρD X.K) q).mono fun v H1 z => by
    obtain ⟨d, Wp, Fb, L, env, r, hx, R, g, k⟩ := z
    obtain ⟨b, h1, g⟩ := gB_O g
    refine ⟨b, hx.tru h1, ?_⟩
    cases b with
    | false => exact ⟨Wp, Fb, L, env, r, R, g, k⟩
    | true =>
      rw [if_pos rfl] at g ⊢
      cases gP_some g
      exact k H1 L (Tr.refl H1 L) R v hx⟩
theorem pd_last {op : BoolOp} {a : Expr} {G : GE} {pos : Pos} (h : PD X W a G) : PD X W (.BoolOp op [a] pos) G := ⟨pe_one h.pe⟩
def dNot : D → Option D
  | .bool b => some (.bool !b)
  | _ => none
theorem pd_not {a : Expr} {G : GE} {pos : Pos} (h : PD X W a G) : PD X W (.UnaryOp .Not a pos) (gB G fun d => gO (dNot d)) := ⟨PE.wk (pe_not h.pe) fun σ H Q q => (tG.seq (ρ := ρD X.K) q).mono fun v H1 z => by
  obtain ⟨d, Wp, Fb, L, env, r, hx, R, g, k⟩ := z
  obtain ⟨z, h1, rfl⟩ := gO_some g
  cases d <;> simp only [dNot] at h1 <;> cases h1
  cases hx
  exact ⟨_, rfl, k H1 L (Tr.refl H1 L) R _ (.bl _)⟩⟩
def dNeg : D → Option D
  | .int i => some (.int (-i))
  | _ => none
theorem pd_neg {a : Expr} {G : GE} {pos : Pos} (h : PD X W a G) : PD X W (.UnaryOp .USub a pos) (gB G fun d => gO (dNeg d)) := ⟨PE.wk (pe_un un_neg h.pe) fun σ H Q q => (tG.seq (ρ := ρD X.K) q).mono fun v H1 z => by
  obtain ⟨d, Wp, Fb, L, env, r, hx, R, g, k⟩ := z
  obtain ⟨z, h1, rfl⟩ := gO_some g
  cases d <;> simp only [dNeg] at h1 <;> cases h1
  cases hx
  exact ⟨_, rfl, k H1 L (Tr.refl H1 L) R _ (.int _)⟩⟩
def gIf {α : Type} (Gt : GT) (Ga Gb : Gm α) : Gm α := gB Gt fun b => if b = true then Ga else Gb
theorem pd_ifExp {c a b : Expr} {Gt : GT} {Ga Gb : GE} {pos : Pos} (hc : PDT X W c Gt) (ha : PD X W a Ga) (hb : PD X W b Gb) : PD X W (.IfExp c a b pos) (gIf Gt Ga Gb) :=
  ⟨PE.wk (pe_ifExp hc.pt ha.pe hb.pe) fun σ H Q q => (tG.seq (ρ := ρB) q).mono fun v H1 z => by
    obtain ⟨d, Wp, Fb, L, env, r, hx, R, g, k⟩ := z
    subst hx
    cases v with
    | true => exact ⟨Wp, Fb, L, env, r, R, g, k⟩
    | false => exact ⟨Wp, Fb, L, env, r, R, g, k⟩⟩
/-! ### tests -/
def gTru (G : GE) : GT := gB G fun d => gO (truD d)
theorem pdt_val {a : Expr} {G : GE} (h : PD X W a G) (he : ∀ whole, isTrue a X.env whole = (do let v ← whole; standAt a.pos; holding [v] (truthy v)) := by intro _; rfl) : PDT X W a (gTru G) :=
  ⟨PT.wk (pt_truth h.pe he) fun σ H Q q => (tG.seq (ρ := ρD X.K) q).mono fun v H1 z => by
    obtain ⟨d, Wp, Fb, L, env, r, hx, R, g, k⟩ := z
    obtain ⟨b, h1, rfl⟩ := gO_some g
    exact ⟨b, hx.tru h1, k H1 L (Tr.refl H1 L) R _ rfl⟩⟩
def gBool (G : GE) : GT := gB G fun d => gO (match d with | .bool b => some b | _ => none)
theorem pdt_cmp {op : CmpOp} {φ : D → D → Option D} {a b : Expr} {Ga Gb : GE} {pos : Pos} (c : CD X op b φ) (ha : PD X W a Ga) (hb : PD X W b Gb) : PDT X W (.Compare a [op] [b] pos) (gBool (gOp φ Ga Gb)) := by
  obtain ⟨r, ho, hr, hm⟩ := c.ex
  refine ⟨PT.wk (pt_cmpR ho ha.pe hb.pe hm) fun σ H Q q => tOp_of hr ((tG.seq (ρ := ρD X.K) q).mono fun v H1 z => ?_)⟩
  obtain ⟨d, Wp, Fb, L, env, r, hx, R, g, k⟩ := z
  obtain ⟨b, h1, rfl⟩ := gO_some g
  split at h1
  · cases h1
    cases hx
    exact ⟨_, rfl, k H1 L (Tr.refl H1 L) R _ rfl⟩
  · cases h1
structure PDW (X : Cx) (W : WX) (e : Expr) (G : GT) : Prop where
  pw : PW X e (tT X W G)
theorem PDW.t {e : Expr} {G : GT} (h : PDW X W e G) : PDT X W e G := ⟨h.pw.pt⟩
def gAnd (Ga Gb : GT) : GT := gB Ga fun b => if b = true then Gb else gP false
def gOr (Ga Gb : GT) : GT := gB Ga fun b => if b = true then gP true else Gb
theorem pdw_and {a b : Expr} {rest : List Expr} {Ga Gb : GT} {pos : Pos} (ha : PDT X W a Ga) (hb : PDW X W (.BoolOp .And (b :: rest) pos) Gb) : PDW X W (.BoolOp .And (a :: b :: rest) pos) (gAnd Ga Gb) :=
  ⟨PW.wk (pw_and ha.pt hb.pw) fun σ H Q q => (tG.seq (ρ := ρB) q).mono fun v H1 z => by
    obtain ⟨d, Wp, Fb, L, env, r, hx, R, g, k⟩ := z
    subst hx
    cases v with
    | true => exact ⟨Wp, Fb, L, env, r, R, g, k⟩
    | false =>
      have g : gP false env = some r := g
      show Q false H1
      cases gP_some g
      exact k H1 L (Tr.refl H1 L) R _ rfl⟩
theorem pdw_or {a b : Expr} {rest : List Expr} {Ga Gb : GT} {pos : Pos} (ha : PDT X W a Ga) (hb : PDW X W (.BoolOp .Or (b :: rest) pos) Gb) : PDW X W (.BoolOp .Or (a :: b :: rest) pos) (gOr Ga Gb) :=
  ⟨PW.wk (pw_or ha.pt hb.pw) fun σ H Q q => (tG.seq (ρ := ρB) q).mono fun v H1 z => by
    obtain ⟨d, Wp, Fb, L, env, r, hx, R, g, k⟩ := z
    subst hx
    cases v with
    | false => exact ⟨Wp, Fb, L, env, r, R, g, k⟩
    | true =>
      have g : gP true env = some r := g
      show Q true H1
      cases gP_some g
      exact k H1 L (Tr.refl H1 L) R _ rfl⟩
theorem pdw_and1 {a : Expr} {Ga : GT} {pos : Pos} (ha : PDT X W a Ga) : PDW X W (.BoolOp .And [a] pos) Ga := ⟨pw_and1 ha.pt⟩
theorem pdw_or1 {a : Expr} {Ga : GT} {pos : Pos} (ha : PDT X W a Ga) : PDW X W (.BoolOp .Or [a] pos) Ga := ⟨pw_or1 ha.pt⟩
theorem pdt_not {a : Expr} {Ga : GT} {pos : Pos} (ha : PDT X W a Ga) : PDT X W (.UnaryOp .Not a pos) (gB Ga fun b => gP !b) := ⟨PT.wk (pt_not ha.pt) fun σ H Q q => (tG.seq (ρ := ρB) q).mono fun v H1 z => by
  obtain ⟨d, Wp, Fb, L, env, r, hx, R, g, k⟩ := z
  subst hx
  cases gP_some g
  exact k H1 L (Tr.refl H1 L) R _ rfl⟩
/-! ### a name looked at where it stands -/
/-- what a slot holds, its list not told on -/
def peek (env : En) (i : Nat) : Option D := match env[i]? with
  | some (.im d) => some d
  | some (.mu _ ds) => some (.list ds)
  | _ => none
/-- a list that is read, whoever owns it -/
theorem ER.peek {K : Fr0} {Wp σ : L2.St} {Fb L : AS} {H : Hp} {env : En} (R : ER K Wp Fb L H σ env) {i : Nat} {d : D} (h : peek env i = some d) : ∃ v, σ[i]? = some (some v) ∧
    (Dn K (U L Fb) H v d ∨ ∃ a vs ds, v = .ref a ∧ d = .list ds ∧ H a = some (.lst vs) ∧ DnA K (U L Fb) H vs ds) := by
  unfold PD.peek at h
  split at h
  · rename_i d0 he
    cases h
    obtain ⟨v, e1, h1⟩ := R.sl i _ he
    exact ⟨v, e1, .inl h1⟩
  · rename_i b ds he
    cases h
    obtain ⟨a, vs, e1, l, h1, h2, _⟩ := R.sl i _ he
    exact ⟨_, e1, .inr ⟨a, vs, ds, rfl, rfl, h1, h2⟩⟩
  · cases h
/-- the same, for a list or a tuple -/
theorem ER.peekS {K : Fr0} {Wp σ : L2.St} {Fb L : AS} {H : Hp} {env : En} (R : ER K Wp Fb L H σ env) {i : Nat} {ds : List D} (h : PD.peek env i = some (.list ds) ∨ PD.peek env i = some (.tuple ds)) :
    ∃ a vs, σ[i]? = some (some (.ref a)) ∧ (SqL K H a vs ∨ SqT K H a vs) ∧ DnA K (U L Fb) H vs ds ∧ (PD.peek env i = some (.list ds) → SqL K H a vs) ∧ (PD.peek env i = some (.tuple ds) → SqT K H a vs) := by
  rcases h with h | h
  · obtain ⟨v, e, q⟩ := R.peek h
    rcases q with q | ⟨a, vs, es, rfl, e2, h1, h2⟩
    · obtain ⟨a, vs, rfl, na, ha, da⟩ := q.lstInv
      exact ⟨a, vs, e, .inl (SqL.of ha), da, fun _ => SqL.of ha, fun z => by rw [h] at z; cases z⟩
    · cases e2
      exact ⟨a, vs, e, .inl (SqL.of h1), h2, fun _ => SqL.of h1, fun z => by rw [h] at z; cases z⟩
  · obtain ⟨v, e, q⟩ := R.peek h
    rcases q with q | ⟨a, vs, es, rfl, e2, h1, h2⟩
    · obtain ⟨a, vs, rfl, ha, da⟩ := q.tupInv
      exact ⟨a, vs, e, .inr ha, da, (fun z => by rw [h] at z; cases z), fun _ => ha⟩
    · cases e2
def gLenN (i : Nat) : GE := fun env => match PD.peek env i with
  | some (.list ds) => some (.ok (.int ds.length) env)
  | some (.tuple ds) => some (.ok (.int ds.length) env)
  | _ => none
theorem pd_lenN {i : Nat} {x y : Str} {p q pos : Pos} (h : PE X (.Name y q) (tVar i)) (hg : Gl X x) (hm : X.mg x = none) (hv : bootBuiltins x = some (.builtin "len")) (hn : x ≠ "__name__" := by decide) (hdb : (x == ("__debug__" : Str)) = false := by decide)
    (hs : starEach [.Name y q] X.env = (false, eval (.Name y q) X.env) :: starEach [] X.env := by rfl) (hpl : (backTo pos (starEach [] X.env)).any (·.1) = false := by rfl) : PD X W (.Call (.Name x p) [.Name y q] [] pos) (gLenN i) :=
  ⟨PE.wk (pe_callB call_len_seq hg hm hv (pa_cons h pa_nil hs) hn hdb hs hpl) fun σ H Q q => by
    obtain ⟨Wp, Fb, L, env, r, R, g, k⟩ := q
    unfold gLenN at g
    split at g
    · rename_i ds he
      cases g
      obtain ⟨a, vs, e1, sq, da, _⟩ := R.peekS (.inl he)
      exact ⟨_, e1, a, vs, rfl, sq, k H L (Tr.refl H L) R _ (by rw [da.length]; exact .int _)⟩
    · rename_i ds he
      cases g
      obtain ⟨a, vs, e1, sq, da, _⟩ := R.peekS (.inr he)
      exact ⟨_, e1, a, vs, rfl, sq, k H L (Tr.refl H L) R _ (by rw [da.length]; exact .int _)⟩
    · cases g⟩
def gAtN (i : Nat) (Gb : GE) : GE := gB Gb fun z => fun env => match PD.peek env i with
  | some d => (dIx d z).map fun y => .ok y env
  | none => none
theorem tG.named {α β γ δ : Type} {ρ : Rel α β} {ρ' : Rel γ δ} {Ga : Gm α} {f : α → Gm γ} {σ : L2.St} {H : Hp} {Q : δ → Hp → Prop} {i : Nat} (hex : ∀ env r, Ga env = some r → ∃ d, PD.peek env i = some d) (q : tG ρ' X W (gB Ga f) σ H Q) : ∃ v, σ[i]? = some (some v) ∧ tG ρ X W Ga σ H (Nxt ρ ρ' X W f σ Q) := by
  have q2 := tG.seq (ρ := ρ) q
  obtain ⟨Wp, Fb, L, env, r, R, g, k⟩ := id q2
  obtain ⟨d, hd⟩ := hex env r g
  obtain ⟨v, e, _⟩ := R.peek hd
  exact ⟨v, e, q2⟩
/-- the name has a value at the start -/
def gHas {α : Type} (i : Nat) (G : Gm α) : Gm α := fun env => match PD.peek env i with
  | some _ => G env
  | none => none
theorem gHas_of {α : Type} {i : Nat} {G : Gm α} {env : En} {r : Rs α} (h : gHas i G env = some r) : (∃ d, PD.peek env i = some d) ∧ G env = some r := by
  unfold gHas at h
  split at h
  · rename_i d hd; exact ⟨⟨d, hd⟩, h⟩
  · cases h
theorem pd_atN {i : Nat} {y : Str} {q pos : Pos} {b : Expr} {Gb : GE} (h : PE X (.Name y q) (tVar i)) (hb : PD X W b Gb) (hs : PlainIx b := by intros; rfl) : PD X W (.Subscript (.Name y q) b pos) (gHas i (gAtN i Gb)) :=
  ⟨PE.wk (pe_ix ix_seq h hb.pe hs) fun σ H Q q => by
    obtain ⟨Wp, Fb, L, env, r, R, g, k⟩ := q
    obtain ⟨⟨d0, hd0⟩, g⟩ := gHas_of g
    obtain ⟨v0, e0, _⟩ := R.peek hd0
    refine ⟨v0, e0, (tG.seq (ρ := ρD X.K) (ρ' := ρD X.K) (W := W) ⟨Wp, Fb, L, env, r, R, g, k⟩).mono fun v H1 z => ?_⟩
    obtain ⟨d, Wp, Fb, L, env, r, hx, R, g, k⟩ := z
    dsimp only at g
    split at g
    · rename_i d1 hd1
      obtain ⟨y, h1, rfl⟩ := Option.map_eq_some_iff.mp g
      have sq : ∃ ds, d1 = .list ds ∨ d1 = .tuple ds := by
        cases d1 <;> first | exact ⟨_, .inl rfl⟩ | exact ⟨_, .inr rfl⟩ | (unfold dIx at h1; cases h1)
      obtain ⟨ds, sq⟩ := sq
      rcases sq with sq | sq
      · subst sq
        obtain ⟨a, vs, e1, _, da, sl, _⟩ := R.peekS (.inl hd1)
        rw [e0] at e1
        cases e1
        cases d <;> simp only [dIx] at h1 <;> first | cases h1 | skip
        cases hx
        obtain ⟨w, h2, h3⟩ := da.at h1
        exact .inl ⟨a, vs, _, w, rfl, rfl, sl hd1, h2, k H1 L (Tr.refl H1 L) R w h3⟩
      · subst sq
        obtain ⟨a, vs, e1, _, da, _, st⟩ := R.peekS (.inr hd1)
        rw [e0] at e1
        cases e1
        cases d <;> simp only [dIx] at h1 <;> first | cases h1 | skip
        cases hx
        obtain ⟨w, h2, h3⟩ := da.at h1
        exact .inr (.inl ⟨a, vs, _, w, rfl, rfl, st hd1, h2, k H1 L (Tr.refl H1 L) R w h3⟩)
    · cases g⟩
def gInN (neg : Bool) (Ga : GE) (i : Nat) : GE := gB Ga fun z => fun env => match PD.peek env i with
  | some d => (dIn neg z d).map fun y => .ok y env
  | none => none
end
end PD
namespace PD
open PySem PySem.Spec PyProof.Rows L2
section
variable {X : Cx} {W : WX}
theorem pd_inN {neg : Bool} {op : CmpOp} {i : Nat} {y : Str} {q pos : Pos} {a : Expr} {Ga : GE} (ho : OpR X (compareOp op) (rIn X.K neg)) (ha : PD X W a Ga) (h : PE X (.Name y q) (tVar i)) (hm : behindInMarks op (.Name y q) = false) : PD X W (.Compare a [op] [.Name y q] pos) (gInN neg Ga i) :=
  ⟨PE.wk (pe_cmpR ho ha.pe h hm) fun σ H Q q => (tG.seq (ρ := ρD X.K) q).mono fun v H1 z => by
    obtain ⟨d, Wp, Fb, L, env, r, hx, R, g, k⟩ := z
    dsimp only at g
    split at g
    · rename_i d1 hd1
      obtain ⟨y, h1, rfl⟩ := Option.map_eq_some_iff.mp g
      obtain ⟨v1, e1, q1⟩ := R.peek hd1
      refine ⟨v1, e1, ?_⟩
      rcases q1 with q1 | ⟨a1, vs, ds, rfl, rfl, h2, h3⟩
      · exact (rd_in neg).go hx q1 h1 (fun p hp => R.free hp) fun v' H' gr dn => k H' L (grow_tr gr) (R.grow gr) v' dn
      · cases d <;> simp only [dIn] at h1 <;> first | cases h1 | skip
        obtain ⟨ns, h4, rfl⟩ := Option.map_eq_some_iff.mp h1
        cases hx
        rw [ints_of h4] at h3
        have e := h3.ints_inv
        subst e
        refine ⟨a1, _, rfl, .inl (SqL.of h2), rfl, flat_ints ns, ?_⟩
        rw [inV_ints]
        refine k H1 L (Tr.refl H1 L) R _ ?_
        cases neg <;> simpa using Dn.bl _
    · cases g⟩
/-! ### what is walked -/
/-- J gives the items, whatever else is done meanwhile -/
def Wk (K : Fr0) (Fb : AS) (J : It) (L : AS) (H : Hp) (items : List D) : Prop := ∀ (Fb' L2 : AS) H2, (∀ a, Fb' a → Fb a ∨ H a = none) → Tr H L H2 L2 → (∀ a, U L2 Fb' a → ∃ o, H2 a = some o) →
  (∀ (i : Nat) (d : D), items[i]? = some d → J.go i H2 ∧ ∀ x H3, J.yld i H2 x H3 → (∀ a o, H2 a = some o → H3 a = some o) ∧ Dn K (U L2 Fb') H3 x d) ∧ J.stop items.length H2
def tI (X : Cx) (W : WX) (G : GA) : TI := fun σ H R => ∃ (Wp : L2.St) (Fb L : AS) (env : En) (r : Rs (List D)), ER X.K Wp Fb L H σ env ∧ G env = some r ∧ Go X W Wp Fb σ H L r fun items H' L' => ∀ J, Wk X.K Fb J L' H' items → R J H'
structure PDI (X : Cx) (W : WX) (tg iter : Expr) (G : GA) : Prop where
  pi : PI X tg iter (tI X W G)
theorem PI.wk {tg e : Expr} {t t' : TI} (h : PI X tg e t) (w : ∀ σ H R, t' σ H R → t σ H R) : PI X tg e t' := ⟨fun pins s σ H R I q => h.run pins s σ H R I (w σ H R q)⟩
theorem wk_of {K : Fr0} {Fb L : AS} {J : It} {H : Hp} {items : List D} {n : Nat} {P : Hp → Prop} {Y : Nat → Hp → V → Hp → Prop} (w : Walk J n P Y) (hn : n = items.length) (hP : ∀ L2 H2, Tr H L H2 L2 → P H2)
    (hY : ∀ (Fb' L2 : AS) H2, Mv (U L Fb) H (U L2 Fb') H2 → (∀ p, H2 p = none → ¬ U L2 Fb' p) → ∀ (i : Nat) (d : D) x H3, items[i]? = some d → Y i H2 x H3 → (∀ a o, H2 a = some o → H3 a = some o) ∧ Dn K (U L2 Fb') H3 x d) : Wk K Fb J L H items := fun Fb' L2 H2 nb t tr => by
  subst hn
  have fr : ∀ p, H2 p = none → ¬ U L2 Fb' p := fun p hp z => by
    obtain ⟨o, e⟩ := tr p z
    rw [hp] at e; cases e
  have m : Mv (U L Fb) H (U L2 Fb') H2 := fun a o n e _ => by
    obtain ⟨e1, n1⟩ := t a o e fun z => n (.inl z)
    refine ⟨fun z => z.elim n1 fun z => ?_, e1⟩
    rcases nb a z with q | q
    · exact n (.inr q)
    · rw [e] at q; cases q
  refine ⟨fun i d hd => ?_, w.stops H2 (hP L2 H2 t)⟩
  have hi : i < items.length := (List.getElem?_eq_some_iff.mp hd).1
  exact ⟨w.goes i H2 hi (hP L2 H2 t), fun x H3 y => hY Fb' L2 H2 m fr i d x H3 hd (w.yields i H2 x H3 hi (hP L2 H2 t) y)⟩
def gSeqOf (G : GE) : GA := gB G fun d => gO (match d with | .list ds => some ds | .tuple ds => some ds | _ => none)
theorem sqt_keep {K : Fr0} {L L2 Fb : AS} {H H2 : Hp} {a : Addr} {xs : List V} (e : (¬ U L Fb a ∧ H a = some (.tup xs)) ∨ SqT K (fun _ => Option.none) a xs) (t : Tr H L H2 L2) : SqT K H2 a xs :=
  sqt_of (F := fun _ => False) (e.imp (fun z => ⟨id, (t a _ z.2 fun w => z.1 (.inl w)).1⟩) id)
theorem pdi_seq {tg e : Expr} {G : GE} (h : PD X W e G) : PDI X W tg e (gSeqOf G) := ⟨⟨fun pins s σ H R I q => by
  obtain ⟨Wp, Fb, L, env, r, R0, g, k⟩ := q
  unfold gSeqOf gB at g
  split at g
  · cases g
  · rename_i d e1 hd
    obtain ⟨ds, h1, rfl⟩ := gO_some g
    split at h1
    · cases h1
      refine (pi_list h.pe).run pins s σ H R I ⟨Wp, Fb, L, env, _, R0, hd, fun H1 L1 t1 R1 v hv => ?_⟩
      obtain ⟨a, vs, rfl, na, ha, da⟩ := hv.lstInv
      refine ⟨a, rfl, ⟨vs, SqL.of ha⟩, k H1 L1 t1 R1 _ (wk_of (walk_list (xs := vs)) da.length (fun L2 H2 t => SqL.of (t a _ ha fun z => na (.inl z)).1) fun Fb' L2 H2 m fr i d x H3 hd y => ?_)⟩
      obtain ⟨rfl, hx⟩ := y
      obtain ⟨d', h2, h3⟩ := da.getV hx
      rw [hd] at h2; cases h2
      exact ⟨fun _ _ e => e, h3.mv m⟩
    · cases h1
      refine (pi_tup h.pe).run pins s σ H R I ⟨Wp, Fb, L, env, _, R0, hd, fun H1 L1 t1 R1 v hv => ?_⟩
      cases hv with
      | tup ha da =>
        rename_i a vs
        refine ⟨a, rfl, ⟨vs, sqt_of ha⟩, k H1 L1 t1 R1 _ (wk_of (walk_tup (xs := vs)) da.length (fun L2 H2 t => sqt_keep ha t) fun Fb' L2 H2 m fr i d x H3 hd y => ?_)⟩
        obtain ⟨rfl, hx⟩ := y
        obtain ⟨d', h2, h3⟩ := da.getV hx
        rw [hd] at h2; cases h2
        exact ⟨fun _ _ e => e, h3.mv m⟩
    · cases h1
  · rename_i c fs e1 hd
    cases g
    exact (pi_list h.pe).run pins s σ H R I ⟨Wp, Fb, L, env, _, R0, hd, k⟩⟩⟩
def upto (lo : Int) (c : Int) (n : Nat) : List D := (List.range n).map fun (i : Nat) => .int (lo + (i : Int) * c)
theorem upto_length (lo c : Int) (n : Nat) : (upto lo c n).length = n := by simp [upto]
theorem upto_get {lo c : Int} {n i : Nat} {d : D} (h : (upto lo c n)[i]? = some d) : d = .int (lo + (i : Int) * c) := by
  unfold upto at h
  rw [List.getElem?_map] at h
  obtain ⟨j, h1, h2⟩ := Option.map_eq_some_iff.mp h
  rw [List.getElem?_range (by
    have := (List.getElem?_eq_some_iff.mp h1).1
    simpa using this)] at h1
  cases h1
  exact h2.symm
def bRg (i : Int) : Bool := decide (-1000000 ≤ i) && decide (i ≤ 1000000)
theorem bRg_ok {i : Int} (h : bRg i = true) : -(2 ^ 62) ≤ i ∧ i < 2 ^ 62 := by
  unfold bRg at h
  simp only [Bool.and_eq_true, decide_eq_true_eq] at h
  omega
def dRange1 : List D → Option (List D)
  | [.int j] => if bRg j = true then some (upto 0 1 j.toNat) else none
  | _ => none
def dRange2 : List D → Option (List D)
  | [.int i, .int j] => if (bRg i && bRg j) = true then some (upto i 1 (j - i).toNat) else none
  | _ => none
def dRange3 : List D → Option (List D)
  | [.int i, .int j, .int c] => if (bRg i && bRg j && decide (c = -1)) = true then some (upto i (-1) (i - j).toNat) else none
  | _ => none
theorem wk_range {K : Fr0} {Fb L : AS} {H : Hp} {lo : Int} {n : Nat} : Wk K Fb (Itr lo n) L H (upto lo 1 n) := wk_of walk_range (upto_length _ _ _).symm (fun _ _ _ => trivial) fun Fb' L2 H2 m fr i d x H3 hd y => by
  obtain ⟨rfl, rfl⟩ := y
  rw [upto_get hd, Int.mul_one]
  exact ⟨fun _ _ e => e, .int _⟩
theorem wk_rangeC {K : Fr0} {Fb L : AS} {H : Hp} {lo c : Int} {n : Nat} : Wk K Fb (Itc lo c n) L H (upto lo c n) := wk_of walk_rangeC (upto_length _ _ _).symm (fun _ _ _ => trivial) fun Fb' L2 H2 m fr i d x H3 hd y => by
  obtain ⟨rfl, rfl⟩ := y
  rw [upto_get hd]
  exact ⟨fun _ _ e => e, .int _⟩
theorem tI.seq {α β : Type} {ρ : Rel α β} {G : Gm α} {f : α → GA} {σ : L2.St} {H : Hp} {R : It → Hp → Prop} (q : tI X W (gB G f) σ H R) : tG ρ X W G σ H fun b H1 => ∃ (a : α) (Wp : L2.St) (Fb L : AS) (env : En) (r : Rs (List D)), ρ a b (U L Fb) H1 ∧ ER X.K Wp Fb L H1 σ env ∧ f a env = some r ∧
    Go X W Wp Fb σ H1 L r fun items H' L' => ∀ J, Wk X.K Fb J L' H' items → R J H' := by
  obtain ⟨Wp, Fb, L, env, r, R0, g, k⟩ := q
  unfold gB at g
  split at g
  · cases g
  · rename_i a e hg
    exact ⟨Wp, Fb, L, env, _, R0, hg, fun H1 L1 t1 R1 b hb => ⟨a, Wp, Fb, L1, e, r, hb, R1, g, k.from t1⟩⟩
  · rename_i c fs e hg
    cases g
    exact ⟨Wp, Fb, L, env, _, R0, hg, k⟩
section
variable {tg a b c : Expr} {G : GA} {p pos : Pos}
theorem pdi_range1 (hg : Gl X "range") (hm : X.mg "range" = none) (ha : PDA X W [a] G) (hs : starEach [a] X.env = [(false, eval a X.env)] := by rfl) : PDI X W tg (.Call (.Name "range" p) [a] [] pos) (gB G fun ds => gO (dRange1 ds)) :=
  ⟨PI.wk (pi_range1 hg hm ha.pa hs) fun σ H R q => (tI.seq (ρ := ρA X.K) q).mono fun v H1 z => by
    obtain ⟨ds, Wp, Fb, L, env, r, hx, R0, g, k⟩ := z
    obtain ⟨items, h1, rfl⟩ := gO_some g
    unfold dRange1 at h1
    split at h1
    · split at h1
      · rename_i hb
        cases h1
        obtain ⟨v, rfl, h⟩ := hx.one
        cases h
        exact ⟨_, rfl, (bRg_ok hb).1, (bRg_ok hb).2, k H1 L (Tr.refl H1 L) R0 _ wk_range⟩
      · cases h1
    · cases h1⟩
theorem pdi_range2 (hg : Gl X "range") (hm : X.mg "range" = none) (ha : PDA X W [a, b] G) (hs : starEach [a, b] X.env = [(false, eval a X.env), (false, eval b X.env)] := by rfl) (hs2 : starEach [b] X.env = [(false, eval b X.env)] := by rfl) :
    PDI X W tg (.Call (.Name "range" p) [a, b] [] pos) (gB G fun ds => gO (dRange2 ds)) :=
  ⟨PI.wk (pi_range2 hg hm ha.pa hs hs2) fun σ H R q => (tI.seq (ρ := ρA X.K) q).mono fun v H1 z => by
    obtain ⟨ds, Wp, Fb, L, env, r, hx, R0, g, k⟩ := z
    obtain ⟨items, h1, rfl⟩ := gO_some g
    unfold dRange2 at h1
    split at h1
    · split at h1
      · rename_i hb
        cases h1
        rw [Bool.and_eq_true] at hb
        obtain ⟨v, u, rfl, h, h'⟩ := hx.two
        cases h; cases h'
        exact ⟨_, _, rfl, ⟨(bRg_ok hb.1).1, (bRg_ok hb.1).2, (bRg_ok hb.2).1, (bRg_ok hb.2).2⟩, k H1 L (Tr.refl H1 L) R0 _ wk_range⟩
      · cases h1
    · cases h1⟩
theorem pdi_range3 (hg : Gl X "range") (hm : X.mg "range" = none) (ha : PDA X W [a, b, c] G) (hs : starEach [a, b, c] X.env = (false, eval a X.env) :: starEach [b, c] X.env := by rfl) (hpl : (backTo pos (starEach [b, c] X.env)).any (·.1) = false := by rfl) :
    PDI X W tg (.Call (.Name "range" p) [a, b, c] [] pos) (gB G fun ds => gO (dRange3 ds)) :=
  ⟨PI.wk (pi_range3 hg hm ha.pa hs hpl) fun σ H R q => (tI.seq (ρ := ρA X.K) q).mono fun v H1 z => by
    obtain ⟨ds, Wp, Fb, L, env, r, hx, R0, g, k⟩ := z
    obtain ⟨items, h1, rfl⟩ := gO_some g
    unfold dRange3 at h1
    split at h1
    · split at h1
      · rename_i hb
        cases h1
        rw [Bool.and_eq_true, Bool.and_eq_true] at hb
        cases hx with
        | cons h hx =>
          obtain ⟨v, u, rfl, h', h''⟩ := hx.two
          cases h; cases h'; cases h''
          have hc := of_decide_eq_true hb.2
          subst hc
          exact ⟨_, _, _, _, rfl, RgC.neg (bRg_ok hb.1.1).1 (bRg_ok hb.1.1).2 (bRg_ok hb.1.2).1 (bRg_ok hb.1.2).2, k H1 L (Tr.refl H1 L) R0 _ wk_rangeC⟩
      · cases h1
    · cases h1⟩
end
/-! ### zip -/
def pairs : List D → List D → List D
  | x :: xs, y :: ys => .tuple [x, y] :: pairs xs ys
  | _, _ => []
theorem pairs_length : ∀ xs ys : List D, (pairs xs ys).length = min xs.length ys.length
  | [], ys => by simp [pairs]
  | x :: xs, [] => by simp [pairs]
  | x :: xs, y :: ys => by
    show (pairs xs ys).length + 1 = min (xs.length + 1) (ys.length + 1)
    rw [pairs_length xs ys]
    omega
theorem pairs_get : ∀ {xs ys : List D} {i : Nat} {d : D}, (pairs xs ys)[i]? = some d → ∃ x y, xs[i]? = some x ∧ ys[i]? = some y ∧ d = .tuple [x, y]
  | [], ys, i, d, h => by simp [pairs] at h
  | x :: xs, [], i, d, h => by simp [pairs] at h
  | x :: xs, y :: ys, 0, d, h => by
    have e : PyData.tuple [x, y] = d := Option.some.inj h
    exact ⟨x, y, rfl, rfl, e.symm⟩
  | x :: xs, y :: ys, i + 1, d, h => pairs_get (xs := xs) (ys := ys) (i := i) h
def dZip : List D → Option (List D)
  | [.list xs, .list ys] => some (pairs xs ys)
  | [.tuple xs, .tuple ys] => some (pairs xs ys)
  | _ => none
theorem walk_zipT {K : Fr0} {a b : Addr} {xs ys : List V} {n : Nat} (hn : n = min xs.length ys.length) : Walk (RZ.ItzT K a b) n (fun H => SqT K H a xs ∧ SqT K H b ys) (YPair (fun i => xs[i]?) (fun i => ys[i]?)) := by
  subst hn
  refine ⟨fun i H hi q => ⟨xs, ys, xs[i]'(by omega), ys[i]'(by omega), q.1, q.2, List.getElem?_eq_getElem _, List.getElem?_eq_getElem _⟩, fun H q => ⟨xs, ys, q.1, q.2, by omega⟩, fun i H x H' hi q y => ?_⟩
  obtain ⟨T, x1, y1, e1, e2, e3, h1, h2⟩ := y
  exact ⟨T, x1, y1, e1, e2, e3, h1 xs q.1, h2 ys q.2⟩
theorem pair_dn {K : Fr0} {L2 Fb : AS} {H2 : Hp} {H3 : Hp} {x : V} {i : Nat} {xs ys : List V} {ds es : List D} {d : D} (fr : ∀ p, H2 p = none → ¬ U L2 Fb p) (hd : (pairs ds es)[i]? = some d) (y : YPair (fun i => xs[i]?) (fun i => ys[i]?) i H2 x H3)
    (da : DnA K (U L2 Fb) H2 xs ds) (db : DnA K (U L2 Fb) H2 ys es) : (∀ a o, H2 a = some o → H3 a = some o) ∧ Dn K (U L2 Fb) H3 x d := by
  obtain ⟨T, x1, y1, rfl, hT, rfl, h1, h2⟩ := y
  obtain ⟨d1, d2, h3, h4, rfl⟩ := pairs_get hd
  obtain ⟨d1', h5, h6⟩ := da.getV h1
  obtain ⟨d2', h7, h8⟩ := db.getV h2
  rw [h3] at h5; cases h5
  rw [h4] at h7; cases h7
  exact ⟨upd_grow hT, .tup (.inl ⟨fr T hT, upd_same⟩) (.cons (h6.mv (mv_grow (upd_grow hT))) (.cons (h8.mv (mv_grow (upd_grow hT))) .nil))⟩
theorem pdi_zip {a b : Expr} {elts : List Expr} {kk : Nat} {tpos p pos : Pos} {G : GA} (hg : Gl X "zip") (hm : X.mg "zip" = none) (ha : PDA X W [a, b] G)
    (hs : starEach [a, b] X.env = (false, eval a X.env) :: starEach [b] X.env := by rfl) (hpl : (backTo pos (starEach [b] X.env)).any (·.1) = false := by rfl) :
    PDI X W (.Tuple elts kk tpos) (.Call (.Name "zip" p) [a, b] [] pos) (gB G fun ds => gO (dZip ds)) :=
  ⟨PI.wk (RZ.pi_zipA hg hm ha.pa hs hpl) fun σ H R q => (tI.seq (ρ := ρA X.K) q).mono fun v H1 z => by
    obtain ⟨ds, Wp, Fb, L, env, r, hx, R0, g, k⟩ := z
    obtain ⟨items, h1, rfl⟩ := gO_some g
    unfold dZip at h1
    split at h1
    · cases h1
      obtain ⟨v, u, rfl, h, h'⟩ := hx.two
      obtain ⟨a, vs, rfl, na, ha, da⟩ := h.lstInv
      obtain ⟨b, ws, rfl, nb, hb, db⟩ := h'.lstInv
      refine ⟨a, b, vs, ws, rfl, .inl ⟨SqL.of ha, SqL.of hb, k H1 L (Tr.refl H1 L) R0 _ (wk_of (walk_zip (xs := vs) (ys := ws) rfl) (by rw [pairs_length, da.length, db.length]) (fun L2 H2 t => ⟨SqL.of (t a _ ha fun z => na (.inl z)).1, SqL.of (t b _ hb fun z => nb (.inl z)).1⟩) fun Fb' L2 H2 m fr i d x H3 hd y => pair_dn fr hd y (da.mv m) (db.mv m))⟩⟩
    · cases h1
      obtain ⟨v, u, rfl, h, h'⟩ := hx.two
      cases h with
      | tup ha da =>
        cases h' with
        | tup hb db =>
          rename_i a vs b ws
          refine ⟨a, b, vs, ws, rfl, .inr ⟨sqt_of ha, sqt_of hb, k H1 L (Tr.refl H1 L) R0 _ (wk_of (walk_zipT (xs := vs) (ys := ws) rfl) (by rw [pairs_length, da.length, db.length]) (fun L2 H2 t => ⟨sqt_keep ha t, sqt_keep hb t⟩) fun Fb' L2 H2 m fr i d x H3 hd y => pair_dn fr hd y (da.mv m) (db.mv m))⟩⟩
    · cases h1⟩
/-! ### enumerate (lists) -/
def enumD : Nat → List D → List D
  | _, [] => []
  | n, x :: xs => .tuple [.int n, x] :: enumD (n + 1) xs
theorem enumD_length : ∀ (n : Nat) (xs : List D), (enumD n xs).length = xs.length
  | _, [] => rfl
  | n, x :: xs => by
    show (enumD (n + 1) xs).length + 1 = xs.length + 1
    rw [enumD_length]
theorem enumD_get : ∀ {n : Nat} {xs : List D} {i : Nat} {d : D}, (enumD n xs)[i]? = some d → ∃ x, xs[i]? = some x ∧ d = .tuple [.int ((n + i : Nat) : Int), x]
  | n, [], i, d, h => by simp [enumD] at h
  | n, x :: xs, 0, d, h => by
    have e : PyData.tuple [.int n, x] = d := Option.some.inj h
    exact ⟨x, rfl, by rw [← e]; rfl⟩
  | n, x :: xs, i + 1, d, h => by
    obtain ⟨y, h1, h2⟩ := enumD_get (n := n + 1) (xs := xs) (i := i) h
    exact ⟨y, h1, by rw [h2]; congr 2; congr 1; congr 1; omega⟩
end
end PD
namespace PD
open PySem PySem.Spec PyProof.Rows L2
/-! enumerate(v) of a list, of a tuple -/
abbrev enO (it : Addr) : Obj := { cls := .type "enumerate", data := .fields #[.none, .bool false, .ref it, rawInt 0, .none, .none] }
set_option maxHeartbeats 1000000 in
theorem enNew {v : Value} {o : Obj} {T : Heap → Prop} (B : Begins v o T) : Meets (Builtin.«enumerate.__new__» ⟨[.type "enumerate", v], []⟩) (fun _ R s => T s.heap ∧
      R (.ok (.ret (.ref (s.heap.push o).objs.size))) { s with heap := (s.heap.push o).push (enO s.heap.objs.size) }) :=
  .of_wp fun P w A R s q => by
    obtain ⟨h0, g0, d0, t0, o0⟩ := s
    obtain ⟨z1, z2⟩ := q
    have subE := sub_enumerate
    have it1 : ∀ {A2 : Around} {E2 : Value → Shared → Prop} {Q2 : Value → Shared → Prop}, Q2 (.ref h0.objs.size) ⟨h0.push o, g0, d0, t0, o0⟩ → wpAny (model P w) A2 (pyIter v) Q2 E2 ⟨h0, g0, d0, t0, o0⟩ := fun x => B.iter P w _ _ ⟨h0, g0, d0, t0, o0⟩ _ z1 x
    wp_walk using it1
    refine wpAny_stack_any fun st0 => wpAny_pure ?_
    split
    · rename_i cc _ _ _ _ _
      cases (cc == Value.type "enumerate") <;> (wp_walk using it1; exact ⟨_, rfl, z2⟩)
    · wp_walk using it1
      exact ⟨_, rfl, z2⟩
section
variable {P : Program} {w : World} {A : Around} {E : Value → Shared → Prop} {s : Shared}
theorem enCall {v : Value} {o : Obj} {T : Heap → Prop} {Q : Value → Shared → Prop} (B : Begins v o T) (z1 : T s.heap)
    (h : ∀ h', IsEnum h' (s.heap.objs.size + 1) s.heap.objs.size 0 .none → h'.get? s.heap.objs.size = some o → (∀ b u, s.heap.get? b = some u → h'.get? b = some u) → Q (.ref (s.heap.objs.size + 1)) { s with heap := h' }) :
    wpAny (model P w) A (call (.type "enumerate") [v]) Q E s := by
  refine callType_new F.called_enumerate (by decide) (F.typeCall_enumerate_1 _) (F.newCall_enumerate_1 _) (fun obj => F.args_object_init_2 obj _) F.entry_enumerate_new (enNew B) ⟨z1, ?_⟩
  have sz1 : (s.heap.push o).objs.size = s.heap.objs.size + 1 := by rw [Heap.size_push]
  have he : IsEnum ((s.heap.push o).push (enO s.heap.objs.size)) (s.heap.objs.size + 1) s.heap.objs.size 0 .none := by
    rw [← sz1]
    exact Heap.get?_push_size (s.heap.push o) (o := enO s.heap.objs.size) rfl
  show _ ∧ _
  rw [sz1]
  exact ⟨⟨_, he, rfl⟩, h _ he (Heap.get?_push_of_some _ (Heap.get?_push_size _ B.free)) fun b u x => Heap.get?_push_of_some _ (Heap.get?_push_of_some _ x)⟩
end
/-- the tuple at a, each item in a new pair with its number -/
def Itu (K : Fr0) (a : Addr) : It :=
  ⟨fun i H => ∃ (xs : List V) (x : V), SqT K H a xs ∧ xs[i]? = some x, fun i H v H' => ∃ T x, v = .ref T ∧ H T = none ∧ H' = upd H T (.tup [.int (i : Nat), x]) ∧ ∀ xs, SqT K H a xs → xs[i]? = some x, fun i H => ∃ xs : List V, SqT K H a xs ∧ xs.length ≤ i⟩
theorem turn_u {P : Program} {w : World} {K : Fr0} {elts : List Expr} {kk : Nat} {tpos : Pos} (a e it : Addr) :
    Turn P w K (.Tuple elts kk tpos) (Itu K a) [e, it] e (fun i h => (∃ old, IsEnum h e it ((i : Nat) : Int) old) ∧ h.IsTupleIter it a i ∧ e ≠ it ∧ a ≠ it ∧ e ≠ a) where
  mem := by simp
  obj := fun i h st b hb => by
    obtain ⟨⟨old, he⟩, ⟨o, ho, hc, hd⟩, _⟩ := st
    rcases (show b = e ∨ b = it by simpa using hb) with z | z
    · subst z; exact ⟨_, he, fun v q => nomatch q⟩
    · subst z; exact ⟨o, ho, fun v q => by rw [hd] at q; cases q⟩
  keep := fun i h h' st k => by
    obtain ⟨⟨old, he⟩, hi, r⟩ := st
    exact ⟨⟨old, k e (by simp) _ he⟩, hi.at fun o q => k it (by simp) o q, r⟩
  item := by
    intro X hP hw hK hc i pins s σ H E I hf st hg
    subst hP hw hK
    obtain ⟨⟨old, he⟩, hit, hne, hat, hea⟩ := st
    obtain ⟨xs, x, hq, hx⟩ := hg
    obtain ⟨its, rv, p, hz⟩ := I.tuple hq
    obtain ⟨u, hu, ru⟩ := rv.get hx
    have hel : e < s.heap.objs.size := Heap.lt_size he
    have hil : it < s.heap.objs.size := by
      obtain ⟨_, q, _⟩ := hit
      exact Heap.lt_size q
    have hi : i < its.toArray.size := by
      have := (List.getElem?_eq_some_iff.mp hu).1
      simpa using this
    refine wpAny_pyNext_enum_itemC (Draws.tuple (show X.A.in1.handled = none from I.ok.hd hc) it a hat its.toArray) he ⟨hit, (show s.heap.IsTuple a its.toArray from p)⟩ hi hne (by simp; exact ⟨hne, hea⟩) fun x' h' tk hP' ho st' hT hsz hk => ?_
    have ex : x' = u := by
      have hP' : its.toArray[i]? = some x' := hP'
      have e1 : its.toArray[i]? = its[i]? := by simp
      rw [e1, hu] at hP'
      exact (Option.some.inj hP').symm
    subst ex
    refine ⟨_, rfl, wpAny_letOwnedTupleGo_enum (s := { s with heap := h', toks := tk + 1 }) ho fun h'' he' sb => ?_⟩
    have hT2 : h''.get? s.heap.objs.size = some { cls := .type "tuple", data := .seq #[.int i tk, x'] } := (sb.2 _ (Nat.ne_of_gt hel)).trans hT
    have new : ObjOk X.prog X.w (upd H s.heap.objs.size (.tup [.int (i : Nat), x])) h'' s.heap.objs.size (.tup [.int (i : Nat), x]) := ⟨by show 2 ≤ sizeLine; decide, [.int i tk, x'], .cons ⟨tk, rfl⟩ (.cons ru .nil), ⟨_, hT2, rfl, _, rfl⟩⟩
    have I1 : Inv X pins σ (upd H s.heap.objs.size (.tup [.int (i : Nat), x])) { s with heap := h'', toks := tk + 1 } :=
      I.turnedNew (t' := tk + 1) (ch := [e, it]) (fun b ob hb q => (sb.2 b (fun z => hb (by simp [z]))).trans (hk b ob (fun z => hb (by simp [z])) (fun z => hb (by simp [z])) q)) hf (Nat.le_refl _) new
    refine ⟨.ref s.heap.objs.size, _, I1, rfl, ⟨_, x, rfl, I.hok.fresh (Nat.le_refl _), rfl, fun ys hy => by rw [I.tuple_inj hy hq]; exact hx⟩, ⟨⟨x', ?_⟩, st'.1.at fun o q => (sb.2 it (Ne.symm hne)).trans q, hne, hat, hea⟩, fun b hb => ?_⟩
    · rw [show ((i + 1 : Nat) : Int) = (i : Int) + 1 by omega]
      exact he'
    · have hb' : b < s.heap.objs.size := by
        rcases (show b = e ∨ b = it by simpa using hb) with z | z
        · subst z; exact hel
        · subst z; exact hil
      rw [upd_ne (Nat.ne_of_lt hb')]
      exact (hf b hb).1
  done := by
    intro X hP hw hK hc i pins s σ H E I hf st hg
    subst hP hw hK
    obtain ⟨⟨old, he⟩, hit, hne, hat, hea⟩ := st
    obtain ⟨xs, hq, hx⟩ := hg
    obtain ⟨its, rv, p, hz⟩ := I.tuple hq
    obtain ⟨f0, f1, f2, f3, f4, f5⟩ := hf it (by simp)
    have hl := rv.length
    have D0 : Draws X.prog X.w X.A.in1 it [it, a] i (fun i v => its.toArray[i]? = some v ∧ False) (fun j h => h.IsTupleIter it a j ∧ h.IsTuple a its.toArray ∧ j = i) := by
      have D := Draws.tuple (prog := X.prog) (w := X.w) (show X.A.in1.handled = none from I.ok.hd hc) it a hat its.toArray
      refine ⟨fun j h st => D.live j h ⟨st.1, st.2.1⟩, fun j h h' st k => ⟨(D.frame j h h' ⟨st.1, st.2.1⟩ k).1, (D.frame j h h' ⟨st.1, st.2.1⟩ k).2, st.2.2⟩, fun j s Q E hj st => absurd st.2.2 (Nat.ne_of_lt hj), fun s Q E st hE => ?_⟩
      exact wpAny_nextOf_tuple_end (show X.A.in1.handled = none from I.ok.hd hc) st.1 st.2.1 (by simp; omega) hE
    exact wpAny_pyNext_enum_endD D0 he ⟨hit, p, rfl⟩ fun h' eb => ⟨rfl, I.turned (t' := s.toks) (fun b o hb q => eb b o hb q) f0 f1 f3 f4 f5⟩
  self := fun A i s Q E st h => by
    obtain ⟨⟨_, he⟩, _⟩ := st
    exact wpAny_pyIter_enum he h
section
variable {X : Cx} {W : WX}
def iEnT (K : Fr0) (ta : TA) : TI := fun σ H R => ta σ H fun vs H1 => ∃ a xs, vs = [.ref a] ∧ SqT K H1 a xs ∧ R (Itu K a) H1
theorem pi_enT {e : Expr} {ta : TA} {p pos tpos : Pos} {elts : List Expr} {kk : Nat} (hg : Gl X "enumerate") (hm : X.mg "enumerate" = none) (ha : PA X [e] ta) (hs : starEach [e] X.env = [(false, eval e X.env)] := by rfl) :
    PI X (.Tuple elts kk tpos) (.Call (.Name "enumerate" p) [e] [] pos) (iEnT X.K ta) := ⟨fun pins s σ H R I h => by
  refine Call_ (ld_blt I hg hm boot_enumerate (PyProof.Rows.callWith_type1 (thn (ha.run pos pins s σ H _ I h) fun us s1 ⟨vs, H1, I1, r1, z⟩ => ?_) hs rfl))
  obtain ⟨a, xs, ex, hq, q⟩ := z
  subst ex
  obtain ⟨u, rfl, ru⟩ := Vals.one r1
  cases ru
  obtain ⟨its, rv, pt, hz⟩ := I1.tuple hq
  have hlt : a < s1.heap.objs.size := by
    obtain ⟨o, ho, _⟩ := pt
    exact Heap.lt_size ho
  refine enCall (begins_tuple a its.toArray) (show s1.heap.IsTuple a its.toArray from pt) fun h' he hit hk => wpAny_pyIter_enum he ?_
  have I2 : Inv X pins σ H1 { s1 with heap := h' } := I1.kept (t' := s1.toks) hk
  refine ⟨s1.heap.objs.size + 1, [s1.heap.objs.size + 1, s1.heap.objs.size], _, _, H1, rfl, I2, turn_u a (s1.heap.objs.size + 1) s1.heap.objs.size, ⟨⟨.none, he⟩, ⟨_, hit, rfl, rfl⟩, Nat.succ_ne_self _, Nat.ne_of_lt hlt, Nat.ne_of_gt (Nat.lt_succ_of_lt hlt)⟩, fun b hb => ?_, q⟩
  have hle : s1.heap.objs.size ≤ b := by
    rcases (show b = s1.heap.objs.size + 1 ∨ b = s1.heap.objs.size by simpa using hb) with z | z
    · subst z; exact Nat.le_add_right _ _
    · subst z; exact Nat.le_refl _
  exact I1.fpOk hle (I1.hok.fresh hle)⟩
theorem walk_u {K : Fr0} {a : Addr} {xs : List V} : Walk (Itu K a) xs.length (fun H => SqT K H a xs) (YPair (fun i => some (.int (i : Nat))) (fun i => xs[i]?)) :=
  ⟨fun i _ hi q => ⟨xs, xs[i], q, by simp [hi]⟩, fun _ q => ⟨xs, q, Nat.le_refl _⟩, fun i H x H' hi q y => by
    obtain ⟨T, x1, e1, e2, e3, h1⟩ := y
    exact ⟨T, _, x1, e1, e2, e3, rfl, h1 xs q⟩⟩
theorem en_dn {K : Fr0} {L2 Fb : AS} {H2 : Hp} {H3 : Hp} {x : V} {i : Nat} {xs : List V} {ds : List D} {d : D} (fr : ∀ p, H2 p = none → ¬ U L2 Fb p) (hd : (enumD 0 ds)[i]? = some d) (y : YPair (fun i => some (.int (i : Nat))) (fun i => xs[i]?) i H2 x H3)
    (da : DnA K (U L2 Fb) H2 xs ds) : (∀ a o, H2 a = some o → H3 a = some o) ∧ Dn K (U L2 Fb) H3 x d := by
  obtain ⟨T, x1, y1, rfl, hT, rfl, h1, h2⟩ := y
  cases h1
  obtain ⟨d2, h4, rfl⟩ := enumD_get hd
  obtain ⟨d2', h7, h8⟩ := da.getV h2
  rw [h4] at h7; cases h7
  rw [Nat.zero_add]
  exact ⟨upd_grow hT, .tup (.inl ⟨fr T hT, upd_same⟩) (.cons (.int _) (.cons (h8.mv (mv_grow (upd_grow hT))) .nil))⟩
def dEnum : List D → Option (List D)
  | [.list xs] => some (enumD 0 xs)
  | [.tuple xs] => some (enumD 0 xs)
  | _ => none
theorem pdi_enum {a : Expr} {elts : List Expr} {kk : Nat} {tpos p pos : Pos} {G : GA} (hg : Gl X "enumerate") (hm : X.mg "enumerate" = none) (ha : PDA X W [a] G) (hs : starEach [a] X.env = [(false, eval a X.env)] := by rfl) :
    PDI X W (.Tuple elts kk tpos) (.Call (.Name "enumerate" p) [a] [] pos) (gB G fun ds => gO (dEnum ds)) := ⟨⟨fun pins s σ H R I q => by
  obtain ⟨Wp, Fb, L, env, r, R0, g, k⟩ := q
  unfold gB at g
  split at g
  · cases g
  · rename_i ds e1 hd
    obtain ⟨items, h1, rfl⟩ := gO_some g
    unfold dEnum at h1
    split at h1
    · cases h1
      refine (pi_enum hg hm ha.pa hs).run pins s σ H R I ⟨Wp, Fb, L, env, _, R0, hd, fun H1 L1 t1 R1 v hv => ?_⟩
      obtain ⟨v, rfl, h⟩ := hv.one
      obtain ⟨a, vs, rfl, na, ha, da⟩ := h.lstInv
      exact ⟨a, vs, rfl, SqL.of ha, k H1 L1 t1 R1 _ (wk_of (walk_enum (xs := vs)) (by rw [enumD_length, da.length]) (fun L2 H2 t => SqL.of (t a _ ha fun z => na (.inl z)).1) fun Fb' L2 H2 m fr i d x H3 hd y => en_dn fr hd y (da.mv m))⟩
    · cases h1
      refine (pi_enT hg hm ha.pa hs).run pins s σ H R I ⟨Wp, Fb, L, env, _, R0, hd, fun H1 L1 t1 R1 v hv => ?_⟩
      obtain ⟨v, rfl, h⟩ := hv.one
      cases h with
      | tup ha da =>
        rename_i a vs
        exact ⟨a, vs, rfl, sqt_of ha, k H1 L1 t1 R1 _ (wk_of (walk_u (xs := vs)) (by rw [enumD_length, da.length]) (fun L2 H2 t => sqt_keep ha t) fun Fb' L2 H2 m fr i d x H3 hd y => en_dn fr hd y (da.mv m))⟩
    · cases h1
  · rename_i c fs e1 hd
    cases g
    exact (pi_enum hg hm ha.pa hs).run pins s σ H R I ⟨Wp, Fb, L, env, _, R0, hd, k⟩⟩⟩
end
end PD
namespace PD
open PySem PySem.Spec PyProof.Rows L2
/-! ### targets -/
inductive Tg where
  | one (i : Nat)
  | tup (is : List Nat)
def Tg.is : Tg → List Nat
  | .one i => [i]
  | .tup is => is
def gsOf : List Nat → TGs
  | [] => gNil
  | i :: is => L2.gCons (gName i) (gsOf is)
def gTG (K : Fr0) : Tg → TG
  | .one i => gName i
  | .tup is => fun v σ H Q => L2.gTup K is.length (gsOf is) v σ H Q ∨ L2.gLst K is.length (gsOf is) v σ H Q
def setIm (env : En) (i : Nat) (d : D) : Option En := match env[i]? with
  | some (.mu true _) => none
  | some _ => some (env.set i (.im d))
  | none => none
def setIms : En → List Nat → List D → Option En
  | env, [], [] => some env
  | env, i :: is, d :: ds => (setIm env i d).bind fun e => setIms e is ds
  | _, _, _ => none
def tTG : Tg → D → En → Option En
  | .one i, d, env => setIm env i d
  | .tup is, .tuple ds, env => setIms env is ds
  | .tup is, .list ds, env => setIms env is ds
  | .tup _, _, _ => none
def sets : L2.St → List Nat → List V → L2.St
  | σ, i :: is, v :: vs => sets (σ.set i (some v)) is vs
  | σ, _, _ => σ
section
variable {K : Fr0} {Wp σ : L2.St} {Fb L : AS} {H : Hp} {env env' : En}
theorem ER.put (R : ER K Wp Fb L H σ env) {i : Nat} {x : Option V} {s : Sl} (hi : ∀ ds, env[i]? ≠ some (.mu true ds)) (h : (∃ v d, x = some v ∧ s = .im d ∧ Dn K (U L Fb) H v d) ∨ s = .no) : ER K Wp Fb L H (σ.set i x) (env.set i s) := by
  have nmu : ∀ b es, s ≠ .mu b es := fun b es z => by
    rcases h with ⟨v, d, _, e, _⟩ | e
    · rw [e] at z; cases z
    · rw [e] at z; cases z
  refine ⟨by simpa using R.len, R.trk, R.dis, fun j t e => ?_, fun j k b c ds es a ne e1 e2 e3 => ?_⟩
  · by_cases hj : i = j
    · subst hj
      have hlt : i < env.length := by
        have := (List.getElem?_eq_some_iff.mp e).1
        simpa using this
      rw [List.getElem?_set_self hlt] at e
      cases e
      rcases h with ⟨v, d, rfl, rfl, dn⟩ | rfl
      · exact ⟨v, List.getElem?_set_self (by rw [← R.len]; exact hlt), dn⟩
      · trivial
    · rw [List.getElem?_set_ne hj] at e
      rw [List.getElem?_set_ne hj]
      exact R.sl j t e
  · by_cases hj : i = j
    · subst hj
      have hlt : i < env.length := by
        have := (List.getElem?_eq_some_iff.mp e1).1
        simpa using this
      rw [List.getElem?_set_self hlt] at e1
      exact (nmu _ _ (Option.some.inj e1)).elim
    · by_cases hk : i = k
      · subst hk
        have hlt : i < env.length := by
          have := (List.getElem?_eq_some_iff.mp e2).1
          simpa using this
        rw [List.getElem?_set_self hlt] at e2
        exact (nmu _ _ (Option.some.inj e2)).elim
      · rw [List.getElem?_set_ne hj] at e1 e3
        rw [List.getElem?_set_ne hk] at e2 ⊢
        exact R.apart j k b c ds es a ne e1 e2 e3
theorem ER.setIm (R : ER K Wp Fb L H σ env) {i : Nat} {v : V} {d : D} (hv : Dn K (U L Fb) H v d) (h : PD.setIm env i d = some env') : ER K Wp Fb L H (σ.set i (some v)) env' := by
  unfold PD.setIm at h
  split at h
  · cases h
  · rename_i s hs e
    cases h
    exact R.put (fun ds z => hs ds (by rw [e] at z; exact Option.some.inj z)) (.inl ⟨v, d, rfl, rfl, hv⟩)
  · cases h
theorem ER.setIms : ∀ {is : List Nat} {ds : List D} {vs : List V} {σ : L2.St} {env env' : En}, ER K Wp Fb L H σ env → DnA K (U L Fb) H vs ds → PD.setIms env is ds = some env' → vs.length = is.length ∧ ER K Wp Fb L H (sets σ is vs) env'
  | [], [], vs, σ, env, env', R, hv, h => by
    cases hv
    cases h
    exact ⟨rfl, R⟩
  | i :: is, d :: ds, vs, σ, env, env', R, hv, h => by
    cases hv with
    | cons a b =>
      obtain ⟨e1, h1, h2⟩ := Option.bind_eq_some_iff.mp h
      obtain ⟨hl, R'⟩ := ER.setIms (R.setIm a h1) b h2
      exact ⟨by simp [hl], R'⟩
  | [], _ :: _, _, _, _, _, _, _, h => by cases h
  | _ :: _, [], _, _, _, _, _, _, h => by cases h
theorem gsOf_read : ∀ {is : List Nat} {vs : List V} {σ : L2.St} {H : Hp} {Q : L2.St → Hp → Prop}, vs.length = is.length → Q (sets σ is vs) H → gsOf is vs σ H Q
  | [], [], _, _, _, _, q => ⟨rfl, q⟩
  | i :: is, v :: vs, σ, H, Q, hl, q => ⟨v, vs, rfl, gsOf_read (is := is) (by simpa using hl) q⟩
  | [], _ :: _, _, _, _, hl, _ => by simp at hl
  | _ :: _, [], _, _, _, hl, _ => by simp at hl
theorem gTG_read {t : Tg} {v : V} {d : D} {Q : L2.St → Hp → Prop} (R : ER K Wp Fb L H σ env) (hv : Dn K (U L Fb) H v d) (h : tTG t d env = some env') (k : ∀ vals : List V, vals.length = t.is.length → ER K Wp Fb L H (sets σ t.is vals) env' → Q (sets σ t.is vals) H) : gTG K t v σ H Q := by
  cases t with
  | one i => exact k [v] rfl (R.setIm hv h)
  | tup is =>
    cases d <;> simp only [tTG] at h <;> first | cases h | skip
    · obtain ⟨a, vs, rfl, na, ha, da⟩ := hv.lstInv
      obtain ⟨hl, R'⟩ := ER.setIms R da h
      exact .inr ⟨a, vs, rfl, SqL.of ha, hl, gsOf_read hl (k vs hl R')⟩
    · obtain ⟨a, vs, rfl, ha, da⟩ := hv.tupInv
      obtain ⟨hl, R'⟩ := ER.setIms R da h
      exact .inl ⟨a, vs, rfl, ha, hl, gsOf_read hl (k vs hl R')⟩
theorem pg_tl {X : Cx} {es : List Expr} {k : Nat} {pos : Pos} {is : List Nat} (hc : X.calm = true) (h : PGs X es (gsOf is)) (h1 : (assignEach es X.env).length = is.length := by rfl) (h2 : List.findIdx? (fun x => x.fst) (assignEach es X.env) = none := by rfl) : PG X (.Tuple es k pos) (gTG X.K (.tup is)) :=
  ⟨fun pins s σ H v u Q I r q => q.elim (fun q => (pg_tup hc h h1 h2).run pins s σ H v u Q I r q) fun q => (pg_lst hc h h1 h2).run pins s σ H v u Q I r q⟩
/-! ### the slots of a block forgotten -/
def wipeE (env : En) : List Nat → En
  | [] => env
  | v :: vs => (wipeE env vs).set v .no
def noMu (env : En) (vs : List Nat) : Bool := vs.all fun i => match env[i]? with
  | some (.mu _ _) => false
  | some _ => true
  | none => false
theorem wipeE_mu {b : Bool} {ds : List D} {i : Nat} : ∀ {vs : List Nat}, (wipeE env vs)[i]? = some (.mu b ds) → env[i]? = some (.mu b ds)
  | [], h => h
  | v :: vs, h => by
    unfold wipeE at h
    by_cases hv : v = i
    · subst hv
      by_cases hl : v < (wipeE env vs).length
      · rw [List.getElem?_set_self hl] at h; cases h
      · rw [List.getElem?_eq_none (by simpa using hl)] at h; cases h
    · rw [List.getElem?_set_ne hv] at h
      exact wipeE_mu h
/-- whatever stands in these slots -/
theorem ER.wipe1 (R : ER K Wp Fb L H σ env) {i : Nat} : ER K Wp Fb L H (σ.set i none) (env.set i .no) := by
  refine ⟨by simpa using R.len, R.trk, R.dis, fun j t e => ?_, fun j k b c ds es a ne e1 e2 e3 => ?_⟩
  · by_cases hj : i = j
    · subst hj
      have hlt : i < env.length := by
        have := (List.getElem?_eq_some_iff.mp e).1
        simpa using this
      rw [List.getElem?_set_self hlt] at e
      cases e
      trivial
    · rw [List.getElem?_set_ne hj] at e
      rw [List.getElem?_set_ne hj]
      exact R.sl j t e
  · by_cases hj : i = j
    · subst hj
      have hlt : i < env.length := by
        have := (List.getElem?_eq_some_iff.mp e1).1
        simpa using this
      rw [List.getElem?_set_self hlt] at e1
      cases e1
    · by_cases hk : i = k
      · subst hk
        have hlt : i < env.length := by
          have := (List.getElem?_eq_some_iff.mp e2).1
          simpa using this
        rw [List.getElem?_set_self hlt] at e2
        cases e2
      · rw [List.getElem?_set_ne hj] at e1 e3
        rw [List.getElem?_set_ne hk] at e2 ⊢
        exact R.apart j k b c ds es a ne e1 e2 e3
theorem ER.wipe (R : ER K Wp Fb L H σ env) : ∀ vs : List Nat, ER K Wp Fb L H (L2.wipe σ vs) (wipeE env vs)
  | [] => R
  | v :: vs => (ER.wipe R vs).wipe1
theorem wipe_set {x : Option V} {i : Nat} : ∀ {vs : List Nat} {σ : L2.St}, i ∈ vs → L2.wipe (σ.set i x) vs = L2.wipe σ vs
  | [], σ, h => by simp at h
  | v :: vs, σ, h => by
    show (L2.wipe (σ.set i x) vs).set v none = (L2.wipe σ vs).set v none
    by_cases hi : i ∈ vs
    · rw [wipe_set hi]
    · have e : i = v := by
        rcases List.mem_cons.mp h with z | z
        · exact z
        · exact (hi z).elim
      subst e
      have c : ∀ vs : List Nat, i ∉ vs → L2.wipe (σ.set i x) vs = (L2.wipe σ vs).set i x := by
        intro vs
        induction vs with
        | nil => intro _; rfl
        | cons u us ih =>
          intro hn
          show (L2.wipe (σ.set i x) us).set u none = ((L2.wipe σ us).set u none).set i x
          rw [ih fun z => hn (List.mem_cons_of_mem _ z), List.set_comm]
          exact fun z => hn (by rw [z]; exact List.mem_cons_self)
      rw [c vs hi, List.set_set]
theorem wipe_sets : ∀ {is : List Nat} {xs : List V} {vs : List Nat} {σ : L2.St}, (∀ i ∈ is, i ∈ vs) → L2.wipe (sets σ is xs) vs = L2.wipe σ vs
  | [], _, _, _, _ => by cases ‹List V› <;> rfl
  | i :: is, [], _, _, _ => rfl
  | i :: is, x :: xs, vs, σ, h => by
    show L2.wipe (sets (σ.set i (some x)) is xs) vs = _
    rw [wipe_sets fun j hj => h j (List.mem_cons_of_mem _ hj), wipe_set (h i List.mem_cons_self)]
theorem wipe_wipe : ∀ {vs us : List Nat} {σ : L2.St}, (∀ v ∈ us, v ∈ vs) → L2.wipe (L2.wipe σ us) vs = L2.wipe σ vs
  | vs, [], σ, _ => rfl
  | vs, u :: us, σ, h => by
    show L2.wipe ((L2.wipe σ us).set u none) vs = _
    rw [wipe_set (h u List.mem_cons_self), wipe_wipe fun v hv => h v (List.mem_cons_of_mem _ hv)]
/-- the slots as they were, the others as they are -/
def back (env e : En) : List Nat → En
  | [] => e
  | v :: vs => (back env e vs).set v (env.getD v .no)
theorem back_length {e : En} : ∀ vs : List Nat, (back env e vs).length = e.length
  | [] => rfl
  | v :: vs => by
    unfold back
    rw [List.length_set, back_length vs]
theorem back_get {e : En} {i : Nat} {s : Sl} : ∀ {vs : List Nat}, (back env e vs)[i]? = some s → (i ∈ vs ∧ s = env.getD i .no) ∨ (i ∉ vs ∧ e[i]? = some s)
  | [], h => .inr ⟨by simp, h⟩
  | v :: vs, h => by
    unfold back at h
    by_cases hv : v = i
    · subst hv
      by_cases hl : v < (back env e vs).length
      · rw [List.getElem?_set_self hl] at h
        exact .inl ⟨List.mem_cons_self, (Option.some.inj h).symm⟩
      · rw [List.getElem?_eq_none (by simpa using hl)] at h; cases h
    · rw [List.getElem?_set_ne hv] at h
      rcases back_get h with ⟨a, b⟩ | ⟨a, b⟩
      · exact .inl ⟨List.mem_cons_of_mem _ a, b⟩
      · exact .inr ⟨fun z => (List.mem_cons.mp z).elim (fun w => hv w.symm) a, b⟩
end
end PD
namespace PD
open PySem PySem.Spec PyProof.Rows L2
abbrev W0 : WX := fun _ _ _ _ => False
structure PDTs (X : Cx) (W : WX) (ifs : List Expr) (G : GT) : Prop where
  pts : PTs X ifs (tT X W G)
section
variable {X : Cx} {W : WX}
theorem PTs.wk {ifs : List Expr} {t t' : TT} (h : PTs X ifs t) (w : ∀ σ H Q, t' σ H Q → t σ H Q) : PTs X ifs t' := ⟨fun pins s σ H Q I q => h.run pins s σ H Q I (w σ H Q q)⟩
theorem pdts_nil : PDTs X W [] (gP true) := ⟨PTs.wk pts_nil fun σ H Q q => by
  obtain ⟨Wp, Fb, L, env, r, R, g, k⟩ := q
  cases gP_some g
  exact k H L (Tr.refl H L) R true rfl⟩
theorem pdts_one {c : Expr} {G : GT} (h : PDT X W c G) : PDTs X W [c] G := ⟨pts_one h.pt⟩
/-- the turns of a comprehension: what is in hand, what is made so far -/
def lcLoop (t : Tg) (Gt : GT) (Ge : GE) (vs : List Nat) : List D → List D → En → Option (List D × En)
  | [], acc, e => some (acc, e)
  | d :: ds, acc, e => match tTG t d e with
    | none => none
    | some e1 => match Gt e1 with
      | some (.ok true e2) => match Ge e2 with
        | some (.ok v e3) => if acc.length < 100000 then lcLoop t Gt Ge vs ds (acc ++ [v]) (wipeE e3 vs) else none
        | _ => none
      | some (.ok false e2) => lcLoop t Gt Ge vs ds acc (wipeE e2 vs)
      | _ => none
def gLc (Gi : GA) (t : Tg) (Gt : GT) (Ge : GE) (vs : List Nat) : GA := gB Gi fun items env => if noMu env vs = true then (lcLoop t Gt Ge vs items [] (wipeE env vs)).map fun p => .ok p.1 (back env p.2 vs) else none
/-- D stands apart from now on -/
theorem ER.guard {K : Fr0} {Wp σ : L2.St} {Fb L : AS} {H : Hp} {env : En} (R : ER K Wp Fb L H σ env) {p : Addr} {o : HO} (hp : H p = none) : ER K Wp (fun a => Fb a ∨ a = p) L (upd H p o) σ env where
  len := R.len
  trk := fun a h => by
    by_cases ha : a = p
    · subst ha; exact ⟨o, upd_same⟩
    · obtain ⟨u, e⟩ := R.trk a (h.elim .inl fun z => z.elim .inr fun w => (ha w).elim)
      exact ⟨u, by rw [upd_ne ha]; exact e⟩
  dis := fun a l z => z.elim (R.dis a l) fun w => by
    subst w
    exact R.free hp (.inl l)
  sl := fun i s e => by
    have m : Mv (U L Fb) H (U L fun a => Fb a ∨ a = p) (upd H p o) := fun a u n e _ => by
      have ne := ne_of_none e hp
      exact ⟨fun z => n (z.elim .inl fun z => z.elim .inr fun w => (ne w).elim), by rw [upd_ne ne]; exact e⟩
    have q := R.sl i s e
    cases s with
    | no => trivial
    | im d => obtain ⟨v, e1, h⟩ := q; exact ⟨v, e1, h.mv m⟩
    | mu b ds =>
      obtain ⟨a, vs, e1, l, h1, h2, w⟩ := q
      exact ⟨a, vs, e1, l, by rw [upd_ne (ne_of_none h1 hp)]; exact h1, h2.mv m, w⟩
  apart := R.apart
/-- D is written, what stands apart of it stays -/
theorem ER.write {K : Fr0} {Wp σ : L2.St} {Fb L : AS} {H : Hp} {env : En} (R : ER K Wp Fb L H σ env) {p : Addr} {o u : HO} (hp : Fb p) (ho : H p = some o) : ER K Wp Fb L (upd H p u) σ env ∧ Mv (U L Fb) H (U L Fb) (upd H p u) := by
  have m : Mv (U L Fb) H (U L Fb) (upd H p u) := fun a w n e _ => by
    have ne : a ≠ p := fun z => n (by subst z; exact .inr hp)
    exact ⟨n, by rw [upd_ne ne]; exact e⟩
  refine ⟨⟨R.len, fun a h => ?_, R.dis, fun i s e => ?_, R.apart⟩, m⟩
  · by_cases ha : a = p
    · subst ha; exact ⟨u, upd_same⟩
    · obtain ⟨w, e⟩ := R.trk a h
      exact ⟨w, by rw [upd_ne ha]; exact e⟩
  · have q := R.sl i s e
    cases s with
    | no => trivial
    | im d => obtain ⟨v, e1, h⟩ := q; exact ⟨v, e1, h.mv m⟩
    | mu b ds =>
      obtain ⟨a, vs, e1, l, h1, h2, w⟩ := q
      have ne : a ≠ p := fun z => R.dis a l (by subst z; exact hp)
      exact ⟨a, vs, e1, l, by rw [upd_ne ne]; exact h1, h2.mv m, w⟩
/-- behind the block -/
theorem ER.back {K : Fr0} {Wp σ : L2.St} {Fb L L' : AS} {H H' : Hp} {env e : En} {p : Addr} {vs : List Nat} (R : ER K Wp Fb L H σ env) (R' : ER K Wp (fun a => Fb a ∨ a = p) L' H' (L2.wipe σ vs) e) (t : Tr H L H' L') (hp : H p = none) (nm : noMu env vs = true) :
    ER K Wp Fb (fun a => L' a ∨ a = p) H' σ (PD.back env e vs) := by
  have lw : (L2.wipe σ vs).length = σ.length := wipe_length σ vs
  have outV : ∀ {i : Nat}, i ∉ vs → (L2.wipe σ vs)[i]? = σ[i]? := fun h => wipe_out h
  have nmu : ∀ {i : Nat}, i ∈ vs → ∀ b ds, env.getD i .no ≠ .mu b ds := fun {i} h b ds z => by
    have q := List.all_eq_true.mp nm i h
    rw [List.getD_eq_getElem?_getD] at z
    cases he : env[i]? with
    | none => rw [he] at z; cases z
    | some s =>
      rw [he] at z q
      cases (show s = .mu b ds from z)
      cases q
  have m : Mv (U L Fb) H (U (fun a => L' a ∨ a = p) Fb) H' := fun a o n e _ => by
    obtain ⟨e1, n1⟩ := t a o e fun z => n (.inl z)
    exact ⟨fun z => z.elim (fun z => z.elim n1 (ne_of_none e hp)) fun z => n (.inr z), e1⟩
  have m' : Mv (U L' fun a => Fb a ∨ a = p) H' (U (fun a => L' a ∨ a = p) Fb) H' := fun a o n e _ => ⟨fun z => n (z.elim (fun z => z.elim .inl fun w => .inr (.inr w)) fun z => .inr (.inl z)), e⟩
  refine ⟨by rw [back_length, R'.len, lw], fun a h => R'.trk a (h.elim (fun z => z.elim .inl fun w => .inr (.inr w)) fun z => .inr (.inl z)), fun a h z => ?_, fun i s e1 => ?_, fun j k b c ds es a ne e1 e2 e3 => ?_⟩
  · rcases h with h | h
    · exact R'.dis a h (.inl z)
    · subst h
      exact R.free hp (.inr z)
  · rcases back_get e1 with ⟨hi, rfl⟩ | ⟨hi, h1⟩
    · cases he : env[i]? with
      | none =>
        rw [List.getD_eq_getElem?_getD, he]
        trivial
      | some s0 =>
        have q := R.sl i s0 he
        have es : env.getD i .no = s0 := by rw [List.getD_eq_getElem?_getD, he]; rfl
        rw [es]
        cases s0 with
        | no => trivial
        | im d => obtain ⟨v, e2, h⟩ := q; exact ⟨v, e2, h.mv m⟩
        | mu b ds => exact (nmu hi b ds es).elim
    · have q := R'.sl i s h1
      rw [outV hi] at q
      cases s with
      | no => trivial
      | im d => obtain ⟨v, e2, h⟩ := q; exact ⟨v, e2, h.mv m'⟩
      | mu b ds => obtain ⟨a, ws, e2, l, h2, h3, w⟩ := q; exact ⟨a, ws, e2, .inl l, h2, h3.mv m', w⟩
  · rcases back_get e1 with ⟨hi, z⟩ | ⟨hi, h1⟩
    · exact (nmu hi _ _ z.symm).elim
    · rcases back_get e2 with ⟨hk, z⟩ | ⟨hk, h2⟩
      · exact (nmu hk _ _ z.symm).elim
      · have q := R'.apart j k b c ds es a ne h1 h2
        rw [outV hi, outV hk] at q
        exact q e3
theorem back_mu {env e : En} {vs : List Nat} {i : Nat} {b : Bool} {ds : List D} (nm : noMu env vs = true) (h : (PD.back env e vs)[i]? = some (.mu b ds)) : i ∉ vs ∧ e[i]? = some (.mu b ds) := by
  rcases back_get h with ⟨hi, z⟩ | h
  · exfalso
    have q := List.all_eq_true.mp nm i hi
    rw [List.getD_eq_getElem?_getD] at z
    cases he : env[i]? with
    | none => rw [he] at z; cases z
    | some s =>
      rw [he] at z q
      cases (show Sl.mu b ds = s from z)
      cases q
  · exact h
/-- the reading of a comprehension -/
theorem lc_read {Gi : GA} {t : Tg} {Gt : GT} {Ge : GE} {vs : List Nat} {σ : L2.St} {H : Hp} {Q : VK} (sub : ∀ i ∈ t.is, i ∈ vs) (q : tF X W (gLc Gi t Gt Ge vs) σ H Q) : tLc (tI X W Gi) (gTG X.K t) (tT X W0 Gt) (tD X W0 Ge) vs σ H Q := by
  obtain ⟨Wp, Fb, L, env, r, R, g, k⟩ := q
  unfold gLc gB at g
  split at g
  · cases g
  rotate_left
  · rename_i c fs e hg
    cases g
    exact ⟨Wp, Fb, L, env, _, R, hg, k⟩
  rename_i items e0 hg
  dsimp only at g
  split at g
  rotate_left
  · cases g
  rename_i nm
  obtain ⟨pf, hl, rfl⟩ := Option.map_eq_some_iff.mp g
  refine ⟨Wp, Fb, L, env, _, R, hg, fun H1 L1 t1 R1 J wk D hD => ?_⟩
  -- what holds between two turns
  refine ⟨fun i m H' => m = items.length - i ∧ i ≤ items.length ∧ ∃ (L' : AS) (acc : List PyData) (e : En) (ws : List V), lcLoop t Gt Ge vs (items.drop i) acc e = some pf ∧ Tr H1 L1 H' L' ∧ ER X.K Wp (fun a => Fb a ∨ a = D) L' H' (L2.wipe σ vs) e ∧ H' D = some (.lst ws) ∧ DnA X.K (U L' fun a => Fb a ∨ a = D) H' ws acc,
    ⟨_, rfl, Nat.zero_le _, L1, [], wipeE e0 vs, [], hl, Tr.new hD, (R1.guard hD).wipe vs, upd_same, .nil⟩, ?_⟩
  rintro i m H' ⟨rfl, hi, L', acc, e, ws, hl', t', R', hDs, dn⟩
  have nb : ∀ a, (Fb a ∨ a = D) → Fb a ∨ H1 a = none := fun a h => h.imp id fun z => by subst z; exact hD
  obtain ⟨go, stop⟩ := wk _ L' H' nb t' R'.trk
  by_cases hlt : i < items.length
  · refine .inr ?_
    have hd : items[i]? = some items[i] := by simp [hlt]
    obtain ⟨g1, g2⟩ := go i _ hd
    have edrop : items.drop i = items[i] :: items.drop (i + 1) := List.drop_eq_getElem_cons hlt
    rw [edrop] at hl'
    unfold lcLoop at hl'
    refine ⟨g1, fun H'' => ∃ (L' : AS) (acc : List PyData) (e : En) (ws : List V), lcLoop t Gt Ge vs (items.drop (i + 1)) acc e = some pf ∧ Tr H1 L1 H'' L' ∧ ER X.K Wp (fun a => Fb a ∨ a = D) L' H'' (L2.wipe σ vs) e ∧ H'' D = some (.lst ws) ∧ DnA X.K (U L' fun a => Fb a ∨ a = D) H'' ws acc,
      fun H'' z => ⟨items.length - (i + 1), by omega, rfl, hlt, z⟩, fun x H3 y => ?_⟩
    obtain ⟨gr, dx⟩ := g2 x H3 y
    have R3 := R'.grow gr
    split at hl'
    · cases hl'
    rename_i e1 he1
    refine gTG_read R3 dx he1 fun vals hvl R4 => ⟨by rw [wipe_sets sub, wipe_wipe fun _ h => h], ?_⟩
    have wp2 : L2.wipe (sets (L2.wipe σ vs) t.is vals) vs = L2.wipe σ vs := by rw [wipe_sets sub, wipe_wipe fun _ h => h]
    have t3 : Tr H1 L1 H3 L' := t'.trans (grow_tr gr)
    split at hl'
    · -- kept
      rename_i e2 ht
      refine ⟨Wp, _, L', e1, _, R4, ht, fun H5 L5 t5 R5 b hb => ?_⟩
      subst hb
      show tD X W0 Ge (sets (L2.wipe σ vs) t.is vals) H5 _
      split at hl'
      rotate_left
      · cases hl'
      rename_i v e3 hv
      split at hl'
      rotate_left
      · cases hl'
      rename_i hsz
      refine ⟨Wp, _, L5, e2, _, R5, hv, fun H6 L6 t6 R6 y hy => ?_⟩
      have hD6 : H6 D = some (.lst ws) := by
        have n1 : ¬ L' D := fun z => R'.dis D z (.inr rfl)
        have a1 := t5 D _ (gr D _ hDs) n1
        exact (t6 D _ a1.1 a1.2).1
      have tt := t5.trans t6
      obtain ⟨R7, m7⟩ := R6.write (u := .lst (ws ++ [y])) (.inr rfl) hD6
      have dn6 := (dn.mv (mv_grow gr)).mv tt.mv
      refine ⟨ws, hD6, Nat.lt_of_lt_of_le (by rw [dn.length]; exact hsz) (by decide), L6, acc ++ [v], wipeE e3 vs, ws ++ [y], hl', fun a o ea na => ?_, ?_, upd_same, (dn6.app (.cons hy .nil)).mv m7⟩
      · obtain ⟨b1, b2⟩ := t3.trans tt a o ea na
        have ne : a ≠ D := ne_of_none ea hD
        exact ⟨by rw [upd_ne ne]; exact b1, b2⟩
      · have R8 := R7.wipe vs
        rw [wp2] at R8
        exact R8
    · rename_i e2 ht
      refine ⟨Wp, _, L', e1, _, R4, ht, fun H5 L5 t5 R5 b hb => ?_⟩
      subst hb
      show ∃ (L' : AS) (acc : List PyData) (e : En) (ws : List V), _
      have hD5 : H5 D = some (.lst ws) := (t5 D _ (gr D _ hDs) fun z => R'.dis D z (.inr rfl)).1
      have R8 := R5.wipe vs
      rw [wp2] at R8
      exact ⟨L5, acc, wipeE e2 vs, ws, hl', t3.trans t5, R8, hD5, (dn.mv (mv_grow gr)).mv t5.mv⟩
    · cases hl'
  · have ei : i = items.length := by omega
    subst ei
    refine .inl ⟨stop, ?_⟩
    rw [List.drop_length] at hl'
    unfold lcLoop at hl'
    cases hl'
    have RB := R1.back R' t' hD nm
    refine k D ws H' (fun a => L' a ∨ a = D) (t1.trans fun a o ea na => ⟨(t' a o ea na).1, fun z => z.elim (t' a o ea na).2 (ne_of_none ea hD)⟩) (.inr rfl) RB hDs (dn.mv fun a o n e _ => ⟨fun z => n (z.elim (fun z => z.elim .inl fun w => .inr (.inr w)) fun z => .inr (.inl z)), e⟩) fun j b es e1 e2 => ?_
    obtain ⟨hj, h1⟩ := back_mu nm e1
    obtain ⟨a, ws', e3, l, _⟩ := R'.sl j _ h1
    rw [wipe_out hj, e2] at e3
    cases e3
    exact R'.dis D l (.inr rfl)
section
variable {elt tg iter : Expr} {ifs : List Expr} {scope : Scope} {own : List (Str × Nat)} {pos : Pos} {Gi : GA} {t : Tg} {Gt : GT} {Ge : GE}
theorem pdf_lc (hc : X.calm = true) (hN : X.N.Nodup) (hi : PDI X W tg iter Gi) (ok : BlkOk X.N X.env.scope scope own)
    (hg : ∀ (s : Shared) (H : Hp) (C : Addr) (cl : List (Str × Addr)) (fp : List Addr), PG (X.blk s H scope (compEnvC scope cl C X.env) fp) tg (gTG X.K t)) (ht : ∀ (s : Shared) (H : Hp) (C : Addr) (cl : List (Str × Addr)) (fp : List Addr), PDTs (X.blk s H scope (compEnvC scope cl C X.env) fp) W0 ifs Gt)
    (he : ∀ (s : Shared) (H : Hp) (C : Addr) (cl : List (Str × Addr)) (fp : List Addr), PD (X.blk s H scope (compEnvC scope cl C X.env) fp) W0 elt Ge) (sub : ∀ i ∈ t.is, i ∈ own.map (·.2)) (hs : ∀ x, foldedSetIterable iter X.env x = pure x := by intro _; rfl) :
    PDF X W (.ListComp elt [⟨tg, iter, ifs, 0⟩] scope pos) (gLc Gi t Gt Ge (own.map (·.2))) :=
  ⟨PE.wk (pe_lc hc hN hi.pi ok hg (fun s H C cl fp => (ht s H C cl fp).pts) (fun s H C cl fp => (he s H C cl fp).pe) hs) fun σ H Q q => lc_read sub q⟩
end
end
end PD
namespace PD
open PySem PySem.Spec PyProof.Rows L2
/-! ### statements -/
inductive Fl where
  | nx (e : En) | rt (d : D) (e : En) | bk (e : En) | ct (e : En) | ex (c : Str) (fs : List (Str × D)) (e : En)
abbrev Gs := En → Option Fl
def Fo (X : Cx) (W : WX) (Wp : L2.St) (Fb : AS) (H : Hp) (L : AS) (D : Ends) : Fl → Prop
  | .nx e => ∀ σ' H' L', Tr H L H' L' → ER X.K Wp Fb L' H' σ' e → D.nx σ' H'
  | .rt d e => ∀ v σ' H' L', Tr H L H' L' → ER X.K Wp Fb L' H' σ' e → Dn X.K (U L' Fb) H' v d → D.rt v H'
  | .bk e => ∀ σ' H' L', Tr H L H' L' → ER X.K Wp Fb L' H' σ' e → D.bk σ' H'
  | .ct e => ∀ σ' H' L', Tr H L H' L' → ER X.K Wp Fb L' H' σ' e → D.ct σ' H'
  | .ex c fs e => ∀ cls dd σ' H' L', Tr H L H' L' → ER X.K Wp Fb L' H' σ' e → ExIs X.K X.mg (U L' Fb) H' c fs cls dd → W cls dd σ' H'
theorem Fo.from {X : Cx} {W : WX} {Wp : L2.St} {Fb : AS} {H H1 : Hp} {L L1 : AS} {D : Ends} {r : Fl} (k : Fo X W Wp Fb H L D r) (t : Tr H L H1 L1) : Fo X W Wp Fb H1 L1 D r := by
  cases r with
  | nx e => exact fun σ' H' L' t' R => k σ' H' L' (t.trans t') R
  | rt d e => exact fun v σ' H' L' t' R h => k v σ' H' L' (t.trans t') R h
  | bk e => exact fun σ' H' L' t' R => k σ' H' L' (t.trans t') R
  | ct e => exact fun σ' H' L' t' R => k σ' H' L' (t.trans t') R
  | ex c fs e => exact fun cls dd σ' H' L' t' R x => k cls dd σ' H' L' (t.trans t') R x
def tS (X : Cx) (W : WX) (B : Gs) : TS := fun D σ H => ∃ (Wp : L2.St) (Fb L : AS) (env : En) (r : Fl), ER X.K Wp Fb L H σ env ∧ B env = some r ∧ Fo X W Wp Fb H L D r
structure PDS (X : Cx) (W : WX) (st : Stmt) (B : Gs) : Prop where
  ps : PS X st (tS X W B)
structure PDSs (X : Cx) (W : WX) (st : List Stmt) (B : Gs) : Prop where
  pss : PSs X st (tS X W B)
section
variable {X : Cx} {W : WX}
def gSkip : Gs := fun env => some (.nx env)
def gSeq (B1 B2 : Gs) : Gs := fun env => match B1 env with
  | some (.nx e) => B2 e
  | r => r
theorem pdss_nil : PDSs X W [] gSkip := ⟨PSs.wk pss_nil fun D σ H q => by
  obtain ⟨Wp, Fb, L, env, r, R, g, k⟩ := q
  cases g
  exact k σ H L (Tr.refl H L) R⟩
theorem tS.seq {B1 B2 : Gs} {D : Ends} {σ : L2.St} {H : Hp} (q : tS X W (gSeq B1 B2) D σ H) : tS X W B1 { D with nx := tS X W B2 D } σ H := by
  obtain ⟨Wp, Fb, L, env, r, R, g, k⟩ := q
  unfold gSeq at g
  split at g
  · rename_i e he
    exact ⟨Wp, Fb, L, env, _, R, he, fun σ' H' L' t R' => ⟨Wp, Fb, L', e, r, R', g, k.from t⟩⟩
  · rename_i hn
    refine ⟨Wp, Fb, L, env, r, R, g, ?_⟩
    cases r with
    | nx e => exact (hn e g).elim
    | rt d e => exact k
    | bk e => exact k
    | ct e => exact k
    | ex c fs e => exact k
theorem pdss_cons {st : Stmt} {rest : List Stmt} {B1 B2 : Gs} (h1 : PDS X W st B1) (h2 : PDSs X W rest B2) : PDSs X W (st :: rest) (gSeq B1 B2) := ⟨PSs.wk (pss_cons h1.ps h2.pss) fun D σ H q => tS.seq q⟩
/-- a step of an expression, then the statement's end -/
def gS {α : Type} (g : Gm α) (f : α → Gs) : Gs := fun env => match g env with
  | none => none
  | some (.ok a e) => f a e
  | some (.ex c fs e) => some (.ex c fs e)
theorem tS.after {α β : Type} {ρ : Rel α β} {g : Gm α} {f : α → Gs} {D : Ends} {σ : L2.St} {H : Hp} (q : tS X W (gS g f) D σ H) : tG ρ X W g σ H fun b H1 => ∃ (a : α) (Wp : L2.St) (Fb L : AS) (env : En) (r : Fl), ρ a b (U L Fb) H1 ∧ ER X.K Wp Fb L H1 σ env ∧ f a env = some r ∧ Fo X W Wp Fb H1 L D r := by
  obtain ⟨Wp, Fb, L, env, r, R, h, k⟩ := q
  unfold gS at h
  split at h
  · cases h
  · rename_i a e hg
    exact ⟨Wp, Fb, L, env, _, R, hg, fun H1 L1 t R1 b hb => ⟨a, Wp, Fb, L1, e, r, hb, R1, h, k.from t⟩⟩
  · rename_i c fs e hg
    cases h
    exact ⟨Wp, Fb, L, env, _, R, hg, fun cls dd H' L' t R' x => k cls dd σ H' L' t R' x⟩
theorem tS.afterF {g : GA} {f : List PyData → Gs} {D : Ends} {σ : L2.St} {H : Hp} (q : tS X W (gS g f) D σ H) : tF X W g σ H fun b H1 => ∃ (ds : List PyData) (a : Addr) (vs : List V) (Wp : L2.St) (Fb L : AS) (env : En) (r : Fl), b = .ref a ∧ L a ∧ H1 a = some (.lst vs) ∧ DnA X.K (U L Fb) H1 vs ds ∧
    (∀ (j : Nat) (b : Bool) (es : List PyData), env[j]? = some (.mu b es) → σ[j]? ≠ some (some (.ref a))) ∧ ER X.K Wp Fb L H1 σ env ∧ f ds env = some r ∧ Fo X W Wp Fb H1 L D r := by
  obtain ⟨Wp, Fb, L, env, r, R, h, k⟩ := q
  unfold gS at h
  split at h
  · cases h
  · rename_i a e hg
    exact ⟨Wp, Fb, L, env, _, R, hg, fun p vs H1 L1 t la R1 hp hd ap => ⟨a, p, vs, Wp, Fb, L1, e, r, rfl, la, hp, hd, ap, R1, h, k.from t⟩⟩
  · rename_i c fs e hg
    cases h
    exact ⟨Wp, Fb, L, env, _, R, hg, fun cls dd H' L' t R' x => k cls dd σ H' L' t R' x⟩
def gRet (G : GE) : Gs := gS G fun d env => some (.rt d env)
theorem pds_ret {e : Expr} {G : GE} {pos : Pos} (h : PD X W e G) : PDS X W (.Return (some e) pos) (gRet G) := ⟨PS.wk (ps_ret h.pe) fun D σ H q => (tS.after (ρ := ρD X.K) q).mono fun v H1 z => by
  obtain ⟨d, Wp, Fb, L, env, r, hv, R, g, k⟩ := z
  cases g
  exact k v σ H1 L (Tr.refl H1 L) R hv⟩
theorem pds_retN {pos : Pos} : PDS X W (.Return none pos) (fun env => some (.rt .none env)) := ⟨PS.wk ps_retN fun D σ H q => by
  obtain ⟨Wp, Fb, L, env, r, R, g, k⟩ := q
  cases g
  exact k .non σ H L (Tr.refl H L) R .non⟩
theorem pds_pass {pos : Pos} : PDS X W (.Pass pos) gSkip := ⟨PS.wk ps_pass fun D σ H q => by
  obtain ⟨Wp, Fb, L, env, r, R, g, k⟩ := q
  cases g
  exact k σ H L (Tr.refl H L) R⟩
theorem pds_break {pos : Pos} : PDS X W (.Break pos) (fun env => some (.bk env)) := ⟨PS.wk ps_break fun D σ H q => by
  obtain ⟨Wp, Fb, L, env, r, R, g, k⟩ := q
  cases g
  exact k σ H L (Tr.refl H L) R⟩
theorem pds_continue {pos : Pos} : PDS X W (.Continue pos) (fun env => some (.ct env)) := ⟨PS.wk ps_continue fun D σ H q => by
  obtain ⟨Wp, Fb, L, env, r, R, g, k⟩ := q
  cases g
  exact k σ H L (Tr.refl H L) R⟩
/-- x = e -/
def gAsg (i : Nat) (G : GE) : Gs := gS G fun d env => (setIm env i d).map .nx
theorem pds_asg {x : Str} {p pos : Pos} {e : Expr} {i : Nat} {G : GE} (h : PD X W e G) (hg : PG X (.Name x p) (gName i)) (hs : swapsWithSole [.Name x p] e pos.line X.env = pure false := by rfl) (hw : swappedStores [.Name x p] e X.env = pure none := by rfl)
    (h1 : (assignEach [.Name x p] X.env).map (·.2) = [assign (.Name x p) X.env] := by rfl) : PDS X W (.Assign [.Name x p] e pos) (gAsg i G) := ⟨PS.wk (ps_asg h.pe hg hs hw h1) fun D σ H q => (tS.after (ρ := ρD X.K) q).mono fun v H1 z => by
  obtain ⟨d, Wp, Fb, L, env, r, hv, R, g, k⟩ := z
  obtain ⟨e1, h1, rfl⟩ := Option.map_eq_some_iff.mp g
  exact k _ H1 L (Tr.refl H1 L) (R.setIm hv h1)⟩
/-- x = [..], the list x's own -/
def setMu (env : En) (i : Nat) (ds : List D) : Option En := match env[i]? with
  | some (.mu true _) => none
  | some _ => some (env.set i (.mu false ds))
  | none => none
theorem ER.setMu {K : Fr0} {Wp σ : L2.St} {Fb L : AS} {H : Hp} {env env' : En} (R : ER K Wp Fb L H σ env) {i : Nat} {a : Addr} {vs : List V} {ds : List D} (la : L a) (ha : H a = some (.lst vs)) (hd : DnA K (U L Fb) H vs ds)
    (ap : ∀ (j : Nat) (b : Bool) (es : List D), env[j]? = some (.mu b es) → σ[j]? ≠ some (some (.ref a))) (h : PD.setMu env i ds = some env') : ER K Wp Fb L H (σ.set i (some (.ref a))) env' := by
  unfold PD.setMu at h
  split at h
  · cases h
  · rename_i s hs he
    cases h
    have hlt : i < env.length := (List.getElem?_eq_some_iff.mp he).1
    refine ⟨by simpa using R.len, R.trk, R.dis, fun j t e => ?_, fun j k b c ds' es x ne e1 e2 e3 => ?_⟩
    · by_cases hj : i = j
      · subst hj
        rw [List.getElem?_set_self hlt] at e
        cases e
        exact ⟨a, vs, List.getElem?_set_self (by rw [← R.len]; exact hlt), la, ha, hd, fun z => by cases z⟩
      · rw [List.getElem?_set_ne hj] at e
        rw [List.getElem?_set_ne hj]
        exact R.sl j t e
    · by_cases hj : i = j
      · subst hj
        rw [List.getElem?_set_ne ne] at e2 ⊢
        rw [List.getElem?_set_self (by rw [← R.len]; exact hlt)] at e3
        have e3' : V.ref a = V.ref x := Option.some.inj (Option.some.inj e3)
        cases e3'
        exact ap k _ _ e2
      · rw [List.getElem?_set_ne hj] at e1 e3
        by_cases hk : i = k
        · subst hk
          rw [List.getElem?_set_self (by rw [← R.len]; exact hlt)]
          intro z
          have z' : V.ref a = V.ref x := Option.some.inj (Option.some.inj z)
          cases z'
          exact ap j _ _ e1 e3
        · rw [List.getElem?_set_ne hk] at e2 ⊢
          exact R.apart j k b c ds' es x ne e1 e2 e3
  · cases h
def gAsgF (i : Nat) (G : GA) : Gs := gS G fun ds env => (setMu env i ds).map .nx
theorem asgF_read {i : Nat} {G : GA} {D : Ends} {σ : L2.St} {H : Hp} (q : tS X W (gAsgF i G) D σ H) : tF X W G σ H fun b H1 => gName i b σ H1 D.nx := by
  have q2 := tS.afterF q
  obtain ⟨Wp, Fb, L, env, r, R, g, k⟩ := q2
  refine ⟨Wp, Fb, L, env, r, R, g, ?_⟩
  cases r with
  | ex c fs e => exact k
  | ok ds e =>
    intro a vs H' L' t la R' ha hd ap
    obtain ⟨ds', a', vs', Wp', Fb', L2, env2, r2, e1, la2, ha2, hd2, ap2, R2, g2, k2⟩ := k a vs H' L' t la R' ha hd ap
    cases e1
    obtain ⟨e2, h2, rfl⟩ := Option.map_eq_some_iff.mp g2
    exact k2 _ H' L2 (Tr.refl H' L2) (R2.setMu la2 ha2 hd2 ap2 h2)
theorem pds_asgF {x : Str} {p pos : Pos} {e : Expr} {i : Nat} {G : GA} (h : PDF X W e G) (hg : PG X (.Name x p) (gName i)) (hs : swapsWithSole [.Name x p] e pos.line X.env = pure false := by rfl) (hw : swappedStores [.Name x p] e X.env = pure none := by rfl)
    (h1 : (assignEach [.Name x p] X.env).map (·.2) = [assign (.Name x p) X.env] := by rfl) : PDS X W (.Assign [.Name x p] e pos) (gAsgF i G) := ⟨PS.wk (ps_asg h.pe hg hs hw h1) fun D σ H q => asgF_read q⟩
section
variable {elt tg iter : Expr} {ifs : List Expr} {scope : Scope} {own : List (Str × Nat)} {pos spos py : Pos} {Gi : GA} {t : Tg} {Gt : GT} {Ge : GE} {y : Str} {i : Nat}
theorem pds_asgLc (hc : X.calm = true) (hN : X.N.Nodup) (hy : X.N[i]? = some y) (hyl : X.env.scope.names.lookup y = some .local) (hsw : swapsWith (.ListComp elt [⟨tg, iter, ifs, 0⟩] scope pos) (some (.Name y py)) spos.line X.env = pure true) (hi : PDI X W tg iter Gi) (ok : BlkOk X.N X.env.scope scope own)
    (hg : ∀ (s : Shared) (H : Hp) (C : Addr) (cl : List (Str × Addr)) (fp : List Addr), PG (X.blk s H scope (compEnvC scope cl C X.env) fp) tg (gTG X.K t)) (ht : ∀ (s : Shared) (H : Hp) (C : Addr) (cl : List (Str × Addr)) (fp : List Addr), PDTs (X.blk s H scope (compEnvC scope cl C X.env) fp) W0 ifs Gt)
    (he : ∀ (s : Shared) (H : Hp) (C : Addr) (cl : List (Str × Addr)) (fp : List Addr), PD (X.blk s H scope (compEnvC scope cl C X.env) fp) W0 elt Ge) (sub : ∀ i ∈ t.is, i ∈ own.map (·.2)) (hs : ∀ x, foldedSetIterable iter X.env x = pure x := by intro _; rfl) :
    PDS X W (.Assign [.Name y py] (.ListComp elt [⟨tg, iter, ifs, 0⟩] scope pos) spos) (gAsgF i (gLc Gi t Gt Ge (own.map (·.2)))) :=
  ⟨PS.wk (ps_setLc hc hN hy hyl hsw hi.pi ok hg (fun s H C cl fp => (ht s H C cl fp).pts) (fun s H C cl fp => (he s H C cl fp).pe) hs) fun D σ H q => lc_read sub (asgF_read q)⟩
end
/-- a, b = e1, e2 -/
def gPar (is : List Nat) (G : GA) : Gs := gS G fun ds env => (setIms env is ds).map .nx
theorem pds_par {i j : Nat} {x y : Str} {a b : Expr} {px py pt pos pos2 : Pos} {kt k2 : Nat} {G : GA} (h : PDA X W [a, b] G) (hp : ∀ {ta : TA}, PA X [a, b] ta → PS X (.Assign [.Tuple [.Name x px, .Name y py] kt pt] (.Tuple [a, b] k2 pos2) pos) (tPar i j ta)) :
    PDS X W (.Assign [.Tuple [.Name x px, .Name y py] kt pt] (.Tuple [a, b] k2 pos2) pos) (gPar [i, j] G) := ⟨PS.wk (hp h.pa) fun D σ H q => (tS.after (ρ := ρA X.K) q).mono fun vs H1 z => by
  obtain ⟨ds, Wp, Fb, L, env, r, hv, R, g, k⟩ := z
  obtain ⟨e1, h1, rfl⟩ := Option.map_eq_some_iff.mp g
  obtain ⟨hl, R'⟩ := R.setIms hv h1
  match vs, hl with
  | [u, w], _ => exact ⟨u, w, rfl, k _ H1 L (Tr.refl H1 L) R'⟩⟩
theorem pds_par3 {i j l : Nat} {x y z : Str} {a b c : Expr} {px py pz pt pos pos2 : Pos} {kt k2 : Nat} {G : GA} (h : PDA X W [a, b, c] G) (hp : ∀ {ta : TA}, PA X [a, b, c] ta → PS X (.Assign [.Tuple [.Name x px, .Name y py, .Name z pz] kt pt] (.Tuple [a, b, c] k2 pos2) pos) (tPar3 i j l ta)) :
    PDS X W (.Assign [.Tuple [.Name x px, .Name y py, .Name z pz] kt pt] (.Tuple [a, b, c] k2 pos2) pos) (gPar [i, j, l] G) := ⟨PS.wk (hp h.pa) fun D σ H q => (tS.after (ρ := ρA X.K) q).mono fun vs H1 z => by
  obtain ⟨ds, Wp, Fb, L, env, r, hv, R, g, k⟩ := z
  obtain ⟨e1, h1, rfl⟩ := Option.map_eq_some_iff.mp g
  obtain ⟨hl, R'⟩ := R.setIms hv h1
  match vs, hl with
  | [u, w, v], _ => exact ⟨u, w, v, rfl, k _ H1 L (Tr.refl H1 L) R'⟩⟩
/-- any target without a subscript -/
def gAsgT (t : Tg) (G : GE) : Gs := gS G fun d env => (tTG t d env).map .nx
theorem pds_asgT {tg e : Expr} {pos : Pos} {t : Tg} {G : GE} (h : PD X W e G) (hg : PG X tg (gTG X.K t)) (hs : swapsWithSole [tg] e pos.line X.env = pure false := by rfl) (hw : swappedStores [tg] e X.env = pure none := by rfl)
    (h1 : (assignEach [tg] X.env).map (·.2) = [assign tg X.env] := by rfl) : PDS X W (.Assign [tg] e pos) (gAsgT t G) := ⟨PS.wk (ps_asg h.pe hg hs hw h1) fun D σ H q => (tS.after (ρ := ρD X.K) q).mono fun v H1 z => by
  obtain ⟨d, Wp, Fb, L, env, r, hv, R, g, k⟩ := z
  obtain ⟨e1, h1, rfl⟩ := Option.map_eq_some_iff.mp g
  exact gTG_read R hv h1 fun vals hl R' => k _ H1 L (Tr.refl H1 L) R'⟩
/-! ### one's own list changed -/
theorem ER.chg {K : Fr0} {Wp σ : L2.St} {Fb L : AS} {H : Hp} {env : En} (R : ER K Wp Fb L H σ env) {i : Nat} {b : Bool} {ds es : List D} {a : Addr} {ws : List V} (he : env[i]? = some (.mu b ds)) (hs : σ[i]? = some (some (.ref a))) (dn : DnA K (U L Fb) H ws es) :
    ER K Wp Fb L (upd H a (.lst ws)) σ (env.set i (.mu b es)) ∧ Tr H L (upd H a (.lst ws)) L ∧ Mv (U L Fb) H (U L Fb) (upd H a (.lst ws)) := by
  obtain ⟨a', vs, e1, la, h1, h2, w⟩ := R.sl i _ he
  rw [hs] at e1
  cases e1
  have hlt : i < env.length := (List.getElem?_eq_some_iff.mp he).1
  have m : Mv (U L Fb) H (U L Fb) (upd H a (.lst ws)) := fun c o n e _ => by
    have ne : c ≠ a := fun z => n (by subst z; exact .inl la)
    exact ⟨n, by rw [upd_ne ne]; exact e⟩
  refine ⟨⟨by simpa using R.len, fun c h => ?_, R.dis, fun j t e => ?_, fun j k c d ds' es' x ne e1 e2 e3 => ?_⟩, fun c o e n => ?_, m⟩
  · by_cases hc : c = a
    · subst hc; exact ⟨_, upd_same⟩
    · obtain ⟨o, e⟩ := R.trk c h
      exact ⟨o, by rw [upd_ne hc]; exact e⟩
  · by_cases hj : i = j
    · subst hj
      rw [List.getElem?_set_self hlt] at e
      cases e
      exact ⟨a, ws, hs, la, upd_same, dn.mv m, w⟩
    · rw [List.getElem?_set_ne hj] at e
      have q := R.sl j t e
      cases t with
      | no => trivial
      | im d => obtain ⟨v, e2, h⟩ := q; exact ⟨v, e2, h.mv m⟩
      | mu c fs =>
        obtain ⟨x, vs', e2, l', h1', h2', w'⟩ := q
        have ne : x ≠ a := fun z => by
          subst z
          exact R.apart i j _ _ _ _ x hj he e hs e2
        exact ⟨x, vs', e2, l', by rw [upd_ne ne]; exact h1', h2'.mv m, w'⟩
  · have f : ∀ {j : Nat} {c : Bool} {fs : List D}, (env.set i (.mu b es))[j]? = some (.mu c fs) → ∃ c' fs', env[j]? = some (.mu c' fs') := fun {j c fs} h => by
      by_cases hj : i = j
      · subst hj; exact ⟨_, _, he⟩
      · rw [List.getElem?_set_ne hj] at h; exact ⟨_, _, h⟩
    obtain ⟨_, _, f1⟩ := f e1
    obtain ⟨_, _, f2⟩ := f e2
    exact R.apart j k _ _ _ _ x ne f1 f2 e3
  · have ne : c ≠ a := fun z => n (by subst z; exact la)
    exact ⟨by rw [upd_ne ne]; exact e, n⟩
/-- what one's own list at slot i holds -/
def own? (env : En) (i : Nat) : Option (Bool × List D) := match env[i]? with
  | some (.mu b ds) => some (b, ds)
  | _ => none
theorem own_of {env : En} {i : Nat} {b : Bool} {ds : List D} (h : own? env i = some (b, ds)) : env[i]? = some (.mu b ds) := by
  unfold own? at h
  split at h
  · cases h; assumption
  · cases h
/-- x[j] = e -/
def setN? (env : En) (i : Nat) (z d : D) : Option En := match z with
  | .int k => (own? env i).bind fun p => (ixN p.2.length k).map fun j => env.set i (.mu p.1 (p.2.set j d))
  | _ => none
def gSetN (i : Nat) (Gi G : GE) : Gs := gS G fun d => gS (gHas i Gi) fun z env => (setN? env i z d).map .nx
theorem pds_setN {y : Str} {q p pos : Pos} {i : Nat} {ix e : Expr} {Gi G : GE} (hn : PE X (.Name y q) (tVar i)) (hi : PD X W ix Gi) (h : PD X W e G) (hg : ∀ {to ti : TE}, PE X (.Name y q) to → PE X ix ti → PG X (.Subscript (.Name y q) ix p) (gSub to ti rSetL))
    (hs : swapsWithSole [.Subscript (.Name y q) ix p] e pos.line X.env = pure false := by rfl) (hw : swappedStores [.Subscript (.Name y q) ix p] e X.env = pure none := by rfl)
    (h1 : (assignEach [.Subscript (.Name y q) ix p] X.env).map (·.2) = [assign (.Subscript (.Name y q) ix p) X.env] := by rfl) : PDS X W (.Assign [.Subscript (.Name y q) ix p] e pos) (gSetN i Gi G) :=
  ⟨PS.wk (ps_asg h.pe (hg hn hi.pe) hs hw h1) fun D σ H q => (tS.after (ρ := ρD X.K) q).mono fun v H1 z => by
    obtain ⟨d, Wp, Fb, L, env, r, hv, R, g, k⟩ := z
    show ∃ o, σ[i]? = some (some o) ∧ tD X W Gi σ H1 fun iv H2 => rSetL o iv v H2 fun H3 => D.nx σ H3
    unfold gS at g
    split at g
    · cases g
    · rename_i z e1 hz
      obtain ⟨⟨d0, hd0⟩, hz⟩ := gHas_of hz
      obtain ⟨o, eo, _⟩ := R.peek hd0
      refine ⟨o, eo, Wp, Fb, L, env, _, R, hz, fun H2 L2 t2 R2 iv hiv => ?_⟩
      obtain ⟨e2, h2, rfl⟩ := Option.map_eq_some_iff.mp g
      unfold setN? at h2
      split at h2
      · skip
        obtain ⟨p, ho, h2⟩ := Option.bind_eq_some_iff.mp h2
        obtain ⟨j, hj, rfl⟩ := Option.map_eq_some_iff.mp h2
        have ho := own_of (b := p.1) (ds := p.2) ho
        obtain ⟨a, vs, e2, la, h2, h3, _⟩ := R2.sl i _ ho
        rw [eo] at e2
        cases e2
        cases hiv
        obtain ⟨R3, t3, m3⟩ := R2.chg ho eo (h3.set j (hv.mv t2.mv))
        exact ⟨a, vs, _, j, rfl, rfl, h2, by rw [h3.length]; exact hj, k σ _ L2 (t2.trans t3) R3⟩
      · cases h2
    · rename_i c fs e1 hz
      cases g
      obtain ⟨⟨d0, hd0⟩, hz⟩ := gHas_of hz
      obtain ⟨o, eo, _⟩ := R.peek hd0
      exact ⟨o, eo, Wp, Fb, L, env, _, R, hz, fun cls dd H' L' t R' x => k cls dd σ H' L' t R' x⟩⟩
/-- x.append(e) -/
def gHasO {α : Type} (i : Nat) (G : Gm α) : Gm α := fun env => match own? env i with
  | some _ => G env
  | none => none
theorem gHasO_of {α : Type} {i : Nat} {G : Gm α} {env : En} {r : Rs α} (h : gHasO i G env = some r) : (∃ b ds, env[i]? = some (.mu b ds)) ∧ G env = some r := by
  unfold gHasO at h
  split at h
  · rename_i p hp
    exact ⟨⟨p.1, p.2, own_of hp⟩, h⟩
  · cases h
def gApp (i : Nat) (G : GE) : Gs := gS (gHasO i G) fun d env => match own? env i with
  | some (b, ds) => if ds.length < 100000 then some (.nx (env.set i (.mu b (ds ++ [d])))) else none
  | none => none
theorem app_read {i : Nat} {G : GE} {D : Ends} {σ : L2.St} {H : Hp} (q : tS X W (gApp i G) D σ H) : tDrop (tBM X.K "list" rAppend (tVar i) (L2.tCons (tD X W G) tNil)) D σ H := by
  obtain ⟨Wp, Fb, L, env, r, R, g, k⟩ := q
  unfold gApp gS at g
  split at g
  · cases g
  · rename_i d e1 hz
    obtain ⟨⟨b0, ds0, h0⟩, hz⟩ := gHasO_of hz
    obtain ⟨a, vs, e2, la, h2, h3, _⟩ := R.sl i _ h0
    refine ⟨_, e2, .inl ⟨rfl, vs, SqL.of h2⟩, Wp, Fb, L, env, _, R, hz, fun H1 L1 t1 R1 v hv => ?_⟩
    dsimp only at g
    split at g
    · rename_i b ds ho
      split at g
      · rename_i hl
        cases g
        have ho := own_of ho
        obtain ⟨a', ws, e3, la1, h4, h5, _⟩ := R1.sl i _ ho
        rw [e2] at e3
        cases e3
        obtain ⟨R3, t3, m3⟩ := R1.chg ho e2 (h5.app (.cons hv .nil))
        exact ⟨a, ws, v, rfl, rfl, h4, Nat.lt_of_lt_of_le (by rw [h5.length]; exact hl) (by decide), k σ _ L1 (t1.trans t3) R3⟩
      · cases g
    · cases g
  · rename_i c fs e1 hz
    cases g
    obtain ⟨⟨b0, ds0, h0⟩, hz⟩ := gHasO_of hz
    obtain ⟨a, vs, e2, la, h2, h3, _⟩ := R.sl i _ h0
    exact ⟨_, e2, .inl ⟨rfl, vs, SqL.of h2⟩, Wp, Fb, L, env, _, R, hz, fun cls dd H' L' t R' x => k cls dd σ H' L' t R' x⟩
theorem pds_app {st : Stmt} {i : Nat} {e : Expr} {G : GE} (h : PD X W e G) (hp : ∀ {te : TE}, PE X e te → PS X st (tDrop (tBM X.K "list" rAppend (tVar i) (L2.tCons te tNil)))) : PDS X W st (gApp i G) := ⟨PS.wk (hp h.pe) fun D σ H q => app_read q⟩
/-- if -/
def gIfS (Gt : GT) (B1 B2 : Gs) : Gs := gS Gt fun b => if b = true then B1 else B2
theorem pds_if {c : Expr} {a b : List Stmt} {pos : Pos} {Gt : GT} {B1 B2 : Gs} (hc : PDT X W c Gt) (ha : PDSs X W a B1) (hb : PDSs X W b B2) : PDS X W (.If c a b pos) (gIfS Gt B1 B2) := ⟨PS.wk (ps_if hc.pt ha.pss hb.pss) fun D σ H q => (tS.after (ρ := ρB) q).mono fun v H1 z => by
  obtain ⟨d, Wp, Fb, L, env, r, hv, R, g, k⟩ := z
  subst hv
  cases v with
  | true => exact ⟨Wp, Fb, L, env, r, R, g, k⟩
  | false => exact ⟨Wp, Fb, L, env, r, R, g, k⟩⟩
/-- an expression as a statement -/
theorem pds_expr {e : Expr} {pos : Pos} {G : GE} (h : PD X W e G) (hs : swapsWith e none pos.line X.env = pure false := by rfl) : PDS X W (.Expr e pos) (gS G fun _ env => some (.nx env)) := ⟨PS.wk (ps_expr h.pe hs) fun D σ H q => (tS.after (ρ := ρD X.K) q).mono fun v H1 z => by
  obtain ⟨d, Wp, Fb, L, env, r, hv, R, g, k⟩ := z
  cases g
  exact k σ H1 L (Tr.refl H1 L) R⟩
end
end PD
namespace PD
open PySem PySem.Spec PyProof.Rows L2
section
variable {X : Cx} {W : WX}
/-! ### for -/
def forLoop (t : Tg) (B : Gs) : List D → Gs
  | [], e => some (.nx e)
  | d :: ds, e => match tTG t d e with
    | none => none
    | some e1 => match B e1 with
      | some (.nx e2) => forLoop t B ds e2
      | some (.ct e2) => forLoop t B ds e2
      | some (.bk e2) => some (.nx e2)
      | some (.rt v e2) => some (.rt v e2)
      | some (.ex c fs e2) => some (.ex c fs e2)
      | none => none
def gFor (Gi : GA) (t : Tg) (B : Gs) : Gs := gS Gi fun items => forLoop t B items
theorem pds_for {tg iter : Expr} {body : List Stmt} {pos : Pos} {Gi : GA} {t : Tg} {B : Gs} (hp : PassesOwn (model X.prog X.w) X.A X.env X.xe) (hc : X.calm = true) (hi : PDI X W tg iter Gi) (hg : PG X tg (gTG X.K t)) (hb : PDSs X W body B)
    (hs : ∀ x, foldedSetIterable iter X.env x = pure x := by intro _; rfl) : PDS X W (.For tg iter body [] pos) (gFor Gi t B) := ⟨PS.wk (ps_for hp hc hi.pi hg hb.pss hs) fun Dn σ H q => by
  obtain ⟨Wp, Fb, L, env, r, R, g, k⟩ := q
  unfold gFor gS at g
  split at g
  · cases g
  rotate_left
  · rename_i c fs e hg
    cases g
    exact ⟨Wp, Fb, L, env, _, R, hg, fun cls dd H' L' t R' x => k cls dd σ H' L' t R' x⟩
  rename_i items e0 hgi
  refine ⟨Wp, Fb, L, env, _, R, hgi, fun H1 L1 t1 R1 J wk => ?_⟩
  refine ⟨fun i m σ' H' => m = items.length - i ∧ i ≤ items.length ∧ ∃ (L' : AS) (e : En), forLoop t B (items.drop i) e = some r ∧ Tr H1 L1 H' L' ∧ ER X.K Wp Fb L' H' σ' e, ⟨_, rfl, Nat.zero_le _, L1, e0, g, Tr.refl H1 L1, R1⟩, ?_⟩
  rintro i m σ' H' ⟨rfl, hi, L', e, hl, t', R'⟩
  obtain ⟨go, stop⟩ := wk Fb L' H' (fun a h => .inl h) t' R'.trk
  by_cases hlt : i < items.length
  · refine .inr ?_
    have hd : items[i]? = some items[i] := by simp [hlt]
    obtain ⟨g1, g2⟩ := go i _ hd
    rw [List.drop_eq_getElem_cons hlt] at hl
    unfold forLoop at hl
    refine ⟨g1, fun σ'' H'' => ∃ (L' : AS) (e : En), forLoop t B (items.drop (i + 1)) e = some r ∧ Tr H1 L1 H'' L' ∧ ER X.K Wp Fb L' H'' σ'' e, fun σ'' H'' z => ⟨items.length - (i + 1), by omega, rfl, hlt, z⟩, fun x H3 y => ?_⟩
    obtain ⟨gr, dx⟩ := g2 x H3 y
    have R3 := R'.grow gr
    have t3 : Tr H1 L1 H3 L' := t'.trans (grow_tr gr)
    split at hl
    · cases hl
    rename_i e1 he1
    refine gTG_read R3 dx he1 fun vals hvl R4 => ?_
    have kk := k.from (t1.trans t3)
    split at hl
    · rename_i e2 hB
      exact ⟨Wp, Fb, L', e1, _, R4, hB, fun σ5 H5 L5 t5 R5 => ⟨L5, e2, hl, t3.trans t5, R5⟩⟩
    · rename_i e2 hB
      exact ⟨Wp, Fb, L', e1, _, R4, hB, fun σ5 H5 L5 t5 R5 => ⟨L5, e2, hl, t3.trans t5, R5⟩⟩
    · rename_i e2 hB
      cases hl
      exact ⟨Wp, Fb, L', e1, _, R4, hB, fun σ5 H5 L5 t5 R5 => kk σ5 H5 L5 t5 R5⟩
    · rename_i v e2 hB
      cases hl
      exact ⟨Wp, Fb, L', e1, _, R4, hB, kk⟩
    · rename_i c fs e2 hB
      cases hl
      exact ⟨Wp, Fb, L', e1, _, R4, hB, kk⟩
    · cases hl
  · have ei : i = items.length := by omega
    subst ei
    rw [List.drop_length] at hl
    unfold forLoop at hl
    cases hl
    exact .inl ⟨stop, k σ' H' L' (t1.trans t') R'⟩⟩
/-! ### while -/
def whileLoop (C : GT) (B : Gs) : Nat → Gs
  | 0, _ => none
  | n + 1, e => match C e with
    | some (.ok false e1) => some (.nx e1)
    | some (.ex c fs e1) => some (.ex c fs e1)
    | none => none
    | some (.ok true e1) => match B e1 with
      | some (.nx e2) => whileLoop C B n e2
      | some (.ct e2) => whileLoop C B n e2
      | some (.bk e2) => some (.nx e2)
      | some (.rt v e2) => some (.rt v e2)
      | some (.ex c fs e2) => some (.ex c fs e2)
      | none => none
theorem pds_while {c : Expr} {body : List Stmt} {pos : Pos} {C : GT} {B : Gs} (n : Nat) (hp : PassesOwn (model X.prog X.w) X.A X.env X.xe) (hc : PDT X W c C) (hb : PDSs X W body B) : PDS X W (.While c body [] pos) (whileLoop C B n) := ⟨PS.wk (ps_while hp hc.pt hb.pss) fun Dn σ H q => by
  obtain ⟨Wp, Fb, L, env, r, R, g, k⟩ := q
  refine ⟨fun m σ' H' => ∃ (L' : AS) (e : En), whileLoop C B m e = some r ∧ Tr H L H' L' ∧ ER X.K Wp Fb L' H' σ' e, ⟨n, L, env, g, Tr.refl H L, R⟩, ?_⟩
  rintro m σ' H' ⟨L', e, hl, t', R'⟩
  cases m with
  | zero => cases hl
  | succ m =>
    unfold whileLoop at hl
    split at hl
    · rename_i e1 hC
      cases hl
      refine ⟨Wp, Fb, L', e, _, R', hC, fun H2 L2 t2 R2 b hb => ?_⟩
      subst hb
      rw [if_neg Bool.false_ne_true]
      exact k σ' H2 L2 (t'.trans t2) R2
    · rename_i c fs e1 hC
      cases hl
      exact ⟨Wp, Fb, L', e, _, R', hC, fun cls dd H2 L2 t2 R2 x => k cls dd σ' H2 L2 (t'.trans t2) R2 x⟩
    · cases hl
    · rename_i e1 hC
      refine ⟨Wp, Fb, L', e, _, R', hC, fun H2 L2 t2 R2 b hb => ?_⟩
      subst hb
      rw [if_pos rfl]
      refine ⟨fun σ3 H3 => ∃ (L3 : AS) (e3 : En), whileLoop C B m e3 = some r ∧ Tr H L H3 L3 ∧ ER X.K Wp Fb L3 H3 σ3 e3, fun σ3 H3 z => ⟨m, Nat.lt_succ_self m, z⟩, ?_⟩
      have tt := t'.trans t2
      have kk := k.from tt
      split at hl
      · rename_i e2 hB
        exact ⟨Wp, Fb, L2, e1, _, R2, hB, fun σ5 H5 L5 t5 R5 => ⟨L5, e2, hl, tt.trans t5, R5⟩⟩
      · rename_i e2 hB
        exact ⟨Wp, Fb, L2, e1, _, R2, hB, fun σ5 H5 L5 t5 R5 => ⟨L5, e2, hl, tt.trans t5, R5⟩⟩
      · rename_i e2 hB
        cases hl
        exact ⟨Wp, Fb, L2, e1, _, R2, hB, fun σ5 H5 L5 t5 R5 => kk σ5 H5 L5 t5 R5⟩
      · rename_i v e2 hB
        cases hl
        exact ⟨Wp, Fb, L2, e1, _, R2, hB, kk⟩
      · rename_i c fs e2 hB
        cases hl
        exact ⟨Wp, Fb, L2, e1, _, R2, hB, kk⟩
      · cases hl⟩
/-! ### calls of the text's own defs -/
inductive Ar where
  | val (d : D) | bor (i : Nat)
inductive FR where
  | val (d : D) (sl : List Sl)
  | exc (c : Str) (fs : List (Str × D)) (sl : List Sl)
def Only (vs : List V) (sl : List Sl) (L : AS) : Prop := ∀ a, L a → ∃ (i : Nat) (ds : List D), sl[i]? = some (.mu true ds) ∧ vs[i]? = some (.ref a)
def spF (K : Fr0) (mg : Str → Option Value) (F : List Sl → Option FR) : Sp := fun vs H Q E => ∃ (Fb L : AS) (sl : List Sl) (r : FR), ER K (vs.map some) Fb L H (vs.map some) sl ∧ Only vs sl L ∧ F sl = some r ∧ match r with
  | .val d sl' => ∀ v H', (∀ a o, H a = some o → ¬ L a → H' a = some o) → ER K (vs.map some) Fb L H' (vs.map some) sl' → Dn K (U L Fb) H' v d → Q v H'
  | .exc c fs sl' => ∀ cls dd H', (∀ a o, H a = some o → ¬ L a → H' a = some o) → ER K (vs.map some) Fb L H' (vs.map some) sl' → ExIs K mg (U L Fb) H' c fs cls dd → E cls dd H'
def ρAr (K : Fr0) (σ : L2.St) : Rel Ar V := fun a v F H => match a with
  | .val d => Dn K F H v d
  | .bor i => σ[i]? = some (some v)
inductive All2 {α β : Type} (P : α → β → Prop) : List α → List β → Prop
  | nil : All2 P [] []
  | cons {a : α} {b : β} {as : List α} {bs : List β} : P a b → All2 P as bs → All2 P (a :: as) (b :: bs)
theorem All2.imp {α β : Type} {P Q : α → β → Prop} (f : ∀ a b, P a b → Q a b) : ∀ {as : List α} {bs : List β}, All2 P as bs → All2 Q as bs
  | _, _, .nil => .nil
  | _, _, .cons h t => .cons (f _ _ h) (All2.imp f t)
theorem All2.length {α β : Type} {P : α → β → Prop} : ∀ {as : List α} {bs : List β}, All2 P as bs → as.length = bs.length
  | _, _, .nil => rfl
  | _, _, .cons h t => by simp [All2.length t]
theorem All2.get {α β : Type} {P : α → β → Prop} : ∀ {as : List α} {bs : List β} {i : Nat} {a : α}, All2 P as bs → as[i]? = some a → ∃ b, bs[i]? = some b ∧ P a b
  | _, _, _, _, .nil, h => by simp at h
  | _, _, 0, _, .cons h t, e => by simp at e; subst e; exact ⟨_, rfl, h⟩
  | _, _, i + 1, _, .cons h t, e => by
    obtain ⟨b, h1, h2⟩ := All2.get (i := i) t (by simpa using e)
    exact ⟨b, by simpa using h1, h2⟩
abbrev ρAs (K : Fr0) (σ : L2.St) : Rel (List Ar) (List V) := fun as vs F H => All2 (fun a v => ρAr K σ a v F H) as vs
theorem stabAr (K : Fr0) (σ : L2.St) : Stab (ρAr K σ) := fun a b F H F' H' m h => by
  cases a with
  | val d => exact Dn.mv m h
  | bor i => exact h
theorem stabAs (K : Fr0) (σ : L2.St) : Stab (ρAs K σ) := fun a b F H F' H' m h => h.imp fun a b h => stabAr K σ a b F H F' H' m h
structure PDR (X : Cx) (W : WX) (es : List Expr) (G : Gm (List Ar)) : Prop where
  pa : PA X es (fun σ H Q => tG (ρAs X.K σ) X W G σ H Q)
theorem pdr_nil : PDR X W [] (gP []) := ⟨PA.wk pa_nil fun σ H Q q => by
  obtain ⟨Wp, Fb, L, env, r, R, g, k⟩ := q
  cases gP_some g
  exact k H L (Tr.refl H L) R [] .nil⟩
def gArV (Ga : GE) (Gr : Gm (List Ar)) : Gm (List Ar) := gB Ga fun d => gB Gr fun as => gP (.val d :: as)
theorem pdr_val {e : Expr} {es : List Expr} {Ga : GE} {Gr : Gm (List Ar)} (ha : PD X W e Ga) (hr : PDR X W es Gr) (hs : starEach (e :: es) X.env = (false, eval e X.env) :: starEach es X.env := by rfl) : PDR X W (e :: es) (gArV Ga Gr) :=
  ⟨PA.wk (pa_cons ha.pe hr.pa hs) fun σ H Q q => (tG.seq2 (ρ := ρD X.K) (ρ1 := ρAs X.K σ) (stabD X.K) q).mono fun x H1 z => z.mono fun xs H2 z => by
    obtain ⟨d, ds, Wp, Fb, L, env, r, hx, hy, R, g, k⟩ := z
    cases gP_some g
    exact k H2 L (Tr.refl H2 L) R (x :: xs) (.cons hx hy)⟩
def gArB (i : Nat) (Gr : Gm (List Ar)) : Gm (List Ar) := gHasO i (gB Gr fun as => gP (.bor i :: as))
theorem pdr_bor {i : Nat} {x : Str} {p : Pos} {es : List Expr} {Gr : Gm (List Ar)} (ha : PE X (.Name x p) (tVar i)) (hr : PDR X W es Gr) (hs : starEach (.Name x p :: es) X.env = (false, eval (.Name x p) X.env) :: starEach es X.env := by rfl) : PDR X W (.Name x p :: es) (gArB i Gr) :=
  ⟨PA.wk (pa_cons ha hr.pa hs) fun σ H Q q => by
    obtain ⟨Wp, Fb, L, env, r, R, g, k⟩ := q
    obtain ⟨⟨b, ds, h0⟩, g⟩ := gHasO_of g
    obtain ⟨a, vs, e2, la, h2, h3, _⟩ := R.sl i _ h0
    refine ⟨_, e2, (tG.seq (ρ := ρAs X.K σ) (ρ' := ρAs X.K σ) (X := X) (W := W) ⟨Wp, Fb, L, env, r, R, g, k⟩).mono fun xs H2 z => ?_⟩
    obtain ⟨ds, Wp, Fb, L, env, r, hx, R, g, k⟩ := z
    cases gP_some g
    exact k H2 L (Tr.refl H2 L) R (_ :: xs) (.cons e2 hx)⟩
/-- the arguments as the def's slots -/
def slotsOf (env : En) : List Ar → Option (List Sl)
  | [] => some []
  | .val d :: as => (slotsOf env as).map (.im d :: ·)
  | .bor i :: as => (own? env i).bind fun p => (slotsOf env as).map (.mu true p.2 :: ·)
def bors : List Ar → List Nat
  | [] => []
  | .val _ :: as => bors as
  | .bor i :: as => i :: bors as
/-- what was lent, as it comes back -/
def takeBack (env : En) : List Ar → List Sl → Option En
  | [], [] => some env
  | .val _ :: as, _ :: sl => takeBack env as sl
  | .bor i :: as, .mu true ds :: sl => (own? env i).bind fun p => takeBack (env.set i (.mu p.1 ds)) as sl
  | _, _ => none
def gCallF (F : List Sl → Option FR) (G : Gm (List Ar)) : GE := gB G fun as env => match slotsOf env as with
  | none => none
  | some sl => if (bors as).Nodup then match F sl with
    | none => none
    | some (.val d sl') => (takeBack env as sl').map fun e => .ok d e
    | some (.exc c fs sl') => (takeBack env as sl').map fun e => .ex c fs e
  else none
end
end PD
namespace PD
open PySem PySem.Spec PyProof.Rows L2
/-! ### what a call lends -/
section
variable {K : Fr0} {Wp σ : L2.St} {Fb L : AS} {H : Hp} {env : En}
/-- the addresses lent -/
def Lent (σ : L2.St) (as : List Ar) : AS := fun a => ∃ i, i ∈ bors as ∧ σ[i]? = some (some (.ref a))
theorem slots_mu : ∀ {as : List Ar} {sl : List Sl} {i : Nat}, slotsOf env as = some sl → i ∈ bors as → ∃ b ds, env[i]? = some (.mu b ds)
  | [], _, _, _, h => by simp [bors] at h
  | .val d :: as, sl, i, e, h => by
    obtain ⟨s2, h1, _⟩ := Option.map_eq_some_iff.mp e
    exact slots_mu h1 (by simpa [bors] using h)
  | .bor j :: as, sl, i, e, h => by
    obtain ⟨p, h1, h2⟩ := Option.bind_eq_some_iff.mp e
    obtain ⟨s2, h3, _⟩ := Option.map_eq_some_iff.mp h2
    rcases List.mem_cons.mp (show i ∈ j :: bors as from h) with z | z
    · subst z; exact ⟨p.1, p.2, own_of h1⟩
    · exact slots_mu h3 z
theorem Lent.own (R : ER K Wp Fb L H σ env) {as : List Ar} {sl : List Sl} (e : slotsOf env as = some sl) : ∀ a, Lent σ as a → L a := fun a ⟨i, hi, hs⟩ => by
  obtain ⟨b, ds, he⟩ := slots_mu e hi
  obtain ⟨a', vs, e1, la, _⟩ := R.sl i _ he
  rw [hs] at e1
  cases e1
  exact la
/-- what is not lent of one's own is another's there -/
def Rest (Fb L M : AS) : AS := fun a => Fb a ∨ (L a ∧ ¬ M a)
theorem rest_mv {M : AS} (hM : ∀ a, M a → L a) : Mv (U L Fb) H (U M (Rest Fb L M)) H := fun a o n e _ => ⟨fun z => n (z.elim (fun z => .inl (hM a z)) fun z => z.elim .inr fun z => .inl z.1), e⟩
theorem mv_rest {M : AS} {H' : Hp} (g : ∀ a o, H a = some o → ¬ M a → H' a = some o) : Mv (U M (Rest Fb L M)) H (U M (Rest Fb L M)) H' := fun a o n e _ => ⟨n, g a o e fun z => n (.inl z)⟩
theorem unrest_mv {M : AS} : Mv (U M (Rest Fb L M)) H (U L Fb) H := fun a o n e _ => ⟨fun z => n (z.elim (fun z => by
  by_cases h : M a
  · exact .inl h
  · exact .inr (.inr ⟨z, h⟩)) fun z => .inr (.inl z)), e⟩
theorem own_env {i : Nat} {p : Bool × List D} (h : own? env i = some p) : env[i]? = some (.mu p.1 p.2) := own_of (b := p.1) (ds := p.2) h
/-- the def's slots stand for its arguments -/
theorem slots_at {vs : List V} (R : ER K Wp Fb L H σ env) {M : AS} (hM : ∀ a, M a → L a) : ∀ {as : List Ar} {sl : List Sl} {us : List V}, All2 (fun a v => ρAr K σ a v (U L Fb) H) as us → slotsOf env as = some sl → (∀ a, Lent σ as a → M a) →
    sl.length = us.length ∧ ∀ (i : Nat) (s : Sl), sl[i]? = some s → (∃ v d, us[i]? = some v ∧ s = .im d ∧ Dn K (U M (Rest Fb L M)) H v d) ∨
      (∃ (j : Nat) (a : Addr) (b : Bool) (ds : List D) (ws : List V), as[i]? = some (.bor j) ∧ us[i]? = some (.ref a) ∧ σ[j]? = some (some (.ref a)) ∧ env[j]? = some (.mu b ds) ∧ s = .mu true ds ∧ M a ∧ H a = some (.lst ws) ∧ DnA K (U M (Rest Fb L M)) H ws ds)
  | [], sl, us, h, e, hl => by
    cases h
    cases e
    exact ⟨rfl, fun i s h => by simp at h⟩
  | .val d :: as, sl, us, h, e, hl => by
    cases h with
    | cons h1 h2 =>
      obtain ⟨s2, e2, rfl⟩ := Option.map_eq_some_iff.mp e
      obtain ⟨l1, f1⟩ := slots_at (vs := vs) R hM h2 e2 (fun a ⟨i, hi, hs⟩ => hl a ⟨i, hi, hs⟩)
      refine ⟨by simp [l1], fun i s hs => ?_⟩
      cases i with
      | zero =>
        simp at hs
        subst hs
        exact .inl ⟨_, d, rfl, rfl, Dn.mv (rest_mv hM) h1⟩
      | succ i => exact f1 i s (by simpa using hs)
  | .bor j :: as, sl, us, h, e, hl => by
    cases h with
    | cons h1 h2 =>
      obtain ⟨p, e1, e⟩ := Option.bind_eq_some_iff.mp e
      obtain ⟨s2, e2, rfl⟩ := Option.map_eq_some_iff.mp e
      obtain ⟨l1, f1⟩ := slots_at (vs := vs) R hM h2 e2 (fun a ⟨i, hi, hs⟩ => hl a ⟨i, List.mem_cons_of_mem _ hi, hs⟩)
      refine ⟨by simp [l1], fun i s hs => ?_⟩
      cases i with
      | zero =>
        simp at hs
        subst hs
        obtain ⟨a, ws, e3, la, h3, h4, _⟩ := R.sl j _ (own_env e1)
        have h1 : σ[j]? = some (some _) := h1
        rw [e3] at h1
        cases h1
        exact .inr ⟨j, a, p.1, p.2, ws, rfl, rfl, e3, own_env e1, rfl, hl a ⟨j, List.mem_cons_self, e3⟩, h3, h4.mv (rest_mv hM)⟩
      | succ i => exact f1 i s (by simpa using hs)
theorem bors_get : ∀ {as : List Ar} {i j : Nat}, as[i]? = some (.bor j) → j ∈ bors as
  | [], _, _, h => by simp at h
  | .val d :: as, 0, j, h => by simp at h
  | .val d :: as, i + 1, j, h => by
    show j ∈ bors as
    exact bors_get (i := i) (by simpa using h)
  | .bor k :: as, 0, j, h => by
    simp at h
    subst h
    exact List.mem_cons_self
  | .bor k :: as, i + 1, j, h => List.mem_cons_of_mem _ (bors_get (i := i) (by simpa using h))
theorem bors_inj : ∀ {as : List Ar} {i k j : Nat}, (bors as).Nodup → as[i]? = some (.bor j) → as[k]? = some (.bor j) → i = k
  | [], _, _, _, _, h, _ => by simp at h
  | .val d :: as, 0, _, j, _, h, _ => by simp at h
  | .val d :: as, _ + 1, 0, j, _, _, h => by simp at h
  | .val d :: as, i + 1, k + 1, j, n, h, g => by rw [bors_inj (as := as) (i := i) (k := k) (j := j) n (by simpa using h) (by simpa using g)]
  | .bor m :: as, 0, 0, j, _, _, _ => rfl
  | .bor m :: as, 0, k + 1, j, n, h, g => by
    simp at h
    subst h
    exact ((List.nodup_cons.mp n).1 (bors_get (i := k) (by simpa using g))).elim
  | .bor m :: as, i + 1, 0, j, n, h, g => by
    simp at g
    subst g
    exact ((List.nodup_cons.mp n).1 (bors_get (i := i) (by simpa using h))).elim
  | .bor m :: as, i + 1, k + 1, j, n, h, g => by rw [bors_inj (as := as) (i := i) (k := k) (j := j) (List.nodup_cons.mp n).2 (by simpa using h) (by simpa using g)]
theorem map_some_get {us : List V} {i : Nat} {v : V} (h : us[i]? = some v) : (us.map some)[i]? = some (some v) := by
  rw [List.getElem?_map, h]; rfl
theorem get_map_some {us : List V} {i : Nat} {v : V} (h : (us.map some)[i]? = some (some v)) : us[i]? = some v := by
  rw [List.getElem?_map] at h
  obtain ⟨x, h1, h2⟩ := Option.map_eq_some_iff.mp h
  cases h2
  exact h1
/-- how the def starts -/
theorem ER.lend (R : ER K Wp Fb L H σ env) {as : List Ar} {sl : List Sl} {us : List V} (h : All2 (fun a v => ρAr K σ a v (U L Fb) H) as us) (e : slotsOf env as = some sl) (nd : (bors as).Nodup) :
    ER K (us.map some) (Rest Fb L (Lent σ as)) (Lent σ as) H (us.map some) sl ∧ Only us sl (Lent σ as) := by
  have hM := Lent.own R e
  obtain ⟨l1, f⟩ := slots_at (vs := us) R hM h e fun _ z => z
  refine ⟨⟨by simpa using l1, fun a h => R.trk a (h.elim (fun z => .inl (hM a z)) fun z => z.elim .inr fun z => .inl z.1), fun a h z => z.elim (R.dis a (hM a h)) fun z => z.2 h, fun i s hs => ?_, fun i k b c ds es a ne e1 e2 e3 e4 => ?_⟩, fun a ⟨j, hj, hs⟩ => ?_⟩
  · rcases f i s hs with ⟨v, d, h1, rfl, h2⟩ | ⟨j, a, b, ds, ws, h1, h2, h3, h4, rfl, h5, h6, h7⟩
    · exact ⟨v, map_some_get h1, h2⟩
    · exact ⟨a, ws, map_some_get h2, h5, h6, h7, fun _ => map_some_get h2⟩
  · rcases f i _ e1 with ⟨v, d, h1, h2, _⟩ | ⟨j, a1, b1, ds1, ws, h1, h2, h3, h4, h5, _⟩
    · cases h2
    · rcases f k _ e2 with ⟨v, d, g1, g2, _⟩ | ⟨m, a2, b2, ds2, ws2, g1, g2, g3, g4, g5, _⟩
      · cases g2
      · have q1 := get_map_some e3
        have q2 := get_map_some e4
        rw [h2] at q1
        rw [g2] at q2
        cases q1
        cases q2
        by_cases hjm : j = m
        · subst hjm
          exact ne (bors_inj nd h1 g1)
        · exact R.apart j m _ _ _ _ a hjm h4 g4 h3 g3
  · -- each lent one has its place
    have find : ∀ {as : List Ar} {j : Nat}, j ∈ bors as → ∃ i : Nat, as[i]? = some (Ar.bor j) := by
      intro as
      induction as with
      | nil => intro j h; simp [bors] at h
      | cons x as ih =>
        intro j h
        cases x with
        | val d =>
          obtain ⟨i, hi⟩ := ih (show j ∈ bors as from h)
          exact ⟨i + 1, by simpa using hi⟩
        | bor m =>
          rcases List.mem_cons.mp (show j ∈ m :: bors as from h) with z | z
          · subst z; exact ⟨0, rfl⟩
          · obtain ⟨i, hi⟩ := ih z
            exact ⟨i + 1, by simpa using hi⟩
    obtain ⟨i, hi⟩ := find hj
    obtain ⟨v, h1, h2⟩ := h.get hi
    have h2 : σ[j]? = some (some v) := h2
    rw [hs] at h2
    cases h2
    have hlt : i < sl.length := by
      rw [l1]
      exact (List.getElem?_eq_some_iff.mp h1).1
    rcases f i sl[i] (by simp [hlt]) with ⟨v, d, g1, g2, g3⟩ | ⟨m, a1, b1, ds1, ws, g1, g2, g3, g4, g5, _⟩
    · exfalso
      -- a lent place has no data slot
      have : ∀ {as : List Ar} {sl : List Sl} {i j : Nat}, slotsOf env as = some sl → as[i]? = some (.bor j) → ∃ ds, sl[i]? = some (.mu true ds) := by
        intro as
        induction as with
        | nil => intro sl i j _ h; simp at h
        | cons x as ih =>
          intro sl i j e h
          cases x with
          | val d =>
            obtain ⟨s2, e2, rfl⟩ := Option.map_eq_some_iff.mp e
            cases i with
            | zero => simp at h
            | succ i =>
              have q := ih (sl := s2) (i := i) (j := j) e2 (by simpa using h)
              simpa using q
          | bor m =>
            obtain ⟨p, e1, e⟩ := Option.bind_eq_some_iff.mp e
            obtain ⟨s2, e2, rfl⟩ := Option.map_eq_some_iff.mp e
            cases i with
            | zero => exact ⟨p.2, rfl⟩
            | succ i =>
              have q := ih (sl := s2) (i := i) (j := j) e2 (by simpa using h)
              simpa using q
      obtain ⟨ds, z⟩ := this e hi
      rw [List.getElem?_eq_getElem hlt, g2] at z
      cases z
    · exact ⟨i, ds1, by rw [List.getElem?_eq_getElem hlt, g5], h1⟩
/-- behind the call -/
theorem ER.taken {H' : Hp} {M : AS} (hM : ∀ a, M a → L a) (keep : ∀ a o, H a = some o → ¬ M a → H' a = some o) : ∀ {as : List Ar} {sl' : List Sl} {env' : En} {env : En} {us : List V}, (bors as).Nodup → (∀ j ∈ bors as, ∃ (b : Bool) (ds : List D), env[j]? = some (Sl.mu b ds)) →
    -- the slots not yet taken back stand as they did, those lent are still out
    (∃ env0, ER K Wp Fb L H σ env0 ∧ env.length = env0.length ∧ (∀ (i : Nat) (b : Bool) (ds : List D), env[i]? = some (Sl.mu b ds) → ∃ ds0 : List D, env0[i]? = some (Sl.mu b ds0)) ∧
      ∀ (i : Nat) (s : Sl), env[i]? = some s → i ∉ bors as → Slk K Wp (U L Fb) L H' i σ[i]? s) →
    All2 (fun a v => ∀ j, a = .bor j → σ[j]? = some (some v)) as us → (∀ (i : Nat) (ds : List D) (a : Addr), sl'[i]? = some (Sl.mu true ds) → us[i]? = some (.ref a) → ∃ ws, L a ∧ H' a = some (.lst ws) ∧ DnA K (U L Fb) H' ws ds) →
    takeBack env as sl' = some env' → ∃ env0, ER K Wp Fb L H σ env0 ∧ env'.length = env0.length ∧ (∀ (i : Nat) (b : Bool) (ds : List D), env'[i]? = some (Sl.mu b ds) → ∃ ds0 : List D, env0[i]? = some (Sl.mu b ds0)) ∧ ∀ (i : Nat) (s : Sl), env'[i]? = some s → Slk K Wp (U L Fb) L H' i σ[i]? s
  | [], [], env', env, us, nd, hb, ⟨env0, R, el, em, h⟩, ha, hs, e => by
    cases e
    exact ⟨env0, R, el, em, fun i s z => h i s z (by simp [bors])⟩
  | [], _ :: _, env', env, us, nd, hb, h, ha, hs, e => by cases e
  | .val d :: as, [], env', env, us, nd, hb, h, ha, hs, e => by cases e
  | .bor j :: as, [], env', env, us, nd, hb, h, ha, hs, e => by cases e
  | .val d :: as, _ :: sl, env', env, us, nd, hb, h, ha, hs, e => by
    cases ha with
    | cons h1 h2 => exact ER.taken hM keep (as := as) (sl' := sl) nd hb h h2 (fun i ds a z1 z2 => hs (i + 1) ds a (by simpa using z1) (by simpa using z2)) e
  | .bor j :: as, .no :: sl, env', env, us, nd, hb, h, ha, hs, e => by cases e
  | .bor j :: as, .im d :: sl, env', env, us, nd, hb, h, ha, hs, e => by cases e
  | .bor j :: as, .mu bb ds :: sl, env', env, us, nd, hb, ⟨env0, R, el, em, h⟩, ha, hs, e => by
    cases ha with
    | cons h1 h2 =>
      cases bb with
      | false => cases e
      | true =>
      obtain ⟨p, ho, e⟩ := Option.bind_eq_some_iff.mp e
      have he := own_env ho
      have hlt : j < env.length := (List.getElem?_eq_some_iff.mp he).1
      obtain ⟨ds0, he0⟩ := em j _ _ he
      obtain ⟨a, ws0, e1, la, _, _, w⟩ := R.sl j _ he0
      have e2 := h1 j rfl
      rw [e1] at e2
      cases e2
      obtain ⟨ws, la2, h3, h4⟩ := hs 0 ds a rfl rfl
      refine ER.taken hM keep (as := as) (sl' := sl) (List.nodup_cons.mp nd).2 (fun k hk => ?_) ⟨env0, R, by simpa using el, fun i b es z => ?_, fun i s z hi => ?_⟩ h2 (fun i ds a z1 z2 => hs (i + 1) ds a (by simpa using z1) (by simpa using z2)) e
      · have nk : j ≠ k := fun z => (List.nodup_cons.mp nd).1 (by rw [z]; exact hk)
        obtain ⟨b, es, z⟩ := hb k (List.mem_cons_of_mem _ hk)
        exact ⟨b, es, by rw [List.getElem?_set_ne nk]; exact z⟩
      · by_cases hj : j = i
        · subst hj
          rw [List.getElem?_set_self hlt] at z
          cases z
          exact ⟨ds0, he0⟩
        · rw [List.getElem?_set_ne hj] at z
          exact em i b es z
      · by_cases hj : j = i
        · subst hj
          rw [List.getElem?_set_self hlt] at z
          cases z
          exact ⟨a, ws, e1, la, h3, h4, w⟩
        · rw [List.getElem?_set_ne hj] at z
          exact h i s z fun w => (List.mem_cons.mp w).elim (fun q => hj q.symm) hi
end
theorem ER.call {K : Fr0} {Wp σ : L2.St} {Fb L : AS} {H H' : Hp} {env env' : En} {as : List Ar} {sl sl' : List Sl} {us : List V} (R : ER K Wp Fb L H σ env) (h : All2 (fun a v => ρAr K σ a v (U L Fb) H) as us) (e : slotsOf env as = some sl) (nd : (bors as).Nodup)
    (keep : ∀ a o, H a = some o → ¬ Lent σ as a → H' a = some o) (R2 : ER K (us.map some) (Rest Fb L (Lent σ as)) (Lent σ as) H' (us.map some) sl') (e2 : takeBack env as sl' = some env') : ER K Wp Fb L H' σ env' ∧ Tr H L H' L := by
  have hM := Lent.own R e
  have mm : Mv (U L Fb) H (U L Fb) H' := fun a o n ea _ => ⟨n, keep a o ea fun z => n (.inl (hM a z))⟩
  obtain ⟨env0, R0, el, em, hsl⟩ := ER.taken (Fb := Fb) (L := L) (Wp := Wp) (K := K) hM keep (as := as) (sl' := sl') (env' := env') (env := env) (us := us) nd (fun j hj => slots_mu e hj)
    ⟨env, R, rfl, fun i b ds z => ⟨ds, z⟩, fun i s z hi => by
      have q := R.sl i s z
      cases s with
      | no => trivial
      | im d => obtain ⟨v, e1, h⟩ := q; exact ⟨v, e1, h.mv mm⟩
      | mu b ds =>
        obtain ⟨a, ws, e1, la, h1, h2, w⟩ := q
        refine ⟨a, ws, e1, la, keep a _ h1 fun ⟨j, hj, hs⟩ => ?_, h2.mv mm, w⟩
        obtain ⟨c, es, he⟩ := slots_mu e hj
        have ne : i ≠ j := fun w => hi (by rw [w]; exact hj)
        exact R.apart i j _ _ _ _ a ne z he e1 hs⟩
    (h.imp fun a v z j ej => by subst ej; exact z)
    (fun i ds a z1 z2 => by
      obtain ⟨a', ws, e1, la, h1, h2, w⟩ := R2.sl i _ z1
      have z3 := map_some_get z2
      rw [z3] at e1
      cases e1
      exact ⟨ws, hM a la, h1, h2.mv unrest_mv⟩) e2
  refine ⟨⟨by rw [el]; exact R0.len, fun a z => ?_, R.dis, hsl, fun i j b c ds es a ne e1 e3 e4 => ?_⟩, fun a o ea na => ⟨keep a o ea fun z => na (hM a z), na⟩⟩
  · obtain ⟨o, ea⟩ := R.trk a z
    by_cases ha : Lent σ as a
    · obtain ⟨o', e'⟩ := R2.trk a (.inl ha)
      exact ⟨o', e'⟩
    · exact ⟨o, keep a o ea ha⟩
  · obtain ⟨_, f1⟩ := em i _ _ e1
    obtain ⟨_, f2⟩ := em j _ _ e3
    exact R0.apart i j _ _ _ _ a ne f1 f2 e4
section
variable {X : Cx} {W : WX}
theorem pd_call {x : Str} {p pos : Pos} {e : Expr} {es : List Expr} {G : Gm (List Ar)} {F : List Sl → Option FR} {k : Nat} {f : Addr} {fd : FuncData} {ps : List Str} (Fn : FnOk X.prog X.w X.K X.mg X.base (L2.CX X.prog X.w) k f fd ps (spF X.K X.mg F)) (hr : Room k X.A)
    (hg : Gl X x) (hm : X.mg x = some (.ref f)) (hk : PySem.W.keepIn X.K (.ref f) = true) (hb : Binds X.K fd ps []) (tk : Takes X W) (ha : PDR X W (e :: es) G)
    (pc : ∀ {E : L2.St → XK} {ta : TA}, (∀ σ, PassesAt (L2.CX X.prog X.w) X σ (E σ)) → PA X (e :: es) ta → PE X (.Call (.Name x p) (e :: es) [] pos) (tCallS (spF X.K X.mg F) E ta)) : PD X W (.Call (.Name x p) (e :: es) [] pos) (gCallF F G) :=
  ⟨PE.wk (pc (fun σ => passAt tk σ) ha.pa) fun σ H Q q => (tG.seq (ρ := ρAs X.K σ) q).mono fun us H1 z => by
    obtain ⟨as, Wp, Fb, L, env, r, hx, R, g, k⟩ := z
    dsimp only at g
    split at g
    · cases g
    rename_i sl hsl
    split at g
    rotate_left
    · cases g
    rename_i nd
    obtain ⟨RC, on⟩ := R.lend hx hsl nd
    split at g
    · cases g
    · rename_i d sl' hF
      obtain ⟨e1, h1, rfl⟩ := Option.map_eq_some_iff.mp g
      refine ⟨_, _, sl, _, RC, on, hF, fun v H' keep R2 dn => ?_⟩
      obtain ⟨R3, t3⟩ := R.call hx hsl nd keep R2 h1
      exact k H' L t3 R3 v (dn.mv unrest_mv)
    · rename_i c fs sl' hF
      obtain ⟨e1, h1, rfl⟩ := Option.map_eq_some_iff.mp g
      refine ⟨_, _, sl, _, RC, on, hF, fun cls dd H' keep R2 x => ?_⟩
      obtain ⟨R3, t3⟩ := R.call hx hsl nd keep R2 h1
      refine k cls dd H' L t3 R3 ⟨x.1, ?_⟩
      have x2 := x.2
      match fs, x2 with
      | [], x2 => exact x2
      | [(f, d)], ⟨a, v, ea, na, ha, hd⟩ => exact ⟨a, v, ea, (unrest_mv (H := H') a _ na ha nt_xd).1, ha, hd.mv unrest_mv⟩⟩
end
end PD
namespace PD
open PySem PySem.Spec PyProof.Rows L2
/-- the slots lent come back, the others are as the caller has them -/
def retSl : List Sl → En → Option (List Sl)
  | [], _ => some []
  | .mu true _ :: sl, .mu true ds :: e => (retSl sl e).map (.mu true ds :: ·)
  | .mu true _ :: _, _ => none
  | s :: sl, _ :: e => (retSl sl e).map (s :: ·)
  | _ :: _, [] => none
def fnF (n m : Nat) (B : Gs) : List Sl → Option FR := fun sl => if sl.length = n then match B (sl ++ List.replicate (m - n) .no) with
    | some (.nx e) => (retSl sl e).map (.val .none)
    | some (.rt d e) => (retSl sl e).map (.val d)
    | some (.ex c fs e) => (retSl sl e).map (.exc c fs)
    | _ => none
  else none
theorem retSl_get : ∀ {sl : List Sl} {e : En} {sl' : List Sl}, retSl sl e = some sl' → sl'.length = sl.length ∧ ∀ (i : Nat) (s : Sl), sl'[i]? = some s → (∃ ds ds0, s = .mu true ds ∧ sl[i]? = some (.mu true ds0) ∧ e[i]? = some (.mu true ds)) ∨ ((∀ ds, s ≠ .mu true ds) ∧ sl[i]? = some s)
  | [], e, sl', h => by
    cases e <;> (cases h; exact ⟨rfl, fun i s h => by simp at h⟩)
  | .mu true ds0 :: sl, .mu true ds :: e, sl', h => by
    obtain ⟨s2, h1, rfl⟩ := Option.map_eq_some_iff.mp (show (retSl sl e).map (.mu true ds :: ·) = some sl' from h)
    obtain ⟨l1, f⟩ := retSl_get h1
    refine ⟨by simp [l1], fun i s hs => ?_⟩
    cases i with
    | zero => simp at hs; subst hs; exact .inl ⟨ds, ds0, rfl, rfl, rfl⟩
    | succ i => exact f i s (by simpa using hs)
  | .mu true _ :: _, [], _, h => by cases h
  | .mu true _ :: _, .no :: _, _, h => by cases h
  | .mu true _ :: _, .im _ :: _, _, h => by cases h
  | .mu true _ :: _, .mu false _ :: _, _, h => by cases h
  | .no :: sl, x :: e, sl', h => by
    obtain ⟨s2, h1, rfl⟩ := Option.map_eq_some_iff.mp (show (retSl sl e).map (.no :: ·) = some sl' by cases x <;> exact h)
    obtain ⟨l1, f⟩ := retSl_get h1
    refine ⟨by simp [l1], fun i s hs => ?_⟩
    cases i with
    | zero => simp at hs; subst hs; exact .inr ⟨(fun ds z => by cases z), rfl⟩
    | succ i => exact f i s (by simpa using hs)
  | .im d :: sl, x :: e, sl', h => by
    obtain ⟨s2, h1, rfl⟩ := Option.map_eq_some_iff.mp (show (retSl sl e).map (.im d :: ·) = some sl' by cases x <;> exact h)
    obtain ⟨l1, f⟩ := retSl_get h1
    refine ⟨by simp [l1], fun i s hs => ?_⟩
    cases i with
    | zero => simp at hs; subst hs; exact .inr ⟨(fun ds z => by cases z), rfl⟩
    | succ i => exact f i s (by simpa using hs)
  | .mu false d :: sl, x :: e, sl', h => by
    obtain ⟨s2, h1, rfl⟩ := Option.map_eq_some_iff.mp (show (retSl sl e).map (.mu false d :: ·) = some sl' by cases x <;> exact h)
    obtain ⟨l1, f⟩ := retSl_get h1
    refine ⟨by simp [l1], fun i s hs => ?_⟩
    cases i with
    | zero => simp at hs; subst hs; exact .inr ⟨(fun ds z => by cases z), rfl⟩
    | succ i => exact f i s (by simpa using hs)
  | .no :: _, [], _, h => by cases h
  | .im _ :: _, [], _, h => by cases h
  | .mu false _ :: _, [], _, h => by cases h
/-- a lent slot is given back -/
theorem retSl_of : ∀ {sl : List Sl} {e : En} {sl' : List Sl} {i : Nat} {ds0 : List D}, retSl sl e = some sl' → sl[i]? = some (.mu true ds0) → ∃ ds, e[i]? = some (.mu true ds) ∧ sl'[i]? = some (.mu true ds) := fun {sl e sl' i ds0} h hs => by
  obtain ⟨l1, f⟩ := retSl_get h
  have hlt : i < sl'.length := by
    rw [l1]
    exact (List.getElem?_eq_some_iff.mp hs).1
  rcases f i sl'[i] (by simp [hlt]) with ⟨ds, d0, h1, h2, h3⟩ | ⟨h1, h2⟩
  · exact ⟨ds, h3, by rw [List.getElem?_eq_getElem hlt, h1]⟩
  · rw [hs] at h2
    exact (h1 ds0 (Option.some.inj h2).symm).elim
section
variable {P : Program} {w : World} {K : Fr0} {mg : Str → Option Value} {base : Heap}
theorem start_get {N : List Str} {vs : List V} {i : Nat} (hi : i < vs.length) : (L2.start N vs)[i]? = (vs.map some)[i]? := by
  unfold L2.start
  rw [List.getElem?_append_left (by simpa using hi)]
theorem ER.begin {Fb L : AS} {H : Hp} {vs : List V} {sl : List Sl} {N : List Str} (R : ER K (vs.map some) Fb L H (vs.map some) sl) (hl : vs.length ≤ N.length) : ER K (L2.start N vs) Fb L H (L2.start N vs) (sl ++ List.replicate (N.length - vs.length) .no) := by
  have el : sl.length = vs.length := by simpa using R.len
  have split : ∀ {i : Nat} {s : Sl}, (sl ++ List.replicate (N.length - vs.length) Sl.no)[i]? = some s → (i < vs.length ∧ sl[i]? = some s) ∨ s = .no := fun {i s} h => by
    by_cases hi : i < sl.length
    · rw [List.getElem?_append_left hi] at h
      exact .inl ⟨by rw [← el]; exact hi, h⟩
    · rw [List.getElem?_append_right (by omega)] at h
      obtain ⟨_, h2⟩ := List.getElem?_eq_some_iff.mp h
      rw [List.getElem_replicate] at h2
      exact .inr h2.symm
  refine ⟨by unfold L2.start; simp [el], R.trk, R.dis, fun i s e => ?_, fun i j b c ds es a ne e1 e2 e3 => ?_⟩
  · rcases split e with ⟨hi, h⟩ | rfl
    · have q := R.sl i s h
      rw [start_get hi]
      cases s with
      | no => trivial
      | im d => exact q
      | mu b ds =>
        obtain ⟨a, ws, q1, q2, q3, q4, q5⟩ := q
        exact ⟨a, ws, q1, q2, q3, q4, fun z => by rw [start_get hi]; exact q5 z⟩
    · trivial
  · rcases split e1 with ⟨hi, h⟩ | z
    · rcases split e2 with ⟨hj, h'⟩ | z
      · rw [start_get hi] at e3
        rw [start_get hj]
        exact R.apart i j b c ds es a ne h h' e3
      · cases z
    · cases z
/-- the end of a def: what the caller has -/
theorem ER.ended {Fb L L' : AS} {H H' : Hp} {vs : List V} {sl sl' : List Sl} {N : List Str} {σ' : L2.St} {e : En} (R : ER K (vs.map some) Fb L H (vs.map some) sl) (on : Only vs sl L) (R' : ER K (L2.start N vs) Fb L' H' σ' e) (t : Tr H L H' L') (h : retSl sl e = some sl') :
    ER K (vs.map some) Fb L H' (vs.map some) sl' ∧ Mv (U L' Fb) H' (U L Fb) H' ∧ (∀ a o, H a = some o → ¬ L a → H' a = some o) := by
  have el : sl.length = vs.length := by simpa using R.len
  have ll : ∀ a, L a → L' a := fun a la => by
    obtain ⟨i, ds0, h1, h2⟩ := on a la
    obtain ⟨ds, h3, h4⟩ := retSl_of h h1
    obtain ⟨a', ws, _, la', _, _, w⟩ := R'.sl i _ h3
    have hi : i < vs.length := (List.getElem?_eq_some_iff.mp h2).1
    have q := w rfl
    rw [start_get hi, map_some_get h2] at q
    cases q
    exact la'
  have m : Mv (U L' Fb) H' (U L Fb) H' := fun a o n ea _ => ⟨fun z => n (z.elim (fun z => .inl (ll a z)) .inr), ea⟩
  have keep : ∀ a o, H a = some o → ¬ L a → H' a = some o := fun a o ea na => (t a o ea na).1
  have mm : Mv (U L Fb) H (U L Fb) H' := fun a o n ea _ => ⟨n, keep a o ea fun z => n (.inl z)⟩
  obtain ⟨l1, f⟩ := retSl_get h
  refine ⟨⟨by rw [l1]; exact R.len, fun a z => ?_, R.dis, fun i s hs => ?_, fun i j b c ds es a ne e1 e2 e3 => ?_⟩, m, keep⟩
  · rcases z with z | z
    · exact R'.trk a (.inl (ll a z))
    · exact R'.trk a (.inr z)
  · rcases f i s hs with ⟨ds, ds0, rfl, h1, h2⟩ | ⟨h1, h2⟩
    · obtain ⟨a, ws, q1, la', q3, q4, w⟩ := R'.sl i _ h2
      obtain ⟨a0, ws0, p1, la0, p3, p4, p5⟩ := R.sl i _ h1
      have hi : i < vs.length := by
        rw [← el]
        exact (List.getElem?_eq_some_iff.mp h1).1
      have q := w rfl
      rw [start_get hi, p1] at q
      cases q
      exact ⟨a, ws, p1, la0, q3, q4.mv m, p5⟩
    · have q := R.sl i s h2
      cases s with
      | no => trivial
      | im d => obtain ⟨v, e1, h⟩ := q; exact ⟨v, e1, h.mv mm⟩
      | mu b ds =>
        cases b with
        | true => exact (h1 ds rfl).elim
        | false =>
          obtain ⟨a, ws, q1, la, q3, q4, w⟩ := q
          obtain ⟨k, ds2, h3, h4⟩ := on a la
          exact (R.apart i k _ _ _ _ a (fun z => by subst z; rw [h2] at h3; cases h3) h2 h3 q1 (map_some_get h4)).elim
  · have old : ∀ {i : Nat} {b : Bool} {ds : List D}, sl'[i]? = some (.mu b ds) → ∃ ds0, sl[i]? = some (.mu b ds0) := fun {i b ds} z => by
      rcases f i _ z with ⟨ds1, ds0, h0, h1, h2⟩ | ⟨h1, h2⟩
      · cases h0; exact ⟨ds0, h1⟩
      · exact ⟨ds, h2⟩
    obtain ⟨_, f1⟩ := old e1
    obtain ⟨_, f2⟩ := old e2
    exact R.apart i j _ _ _ _ a ne f1 f2 e3
theorem fn_pd {x qual : Str} {st : Stmt} {f : Addr} {fd : FuncData} {N ps : List Str} {k : Nat} {B : Gs} (Fn : Fun K x qual st f fd) (S : FnScope N ps (defScope st)) (hn : ps.length ≤ N.length)
    (body : ∀ (cdv : Value) (A : Around) (outer : List Env) (s : Shared) (H : Hp) (E : XK), Room k (A.deeper (envOfC qual (defScope st) s.heap.objs.size f cdv)) →
      PDSs (cxOf (L2.CX P w) P w K mg base N qual (defScope st) f cdv A outer s H E) (fun cls d _ H' => E cls d H') (defBody st) B) : FnOk P w K mg base (L2.CX P w) (k + 1) f fd ps (spF K mg (fnF ps.length N.length B)) := by
  have len : ∀ vs H Q E, spF K mg (fnF ps.length N.length B) vs H Q E → vs.length = ps.length := fun vs H Q E h => by
    obtain ⟨Fb, L, sl, r, R, on, hF, _⟩ := h
    have el : sl.length = vs.length := by simpa using R.len
    unfold fnF at hF
    split at hF
    · rename_i h; rw [← el]; exact h
    · cases hF
  refine Fn.okX S len fun cdv A outer s H vs Q E hr h => ⟨_, (body cdv A outer s H E hr).pss, ?_⟩
  have hvl := len vs H Q E h
  obtain ⟨Fb, L, sl, r, R, on, hF, k⟩ := h
  have el : sl.length = vs.length := by simpa using R.len
  have R1 := R.begin (N := N) (by omega)
  unfold fnF at hF
  split at hF
  rotate_left
  · cases hF
  have er : N.length - vs.length = N.length - ps.length := by rw [hvl]
  rw [er] at R1
  split at hF
  · rename_i e hB
    obtain ⟨sl', h1, rfl⟩ := Option.map_eq_some_iff.mp hF
    refine ⟨L2.start N vs, Fb, L, _, _, R1, hB, fun σ' H' L' t R' => ?_⟩
    obtain ⟨R2, m, kp⟩ := R.ended on R' t h1
    exact k .non H' kp R2 .non
  · rename_i d e hB
    obtain ⟨sl', h1, rfl⟩ := Option.map_eq_some_iff.mp hF
    refine ⟨L2.start N vs, Fb, L, _, _, R1, hB, fun v σ' H' L' t R' hv => ?_⟩
    obtain ⟨R2, m, kp⟩ := R.ended on R' t h1
    exact k v H' kp R2 (hv.mv m)
  · rename_i c fs e hB
    obtain ⟨sl', h1, rfl⟩ := Option.map_eq_some_iff.mp hF
    refine ⟨L2.start N vs, Fb, L, _, _, R1, hB, fun cls dd σ' H' L' t R' hx => ?_⟩
    obtain ⟨R2, m, kp⟩ := R.ended on R' t h1
    refine k cls dd H' kp R2 ⟨hx.1, ?_⟩
    have x2 := hx.2
    match fs, x2 with
    | [], x2 => exact x2
    | [(f, d)], ⟨a, v, ea, na, ha, hd⟩ => exact ⟨a, v, ea, (m a _ na ha nt_xd).1, ha, hd.mv m⟩
  · cases hF
end
end PD
/-! Own errors over any built-in base, their __init__ a def of the text. -/
namespace PD
open PySem PySem.Spec PyProof.Rows L2
/-- what the written part says of such a class: all by looking -/
structure ExK (K : Fr0) (C : Addr) (B newId : String) (bmB : List Value) : Prop where
  ini : PySem.W.excInitIn K C bmB newId = true
  over : PySem.W.excOver K C bmB = true
  sa : PySem.W.findIn K (.ref C) "__setattr__" = some (some (.builtin "object.__setattr__"))
  hd : PySem.W.hasDictIn K C = true
  exC : PySem.W.subIn K (.ref C) (.type "BaseException") = some true
  tyC : PySem.W.typeIn K (.ref C) = some (.type "type")
  kC : PySem.W.keepIn K (.ref C) = true
section
open PySem.W PySem.HandSPX PySem.Builtin PySem.Builtin.ObjectAttr
variable {P : Program} {w : World} {A : Around} {R : Result → Shared → Prop} {hp : Heap} {g : Array GenState} {d : Drawn} {t : Nat} {os : OsState}
theorem first_field {K : Fr0} {name : Str} {tk : Tok} {v : Value} {x C : Addr} {fv : Array Value} {B newId : String} {bmB : List Value} (SF : StoreFacts B bmB "object.__setattr__" "object") (T : ExK K C B newId bmB)
    (kin : K.In hp) (hx : hp.get? x = some { cls := .ref C, data := .fields fv }) (ht : takerIn K C name = some none)
    (hq : ∀ h' tk' dx, (∀ b o, b ≠ x → hp.get? b = some o → h'.get? b = some o) → hp.objs.size ≤ dx → dx ≠ x → h'.get? x = some { cls := .ref C, dict := some dx, data := .fields fv } →
      h'.Ns1 dx (fun y => if y = name then some v else none) → R (.ok (.ret .none)) ⟨h', g, d, tk', os⟩) :
    codeAny (model P w) A (.call (.builtin "object.__setattr__") ⟨[.ref x, .str name tk, v], []⟩) R ⟨hp, g, d, t, os⟩ := by
  have J : InstAt hp x { cls := .ref C, data := .fields fv } C none := ⟨hx, rfl, rfl, trivial⟩
  have xs : x ≠ hp.objs.size := Nat.ne_of_lt (Heap.lt_size hx)
  obtain ⟨cd, hc, hdc⟩ := any_some T.hd
  have cl : Looks (model P w) hp (classData C) cd := looks_clsIn kin hc
  refine osa_openX (s := ⟨hp, g, d, t, os⟩) SF kin J T.over ht fun b => ?_
  show wpAny _ _ (storeInOwnDict (.ref x) (.ref C) (.str name tk) name v b) _ _ _
  obtain ⟨c1, c2, c3, c4, c5, c6, c7, c8, c9, c10, c11⟩ := cd
  dsimp only at hdc
  subst hdc
  cases b <;> unfold storeInOwnDict ownDictForStores
  all_goals repeat (first | with_reducible refine store_in_new ?_ ?_ | with_reducible refine wpAny_loadPart_at hx ?_ | with_reducible refine cl.at ?_ | wp_step)
  all_goals first
    | exact ⟨_, #[], _, (Heap.get?_update_ne _ _ _ _ xs.symm).trans (Heap.get?_push_at rfl rfl), rfl, fun e he => absurd he (by simp), fun _ => rfl⟩
    | (intro h' tk' hn' hs
       have hx2 : (hp.push { cls := .type "dict", data := .dict #[] }).get? x = some { cls := .ref C, data := .fields fv } := Heap.get?_push_of_some _ hx
       refine hq h' tk' hp.objs.size (fun b o hb ho => ?_) (Nat.le_refl _) xs.symm ((hs.2 x xs).trans (Heap.get?_update_self _ hx2 rfl)) hn'
       exact (hs.2 b (Nat.ne_of_lt (Heap.lt_size ho))).trans ((Heap.get?_update_ne _ _ _ _ hb).trans (Heap.get?_push_of_some _ ho)))
end
section
variable {X : Cx} {pins : List (Addr × Obj)} {σ : L2.St} {H : Hp} {s : Shared} {a C dx : Addr} {f : Str} {y : V} {u : Value}
theorem first_set {B newId : String} {bmB : List Value} {Q : Unit → Shared → Prop} {E : Value → Shared → Prop} {A : Around} (SF : PySem.StoreFacts B bmB "object.__setattr__" "object") (T : ExK X.K C B newId bmB) (I : Inv X pins σ H s) (e : H a = some (exo a C none))
    (ht : PySem.W.takerIn X.K C f = some none) (ry : RelV y u) (h : ∀ dx s', H dx = none → dx ≠ a → Inv X pins σ (upd (upd H dx (exd dx [(f, y)])) a (exo a C (some dx))) s' → Q () s') : wpAny (model X.prog X.w) A (setAttr (.ref a) f u) Q E s := by
  obtain ⟨t1, ho⟩ := exo_at I.hok e
  obtain ⟨hp, g, d, t, os⟩ := s
  refine PySem.W.set_plain I.kIn (ox := { cls := .ref C, dict := none, data := .fields #[.ref t1, .none, .none, .none, .bool false, .none] }) (od := none) ⟨ho, rfl, rfl, trivial⟩ T.sa ?_
  refine first_field SF T I.kIn ho ht fun h' tk' dx k dn dne hx hn => ?_
  have hnd : H dx = none := I.hok.fresh dn
  have nd : ∀ {b : Addr} {o : Obj}, hp.get? b = some o → b ≠ dx := fun {b o} q => Nat.ne_of_lt (Nat.lt_of_lt_of_le (Heap.lt_size q) dn)
  have na : ∀ {b : Addr}, H b = none → b ≠ a := fun {b} n z => by rw [z, e] at n; cases n
  have U1 : Un X.fs [] H (upd (upd H dx (exd dx [(f, y)])) a (exo a C (some dx))) hp h' := by
    refine ⟨fun b o q n _ _ => k b o (na n) q, fun b o q n _ _ => ⟨o.slots, k b o (na n) q⟩, fun b o q n _ => ?_, fun b o q _ => ?_, fun b xs q => ?_, fun b o v q => ?_, fun b ps q => ⟨#[], ?_⟩⟩
    · rw [upd_ne (na n), upd_ne (nd q)]; exact n
    · by_cases hb : b = a
      · subst hb; exact ⟨_, hx⟩
      · exact ⟨o, k b o hb q⟩
    · rw [upd_ne (at_ne e q exo_tup), upd_ne (ne_of_none q hnd)]; exact q
    · rw [upd_ne (at_ne e q exo_frz), upd_ne (ne_of_none q hnd)]; exact q
    · rw [upd_ne (at_ne e q exo_tbl), upd_ne (ne_of_none q hnd), q]; simp
  refine h dx _ hnd dne (I.un (t' := tk') U1 fun b o q => ?_)
  by_cases hb : b = a
  · subst hb
    rw [upd_same] at q
    cases q
    exact exo_ok hx
  · rw [upd_ne hb] at q
    by_cases hd : b = dx
    · subst hd
      rw [upd_same] at q
      cases q
      exact exd_ok hn (relO_put (fs := []) ry fun g => True.intro)
    · rw [upd_ne hd] at q
      refine (I.hok b o q).stay (fun c v hc z => k c v ?_ z) (fun c hc => ?_) fun c xs hc => ?_
      · rcases hc with hc | hc
        · rw [hc]; exact hb
        · exact at_ne e hc exo_own
      · rw [upd_ne (at_ne e hc exo_own), upd_ne (ne_of_none hc hnd)]; exact hc
      · rw [upd_ne (at_ne e hc exo_tup), upd_ne (ne_of_none hc hnd)]; exact hc
end
/-! ### the __init__ that stores its one argument -/
def tFs (K : Fr0) (C : Addr) (f : Str) (to te : TE) : TS := fun D σ H => te σ H fun y H1 => to σ H1 fun x H2 => ∃ a : Addr, x = .ref a ∧ H2 a = some (exo a C none) ∧ ∀ dx, H2 dx = none → dx ≠ a → D.nx σ (upd (upd H2 dx (exd dx [(f, y)])) a (exo a C (some dx)))
theorem ps_fs {X : Cx} {C : Addr} {o e : Expr} {to te : TE} {f : Str} {p' pos : Pos} {B newId : String} {bmB : List Value} (SF : PySem.StoreFacts B bmB "object.__setattr__" "object") (T : ExK X.K C B newId bmB) (ht : PySem.W.takerIn X.K C f = some none) (ho : PE X o to) (he : PE X e te)
    (hs : swapsWith e (some (.Attribute o f p')) pos.line X.env = pure false := by rfl) : PS X (.Assign [.Attribute o f p'] e pos) (tFs X.K C f to te) := ⟨fun pins s σ H D I h => by
  refine plainObj_wpAny_Assign_Attribute (thn (he.run pins s σ H _ I h) fun v s1 ⟨y, H1, I1, r1, q1⟩ => thn (ho.run pins s1 σ H1 _ I1 q1) fun u s2 ⟨x, H2, I2, r2, a, ex, ea, q⟩ => ?_) hs
  subst ex
  obtain rfl : u = Value.ref a := r2
  exact first_set SF T I2 ea ht r1 fun dx s' n ne J => ⟨σ, _, J, q dx n ne⟩⟩
def spIni (C : Addr) (f : Str) : Sp := fun vs H Q _ => ∃ (a : Addr) (v : V), vs = [.ref a, v] ∧ H a = some (exo a C none) ∧ ∀ dx, H dx = none → dx ≠ a → Q .non (upd (upd H dx (exd dx [(f, v)])) a (exo a C (some dx)))
/-- the __init__ that does nothing -/
def spIni0 (C : Addr) : Sp := fun vs H Q _ => ∃ (a : Addr), vs = [.ref a] ∧ H a = some (exo a C none) ∧ Q .non H
theorem ok_ini {P : Program} {w : World} {K : Fr0} {mg : Str → Option Value} {base : Heap} {C f0 : Addr} {x qual : Str} {st : Stmt} {fd : FuncData} {a1 a2 f : Str} {B newId : String} {bmB : List Value} (SF : PySem.StoreFacts B bmB "object.__setattr__" "object") (T : ExK K C B newId bmB)
    (ht : PySem.W.takerIn K C f = some none) (Fn : Fun K x qual st f0 fd) (S : FnScope [a1, a2] [a1, a2] (defScope st)) {p1 p2 p3 p4 : Pos} (hb : defBody st = [.Assign [.Attribute (.Name a1 p1) f p2] (.Name a2 p3) p4])
    (pv0 : ∀ X : Cx, X.N = [a1, a2] → X.env.scope = defScope st → PE X (.Name a1 p1) (tVar 0)) (pv1 : ∀ X : Cx, X.N = [a1, a2] → X.env.scope = defScope st → PE X (.Name a2 p3) (tVar 1))
    (hs : ∀ X : Cx, X.env.scope = defScope st → swapsWith (.Name a2 p3) (some (.Attribute (.Name a1 p1) f p2)) p4.line X.env = pure false) : FnOk P w K mg base (L2.CX P w) 1 f0 fd [a1, a2] (spIni C f) := by
  refine Fn.okX S (fun vs H Q E h => ?_) (fun cdv A outer s H vs Q E hr h => ?_)
  · obtain ⟨a, v, rfl, _⟩ := h
    rfl
  · obtain ⟨a, v, rfl, ha, q⟩ := h
    rw [hb]
    refine ⟨_, pss_one (ps_fs SF T ht (pv0 _ rfl rfl) (pv1 _ rfl rfl) (hs _ rfl)), v, rfl, .ref a, rfl, a, rfl, ha, fun dx h1 h2 => q dx h1 h2⟩
theorem ok_ini0 {P : Program} {w : World} {K : Fr0} {mg : Str → Option Value} {base : Heap} {C f0 : Addr} {x qual : Str} {st : Stmt} {fd : FuncData} {a1 : Str} (Fn : Fun K x qual st f0 fd) (S : FnScope [a1] [a1] (defScope st)) {p4 : Pos} (hb : defBody st = [.Pass p4]) : FnOk P w K mg base (L2.CX P w) 1 f0 fd [a1] (spIni0 C) := by
  refine Fn.okX S (fun vs H Q E h => ?_) (fun cdv A outer s H vs Q E hr h => ?_)
  · obtain ⟨a, rfl, _⟩ := h
    rfl
  · obtain ⟨a, rfl, ha, q⟩ := h
    rw [hb]
    exact ⟨_, pss_one ps_pass, q⟩
/-! ### made -/
section
variable {X : Cx} {C fI : Addr} {x : Str} {p pos : Pos} {B newId initId : String} {bmB : List Value} {k : Nat} {fd : FuncData}
/-- C(e) -/
theorem pmk_one {e : Expr} {ta : TA} {f : Str} {ps : List Str} (FB : ExcBaseFacts B newId initId bmB) (T : ExK X.K C B newId bmB) (iC : PySem.W.findIn X.K (.ref C) "__init__" = some (some (.ref fI))) (tI : PySem.W.typeIn X.K (.ref fI) = some (.type "function"))
    (F1 : FnOk X.prog X.w X.K X.mg X.base (L2.CX X.prog X.w) k fI fd ps (spIni C f)) (hr : Room (k + 1) X.A) (hb : Binds X.K fd ps []) (hg : Gl X x) (hm : X.mg x = some (.ref C)) (ha : PA X [e] ta)
    (hdb : (x == ("__debug__" : Str)) = false := by decide) (he : starEach [e] X.env = (false, eval e X.env) :: starEach [] X.env := by rfl) (hpl : (backTo pos (starEach [] X.env)).any (·.1) = false := by rfl) :
    PMk X (.Call (.Name x p) [e] [] pos) (fun σ H Q => ta σ H fun vs H1 => ∃ v, vs = [v] ∧ ∀ d, H1 d = none → Q (.ref C) (some d) (upd H1 d (.xd [(f, v)]))) := by
  intro pins s σ H Q I h
  refine wpAny_Call_Name_kw (ld_glob I hg hm ?_ hdb)
  refine PySem.W.callWith_K (h₀ := X.base) I.ok.mod.kin T.kC (thn (ha.run pos pins s σ H _ I h) fun us s1 ⟨vs, H1, I1, r1, q0⟩ => ⟨I1.kIn, ?_⟩) he hpl
  obtain ⟨v, ev, q1⟩ := q0
  subst ev
  obtain ⟨u, rfl, ru⟩ := Vals.one r1
  show wpAny _ _ (call (.ref C) [u]) _ _ _
  obtain ⟨hp, g, dr, tk, os⟩ := s1
  obtain ⟨nm, N', qn, bs, bm, hdct, sn, sub, ab, col, dd, k0, k1, k2, k3, k5, hC, hT⟩ := PySem.W.excInit_of I1.kIn T.ini
  have sz1 : hp.objs.size ≤ hp.objs.size + 1 := Nat.le_succ _
  have hn : H1 (hp.objs.size + 1) = none := I1.hok.fresh sz1
  have kk : ∀ b o, hp.get? b = some o → ((hp.push (PySem.W.kdv_tup [u])).push (PySem.HandSPX.excO C hp.objs.size)).get? b = some o := fun b o e => Heap.get?_push_of_some _ (Heap.get?_push_of_some _ e)
  have hget : ((hp.push (PySem.W.kdv_tup [u])).push (PySem.HandSPX.excO C hp.objs.size)).get? (hp.objs.size + 1) = some (PySem.HandSPX.excO C hp.objs.size) := by heap_get
  have I2 : Inv X pins σ (upd H1 (hp.objs.size + 1) (exo (hp.objs.size + 1) C none)) ⟨(hp.push (PySem.W.kdv_tup [u])).push (PySem.HandSPX.excO C hp.objs.size), g, dr, tk, os⟩ := I1.laid (t' := tk) (a := hp.objs.size + 1) (o := exo (hp.objs.size + 1) C none) kk sz1 (exo_ok hget)
  have hq : spIni C f [V.ref (hp.objs.size + 1), v] (upd H1 (hp.objs.size + 1) (exo (hp.objs.size + 1) C none))
      (fun z H2 => z = .non ∧ ∃ (d : Addr) (fs : List (Str × V)), H2 (hp.objs.size + 1) = some (exo (hp.objs.size + 1) C (some d)) ∧ H2 d = some (exd d fs) ∧ H1 d = none ∧ Q (.ref C) (some d) (upd (del H2 (hp.objs.size + 1)) d (.xd fs))) (fun _ _ _ => False) := by
    refine ⟨_, v, rfl, upd_same, fun dx h1 h2 => ⟨rfl, dx, [(f, v)], upd_same, ?_, ?_, ?_⟩⟩
    · rw [upd_ne h2]; exact upd_same
    · rw [upd_ne h2] at h1; exact h1
    · have h1' : H1 dx = none := by rw [upd_ne h2] at h1; exact h1
      have e : upd (del (upd (upd (upd H1 (hp.objs.size + 1) (exo (hp.objs.size + 1) C none)) dx (exd dx [(f, v)])) (hp.objs.size + 1) (exo (hp.objs.size + 1) C (some dx))) (hp.objs.size + 1)) dx (.xd [(f, v)]) = upd H1 dx (.xd [(f, v)]) := by
        funext b
        by_cases hb : b = dx
        · subst hb; rw [upd_same, upd_same]
        · rw [upd_ne hb, upd_ne hb]
          by_cases hb2 : b = hp.objs.size + 1
          · subst hb2; rw [del_same, hn]
          · rw [del_ne hb2, upd_ne hb2, upd_ne hb, upd_ne hb2]
      rw [e]
      exact q1 dx h1'
  have r2 : Vals [V.ref (hp.objs.size + 1), v] [Value.ref (hp.objs.size + 1), u] := .cons rfl (.cons ru .nil)
  have hl : [Value.ref (hp.objs.size + 1), u].length = ps.length := by
    have e := r2.length
    rw [F1.len _ _ _ _ hq] at e
    exact e.symm
  refine wpAny_call (PySem.HandSPX.call_own FB hT hC (PySem.W.looks_findIn I1.kIn iC) (fun self => PySem.W.bind_fn I1.kIn self tI) (by show 1 ≤ sizeLine; decide)
    (codeAny_mono (F1.run _ X.stack _ _ ⟨[Value.ref (hp.objs.size + 1), u], []⟩ [Value.ref (hp.objs.size + 1), u] _ _ (fun _ _ _ => False) (hr.make C [u] []) (I2.env0.make C [u] []) (hb _ [Value.ref (hp.objs.size + 1), u] I2.kIn (by simpa using hl)) r2 hq) fun r s' hq' => ?_))
  cases r with
  | error er => exact passL pins σ _ _ er s' I2 hq'
  | ok fl =>
    cases fl with
    | ret z =>
      obtain ⟨z0, H2, os2, bare2, un2, hok2, rz, ez, d, fs, ea, ed, hd1, q2⟩ := hq'
      subst ez
      obtain ⟨h2, g2, d2, t2, os'⟩ := s'
      exact ⟨rz, mk_end (raises_own T.exC T.tyC) I1 sz1 kk un2 hok2 os2 bare2 ea ed hd1 q2⟩
    | next => exact False.elim hq'
    | brk => exact False.elim hq'
    | cont => exact False.elim hq'
end
end PD
namespace PD
open PySem PySem.Spec PyProof.Rows L2
section
variable {X : Cx} {W : WX}
/-- raise c(e), e kept in the field f -/
def gRaise1 (c f : Str) (G : GE) : Gs := gS G fun d env => some (.ex c [(f, d)] env)
theorem pds_raise1 {c f x : Str} {C : Addr} {e : Expr} {p pos pos2 : Pos} {G : GE} (hc : X.calm = true) (tk : Takes X W) (hm : X.mg c = some (.ref C)) (he : PD X W e G)
    (hp : ∀ {ta : TA}, PA X [e] ta → PMk X (.Call (.Name x p) [e] [] pos) (fun σ H Q => ta σ H fun vs H1 => ∃ v, vs = [v] ∧ ∀ d, H1 d = none → Q (.ref C) (some d) (upd H1 d (.xd [(f, v)]))))
    (hs : starEach [e] X.env = (false, eval e X.env) :: starEach [] X.env := by rfl) : PDS X W (.Raise (some (.Call (.Name x p) [e] [] pos)) none pos2) (gRaise1 c f G) := ⟨PS.wk (ps_raise hc tk (hp (pa_cons he.pe pa_nil hs))) fun D σ H q => by
  show tD X W G σ H fun v H1 => ∃ u, [v] = [u] ∧ ∀ d, H1 d = none → W (.ref C) (some d) σ (upd H1 d (.xd [(f, u)]))
  refine (tS.after (ρ := ρD X.K) q).mono fun v H1 z => ?_
  obtain ⟨d, Wp, Fb, L, env, r, hv, R, g, k⟩ := z
  cases g
  exact ⟨v, rfl, fun dx hd => k (.ref C) (some dx) σ _ L (Tr.new hd) (R.new hd) ⟨hm, dx, v, rfl, R.free hd, upd_same, hv.mv (mv_grow (upd_grow hd))⟩⟩⟩
/-- try: body except c as n: return [z, n.f] -/
def gTry1 (i : Nat) (c : Str) (z f : Str) (B : Gs) : Gs := fun env => match B env with
  | some (.ex c' [(f', d)] e) => if c' = c ∧ f' = f ∧ i < e.length then some (.rt (.list [.str z, d]) e) else none
  | some (.ex _ _ _) => none
  | r => r
theorem pds_try1 {c n z f : Str} {C : Addr} {i : Nat} {body : List Stmt} {np pos pos' q1 q2 q3 q4 q5 : Pos} {k1 : Nat} {B : Gs} (hs : X.stack = X.env :: X.outer) (hf : X.env.frame = some X.env.locals) (hN : X.N.Nodup) (hi : X.N[i]? = some n) (hln : X.env.kindOf n = some .local)
    (hc : Names X c (.ref C)) (hm : X.mg c = some (.ref C)) (te : PySem.W.exmOne X.K (.ref C) (.ref C) = some true) (hx : XfC X.K C) (hno : PySem.W.findIn X.K (.ref C) f = some none)
    (hb : ∀ (W : WX) (pn : List (Addr × Obj)) (xe : Value → Shared → Prop), Takes (X.tr pn xe) W → PassesOwn (model X.prog X.w) X.A X.env xe → PDSs (X.tr pn xe) W body B)
    (hv : Vis X.env.scope n) (hdb : (n == ("__debug__" : Str)) = false) (hcd : (n == ("__classdict__" : Str)) = false) (hat : attributeBase (.Name n q3) f X.env (eval (.Name n q3) X.env) = eval (.Name n q3) X.env)
    (s1 : starEach [.Constant (.str z) k1 q2, .Attribute (.Name n q3) f q4] X.env = (false, eval (.Constant (.str z) k1 q2) X.env) :: starEach [.Attribute (.Name n q3) f q4] X.env := by rfl) (s2 : starEach [.Attribute (.Name n q3) f q4] X.env = (false, eval (.Attribute (.Name n q3) f q4) X.env) :: starEach [] X.env := by rfl) :
    PDS X W (.Try body [.ExceptHandler (some (.Name c np)) (some n) [.Return (some (.List [.Constant (.str z) k1 q2, .Attribute (.Name n q3) f q4] q5)) q1] pos'] [] [] pos) (gTry1 i c z f B) := by
  have tkN : Takes X (fun _ _ _ _ => False) := takes0
  refine ⟨PS.wk (ps_try_as (i := i) (tb := fun W => tS X W B) hs hf hN hi hln hc tkN (fun W pn xe tk po => (hb W pn xe tk po).pss) (fun a oe cls d pn hz hfl => pss_one (ps_ret (pe_lst (pa_cons (pe_str (X := X.suite a ((a, oe) :: pn))) (pa_cons (pe_xf hx hno hz hfl (pe_var (i := i) hi hv hdb hcd) hat) pa_nil s2) s1))))) fun D σ H q => ?_⟩
  obtain ⟨Wp, Fb, L, env, r, R, g, k⟩ := q
  unfold gTry1 at g
  split at g
  · rename_i c' f' d e hB
    split at g
    rotate_left
    · cases g
    rename_i hcf
    obtain ⟨rfl, rfl, hil⟩ := hcf
    cases g
    refine ⟨Wp, Fb, L, env, _, R, hB, fun cls dd σ' H' L' t R' x => ?_⟩
    obtain ⟨hcl, da, v, rfl, na, hda, hd⟩ := x
    rw [hm] at hcl
    cases hcl
    refine ⟨true, te, fun _ a ha => ?_, fun z => nomatch z⟩
    rw [R'.len] at hil
    refine ⟨.ref a, List.getElem?_set_self hil, rfl, rfl, da, [(f', v)], v, rfl, hda, by simp [List.lookup], ⟨by show 2 ≤ sizeLine; decide, fun p hp => ?_⟩⟩
    exact k _ σ' _ L' (t.trans (Tr.new hp)) (R'.new hp) (.lst (R'.free hp) upd_same (.cons (.str z) (.cons (hd.mv (mv_grow (upd_grow hp))) .nil)))
  · cases g
  · rename_i hn1 hn2
    refine ⟨Wp, Fb, L, env, r, R, g, ?_⟩
    cases r with
    | nx e => exact k
    | rt d e => exact k
    | bk e => exact k
    | ct e => exact k
    | ex c' fs e => exact (hn2 c' fs e g).elim
end
end PD
namespace PD
open PySem PySem.Spec PyProof.Rows L2
/-! ### a def of the text, with all that its callers ask -/
structure Df (P : Program) (w : World) (K : Fr0) (mg : Str → Option Value) (base : Heap) (k : Nat) (x : Str) (st : Stmt) (ps : List Str) (F : List Sl → Option FR) : Prop where
  ex : ∃ (f : Addr) (fd : FuncData), FnOk P w K mg base (L2.CX P w) k f fd ps (spF K mg F) ∧ mg x = some (.ref f) ∧ PySem.W.keepIn K (.ref f) = true ∧ Binds K fd ps [] ∧ Fun K x x st f fd
section
variable {X : Cx} {W : WX} {x : Str} {p pos : Pos} {e : Expr} {es : List Expr} {k : Nat} {st : Stmt} {ps : List Str} {F : List Sl → Option FR}
theorem pd_callD {G : Gm (List Ar)} (D : Df X.prog X.w X.K X.mg X.base k x st ps F) (hr : Room k X.A) (hg : Gl X x) (tk : Takes X W) (ha : PDR X W (e :: es) G)
    (hdb : (x == ("__debug__" : Str)) = false := by decide) (he : starEach (e :: es) X.env = (false, eval e X.env) :: starEach es X.env := by rfl) (hpl : (backTo pos (starEach es X.env)).any (·.1) = false := by rfl) : PD X W (.Call (.Name x p) (e :: es) [] pos) (gCallF F G) := by
  obtain ⟨f, fd, Fn, hm, hk, hb, _⟩ := D.ex
  exact pd_call Fn hr hg hm hk hb tk ha fun hx ha => pe_callS Fn hr hg hm hk hb hx ha hdb he hpl
/-- the call, its arguments in hand -/
def gF (F : List Sl → Option FR) (as : List Ar) : GE := fun env => match slotsOf env as with
  | none => none
  | some sl => if (bors as).Nodup then match F sl with
    | none => none
    | some (.val d sl') => (takeBack env as sl').map fun e => .ok d e
    | some (.exc c fs sl') => (takeBack env as sl').map fun e => .ex c fs e
  else none
theorem gF_go {as : List Ar} {us : List V} {σ : L2.St} {H : Hp} {Q : VK} {Wp : L2.St} {Fb L : AS} {env : En} {r : Rs PyData} (hx : All2 (fun a v => ρAr X.K σ a v (U L Fb) H) as us) (R : ER X.K Wp Fb L H σ env) (g : gF F as env = some r)
    (k : Go X W Wp Fb σ H L r fun a H' L' => ∀ b, ρD X.K a b (U L' Fb) H' → Q b H') : spF X.K X.mg F us H Q (WE W σ) := by
  unfold gF at g
  split at g
  · cases g
  rename_i sl hsl
  split at g
  rotate_left
  · cases g
  rename_i nd
  obtain ⟨RC, on⟩ := R.lend hx hsl nd
  split at g
  · cases g
  · rename_i d sl' hF
    obtain ⟨e1, h1, rfl⟩ := Option.map_eq_some_iff.mp g
    refine ⟨_, _, sl, _, RC, on, hF, fun v H' keep R2 dn => ?_⟩
    obtain ⟨R3, t3⟩ := R.call hx hsl nd keep R2 h1
    exact k H' L t3 R3 v (dn.mv unrest_mv)
  · rename_i c fs sl' hF
    obtain ⟨e1, h1, rfl⟩ := Option.map_eq_some_iff.mp g
    refine ⟨_, _, sl, _, RC, on, hF, fun cls dd H' keep R2 x => ?_⟩
    obtain ⟨R3, t3⟩ := R.call hx hsl nd keep R2 h1
    refine k cls dd H' L t3 R3 ⟨x.1, ?_⟩
    have x2 := x.2
    match fs, x2 with
    | [], x2 => exact x2
    | [(f, d)], ⟨a, v, ea, na, ha, hd⟩ => exact ⟨a, v, ea, (unrest_mv (H := H') a _ na ha nt_xd).1, ha, hd.mv unrest_mv⟩
/-! ### no arguments -/
theorem pd_call0 (D : Df X.prog X.w X.K X.mg X.base k x st ps F) (hr : Room k X.A) (hg : Gl X x) (tk : Takes X W) (hdb : (x == ("__debug__" : Str)) = false := by decide) : PD X W (.Call (.Name x p) [] [] pos) (gCallF F (gP [])) := by
  obtain ⟨f, fd, Fn, hm, hk, hb, _⟩ := D.ex
  have pc : ∀ {E : L2.St → XK}, (∀ σ, PassesAt (L2.CX X.prog X.w) X σ (E σ)) → PE X (.Call (.Name x p) [] [] pos) (tCallS (spF X.K X.mg F) E tNil) := fun {E} hx => ⟨fun pins s σ H Q I h => by
    refine wpAny_Call_Name_kw (ld_glob I hg hm ?_ hdb)
    exact PySem.W.callWith_K0 I.kIn hk (run_fnS (us := []) Fn hr hb (hx σ) I .nil h)⟩
  refine ⟨PE.wk (pc fun σ => passAt tk σ) fun σ H Q q => ?_⟩
  obtain ⟨Wp, Fb, L, env, r, R, g, kk⟩ := q
  exact gF_go (as := []) (us := []) .nil R g kk
/-! ### keywords alone: is tells for each parameter which keyword's value it takes -/
structure PDK (X : Cx) (W : WX) (kws : List Keyword) (G : GA) : Prop where
  pk : PK X kws (fun σ H Q => tG (ρA X.K) X W G σ H Q)
theorem PK.wk {kws : List Keyword} {t t' : TA} (h : PK X kws t) (w : ∀ σ H Q, t' σ H Q → t σ H Q) : PK X kws t' := ⟨fun pos pins s σ H Q I q => h.run pos pins s σ H Q I (w σ H Q q)⟩
theorem pdk_nil : PDK X W [] (gP []) := ⟨PK.wk pk_nil fun σ H Q q => by
  obtain ⟨Wp, Fb, L, env, r, R, g, k⟩ := q
  cases gP_some g
  exact k H L (Tr.refl H L) R [] .nil⟩
theorem pdk_cons {nm : Option Str} {kp : Pos} {kws : List Keyword} {Ga : GE} {Gr : GA} (ha : PD X W e Ga) (hr : PDK X W kws Gr) : PDK X W (⟨nm, e, kp⟩ :: kws) (gCons Ga Gr) :=
  ⟨PK.wk (pk_cons ha.pe hr.pk) fun σ H Q q => (tG.seq2 (ρ1 := ρA X.K) (stabD X.K) q).mono fun x H1 z => z.mono fun xs H2 z => by
    obtain ⟨d, ds, Wp, Fb, L, env, r, hx, hy, R, g, k⟩ := z
    cases gP_some g
    exact k H2 L (Tr.refl H2 L) R (x :: xs) (.cons hx hy)⟩
def pick {α : Type} (z : α) (is : List Nat) (xs : List α) : List α := is.map fun i => xs.getD i z
theorem pick_vals {is : List Nat} {vs : List V} {us : List Value} (r : Vals vs us) : Vals (pick V.non is vs) (pick Value.none is us) := by
  induction is with
  | nil => exact .nil
  | cons i is ih =>
    refine .cons ?_ ih
    show RelV (vs.getD i V.non) (us.getD i Value.none)
    rw [List.getD_eq_getElem?_getD, List.getD_eq_getElem?_getD]
    cases h : vs[i]? with
    | none =>
      have : us[i]? = none := by
        rw [List.getElem?_eq_none_iff] at h ⊢
        rw [← r.length]; exact h
      rw [this]
      rfl
    | some v =>
      obtain ⟨u, hu, ru⟩ := r.get h
      rw [hu]
      exact ru
theorem pick_dn {K : Fr0} {F : AS} {H : Hp} {is : List Nat} {vs : List V} {ds : List D} (r : DnA K F H vs ds) : DnA K F H (pick V.non is vs) (pick PyData.none is ds) := by
  induction is with
  | nil => exact .nil
  | cons i is ih =>
    refine .cons ?_ ih
    show Dn K F H (vs.getD i V.non) (ds.getD i PyData.none)
    rw [List.getD_eq_getElem?_getD, List.getD_eq_getElem?_getD]
    cases h : vs[i]? with
    | none =>
      have : ds[i]? = none := by
        rw [List.getElem?_eq_none_iff] at h ⊢
        rw [← r.length]; exact h
      rw [this]
      exact .non
    | some v =>
      obtain ⟨d, hu, ru⟩ := r.getV h
      rw [hu]
      exact ru
def gKwF (n : Nat) (is : List Nat) (F : List Sl → Option FR) : List PyData → GE := fun ds env => if ds.length = n then gF F ((pick PyData.none is ds).map Ar.val) env else none
theorem vals_all2 {K : Fr0} {σ : L2.St} {F : AS} {H : Hp} {vs : List V} {ds : List D} (h : DnA K F H vs ds) : All2 (fun a v => ρAr K σ a v F H) (ds.map Ar.val) vs := by
  induction ds generalizing vs with
  | nil => cases h; exact .nil
  | cons d ds ih =>
    cases h with
    | cons a b => exact .cons a (ih b)
theorem pd_callK {kws : List Keyword} {G : GA} {ks : List Str} (is : List Nat) (D : Df X.prog X.w X.K X.mg X.base k x st ps F) (hr : Room k X.A) (hg : Gl X x) (tk : Takes X W) (hkw : PDK X W kws G)
    (hl : is.length = ps.length) (hks : (backToKw pos (keywordEach kws X.env)).filterMap (·.1) = ks)
    (hbd : ∀ (kV doc pm : Value) (an : Option Addr) (cdv ct : Value) (ws : List Value), ws.length = ks.length → bindArgs (PySem.W.fnOf x x (defArgs st) (defBody st) (defScope st) .none kV doc pm an cdv ct) ⟨[], ks.zip ws⟩ = pure (ps.zip (pick Value.none is ws)))
    (hall : (backToKw pos (keywordEach kws X.env)).all (·.1.isSome) = true := by rfl) (hdb : (x == ("__debug__" : Str)) = false := by decide)
    (hpl : ((backTo pos (starEach [] X.env)).any (·.1) || (backToKw pos (keywordEach kws X.env)).any (·.1.isNone)) = false := by rfl) (hln : kws.length = ks.length := by rfl) : PD X W (.Call (.Name x p) [] kws pos) (gB G (gKwF ks.length is F)) := by
  obtain ⟨f, fd, Fn, hm, hk, hb, Fu⟩ := D.ex
  obtain ⟨oc, od, kV, doc, pm, an, cdv, ct, osl, rfl, lk, hcd⟩ := Fu.ex
  have pc : ∀ {E : L2.St → XK} {t : TA}, (∀ σ, PassesAt (L2.CX X.prog X.w) X σ (E σ)) → PK X kws t → PE X (.Call (.Name x p) [] kws pos) (fun σ H Q => t σ H fun zs H2 => zs.length = ks.length ∧ spF X.K X.mg F (pick V.non is zs) H2 Q (E σ)) := fun {E t} hx hkw => ⟨fun pins s σ H Q I h => by
    refine wpAny_Call_Name_kw (ld_glob I hg hm ?_ hdb)
    refine PySem.W.callWith_KW0 (h₀ := X.base) I.ok.mod.kin hk hall (thn (hkw.run pos pins s σ H _ I h) fun ws s2 ⟨zs, H2, I2, rz, l, q2⟩ => ⟨I2.kIn, ?_⟩) hpl
    rw [hks]
    have r2 := pick_vals (is := is) rz
    have hlw : ws.length = ks.length := rz.length.symm.trans l
    refine wpAny_call (codeAny_mono (Fn.run X.A X.stack s2 H2 ⟨[], ks.zip ws⟩ (pick Value.none is ws) (pick V.non is zs) Q (E σ) hr I2.env0 (.of_eq (hbd kV doc pm an cdv ct ws hlw)) r2 q2) fun r s' hq => ?_)
    cases r with
    | error e => exact hx σ pins H2 s2 e s' I2 hq
    | ok fl =>
      cases fl with
      | ret u => exact I2.after hq
      | next => exact False.elim hq
      | brk => exact False.elim hq
      | cont => exact False.elim hq⟩
  refine ⟨PE.wk (pc (fun σ => passAt tk σ) hkw.pk) fun σ H Q q => (tG.seq (ρ := ρA X.K) q).mono fun zs H1 z => ?_⟩
  obtain ⟨ds, Wp, Fb, L, env, r, hx, R, g, kk⟩ := z
  unfold gKwF at g
  split at g
  rotate_left
  · cases g
  rename_i hn
  exact ⟨by rw [hx.length]; exact hn, gF_go (vals_all2 (pick_dn hx)) R g kk⟩
end
end PD
/-! isinstance(e, B) of an own exception that the suite holds, with fields or without. -/
namespace PDI
open PySem PySem.Spec PySem.W PySem.Calls PyProof.Rows
section
variable {prog : Program} {w : World} {A : Around} {E : Value → Shared → Prop} {s : Shared} {K : Frag} {x D : Addr} {ox : Obj} {od : Option Obj}
theorem findObj_D {C : Addr} {name : Str} {a g : Value} (hc : (clsIn K C).isSome = true) (ha : findIn K (.ref C) name = some (some a)) (hg : specialIn K a "__get__" = some (some g)) (ht : takesIn K a = some true) : findObj K C od name = some (.bind g a) := by
  obtain ⟨cd, hc⟩ := Option.isSome_iff_exists.mp hc
  unfold findObj
  rw [hc, Option.bind_some, ha, Option.bind_some]
  simp [hg, ht]
theorem cls_get {Q : Option Value → Shared → Prop} (T : L2.ExcC K D) (X : K.In s.heap) (I : InstAt s.heap x ox D od) (h : Q (some (.ref D)) { s with toks := s.toks + 1 }) : wpAny (model prog w) A (getAttr? (.ref x) "__class__") Q E s := by
  have hf : findObj K D od "__class__" = some (.bind (.builtin "getset_descriptor.__get__") (.builtin "object.__class__")) := findObj_D (by obtain ⟨cd, hc, _⟩ := any_some T.hd; rw [hc]; rfl) T.ha T.hn T.ht
  have hm := T.hm
  obtain ⟨hp, g, d, t, os⟩ := s
  have Ly := I.type (M := model prog w)
  have La := looks_findIn (M := model prog w) X T.hg
  have Lb := looks_findIn (M := model prog w) X T.hk
  have Lc := looks_find (M := model prog w) X I hf
  have sub : Looks (model prog w) hp (isInstance (.ref x) (.type "BaseException")) true := Ly.andThen (looks_subIn X T.hs)
  unfold getAttr? getAttrBy? getAttrBy
  refine wpAny_bind (wpAny_mkText (wpAny_bind (wpAny_attempt (wpAny_holding (wpAny_bind (Ly.at (wpAny_bind (La.at ?_))))))))
  have bb : (Value.builtin "BaseException.__getattribute__" == Value.builtin "object.__getattribute__") = false := by decide +kernel
  dsimp only []
  rw [bb, Bool.and_false, if_neg Bool.false_ne_true]
  unfold getAttrByItsOwn hookBefore
  refine wpAny_bind ?_
  rw [if_pos (show onTheHeap (Value.ref D) = true from rfl)]
  refine Lb.at ?_
  refine wpAny_bind (wpAny_attempt (wpAny_holding ?_))
  unfold callGetattribute
  rw [show (false && onTheHeap (Value.builtin "BaseException.__getattribute__")) = false from rfl, if_neg Bool.false_ne_true]
  unfold boundAndCalled
  rw [PySem.F.excAttr_ValueError.ga.bind (.ref x)]
  refine wpAny_bind (wpAny_pure ?_)
  refine wpAny_call (codeAny_call_builtin PySem.F.excAttr_ValueError.ga.plain PySem.F.entry_bexc_ga ?_)
  refine @check_slot (model prog w) _ _ ⟨hp, g, d, t + 1, os⟩ "BaseException.__getattribute__" "BaseException" "__getattribute__" (.ref x) [.str "__class__" t] [] _ (by decide +kernel) (by decide +kernel) sub (PySem.F.args_bexc_ga (.ref x) (.str "__class__" t)) ?_
  unfold Builtin.«object.__getattribute__»
  refine wpAny_bind (wpAny_of_eq (a := ((Value.ref x : Value), [Value.str "__class__" t])) (by first | rfl | (simp only [slotArgs]; rfl)) ?_)
  refine wpAny_bind (wpAny_pure (wpAny_bind (Ly.at (wpAny_bind (Lc.at ?_)))))
  show wpAny _ _ (holding [Value.builtin "object.__class__"] (call (.builtin "getset_descriptor.__get__") [.builtin "object.__class__", .ref x, .ref D]) >>= ret) _ _ _
  refine wpAny_bind (wpAny_holding (wpAny_call (class_get (s := ⟨hp, g, d, t + 1, os⟩) (ox := ox) (od := od) X I hm ?_)))
  refine wpAny_pure ?_
  show wpAny _ _ (handedOut (.ref D)) _ _ _
  rw [handedOut_of (v := .ref D) rfl]
  first
    | exact wpAny_pure (wpAny_pure h)
    | exact wpAny_pure h
    | exact wpAny_pure (wpAny_bind (wpAny_pure (wpAny_pure h)))
theorem kitx (T : L2.ExcC K D) : KitX K (.ref x) (.ref D) (fun h => InstAt h x ox D od) where
  ty := fun _ _ _ I => I.type
  it := fun _ _ X _ => by
    obtain ⟨cdD, hcD, _⟩ := any_some T.hd
    unfold clsIn at hcD
    split at hcD
    · rename_i ho
      intro _ _ _ _ keep q
      unfold isType loadHead
      exact wpAny_bind (wpAny_loadPart (keep _ _ (X _ _ ho)) (wpAny_pure q))
    · cases hcD
  ne := fun h tp dd its n sl X htp => (PySem.W.handS_kitx_exc (x := x) (ox := ox) T.hg T.hk T.hs T.hd T.ha T.hn T.ht T.hm).ne h tp dd its n sl X htp
  ca := fun X I k => cls_get T X I k
end
end PDI
namespace PD
open PySem PySem.Spec PyProof.Rows L2
/-- isinstance(e, c), e what the suite holds, its dict d's object there -/
def rIsX (K : Fr0) (D a : Addr) (d : Option Addr) : List V → Hp → VK → Prop := fun xs H Q => ∃ (c : V) (cv : Value) (b : Bool), xs = [.ref a, c] ∧ (∀ u, RelV c u → u = cv) ∧ PySem.W.kitOne K (.ref D) cv = some b ∧ (d = none ∨ ∃ dd fs, d = some dd ∧ H dd = some (.xd fs)) ∧ Q (.bl b) H
theorem call_isX {X : Cx} {a D : Addr} {d : Option Addr} {oe : Obj} {pn : List (Addr × Obj)} (C : ExcC X.K D) (hz : Zc (.ref D) d oe) (hf : ∃ vs, oe.data = .fields vs) : CallR (X.suite a ((a, oe) :: pn)) (.builtin "isinstance") (rIsX X.K D a d) := by
  intro pins s σ H xs us Q I r h
  obtain ⟨c, cv, b, rfl, hcv, e, hd, q⟩ := h
  cases r with
  | cons rx rr =>
    cases rr with
    | cons rt rr =>
      cases rr
      cases rx
      have ec := hcv _ rt
      subst ec
      have hget := (I.pin (a, oe) (List.mem_append.mpr (.inl List.mem_cons_self))).1
      obtain ⟨vs, hv⟩ := hf
      have J : ∃ od, PySem.W.InstAt s.heap a oe D od := by
        rcases hd with rfl | ⟨dd, fs, rfl, hdd⟩
        · obtain ⟨oc, od, oda, osl⟩ := oe
          obtain ⟨h1, h2⟩ := hz
          dsimp only at h1 h2 hv
          subst h1 h2 hv
          exact ⟨none, hget, rfl, rfl, trivial⟩
        · have hx : ObjOk X.prog X.w H s.heap dd (.xd fs) := I.hok dd _ hdd
          obtain ⟨mA, hns, hr⟩ := hx
          obtain ⟨od, ho, hl⟩ := lookIn_ns hns
          exact ⟨some od, hget, hz.1, by unfold PySem.W.notCls; rw [hv] <;> rfl, by rw [hz.2]; exact ho⟩
      obtain ⟨od, J⟩ := J
      exact PySem.W.kia_one (PDI.kitx C) I.kIn J e (fun z => nomatch z) fun tk => ⟨.bl b, H, I.kept (t' := tk) fun _ _ z => z, rfl, q⟩
/-! ### what a suite says of its exception: a list of texts, fields, isinstance -/
/-- what an element says: of the field's data -/
structure PSE (X : Cx) (a : Addr) (cls : Value) (d : Option Addr) (i : Nat) (C : Addr) (f : Str) (es : List Expr) (φ : PyData → List PyData) : Prop where
  pa : PA X es (fun σ H Q => ∃ (F : AS) (dd : Addr) (v : V) (x : PyData), σ[i]? = some (some (.ref a)) ∧ cls = .ref C ∧ d = some dd ∧ H dd = some (.xd [(f, v)]) ∧ Dn X.K F H v x ∧ ∀ vs, DnA X.K F H vs (φ x) → Q vs H)
section
variable {X : Cx} {a : Addr} {cls : Value} {d : Option Addr} {i : Nat} {C : Addr} {f : Str} {es : List Expr} {φ : PyData → List PyData}
theorem pse_nil : PSE X a cls d i C f [] (fun _ => []) := ⟨PA.wk pa_nil fun σ H Q q => by
  obtain ⟨F, dd, v, x, h1, h2, h3, h4, h5, k⟩ := q
  exact k [] .nil⟩
theorem pse_str {z : Str} {k : Nat} {p : Pos} (h : PSE X a cls d i C f es φ) (hs : starEach (.Constant (.str z) k p :: es) X.env = (false, eval (.Constant (.str z) k p) X.env) :: starEach es X.env := by rfl) : PSE X a cls d i C f (.Constant (.str z) k p :: es) (fun x => .str z :: φ x) := ⟨PA.wk (pa_cons pe_str h.pa hs) fun σ H Q q => by
  obtain ⟨F, dd, v, x, h1, h2, h3, h4, h5, k⟩ := q
  exact ⟨F, dd, v, x, h1, h2, h3, h4, h5, fun vs hv => k _ (.cons (.str z) hv)⟩⟩
theorem pse_fld {oe : Obj} {pn : List (Addr × Obj)} {n : Str} {q3 q4 : Pos} (T : XfC X.K C) (hno : PySem.W.findIn X.K (.ref C) f = some none) (hz : Zc cls d oe) (hf : ∃ vs, oe.data = .fields vs) (hv : PE (X.suite a ((a, oe) :: pn)) (.Name n q3) (tVar i)) (h : PSE (X.suite a ((a, oe) :: pn)) a cls d i C f es φ)
    (hat : attributeBase (.Name n q3) f X.env (eval (.Name n q3) X.env) = eval (.Name n q3) X.env) (hs : starEach (.Attribute (.Name n q3) f q4 :: es) X.env = (false, eval (.Attribute (.Name n q3) f q4) X.env) :: starEach es X.env := by rfl) :
    PSE (X.suite a ((a, oe) :: pn)) a cls d i C f (.Attribute (.Name n q3) f q4 :: es) (fun x => x :: φ x) := ⟨PA.wk (pa_cons (pe_xf T hno hz hf hv hat) h.pa hs) fun σ H Q q => by
  obtain ⟨F, dd, v, x, h1, h2, h3, h4, h5, k⟩ := q
  exact ⟨_, h1, rfl, h2, dd, _, v, h3, h4, by simp [List.lookup], F, dd, v, x, h1, h2, h3, h4, h5, fun vs hv => k _ (.cons h5 hv)⟩⟩
theorem pse_isi {oe : Obj} {pn : List (Addr × Obj)} {n x y : Str} {B : String} {b : Bool} {p q3 q4 pos : Pos} (T : ExcC X.K C) (hB : PySem.W.kitOne X.K (.ref C) (.type B) = some b) (hg : Gl X x) (hm : X.mg x = none) (hv : bootBuiltins x = some (.builtin "isinstance")) (hgy : Gl X y) (hmy : X.mg y = none) (hvy : bootBuiltins y = some (.type B))
    (hc : cls = .ref C) (hz : Zc cls d oe) (hf : ∃ vs, oe.data = .fields vs) (hvr : PE (X.suite a ((a, oe) :: pn)) (.Name n q3) (tVar i)) (h : PSE (X.suite a ((a, oe) :: pn)) a cls d i C f es φ) (hn : x ≠ "__name__" := by decide) (hdb : (x == ("__debug__" : Str)) = false := by decide) (hny : y ≠ "__name__" := by decide) (hdy : (y == ("__debug__" : Str)) = false := by decide)
    (hs : starEach (.Call (.Name x p) [.Name n q3, .Name y q4] [] pos :: es) X.env = (false, eval (.Call (.Name x p) [.Name n q3, .Name y q4] [] pos) X.env) :: starEach es X.env := by rfl)
    (s1 : starEach [.Name n q3, .Name y q4] X.env = (false, eval (.Name n q3) X.env) :: starEach [.Name y q4] X.env := by rfl) (s2 : starEach [.Name y q4] X.env = (false, eval (.Name y q4) X.env) :: starEach [] X.env := by rfl) (hpl : (backTo pos (starEach [.Name y q4] X.env)).any (·.1) = false := by rfl) :
    PSE (X.suite a ((a, oe) :: pn)) a cls d i C f (.Call (.Name x p) [.Name n q3, .Name y q4] [] pos :: es) (fun x => .bool b :: φ x) := by
  subst hc
  exact ⟨PA.wk (pa_cons (pe_callB (call_isX T hz hf) hg hm hv (pa_cons hvr (pa_cons (pe_bltn (v := .ty B) hgy hmy hvy rfl hny hdy) pa_nil s2) s1) hn hdb s1 hpl) h.pa hs) fun σ H Q q => by
    obtain ⟨F, dd, v, x, h1, h2, h3, h4, h5, k⟩ := q
    exact ⟨_, h1, .ty B, .type B, b, rfl, fun u r => r, hB, .inr ⟨dd, _, h3, h4⟩, F, dd, v, x, h1, h2, h3, h4, h5, fun vs hv => k _ (.cons (.bl b) hv)⟩⟩
end
/-- try: body except c as n: return [..] -/
def gTryR (i : Nat) (c : Str) (f : Str) (φ : PyData → List PyData) (B : Gs) : Gs := fun env => match B env with
  | some (.ex c' [(f', d)] e) => if c' = c ∧ f' = f ∧ i < e.length ∧ (φ d).length ≤ 1000 then some (.rt (.list (φ d)) e) else none
  | some (.ex _ _ _) => none
  | r => r
theorem pds_tryR {X : Cx} {W : WX} {c n f : Str} {C : Addr} {i : Nat} {body : List Stmt} {es : List Expr} {np pos pos' q1 q5 : Pos} {B : Gs} {φ : PyData → List PyData} (hs : X.stack = X.env :: X.outer) (hf : X.env.frame = some X.env.locals) (hN : X.N.Nodup) (hi : X.N[i]? = some n) (hln : X.env.kindOf n = some .local)
    (hc : Names X c (.ref C)) (hm : X.mg c = some (.ref C)) (te : PySem.W.exmOne X.K (.ref C) (.ref C) = some true)
    (hb : ∀ (W : WX) (pn : List (Addr × Obj)) (xe : Value → Shared → Prop), Takes (X.tr pn xe) W → PassesOwn (model X.prog X.w) X.A X.env xe → PDSs (X.tr pn xe) W body B)
    (hsu : ∀ (a : Addr) (oe : Obj) (d : Option Addr) (pn : List (Addr × Obj)), Zc (.ref C) d oe → (∃ vs, oe.data = .fields vs) → PSE (X.suite a ((a, oe) :: pn)) a (.ref C) d i C f es φ) :
    PDS X W (.Try body [.ExceptHandler (some (.Name c np)) (some n) [.Return (some (.List es q5)) q1] pos'] [] [] pos) (gTryR i c f φ B) := by
  have tkN : Takes X (fun _ _ _ _ => False) := takes0
  have hsu2 : ∀ (a : Addr) (oe : Obj) (cls : Value) (d : Option Addr) (pn : List (Addr × Obj)), Zc cls d oe → (∃ vs, oe.data = .fields vs) → PSs (X.suite a ((a, oe) :: pn)) [.Return (some (.List es q5)) q1]
      (fun D σ H => cls = .ref C ∧ tRet (tLst (fun σ H Q => ∃ (F : AS) (dd : Addr) (v : V) (x : PyData), σ[i]? = some (some (.ref a)) ∧ cls = .ref C ∧ d = some dd ∧ H dd = some (.xd [(f, v)]) ∧ Dn X.K F H v x ∧ ∀ vs, DnA X.K F H vs (φ x) → Q vs H)) D σ H) := fun a oe cls d pn hz hfl => by
    by_cases hcl : cls = .ref C
    · subst hcl
      refine PSs.wk (pss_one (ps_ret (pe_lst (hsu a oe d pn hz hfl).pa))) fun D σ H q => q.2
    · exact ⟨fun pins s σ H D I h => (hcl h.1).elim⟩
  refine ⟨PS.wk (ps_try_as (i := i) (tb := fun W => tS X W B) hs hf hN hi hln hc tkN (fun W pn xe tk po => (hb W pn xe tk po).pss) hsu2) fun D σ H q => ?_⟩
  obtain ⟨Wp, Fb, L, env, r, R, g, k⟩ := q
  unfold gTryR at g
  split at g
  · rename_i c' f' d e hB
    split at g
    rotate_left
    · cases g
    rename_i hcf
    obtain ⟨rfl, rfl, hil, hlen⟩ := hcf
    cases g
    refine ⟨Wp, Fb, L, env, _, R, hB, fun cls dd σ' H' L' t R' x => ?_⟩
    obtain ⟨hcl, da, v, rfl, na, hda, hd⟩ := x
    rw [hm] at hcl
    cases hcl
    refine ⟨true, te, fun _ a ha => ⟨rfl, ?_⟩, fun z => nomatch z⟩
    rw [R'.len] at hil
    refine ⟨_, da, v, d, List.getElem?_set_self hil, rfl, rfl, hda, hd, fun vs hv => ⟨Nat.le_trans (by rw [hv.length]; exact hlen) (by decide), fun p hp => ?_⟩⟩
    exact k _ σ' _ L' (t.trans (Tr.new hp)) (R'.new hp) (.lst (R'.free hp) upd_same (hv.mv (mv_grow (upd_grow hp))))
  · cases g
  · rename_i hn1 hn2
    refine ⟨Wp, Fb, L, env, r, R, g, ?_⟩
    cases r with
    | nx e => exact k
    | rt d e => exact k
    | bk e => exact k
    | ct e => exact k
    | ex c' fs e => exact (hn2 c' fs e g).elim
end PD
namespace PD
open PySem PySem.Spec PyProof.Rows L2
section
variable {X : Cx} {W : WX}
/-! ### times: numbers, lists, tuples -/
def dMul3 : PyData → PyData → Option PyData
  | .tuple xs, .int k => if xs ≠ [] ∧ 2 ≤ k ∧ k ≤ 1000 ∧ xs.length ≤ 1000 then some (.tuple (List.replicate k.toNat xs).flatten) else none
  | a, b => dMul a b
theorem rd_mul3 {K : Fr0} : RD2 K (fun x y H Q => rRepT K x y H Q ∨ rMul x y H Q) dMul3 := ⟨by
  intro F H x y d e z Q hx hy hz hf k
  unfold dMul3 at hz
  split at hz
  · rename_i xs n
    split at hz
    · rename_i hc
      cases hz; cases hy
      obtain ⟨a, vs, rfl, ha, da⟩ := hx.tupInv
      refine .inl ⟨a, n, vs, rfl, rfl, ha, fun z => ?_, hc.2.1, hc.2.2.1, by rw [da.length]; exact hc.2.2.2, fun p hp => k _ _ (upd_grow hp) (.tup (.inl ⟨hf p hp, upd_same⟩) ((da.rep _).mv (mv_grow (upd_grow hp))))⟩
      subst z
      cases da
      exact hc.1 rfl
    · cases hz
  · exact .inr (rd_mul.go hx hy hz hf k)⟩
theorem pd_mul3 {a b : Expr} {Ga Gb : GE} {pos : Pos} (ha : PD X W a Ga) (hb : PD X W b Gb) : PD X W (.BinOp a .Mult b pos) (gOp dMul3 Ga Gb) := pd_op (L2.OpR.or op_repT or_mul) rd_mul3 ha hb
/-! ### one of several defs, by its place in a list -/
structure Hd (X : Cx) (k : Nat) (f : Addr) (F : List Sl → Option FR) : Prop where
  ex : ∃ (fd : FuncData) (ps : List Str), FnOk X.prog X.w X.K X.mg X.base (L2.CX X.prog X.w) k f fd ps (spF X.K X.mg F) ∧ PySem.W.keepIn X.K (.ref f) = true ∧ Binds X.K fd ps []
theorem Df.hd {k j : Nat} {x : Str} {st : Stmt} {ps : List Str} {F : List Sl → Option FR} (D : Df X.prog X.w X.K X.mg X.base k x st ps F) : ∃ f, X.mg x = some (.ref f) ∧ Hd X k f F := by
  obtain ⟨f, fd, Fn, hm, hk, hb, _⟩ := D.ex
  exact ⟨f, hm, fd, ps, Fn, hk, hb⟩
def gSel (Gi : GE) (Fs : List (List Sl → Option FR)) (G : Gm (List Ar)) : GE := gB Gi fun d env => match d with
  | .int (.ofNat n) => (Fs[n]?).bind fun F => (gB G (gF F)) env
  | _ => none
inductive HdA (X : Cx) : List Nat → List Addr → List (List Sl → Option FR) → Prop
  | nil : HdA X [] [] []
  | cons {k : Nat} {f : Addr} {F : List Sl → Option FR} {ks : List Nat} {fs : List Addr} {Fs : List (List Sl → Option FR)} : Room k X.A → Hd X k f F → HdA X ks fs Fs → HdA X (k :: ks) (f :: fs) (F :: Fs)
theorem HdA.get {ks : List Nat} {fs : List Addr} {Fs : List (List Sl → Option FR)} (h : HdA X ks fs Fs) : ∀ {n : Nat} {F : List Sl → Option FR}, Fs[n]? = some F → ∃ k f, fs[n]? = some f ∧ Room k X.A ∧ Hd X k f F := by
  induction h with
  | nil => intro n F h; simp at h
  | cons r d _ ih =>
    intro n F h
    cases n with
    | zero => simp at h; subst h; exact ⟨_, _, rfl, r, d⟩
    | succ n => exact ih (n := n) (by simpa using h)
theorem HdA.len {ks : List Nat} {fs : List Addr} {Fs : List (List Sl → Option FR)} (h : HdA X ks fs Fs) : fs.length = Fs.length := by
  induction h with
  | nil => rfl
  | cons _ _ _ ih => simp [ih]
theorem pd_callSel {els : List Expr} {ix e : Expr} {es : List Expr} {lp sp pos : Pos} {Gi : GE} {G : Gm (List Ar)} {ks : List Nat} {fs : List Addr} {Fs : List (List Sl → Option FR)} {tl : TA} (hs : HdA X ks fs Fs) (hel : PA X els tl) (htl : ∀ σ H (Q : List V → Hp → Prop), Q (fs.map V.ref) H → tl σ H Q) (hsz : fs.length ≤ 100) (tk : Takes X W)
    (hi : PD X W ix Gi) (ha : PDR X W (e :: es) G) (hp : PlainIx ix := by intros; rfl)
    (ht : eval (.Call (.Subscript (.List els lp) ix sp) (e :: es) [] pos) X.env = (do callWith pos (← eval (.Subscript (.List els lp) ix sp) X.env) [] (backTo pos (starEach (e :: es) X.env)) (backToKw pos (keywordEach [] X.env))) := by rfl)
    (he : starEach (e :: es) X.env = (false, eval e X.env) :: starEach es X.env := by rfl) (hpl : (backTo pos (starEach es X.env)).any (·.1) = false := by rfl) :
    PD X W (.Call (.Subscript (.List els lp) ix sp) (e :: es) [] pos) (gSel Gi Fs G) := ⟨⟨fun pins s σ H Q I q => by
  have hq : tOp (rIx X.K) (tLst tl) (tD X W Gi) σ H fun y H1 => ∃ (n : Nat) (F : List Sl → Option FR) (k : Nat) (f : Addr), y = .ref f ∧ Room k X.A ∧ Hd X k f F ∧ tD X W (gB G (gF F)) σ H1 Q := by
    refine htl σ H _ ⟨Nat.le_trans (by simpa using hsz) (by decide), fun p hp => ?_⟩
    obtain ⟨Wp, Fb, L, env, r, R, g, k⟩ := q
    have hp2 : ¬ L p := fun z => R.free hp (.inl z)
    have R1 : ER X.K Wp Fb L (upd H p (.lst (fs.map V.ref))) σ env := R.new hp
    have t1 : Tr H L (upd H p (.lst (fs.map V.ref))) L := Tr.new hp
    unfold gSel gB at g
    split at g
    · cases g
    · rename_i d e1 hg
      refine ⟨Wp, Fb, L, env, _, R1, hg, fun H2 L2 t2 R2 b hb => ?_⟩
      dsimp only at g
      split at g
      · rename_i n
        obtain ⟨F, hF, g⟩ := Option.bind_eq_some_iff.mp g
        obtain ⟨k2, f, hf, hr, hd⟩ := hs.get hF
        cases hb
        refine .inl ⟨p, fs.map V.ref, _, .ref f, rfl, rfl, SqL.of (t2 p _ upd_same hp2).1, ?_, n, F, k2, f, rfl, hr, hd, Wp, Fb, L2, e1, r, R2, g, k.from (t1.trans t2)⟩
        have hlt : n < fs.length := (List.getElem?_eq_some_iff.mp hf).1
        unfold atI
        rw [show ixN (fs.map V.ref).length (Int.ofNat n) = some n by
          unfold ixN
          simp
          omega]
        rw [Option.bind_some, List.getElem?_map, hf]
        rfl
      · cases g
    · rename_i c fs' e1 hg
      cases g
      exact ⟨Wp, Fb, L, env, _, R1, hg, fun cls dd H' L' t R' x => k cls dd H' L' (t1.trans t) R' x⟩
  refine Call_ (thn ((pe_ix ix_seq (pe_lst hel) hi.pe hp).run pins s σ H _ I hq) fun u s1 ⟨y, H1, I1, ry, n, F, k, f, ey, hr, hd, q1⟩ => ?_) ht
  subst ey
  obtain rfl : u = Value.ref f := ry
  obtain ⟨fd, ps, Fn, hk, hb⟩ := hd.ex
  have q2 := tG.seq (ρ := ρAs X.K σ) q1
  refine PySem.W.callWith_K (h₀ := X.base) I1.ok.mod.kin hk (thn (ha.pa.run pos pins s1 σ H1 _ I1 q2) fun us s2 ⟨vs, H2, I2, r, z⟩ => ⟨I2.kIn, ?_⟩) he hpl
  obtain ⟨as, Wp, Fb, L, env, r', hx, R, g, kk⟩ := z
  exact run_fnS Fn hr hb (passAt tk σ) I2 r (gF_go hx R g kk)⟩⟩
end
end PD
namespace PD
open PySem PySem.Spec PyProof.Rows L2
section
variable {X : Cx} {W : WX} {k : Nat} {b : Expr}
/-! ### by the room -/
theorem cr_lt (hr : Room k X.A) : CD X .Lt b dLt := cd_lt (by have := hr.un; omega)
theorem cr_eq (hr : Room k X.A) : CD X .Eq b (dEq false) := cd_eq (by have := hr.un; omega)
theorem cr_ne (hr : Room k X.A) : CD X .NotEq b (dEq true) := cd_ne (by have := hr.un; omega)
/-! ### built-ins by name -/
variable {e e2 : Expr} {es : List Expr} {G : GA} {p pos : Pos}
theorem pd_len (hm : X.mg "len" = none) (ha : PDA X W [e] G) (hg : Gl X "len" := by rfl) (hs : starEach [e] X.env = (false, eval e X.env) :: starEach [] X.env := by rfl) (hpl : (backTo pos (starEach [] X.env)).any (·.1) = false := by rfl) : PD X W (.Call (.Name "len" p) [e] [] pos) (gCall dLen G) := pd_cb call_len_seq rc_len hg hm boot_len ha (by decide) (by decide) hs hpl
theorem pd_abs (hm : X.mg "abs" = none) (ha : PDA X W [e] G) (hg : Gl X "abs" := by rfl) (hs : starEach [e] X.env = (false, eval e X.env) :: starEach [] X.env := by rfl) (hpl : (backTo pos (starEach [] X.env)).any (·.1) = false := by rfl) : PD X W (.Call (.Name "abs" p) [e] [] pos) (gCall dAbs G) := pd_cb call_abs rc_abs hg hm (by decide +kernel) ha (by decide) (by decide) hs hpl
theorem pd_int1 (hm : X.mg "int" = none) (ha : PDA X W [e] G) (hg : Gl X "int" := by rfl) (hs : starEach [e] X.env = (false, eval e X.env) :: starEach [] X.env := by rfl) (hpl : (backTo pos (starEach [] X.env)).any (·.1) = false := by rfl) : PD X W (.Call (.Name "int" p) [e] [] pos) (gCall dToInt G) := pd_ct call_int1 rc_int hg hm (by decide +kernel) ha (by decide) (by decide) hs hpl
theorem pd_tuple (hm : X.mg "tuple" = none) (ha : PDA X W [e] G) (hg : Gl X "tuple" := by rfl) (hs : starEach [e] X.env = (false, eval e X.env) :: starEach [] X.env := by rfl) (hpl : (backTo pos (starEach [] X.env)).any (·.1) = false := by rfl) : PD X W (.Call (.Name "tuple" p) [e] [] pos) (gCall dToTup G) := pd_ct call_tuple_of rc_tuple hg hm (by decide +kernel) ha (by decide) (by decide) hs hpl
theorem pd_all (hc : X.calm = true) (hm : X.mg "all" = none) (ha : PDA X W [e] G) (hg : Gl X "all" := by rfl) (hs : starEach [e] X.env = (false, eval e X.env) :: starEach [] X.env := by rfl) (hpl : (backTo pos (starEach [] X.env)).any (·.1) = false := by rfl) : PD X W (.Call (.Name "all" p) [e] [] pos) (gCall dAll G) := pd_cb (cr_all hc) rc_all hg hm (by decide +kernel) ha (by decide) (by decide) hs hpl
theorem pd_any (hc : X.calm = true) (hm : X.mg "any" = none) (ha : PDA X W [e] G) (hg : Gl X "any" := by rfl) (hs : starEach [e] X.env = (false, eval e X.env) :: starEach [] X.env := by rfl) (hpl : (backTo pos (starEach [] X.env)).any (·.1) = false := by rfl) : PD X W (.Call (.Name "any" p) [e] [] pos) (gCall dAny G) := pd_cb (cr_any hc) rc_any hg hm (by decide +kernel) ha (by decide) (by decide) hs hpl
theorem pd_max2 (hc : X.calm = true) (hm : X.mg "max" = none) (ha : PDA X W [e, e2] G) (hg : Gl X "max" := by rfl) (hs : starEach [e, e2] X.env = (false, eval e X.env) :: starEach [e2] X.env := by rfl) (hpl : (backTo pos (starEach [e2] X.env)).any (·.1) = false := by rfl) : PD X W (.Call (.Name "max" p) [e, e2] [] pos) (gCall dMax G) := pd_cb (call_max2 hc) rc_max hg hm (by decide +kernel) ha (by decide) (by decide) hs hpl
theorem pd_min2 (hc : X.calm = true) (hm : X.mg "min" = none) (ha : PDA X W [e, e2] G) (hg : Gl X "min" := by rfl) (hs : starEach [e, e2] X.env = (false, eval e X.env) :: starEach [e2] X.env := by rfl) (hpl : (backTo pos (starEach [e2] X.env)).any (·.1) = false := by rfl) : PD X W (.Call (.Name "min" p) [e, e2] [] pos) (gCall dMin G) := pd_cb (call_min2 hc) rc_min hg hm (by decide +kernel) ha (by decide) (by decide) hs hpl
/-! ### blocks -/
theorem blk_mk {N : List Str} {sc scope : Scope} {own : List (Str × Nat)} (h1 : scope.kind = .function)
    (h : (∀ y ∈ scope.names, scope.names.lookup y.1 = some y.2) ∧ (∀ p ∈ own, N[p.2]? = some p.1) ∧ (∀ y ∈ scope.names, y.2 = .free → sc.names.lookup y.1 = some .cell ∨ sc.names.lookup y.1 = some .free) ∧ ∀ y ∈ scope.names, y.2 = .local ∨ y.2 = .cell → y.1 ∈ own.map (·.1) ∨ y.1 ∉ N) : BlkOk N sc scope own := ⟨h1, h.1, h.2.1, h.2.2.1, h.2.2.2⟩
end
section
variable {P : Program} {w : World} {K : Fr0} {mg : Str → Option Value} {base : Heap}
theorem df_mk {x : Str} {st : Stmt} {f : Addr} {fd : FuncData} {N ps : List Str} {k : Nat} {B : Gs} (Fn : Fun K x x st f fd) (hm : mg x = some (.ref f)) (hb : Binds K fd ps []) (S : FnScope N ps (defScope st)) (hn : ps.length ≤ N.length)
    (body : ∀ (cdv : Value) (A : Around) (outer : List Env) (s : Shared) (H : Hp) (E : XK), Room k (A.deeper (envOfC x (defScope st) s.heap.objs.size f cdv)) →
      PDSs (cxOf (L2.CX P w) P w K mg base N x (defScope st) f cdv A outer s H E) (fun cls d _ H' => E cls d H') (defBody st) B) : Df P w K mg base (k + 1) x st ps (fnF ps.length N.length B) :=
  ⟨f, fd, fn_pd Fn S hn body, hm, Fn.kp, hb, Fn⟩
/-- nothing is promised -/
theorem df_no {x : Str} {st : Stmt} {f : Addr} {fd : FuncData} {ps : List Str} {k : Nat} (Fn : Fun K x x st f fd) (hm : mg x = some (.ref f)) (hb : Binds K fd ps []) : Df P w K mg base k x st ps (fun _ => none) :=
  ⟨f, fd, ⟨fun _ _ _ _ ⟨_, _, _, _, _, _, z, _⟩ => (nomatch z), fun _ _ _ _ _ _ _ _ _ _ _ _ _ ⟨_, _, _, _, _, _, z, _⟩ => (nomatch z)⟩, hm, Fn.kp, hb, Fn⟩
/-- a def as the head tells it -/
theorem fun_of {x q : Str} {st : Stmt} {f : Addr} {fd : FuncData} (F : FunD K x q (defArgs st) (defBody st) (defScope st) [] [] f fd) : Fun K x q st f fd := by
  obtain ⟨oc, od, dV, kV, doc, pm, an, cdv, ct, osl, rfl, lk, hcd, hD, hK⟩ := F.ex
  rcases hD with ⟨_, rfl⟩ | ⟨e, _⟩
  · exact ⟨⟨oc, od, kV, doc, pm, an, cdv, ct, osl, rfl, lk, hcd⟩, F.kp⟩
  · exact absurd rfl e
end
end PD
namespace PD
open PySem PySem.Spec PyProof.Rows L2
def clsDef (s : Stmt) (j : Nat) : Stmt := match s with
  | .ClassDef _ _ _ b _ _ _ _ _ _ _ => b.getD j (.Pass ⟨0, 0, 0, 0⟩)
  | _ => .Pass ⟨0, 0, 0, 0⟩
/-- an own error with one field: all that is asked of it -/
structure Ec (P : Program) (w : World) (K : Fr0) (mg : Str → Option Value) (base : Heap) (c f : Str) (B newId : String) (bmB : List Value) (C : Addr) : Prop where
  g : mg c = some (.ref C)
  x : ExK K C B newId bmB
  xf : XfC K C
  te : PySem.W.exmOne K (.ref C) (.ref C) = some true
  no : PySem.W.findIn K (.ref C) f = some none
  is : ExcC K C
  ini : ∃ (fI : Addr) (fd : FuncData) (ps : List Str), PySem.W.findIn K (.ref C) "__init__" = some (some (.ref fI)) ∧ PySem.W.typeIn K (.ref fI) = some (.type "function") ∧ FnOk P w K mg base (L2.CX P w) 1 fI fd ps (spIni C f) ∧ Binds K fd ps []
section
variable {X : Cx} {W : WX} {c f : Str} {B newId initId : String} {bmB : List Value} {C : Addr}
theorem pds_raiseE {e : Expr} {p pos pos2 : Pos} {G : GE} (FB : ExcBaseFacts B newId initId bmB) (T : Ec X.prog X.w X.K X.mg X.base c f B newId bmB C) (hr : Room 2 X.A) (hc : X.calm = true) (tk : Takes X W) (hg : Gl X c) (he : PD X W e G)
    (hs : starEach [e] X.env = (false, eval e X.env) :: starEach [] X.env := by rfl) (hdb : (c == ("__debug__" : Str)) = false := by decide) (hpl : (backTo pos (starEach [] X.env)).any (·.1) = false := by rfl) :
    PDS X W (.Raise (some (.Call (.Name c p) [e] [] pos)) none pos2) (gRaise1 c f G) := by
  obtain ⟨fI, fd, ps, h1, h2, h3, h4⟩ := T.ini
  exact pds_raise1 hc tk T.g he (fun ha => pmk_one FB T.x h1 h2 h3 hr h4 hg T.g ha hdb hs hpl) hs
end
/-! ### the head's facts, each a Bool -/
def eB (a b : Option (Option Value)) : Bool := decide (a = b)
def clsB (x f : Str) (B newId : String) (bmB : List Value) (isi : List (String × Bool)) (K : Fr0) : Bool :=
  (He.Fa.glo x).ok K && (PySem.W.excInitIn K (He.ga K x) bmB newId && (PySem.W.excOver K (He.ga K x) bmB && (eB (PySem.W.findIn K (.ref (He.ga K x)) "__setattr__") (some (some (.builtin "object.__setattr__"))) &&
  (PySem.W.hasDictIn K (He.ga K x) && (decide (PySem.W.subIn K (.ref (He.ga K x)) (.type "BaseException") = some true) && (decide (PySem.W.typeIn K (.ref (He.ga K x)) = some (.type "type")) && (PySem.W.keepIn K (.ref (He.ga K x)) &&
  (xfB K (He.ga K x) && (decide (PySem.W.exmOne K (.ref (He.ga K x)) (.ref (He.ga K x)) = some true) && (eB (PySem.W.findIn K (.ref (He.ga K x)) f) (some none) &&
  (eB (PySem.W.findIn K (.ref (He.ga K x)) "__class__") (some (some (.builtin "object.__class__"))) && (eB (PySem.W.specialIn K (.builtin "object.__class__") "__get__") (some (some (.builtin "getset_descriptor.__get__"))) &&
  (decide (PySem.W.takesIn K (.builtin "object.__class__") = some true) && (decide (PySem.W.mroIn K (He.ga K x) (.type "object") = some true) &&
  (eB (PySem.W.findIn K (.ref (He.ga K x)) "__init__") (some (some (.ref (He.ma K (He.ga K x) "__init__")))) && (decide (PySem.W.typeIn K (.ref (He.ma K (He.ga K x) "__init__")) = some (.type "function")) &&
  (eB (PySem.W.takerIn K (He.ga K x) f) (some none) && isi.all fun q => decide (PySem.W.kitOne K (.ref (He.ga K x)) (.type q.1) = some q.2))))))))))))))))))
structure ClsF (K : Fr0) (x f : Str) (B newId : String) (bmB : List Value) (isi : List (String × Bool)) : Prop where
  glo : (He.Fa.glo x).ok K = true
  xk : ExK K (He.ga K x) B newId bmB
  xf : XfC K (He.ga K x)
  te : PySem.W.exmOne K (.ref (He.ga K x)) (.ref (He.ga K x)) = some true
  no : PySem.W.findIn K (.ref (He.ga K x)) f = some none
  is : ExcC K (He.ga K x)
  ii : PySem.W.findIn K (.ref (He.ga K x)) "__init__" = some (some (.ref (He.ma K (He.ga K x) "__init__")))
  it : PySem.W.typeIn K (.ref (He.ma K (He.ga K x) "__init__")) = some (.type "function")
  ht : PySem.W.takerIn K (He.ga K x) f = some none
  isi : ∀ q ∈ isi, PySem.W.kitOne K (.ref (He.ga K x)) (.type q.1) = some q.2
theorem clsB_ok {x f : Str} {B newId : String} {bmB : List Value} {isi : List (String × Bool)} {K : Fr0} (h : clsB x f B newId bmB isi K = true) : ClsF K x f B newId bmB isi := by
  unfold clsB at h
  obtain ⟨h1, h⟩ := He.ba h
  obtain ⟨h2, h⟩ := He.ba h
  obtain ⟨h3, h⟩ := He.ba h
  obtain ⟨h4, h⟩ := He.ba h
  obtain ⟨h5, h⟩ := He.ba h
  obtain ⟨h6, h⟩ := He.ba h
  obtain ⟨h7, h⟩ := He.ba h
  obtain ⟨h8, h⟩ := He.ba h
  obtain ⟨h9, h⟩ := He.ba h
  obtain ⟨h10, h⟩ := He.ba h
  obtain ⟨h11, h⟩ := He.ba h
  obtain ⟨h12, h⟩ := He.ba h
  obtain ⟨h13, h⟩ := He.ba h
  obtain ⟨h14, h⟩ := He.ba h
  obtain ⟨h15, h⟩ := He.ba h
  obtain ⟨h16, h⟩ := He.ba h
  obtain ⟨h17, h⟩ := He.ba h
  obtain ⟨h18, h⟩ := He.ba h
  have xf := xfB_ok h9
  exact ⟨h1, ⟨h2, h3, of_decide_eq_true h4, h5, of_decide_eq_true h6, of_decide_eq_true h7, h8⟩, xf, of_decide_eq_true h10, of_decide_eq_true h11, ⟨xf.ga, xf.gg, xf.exC, xf.hdC, of_decide_eq_true h12, of_decide_eq_true h13, of_decide_eq_true h14, of_decide_eq_true h15⟩,
    of_decide_eq_true h16, of_decide_eq_true h17, of_decide_eq_true h18, fun q hq => of_decide_eq_true (List.all_eq_true.mp h q hq)⟩
/-! ### the head, read by facts of one's own -/
def obsP (fa : List (Fr0 → Bool)) (fn : List He.DefD) (K : Fr0) : He.AlD := ((fa.all fun f => f K) && fn.all fun d => d.ok K, fn.map fun d => He.fnW K d.at_)
def SaysP (fa : List (Fr0 → Bool)) (fn : List He.DefD) (K : Fr0) : Prop := obsP fa fn K = He.valD fn
def obsPG (n : Nat) (fa : List (Fr0 → Bool)) (fn : List He.DefD) (g : Addr → Option Obj) : He.AlD := obsP fa fn (He.frG g (He.asD g n))
def hookP (n : Nat) (fa : List (Fr0 → Bool)) (fn : List He.DefD) : PySem.W.Hook where
  α := He.AlD
  obs := fun s => obsPG n fa fn s.heap.get?
  val := fun _ => He.valD fn
  says := fun _ h => ∃ K : Fr0, K.In h ∧ SaysP fa fn K
  of := fun _ _ e => ⟨_, He.frG_in, e⟩
  keeps := fun _ _ _ ⟨K, hK, c⟩ k => ⟨K, PySem.W.Frag.In.keeps hK k, c⟩
theorem obsPG_eq {n : Nat} {fa : List (Fr0 → Bool)} {fn : List He.DefD} {g : Addr → Option Obj} {s : Shared} (h : ∀ a, g a = s.heap.get? a) : obsPG n fa fn g = (hookP n fa fn).obs s := by
  have e : g = s.heap.get? := funext h
  rw [e] <;> rfl
section
variable {fa : List (Fr0 → Bool)} {fn : List He.DefD} {K : Fr0}
theorem SaysP.fact (c : SaysP fa fn K) (i : Nat) {f : Fr0 → Bool} (h : fa[i]? = some f := by rfl) : f K = true := by
  have z := (He.ba (show ((fa.all fun f => f K) && fn.all fun d => d.ok K) = true from congrArg (fun z : He.AlD => z.1) c)).1
  exact List.all_eq_true.mp z f (List.mem_of_getElem? h)
theorem SaysP.def_ (c : SaysP fa fn K) (i : Nat) {d : He.DefD} (h : fn[i]? = some d := by rfl) : ∃ fd, FunD K d.name d.qual d.params d.body d.scope (d.dvs K) (d.kws K) (He.fAd K d.at_) fd := by
  have z := (He.ba (show ((fa.all fun f => f K) && fn.all fun d => d.ok K) = true from congrArg (fun z : He.AlD => z.1) c)).2
  have e : fn.map (fun d => He.fnW K d.at_) = fn.map He.DefD.val := congrArg (fun z : He.AlD => z.2) c
  have y : (fn.map fun d => He.fnW K d.at_)[i]? = (fn.map He.DefD.val)[i]? := by rw [e]
  rw [List.getElem?_map, List.getElem?_map, h] at y
  exact He.DefD.funD (Option.some.inj y) (List.all_eq_true.mp z d (List.mem_of_getElem? h))
end
end PD
namespace PD
open PySem PySem.Spec PyProof.Rows L2 PpSet
abbrev gFrz (G : GA) : GE := gB G fun ds => gP (.list ds)
theorem boot_LookupError : bootBuiltins "LookupError" = some (.type "LookupError") := by decide +kernel
/-! ### {elt for tg in iter if ..} over any kind of set: what is tracked of the set at D is told by t -/
structure SKd (X : Cx) (τ : Type) where
  ob : Addr → τ → HO
  t0 : τ
  put : τ → V → τ → Prop
  new : ∀ {Hq : Hp} {s : Shared}, ObjOk X.prog X.w Hq (s.heap.push { cls := .type "set", dict := none, data := .set #[] 0 (.fresh 0 0 (!X.w.params.followText "set-order")) }) s.heap.objs.size (ob s.heap.objs.size t0)
  add : ∀ {Z : Cx} {pins : List (Addr × Obj)} {σ : L2.St} {H : Hp} {s : Shared} {E : Value → Shared → Prop} {D : Addr} {t t' : τ} {y : V} {u : Value} {Q : Value → Shared → Prop}, Z.prog = X.prog → Z.w = X.w → Z.K = X.K → Inv Z pins σ H s → H D = some (ob D t) → RelV y u → put t y t' →
    (∀ s', Inv Z pins σ (upd H D (ob D t')) s' → Q .none s') → wpAny (model Z.prog Z.w) Z.A (call (.builtin "set.add") [.ref D, u]) Q E s
def tScK {X : Cx} {τ : Type} (Kd : SKd X τ) (wi : TI) (g : TG) (tt : TT) (te : TE) (vs : List Nat) : TE := fun σ H Q => wi σ H fun J H1 => ∀ D, H1 D = none → ∃ M : Nat → Nat → Hp → Prop, (∃ m, M 0 m (upd H1 D (Kd.ob D Kd.t0))) ∧ ∀ i m Hi, M i m Hi →
  (J.stop i Hi ∧ Q (.ref D) Hi) ∨ (J.go i Hi ∧ ∃ Nx : Hp → Prop, (∀ Hn, Nx Hn → ∃ m', m' < m ∧ M (i + 1) m' Hn) ∧ ∀ x Hy, J.yld i Hi x Hy → g x (wipe σ vs) Hy fun σb Hb => wipe σb vs = wipe σ vs ∧ tt σb Hb fun b Hc =>
    if b = true then te σb Hc fun y Hd => ∃ t t', Hd D = some (Kd.ob D t) ∧ Kd.put t y t' ∧ Nx (upd Hd D (Kd.ob D t')) else Nx Hc)
section
variable {X : Cx} {τ : Type} {Kd : SKd X τ} {elt tg iter : Expr} {ifs : List Expr} {scope : Scope} {own : List (Str × Nat)} {pos : Pos} {wi : TI} {g : TG} {tt : TT} {te : TE}
theorem pe_scK (hc : X.calm = true) (hN : X.N.Nodup) (hi : PI X tg iter wi) (ok : BlkOk X.N X.env.scope scope own)
    (hg : ∀ (s : Shared) (H : Hp) (C : Addr) (cl : List (Str × Addr)) (fp : List Addr), PG (X.blk s H scope (compEnvC scope cl C X.env) fp) tg g) (ht : ∀ (s : Shared) (H : Hp) (C : Addr) (cl : List (Str × Addr)) (fp : List Addr), PTs (X.blk s H scope (compEnvC scope cl C X.env) fp) ifs tt)
    (he : ∀ (s : Shared) (H : Hp) (C : Addr) (cl : List (Str × Addr)) (fp : List Addr), PE (X.blk s H scope (compEnvC scope cl C X.env) fp) elt te) (hs : ∀ x, foldedSetIterable iter X.env x = pure x := by intro _; rfl) : PE X (.SetComp elt [⟨tg, iter, ifs, 0⟩] scope pos) (tScK Kd wi g tt te (own.map (·.2))) := by
  refine ⟨fun pins s σ H Q I h => ?_⟩
  rw [eval_SetComp]
  have fre : ∀ y ∈ scope.names, y.2 = .free → ∃ c, X.env.cells.lookup y.1 = some c := fun y hy e => (ok.free y hy e).elim (fun z => I.ok.has _ (.inl z)) fun z => I.ok.has _ (.inr z)
  refine wpAny_comprehension_free (use := none) rfl hs (closure_ok fre) ok.kind (fun y hy e => by rw [ok.uniq y hy, e]) (thn (hi.run pins s σ H _ I h) fun _ _ hx => thn hx fun _ s2 ⟨it, fp, tn, J, H2, e, I2, T, st2, f2, q⟩ => ?_)
  subst e
  refine newSet_ok (newEnv_comp ?_)
  -- the set stands
  let D : Addr := s2.heap.objs.size
  have bel : ∀ b ∈ fp, b < D := fun b hb => by
    obtain ⟨o, eo, _⟩ := T.obj _ _ st2 b hb
    exact Heap.lt_size eo
  obtain ⟨M, ⟨m0, w0⟩, turn⟩ := q D (I2.hok.fresh (Nat.le_refl _))
  let sS : Shared := { s2 with heap := s2.heap.push { cls := .type "set", dict := none, data := .set #[] 0 (.fresh 0 0 (!X.w.params.followText "set-order")) } }
  have grS : ∀ b o, s2.heap.get? b = some o → sS.heap.get? b = some o := fun b o eo => Heap.get?_push_of_some _ eo
  obtain ⟨HS, hHS⟩ : ∃ Z, upd H2 D (Kd.ob D Kd.t0) = Z := ⟨_, rfl⟩
  rw [hHS] at w0
  have IS : Inv X pins σ HS sS := hHS ▸ I2.laid (t' := s2.toks) grS (Nat.le_refl _) Kd.new
  have szS : D < sS.heap.objs.size := by
    show D < (s2.heap.push _).objs.size
    rw [Heap.size_push]
    exact Nat.lt_succ_self _
  have fS : ∀ b ∈ fp, FpOk X pins HS b ∧ b < sS.heap.objs.size := fun b hb => ⟨⟨by rw [← hHS, upd_ne (Nat.ne_of_lt (bel b hb))]; exact (f2 b hb).1, (f2 b hb).2⟩, Nat.lt_trans (bel b hb) szS⟩
  have stS : tn 0 sS.heap := T.keep _ _ _ st2 fun b _ => grS b
  have IB := block_start IS ok hN fS
  let cl := cellsFrom (sS.heap.objs.size + 1) scope.names (cloFrom X.env.cells scope.names [])
  let C : Addr := sS.heap.objs.size
  let ce : Env := compEnvC scope cl C X.env
  have pg := hg sS HS C cl fp
  have pt := ht sS HS C cl fp
  have pe := he sS HS C cl fp
  let sB : Shared := { sS with heap := pushCells (sS.heap.push { cls := .type "dict", data := .dict #[] }) scope.names }
  have stB : tn 0 sB.heap := T.keep _ _ _ stS fun b _ o eo => pushCells_keeps _ _ _ _ (Heap.get?_push_of_some _ eo)
  show codeAny (model X.prog X.w) X.A (.compStart (.SetComp elt [⟨tg, iter, ifs, 0⟩] scope pos) 0 (.ref it) (.ref D) ce) (compPost (model X.prog X.w) X.A X.xe none (EP X pins σ Q) (.ref D) C) sB
  let Y : Cx := X.blk sS HS scope ce fp
  let vs := own.map (·.2)
  have nfp : ∀ b ∈ fp, HS b = none := fun b hb => (fS b hb).1.1
  -- what a Turn asks of its addresses, at any time in the block
  have stat : ∀ {σq : L2.St} {Hq : Hp} {sq : Shared}, Inv Y [] σq Hq sq → (∀ b ∈ fp, Hq b = none) → ∀ b ∈ fp, FpOk Y [] Hq b := fun {σq Hq sq} Iq hn b hb =>
    ⟨hn b hb, (Iq.ok.exf b hb).1, Iq.ok.exfs b hb, .inl hb, fun x c e => (Iq.ok.exf b hb).2 x c e, fun p hp => by cases hp⟩
  have loop : codeAny (model X.prog X.w) X.A (.compLoop (.SetComp elt [⟨tg, iter, ifs, 0⟩] scope pos) 0 (.ref it) (.ref D) ce) (compPost (model X.prog X.w) X.A X.xe none (EP X pins σ Q) (.ref D) C) sB := by
    refine compLoopS_any (fun n sq => ∃ i Hq, Inv Y [] (wipe σ vs) Hq sq ∧ tn i sq.heap ∧ (∀ b ∈ fp, Hq b = none) ∧ M i n Hq) (fun n s5 z => ?_) m0 ⟨0, HS, IB, stB, nfp, w0⟩
    obtain ⟨i, H5, I5, st5, n5, w5⟩ := z
    have fq := stat I5 n5
    rcases turn i n H5 w5 with ⟨stp, qq⟩ | ⟨gos, Nx, hNx, step⟩
    · refine thnF (T.done Y rfl rfl rfl hc i [] s5 _ H5 (fun _ _ => False) I5 fq st5 stp) fun r s6 ⟨hr, I6⟩ => ?_
      subst hr
      have I7 : Inv X pins σ H5 s6 := IS.call' (ch := fp) I6.os I6.base I6.hok I6.bare fun b hb =>
        have f := (fS b hb).1
        ⟨f.2.2.2.1, f.2.1, f.2.2.2.2.1, f.2.2.2.2.2⟩
      obtain ⟨m, hn, _⟩ := I6.loc
      have f := IS.fpOk (Nat.le_refl _) (show H5 C = none from I6.free)
      exact ⟨m, hn, fun h'' sb => ⟨.ref D, H5, I7.turned (t' := s6.toks) (fun b o hb e => (sb.2 b hb).trans e) f.1 f.2.1 f.2.2.2.1 f.2.2.2.2.1 f.2.2.2.2.2, rfl, qq⟩⟩
    · refine thnF (T.item Y rfl rfl rfl hc i [] s5 _ H5 (fun _ _ => False) I5 fq st5 gos) fun r s6 ⟨u, hr, h6⟩ => ?_
      subst hr
      refine thnF h6 fun _ s7 ⟨x, H7, I7, r7, y7, st7, n7⟩ => ?_
      refine thnF (pg.run _ s7 _ H7 x u _ (I7.pinned (stat I7 n7) (T.obj _ _ st7)) r7 (step x H7 y7)) fun _ s8 ⟨σ8, H8, I8, hw, q8⟩ => thnF (pt.run _ s8 σ8 H8 _ I8 q8) fun b s9 ⟨H9, I9, q9⟩ => ?_
      have fin : ∀ {sq : Shared} {Hq : Hp}, Inv Y ([] ++ pinsAt fp s7.heap) σ8 Hq sq → Nx Hq → ∃ m, m < n ∧ ∃ i Hq, Inv Y [] (wipe σ vs) Hq sq ∧ tn i sq.heap ∧ (∀ b ∈ fp, Hq b = none) ∧ M i m Hq := fun {sq Hq} Iq nx => by
        obtain ⟨m', hm, wq⟩ := hNx Hq nx
        have pin : ∀ b ∈ fp, ∀ o, s7.heap.get? b = some o → sq.heap.get? b = some o ∧ Hq b = none := fun b hb o e =>
          have z := Iq.pin (b, o) (List.mem_append_right _ (List.mem_append_right _ (mem_pinsAt hb e)))
          ⟨z.1, z.2.1⟩
        refine ⟨m', hm, i + 1, Hq, (Iq.unpinned (pins := [])).weak (by rw [show wipe σ vs = wipe σ8 vs from hw.symm, wipe_length]) (fun j v e => (wipe_some (vs := vs) (by rw [hw]; exact e)).1), T.keep _ _ _ st7 fun b hb o e => (pin b hb o e).1, fun b hb => ?_, wq⟩
        obtain ⟨o, e, _⟩ := T.obj _ _ st7 b hb
        exact (pin b hb o e).2
      cases b with
      | false =>
        rw [if_neg Bool.false_ne_true]
        exact fin I9 q9
      | true =>
        rw [if_pos rfl]
        refine thnF (pe.run _ s9 σ8 H9 _ I9 q9) fun z s10 ⟨yv, H10, I10, r10, t, t', hD10, pu, nx⟩ => ?_
        exact Kd.add (Z := Y) rfl rfl rfl I10 hD10 r10 pu fun s11 I11 => fin I11 nx
  exact codeAny_compStart_set loop (T.self X.A 0 _ _ _ stB loop)
end
/-! ### sets of ints -/
def insU (k : Int) : List Int → List Int
  | [] => [k]
  | x :: xs => if k < x then k :: x :: xs else if k = x then x :: xs else x :: insU k xs
def sortU (ns : List Int) : List Int := ns.foldl (fun s k => insU k s) []
theorem insU_mem (k j : Int) : ∀ s : List Int, j ∈ insU k s ↔ j = k ∨ j ∈ s
  | [] => by simp [insU]
  | x :: xs => by
    unfold insU
    split
    · simp
    · split
      · rename_i h
        subst h
        simp
      · rw [List.mem_cons, insU_mem k j xs, List.mem_cons]
        constructor
        · rintro (h | h | h)
          · exact .inr (.inl h)
          · exact .inl h
          · exact .inr (.inr h)
        · rintro (h | h | h)
          · exact .inr (.inl h)
          · exact .inl h
          · exact .inr (.inr h)
theorem insU_ord (k : Int) : ∀ {s : List Int}, s.Pairwise (· < ·) → (insU k s).Pairwise (· < ·)
  | [], _ => by simp [insU]
  | x :: xs, h => by
    obtain ⟨h1, h2⟩ := List.pairwise_cons.mp h
    unfold insU
    split
    · rename_i hk
      refine List.pairwise_cons.mpr ⟨fun y hy => ?_, h⟩
      rcases List.mem_cons.mp hy with z | z
      · rw [z]; exact hk
      · exact Int.lt_trans hk (h1 y z)
    · split
      · exact h
      · rename_i g1 g2
        refine List.pairwise_cons.mpr ⟨fun y hy => ?_, insU_ord k h2⟩
        rcases (insU_mem k y xs).mp hy with z | z
        · rw [z]; omega
        · exact h1 y z
theorem insU_len (k : Int) : ∀ {s : List Int}, s.Pairwise (· < ·) → (insU k s).length = if k ∈ s then s.length else s.length + 1
  | [], _ => by simp [insU]
  | x :: xs, h => by
    obtain ⟨h1, h2⟩ := List.pairwise_cons.mp h
    unfold insU
    split
    · rename_i hk
      have n : k ∉ x :: xs := fun z => by
        rcases List.mem_cons.mp z with y | y
        · omega
        · have := h1 k y
          omega
      rw [if_neg n]
      rfl
    · split
      · rename_i g
        rw [if_pos (by rw [g]; exact List.mem_cons_self)]
      · rename_i g1 g2
        show (insU k xs).length + 1 = _
        rw [insU_len k h2]
        by_cases c : k ∈ xs
        · rw [if_pos c, if_pos (List.mem_cons_of_mem _ c)]
          rfl
        · rw [if_neg c, if_neg (fun z => (List.mem_cons.mp z).elim g2 c)]
          rfl
theorem sortU_snoc (ns : List Int) (k : Int) : sortU (ns ++ [k]) = insU k (sortU ns) := by
  unfold sortU
  rw [List.foldl_append]
  rfl
theorem foldU_ord : ∀ (ns s : List Int), s.Pairwise (· < ·) → (ns.foldl (fun s k => insU k s) s).Pairwise (· < ·)
  | [], s, h => h
  | n :: ns, s, h => foldU_ord ns _ (insU_ord n h)
theorem foldU_mem (j : Int) : ∀ (ns s : List Int), j ∈ ns.foldl (fun s k => insU k s) s ↔ j ∈ ns ∨ j ∈ s
  | [], s => by simp
  | n :: ns, s => by
    show j ∈ ns.foldl (fun s k => insU k s) (insU n s) ↔ _
    rw [foldU_mem j ns, insU_mem, List.mem_cons]
    constructor
    · rintro (h | h | h)
      · exact .inl (.inr h)
      · exact .inl (.inl h)
      · exact .inr h
    · rintro ((h | h) | h)
      · exact .inr (.inl h)
      · exact .inl h
      · exact .inr (.inr h)
theorem sortU_ord (ns : List Int) : (sortU ns).Pairwise (· < ·) := foldU_ord ns [] List.Pairwise.nil
theorem sortU_mem (j : Int) (ns : List Int) : j ∈ sortU ns ↔ j ∈ ns := by
  unfold sortU
  rw [foldU_mem]
  simp
theorem sortU_len (ns : List Int) (k : Int) : (sortU (ns ++ [k])).length = if k ∈ ns then (sortU ns).length else (sortU ns).length + 1 := by
  rw [sortU_snoc, insU_len k (sortU_ord ns)]
  by_cases c : k ∈ ns
  · rw [if_pos c, if_pos ((sortU_mem k ns).mpr c)]
  · rw [if_neg c, if_neg fun z => c ((sortU_mem k ns).mp z)]
theorem sortU_le (ns : List Int) : (sortU ns).length ≤ ns.length := by
  have : ∀ (ns s : List Int), s.Pairwise (· < ·) → (ns.foldl (fun s k => insU k s) s).length ≤ ns.length + s.length := by
    intro ns
    induction ns with
    | nil => intro s _; simp
    | cons n ns ih =>
      intro s h
      have := ih (insU n s) (insU_ord n h)
      have e := insU_len n h
      show (ns.foldl _ (insU n s)).length ≤ ns.length + 1 + s.length
      split at e <;> omega
  simpa [sortU] using this ns [] List.Pairwise.nil
theorem ord_uniq : ∀ {a b : List Int}, a.Pairwise (· < ·) → b.Pairwise (· < ·) → (∀ k : Int, k ∈ a ↔ k ∈ b) → a = b
  | [], [], _, _, _ => rfl
  | [], y :: ys, _, _, h => by
    have := (h y).mpr List.mem_cons_self
    cases this
  | x :: xs, [], _, _, h => by
    have := (h x).mp List.mem_cons_self
    cases this
  | x :: xs, y :: ys, ha, hb, h => by
    obtain ⟨a1, a2⟩ := List.pairwise_cons.mp ha
    obtain ⟨b1, b2⟩ := List.pairwise_cons.mp hb
    have e : x = y := by
      rcases List.mem_cons.mp ((h x).mp List.mem_cons_self) with z | z
      · exact z
      · rcases List.mem_cons.mp ((h y).mpr List.mem_cons_self) with y' | y'
        · exact y'.symm
        · have := b1 x z
          have := a1 y y'
          omega
    subst e
    rw [ord_uniq a2 b2 fun k => ⟨fun z => ?_, fun z => ?_⟩]
    · rcases List.mem_cons.mp ((h k).mp (List.mem_cons_of_mem _ z)) with q | q
      · have := a1 k z
        omega
      · exact q
    · rcases List.mem_cons.mp ((h k).mpr (List.mem_cons_of_mem _ z)) with q | q
      · have := b1 k z
        omega
      · exact q
abbrev inS (ns : List Int) : Int → Bool := fun j => decide (j ∈ ns)
theorem inS_snoc (ns : List Int) (k : Int) : (fun j => inS ns j || decide (j = k)) = inS (ns ++ [k]) := by
  funext j
  simp [inS, List.mem_append]
def skI (X : Cx) : SKd X (List Int) where
  ob := fun a ns => SetO X.w a (inS ns) (sortU ns).length
  t0 := []
  put := fun ns y ns' => ∃ k, y = .int k ∧ ns.length < 4000 ∧ ns' = ns ++ [k]
  new := fun {Hq s} => by
    have e : inS [] = fun j => decide (j ∈ ([] : List Int).take 0) := by funext j; simp [inS]
    rw [e]
    exact setO_new (setR_new_at (ns := []) (Heap.get?_push_size _ rfl))
  add := fun {Z pins σ H s E D ns ns' y u Q} eP eW eK I hD r pu h => by
    obtain ⟨k, rfl, hl, rfl⟩ := pu
    obtain ⟨tk, rfl⟩ := r
    rw [← eW] at hD h
    refine setR_add (setO_get I hD) (Nat.lt_of_le_of_lt (Nat.succ_le_succ (sortU_le ns)) (by show ns.length + 1 < 4096; omega)) fun h' sb nw => ?_
    have he : ∃ z, h'.get? D = some z := by
      have ⟨o, _, _, _, ho, _⟩ := nw
      exact ⟨o, ho⟩
    have nw2 : SetR Z.w h' D (inS (ns ++ [k])) (sortU (ns ++ [k])).length := by
      rw [← inS_snoc, sortU_len]
      by_cases c : k ∈ ns
      · rw [if_pos (show inS ns k = true from decide_eq_true c)] at nw
        rw [if_pos c]; exact nw
      · rw [if_neg (show ¬ inS ns k = true from fun z => c (of_decide_eq_true z))] at nw
        rw [if_neg c]; exact nw
    exact h _ (I.write (e := D) (t' := s.toks + 1) (by rw [hD]; trivial) (.inl rfl) (fun b z hb hu => (sb.2 b hb).trans hu) he (setO_new nw2))
/-! ### sorted({..}) -/
theorem lcLoop_pre {t : Tg} {Gt : GT} {Ge : GE} {vs : List Nat} : ∀ {ds acc : List D} {e : En} {pf : List D × En}, lcLoop t Gt Ge vs ds acc e = some pf → ∃ r, pf.1 = acc ++ r
  | [], acc, e, pf, h => by
    unfold lcLoop at h
    cases h
    exact ⟨[], by simp⟩
  | d :: ds, acc, e, pf, h => by
    unfold lcLoop at h
    split at h
    · cases h
    · split at h
      · split at h
        · split at h
          · obtain ⟨r, hr⟩ := lcLoop_pre h
            exact ⟨_ :: r, by rw [hr, List.append_assoc]; rfl⟩
          · cases h
        · cases h
      · exact lcLoop_pre h
      · cases h
theorem ints_app : ∀ {a b : List D} {ns : List Int}, ints? (a ++ b) = some ns → ∃ p q, ints? a = some p ∧ ints? b = some q ∧ ns = p ++ q
  | [], b, ns, h => ⟨[], ns, rfl, h, rfl⟩
  | x :: a, b, ns, h => by
    cases x <;> first
      | (have h : (ints? (a ++ b)).map _ = some ns := h
         obtain ⟨m, h1, rfl⟩ := Option.map_eq_some_iff.mp h
         obtain ⟨p, q, h2, h3, rfl⟩ := ints_app h1
         refine ⟨_ :: p, q, ?_, h3, rfl⟩
         unfold ints?
         rw [h2]
         rfl)
      | (cases h)
def dSortU (ds : List D) : Option D := (ints? ds).bind fun ns => if ns.length < 64 then some (.list ((sortU ns).map PyData.int)) else none
def gSc (Gi : GA) (t : Tg) (Gt : GT) (Ge : GE) (vs : List Nat) : GE := gB (gLc Gi t Gt Ge vs) fun ds => gO (dSortU ds)
section
variable {X : Cx} {W : WX}
theorem sc_read {Gi : GA} {t : Tg} {Gt : GT} {Ge : GE} {vs : List Nat} {σ : L2.St} {H : Hp} {Q : VK} (sub : ∀ i ∈ t.is, i ∈ vs) (q : tD X W (gSc Gi t Gt Ge vs) σ H Q) : tScK (skI X) (tI X W Gi) (gTG X.K t) (tT X W0 Gt) (tD X W0 Ge) vs σ H fun v H1 => rSortedSet X.w [v] H1 Q := by
  obtain ⟨Wp, Fb, L, env, r, R, g, k⟩ := q
  unfold gSc gLc gB at g
  split at g
  · cases g
  rotate_left
  · rename_i c fs e hg
    cases g
    split at hg
    · cases hg
    · dsimp only at hg
      split at hg
      · obtain ⟨z, _, y⟩ := Option.map_eq_some_iff.mp hg
        cases y
      · cases hg
    · rename_i hq
      cases hg
      exact ⟨Wp, Fb, L, env, _, R, hq, k⟩
  rename_i dsF eF hg
  split at hg
  · cases hg
  rotate_left
  · cases hg
  rename_i items e0 hq
  dsimp only at hg
  split at hg
  rotate_left
  · cases hg
  rename_i nm
  obtain ⟨pf, hl, he⟩ := Option.map_eq_some_iff.mp hg
  cases he
  obtain ⟨zF, hz, rfl⟩ := gO_some g
  obtain ⟨nsF, hF, hz⟩ := Option.bind_eq_some_iff.mp hz
  split at hz
  rotate_left
  · cases hz
  rename_i h64
  cases hz
  refine ⟨Wp, Fb, L, env, _, R, hq, fun H1 L1 t1 R1 J wk D hD => ?_⟩
  refine ⟨fun i m Hi => m = items.length - i ∧ i ≤ items.length ∧ ∃ (Li : AS) (acc : List PyData) (e : En) (ns : List Int), lcLoop t Gt Ge vs (items.drop i) acc e = some pf ∧ Tr H1 L1 Hi Li ∧ ER X.K Wp (fun a => Fb a ∨ a = D) Li Hi (L2.wipe σ vs) e ∧ ints? acc = some ns ∧ Hi D = some ((skI X).ob D ns),
    ⟨_, rfl, Nat.zero_le _, L1, [], wipeE e0 vs, [], hl, Tr.new hD, (R1.guard hD).wipe vs, rfl, upd_same⟩, ?_⟩
  rintro i m Hi ⟨rfl, hi, Li, acc, e, ns, hm, ti, Ri, hns, hDi⟩
  obtain ⟨go, stop⟩ := wk _ Li Hi (fun a h => h.imp id fun z => by subst z; exact hD) ti Ri.trk
  by_cases hlt : i < items.length
  · refine .inr ?_
    obtain ⟨g1, g2⟩ := go i _ (show items[i]? = some items[i] by simp [hlt])
    rw [List.drop_eq_getElem_cons hlt] at hm
    unfold lcLoop at hm
    refine ⟨g1, fun Hn => ∃ (Li : AS) (acc : List PyData) (e : En) (ns : List Int), lcLoop t Gt Ge vs (items.drop (i + 1)) acc e = some pf ∧ Tr H1 L1 Hn Li ∧ ER X.K Wp (fun a => Fb a ∨ a = D) Li Hn (L2.wipe σ vs) e ∧ ints? acc = some ns ∧ Hn D = some ((skI X).ob D ns),
      fun Hn z => ⟨items.length - (i + 1), by omega, rfl, hlt, z⟩, fun x H3 y => ?_⟩
    obtain ⟨gr, dx⟩ := g2 x H3 y
    split at hm
    · cases hm
    rename_i e1 he1
    refine gTG_read (Ri.grow gr) dx he1 fun vals hvl R4 => ⟨by rw [wipe_sets sub, wipe_wipe fun _ h => h], ?_⟩
    have wp2 : L2.wipe (sets (L2.wipe σ vs) t.is vals) vs = L2.wipe σ vs := by rw [wipe_sets sub, wipe_wipe fun _ h => h]
    have t3 : Tr H1 L1 H3 Li := ti.trans (grow_tr gr)
    have stay : ∀ {Ha Hb : Hp} {La Lb : AS} {o : HO}, Tr Ha La Hb Lb → ¬ La D → Ha D = some o → Hb D = some o ∧ ¬ Lb D := fun t n h => t D _ h n
    have nD : ¬ Li D := fun z => Ri.dis D z (.inr rfl)
    split at hm
    · rename_i e2 ht
      refine ⟨Wp, _, Li, e1, _, R4, ht, fun H5 L5 t5 R5 b hb => ?_⟩
      subst hb
      show tD X W0 Ge (sets (L2.wipe σ vs) t.is vals) H5 _
      split at hm
      rotate_left
      · cases hm
      rename_i v e3 hv
      split at hm
      rotate_left
      · cases hm
      refine ⟨Wp, _, L5, e2, _, R5, hv, fun H6 L6 t6 R6 yv hy => ?_⟩
      obtain ⟨d5, n5⟩ := stay t5 nD (gr D _ hDi)
      obtain ⟨d6, n6⟩ := stay t6 n5 d5
      -- what is put is an int
      obtain ⟨rs, hr⟩ := lcLoop_pre hm
      rw [hr] at hF
      obtain ⟨p1, q1, f1, _, fe⟩ := ints_app hF
      obtain ⟨p2, q2, f2, f3, f4⟩ := ints_app f1
      rw [hns] at f2
      cases f2
      have fv : ∃ n, v = PyData.int n ∧ q2 = [n] := by
        cases v <;> first
          | (cases f3; exact ⟨_, rfl, rfl⟩)
          | (cases f3)
      obtain ⟨n, rfl, rfl⟩ := fv
      cases hy
      have len : ns.length < 4000 := by
        rw [fe, f4] at h64
        simp only [List.length_append] at h64
        omega
      refine ⟨ns, ns ++ [n], d6, ⟨n, rfl, len, rfl⟩, ?_⟩
      have tt := t5.trans t6
      obtain ⟨R7, m7⟩ := R6.write (u := (skI X).ob D (ns ++ [n])) (.inr rfl) d6
      refine ⟨L6, acc ++ [PyData.int n], wipeE e3 vs, ns ++ [n], hm, fun a o ea na => ?_, ?_, by rw [← f4]; exact f1, upd_same⟩
      · obtain ⟨b1, b2⟩ := t3.trans tt a o ea na
        exact ⟨by rw [upd_ne (ne_of_none ea hD)]; exact b1, b2⟩
      · have R8 := R7.wipe vs
        rw [wp2] at R8
        exact R8
    · rename_i e2 ht
      refine ⟨Wp, _, Li, e1, _, R4, ht, fun H5 L5 t5 R5 b hb => ?_⟩
      subst hb
      show ∃ (Li : AS) (acc : List PyData) (e : En) (ns : List Int), _
      have R8 := R5.wipe vs
      rw [wp2] at R8
      exact ⟨L5, acc, wipeE e2 vs, ns, hm, t3.trans t5, R8, hns, (stay t5 nD (gr D _ hDi)).1⟩
    · cases hm
  · have ei : i = items.length := by omega
    subst ei
    rw [List.drop_length] at hm
    unfold lcLoop at hm
    cases hm
    rw [hF] at hns
    cases hns
    have RB := R1.back Ri ti hD nm
    have tB : Tr H1 L1 Hi fun a => Li a ∨ a = D := fun a o ea na => ⟨(ti a o ea na).1, fun z => z.elim (ti a o ea na).2 (ne_of_none ea hD)⟩
    refine .inl ⟨stop, D, inS nsF, (sortU nsF).length, rfl, hDi, Nat.lt_of_le_of_lt (sortU_le nsF) h64, fun ks p ho hk hlen hp => ?_⟩
    have ek : ks = sortU nsF := ord_uniq ho (sortU_ord nsF) fun j => (hk j).trans ((decide_eq_true_iff).trans (sortU_mem j nsF).symm)
    subst ek
    refine k _ _ (t1.trans (tB.trans (Tr.new hp))) (RB.new hp) _ (.lst (RB.free hp) upd_same (DnA.ints _))
variable {elt tg iter : Expr} {ifs : List Expr} {scope : Scope} {own : List (Str × Nat)} {p pos cpos : Pos} {Gi : GA} {t : Tg} {Gt : GT} {Ge : GE}
theorem pd_sortedSc (hc : X.calm = true) (hN : X.N.Nodup) (hgl : Gl X "sorted") (hm : X.mg "sorted" = none) (hi : PDI X W tg iter Gi) (ok : BlkOk X.N X.env.scope scope own)
    (hg : ∀ (s : Shared) (H : Hp) (C : Addr) (cl : List (Str × Addr)) (fp : List Addr), PG (X.blk s H scope (compEnvC scope cl C X.env) fp) tg (gTG X.K t)) (ht : ∀ (s : Shared) (H : Hp) (C : Addr) (cl : List (Str × Addr)) (fp : List Addr), PDTs (X.blk s H scope (compEnvC scope cl C X.env) fp) W0 ifs Gt)
    (he : ∀ (s : Shared) (H : Hp) (C : Addr) (cl : List (Str × Addr)) (fp : List Addr), PD (X.blk s H scope (compEnvC scope cl C X.env) fp) W0 elt Ge) (sub : ∀ i ∈ t.is, i ∈ own.map (·.2)) (hs : ∀ x, foldedSetIterable iter X.env x = pure x := by intro _; rfl)
    (h1 : starEach [.SetComp elt [⟨tg, iter, ifs, 0⟩] scope pos] X.env = (false, eval (.SetComp elt [⟨tg, iter, ifs, 0⟩] scope pos) X.env) :: starEach [] X.env := by rfl) (hpl : (backTo cpos (starEach [] X.env)).any (·.1) = false := by rfl) :
    PD X W (.Call (.Name "sorted" p) [.SetComp elt [⟨tg, iter, ifs, 0⟩] scope pos] [] cpos) (gSc Gi t Gt Ge (own.map (·.2))) :=
  ⟨PE.wk (pe_callB (cr_sortedSet hc) hgl hm (by decide +kernel) (pa_cons (pe_scK (Kd := skI X) hc hN hi.pi ok hg (fun s H C cl fp => (ht s H C cl fp).pts) (fun s H C cl fp => (he s H C cl fp).pe) hs) pa_nil h1) (by decide) (by decide) h1 hpl) fun σ H Q q => sc_read sub q⟩
end
end PD
namespace PD
open PySem PySem.Spec PyProof.Rows L2
section
variable {P : Program} {w : World} {K : Fr0} {mg : Str → Option Value} {base : Heap} {k : Nat} {f : Addr} {fd : FuncData} {ps : List Str} {sp : Sp}
/-- where nothing may be raised -/
theorem fn_quiet (F : FnOk P w K mg base (L2.CX P w) k f fd ps sp) : FnOk P w K mg base CX0 k f fd ps (fun vs H Q _ => sp vs H Q fun _ _ _ => False) :=
  ⟨fun _ _ _ _ h => F.len _ _ _ _ h, fun A outer s H args us vs Q E hr he hb hv hs => codeAny_mono (F.run A outer s H args us vs Q _ hr he hb hv hs) fun r s' q => by
    cases r with
    | error e =>
      obtain ⟨_, _, _, _, _, _, _, _, _, _, _, _, z⟩ := q
      exact z.elim
    | ok fl => cases fl <;> exact q⟩
def isT : Option FR → Bool
  | some (.val (.bool true) _) => true
  | _ => false
theorem isT_ok {o : Option FR} (h : isT o = true) : ∃ sl, o = some (.val (.bool true) sl) := by
  unfold isT at h
  split at h
  · exact ⟨_, rfl⟩
  · cases h
theorem fun_fd {x q : Str} {st : Stmt} {fd2 : FuncData} (F : Fun K x q st f fd) (F2 : Fun K x q st f fd2) : fd = fd2 := by
  obtain ⟨_, _, _, _, _, _, _, _, _, _, h1, _⟩ := F.ex
  obtain ⟨_, _, _, _, _, _, _, _, _, _, h2, _⟩ := F2.ex
  rw [h1] at h2
  cases h2
  rfl
theorem law_fn {x : Str} {st : Stmt} {F : List Sl → Option FR} (D : Df P w K mg base k x st ps F) (Fu : Fun K x x st f fd) (hm : mg x = some (.ref f)) : FnOk P w K mg base CX0 k f fd ps (fun vs H Q _ => spF K mg F vs H Q fun _ _ _ => False) := by
  obtain ⟨f2, fd2, Fn, hm2, _, _, Fu2⟩ := D.ex
  cases Option.some.inj (hm.symm.trans hm2)
  rw [fun_fd Fu Fu2]
  exact fn_quiet Fn
/-- a law that does not look at its script -/
theorem law_blind {F : List Sl → Option FR} (h : isT (F [.no]) = true) (H : Hp) (a : Addr) : spF K mg F [.ref a] H (fun v _ => v = .bl true) fun _ _ _ => False := by
  obtain ⟨sl, e⟩ := isT_ok h
  refine ⟨fun _ => False, fun _ => False, [.no], _, ⟨rfl, fun a h => (h.elim id id).elim, fun a h => h.elim, fun i s e => ?_, fun i j b c ds es a ne e1 => ?_⟩, fun a h => h.elim, e, fun v H' _ _ hv => ?_⟩
  · cases i with
    | zero => cases e; trivial
    | succ i => simp at e
  · cases i with
    | zero => cases e1
    | succ i => simp at e1
  · cases hv
    rfl
end
end PD
namespace PD
open PySem PySem.Spec PyProof.Rows L2 HT
section
variable {P : Program} {w : World} {A : Around} {E : Value → Shared → Prop} {s : Shared}
theorem rev_pick (xs : Array Value) : ((List.range xs.size).filterMap fun (k : Nat) => xs[(((xs.size : Int) - 1) + (k : Int) * (-1)).toNat]?) = xs.toList.reverse := by
  have step : ∀ n : Nat, n ≤ xs.size → ((List.range n).filterMap fun (k : Nat) => xs[(((xs.size : Int) - 1) + (k : Int) * (-1)).toNat]?) = xs.toList.reverse.take n := by
    intro n
    induction n with
    | zero => intro _; rfl
    | succ n ih =>
      intro h
      have hlt : n < xs.toList.reverse.length := by
        simp only [List.length_reverse, Array.length_toList]
        exact h
      rw [List.range_succ, List.filterMap_append, ih (by omega), List.take_succ, List.getElem?_eq_getElem hlt]
      have e : (((xs.size : Int) - 1) + (n : Int) * (-1)).toNat = xs.size - 1 - n := by omega
      have g : xs[xs.size - 1 - n]? = some (xs[xs.size - 1 - n]'(by omega)) := Array.getElem?_eq_getElem _
      simp only [List.filterMap_cons, List.filterMap_nil, e, g]
      rw [List.getElem_reverse]
      simp
  have := step xs.size (Nat.le_refl _)
  rw [this, List.take_of_length_le (by simp)]
theorem slice_rev {sl : Addr} {t : Tok} {n : Nat} {Q : Int × Int × Nat → Shared → Prop} (hs : s.heap.IsSliceOf sl .none .none (.int (-1) t)) (h : Q ((n : Int) - 1, -1, n) s) : wpAny (model P w) A (Builtin.Slice.sliceApplied (.ref sl) (pure (n : Int))) Q E s := by
  obtain ⟨os, hos, hcs, hds⟩ := id hs
  unfold Builtin.Slice.sliceApplied Builtin.Slice.sliceFields
  refine wpAny_bind (wpAny_bind (wpAny_field hos hds (x := .none) rfl (wpAny_bind (wpAny_field hos hds (x := .none) rfl (wpAny_bind (wpAny_field hos hds (x := .int (-1) t) rfl (wpAny_pure ?_)))))))
  refine wpAny_bind (slicePart_int ?_)
  show wpAny _ _ (if ((-1 : Int) == 0) = true then _ else _) _ _ s
  rw [if_neg (show ¬ (((-1 : Int) == 0) = true) by decide)]
  refine wpAny_bind (slicePart_none (wpAny_bind (slicePart_none (wpAny_bind (wpAny_pure ?_)))))
  have e : Builtin.Slice.slicePlaces ((n : Int) - 1) (-1) (-1) = n := by
    unfold Builtin.Slice.slicePlaces
    simp only [show ¬ ((-1 : Int) > 0) by omega, if_false, Int.neg_neg, Int.ediv_one]
    split <;> omega
  show wpAny _ _ (pure ((n : Int) - 1, (-1 : Int), Builtin.Slice.slicePlaces ((n : Int) - 1) (-1) (-1))) _ _ s
  rw [e]
  exact wpAny_pure h
theorem getItem_rev {t sl : Addr} {items : Array Value} {tk : Tok} {Q : Value → Shared → Prop} (ht : IsTup s.heap t items) (hs : s.heap.IsSliceOf sl .none .none (.int (-1) tk))
    (h : Q (.ref s.heap.objs.size) { s with heap := s.heap.push { cls := .type "tuple", data := .seq items.toList.reverse.toArray } }) (hsz : items.size ≤ sizeLine) : wpAny (model P w) A (getItem (.ref t) (.ref sl)) Q E s := by
  have hz : sizeOk (.seq items.toList.reverse.toArray) := by
    show items.toList.reverse.toArray.size ≤ sizeLine
    simpa using hsz
  obtain ⟨os, hos, hcs, hds⟩ := id hs
  have hTs : s.TypeIs (.ref sl) "slice" := ⟨os, hos, hcs⟩
  unfold getItem
  try with_reducible refine wpAny_holding ?_
  first | refine wpAny_bind (wpAny_pure ?_) | skip
  refine wpAny_bind (wpAny_sequenceKey ht.typeIs (by decide) (wpAny_bind (wpAny_callSpecial?_slot (name := Str.ofString "__getitem__") ht.typeIs PyProof.Rows.slot_tuple_getitem (wpAny_call_entry PyProof.Rows.slot_tuple_getitem ht.typeIs entry_tuple_getitem ?_ (args_tuple_getitem _ _)))))
  show wpAny _ _ (Builtin.Tuple.tupleItemsOf (.ref t) >>= _) _ _ s
  refine wpAny_bind (tupleItemsOf_ ht (wpAny_bind (wpAny_typeOf hTs ?_)))
  rw [if_pos (by decide)]
  refine wpAny_bind (slice_rev hs ?_)
  show wpAny _ _ (if ((((items.size : Int) - 1) == 0 && (-1 : Int) == 1 && items.size == items.size) = true) then _ else _) _ _ s
  rw [if_neg (by intro q; rw [Bool.and_eq_true, Bool.and_eq_true] at q; exact absurd q.1.2 (by decide)), rev_pick]
  first
    | exact wpAny_bind (m := Builtin.Tuple.tupleExact _) (wpAny_newObj_type (wpAny_pure ⟨_, rfl, wpAny_pure h⟩) hz)
    | exact wpAny_bind (m := Builtin.Tuple.tupleExact _) (wpAny_newObj_type (wpAny_bind (wpAny_pure (wpAny_pure ⟨_, rfl, wpAny_pure h⟩))) hz)
    | exact wpAny_bind (wpAny_bind (m := Builtin.Tuple.tupleExact _) (wpAny_newObj_type (wpAny_pure (wpAny_pure ⟨_, rfl, wpAny_pure h⟩)) hz))
    | exact wpAny_bind (wpAny_bind (m := Builtin.Tuple.tupleExact _) (wpAny_newObj_type (wpAny_pure ⟨_, rfl, wpAny_pure h⟩) hz))
end
section
variable {X : Cx} {W : WX}
def tRevT (K : Fr0) (te : TE) : TE := fun σ H Q => te σ H fun x H1 => ∃ a xs, x = .ref a ∧ SqT K H1 a xs ∧ ∀ p, H1 p = none → Q (.ref p) (upd H1 p (.tup xs.reverse))
theorem pe_revT {e : Expr} {te : TE} {k : Nat} {p1 p2 p3 pos : Pos} (he : PE X e te) : PE X (.Subscript e (.Slice none none (some (.UnaryOp .USub (.Constant (.int 1) k p1) p2)) p3) pos) (tRevT X.K te) := by
  refine ⟨fun pins s σ H Q I h => Subscript_ (thn (he.run pins s σ H _ I h) fun v s1 ⟨x, H1, I1, r1, a, xs, ex, hx, q⟩ => ?_)⟩
  subst ex
  cases r1
  have neg : PO X (some (.UnaryOp .USub (.Constant (.int 1) k p1) p2)) (tPart (tUn (rU fun i => .int (-i)) (tC (.int 1)))) := po_some (pe_un un_neg pe_int)
  refine wpAny_Slice (thn (po_none.run pins s1 σ H1 (fun o Hq => o = none ∧ Hq = H1) I1 ⟨rfl, rfl⟩) fun vl s2 ⟨l, H2, I2, pl, el, e2⟩ => ?_)
  subst el e2
  refine thn (po_none.run pins s2 σ H2 (fun o Hq => o = none ∧ Hq = H2) I2 ⟨rfl, rfl⟩) fun vu s3 ⟨u, H3, I3, pu, eu, e3⟩ => ?_
  subst eu e3
  refine thn (neg.run pins s3 σ H3 (fun o Hq => o = some (-1) ∧ Hq = H3) I3 ⟨1, rfl, -1, rfl, rfl, rfl⟩) fun vs s4 ⟨o, H4, I4, ps, eo, e4⟩ => ?_
  subst eo e4
  obtain ⟨its, r, ht, hz⟩ := I4.tuple hx
  have hl := r.length
  have evl : vl = .none := by
    first
      | exact pl
      | (cases pl; rfl)
  have evu : vu = .none := by
    first
      | exact pu
      | (cases pu; rfl)
  have evs : ∃ tk, vs = .int (-1) tk := by
    cases ps
    exact ⟨_, rfl⟩
  obtain ⟨t, rfl⟩ := evs
  subst evl evu
  let s5 : Shared := { s4 with heap := s4.heap.push { cls := .type "slice", data := .fields #[.none, .none, .int (-1) t] } }
  have gr : ∀ b ob, s4.heap.get? b = some ob → s5.heap.get? b = some ob := fun b ob q => Heap.get?_push_of_some _ q
  have I5 : Inv X pins σ H4 s5 := I4.kept (t' := s4.toks) gr
  obtain ⟨its5, r5, ht5, hz5⟩ := I5.tuple hx
  refine tail_any (s := s5) (ops := [.ref a, .ref s4.heap.objs.size]) ht5.typeIs PyProof.Rows.slot_tuple_getitem.lookup ?_ (by with_unfolding_all rfl)
  refine getItem_rev (s := s5) ht5 (Heap.IsSliceOf.new _ _ _ _) ?_ (by rw [List.size_toArray, ← r5.length]; exact hz5)
  refine ⟨.ref _, _, I5.laid (t' := s4.toks) (o := .tup xs.reverse) (fun b ob q => Heap.get?_push_of_some _ q) (Nat.le_refl _) ?_, rfl, q _ (I5.hok.fresh (Nat.le_refl _))⟩
  refine ⟨by rw [List.length_reverse]; exact hz5, its5.reverse, r5.reverse, ?_⟩
  exact ⟨_, Heap.get?_push_size _ rfl, rfl, 0, by simp⟩
def dRev : PyData → Option PyData
  | .tuple ds => some (.tuple ds.reverse)
  | _ => none
theorem pd_rev {e : Expr} {G : GE} {k : Nat} {p1 p2 p3 pos : Pos} (h : PD X W e G) : PD X W (.Subscript e (.Slice none none (some (.UnaryOp .USub (.Constant (.int 1) k p1) p2)) p3) pos) (gB G fun d => gO (dRev d)) := ⟨PE.wk (pe_revT h.pe) fun σ H Q q => (tG.seq (ρ := ρD X.K) q).mono fun v H1 z => by
  obtain ⟨d, Wp, Fb, L, env, r, hx, R, g, k⟩ := z
  obtain ⟨z, h1, rfl⟩ := gO_some g
  cases d <;> simp only [dRev] at h1 <;> cases h1
  obtain ⟨a, vs, rfl, ha, da⟩ := hx.tupInv
  exact ⟨a, vs, rfl, ha, fun p hp => k _ L (Tr.new hp) (R.new hp) _ (.tup (.inl ⟨R.free hp, upd_same⟩) (da.rev.mv (mv_grow (upd_grow hp))))⟩⟩
/-! ### sorted(set(xs)) of a tuple of ints -/
def dSortedSet : List PyData → Option PyData
  | [.tuple ds] => dSortU ds
  | _ => none
end
end PD
namespace PD
open PySem PySem.Spec PyProof.Rows L2
section
variable {X : Cx} {W : WX}
/-! ### methods that change one's own list -/
def gMet (φ : List PyData → List PyData → Option (List PyData)) (i : Nat) (G : GA) : Gs := gS (gHasO i G) fun as env => match own? env i with
  | some (b, ds) => (φ ds as).map fun es => .nx (env.set i (.mu b es))
  | none => none
/-- what such a method does to its list -/
structure MLd (K : Fr0) (r : V → List V → Hp → VK → Prop) (φ : List PyData → List PyData → Option (List PyData)) : Prop where
  go : ∀ {F : AS} {H : Hp} {a : Addr} {vs xs : List V} {ds as es : List PyData} {Q : VK}, H a = some (.lst vs) → DnA K F H vs ds → DnA K F H xs as → φ ds as = some es →
    (∀ v ws, DnA K F H ws es → Q v (upd H a (.lst ws))) → r (.ref a) xs H Q
theorem met_read {r : V → List V → Hp → VK → Prop} {φ : List PyData → List PyData → Option (List PyData)} (m : MLd X.K r φ) {i : Nat} {G : GA} {D : Ends} {σ : L2.St} {H : Hp} (q : tS X W (gMet φ i G) D σ H) : tDrop (tBM X.K "list" r (tVar i) (tAs X W G)) D σ H := by
  obtain ⟨Wp, Fb, L, env, rr, R, g, k⟩ := q
  unfold gMet gS at g
  split at g
  · cases g
  · rename_i as e1 hz
    obtain ⟨⟨b0, ds0, h0⟩, hz⟩ := gHasO_of hz
    obtain ⟨a, vs, e2, la, h2, h3, _⟩ := R.sl i _ h0
    refine ⟨_, e2, .inl ⟨rfl, vs, SqL.of h2⟩, Wp, Fb, L, env, _, R, hz, fun H1 L1 t1 R1 xs hxs => ?_⟩
    dsimp only at g
    split at g
    · rename_i b ds ho
      obtain ⟨es, he, rfl⟩ := Option.map_eq_some_iff.mp g
      have ho := own_of ho
      obtain ⟨a', ws, e3, la1, h4, h5, _⟩ := R1.sl i _ ho
      rw [e2] at e3
      cases e3
      exact m.go h4 h5 hxs he fun v us hu => by
        obtain ⟨R3, t3, _⟩ := R1.chg ho e2 hu
        exact k σ _ L1 (t1.trans t3) R3
    · cases g
  · rename_i c fs e1 hz
    cases g
    obtain ⟨⟨b0, ds0, h0⟩, hz⟩ := gHasO_of hz
    obtain ⟨a, vs, e2, la, h2, h3, _⟩ := R.sl i _ h0
    exact ⟨_, e2, .inl ⟨rfl, vs, SqL.of h2⟩, Wp, Fb, L, env, _, R, hz, fun cls dd H' L' t R' x => k cls dd σ H' L' t R' x⟩
theorem pds_met {st : Stmt} {r : V → List V → Hp → VK → Prop} {φ : List PyData → List PyData → Option (List PyData)} (m : MLd X.K r φ) {i : Nat} {es : List Expr} {G : GA} (h : PDA X W es G) (hp : ∀ {ta : TA}, PA X es ta → PS X st (tDrop (tBM X.K "list" r (tVar i) ta))) : PDS X W st (gMet φ i G) := ⟨PS.wk (hp h.pa) fun D σ H q => met_read m q⟩
def fIns (ds as : List PyData) : Option (List PyData) := match as with
  | [.int k, d] => if 0 ≤ k ∧ k ≤ 100000 ∧ ds.length ≤ 100000 then some (ds.take k.toNat ++ [d] ++ ds.drop k.toNat) else none
  | _ => none
theorem ml_ins {K : Fr0} : MLd K (fun x vs H Q => ∃ (l : Addr) (xs : List V) (i : Int) (y : V), x = .ref l ∧ vs = [.int i, y] ∧ H l = some (.lst xs) ∧ xs.length < sizeLine ∧ 0 ≤ i ∧ i < 2 ^ 63 ∧
    Q .non (upd H l (.lst (xs.take i.toNat ++ [y] ++ xs.drop i.toNat)))) fIns := ⟨by
  intro F H a vs xs ds as es Q ha hd hx hf k
  unfold fIns at hf
  split at hf
  · split at hf
    · rename_i hc
      cases hf
      obtain ⟨v, u, rfl, h, h'⟩ := hx.two
      cases h
      exact ⟨a, vs, _, u, rfl, rfl, ha, Nat.lt_of_le_of_lt (by rw [hd.length]; exact hc.2.2) (by decide), hc.1, by have := hc.2.1; omega, k _ _ (((hd.take _).app (.cons h' .nil)).app (hd.drop _))⟩
    · cases hf
  · cases hf⟩
def fPop (ds as : List PyData) : Option (List PyData) := match as with
  | [.int k] => if 0 ≤ k ∧ k < ds.length ∧ ds.length ≤ 100000 then some (ds.eraseIdx k.toNat) else none
  | _ => none
theorem ml_pop {K : Fr0} : MLd K rPopAt fPop := ⟨by
  intro F H a vs xs ds as es Q ha hd hx hf k
  unfold fPop at hf
  split at hf
  · rename_i k0
    split at hf
    · rename_i hc
      cases hf
      obtain ⟨v, rfl, h⟩ := hx.one
      cases h
      have hlt : k0.toNat < vs.length := by rw [hd.length]; omega
      refine ⟨a, vs, _, k0.toNat, vs[k0.toNat], rfl, rfl, ha, by omega, by omega, ?_, List.getElem?_eq_getElem hlt, k _ _ (hd.erase _)⟩
      have e := ixN_seq (n := vs.length) (i := k0) (j := k0.toNat) (by
        unfold ixN
        rw [if_pos hc.1, if_pos (by omega)])
      exact e.1
    · cases hf
  · cases hf⟩
/-! ### sorted(set(xs)) -/
def rSetTI (K : Fr0) (w : World) : List V → Hp → VK → Prop := fun xs H Q => ∃ (a : Addr) (ns : List Int), xs = [.ref a] ∧ SqT K H a (ns.map V.int) ∧ ns.length < 4000 ∧ ∀ p c, H p = none → c ≤ ns.length → Q (.ref p) (upd H p (SetO w p (fun j => decide (j ∈ ns)) c))
theorem cr_setTI (hc : X.calm = true) : CallR X (.type "set") (rSetTI X.K X.w) := by
  intro pins s σ H xs us Q I r h
  obtain ⟨a, ns, rfl, hT, hn, q⟩ := h
  obtain ⟨u, rfl, ru⟩ := Vals.one r
  cases ru
  obtain ⟨its, rv, pt, hz⟩ := I.tuple hT
  refine call_set_tupI ns (I.ok.hd hc) (show s.heap.IsTuple a its.toArray from pt) (by simpa using ints_of_vals rv) (by show ns.length + 1 < 4096; omega) fun h' tk c R1 hcn k => ?_
  exact ⟨.ref _, _, I.laid (t' := tk) k (Nat.le_refl _) (setO_new R1), rfl, q _ c (I.hok.fresh (Nat.le_refl _)) hcn⟩
variable {e : Expr} {p q pos cpos : Pos} {G : GA}
theorem pd_sortedSet (hc : X.calm = true) (hg : Gl X "sorted") (hm : X.mg "sorted" = none) (hg2 : Gl X "set") (hm2 : X.mg "set" = none) (ha : PDA X W [e] G)
    (hs : starEach [e] X.env = (false, eval e X.env) :: starEach [] X.env := by rfl) (hpl : (backTo pos (starEach [] X.env)).any (·.1) = false := by rfl)
    (hs2 : starEach [.Call (.Name "set" q) [e] [] pos] X.env = (false, eval (.Call (.Name "set" q) [e] [] pos) X.env) :: starEach [] X.env := by rfl) (hpl2 : (backTo cpos (starEach [] X.env)).any (·.1) = false := by rfl) :
    PD X W (.Call (.Name "sorted" p) [.Call (.Name "set" q) [e] [] pos] [] cpos) (gCall dSortedSet G) :=
  ⟨PE.wk (pe_callB (cr_sortedSet hc) hg hm (by decide +kernel) (pa_cons (pe_callTy (cr_setTI hc) hg2 hm2 (by decide +kernel) ha.pa (by decide) (by decide) hs hpl) pa_nil hs2) (by decide) (by decide) hs2 hpl2) fun σ H Q z => (tG.seq (ρ := ρA X.K) z).mono fun xs H1 z => by
    obtain ⟨ds, Wp, Fb, L, env, r, hx, R, g, k⟩ := z
    obtain ⟨z, h1, rfl⟩ := gO_some g
    unfold dSortedSet at h1
    split at h1
    · unfold dSortU at h1
      obtain ⟨ns, h2, h1⟩ := Option.bind_eq_some_iff.mp h1
      split at h1
      · rename_i h64
        cases h1
        obtain ⟨v, rfl, h⟩ := hx.one
        obtain ⟨a, vs, rfl, ha, da⟩ := h.tupInv
        rw [ints_of h2] at da
        rw [da.ints_inv] at ha
        refine ⟨a, ns, rfl, ha, by omega, fun p c hp hcn => ⟨p, inS ns, c, rfl, upd_same, by omega, fun ks p2 ho hk hlen hp2 => ?_⟩⟩
        have ek : ks = sortU ns := ord_uniq ho (sortU_ord ns) fun j => (hk j).trans ((decide_eq_true_iff).trans (sortU_mem j ns).symm)
        subst ek
        exact k _ L ((Tr.new hp).trans (Tr.new hp2)) ((R.new hp).new hp2) _ (.lst ((R.new hp).free hp2) upd_same (DnA.ints _))
      · cases h1
    · cases h1⟩
/-! ### x or y of fresh lists -/
def gOrF (G1 G2 : GA) : GA := gB G1 fun ds => if ds.isEmpty = true then G2 else gP ds
end
end PD
/-! Little functions as the kernel reckons them best: each by one recursor, lists made as they stand. -/
namespace PM
section
variable {α β : Type}
def geti0 (l : List α) (i : Nat) : Option α := l[i]?
def geti (l : List α) (i : Nat) : Option α := List.rec (motive := fun _ => Nat → Option α) (fun _ => none) (fun h _ ih n => Nat.rec (motive := fun _ => Option α) (some h) (fun m _ => ih m) n) l i
theorem geti_eq : ∀ (l : List α) (i : Nat), geti l i = l[i]?
  | [], i => by simp; rfl
  | h :: t, 0 => rfl
  | h :: t, i + 1 => by
    rw [List.getElem?_cons_succ, ← geti_eq t i]
    rfl
/-- the list with x at i, made, then k -/
def setK0 (l : List α) (i : Nat) (x : α) (k : List α → β) : β := k (l.set i x)
def setK (l : List α) (i : Nat) (x : α) (k : List α → β) : β := List.rec (motive := fun _ => Nat → (List α → β) → β) (fun _ k => k []) (fun h t ih n k => Nat.rec (motive := fun _ => β) (k (x :: t)) (fun m _ => ih m fun r => k (h :: r)) n) l i k
theorem setK_eq : ∀ (l : List α) (i : Nat) (x : α) (k : List α → β), setK l i x k = k (l.set i x)
  | [], i, x, k => rfl
  | h :: t, 0, x, k => rfl
  | h :: t, i + 1, x, k => setK_eq t i x fun r => k (h :: r)
def frL0 (l : List α) (k : List α → β) : β := k l
def frL (l : List α) (k : List α → β) : β := List.rec (motive := fun _ => (List α → β) → β) (fun k => k []) (fun h _ ih k => ih fun t => k (h :: t)) l k
theorem frL_eq : ∀ (l : List α) (k : List α → β), frL l k = k l
  | [], k => rfl
  | h :: t, k => frL_eq t fun r => k (h :: r)
def revK0 (l r : List α) (k : List α → β) : β := k (l.reverse ++ r)
def revK (l r : List α) (k : List α → β) : β := List.rec (motive := fun _ => List α → (List α → β) → β) (fun r k => k r) (fun h _ ih r k => ih (h :: r) k) l r k
theorem revK_eq : ∀ (l r : List α) (k : List α → β), revK l r k = k (l.reverse ++ r)
  | [], r, k => rfl
  | h :: t, r, k => by
    have e : revK (h :: t) r k = revK t (h :: r) k := rfl
    rw [e, revK_eq t (h :: r) k, List.reverse_cons, List.append_assoc]
    rfl
def brec0 (b : Bool) (t f : α) : α := if b = true then t else f
def brec (b : Bool) (t f : α) : α := Bool.rec (motive := fun _ => α) f t b
def getd (l : List (Option α)) (i : Nat) : Option α := match geti l i with
  | some x => x
  | none => none
theorem getd_eq (l : List (Option α)) (i : Nat) : getd l i = l.getD i none := by
  unfold getd
  rw [geti_eq, List.getD_eq_getElem?_getD]
  cases l[i]? <;> rfl
/-- some of the first, behind them none, n of them -/
def iniK0 (l : List α) (n : Nat) (k : List (Option α) → β) : β := k (l.map some ++ List.replicate n none)
def iniK (l : List α) (n : Nat) (k : List (Option α) → β) : β := List.rec (motive := fun _ => (List (Option α) → β) → β) (fun k => Nat.rec (motive := fun _ => (List (Option α) → β) → β) (fun k => k []) (fun _ ih k => ih fun r => k (none :: r)) n k) (fun h _ ih k => ih fun r => k (some h :: r)) l k
theorem iniK_eq (n : Nat) : ∀ (l : List α) (k : List (Option α) → β), iniK l n k = k (l.map some ++ List.replicate n none)
  | [], k => by
    have e : ∀ (n : Nat) (k : List (Option α) → β), (Nat.rec (motive := fun _ => (List (Option α) → β) → β) (fun k => k []) (fun _ ih k => ih fun r => k (none :: r)) n k) = k (List.replicate n none) := by
      intro n
      induction n with
      | zero => intro k; rfl
      | succ n ih => intro k; exact ih fun r => k (none :: r)
    exact e n k
  | h :: t, k => iniK_eq n t fun r => k (some h :: r)
end
end PM
/-! A running def told by data and by a little store of what it may still change. -/
namespace PM
open PySem PySem.Spec PyProof.Rows L2
open PD (D AS Fr0 U Dn DnA Mv ExIs All2 NT nt_lst nt_tup nt_xd nt_ext nt_rng mv_grow upd_grow)

/-- later: what L does not hold stands (a table may have grown), and stays outside -/
def Tr (H : Hp) (L : AS) (H' : Hp) (L' : AS) : Prop := ∀ a o, H a = some o → ¬ L a → (∃ o', H' a = some o' ∧ (NT o → o' = o)) ∧ ¬ L' a
theorem Tr.refl (H : Hp) (L : AS) : Tr H L H L := fun a o e n => ⟨⟨o, e, fun _ => rfl⟩, n⟩
theorem Tr.trans {H H1 H2 : Hp} {L L1 L2 : AS} (p : Tr H L H1 L1) (q : Tr H1 L1 H2 L2) : Tr H L H2 L2 := fun a o e n => by
  obtain ⟨⟨o1, e1, k1⟩, n1⟩ := p a o e n
  obtain ⟨⟨o2, e2, k2⟩, n2⟩ := q a o1 e1 n1
  exact ⟨⟨o2, e2, fun nt => by have z := k1 nt; subst z; exact k2 nt⟩, n2⟩
theorem Tr.at_ {H H' : Hp} {L L' : AS} (p : Tr H L H' L') {a : Addr} {o : HO} (e : H a = some o) (nt : NT o) (n : ¬ L a) : H' a = some o ∧ ¬ L' a := by
  obtain ⟨⟨o1, e1, k1⟩, n1⟩ := p a o e n
  rw [k1 nt] at e1
  exact ⟨e1, n1⟩
theorem Tr.mv {H H' : Hp} {L L' Fb : AS} (t : Tr H L H' L') : Mv (U L Fb) H (U L' Fb) H' := fun a o n e nt => by
  obtain ⟨e1, n1⟩ := t.at_ e nt fun z => n (.inl z)
  exact ⟨fun z => z.elim n1 fun z => n (.inr z), e1⟩
/-- all stands, tables may have grown -/
def Gr (H H' : Hp) : Prop := ∀ a o, H a = some o → ∃ o', H' a = some o' ∧ (NT o → o' = o)
theorem Gr.at_ {H H' : Hp} (g : Gr H H') {a : Addr} {o : HO} (e : H a = some o) (nt : NT o) : H' a = some o := by
  obtain ⟨o1, e1, k1⟩ := g a o e
  rw [k1 nt] at e1
  exact e1
theorem Gr.mv {F : AS} {H H' : Hp} (g : Gr H H') : Mv F H F H' := fun a o n e nt => ⟨n, g.at_ e nt⟩
theorem Gr.of {H H' : Hp} (g : ∀ a o, H a = some o → H' a = some o) : Gr H H' := fun a o e => ⟨o, g a o e, fun _ => rfl⟩
theorem Gr.trans {H H1 H2 : Hp} (p : Gr H H1) (q : Gr H1 H2) : Gr H H2 := fun a o e => by
  obtain ⟨o1, e1, k1⟩ := p a o e
  obtain ⟨o2, e2, k2⟩ := q a o1 e1
  exact ⟨o2, e2, fun nt => by have z := k1 nt; subst z; exact k2 nt⟩
structure Gx where
  P : Program
  w : World
  K : Fr0
  mg : Str → Option Value
  base : Heap
abbrev gx (X : Cx) : Gx := ⟨X.prog, X.w, X.K, X.mg, X.base⟩
/-- how a def's code objects are named, by where they stand -/
abbrev NTb := NdefX.NTab

inductive DR where
  | val (d : D) | exc (c : Str) (fs : List (Str × D))
/-- data; an entry of the store; a closure of the frame, by what it takes from its slots and its meaning by data; a range; the law's own list of ints -/
inductive Im where
  | d (x : D) | r (n : Nat) | nf (js : List Nat) (C : List D → List D → Option DR) | rg (i j : Int) | un | sc (ns : List Int)
inductive Ob where
  | ls (xs : List Im)
  | dc (kvs : List (D × Im))
  | fz (d : D)
  | fn (C : List D → Option DR)
abbrev En := List (Option Im)
structure Ms where
  e : En
  s : List Ob
def Ob.own : Ob → Bool
  | .ls _ => true
  | .dc _ => true
  | _ => false
/-- the addresses of one's own objects -/
def Lo (μ : List Addr) (S : List Ob) : AS := fun a => ∃ (n : Nat) (o : Ob), μ[n]? = some a ∧ S[n]? = some o ∧ o.own = true

/-! ### dicts, as the heap has them -/
def leafK : D → Option Leaf
  | .int i => some (.num i)
  | .bool b => some (.num (if b then 1 else 0))
  | .str x => some (.text x)
  | .none => some .none
  | _ => none
mutual
def nestK : D → Option NestedKey
  | .int i => some (.num i)
  | .bool b => some (.num (if b then 1 else 0))
  | .str x => some (.text x)
  | .none => some .none
  | .tuple ds => (nestKs ds).map .tup
  | _ => none
def nestKs : List D → Option (List NestedKey)
  | [] => some []
  | d :: ds => (nestK d).bind fun k => (nestKs ds).map (k :: ·)
end
def LfO (P : Program) (w : World) (a : Addr) (ls : List (Leaf × V)) : HO := .ext fun h => (a == sysModules) = false ∧ ∃ us : List (Leaf × Value), All2 (fun p q => p.1 = q.1 ∧ RelV p.2 q.2) ls us ∧ h.DictOf (leafKind P w) a us
def NtO (P : Program) (w : World) (a : Addr) (xs : List (NestedKey × Addr × V)) : HO := .ext fun h => (a == sysModules) = false ∧ ∃ ys : List (NestedKey × Addr × Value), All2 (fun p q => p.1 = q.1 ∧ p.2.1 = q.2.1 ∧ RelV p.2.2 q.2.2) xs ys ∧
  (∃ o es ep, h.get? a = some o ∧ o.ExactDict ∧ o.data = .dict es ep ∧ es.toList = ys.map (entryOfKey (nestedKind P w))) ∧ (ys.map (·.1)).Nodup

/-! ### the tables of code objects -/
/-- how a nested def is called, by where it stands -/
def inName (n : Str) (l c : Nat) : Stmt → Option Str
  | .FunctionDef m _ _ _ _ _ _ _ _ p => if p.line = l ∧ p.col = c then some (n ++ (".<locals>." : Str) ++ m) else none
  | _ => none
def defNest (l c : Nat) : Stmt → Option Str
  | .FunctionDef n _ b _ _ _ _ _ _ _ => b.findSome? (inName n l c)
  | _ => none
def nmOf (P : Program) : Nat → Nat → Str := fun l c => (P.main.body.findSome? (defNest l c)).getD ""
def isDef : Stmt → Bool
  | .FunctionDef _ _ _ _ _ _ _ _ _ _ => true
  | _ => false
def tabD : Stmt → Option Str
  | .FunctionDef n _ b _ _ _ _ _ _ _ => if b.any isDef then some n else none
  | _ => none
/-- the defs of the text with defs of their own -/
def tabN (P : Program) : List Str := P.main.body.filterMap tabD
/-- the code object of a def of the text -/
def CodeIs (K : Fr0) (f : Addr) (cdv : Value) : Prop := ∃ oc od osl name qual params body scope dV kV doc pm an ct, List.lookup f K = some { cls := oc, dict := od, data := .func (PySem.W.fnOf name qual params body scope dV kV doc pm an cdv ct), slots := osl }
theorem CodeIs.one {K : Fr0} {f : Addr} {u v : Value} (h : CodeIs K f u) (h' : CodeIs K f v) : u = v := by
  obtain ⟨_, _, _, _, _, _, _, _, _, _, _, _, _, _, e⟩ := h
  obtain ⟨_, _, _, _, _, _, _, _, _, _, _, _, _, _, e'⟩ := h'
  rw [e] at e'
  have z := congrArg (fun o : Option Obj => o.map (·.data)) e'
  simp only [Option.map_some, Option.some.injEq, Data.func.injEq] at z
  unfold PySem.W.fnOf at z
  injection z
/-- the table of the def's code objects -/
def TbAt (G : Gx) (x : Str) (a : Addr) : Prop := ∃ f c, G.mg x = some (.ref f) ∧ CodeIs G.K f (.ref c) ∧ LamX.TabB G.base G.mg c a
/-- the tables, as they are kept -/
def TBS (G : Gx) (H : Hp) : Prop := ∀ x ∈ tabN G.P, ∀ a, TbAt G x a → NdefX.TabN H a (nmOf G.P)
abbrev CodeO := LamX.CodeO
theorem tab_mv {H H' : Hp} {a : Addr} {nm : Nat → Nat → Str} (t : NdefX.TabN H a nm) (ha : ∀ u, H a = some u → H' a = some u) (hc : ∀ c q, H c = some (CodeO c q) → H' c = some (CodeO c q)) : NdefX.TabN H' a nm := by
  obtain ⟨ps, e, tr, f⟩ := t
  exact ⟨ps, ha _ e, tr, fun pos cv h => let ⟨c, e1, e2⟩ := f pos cv h; ⟨c, e1, hc _ _ e2⟩⟩
theorem TBS.grow {G : Gx} {H H' : Hp} (t : TBS G H) (g : ∀ a o, H a = some o → H' a = some o) : TBS G H' := fun x hx a h => tab_mv (t x hx a h) (g a) fun c q e => g c _ e
/-- what may be set apart: told, no table, no code object -/
def Apt (u : HO) (a : Addr) : Prop := NT u ∧ ∀ q, u ≠ CodeO a q
def Ap (H : Hp) (a : Addr) : Prop := ∃ o, H a = some o ∧ Apt o a
theorem Ap.ex {H : Hp} {a : Addr} (h : Ap H a) : ∃ o, H a = some o := let ⟨o, e, _⟩ := h; ⟨o, e⟩
theorem Ap.gr {H H' : Hp} {a : Addr} (h : Ap H a) (g : Gr H H') : Ap H' a := let ⟨o, e, n⟩ := h; ⟨o, g.at_ e n.1, n⟩
theorem apt_lst {vs : List V} {a : Addr} : Apt (.lst vs) a := ⟨nt_lst, fun q z => by cases z⟩
/-! ### functions as values: pure ones, by data -/
abbrev kF : Nat := 30
def SpC (G : Gx) (F : AS) (C : List D → Option DR) : Sp := fun vs H Q E => ∃ (ds : List D) (r : DR), DnA G.K F H vs ds ∧ C ds = some r ∧ match r with
  | .val d => ∀ v H2, Gr H H2 → TBS G H2 → Dn G.K F H2 v d → Q v H2
  | .exc c fs => ∀ cls dd H2, Gr H H2 → TBS G H2 → ExIs G.K G.mg F H2 c fs cls dd → E cls dd H2
def FV (G : Gx) (F : AS) (H : Hp) (a : Addr) (C : List D → Option DR) : Prop := ∀ (F' : AS) (H' : Hp), Mv F H F' H' → TBS G H' → (∀ b, F' b → Ap H' b) → ∀ (A : Around) (outer : List Env) (s : Shared) (us : List Value) (vs : List V) (Q : VK) (E : XK),
  Room kF A → Env0 G.P G.w G.K G.mg G.base A outer s H' → Vals vs us → SpC G F' C vs H' Q E → codeAny (model G.P G.w) A (.call (.ref a) ⟨us, []⟩) (CR (L2.CX G.P G.w) outer G.P G.w H' s Q E) s
theorem FV.mv {G : Gx} {F F1 : AS} {H H1 : Hp} {a : Addr} {C : List D → Option DR} (h : FV G F H a C) (m : Mv F H F1 H1) : FV G F1 H1 a C := fun F' H' m' => h F' H' (m.trans m')

/-! ### code objects stand apart -/
theorem heap_at (o : Obj) (ho : ∀ h : Heap, (h.push o).get? h.objs.size = some o) : ∀ a : Nat, ∃ h : Heap, h.get? a = some o := fun a => by
  have : ∀ n : Nat, ∃ h : Heap, h.objs.size = n := by
    intro n
    induction n with
    | zero => exact ⟨{}, rfl⟩
    | succ n ih =>
      obtain ⟨h, e⟩ := ih
      exact ⟨h.push o, by rw [Heap.size_push, e]⟩
  obtain ⟨h, e⟩ := this a
  exact ⟨h.push o, by rw [← e]; exact ho h⟩
theorem code_sat (a : Addr) (q : Str) : ∃ (h : Heap) (o : Obj) (vs : Array Value) (t : Tok), h.get? a = some o ∧ o.data = .fields vs ∧ vs[1]? = some (.str q t) := by
  obtain ⟨h, e⟩ := heap_at { cls := .none, data := .fields #[.none, .str q 0] } (fun h => by heap_get) a
  exact ⟨h, _, _, _, e, rfl, rfl⟩
/-- not a code object -/
def NoCode (H : Hp) (a : Addr) : Prop := ∀ q, H a ≠ some (CodeO a q)
theorem ext_inj {p q : Heap → Prop} (h : HO.ext p = HO.ext q) : p = q := by injection h
theorem lf_nc {P : Program} {w : World} {H : Hp} {a : Addr} {ls : List (Leaf × V)} (e : H a = some (LfO P w a ls)) : NoCode H a := fun q z => by
  rw [e] at z
  have ep := ext_inj (Option.some.inj z)
  obtain ⟨h, o, vs, t, h1, h2, h3⟩ := code_sat a q
  have cq : (fun h => ∃ oc vs t, h.get? a = some oc ∧ oc.data = Data.fields vs ∧ vs[1]? = some (Value.str q t)) h := ⟨o, vs, t, h1, h2, h3⟩
  rw [← ep] at cq
  obtain ⟨_, us, _, o', es, ep', g, _, d, _⟩ := cq
  rw [h1] at g
  cases g
  rw [h2] at d
  cases d
theorem nt_nc {P : Program} {w : World} {H : Hp} {a : Addr} {xs : List (NestedKey × Addr × V)} (e : H a = some (NtO P w a xs)) : NoCode H a := fun q z => by
  rw [e] at z
  have ep := ext_inj (Option.some.inj z)
  obtain ⟨h, o, vs, t, h1, h2, h3⟩ := code_sat a q
  have cq : (fun h => ∃ oc vs t, h.get? a = some oc ∧ oc.data = Data.fields vs ∧ vs[1]? = some (Value.str q t)) h := ⟨o, vs, t, h1, h2, h3⟩
  rw [← ep] at cq
  obtain ⟨_, ys, _, ⟨o', es, ep', g, _, d, _⟩, _⟩ := cq
  rw [h1] at g
  cases g
  rw [h2] at d
  cases d
theorem lst_nc {H : Hp} {a : Addr} {vs : List V} (e : H a = some (.lst vs)) : NoCode H a := fun q z => by rw [e] at z; cases z
theorem tbl_nc {H : Hp} {a : Addr} {vs : Array Value} (e : H a = some (.tbl vs)) : NoCode H a := fun q z => by rw [e] at z; cases z
theorem NoCode.upd {H : Hp} {a : Addr} {u : HO} (n : NoCode H a) : ∀ c q, H c = some (CodeO c q) → upd H a u c = some (CodeO c q) := fun c q e => by
  rw [upd_ne fun z => ?_]
  · exact e
  · subst z; exact n q e
theorem TBS.upd {G : Gx} {H : Hp} {a : Addr} {o u : HO} (t : TBS G H) (e : H a = some o) (nt : NT o) (n : NoCode H a) : TBS G (upd H a u) := fun x hx b h => tab_mv (t x hx b h) (fun w z => by
  rw [upd_ne fun q => ?_]
  · exact z
  · subst q
    obtain ⟨ps, e2, _⟩ := t x hx b h
    rw [e] at e2
    exact nt ps (Option.some.inj e2)) n.upd
/-! ### what stands where -/
theorem nt_frz {o : Obj} {u : HO} : NT (.frz o u) := fun _ z => by cases z
/-- a list that stays, tracked or not -/
def Ls (K : Fr0) (F : AS) (H : Hp) (a : Addr) (xs : List V) : Prop := (¬ F a ∧ Rd H a (.lst xs)) ∨ SqL K (fun _ => Option.none) a xs
theorem Ls.mv {K : Fr0} {F F' : AS} {H H' : Hp} {a : Addr} {xs : List V} (h : Ls K F H a xs) (m : Mv F H F' H') : Ls K F' H' a xs := h.imp (fun ⟨n, e⟩ => e.elim (fun e => ⟨(m a _ n e nt_lst).1, .inl (m a _ n e nt_lst).2⟩) fun ⟨o, e⟩ => ⟨(m a _ n e nt_frz).1, .inr ⟨o, (m a _ n e nt_frz).2⟩⟩) id
theorem Ls.sq {K : Fr0} {F : AS} {H : Hp} {a : Addr} {xs : List V} (h : Ls K F H a xs) : SqL K H a xs := by
  rcases h with ⟨_, e⟩ | e
  · exact .inl e
  · rcases e with (e | ⟨o, e⟩) | e
    · cases e
    · cases e
    · exact .inr e
def ImR (G : Gx) (μ : List Addr) (F : AS) (H : Hp) (v : V) : Im → Prop
  | .d x => Dn G.K F H v x
  | .r n => ∃ a, v = .ref a ∧ μ[n]? = some a
  | .nf _ _ => False
  | .rg i j => ∃ a, v = .ref a ∧ ¬ F a ∧ H a = some (.rng i j)
  | .sc ns => ∃ a, v = .ref a ∧ Ls G.K F H a (ns.map V.int)
  | .un => True
def ImA (G : Gx) (μ : List Addr) (F : AS) (H : Hp) (vs : List V) (xs : List Im) : Prop := All2 (fun v x => ImR G μ F H v x) vs xs
def DcR (G : Gx) (μ : List Addr) (F : AS) (H : Hp) (a : Addr) (kvs : List (D × Im)) : Prop :=
  (∃ ls : List (Leaf × V), H a = some (LfO G.P G.w a ls) ∧ All2 (fun kv l => leafK kv.1 = some l.1 ∧ ImR G μ F H l.2 kv.2) kvs ls) ∨
  (∃ xs : List (NestedKey × Addr × V), H a = some (NtO G.P G.w a xs) ∧ xs ≠ [] ∧ All2 (fun kv x => nestK kv.1 = some x.1 ∧ x.1.depth ≤ 8 ∧ Dn G.K F H (.ref x.2.1) kv.1 ∧ ImR G μ F H x.2.2 kv.2) kvs xs)
def ObR (G : Gx) (μ : List Addr) (F : AS) (H : Hp) (a : Addr) : Ob → Prop
  | .ls xs => ∃ vs, H a = some (.lst vs) ∧ ImA G μ F H vs xs
  | .dc kvs => DcR G μ F H a kvs
  | .fz d => Dn G.K F H (.ref a) d
  | .fn C => (¬ F a ∧ ∃ Fn, H a = some (NdefX.FnO a Fn)) ∧ FV G F H a C
/-- the store, as the heap has it -/
structure SR (G : Gx) (Fb : AS) (μ : List Addr) (H : Hp) (S : List Ob) : Prop where
  ml : μ.length = S.length
  nf : ∀ (n : Nat) (a : Addr), μ[n]? = some a → ¬ Fb a
  fb : ∀ a, Fb a → Ap H a
  ob : ∀ (n : Nat) (a : Addr) (o : Ob), μ[n]? = some a → S[n]? = some o → ObR G μ (U (Lo μ S) Fb) H a o
  inj : ∀ (n k : Nat) (a : Addr) (o : Ob), n ≠ k → μ[n]? = some a → S[n]? = some o → o.own = true → μ[k]? ≠ some a
  tk : ∀ (n : Nat) (a : Addr), μ[n]? = some a → ∃ o, H a = some o
  tb : TBS G H
/-- what is asked of a closure in a slot -/
structure NfR where
  r : List Nat → (List D → List D → Option DR) → V → AS → Hp → Prop
  mv : ∀ {js C v F H F' H'}, Mv F H F' H' → r js C v F H → r js C v F' H'
def ImN (G : Gx) (N : NfR) (μ : List Addr) (F : AS) (H : Hp) (v : V) : Im → Prop
  | .d x => Dn G.K F H v x
  | .r n => ∃ a, v = .ref a ∧ μ[n]? = some a
  | .nf js C => N.r js C v F H
  | .rg i j => ∃ a, v = .ref a ∧ ¬ F a ∧ H a = some (.rng i j)
  | .sc ns => ∃ a, v = .ref a ∧ Ls G.K F H a (ns.map V.int)
  | .un => True
structure MR (G : Gx) (N : NfR) (Fb : AS) (μ : List Addr) (H : Hp) (σ : L2.St) (m : Ms) : Prop where
  sr : SR G Fb μ H m.s
  len : m.e.length = σ.length
  sl : ∀ (i : Nat) (x : Im), m.e[i]? = some (some x) → ∃ v, σ[i]? = some (some v) ∧ ImN G N μ (U (Lo μ m.s) Fb) H v x
/-- later: what is not one's own stands -/
structure Nx (μ : List Addr) (S : List Ob) (H : Hp) (μ' : List Addr) (S' : List Ob) (H' : Hp) : Prop where
  pre : ∀ (n : Nat) (a : Addr), μ[n]? = some a → μ'[n]? = some a
  tr : Tr H (Lo μ S) H' (Lo μ' S')
theorem Nx.refl (μ : List Addr) (S : List Ob) (H : Hp) : Nx μ S H μ S H := ⟨fun _ _ h => h, Tr.refl _ _⟩
theorem Nx.trans {μ μ1 μ2 : List Addr} {S S1 S2 : List Ob} {H H1 H2 : Hp} (p : Nx μ S H μ1 S1 H1) (q : Nx μ1 S1 H1 μ2 S2 H2) : Nx μ S H μ2 S2 H2 := ⟨fun n a h => q.pre n a (p.pre n a h), p.tr.trans q.tr⟩
theorem Nx.mv {μ μ' : List Addr} {S S' : List Ob} {H H' : Hp} {Fb : AS} (p : Nx μ S H μ' S' H') : Mv (U (Lo μ S) Fb) H (U (Lo μ' S') Fb) H' := p.tr.mv
theorem Nx.growN {μ : List Addr} {S : List Ob} {H H' : Hp} (g : Gr H H') : Nx μ S H μ S H' := ⟨fun _ _ h => h, fun a o e n => ⟨g a o e, n⟩⟩
theorem Nx.grow {μ : List Addr} {S : List Ob} {H H' : Hp} (g : ∀ a o, H a = some o → H' a = some o) : Nx μ S H μ S H' := Nx.growN (Gr.of g)
section
variable {G : Gx} {μ μ' : List Addr} {F F' Fb : AS} {H H' : Hp}
theorem ImR.mv (pre : ∀ (n : Nat) (a : Addr), μ[n]? = some a → μ'[n]? = some a) (m : Mv F H F' H') {v : V} : ∀ {x : Im}, ImR G μ F H v x → ImR G μ' F' H' v x
  | .d x, h => Dn.mv m h
  | .r n, ⟨a, e, h⟩ => ⟨a, e, pre n a h⟩
  | .nf _ _, h => h.elim
  | .rg i j, ⟨a, e, n, h⟩ => ⟨a, e, (m a _ n h nt_rng).1, (m a _ n h nt_rng).2⟩
  | .sc _, ⟨a, e, h⟩ => ⟨a, e, h.mv m⟩
  | .un, _ => True.intro
theorem ImN.mv {N : NfR} (pre : ∀ (n : Nat) (a : Addr), μ[n]? = some a → μ'[n]? = some a) (m : Mv F H F' H') {v : V} : ∀ {x : Im}, ImN G N μ F H v x → ImN G N μ' F' H' v x
  | .d x, h => Dn.mv m h
  | .r n, ⟨a, e, h⟩ => ⟨a, e, pre n a h⟩
  | .nf _ _, h => N.mv m h
  | .rg i j, ⟨a, e, n, h⟩ => ⟨a, e, (m a _ n h nt_rng).1, (m a _ n h nt_rng).2⟩
  | .sc _, ⟨a, e, h⟩ => ⟨a, e, h.mv m⟩
  | .un, _ => True.intro
theorem ImR.n {N : NfR} {v : V} : ∀ {x : Im}, ImR G μ F H v x → ImN G N μ F H v x
  | .d x, h => h
  | .r n, h => h
  | .nf _ _, h => h.elim
  | .rg i j, h => h
  | .sc _, h => h
  | .un, h => h
theorem ImN.im {N : NfR} {v : V} : ∀ {x : Im}, ImN G N μ F H v x → (∀ js C, x = .nf js C → False) → ImR G μ F H v x
  | .d x, h, _ => h
  | .r n, h, _ => h
  | .nf js C, _, h => (h js C rfl).elim
  | .rg i j, h, _ => h
  | .sc _, h, _ => h
  | .un, h, _ => h
theorem All2.imp' {α β : Type} {P Q : α → β → Prop} (f : ∀ a b, P a b → Q a b) {as : List α} {bs : List β} (h : All2 P as bs) : All2 Q as bs := h.imp f
theorem ImA.mv (pre : ∀ (n : Nat) (a : Addr), μ[n]? = some a → μ'[n]? = some a) (m : Mv F H F' H') {vs : List V} {xs : List Im} (h : ImA G μ F H vs xs) : ImA G μ' F' H' vs xs := PD.All2.imp (fun _ _ z => ImR.mv pre m z) h
theorem DcR.mv (pre : ∀ (n : Nat) (a : Addr), μ[n]? = some a → μ'[n]? = some a) (m : Mv F H F' H') {a : Addr} {kvs : List (D × Im)} (h : DcR G μ F H a kvs) (ha : ∀ o, H a = some o → H' a = some o) : DcR G μ' F' H' a kvs :=
  h.elim (fun ⟨ls, e, q⟩ => .inl ⟨ls, ha _ e, PD.All2.imp (fun _ _ z => ⟨z.1, ImR.mv pre m z.2⟩) q⟩) fun ⟨xs, e, ne, q⟩ => .inr ⟨xs, ha _ e, ne, PD.All2.imp (fun _ _ z => ⟨z.1, z.2.1, Dn.mv m z.2.2.1, ImR.mv pre m z.2.2.2⟩) q⟩
theorem ObR.mv (pre : ∀ (n : Nat) (a : Addr), μ[n]? = some a → μ'[n]? = some a) (m : Mv F H F' H') {a : Addr} : ∀ {o : Ob}, ObR G μ F H a o → (o.own = true → ∀ u, H a = some u → H' a = some u) → ObR G μ' F' H' a o
  | .ls xs, ⟨vs, e, h⟩, ha => ⟨vs, ha rfl _ e, ImA.mv pre m h⟩
  | .dc kvs, h, ha => DcR.mv pre m h (ha rfl)
  | .fz d, h, _ => Dn.mv m h
  | .fn C, ⟨⟨n, Fn, e⟩, h⟩, _ => ⟨⟨(m a _ n e nt_ext).1, Fn, (m a _ n e nt_ext).2⟩, FV.mv h m⟩
theorem ObR.nc {a : Addr} : ∀ {o : Ob}, o.own = true → ObR G μ F H a o → NoCode H a
  | .ls xs, _, ⟨vs, e, _⟩ => lst_nc e
  | .dc kvs, _, h => h.elim (fun ⟨ls, e, _⟩ => lf_nc e) fun ⟨xs, e, _⟩ => nt_nc e
  | .fz d, h, _ => by cases h
  | .fn C, h, _ => by cases h
theorem SR.dis {S : List Ob} (R : SR G Fb μ H S) (a : Addr) (h : Lo μ S a) : ¬ Fb a := let ⟨n, _, h1, _⟩ := h; R.nf n a h1
theorem lo_at {S : List Ob} {n : Nat} {a : Addr} {o : Ob} (h1 : μ[n]? = some a) (h2 : S[n]? = some o) (h3 : o.own = true) : Lo μ S a := ⟨n, o, h1, h2, h3⟩
theorem SR.trk {S : List Ob} (R : SR G Fb μ H S) {a : Addr} (h : U (Lo μ S) Fb a) : ∃ o, H a = some o := h.elim (fun ⟨n, o, h1, h2, h3⟩ => R.tk n a h1) (fun h => (R.fb a h).ex)
theorem SR.free {S : List Ob} (R : SR G Fb μ H S) {p : Addr} (hp : H p = none) : ¬ U (Lo μ S) Fb p := fun z => by
  obtain ⟨o, e⟩ := R.trk z
  rw [hp] at e; cases e
theorem SR.lt {S : List Ob} (R : SR G Fb μ H S) {n : Nat} {o : Ob} (h : S[n]? = some o) : ∃ a, μ[n]? = some a := by
  have hn := (List.getElem?_eq_some_iff.mp h).1
  rw [← R.ml] at hn
  exact ⟨μ[n], by simp [hn]⟩
theorem SR.grow {S : List Ob} (R : SR G Fb μ H S) (g : ∀ a o, H a = some o → H' a = some o) : SR G Fb μ H' S where
  ml := R.ml
  nf := R.nf
  fb := fun a h => (R.fb a h).gr (Gr.of g)
  ob := fun n a o h1 h2 => (R.ob n a o h1 h2).mv (fun _ _ h => h) (mv_grow g) (fun _ => g a)
  inj := R.inj
  tk := fun n a h => let ⟨o, e⟩ := R.tk n a h; ⟨o, g a o e⟩
  tb := R.tb.grow g
theorem ObR.nt {a : Addr} {u : HO} : ∀ {o : Ob}, o.own = true → ObR G μ F H a o → H a = some u → NT u
  | .ls xs, _, ⟨vs, e, _⟩, z => by rw [e] at z; cases z; exact nt_lst
  | .dc kvs, _, h, z => h.elim (fun ⟨ls, e, _⟩ => by rw [e] at z; cases z; exact nt_ext) fun ⟨xs, e, _⟩ => by rw [e] at z; cases z; exact nt_ext
  | .fz d, h, _, _ => by cases h
  | .fn C, h, _, _ => by cases h
theorem SR.trkA {S : List Ob} (R : SR G Fb μ H S) {a : Addr} (h : U (Lo μ S) Fb a) : Ap H a := h.elim (fun ⟨n, o, h1, h2, h3⟩ => let ⟨w, e⟩ := R.tk n a h1; ⟨w, e, (R.ob n a o h1 h2).nt h3 e, fun q z => (R.ob n a o h1 h2).nc h3 q (by rw [e, z])⟩) (R.fb a)
theorem SR.growN {S : List Ob} (R : SR G Fb μ H S) (g : Gr H H') (t : TBS G H') : SR G Fb μ H' S where
  ml := R.ml
  nf := R.nf
  fb := fun a h => (R.fb a h).gr g
  ob := fun n a o h1 h2 => (R.ob n a o h1 h2).mv (fun _ _ h => h) g.mv (fun w u e => g.at_ e ((R.ob n a o h1 h2).nt w e))
  inj := R.inj
  tk := fun n a h => let ⟨o, e⟩ := R.tk n a h; let ⟨o', e', _⟩ := g a o e; ⟨o', e'⟩
  tb := t
theorem MR.growN {σ : L2.St} {m : Ms} {N : NfR} (R : MR G N Fb μ H σ m) (g : Gr H H') (t : TBS G H') : MR G N Fb μ H' σ m where
  sr := R.sr.growN g t
  len := R.len
  sl := fun i x e => let ⟨v, e1, h⟩ := R.sl i x e; ⟨v, e1, h.mv (fun _ _ h => h) g.mv⟩
theorem MR.grow {σ : L2.St} {m : Ms} {N : NfR} (R : MR G N Fb μ H σ m) (g : ∀ a o, H a = some o → H' a = some o) : MR G N Fb μ H' σ m where
  sr := R.sr.grow g
  len := R.len
  sl := fun i x e => let ⟨v, e1, h⟩ := R.sl i x e; ⟨v, e1, h.mv (fun _ _ h => h) (mv_grow g)⟩
/-- the slots may be carried on with any later store -/
theorem MR.later {σ : L2.St} {m : Ms} {S' : List Ob} {N : NfR} (R : MR G N Fb μ H σ m) (n : Nx μ m.s H μ' S' H') (R' : SR G Fb μ' H' S') : MR G N Fb μ' H' σ ⟨m.e, S'⟩ where
  sr := R'
  len := R.len
  sl := fun i x e => let ⟨v, e1, h⟩ := R.sl i x e; ⟨v, e1, h.mv n.pre n.mv⟩
/-- an object of one's own is another one now -/
theorem SR.chg {S : List Ob} (R : SR G Fb μ H S) {n : Nat} {a : Addr} {o o' : Ob} {u : HO} (h1 : μ[n]? = some a) (h2 : S[n]? = some o) (h3 : o.own = true) (h4 : o'.own = true)
    (h5 : Mv (U (Lo μ S) Fb) H (U (Lo μ (S.set n o')) Fb) (upd H a u) → ObR G μ (U (Lo μ (S.set n o')) Fb) (upd H a u) a o') :
    SR G Fb μ (upd H a u) (S.set n o') ∧ Nx μ S H μ (S.set n o') (upd H a u) := by
  have la : Lo μ S a := lo_at h1 h2 h3
  have hn : n < S.length := (List.getElem?_eq_some_iff.mp h2).1
  have sub : ∀ b, Lo μ (S.set n o') b → Lo μ S b := fun b ⟨k, q, e1, e2, e3⟩ => by
    by_cases hk : n = k
    · subst hk
      rw [h1] at e1; cases e1
      exact la
    · rw [List.getElem?_set_ne hk] at e2
      exact ⟨k, q, e1, e2, e3⟩
  have tr : Tr H (Lo μ S) (upd H a u) (Lo μ (S.set n o')) := fun b q e nl => ⟨⟨q, by rw [upd_ne fun z => nl (by rw [z]; exact la)]; exact e, fun _ => rfl⟩, fun z => nl (sub b z)⟩
  have mv : Mv (U (Lo μ S) Fb) H (U (Lo μ (S.set n o')) Fb) (upd H a u) := tr.mv
  refine ⟨⟨by simpa using R.ml, R.nf, fun b h => ?_, fun k b q e1 e2 => ?_, fun k j b q ne e1 e2 e3 => ?_, fun k b e1 => ?_, (let ⟨w, e⟩ := R.tk n a h1; R.tb.upd e ((R.ob n a o h1 h2).nt h3 e) ((R.ob n a o h1 h2).nc h3))⟩, ⟨fun _ _ h => h, tr⟩⟩
  · by_cases hb : b = a
    · subst hb; exact (R.dis b la h).elim
    · obtain ⟨w, e, n1⟩ := R.fb b h
      exact ⟨w, by rw [upd_ne hb]; exact e, n1⟩
  · by_cases hk : n = k
    · subst hk
      rw [List.getElem?_set_self hn] at e2
      cases e2
      rw [h1] at e1; cases e1
      exact h5 mv
    · rw [List.getElem?_set_ne hk] at e2
      refine (R.ob k b q e1 e2).mv (fun _ _ h => h) mv (fun ow w e => ?_)
      rw [upd_ne fun z => ?_]
      · exact e
      · subst z
        exact R.inj n k b o hk h1 h2 h3 e1
  · by_cases hk : n = k
    · subst hk
      exact R.inj n j b o ne e1 h2 h3
    · rw [List.getElem?_set_ne hk] at e2
      exact R.inj k j b q ne e1 e2 e3
  · by_cases hb : b = a
    · subst hb; exact ⟨u, upd_same⟩
    · obtain ⟨w, e⟩ := R.tk k b e1
      exact ⟨w, by rw [upd_ne hb]; exact e⟩
/-- an object of one's own is given up -/
theorem SR.give {S : List Ob} (R : SR G Fb μ H S) {n : Nat} {a : Addr} {o o' : Ob} (h1 : μ[n]? = some a) (h2 : S[n]? = some o) (h3 : o.own = true) (h4 : o'.own = false)
    (h5 : Mv (U (Lo μ S) Fb) H (U (Lo μ (S.set n o')) Fb) H → ¬ U (Lo μ (S.set n o')) Fb a → ObR G μ (U (Lo μ (S.set n o')) Fb) H a o') :
    SR G Fb μ H (S.set n o') ∧ Nx μ S H μ (S.set n o') H := by
  have la : Lo μ S a := lo_at h1 h2 h3
  have hn : n < S.length := (List.getElem?_eq_some_iff.mp h2).1
  have sub : ∀ b, Lo μ (S.set n o') b → Lo μ S b := fun b ⟨k, q, e1, e2, e3⟩ => by
    by_cases hk : n = k
    · subst hk
      rw [h1] at e1; cases e1
      exact la
    · rw [List.getElem?_set_ne hk] at e2
      exact ⟨k, q, e1, e2, e3⟩
  have na : ¬ U (Lo μ (S.set n o')) Fb a := fun z => z.elim (fun ⟨k, q, e1, e2, e3⟩ => by
    by_cases hk : n = k
    · subst hk
      rw [List.getElem?_set_self hn] at e2
      cases e2
      rw [h4] at e3; cases e3
    · exact R.inj n k a o hk h1 h2 h3 e1) (R.dis a la)
  have tr : Tr H (Lo μ S) H (Lo μ (S.set n o')) := fun b q e nl => ⟨⟨q, e, fun _ => rfl⟩, fun z => nl (sub b z)⟩
  have mv : Mv (U (Lo μ S) Fb) H (U (Lo μ (S.set n o')) Fb) H := tr.mv
  refine ⟨⟨by simpa using R.ml, R.nf, R.fb, fun k b q e1 e2 => ?_, fun k j b q ne e1 e2 e3 => ?_, R.tk, R.tb⟩, ⟨fun _ _ h => h, tr⟩⟩
  · by_cases hk : n = k
    · subst hk
      rw [List.getElem?_set_self hn] at e2
      cases e2
      rw [h1] at e1; cases e1
      exact h5 mv na
    · rw [List.getElem?_set_ne hk] at e2
      exact (R.ob k b q e1 e2).mv (fun _ _ h => h) mv (fun _ _ e => e)
  · by_cases hk : n = k
    · subst hk
      rw [List.getElem?_set_self hn] at e2
      cases e2
      rw [h4] at e3; cases e3
    · rw [List.getElem?_set_ne hk] at e2
      exact R.inj k j b q ne e1 e2 e3
theorem get_snoc {α : Type} {xs : List α} {x y : α} {n : Nat} (h : (xs ++ [x])[n]? = some y) : xs[n]? = some y ∨ (n = xs.length ∧ y = x) := by
  by_cases hn : n < xs.length
  · rw [List.getElem?_append_left hn] at h
    exact .inl h
  · rw [List.getElem?_append_right (by omega)] at h
    by_cases h0 : n - xs.length = 0
    · rw [h0] at h
      exact .inr ⟨by omega, by simpa using h.symm⟩
    · obtain ⟨z, _⟩ := List.getElem?_eq_some_iff.mp h
      simp at z
      omega
theorem snoc_old {α : Type} {xs : List α} {x y : α} {n : Nat} (h : xs[n]? = some y) : (xs ++ [x])[n]? = some y := by
  rw [List.getElem?_append_left (List.getElem?_eq_some_iff.mp h).1]
  exact h
/-- a new object -/
theorem SR.new {S : List Ob} (R : SR G Fb μ H S) {p : Addr} {o : Ob} {u : HO} (hp : H p = none)
    (h5 : Mv (U (Lo μ S) Fb) H (U (Lo (μ ++ [p]) (S ++ [o])) Fb) (upd H p u) → ObR G (μ ++ [p]) (U (Lo (μ ++ [p]) (S ++ [o])) Fb) (upd H p u) p o) (h4 : o.own = true) :
    SR G Fb (μ ++ [p]) (upd H p u) (S ++ [o]) ∧ Nx μ S H (μ ++ [p]) (S ++ [o]) (upd H p u) := by
  have sub : ∀ b, Lo (μ ++ [p]) (S ++ [o]) b → Lo μ S b ∨ b = p := fun b ⟨k, q, e1, e2, e3⟩ => by
    rcases get_snoc e1 with e1 | ⟨hk, e1⟩
    · rcases get_snoc e2 with e2 | ⟨hk, e2⟩
      · exact .inl ⟨k, q, e1, e2, e3⟩
      · have := (List.getElem?_eq_some_iff.mp e1).1
        rw [R.ml] at this
        omega
    · exact .inr e1
  have tr : Tr H (Lo μ S) (upd H p u) (Lo (μ ++ [p]) (S ++ [o])) := fun b q e nl => by
    have ne := ne_of_none e hp
    exact ⟨⟨q, by rw [upd_ne ne]; exact e, fun _ => rfl⟩, fun z => (sub b z).elim nl ne⟩
  have mv : Mv (U (Lo μ S) Fb) H (U (Lo (μ ++ [p]) (S ++ [o])) Fb) (upd H p u) := tr.mv
  have fr := R.free hp
  refine ⟨⟨by simp [R.ml], fun k b h => (get_snoc h).elim (R.nf k b) fun z => by rw [z.2]; exact fun z => fr (.inr z), fun b h => ?_, fun k b q e1 e2 => ?_, fun k j b q ne e1 e2 e3 e4 => ?_, fun k b e1 => ?_, R.tb.grow (upd_grow hp)⟩, ⟨fun _ _ h => snoc_old h, tr⟩⟩
  · obtain ⟨w, e, n1⟩ := R.fb b h
    exact ⟨w, upd_grow hp b w e, n1⟩
  · rcases get_snoc e2 with e2 | ⟨hk, e2⟩
    · rcases get_snoc e1 with e1 | ⟨hk, e1⟩
      · exact (R.ob k b q e1 e2).mv (fun _ _ h => snoc_old h) mv (fun _ w e => upd_grow hp b w e)
      · have := (List.getElem?_eq_some_iff.mp e2).1
        rw [← R.ml] at this
        omega
    · subst e2
      rcases get_snoc e1 with e1 | ⟨hk2, e1⟩
      · have := (List.getElem?_eq_some_iff.mp e1).1
        rw [R.ml] at this
        omega
      · subst e1
        exact h5 mv
  · have nk : ∀ (k : Nat), μ[k]? ≠ some p := fun k e => by
      obtain ⟨w, z⟩ := R.tk k p e
      rw [hp] at z; cases z
    rcases get_snoc e1 with e1 | ⟨hk, e1⟩
    · rcases get_snoc e2 with e2 | ⟨hk, e2⟩
      · rcases get_snoc e4 with e4 | ⟨hj, e4⟩
        · exact R.inj k j b q ne e1 e2 e3 e4
        · rw [e4] at e1
          exact nk k e1
      · have := (List.getElem?_eq_some_iff.mp e1).1
        rw [R.ml] at this
        omega
    · rcases get_snoc e4 with e4 | ⟨hj, e4⟩
      · exact nk j (by rw [e4, e1])
      · omega
  · rcases get_snoc e1 with e1 | ⟨hk, e1⟩
    · obtain ⟨w, e⟩ := R.tk k b e1
      exact ⟨w, upd_grow hp b w e⟩
    · subst e1
      exact ⟨u, upd_same⟩
end
end PM
namespace PM
open PySem PySem.Spec PyProof.Rows L2
open PD (D AS Fr0 U Dn DnA Mv ExIs All2 NT nt_lst nt_tup nt_xd nt_ext nt_rng mv_grow upd_grow)
/-! ### what one's own holds given up: data from then on -/
def datOf (S : List Ob) : Im → Option D
  | .d x => some x
  | .r n => match S[n]? with
    | some (.fz x) => some x
    | _ => none
  | .nf _ _ => none
  | .rg _ _ => none
  | .sc _ => none
  | .un => none
def datsOf (S : List Ob) : List Im → Option (List D)
  | [] => some []
  | x :: xs => (datOf S x).bind fun d => (datsOf S xs).map (d :: ·)
mutual
def frz : Nat → Im → List Ob → Option (D × List Ob)
  | _, .d x, S => some (x, S)
  | _, .nf _ _, _ => none
  | _, .rg _ _, _ => none
  | _, .sc _, _ => none
  | _, .un, _ => none
  | 0, .r _, _ => none
  | k + 1, .r n, S => match S[n]? with
    | some (.fz x) => some (x, S)
    | some (.ls xs) => (frzs k xs S).bind fun S1 => match S1[n]? with
      | some (.ls ys) => (datsOf S1 ys).map fun ds => (.list ds, S1.set n (.fz (.list ds)))
      | _ => none
    | _ => none
def frzs : Nat → List Im → List Ob → Option (List Ob)
  | _, [], S => some S
  | 0, _, _ => none
  | k + 1, x :: xs, S => (frz k x S).bind fun p => frzs k xs p.2
end
inductive FR where
  | val (x : Im) (S : List Ob)
  | exc (c : Str) (fs : List (Str × D)) (S : List Ob)
def WsR (G : Gx) (μ : List Addr) (F : AS) (H : Hp) (ws : List (Option V)) (wis : List (Option Im)) : Prop := All2 (fun w x => ∀ y, x = some y → ∃ v, w = some v ∧ ImR G μ F H v y) ws wis
def spN (G : Gx) (F : List Im → List (Option Im) → List Ob → Option FR) : List (Option V) → Sp := fun ws vs H Q E => ∃ (Fb : AS) (μ : List Addr) (S : List Ob) (its : List Im) (wis : List (Option Im)) (r : FR), SR G Fb μ H S ∧ ImA G μ (U (Lo μ S) Fb) H vs its ∧ WsR G μ (U (Lo μ S) Fb) H ws wis ∧ F its wis S = some r ∧ match r with
  | .val x S' => ∀ v μ' H', Nx μ S H μ' S' H' → SR G Fb μ' H' S' → ImR G μ' (U (Lo μ' S') Fb) H' v x → Q v H'
  | .exc c fs S' => ∀ cls dd μ' H', Nx μ S H μ' S' H' → SR G Fb μ' H' S' → ExIs G.K G.mg (U (Lo μ' S') Fb) H' c fs cls dd → E cls dd H'
def pureC (F : List Im → List (Option Im) → List Ob → Option FR) (cds : List D) (ds : List D) : Option DR := match F (ds.map .d) (cds.map fun d => some (.d d)) [] with
  | some (.val x S') => (frz 100 x S').map fun p => .val p.1
  | some (.exc c fs _) => some (.exc c fs)
  | none => none
abbrev NR := List Im → List (Option Im) → List Ob → Option FR
/-- the closures of a frame, as its slots have them -/
def nfx (X : Cx) : NfR where
  r := fun js C v F H => ∃ (f c : Addr) (mk : Addr → NdefX.NF) (ps fr : List Str) (cl : List (Str × Addr)) (kc : Nat) (Fr : NR), v = .ref f ∧ ¬ F f ∧ H f = some (NdefX.FnO f (mk c)) ∧ ¬ F (mk c).c ∧ H (mk c).c = some (CodeO (mk c).c (mk c).qual) ∧ C = pureC Fr ∧
    (∀ f c', NdefX.NOk X.prog X.w X.K X.mg X.base (L2.CX X.prog X.w) kc f (mk c') ps fr (spN (gx X) Fr)) ∧ kc ≤ kF ∧ (∀ c', (mk c').cl = cl) ∧ (X.Ok → NdefX.Caps X cl fr js)
  mv := fun m ⟨f, c, mk, ps, fr, cl, kc, Fr, e, n1, e1, n2, e2, r⟩ => ⟨f, c, mk, ps, fr, cl, kc, Fr, e, (m _ _ n1 e1 nt_ext).1, (m _ _ n1 e1 nt_ext).2, (m _ _ n2 e2 nt_ext).1, (m _ _ n2 e2 nt_ext).2, r⟩
/-- what may be raised here, and what the frame's closures are -/
structure WN where
  w : WX
  n : NfR
abbrev WN.b (W : WN) : WN := ⟨fun _ _ _ _ => False, W.n⟩
end PM
namespace PM
open PySem PySem.Spec PyProof.Rows L2
open PD (D AS Fr0 U Dn DnA Mv ExIs All2 NT nt_lst nt_tup nt_xd nt_ext nt_rng mv_grow upd_grow)
/-! ### readings -/
inductive Rs (α : Type) where
  | ok (a : α) (m : Ms)
  | ex (c : Str) (fs : List (Str × D)) (m : Ms)
abbrev Gm (α : Type) := Ms → Option (Rs α)
abbrev GE := Gm D
abbrev GI := Gm Im
abbrev GT := Gm Bool
abbrev GA := Gm (List D)
abbrev GL := Gm (List Im)
def gB0 {α β : Type} (g : Gm α) (f : α → Gm β) : Gm β := fun m => match g m with
  | none => none
  | some (.ok a e) => f a e
  | some (.ex c fs e) => some (.ex c fs e)
def gB {α β : Type} (g : Gm α) (f : α → Gm β) : Gm β := fun m => Option.rec (motive := fun _ => Option (Rs β)) none (fun r => Rs.rec (motive := fun _ => Option (Rs β)) (fun a e => f a e) (fun c fs e => some (.ex c fs e)) r) (g m)
theorem gB_def {α β : Type} (g : Gm α) (f : α → Gm β) (m : Ms) : gB g f m = match g m with
  | none => none
  | some (.ok a e) => f a e
  | some (.ex c fs e) => some (.ex c fs e) := by
  unfold gB
  cases g m with
  | none => rfl
  | some r => cases r <;> rfl
def gO0 {α : Type} (o : Option α) : Gm α := fun m => match o with
  | none => none
  | some a => some (.ok a m)
def gO {α : Type} (o : Option α) : Gm α := fun m => Option.rec (motive := fun _ => Option (Rs α)) none (fun a => some (.ok a m)) o
theorem gO_def {α : Type} (o : Option α) (m : Ms) : gO o m = match o with
  | none => none
  | some a => some (.ok a m) := by cases o <;> rfl
def gP {α : Type} (a : α) : Gm α := fun m => some (.ok a m)
def Go {α : Type} (X : Cx) (W : WN) (Fb : AS) (σ : L2.St) (μ : List Addr) (S : List Ob) (H : Hp) (r : Rs α) (k : α → List Addr → List Ob → Hp → Prop) : Prop := match r with
  | .ok a m' => ∀ μ' H', Nx μ S H μ' m'.s H' → MR (gx X) W.n Fb μ' H' σ m' → k a μ' m'.s H'
  | .ex c fs m' => ∀ cls dd μ' H', Nx μ S H μ' m'.s H' → MR (gx X) W.n Fb μ' H' σ m' → ExIs X.K X.mg (U (Lo μ' m'.s) Fb) H' c fs cls dd → W.w cls dd σ H'
section
variable {X : Cx} {W : WN} {Fb : AS} {σ : L2.St} {μ μ1 : List Addr} {S S1 : List Ob} {H H1 : Hp} {α : Type} {r : Rs α} {k k' : α → List Addr → List Ob → Hp → Prop}
theorem Go.from (g : Go X W Fb σ μ S H r k) (t : Nx μ S H μ1 S1 H1) : Go X W Fb σ μ1 S1 H1 r k := by
  cases r with
  | ok a e => exact fun μ' H' t' R => g μ' H' (t.trans t') R
  | ex c fs e => exact fun cls dd μ' H' t' R x => g cls dd μ' H' (t.trans t') R x
theorem Go.imp (g : Go X W Fb σ μ S H r k) (h : ∀ a μ' S' H', k a μ' S' H' → k' a μ' S' H') : Go X W Fb σ μ S H r k' := by
  cases r with
  | ok a e => exact fun μ' H' t R => h _ _ _ _ (g μ' H' t R)
  | ex c fs e => exact g
end
abbrev Rel (α β : Type) := α → β → List Addr → AS → Hp → Prop
def Stab {α β : Type} (ρ : Rel α β) : Prop := ∀ a b μ F H μ' F' H', (∀ (n : Nat) (c : Addr), μ[n]? = some c → μ'[n]? = some c) → Mv F H F' H' → ρ a b μ F H → ρ a b μ' F' H'
def tG {α β : Type} (ρ : Rel α β) (X : Cx) (W : WN) (G : Gm α) (σ : L2.St) (H : Hp) (Q : β → Hp → Prop) : Prop :=
  ∃ (Fb : AS) (μ : List Addr) (m : Ms) (r : Rs α), MR (gx X) W.n Fb μ H σ m ∧ G m = some r ∧ Go X W Fb σ μ m.s H r fun a μ' S' H' => ∀ b, ρ a b μ' (U (Lo μ' S') Fb) H' → Q b H'
theorem tG.mono {α β : Type} {ρ : Rel α β} {X : Cx} {W : WN} {G : Gm α} {σ : L2.St} {H : Hp} {Q Q' : β → Hp → Prop} (h : ∀ b H, Q b H → Q' b H) (q : tG ρ X W G σ H Q) : tG ρ X W G σ H Q' := by
  obtain ⟨Fb, μ, m, r, R, g, k⟩ := q
  exact ⟨Fb, μ, m, r, R, g, k.imp fun a μ' S' H' z b hb => h _ _ (z b hb)⟩
/-- one step, then the rest: how the rest starts -/
def Nxt {α β γ δ : Type} (ρ : Rel α β) (ρ' : Rel γ δ) (X : Cx) (W : WN) (f : α → Gm γ) (σ : L2.St) (Q : δ → Hp → Prop) (b : β) (H : Hp) : Prop :=
  ∃ (a : α) (Fb : AS) (μ : List Addr) (m : Ms) (r : Rs γ), ρ a b μ (U (Lo μ m.s) Fb) H ∧ MR (gx X) W.n Fb μ H σ m ∧ f a m = some r ∧ Go X W Fb σ μ m.s H r fun a μ' S' H' => ∀ b, ρ' a b μ' (U (Lo μ' S') Fb) H' → Q b H'
theorem tG.seq {α β γ δ : Type} {ρ : Rel α β} {ρ' : Rel γ δ} {X : Cx} {W : WN} {Ga : Gm α} {f : α → Gm γ} {σ : L2.St} {H : Hp} {Q : δ → Hp → Prop} (q : tG ρ' X W (gB Ga f) σ H Q) : tG ρ X W Ga σ H (Nxt ρ ρ' X W f σ Q) := by
  obtain ⟨Fb, μ, m, r, R, g, k⟩ := q
  replace g := (gB_def _ _ _).symm.trans g
  split at g
  · cases g
  · rename_i a e ha
    exact ⟨Fb, μ, m, _, R, ha, fun μ' H' t R' b hb => ⟨a, Fb, μ', e, r, hb, R', g, k.from t⟩⟩
  · rename_i c fs e ha
    cases g
    exact ⟨Fb, μ, m, _, R, ha, k⟩
/-- two steps -/
def Nxt2 {α β α' β' γ δ : Type} (ρ : Rel α β) (ρ1 : Rel α' β') (ρ' : Rel γ δ) (X : Cx) (W : WN) (f : α → α' → Gm γ) (σ : L2.St) (Q : δ → Hp → Prop) (b : β) (b1 : β') (H : Hp) : Prop :=
  ∃ (a : α) (a1 : α') (Fb : AS) (μ : List Addr) (m : Ms) (r : Rs γ), ρ a b μ (U (Lo μ m.s) Fb) H ∧ ρ1 a1 b1 μ (U (Lo μ m.s) Fb) H ∧ MR (gx X) W.n Fb μ H σ m ∧ f a a1 m = some r ∧ Go X W Fb σ μ m.s H r fun a μ' S' H' => ∀ b, ρ' a b μ' (U (Lo μ' S') Fb) H' → Q b H'
theorem tG.seq2 {α β α' β' γ δ : Type} {ρ : Rel α β} {ρ1 : Rel α' β'} {ρ' : Rel γ δ} {X : Cx} {W : WN} {Ga : Gm α} {Gb : Gm α'} {f : α → α' → Gm γ} {σ : L2.St} {H : Hp} {Q : δ → Hp → Prop} (st : Stab ρ) (q : tG ρ' X W (gB Ga fun a => gB Gb (f a)) σ H Q) :
    tG ρ X W Ga σ H fun b H1 => tG ρ1 X W Gb σ H1 fun b1 H2 => Nxt2 ρ ρ1 ρ' X W f σ Q b b1 H2 := by
  refine (tG.seq (ρ := ρ) q).mono fun b H1 z => ?_
  obtain ⟨a, Fb, μ, m, r, hb, R, g, k⟩ := z
  replace g := (gB_def _ _ _).symm.trans g
  split at g
  · cases g
  · rename_i a1 e ha
    exact ⟨Fb, μ, m, _, R, ha, fun μ' H' t R' b1 hb1 => ⟨a, a1, Fb, μ', e, r, st _ _ _ _ _ _ _ _ t.pre t.mv hb, hb1, R', g, k.from t⟩⟩
  · rename_i c fs e ha
    cases g
    exact ⟨Fb, μ, m, _, R, ha, k⟩
theorem tG.seq3 {α β α' β' α2 β2 γ δ : Type} {ρ : Rel α β} {ρ1 : Rel α' β'} {ρ2 : Rel α2 β2} {ρ' : Rel γ δ} {X : Cx} {W : WN} {Ga : Gm α} {Gb : Gm α'} {Gc : Gm α2} {f : α → α' → α2 → Gm γ} {σ : L2.St} {H : Hp} {Q : δ → Hp → Prop} (st : Stab ρ) (st1 : Stab ρ1)
    (q : tG ρ' X W (gB Ga fun a => gB Gb fun b => gB Gc (f a b)) σ H Q) :
    tG ρ X W Ga σ H fun b H1 => tG ρ1 X W Gb σ H1 fun b1 H2 => tG ρ2 X W Gc σ H2 fun b2 H3 => ∃ (a : α) (a1 : α') (a2 : α2) (Fb : AS) (μ : List Addr) (m : Ms) (r : Rs γ), ρ a b μ (U (Lo μ m.s) Fb) H3 ∧ ρ1 a1 b1 μ (U (Lo μ m.s) Fb) H3 ∧ ρ2 a2 b2 μ (U (Lo μ m.s) Fb) H3 ∧
      MR (gx X) W.n Fb μ H3 σ m ∧ f a a1 a2 m = some r ∧ Go X W Fb σ μ m.s H3 r fun a μ' S' H' => ∀ b, ρ' a b μ' (U (Lo μ' S') Fb) H' → Q b H' := by
  refine (tG.seq2 (ρ := ρ) (ρ1 := ρ1) (f := fun a b => gB Gc (f a b)) st q).mono fun b H1 z => z.mono fun b1 H2 z => ?_
  obtain ⟨a, a1, Fb, μ, m, r, hb, hb1, R, g, k⟩ := z
  replace g := (gB_def _ _ _).symm.trans g
  split at g
  · cases g
  · rename_i a2 e ha
    exact ⟨Fb, μ, m, _, R, ha, fun μ' H' t R' b2 hb2 => ⟨a, a1, a2, Fb, μ', e, r, st _ _ _ _ _ _ _ _ t.pre t.mv hb, st1 _ _ _ _ _ _ _ _ t.pre t.mv hb1, hb2, R', g, k.from t⟩⟩
  · rename_i c fs e ha
    cases g
    exact ⟨Fb, μ, m, _, R, ha, k⟩
abbrev ρD (K : Fr0) : Rel D V := fun d v _ F H => Dn K F H v d
abbrev ρA (K : Fr0) : Rel (List D) (List V) := fun ds vs _ F H => DnA K F H vs ds
abbrev ρI (G : Gx) : Rel Im V := fun x v μ F H => ImR G μ F H v x
abbrev ρL (G : Gx) : Rel (List Im) (List V) := fun xs vs μ F H => ImA G μ F H vs xs
abbrev ρE {α : Type} : Rel α α := fun a b _ _ _ => b = a
theorem stabD (K : Fr0) : Stab (ρD K) := fun _ _ _ _ _ _ _ _ _ m h => h.mv m
theorem stabA (K : Fr0) : Stab (ρA K) := fun _ _ _ _ _ _ _ _ _ m h => h.mv m
theorem stabI (G : Gx) : Stab (ρI G) := fun _ _ _ _ _ _ _ _ p m h => h.mv p m
theorem stabL (G : Gx) : Stab (ρL G) := fun _ _ _ _ _ _ _ _ p m h => h.mv p m
theorem stabE {α : Type} : Stab (ρE (α := α)) := fun _ _ _ _ _ _ _ _ _ _ h => h
structure PMD (X : Cx) (W : WN) (e : Expr) (G : GE) : Prop where
  pe : PE X e (tG (ρD X.K) X W G)
structure PMI (X : Cx) (W : WN) (e : Expr) (G : GI) : Prop where
  pe : PE X e (tG (ρI (gx X)) X W G)
structure PMT (X : Cx) (W : WN) (e : Expr) (G : GT) : Prop where
  pt : PT X e (tG ρE X W G)
structure PMA (X : Cx) (W : WN) (es : List Expr) (G : GA) : Prop where
  pa : PA X es (tG (ρA X.K) X W G)
structure PML (X : Cx) (W : WN) (es : List Expr) (G : GL) : Prop where
  pa : PA X es (tG (ρL (gx X)) X W G)
theorem gO_some {α : Type} {o : Option α} {m : Ms} {r : Rs α} (h : gO o m = some r) : ∃ a, o = some a ∧ r = .ok a m := by
  rw [gO_def] at h
  cases o with
  | none => cases h
  | some a => cases h; exact ⟨a, rfl, rfl⟩
theorem gP_some {α : Type} {a : α} {m : Ms} {r : Rs α} (h : gP a m = some r) : r = .ok a m := by cases h; rfl
theorem gB_O {α β : Type} {o : Option α} {f : α → Gm β} {m : Ms} {r : Rs β} (h : gB (gO o) f m = some r) : ∃ a, o = some a ∧ f a m = some r := by
  rw [gB_def, gO_def] at h
  cases o with
  | none => cases h
  | some a => exact ⟨a, rfl, h⟩
section
variable {G : Gx} {μ : List Addr} {Fb : AS} {H : Hp} {S : List Ob}
theorem dat_dn (R : SR G Fb μ H S) {x : Im} {v : V} {d : D} (h : ImR G μ (U (Lo μ S) Fb) H v x) (e : datOf S x = some d) : Dn G.K (U (Lo μ S) Fb) H v d := by
  cases x with
  | d y => cases e; exact h
  | r n =>
    obtain ⟨a, rfl, hn⟩ := h
    unfold datOf at e
    dsimp only at e
    split at e
    · rename_i y hy
      cases e
      exact R.ob n a _ hn hy
    · cases e
  | nf _ _ => cases e
  | rg _ _ => cases e
  | un => cases e
  | sc _ => cases e
theorem dats_dn (R : SR G Fb μ H S) : ∀ {xs : List Im} {vs : List V} {ds : List D}, ImA G μ (U (Lo μ S) Fb) H vs xs → datsOf S xs = some ds → DnA G.K (U (Lo μ S) Fb) H vs ds
  | [], vs, ds, h, e => by cases h; cases e; exact .nil
  | x :: xs, vs, ds, h, e => by
    cases h with
    | cons h1 h2 =>
      obtain ⟨d, e1, e⟩ := Option.bind_eq_some_iff.mp e
      obtain ⟨es, e2, rfl⟩ := Option.map_eq_some_iff.mp e
      exact .cons (dat_dn R h1 e1) (dats_dn R h2 e2)
end
section
variable {G : Gx} {Fb : AS} {H : Hp} {μ : List Addr}
mutual
theorem frz_ok : ∀ {k : Nat} {x : Im} {S S' : List Ob} {d : D}, SR G Fb μ H S → frz k x S = some (d, S') → SR G Fb μ H S' ∧ Nx μ S H μ S' H ∧ ∀ v, ImR G μ (U (Lo μ S) Fb) H v x → Dn G.K (U (Lo μ S') Fb) H v d
  | k, .d x, S, S', d, R, h => by
    have h : some (x, S) = some (d, S') := by cases k <;> exact h
    cases h
    exact ⟨R, Nx.refl _ _ _, fun v h => h⟩
  | k, .nf _ _, S, S', d, R, h => by cases k <;> cases h
  | k, .rg _ _, S, S', d, R, h => by cases k <;> cases h
  | k, .sc _, S, S', d, R, h => by cases k <;> cases h
  | k, .un, S, S', d, R, h => by cases k <;> cases h
  | 0, .r n, S, S', d, R, h => by cases h
  | k + 1, .r n, S, S', d, R, h => by
    unfold frz at h
    split at h
    · rename_i x hx
      cases h
      exact ⟨R, Nx.refl _ _ _, fun v ⟨a, e, hn⟩ => by subst e; exact R.ob n a _ hn hx⟩
    · rename_i xs hx
      obtain ⟨S1, h1, h⟩ := Option.bind_eq_some_iff.mp h
      obtain ⟨R1, n1⟩ := frzs_ok R h1
      split at h
      · rename_i ys hy
        obtain ⟨ds, h2, h3⟩ := Option.map_eq_some_iff.mp h
        cases h3
        obtain ⟨a, ha⟩ := R1.lt hy
        obtain ⟨vs, hv, hi⟩ := R1.ob n a _ ha hy
        have dn := dats_dn R1 hi h2
        obtain ⟨R2, n2⟩ := R1.give (o' := .fz (.list ds)) ha hy rfl rfl fun m na => Dn.lst na hv (dn.mv m)
        refine ⟨R2, n1.trans n2, fun v ⟨b, e, hn⟩ => ?_⟩
        subst e
        rw [ha] at hn
        cases hn
        exact R2.ob n a _ ha (List.getElem?_set_self (List.getElem?_eq_some_iff.mp hy).1)
      · cases h
    · cases h
theorem frzs_ok : ∀ {k : Nat} {xs : List Im} {S S' : List Ob}, SR G Fb μ H S → frzs k xs S = some S' → SR G Fb μ H S' ∧ Nx μ S H μ S' H
  | k, [], S, S', R, h => by
    have h : some S = some S' := by cases k <;> exact h
    cases h
    exact ⟨R, Nx.refl _ _ _⟩
  | 0, x :: xs, S, S', R, h => by cases h
  | k + 1, x :: xs, S, S', R, h => by
    unfold frzs at h
    obtain ⟨⟨d, S1⟩, h1, h⟩ := Option.bind_eq_some_iff.mp h
    obtain ⟨R1, n1, _⟩ := frz_ok R h1
    obtain ⟨R2, n2⟩ := frzs_ok R1 h
    exact ⟨R2, n1.trans n2⟩
end
end
/-! ### what is data throughout -/
def allD0 : List Im → Option (List D)
  | [] => some []
  | .d x :: xs => (allD0 xs).map (x :: ·)
  | _ :: _ => none
def allD (xs : List Im) : Option (List D) := List.rec (motive := fun _ => Option (List D)) (some []) (fun x _ ih => Im.rec (motive := fun _ => Option (List D)) (fun d => Option.rec (motive := fun _ => Option (List D)) none (fun ds => some (d :: ds)) ih) (fun _ => none) (fun _ _ => none) (fun _ _ => none) none (fun _ => none) x) xs
theorem allD_cons (d : D) (xs : List Im) : allD (.d d :: xs) = (allD xs).map (d :: ·) := by
  show Option.rec (motive := fun _ => Option (List D)) none (fun ds => some (d :: ds)) (allD xs) = _
  cases allD xs <;> rfl
theorem allD_dn {G : Gx} {μ : List Addr} {F : AS} {H : Hp} {xs : List Im} {ds : List D} {vs : List V} (h : ImA G μ F H vs xs) (e : allD xs = some ds) : DnA G.K F H vs ds ∧ xs = ds.map .d := by
  induction xs generalizing ds vs with
  | nil => cases h; cases e; exact ⟨.nil, rfl⟩
  | cons x xs ih =>
    cases h with
    | cons h1 h2 =>
      cases x with
      | d y =>
        rw [allD_cons] at e
        obtain ⟨es, e1, rfl⟩ := Option.map_eq_some_iff.mp e
        obtain ⟨a, b⟩ := ih h2 e1
        exact ⟨.cons h1 a, by rw [b]; rfl⟩
      | r n => cases e
      | nf _ _ => cases e
      | rg _ _ => cases e
      | un => cases e
      | sc _ => cases e
def gFz0 (x : Im) : GE := fun m => (frz 100 x m.s).map fun p => .ok p.1 ⟨m.e, p.2⟩
def gFz (x : Im) : GE := fun m => Im.rec (motive := fun _ => Option (Rs D)) (fun d => some (.ok d m)) (fun n => gFz0 (.r n) m) (fun _ _ => none) (fun _ _ => none) none (fun _ => none) x
theorem gFz_def (x : Im) (m : Ms) : gFz x m = (frz 100 x m.s).map fun p => .ok p.1 ⟨m.e, p.2⟩ := by cases x <;> rfl
def gD (G : GI) : GE := gB G gFz
def gI (G : GE) : GI := gB G fun d => gP (.d d)
section
variable {X : Cx} {W : WN} {e : Expr}
theorem PE.wk {e : Expr} {t t' : TE} (h : PE X e t) (w : ∀ σ H Q, t' σ H Q → t σ H Q) : PE X e t' := ⟨fun pins s σ H Q I q => h.run pins s σ H Q I (w σ H Q q)⟩
theorem PT.wk {e : Expr} {t t' : TT} (h : PT X e t) (w : ∀ σ H Q, t' σ H Q → t σ H Q) : PT X e t' := ⟨fun pins s σ H Q I q => h.run pins s σ H Q I (w σ H Q q)⟩
theorem PW.wk {e : Expr} {t t' : TT} (h : PW X e t) (w : ∀ σ H Q, t' σ H Q → t σ H Q) : PW X e t' := ⟨fun wh pins s σ H Q I q => h.run wh pins s σ H Q I (w σ H Q q)⟩
theorem PA.wk {es : List Expr} {t t' : TA} (h : PA X es t) (w : ∀ σ H Q, t' σ H Q → t σ H Q) : PA X es t' := ⟨fun pos pins s σ H Q I q => h.run pos pins s σ H Q I (w σ H Q q)⟩
theorem PS.wk {st : Stmt} {t t' : TS} (h : PS X st t) (w : ∀ D σ H, t' D σ H → t D σ H) : PS X st t' := ⟨fun pins s σ H D I q => h.run pins s σ H D I (w D σ H q)⟩
theorem PSs.wk {st : List Stmt} {t t' : TS} (h : PSs X st t) (w : ∀ D σ H, t' D σ H → t D σ H) : PSs X st t' := ⟨fun pins s σ H D I q => h.run pins s σ H D I (w D σ H q)⟩
theorem fz_step {x : Im} {Fb : AS} {μ : List Addr} {m : Ms} {H : Hp} {σ : L2.St} {r : Rs D} (R : MR (gx X) W.n Fb μ H σ m) (h : gFz x m = some r) : ∃ (d : D) (S' : List Ob), r = .ok d ⟨m.e, S'⟩ ∧ MR (gx X) W.n Fb μ H σ ⟨m.e, S'⟩ ∧ Nx μ m.s H μ S' H ∧ ∀ v, ImR (gx X) μ (U (Lo μ m.s) Fb) H v x → Dn X.K (U (Lo μ S') Fb) H v d := by
  rw [gFz_def] at h
  obtain ⟨p, h1, rfl⟩ := Option.map_eq_some_iff.mp h
  obtain ⟨R1, n, f⟩ := frz_ok R.sr h1
  exact ⟨p.1, p.2, rfl, R.later n R1, n, f⟩
theorem PMI.d {G : GI} (h : PMI X W e G) : PMD X W e (gD G) := ⟨PE.wk h.pe fun σ H Q q => (tG.seq (ρ := ρI (gx X)) q).mono fun v H1 z => by
  obtain ⟨x, Fb, μ, m, r, hx, R, g, k⟩ := z
  obtain ⟨d, S', rfl, R', n, f⟩ := fz_step R g
  exact k μ H1 n R' v (f v hx)⟩
theorem PMD.i {G : GE} (h : PMD X W e G) : PMI X W e (gI G) := ⟨PE.wk h.pe fun σ H Q q => (tG.seq (ρ := ρD X.K) q).mono fun v H1 z => by
  obtain ⟨x, Fb, μ, m, r, hx, R, g, k⟩ := z
  cases gP_some g
  exact k μ H1 (Nx.refl _ _ _) R v hx⟩
/-! ### names and constants -/
def gVar0 (i : Nat) : GI := fun m => match m.e[i]? with
  | some (some (.nf _ _)) => none
  | some (some x) => some (.ok x m)
  | _ => none
def gVar (i : Nat) : GI := fun m => Option.rec (motive := fun _ => Option (Rs Im)) none (fun o => Option.rec (motive := fun _ => Option (Rs Im)) none (fun x => Im.rec (motive := fun _ => Option (Rs Im)) (fun d => some (.ok (.d d) m)) (fun n => some (.ok (.r n) m)) (fun _ _ => none) (fun i j => some (.ok (.rg i j) m)) (some (.ok .un m)) (fun ns => some (.ok (.sc ns) m)) x) o) (geti m.e i)
theorem gVar_def (i : Nat) (m : Ms) : gVar i m = match m.e[i]? with
  | some (some (.nf _ _)) => none
  | some (some x) => some (.ok x m)
  | _ => none := by
  unfold gVar
  rw [geti_eq]
  cases m.e[i]? with
  | none => rfl
  | some o =>
    cases o with
    | none => rfl
    | some x => cases x <;> rfl
theorem pi_var {i : Nat} {x : Str} {pos : Pos} (h : PE X (.Name x pos) (tVar i)) : PMI X W (.Name x pos) (gVar i) := ⟨PE.wk h fun σ H Q q => by
  obtain ⟨Fb, μ, m, r, R, g, k⟩ := q
  rw [gVar_def] at g
  split at g
  · cases g
  · rename_i x nx hx
    cases g
    obtain ⟨v, e1, h1⟩ := R.sl i _ hx
    exact ⟨v, e1, k μ H (Nx.refl _ _ _) R v (h1.im nx)⟩
  · cases g⟩
theorem pm_c {v : V} {d : D} (h : PE X e (tC v)) (hd : ∀ K F H, Dn K F H v d) : PMD X W e (gP d) := ⟨PE.wk h fun σ H Q q => by
  obtain ⟨Fb, μ, m, r, R, g, k⟩ := q
  cases g
  exact k μ H (Nx.refl _ _ _) R v (hd _ _ _)⟩
theorem pm_int {i : Int} {j pos} : PMD X W (.Constant (.int i) j pos) (gP (.int i)) := pm_c pe_int fun _ _ _ => .int i
theorem pm_bl {b : Bool} {j pos} : PMD X W (.Constant (.bool b) j pos) (gP (.bool b)) := pm_c pe_bl fun _ _ _ => .bl b
theorem pm_non {j pos} : PMD X W (.Constant .none j pos) (gP .none) := pm_c pe_non fun _ _ _ => .non
theorem pm_str {x : Str} {j pos} : PMD X W (.Constant (.str x) j pos) (gP (.str x)) := pm_c pe_str fun _ _ _ => .str x
/-! ### operations by values -/
def gOp (φ : D → D → Option D) (Ga Gb : GE) : GE := gB Ga fun d => gB Gb fun e => gO (φ d e)
theorem tOp_of {r : R2} {φ : D → D → Option D} {Ga Gb : GE} {σ : L2.St} {H : Hp} {Q : VK} (hr : PD.RD2 X.K r φ) (q : tG (ρD X.K) X W (gOp φ Ga Gb) σ H Q) : tOp r (tG (ρD X.K) X W Ga) (tG (ρD X.K) X W Gb) σ H Q := by
  refine (tG.seq2 (ρ1 := ρD X.K) (stabD X.K) q).mono fun x H1 z => z.mono fun y H2 z => ?_
  obtain ⟨d, e, Fb, μ, m, r, hx, hy, R, g, k⟩ := z
  obtain ⟨z, h1, rfl⟩ := gO_some g
  exact hr.go hx hy h1 (fun p hp => R.sr.free hp) fun v H' gr dn => k μ H' (Nx.grow gr) (R.grow gr) v dn
theorem pm_op {op : Operator} {r : R2} {φ : D → D → Option D} {a b : Expr} {Ga Gb : GE} {pos : Pos} (ho : OpR X (binaryOp op) r) (hr : PD.RD2 X.K r φ) (ha : PMD X W a Ga) (hb : PMD X W b Gb) : PMD X W (.BinOp a op b pos) (gOp φ Ga Gb) :=
  ⟨PE.wk (pe_op ho ha.pe hb.pe) fun σ H Q q => tOp_of hr q⟩
theorem pm_ix {r : R2} {φ : D → D → Option D} {a b : Expr} {Ga Gb : GE} {pos : Pos} (ho : IxR X r) (hr : PD.RD2 X.K r φ) (ha : PMD X W a Ga) (hb : PMD X W b Gb) (hs : PlainIx b) : PMD X W (.Subscript a b pos) (gOp φ Ga Gb) :=
  ⟨PE.wk (pe_ix ho ha.pe hb.pe hs) fun σ H Q q => tOp_of hr q⟩
theorem pm_cmp {op : CmpOp} {φ : D → D → Option D} {a b : Expr} {Ga Gb : GE} {pos : Pos} (c : PD.CD X op b φ) (ha : PMD X W a Ga) (hb : PMD X W b Gb) : PMD X W (.Compare a [op] [b] pos) (gOp φ Ga Gb) := by
  obtain ⟨r, ho, hr, hm⟩ := c.ex
  exact ⟨PE.wk (pe_cmpR ho ha.pe hb.pe hm) fun σ H Q q => tOp_of hr q⟩
section
variable {a b : Expr} {Ga Gb : GE} {pos : Pos}
theorem pm_add (ha : PMD X W a Ga) (hb : PMD X W b Gb) : PMD X W (.BinOp a .Add b pos) (gOp PD.dAdd Ga Gb) := pm_op PD.or_add PD.rd_add ha hb
theorem pm_sub (ha : PMD X W a Ga) (hb : PMD X W b Gb) : PMD X W (.BinOp a .Sub b pos) (gOp PD.dSub Ga Gb) := pm_op op_sub PD.rd_sub ha hb
theorem pm_mod (ha : PMD X W a Ga) (hb : PMD X W b Gb) : PMD X W (.BinOp a .Mod b pos) (gOp (PD.dInt PD.bMod Int.fmod) Ga Gb) := pm_op op_modN (PD.rd_int PD.bMod_ok) ha hb
theorem pm_fdiv (ha : PMD X W a Ga) (hb : PMD X W b Gb) : PMD X W (.BinOp a .FloorDiv b pos) (gOp (PD.dInt PD.bDiv Int.fdiv) Ga Gb) := pm_op op_fdivN (PD.rd_int PD.bDiv_ok) ha hb
theorem pm_pow (ha : PMD X W a Ga) (hb : PMD X W b Gb) : PMD X W (.BinOp a .Pow b pos) (gOp (PD.dInt PD.bPow fun i j => i ^ j.toNat) Ga Gb) := pm_op op_pow (PD.rd_int PD.bPow_ok) ha hb
theorem pm_at (ha : PMD X W a Ga) (hb : PMD X W b Gb) (hs : PlainIx b := by intros; rfl) : PMD X W (.Subscript a b pos) (gOp PD.dIx Ga Gb) := pm_ix ix_seq PD.rd_ix ha hb hs
end
end
end PM
namespace PM
open PySem PySem.Spec PyProof.Rows L2
open PD (D AS Fr0 U Dn DnA Mv ExIs All2 NT nt_lst nt_tup nt_xd nt_ext nt_rng mv_grow upd_grow RCd sz dIsi dIsi2 dPart cutD dSl truD dNot dNeg CD tyOf)
section
variable {X : Cx} {W : WN}
abbrev tD (X : Cx) (W : WN) (G : GE) : TE := tG (ρD X.K) X W G
abbrev tT (X : Cx) (W : WN) (G : GT) : TT := tG ρE X W G
abbrev tAs (X : Cx) (W : WN) (G : GA) : TA := tG (ρA X.K) X W G
def gCons (Ga : GE) (Gr : GA) : GA := gB Ga fun d => gB Gr fun ds => gP (d :: ds)
theorem pma_nil : PMA X W [] (gP []) := ⟨PA.wk pa_nil fun σ H Q q => by
  obtain ⟨Fb, μ, m, r, R, g, k⟩ := q
  cases gP_some g
  exact k μ H (Nx.refl _ _ _) R [] .nil⟩
theorem pma_cons {e : Expr} {es : List Expr} {Ga : GE} {Gr : GA} (ha : PMD X W e Ga) (hr : PMA X W es Gr) (hs : starEach (e :: es) X.env = (false, eval e X.env) :: starEach es X.env := by rfl) : PMA X W (e :: es) (gCons Ga Gr) :=
  ⟨PA.wk (pa_cons ha.pe hr.pa hs) fun σ H Q q => (tG.seq2 (ρ1 := ρA X.K) (stabD X.K) q).mono fun x H1 z => z.mono fun xs H2 z => by
    obtain ⟨d, ds, Fb, μ, m, r, hx, hy, R, g, k⟩ := z
    cases gP_some g
    exact k μ H2 (Nx.refl _ _ _) R (x :: xs) (.cons hx hy)⟩
def gTup (G : GA) : GE := gB G fun ds => gO (if ds.length ≤ 100000 then some (.tuple ds) else none)
theorem pm_tup {es : List Expr} {G : GA} {k : Nat} {pos : Pos} (h : PMA X W es G) : PMD X W (.Tuple es k pos) (gTup G) := ⟨PE.wk (pe_tup h.pa) fun σ H Q q => (tG.seq (ρ := ρA X.K) q).mono fun xs H1 z => by
  obtain ⟨ds, Fb, μ, m, r, hx, R, g, k⟩ := z
  obtain ⟨a, h1, rfl⟩ := gO_some g
  split at h1
  · rename_i hl
    cases h1
    exact ⟨sz (by rw [hx.length]; exact hl), fun p hp => k μ _ (Nx.grow (upd_grow hp)) (R.grow (upd_grow hp)) _ (.tup (.inl ⟨R.sr.free hp, upd_same⟩) (hx.mv (mv_grow (upd_grow hp))))⟩
  · cases h1⟩
def gCall (φ : List D → Option D) (G : GA) : GE := gB G fun ds => gO (φ ds)
theorem tCB_of {r : List V → Hp → VK → Prop} {φ : List D → Option D} {G : GA} {σ : L2.St} {H : Hp} {Q : VK} (hr : RCd X.K r φ) (q : tD X W (gCall φ G) σ H Q) : tCB r (tAs X W G) σ H Q :=
  (tG.seq (ρ := ρA X.K) q).mono fun xs H1 z => by
    obtain ⟨ds, Fb, μ, m, r, hx, R, g, k⟩ := z
    obtain ⟨z, h1, rfl⟩ := gO_some g
    exact hr.go hx h1 (fun p hp => R.sr.free hp) fun v H' gr dn => k μ H' (Nx.grow gr) (R.grow gr) v dn
section
variable {x : Str} {p pos : Pos} {e : Expr} {es : List Expr} {G : GA} {r : List V → Hp → VK → Prop} {φ : List D → Option D}
theorem pm_cb {id : String} (hc : CallR X (.builtin id) r) (hr : RCd X.K r φ) (hg : Gl X x) (hm : X.mg x = none) (hv : bootBuiltins x = some (.builtin id)) (ha : PMA X W (e :: es) G) (hn : x ≠ "__name__" := by decide) (hdb : (x == ("__debug__" : Str)) = false := by decide)
    (hs : starEach (e :: es) X.env = (false, eval e X.env) :: starEach es X.env := by rfl) (hpl : (backTo pos (starEach es X.env)).any (·.1) = false := by rfl) : PMD X W (.Call (.Name x p) (e :: es) [] pos) (gCall φ G) :=
  ⟨PE.wk (pe_callB hc hg hm hv ha.pa hn hdb hs hpl) fun σ H Q q => tCB_of hr q⟩
theorem pm_ct {T : String} (hc : CallR X (.type T) r) (hr : RCd X.K r φ) (hg : Gl X x) (hm : X.mg x = none) (hv : bootBuiltins x = some (.type T)) (ha : PMA X W (e :: es) G) (hn : x ≠ "__name__" := by decide) (hdb : (x == ("__debug__" : Str)) = false := by decide)
    (hs : starEach (e :: es) X.env = (false, eval e X.env) :: starEach es X.env := by rfl) (hpl : (backTo pos (starEach es X.env)).any (·.1) = false := by rfl) : PMD X W (.Call (.Name x p) (e :: es) [] pos) (gCall φ G) :=
  ⟨PE.wk (pe_callTy hc hg hm hv ha.pa hn hdb hs hpl) fun σ H Q q => tCB_of hr q⟩
end
/-! ### isinstance -/
theorem pm_isi {x y : Str} {p q pos : Pos} {a : Expr} {Ga : GE} {c : String} (hg : Gl X x) (hm : X.mg x = none) (hv : bootBuiltins x = some (.builtin "isinstance")) (hgy : Gl X y) (hmy : X.mg y = none) (hvy : bootBuiltins y = some (.type c)) (ha : PMD X W a Ga)
    (hn : x ≠ "__name__" := by decide) (hdb : (x == ("__debug__" : Str)) = false := by decide) (hny : y ≠ "__name__" := by decide) (hdy : (y == ("__debug__" : Str)) = false := by decide)
    (hs : starEach [a, .Name y q] X.env = (false, eval a X.env) :: starEach [.Name y q] X.env := by rfl) (hs2 : starEach [.Name y q] X.env = (false, eval (.Name y q) X.env) :: starEach [] X.env := by rfl) (hpl : (backTo pos (starEach [.Name y q] X.env)).any (·.1) = false := by rfl) :
    PMD X W (.Call (.Name x p) [a, .Name y q] [] pos) (gB Ga fun d => gO (dIsi c d)) :=
  ⟨PE.wk (pe_callB call_isi hg hm hv (pa_cons ha.pe (pa_cons (pe_bltn (v := .ty c) hgy hmy hvy rfl hny hdy) pa_nil hs2) hs) hn hdb hs hpl) fun σ H Q q => (tG.seq (ρ := ρD X.K) q).mono fun v H1 z => by
    obtain ⟨d, Fb, μ, m, r, hx, R, g, k⟩ := z
    obtain ⟨es, h1, rfl⟩ := gO_some g
    obtain ⟨t, h2, h1⟩ := Option.bind_eq_some_iff.mp h1
    obtain ⟨b, h3, rfl⟩ := Option.map_eq_some_iff.mp h1
    exact ⟨v, .ty c, .type t, .type c, b, rfl, .ty c, hx.ty h2, kit_ty h3, k μ H1 (Nx.refl _ _ _) R _ (.bl b)⟩⟩
theorem pm_isi2 {x y1 y2 : Str} {p q1 q2 pos pos2 : Pos} {k2 : Nat} {a : Expr} {Ga : GE} {c1 c2 : String} (hg : Gl X x) (hm : X.mg x = none) (hv : bootBuiltins x = some (.builtin "isinstance")) (hgy : Gl X y1) (hmy : X.mg y1 = none) (hvy : bootBuiltins y1 = some (.type c1))
    (hgz : Gl X y2) (hmz : X.mg y2 = none) (hvz : bootBuiltins y2 = some (.type c2)) (ha : PMD X W a Ga)
    (hn : x ≠ "__name__" := by decide) (hdb : (x == ("__debug__" : Str)) = false := by decide) (hny : y1 ≠ "__name__" := by decide) (hdy : (y1 == ("__debug__" : Str)) = false := by decide) (hnz : y2 ≠ "__name__" := by decide) (hdz : (y2 == ("__debug__" : Str)) = false := by decide)
    (hs : starEach [a, .Tuple [.Name y1 q1, .Name y2 q2] k2 pos2] X.env = (false, eval a X.env) :: starEach [.Tuple [.Name y1 q1, .Name y2 q2] k2 pos2] X.env := by rfl) (hs2 : starEach [.Tuple [.Name y1 q1, .Name y2 q2] k2 pos2] X.env = (false, eval (.Tuple [.Name y1 q1, .Name y2 q2] k2 pos2) X.env) :: starEach [] X.env := by rfl)
    (hs3 : starEach [.Name y1 q1, .Name y2 q2] X.env = (false, eval (.Name y1 q1) X.env) :: starEach [.Name y2 q2] X.env := by rfl) (hs4 : starEach [.Name y2 q2] X.env = (false, eval (.Name y2 q2) X.env) :: starEach [] X.env := by rfl)
    (hpl : (backTo pos (starEach [.Tuple [.Name y1 q1, .Name y2 q2] k2 pos2] X.env)).any (·.1) = false := by rfl) :
    PMD X W (.Call (.Name x p) [a, .Tuple [.Name y1 q1, .Name y2 q2] k2 pos2] [] pos) (gB Ga fun d => gO (dIsi2 c1 c2 d)) :=
  ⟨PE.wk (pe_callB call_isiT hg hm hv (pa_cons ha.pe (pa_cons (pe_tup (pa_cons (pe_bltn (v := .ty c1) hgy hmy hvy rfl hny hdy) (pa_cons (pe_bltn (v := .ty c2) hgz hmz hvz rfl hnz hdz) pa_nil hs4) hs3)) pa_nil hs2) hs) hn hdb hs hpl) fun σ H Q q => (tG.seq (ρ := ρD X.K) q).mono fun v H1 z => by
    obtain ⟨d, Fb, μ, m, r, hx, R, g, k⟩ := z
    obtain ⟨es, h1, rfl⟩ := gO_some g
    obtain ⟨t, h2, h1⟩ := Option.bind_eq_some_iff.mp h1
    obtain ⟨b1, h3, h1⟩ := Option.bind_eq_some_iff.mp h1
    obtain ⟨b2, h4, rfl⟩ := Option.map_eq_some_iff.mp h1
    refine ⟨by show 2 ≤ sizeLine; decide, fun p hp => ⟨v, p, [.ty c1, .ty c2], .type t, [.type c1, .type c2], b1 || b2, rfl, upd_same, .cons (.ty c1) (.cons (.ty c2) .nil), (hx.mv (mv_grow (upd_grow hp))).ty h2, ?_, k μ _ (Nx.grow (upd_grow hp)) (R.grow (upd_grow hp)) _ (.bl _)⟩⟩
    refine kitAny_cons (kit_ty h3) (fun e => ?_) (fun e => by rw [e]; rfl)
    refine kitAny_cons (kit_ty h4) (fun e2 => ?_) (fun e2 => by rw [e, e2]; rfl)
    rw [e, e2]
    exact kitAny_nil⟩
structure PMO (X : Cx) (W : WN) (e : Option Expr) (G : Gm (Option Int)) : Prop where
  po : PO X e (tG ρE X W G)
theorem PO.wk {X : Cx} {e : Option Expr} {t t' : TO} (h : PO X e t) (w : ∀ σ H Q, t' σ H Q → t σ H Q) : PO X e t' := ⟨fun pins s σ H Q I q => h.run pins s σ H Q I (w σ H Q q)⟩
theorem pmo_none : PMO X W none (gP none) := ⟨PO.wk po_none fun σ H Q q => by
  obtain ⟨Fb, μ, m, r, R, g, k⟩ := q
  cases gP_some g
  exact k μ H (Nx.refl _ _ _) R none rfl⟩
theorem pmo_some {e : Expr} {G : GE} (h : PMD X W e G) : PMO X W (some e) (gB G fun d => gO (dPart d)) := ⟨PO.wk (po_some h.pe) fun σ H Q q => (tG.seq (ρ := ρD X.K) q).mono fun v H1 z => by
  obtain ⟨d, Fb, μ, m, r, hx, R, g, k⟩ := z
  obtain ⟨a, h1, rfl⟩ := gO_some g
  cases d <;> simp only [dPart] at h1 <;> cases h1
  cases hx
  exact ⟨_, rfl, k μ H1 (Nx.refl _ _ _) R _ rfl⟩⟩
def gSl (Ga : GE) (Gl Gh : Gm (Option Int)) : GE := gB Ga fun d => gB Gl fun lo => gB Gh fun hi => gO (dSl lo hi d)
theorem pm_slice {a : Expr} {lo hi : Option Expr} {Ga : GE} {Gl Gh : Gm (Option Int)} {p2 pos : Pos} (ha : PMD X W a Ga) (hl : PMO X W lo Gl) (hh : PMO X W hi Gh) : PMD X W (.Subscript a (.Slice lo hi none p2) pos) (gSl Ga Gl Gh) :=
  ⟨PE.wk (pe_slice (SlR.or sl_list sl_tupA) ha.pe hl.po hh.po) fun σ H Q q => (tG.seq3 (ρ1 := ρE) (ρ2 := ρE) (stabD X.K) stabE q).mono fun v H1 z => z.mono fun l H2 z => z.mono fun h H3 z => by
    obtain ⟨d, lo', hi', Fb, μ, m, r, hx, e1, e2, R, g, k⟩ := z
    subst e1 e2
    obtain ⟨z, h1, rfl⟩ := gO_some g
    cases d with
    | list ds =>
      cases h1
      obtain ⟨a, vs, rfl, na, ha, da⟩ := hx.lstInv
      exact .inl ⟨a, vs, rfl, SqL.of ha, fun p hp => k μ _ (Nx.grow (upd_grow hp)) (R.grow (upd_grow hp)) _ (.lst (R.sr.free hp) upd_same ((da.cut _ _).mv (mv_grow (upd_grow hp))))⟩
    | tuple ds =>
      cases h1
      have hx0 := hx
      obtain ⟨a, vs, rfl, ha, da⟩ := hx.tupInv
      refine .inr ⟨a, vs, rfl, ha, fun z => ?_, fun _ p hp => k μ _ (Nx.grow (upd_grow hp)) (R.grow (upd_grow hp)) _ (.tup (.inl ⟨R.sr.free hp, upd_same⟩) ((da.cut _ _).mv (mv_grow (upd_grow hp))))⟩
      have e : PD.cutD ds l h = ds := by
        unfold PD.cutD
        rw [da.length] at z
        rw [z.1, z.2, List.drop_zero, Nat.sub_zero, List.take_length]
      rw [e] at k
      exact k μ H3 (Nx.refl _ _ _) R _ hx0
    | _ => cases h1⟩
def gAndV (Ga Gb : GE) : GE := gB Ga fun d => gB (gO (truD d)) fun b => brec b Gb (gP d)
def gOrV (Ga Gb : GE) : GE := gB Ga fun d => gB (gO (truD d)) fun b => brec b (gP d) Gb
theorem pm_and {a b : Expr} {rest : List Expr} {Ga Gb : GE} {pos : Pos} (ha : PMD X W a Ga) (hb : PMD X W (.BoolOp .And (b :: rest) pos) Gb) : PMD X W (.BoolOp .And (a :: b :: rest) pos) (gAndV Ga Gb) :=
  ⟨PE.wk (pe_andT ha.pe hb.pe) fun σ H Q q => (tG.seq (ρ := ρD X.K) q).mono fun v H1 z => by
    obtain ⟨d, Fb, μ, m, r, hx, R, g, k⟩ := z
    obtain ⟨b, h1, g⟩ := gB_O g
    refine ⟨b, hx.tru h1, ?_⟩
    cases b with
    | true => exact ⟨Fb, μ, m, r, R, g, k⟩
    | false =>
      rw [if_neg Bool.false_ne_true]
      have g : gP d m = some r := g
      cases gP_some g
      exact k μ H1 (Nx.refl _ _ _) R v hx⟩
theorem pm_or {a b : Expr} {rest : List Expr} {Ga Gb : GE} {pos : Pos} (ha : PMD X W a Ga) (hb : PMD X W (.BoolOp .Or (b :: rest) pos) Gb) : PMD X W (.BoolOp .Or (a :: b :: rest) pos) (gOrV Ga Gb) :=
  ⟨PE.wk (pe_orT ha.pe hb.pe) fun σ H Q q => (tG.seq (ρ := ρD X.K) q).mono fun v H1 z => by
    obtain ⟨d, Fb, μ, m, r, hx, R, g, k⟩ := z
    obtain ⟨b, h1, g⟩ := gB_O g
    refine ⟨b, hx.tru h1, ?_⟩
    cases b with
    | false => exact ⟨Fb, μ, m, r, R, g, k⟩
    | true =>
      rw [if_pos rfl]
      have g : gP d m = some r := g
      cases gP_some g
      exact k μ H1 (Nx.refl _ _ _) R v hx⟩
theorem pm_last {op : BoolOp} {a : Expr} {G : GE} {pos : Pos} (h : PMD X W a G) : PMD X W (.BoolOp op [a] pos) G := ⟨pe_one h.pe⟩
theorem pm_not {a : Expr} {G : GE} {pos : Pos} (h : PMD X W a G) : PMD X W (.UnaryOp .Not a pos) (gB G fun d => gO (dNot d)) := ⟨PE.wk (pe_not h.pe) fun σ H Q q => (tG.seq (ρ := ρD X.K) q).mono fun v H1 z => by
  obtain ⟨d, Fb, μ, m, r, hx, R, g, k⟩ := z
  obtain ⟨z, h1, rfl⟩ := gO_some g
  cases d <;> simp only [dNot] at h1 <;> cases h1
  cases hx
  exact ⟨_, rfl, k μ H1 (Nx.refl _ _ _) R _ (.bl _)⟩⟩
theorem pm_neg {a : Expr} {G : GE} {pos : Pos} (h : PMD X W a G) : PMD X W (.UnaryOp .USub a pos) (gB G fun d => gO (dNeg d)) := ⟨PE.wk (pe_un un_neg h.pe) fun σ H Q q => (tG.seq (ρ := ρD X.K) q).mono fun v H1 z => by
  obtain ⟨d, Fb, μ, m, r, hx, R, g, k⟩ := z
  obtain ⟨z, h1, rfl⟩ := gO_some g
  cases d <;> simp only [dNeg] at h1 <;> cases h1
  cases hx
  exact ⟨_, rfl, k μ H1 (Nx.refl _ _ _) R _ (.int _)⟩⟩
def gIf {α : Type} (Gt : GT) (Ga Gb : Gm α) : Gm α := gB Gt fun b => brec b Ga Gb
theorem pm_ifExp {c a b : Expr} {Gt : GT} {Ga Gb : GE} {pos : Pos} (hc : PMT X W c Gt) (ha : PMD X W a Ga) (hb : PMD X W b Gb) : PMD X W (.IfExp c a b pos) (gIf Gt Ga Gb) :=
  ⟨PE.wk (pe_ifExp hc.pt ha.pe hb.pe) fun σ H Q q => (tG.seq (ρ := ρE) q).mono fun v H1 z => by
    obtain ⟨d, Fb, μ, m, r, hx, R, g, k⟩ := z
    subst hx
    cases v with
    | true => exact ⟨Fb, μ, m, r, R, g, k⟩
    | false => exact ⟨Fb, μ, m, r, R, g, k⟩⟩
/-! ### tests -/
def gTru (G : GE) : GT := gB G fun d => gO (truD d)
theorem pmt_val {a : Expr} {G : GE} (h : PMD X W a G) (he : ∀ whole, isTrue a X.env whole = (do let v ← whole; standAt a.pos; holding [v] (truthy v)) := by intro _; rfl) : PMT X W a (gTru G) :=
  ⟨PT.wk (pt_truth h.pe he) fun σ H Q q => (tG.seq (ρ := ρD X.K) q).mono fun v H1 z => by
    obtain ⟨d, Fb, μ, m, r, hx, R, g, k⟩ := z
    obtain ⟨b, h1, rfl⟩ := gO_some g
    exact ⟨b, hx.tru h1, k μ H1 (Nx.refl _ _ _) R _ rfl⟩⟩
def gBool (G : GE) : GT := gB G fun d => gO (match d with | .bool b => some b | _ => none)
theorem pmt_cmp {op : CmpOp} {φ : D → D → Option D} {a b : Expr} {Ga Gb : GE} {pos : Pos} (c : CD X op b φ) (ha : PMD X W a Ga) (hb : PMD X W b Gb) : PMT X W (.Compare a [op] [b] pos) (gBool (gOp φ Ga Gb)) := by
  obtain ⟨r, ho, hr, hm⟩ := c.ex
  refine ⟨PT.wk (pt_cmpR ho ha.pe hb.pe hm) fun σ H Q q => tOp_of hr ((tG.seq (ρ := ρD X.K) q).mono fun v H1 z => ?_)⟩
  obtain ⟨d, Fb, μ, m, r, hx, R, g, k⟩ := z
  obtain ⟨b, h1, rfl⟩ := gO_some g
  split at h1
  · cases h1
    cases hx
    exact ⟨_, rfl, k μ H1 (Nx.refl _ _ _) R _ rfl⟩
  · cases h1
structure PMW (X : Cx) (W : WN) (e : Expr) (G : GT) : Prop where
  pw : PW X e (tT X W G)
theorem PMW.t {e : Expr} {G : GT} (h : PMW X W e G) : PMT X W e G := ⟨h.pw.pt⟩
def gAnd (Ga Gb : GT) : GT := gB Ga fun b => brec b Gb (gP false)
def gOr (Ga Gb : GT) : GT := gB Ga fun b => brec b (gP true) Gb
theorem pmw_and {a b : Expr} {rest : List Expr} {Ga Gb : GT} {pos : Pos} (ha : PMT X W a Ga) (hb : PMW X W (.BoolOp .And (b :: rest) pos) Gb) : PMW X W (.BoolOp .And (a :: b :: rest) pos) (gAnd Ga Gb) :=
  ⟨PW.wk (pw_and ha.pt hb.pw) fun σ H Q q => (tG.seq (ρ := ρE) q).mono fun v H1 z => by
    obtain ⟨d, Fb, μ, m, r, hx, R, g, k⟩ := z
    subst hx
    cases v with
    | true => exact ⟨Fb, μ, m, r, R, g, k⟩
    | false =>
      have g : gP false m = some r := g
      show Q false H1
      cases gP_some g
      exact k μ H1 (Nx.refl _ _ _) R _ rfl⟩
theorem pmw_or {a b : Expr} {rest : List Expr} {Ga Gb : GT} {pos : Pos} (ha : PMT X W a Ga) (hb : PMW X W (.BoolOp .Or (b :: rest) pos) Gb) : PMW X W (.BoolOp .Or (a :: b :: rest) pos) (gOr Ga Gb) :=
  ⟨PW.wk (pw_or ha.pt hb.pw) fun σ H Q q => (tG.seq (ρ := ρE) q).mono fun v H1 z => by
    obtain ⟨d, Fb, μ, m, r, hx, R, g, k⟩ := z
    subst hx
    cases v with
    | false => exact ⟨Fb, μ, m, r, R, g, k⟩
    | true =>
      have g : gP true m = some r := g
      show Q true H1
      cases gP_some g
      exact k μ H1 (Nx.refl _ _ _) R _ rfl⟩
theorem pmw_and1 {a : Expr} {Ga : GT} {pos : Pos} (ha : PMT X W a Ga) : PMW X W (.BoolOp .And [a] pos) Ga := ⟨pw_and1 ha.pt⟩
theorem pmw_or1 {a : Expr} {Ga : GT} {pos : Pos} (ha : PMT X W a Ga) : PMW X W (.BoolOp .Or [a] pos) Ga := ⟨pw_or1 ha.pt⟩
theorem pmt_not {a : Expr} {Ga : GT} {pos : Pos} (ha : PMT X W a Ga) : PMT X W (.UnaryOp .Not a pos) (gB Ga fun b => gP !b) := ⟨PT.wk (pt_not ha.pt) fun σ H Q q => (tG.seq (ρ := ρE) q).mono fun v H1 z => by
  obtain ⟨d, Fb, μ, m, r, hx, R, g, k⟩ := z
  subst hx
  cases gP_some g
  exact k μ H1 (Nx.refl _ _ _) R _ rfl⟩
end
end PM
namespace PM
open PySem PySem.Spec PyProof.Rows L2
open PD (D AS Fr0 U Dn DnA Mv ExIs All2 NT nt_lst nt_tup nt_xd nt_ext nt_rng mv_grow upd_grow sz)
section
variable {G : Gx} {μ : List Addr} {Fb : AS} {H : Hp} {S : List Ob}
abbrev Fb' (Fb : AS) (p : Addr) : AS := fun a => Fb a ∨ a = p
theorem guard_mv {p : Addr} {u : HO} (hp : H p = none) : Mv (U (Lo μ S) Fb) H (U (Lo μ S) (Fb' Fb p)) (upd H p u) := fun a o n e _ => by
  have ne := ne_of_none e hp
  exact ⟨fun z => z.elim (fun z => n (.inl z)) fun z => z.elim (fun z => n (.inr z)) ne, by rw [upd_ne ne]; exact e⟩
theorem SR.guard (R : SR G Fb μ H S) {p : Addr} {u : HO} (hp : H p = none) (hu : Apt u p) : SR G (Fb' Fb p) μ (upd H p u) S where
  ml := R.ml
  nf := fun n a l z => z.elim (R.nf n a l) fun z => by
    obtain ⟨w, e⟩ := R.tk n a l
    rw [z, hp] at e; cases e
  fb := fun a z => by
    by_cases h : a = p
    · subst h; exact ⟨u, upd_same, hu⟩
    · obtain ⟨w, e, n1⟩ := R.fb a (z.elim id fun w => (h w).elim)
      exact ⟨w, upd_grow hp a w e, n1⟩
  ob := fun n a o h1 h2 => (R.ob n a o h1 h2).mv (fun _ _ h => h) (guard_mv hp) (fun _ w e => upd_grow hp a w e)
  inj := R.inj
  tk := fun n a h => let ⟨w, e⟩ := R.tk n a h; ⟨w, upd_grow hp a w e⟩
  tb := R.tb.grow (upd_grow hp)
theorem MR.guard {σ : L2.St} {m : Ms} (R : MR G N Fb μ H σ m) {p : Addr} {u : HO} (hp : H p = none) (hu : Apt u p) : MR G N (Fb' Fb p) μ (upd H p u) σ m where
  sr := R.sr.guard hp hu
  len := R.len
  sl := fun i x e => let ⟨v, e1, h⟩ := R.sl i x e; ⟨v, e1, h.mv (fun _ _ h => h) (guard_mv hp)⟩
theorem unguard_mv {p : Addr} : Mv (U (Lo μ S) (Fb' Fb p)) H (U (Lo μ S) Fb) H := fun a o n e _ => ⟨fun z => n (z.elim .inl fun z => .inr (.inl z)), e⟩
theorem SR.unguard {p : Addr} (R : SR G (Fb' Fb p) μ H S) : SR G Fb μ H S where
  ml := R.ml
  nf := fun n a l z => R.nf n a l (.inl z)
  fb := fun a z => R.fb a (.inl z)
  ob := fun n a o h1 h2 => (R.ob n a o h1 h2).mv (fun _ _ h => h) unguard_mv (fun _ w e => e)
  inj := R.inj
  tk := R.tk
  tb := R.tb
theorem MR.unguard {σ : L2.St} {m : Ms} {p : Addr} (R : MR G N (Fb' Fb p) μ H σ m) : MR G N Fb μ H σ m where
  sr := R.sr.unguard
  len := R.len
  sl := fun i x e => let ⟨v, e1, h⟩ := R.sl i x e; ⟨v, e1, h.mv (fun _ _ h => h) unguard_mv⟩
/-- what stood apart is one's own -/
theorem SR.adopt {p : Addr} (R : SR G (Fb' Fb p) μ H S) (nf : ¬ Fb p) {o : Ob} (ow : o.own = true) (h5 : Mv (U (Lo μ S) (Fb' Fb p)) H (U (Lo (μ ++ [p]) (S ++ [o])) Fb) H → ObR G (μ ++ [p]) (U (Lo (μ ++ [p]) (S ++ [o])) Fb) H p o)
    (np : ∀ (n : Nat), μ[n]? ≠ some p) :
    SR G Fb (μ ++ [p]) H (S ++ [o]) ∧ Mv (U (Lo μ S) (Fb' Fb p)) H (U (Lo (μ ++ [p]) (S ++ [o])) Fb) H := by
  have sub : ∀ b, Lo (μ ++ [p]) (S ++ [o]) b → Lo μ S b ∨ b = p := fun b ⟨k, q, e1, e2, e3⟩ => by
    rcases get_snoc e1 with e1 | ⟨hk, e1⟩
    · rcases get_snoc e2 with e2 | ⟨hk, e2⟩
      · exact .inl ⟨k, q, e1, e2, e3⟩
      · have := (List.getElem?_eq_some_iff.mp e1).1
        rw [R.ml] at this
        omega
    · exact .inr e1
  have mv : Mv (U (Lo μ S) (Fb' Fb p)) H (U (Lo (μ ++ [p]) (S ++ [o])) Fb) H := fun a w n e _ => ⟨fun z => z.elim (fun z => (sub a z).elim (fun z => n (.inl z)) fun z => n (.inr (.inr z))) fun z => n (.inr (.inl z)), e⟩
  refine ⟨⟨by simp [R.ml], fun k b h z => (get_snoc h).elim (fun l => R.nf k b l (.inl z)) fun w => by rw [w.2] at z; exact nf z, fun b z => R.fb b (.inl z), fun k b q e1 e2 => ?_, fun k j b q ne e1 e2 e3 e4 => ?_, fun k b e1 => ?_, R.tb⟩, mv⟩
  · rcases get_snoc e2 with e2 | ⟨hk, e2⟩
    · rcases get_snoc e1 with e1 | ⟨hk, e1⟩
      · exact (R.ob k b q e1 e2).mv (fun _ _ h => snoc_old h) mv (fun _ w e => e)
      · have := (List.getElem?_eq_some_iff.mp e2).1
        rw [← R.ml] at this
        omega
    · subst e2
      rcases get_snoc e1 with e1 | ⟨hk2, e1⟩
      · have := (List.getElem?_eq_some_iff.mp e1).1
        rw [R.ml] at this
        omega
      · subst e1
        exact h5 mv
  · rcases get_snoc e1 with e1 | ⟨hk, e1⟩
    · rcases get_snoc e2 with e2 | ⟨hk, e2⟩
      · rcases get_snoc e4 with e4 | ⟨hj, e4⟩
        · exact R.inj k j b q ne e1 e2 e3 e4
        · rw [e4] at e1
          exact np k e1
      · have := (List.getElem?_eq_some_iff.mp e1).1
        rw [R.ml] at this
        omega
    · rcases get_snoc e4 with e4 | ⟨hj, e4⟩
      · exact np j (by rw [e4, e1])
      · omega
  · rcases get_snoc e1 with e1 | ⟨hk, e1⟩
    · exact R.tk k b e1
    · subst e1
      exact (R.fb b (.inr rfl)).ex
end
/-! ### a list just made: not told to anyone yet -/
def FrK (X : Cx) (W : WN) (Fb : AS) (σ : L2.St) (μ : List Addr) (S : List Ob) (H : Hp) (r : Rs (List Im)) (Q : VK) : Prop := match r with
  | .ok xs m' => ∀ a vs μ' H', Nx μ S H μ' m'.s H' → MR (gx X) W.n (Fb' Fb a) μ' H' σ m' → ¬ Fb a → (∀ (n : Nat), μ'[n]? ≠ some a) → H' a = some (.lst vs) → ImA (gx X) μ' (U (Lo μ' m'.s) (Fb' Fb a)) H' vs xs → (∀ o, H a = some o → ¬ Lo μ S a → False) → Q (.ref a) H'
  | .ex c fs m' => ∀ cls dd μ' H', Nx μ S H μ' m'.s H' → MR (gx X) W.n Fb μ' H' σ m' → ExIs X.K X.mg (U (Lo μ' m'.s) Fb) H' c fs cls dd → W.w cls dd σ H'
def tF (X : Cx) (W : WN) (G : GL) : TE := fun σ H Q => ∃ (Fb : AS) (μ : List Addr) (m : Ms) (r : Rs (List Im)), MR (gx X) W.n Fb μ H σ m ∧ G m = some r ∧ FrK X W Fb σ μ m.s H r Q
structure PMF (X : Cx) (W : WN) (e : Expr) (G : GL) : Prop where
  pe : PE X e (tF X W G)
section
variable {X : Cx} {W : WN}
theorem FrK.from {Fb : AS} {σ : L2.St} {μ μ1 : List Addr} {S S1 : List Ob} {H H1 : Hp} {r : Rs (List Im)} {Q : VK} (k : FrK X W Fb σ μ S H r Q) (n : Nx μ S H μ1 S1 H1) : FrK X W Fb σ μ1 S1 H1 r Q := by
  cases r with
  | ok xs m' => exact fun a vs μ' H' n' R nf np ha hi old => k a vs μ' H' (n.trans n') R nf np ha hi fun o e nl => (let ⟨⟨o', e', _⟩, n'⟩ := n.tr a o e nl; old o' e' n')
  | ex c fs m' => exact fun cls dd μ' H' n' R x => k cls dd μ' H' (n.trans n') R x
theorem tF.mk {α β : Type} {ρ : Rel α β} {G : Gm α} {f : α → GL} {σ : L2.St} {H : Hp} {Q : VK} (q : tF X W (gB G f) σ H Q) : tG ρ X W G σ H fun b H1 => ∃ (a : α) (Fb : AS) (μ : List Addr) (m : Ms) (r : Rs (List Im)), ρ a b μ (U (Lo μ m.s) Fb) H1 ∧ MR (gx X) W.n Fb μ H1 σ m ∧ f a m = some r ∧ FrK X W Fb σ μ m.s H1 r Q := by
  obtain ⟨Fb, μ, m, r, R, g, k⟩ := q
  replace g := (gB_def _ _ _).symm.trans g
  split at g
  · cases g
  · rename_i ds e hg
    exact ⟨Fb, μ, m, _, R, hg, fun μ' H1 t1 R1 b hb => ⟨ds, Fb, μ', e, r, hb, R1, g, k.from t1⟩⟩
  · rename_i c fs e hg
    cases g
    exact ⟨Fb, μ, m, _, R, hg, k⟩
/-- laid at a free place -/
theorem FrK.laid {Fb : AS} {σ : L2.St} {μ : List Addr} {m : Ms} {H : Hp} {xs : List Im} {vs : List V} {Q : VK} (k : FrK X W Fb σ μ m.s H (.ok xs m) Q) (R : MR (gx X) W.n Fb μ H σ m) (hi : ImA (gx X) μ (U (Lo μ m.s) Fb) H vs xs) {p : Addr} (hp : H p = none) : Q (.ref p) (upd H p (.lst vs)) := by
  have np : ∀ (n : Nat), μ[n]? ≠ some p := fun n e => by
    obtain ⟨w, z⟩ := R.sr.tk n p e
    rw [hp] at z; cases z
  exact k p vs μ _ (Nx.grow (upd_grow hp)) (R.guard hp apt_lst) (fun z => R.sr.free hp (.inr z)) np upd_same (hi.mv (fun _ _ h => h) (guard_mv hp)) fun o e _ => by rw [hp] at e; cases e
theorem dna_ima {G : Gx} {μ : List Addr} {F : AS} {H : Hp} {ds : List D} {vs : List V} (h : DnA G.K F H vs ds) : ImA G μ F H vs (ds.map .d) := by
  induction ds generalizing vs with
  | nil => cases h; exact .nil
  | cons d ds ih =>
    cases h with
    | cons a b => exact .cons a (ih b)
theorem ImA.length {G : Gx} {μ : List Addr} {F : AS} {H : Hp} {xs : List Im} {vs : List V} (h : ImA G μ F H vs xs) : vs.length = xs.length := PD.All2.length h
def gLst (G : GL) : GL := gB G fun xs => gO (if xs.length ≤ 100000 then some xs else none)
theorem pmf_lst {es : List Expr} {G : GL} {pos : Pos} (h : PML X W es G) : PMF X W (.List es pos) (gLst G) := ⟨PE.wk (pe_lst h.pa) fun σ H Q q => (tF.mk (ρ := ρL (gx X)) q).mono fun vs H1 z => by
  obtain ⟨xs, Fb, μ, m, r, hx, R, g, k⟩ := z
  obtain ⟨a, h1, rfl⟩ := gO_some g
  split at h1
  · rename_i hl
    cases h1
    exact ⟨sz (by rw [hx.length]; exact hl), fun p hp => k.laid R hx hp⟩
  · cases h1⟩
theorem pml_nil : PML X W [] (gP []) := ⟨PA.wk pa_nil fun σ H Q q => by
  obtain ⟨Fb, μ, m, r, R, g, k⟩ := q
  cases gP_some g
  exact k μ H (Nx.refl _ _ _) R [] .nil⟩
def gConsL (Ga : GI) (Gr : GL) : GL := gB Ga fun d => gB Gr fun ds => gP (d :: ds)
theorem pml_cons {e : Expr} {es : List Expr} {Ga : GI} {Gr : GL} (ha : PMI X W e Ga) (hr : PML X W es Gr) (hs : starEach (e :: es) X.env = (false, eval e X.env) :: starEach es X.env := by rfl) : PML X W (e :: es) (gConsL Ga Gr) :=
  ⟨PA.wk (pa_cons ha.pe hr.pa hs) fun σ H Q q => (tG.seq2 (ρ := ρI (gx X)) (ρ1 := ρL (gx X)) (stabI _) q).mono fun x H1 z => z.mono fun xs H2 z => by
    obtain ⟨d, ds, Fb, μ, m, r, hx, hy, R, g, k⟩ := z
    cases gP_some g
    exact k μ H2 (Nx.refl _ _ _) R (x :: xs) (.cons hx hy)⟩
theorem tF.mk2 {α β α' β' : Type} {ρ : Rel α β} {ρ1 : Rel α' β'} {Ga : Gm α} {Gb : Gm α'} {f : α → α' → GL} {σ : L2.St} {H : Hp} {Q : VK} (st : Stab ρ) (q : tF X W (gB Ga fun a => gB Gb (f a)) σ H Q) :
    tG ρ X W Ga σ H fun b H1 => tG ρ1 X W Gb σ H1 fun b1 H2 => ∃ (a : α) (a1 : α') (Fb : AS) (μ : List Addr) (m : Ms) (r : Rs (List Im)), ρ a b μ (U (Lo μ m.s) Fb) H2 ∧ ρ1 a1 b1 μ (U (Lo μ m.s) Fb) H2 ∧ MR (gx X) W.n Fb μ H2 σ m ∧ f a a1 m = some r ∧ FrK X W Fb σ μ m.s H2 r Q := by
  refine (tF.mk (ρ := ρ) q).mono fun b H1 z => ?_
  obtain ⟨a, Fb, μ, m, r, hb, R, g, k⟩ := z
  replace g := (gB_def _ _ _).symm.trans g
  split at g
  · cases g
  · rename_i a1 e ha
    exact ⟨Fb, μ, m, _, R, ha, fun μ' H' t R' b1 hb1 => ⟨a, a1, Fb, μ', e, r, st _ _ _ _ _ _ _ _ t.pre t.mv hb, hb1, R', g, k.from t⟩⟩
  · rename_i c fs e ha
    cases g
    exact ⟨Fb, μ, m, _, R, ha, k⟩
/-- [..] * n -/
def dRep : D → D → Option (List D)
  | .list xs, .int k => if 0 ≤ k ∧ k ≤ 100000 ∧ xs.length * k.toNat ≤ 100000 then some (List.replicate k.toNat xs).flatten else none
  | _, _ => none
def gRep (Ga Gb : GE) : GL := gB Ga fun d => gB Gb fun e => gO ((dRep d e).map fun ds => ds.map .d)
theorem pmf_rep {a b : Expr} {Ga Gb : GE} {pos : Pos} (ha : PMD X W a Ga) (hb : PMD X W b Gb) : PMF X W (.BinOp a .Mult b pos) (gRep Ga Gb) :=
  ⟨PE.wk (pe_op op_rep ha.pe hb.pe) fun σ H Q q => (tF.mk2 (ρ := ρD X.K) (ρ1 := ρD X.K) (stabD _) q).mono fun x H1 z => z.mono fun y H2 z => by
    obtain ⟨d, e, Fb, μ, m, r, hx, hy, R, g, k⟩ := z
    obtain ⟨xs, h1, rfl⟩ := gO_some g
    obtain ⟨ds, h2, rfl⟩ := Option.map_eq_some_iff.mp h1
    unfold dRep at h2
    split at h2
    · rename_i es n
      split at h2
      · rename_i hc
        cases h2
        cases hy
        obtain ⟨a, vs, rfl, na, ha, da⟩ := hx.lstInv
        exact ⟨a, n, vs, rfl, rfl, ha, by omega, by omega, sz (by rw [da.length]; exact hc.2.2), fun p hp => k.laid R (dna_ima (da.rep _)) hp⟩
      · cases h2
    · cases h2⟩
/-- list(xs), a new one -/
def gList (G : GA) : GL := gB G fun ds => gO (match ds with | [.list es] => some (es.map .d) | [.tuple es] => some (es.map .d) | _ => none)
theorem pmf_list {x : Str} {p pos : Pos} {e : Expr} {G : GA} (hg : Gl X x) (hm : X.mg x = none) (hv : bootBuiltins x = some (.type "list")) (ha : PMA X W [e] G) (hn : x ≠ "__name__" := by decide) (hdb : (x == ("__debug__" : Str)) = false := by decide)
    (hs : starEach [e] X.env = (false, eval e X.env) :: starEach [] X.env := by rfl) (hpl : (backTo pos (starEach [] X.env)).any (·.1) = false := by rfl) : PMF X W (.Call (.Name x p) [e] [] pos) (gList G) :=
  ⟨PE.wk (pe_callTy call_list_of hg hm hv ha.pa hn hdb hs hpl) fun σ H Q q => (tF.mk (ρ := ρA X.K) q).mono fun xs H1 z => by
    obtain ⟨ds, Fb, μ, m, r, hx, R, g, k⟩ := z
    obtain ⟨es, h1, rfl⟩ := gO_some g
    split at h1
    · cases h1
      obtain ⟨v, rfl, h⟩ := hx.one
      obtain ⟨a, vs, rfl, na, ha, da⟩ := h.lstInv
      exact ⟨a, vs, rfl, .inl (SqL.of ha), fun p hp => k.laid R (dna_ima da) hp⟩
    · cases h1
      obtain ⟨v, rfl, h⟩ := hx.one
      obtain ⟨a, vs, rfl, ha, da⟩ := h.tupInv
      exact ⟨a, vs, rfl, .inr ha, fun p hp => k.laid R (dna_ima da) hp⟩
    · cases h1⟩
/-! #### kept as one's own, or as data -/
def gOwn (G : GL) : GI := gB G fun xs m => some (.ok (.r m.s.length) ⟨m.e, m.s ++ [.ls xs]⟩)
theorem Nx.adopt {μ μ' : List Addr} {S S' : List Ob} {H H' : Hp} {a : Addr} {o : Ob} (n : Nx μ S H μ' S' H') (ml : μ'.length = S'.length) (old : ∀ o, H a = some o → ¬ Lo μ S a → False) : Nx μ S H (μ' ++ [a]) (S' ++ [o]) H' :=
  ⟨fun k b h => snoc_old (n.pre k b h), fun b u e nl => ⟨(n.tr b u e nl).1, fun ⟨k, q, e1, e2, e3⟩ => by
    rcases get_snoc e1 with e1 | ⟨hk, e1⟩
    · rcases get_snoc e2 with e2 | ⟨hk, e2⟩
      · exact (n.tr b u e nl).2 ⟨k, q, e1, e2, e3⟩
      · have := (List.getElem?_eq_some_iff.mp e1).1
        omega
    · subst e1
      exact old u e nl⟩⟩
theorem PMF.o {e : Expr} {G : GL} (h : PMF X W e G) : PMI X W e (gOwn G) := ⟨PE.wk h.pe fun σ H Q q => by
  obtain ⟨Fb, μ, m, r, R, g, k⟩ := q
  unfold gOwn at g; replace g := (gB_def _ _ _).symm.trans g
  split at g
  · cases g
  · rename_i xs m1 hg
    cases g
    refine ⟨Fb, μ, m, _, R, hg, fun a vs μ' H' n R' nf np ha hi old => ?_⟩
    obtain ⟨R1, mv⟩ := R'.sr.adopt nf (o := .ls xs) rfl (fun mv => ⟨vs, ha, hi.mv (fun _ _ h => snoc_old h) mv⟩) np
    refine k (μ' ++ [a]) H' (n.adopt R'.sr.ml old) ⟨R1, R'.len, fun i x e => ?_⟩ _ ⟨a, rfl, ?_⟩
    · obtain ⟨v, e1, h⟩ := R'.sl i x e
      exact ⟨v, e1, h.mv (fun _ _ h => snoc_old h) mv⟩
    · rw [← R'.sr.ml, List.getElem?_append_right (Nat.le_refl _), Nat.sub_self]
      rfl
  · rename_i c fs e hg
    cases g
    exact ⟨Fb, μ, m, _, R, hg, k⟩⟩
def fzL (xs : List Im) (S : List Ob) : Option (List D × List Ob) := match allD xs with
  | some ds => some (ds, S)
  | none => (frzs 1000000 xs S).bind fun S => (datsOf S xs).map fun ds => (ds, S)
theorem fzL_ok {G : Gx} {Fb : AS} {H : Hp} {μ : List Addr} {xs : List Im} {S S' : List Ob} {ds : List D} (R : SR G Fb μ H S) (h : fzL xs S = some (ds, S')) : SR G Fb μ H S' ∧ Nx μ S H μ S' H ∧ ∀ vs, ImA G μ (U (Lo μ S) Fb) H vs xs → DnA G.K (U (Lo μ S') Fb) H vs ds := by
  unfold fzL at h
  split at h
  · rename_i ds' e
    cases h
    exact ⟨R, Nx.refl _ _ _, fun vs hi => (allD_dn hi e).1⟩
  · obtain ⟨S1, h1, h⟩ := Option.bind_eq_some_iff.mp h
    obtain ⟨es, h2, h3⟩ := Option.map_eq_some_iff.mp h
    cases h3
    obtain ⟨R1, n1⟩ := frzs_ok R h1
    exact ⟨R1, n1, fun vs hi => dats_dn R1 (hi.mv n1.pre n1.mv) h2⟩
def gFzs (xs : List Im) : GE := fun m => (fzL xs m.s).map fun p => .ok (.list p.1) ⟨m.e, p.2⟩
def gFl (G : GL) : GE := gB G gFzs
theorem PMF.d {e : Expr} {G : GL} (h : PMF X W e G) : PMD X W e (gFl G) := ⟨PE.wk h.pe fun σ H Q q => by
  obtain ⟨Fb, μ, m, r, R, g, k⟩ := q
  unfold gFl at g; replace g := (gB_def _ _ _).symm.trans g
  split at g
  · cases g
  · rename_i xs m1 hg
    obtain ⟨⟨ds, S⟩, h1, rfl⟩ := Option.map_eq_some_iff.mp g
    refine ⟨Fb, μ, m, _, R, hg, fun a vs μ' H' n R' nf np ha hi old => ?_⟩
    obtain ⟨R1, n1, f1⟩ := fzL_ok R'.sr h1
    have R2 := R'.later n1 R1
    have dn := f1 vs hi
    exact k μ' H' (n.trans n1) R2.unguard (.ref a) (.lst (fun z => z.elim (fun l => R1.dis a l (.inr rfl)) nf) ha (dn.mv unguard_mv))
  · rename_i c fs e hg
    cases g
    exact ⟨Fb, μ, m, _, R, hg, k⟩⟩
end
end PM
namespace PM
open PySem PySem.Spec PyProof.Rows L2
open PD (D AS Fr0 U Dn DnA Mv ExIs All2 NT nt_lst nt_tup nt_xd nt_ext nt_rng mv_grow upd_grow sz RCd)
/-! ### statements -/
inductive Fl where
  | nx (m : Ms) | rt (x : Im) (m : Ms) | bk (m : Ms) | ct (m : Ms) | ex (c : Str) (fs : List (Str × D)) (m : Ms)
abbrev Gs := Ms → Option Fl
def Fo (X : Cx) (W : WN) (Fb : AS) (μ : List Addr) (S : List Ob) (H : Hp) (D : Ends) : Fl → Prop
  | .nx m => ∀ σ' μ' H', Nx μ S H μ' m.s H' → MR (gx X) W.n Fb μ' H' σ' m → D.nx σ' H'
  | .rt x m => ∀ v σ' μ' H', Nx μ S H μ' m.s H' → MR (gx X) W.n Fb μ' H' σ' m → ImR (gx X) μ' (U (Lo μ' m.s) Fb) H' v x → D.rt v H'
  | .bk m => ∀ σ' μ' H', Nx μ S H μ' m.s H' → MR (gx X) W.n Fb μ' H' σ' m → D.bk σ' H'
  | .ct m => ∀ σ' μ' H', Nx μ S H μ' m.s H' → MR (gx X) W.n Fb μ' H' σ' m → D.ct σ' H'
  | .ex c fs m => ∀ cls dd σ' μ' H', Nx μ S H μ' m.s H' → MR (gx X) W.n Fb μ' H' σ' m → ExIs X.K X.mg (U (Lo μ' m.s) Fb) H' c fs cls dd → W.w cls dd σ' H'
section
variable {X : Cx} {W : WN} {Fb : AS} {μ μ1 : List Addr} {S S1 : List Ob} {H H1 : Hp} {D : Ends} {r : Fl}
theorem Fo.from (k : Fo X W Fb μ S H D r) (t : Nx μ S H μ1 S1 H1) : Fo X W Fb μ1 S1 H1 D r := by
  cases r with
  | nx m => exact fun σ' μ' H' t' R => k σ' μ' H' (t.trans t') R
  | rt x m => exact fun v σ' μ' H' t' R h => k v σ' μ' H' (t.trans t') R h
  | bk m => exact fun σ' μ' H' t' R => k σ' μ' H' (t.trans t') R
  | ct m => exact fun σ' μ' H' t' R => k σ' μ' H' (t.trans t') R
  | ex c fs m => exact fun cls dd σ' μ' H' t' R x => k cls dd σ' μ' H' (t.trans t') R x
end
def tS (X : Cx) (W : WN) (B : Gs) : TS := fun D σ H => ∃ (Fb : AS) (μ : List Addr) (m : Ms) (r : Fl), MR (gx X) W.n Fb μ H σ m ∧ B m = some r ∧ Fo X W Fb μ m.s H D r
structure PMS (X : Cx) (W : WN) (st : Stmt) (B : Gs) : Prop where
  ps : PS X st (tS X W B)
structure PMSs (X : Cx) (W : WN) (st : List Stmt) (B : Gs) : Prop where
  pss : PSs X st (tS X W B)
section
variable {X : Cx} {W : WN}
def gSkip : Gs := fun m => some (.nx m)
def gSeq0 (B1 B2 : Gs) : Gs := fun m => match B1 m with
  | some (.nx e) => B2 e
  | r => r
def gSeq (B1 B2 : Gs) : Gs := fun m => Option.rec (motive := fun _ => Option Fl) none (fun r => Fl.rec (motive := fun _ => Option Fl) (fun e => B2 e) (fun x e => some (.rt x e)) (fun e => some (.bk e)) (fun e => some (.ct e)) (fun c fs e => some (.ex c fs e)) r) (B1 m)
theorem gSeq_def (B1 B2 : Gs) (m : Ms) : gSeq B1 B2 m = match B1 m with
  | some (.nx e) => B2 e
  | r => r := by
  unfold gSeq
  cases B1 m with
  | none => rfl
  | some r => cases r <;> rfl
theorem pmss_nil : PMSs X W [] gSkip := ⟨PSs.wk pss_nil fun D σ H q => by
  obtain ⟨Fb, μ, m, r, R, g, k⟩ := q
  cases g
  exact k σ μ H (Nx.refl _ _ _) R⟩
theorem tS.seq {B1 B2 : Gs} {D : Ends} {σ : L2.St} {H : Hp} (q : tS X W (gSeq B1 B2) D σ H) : tS X W B1 { D with nx := tS X W B2 D } σ H := by
  obtain ⟨Fb, μ, m, r, R, g, k⟩ := q
  replace g := (gSeq_def _ _ _).symm.trans g
  split at g
  · rename_i e he
    exact ⟨Fb, μ, m, _, R, he, fun σ' μ' H' t R' => ⟨Fb, μ', e, r, R', g, k.from t⟩⟩
  · rename_i hn
    refine ⟨Fb, μ, m, r, R, g, ?_⟩
    cases r with
    | nx e => exact (hn e g).elim
    | rt d e => exact k
    | bk e => exact k
    | ct e => exact k
    | ex c fs e => exact k
theorem pmss_cons {st : Stmt} {rest : List Stmt} {B1 B2 : Gs} (h1 : PMS X W st B1) (h2 : PMSs X W rest B2) : PMSs X W (st :: rest) (gSeq B1 B2) := ⟨PSs.wk (pss_cons h1.ps h2.pss) fun D σ H q => tS.seq q⟩
def gS0 {α : Type} (g : Gm α) (f : α → Gs) : Gs := fun m => match g m with
  | none => none
  | some (.ok a e) => f a e
  | some (.ex c fs e) => some (.ex c fs e)
def gS {α : Type} (g : Gm α) (f : α → Gs) : Gs := fun m => Option.rec (motive := fun _ => Option Fl) none (fun r => Rs.rec (motive := fun _ => Option Fl) (fun a e => f a e) (fun c fs e => some (.ex c fs e)) r) (g m)
theorem gS_def {α : Type} (g : Gm α) (f : α → Gs) (m : Ms) : gS g f m = match g m with
  | none => none
  | some (.ok a e) => f a e
  | some (.ex c fs e) => some (.ex c fs e) := by
  unfold gS
  cases g m with
  | none => rfl
  | some r => cases r <;> rfl
theorem tS.after {α β : Type} {ρ : Rel α β} {g : Gm α} {f : α → Gs} {D : Ends} {σ : L2.St} {H : Hp} (q : tS X W (gS g f) D σ H) : tG ρ X W g σ H fun b H1 => ∃ (a : α) (Fb : AS) (μ : List Addr) (m : Ms) (r : Fl), ρ a b μ (U (Lo μ m.s) Fb) H1 ∧ MR (gx X) W.n Fb μ H1 σ m ∧ f a m = some r ∧ Fo X W Fb μ m.s H1 D r := by
  obtain ⟨Fb, μ, m, r, R, h, k⟩ := q
  replace h := (gS_def _ _ _).symm.trans h
  split at h
  · cases h
  · rename_i a e hg
    exact ⟨Fb, μ, m, _, R, hg, fun μ' H1 t R1 b hb => ⟨a, Fb, μ', e, r, hb, R1, h, k.from t⟩⟩
  · rename_i c fs e hg
    cases h
    exact ⟨Fb, μ, m, _, R, hg, fun cls dd μ' H' t R' x => k cls dd σ μ' H' t R' x⟩
theorem tS.after2 {α β α' β' : Type} {ρ : Rel α β} {ρ1 : Rel α' β'} {g : Gm α} {g1 : Gm α'} {f : α → α' → Gs} {D : Ends} {σ : L2.St} {H : Hp} (st : Stab ρ) (q : tS X W (gS g fun a => gS g1 (f a)) D σ H) : tG ρ X W g σ H fun b H1 => tG ρ1 X W g1 σ H1 fun b1 H2 => ∃ (a : α) (a1 : α') (Fb : AS) (μ : List Addr) (m : Ms) (r : Fl), ρ a b μ (U (Lo μ m.s) Fb) H2 ∧ ρ1 a1 b1 μ (U (Lo μ m.s) Fb) H2 ∧ MR (gx X) W.n Fb μ H2 σ m ∧ f a a1 m = some r ∧ Fo X W Fb μ m.s H2 D r := by
  refine (tS.after (ρ := ρ) q).mono fun b H1 z => ?_
  obtain ⟨a, Fb, μ, m, r, hb, R, h, k⟩ := z
  replace h := (gS_def _ _ _).symm.trans h
  split at h
  · cases h
  · rename_i a1 e hg
    exact ⟨Fb, μ, m, _, R, hg, fun μ' H2 t R2 b1 hb1 => ⟨a, a1, Fb, μ', e, r, st _ _ _ _ _ _ _ _ t.pre t.mv hb, hb1, R2, h, k.from t⟩⟩
  · rename_i c fs e hg
    cases h
    exact ⟨Fb, μ, m, _, R, hg, fun cls dd μ' H' t R' x => k cls dd σ μ' H' t R' x⟩
def gRet (G : GI) : Gs := gS G fun x m => some (.rt x m)
theorem pms_ret {e : Expr} {G : GI} {pos : Pos} (h : PMI X W e G) : PMS X W (.Return (some e) pos) (gRet G) := ⟨PS.wk (ps_ret h.pe) fun D σ H q => (tS.after (ρ := ρI (gx X)) q).mono fun v H1 z => by
  obtain ⟨d, Fb, μ, m, r, hv, R, g, k⟩ := z
  cases g
  exact k v σ μ H1 (Nx.refl _ _ _) R hv⟩
theorem pms_retN {pos : Pos} : PMS X W (.Return none pos) (fun m => some (.rt (.d .none) m)) := ⟨PS.wk ps_retN fun D σ H q => by
  obtain ⟨Fb, μ, m, r, R, g, k⟩ := q
  cases g
  exact k .non σ μ H (Nx.refl _ _ _) R Dn.non⟩
theorem pms_pass {pos : Pos} : PMS X W (.Pass pos) gSkip := ⟨PS.wk ps_pass fun D σ H q => by
  obtain ⟨Fb, μ, m, r, R, g, k⟩ := q
  cases g
  exact k σ μ H (Nx.refl _ _ _) R⟩
theorem pms_break {pos : Pos} : PMS X W (.Break pos) (fun m => some (.bk m)) := ⟨PS.wk ps_break fun D σ H q => by
  obtain ⟨Fb, μ, m, r, R, g, k⟩ := q
  cases g
  exact k σ μ H (Nx.refl _ _ _) R⟩
theorem pms_continue {pos : Pos} : PMS X W (.Continue pos) (fun m => some (.ct m)) := ⟨PS.wk ps_continue fun D σ H q => by
  obtain ⟨Fb, μ, m, r, R, g, k⟩ := q
  cases g
  exact k σ μ H (Nx.refl _ _ _) R⟩
/-- if -/
def gIfS (Gt : GT) (B1 B2 : Gs) : Gs := gS Gt fun b => brec b B1 B2
theorem pms_if {c : Expr} {a b : List Stmt} {pos : Pos} {Gt : GT} {B1 B2 : Gs} (hc : PMT X W c Gt) (ha : PMSs X W a B1) (hb : PMSs X W b B2) : PMS X W (.If c a b pos) (gIfS Gt B1 B2) := ⟨PS.wk (ps_if hc.pt ha.pss hb.pss) fun D σ H q => (tS.after (ρ := ρE) q).mono fun v H1 z => by
  obtain ⟨d, Fb, μ, m, r, hv, R, g, k⟩ := z
  subst hv
  cases v with
  | true => exact ⟨Fb, μ, m, r, R, g, k⟩
  | false => exact ⟨Fb, μ, m, r, R, g, k⟩⟩
theorem pms_expr {e : Expr} {pos : Pos} {G : GI} (h : PMI X W e G) (hs : swapsWith e none pos.line X.env = pure false := by rfl) : PMS X W (.Expr e pos) (gS G fun _ m => some (.nx m)) := ⟨PS.wk (ps_expr h.pe hs) fun D σ H q => (tS.after (ρ := ρI (gx X)) q).mono fun v H1 z => by
  obtain ⟨d, Fb, μ, m, r, hv, R, g, k⟩ := z
  cases g
  exact k σ μ H1 (Nx.refl _ _ _) R⟩
/-! ### slots -/
theorem MR.put {G : Gx} {σ : L2.St} {m : Ms} {v : V} {x : Im} {i : Nat} {Fb : AS} {μ : List Addr} {H : Hp} (R : MR G N Fb μ H σ m) (h : ImR G μ (U (Lo μ m.s) Fb) H v x) : MR G N Fb μ H (σ.set i (some v)) ⟨m.e.set i (some x), m.s⟩ where
  sr := R.sr
  len := by simpa using R.len
  sl := fun j y e => by
    dsimp only at e
    by_cases hj : i = j
    · subst hj
      have hlt : i < m.e.length := by
        have := (List.getElem?_eq_some_iff.mp e).1
        simpa using this
      rw [List.getElem?_set_self hlt] at e
      cases e
      exact ⟨v, List.getElem?_set_self (by rw [← R.len]; exact hlt), h.n⟩
    · rw [List.getElem?_set_ne hj] at e
      rw [List.getElem?_set_ne hj]
      exact R.sl j y e
theorem MR.wipe1 {G : Gx} {σ : L2.St} {m : Ms} {i : Nat} {Fb : AS} {μ : List Addr} {H : Hp} (R : MR G N Fb μ H σ m) : MR G N Fb μ H (σ.set i none) ⟨m.e.set i none, m.s⟩ where
  sr := R.sr
  len := by simpa using R.len
  sl := fun j y e => by
    dsimp only at e
    by_cases hj : i = j
    · subst hj
      have hlt : i < m.e.length := by
        have := (List.getElem?_eq_some_iff.mp e).1
        simpa using this
      rw [List.getElem?_set_self hlt] at e
      cases e
    · rw [List.getElem?_set_ne hj] at e
      rw [List.getElem?_set_ne hj]
      exact R.sl j y e
def setI (i : Nat) (x : Im) (m : Ms) : Ms := ⟨m.e.set i (some x), m.s⟩
def setIK0 {β : Type} (i : Nat) (x : Im) (m : Ms) (k : Ms → β) : β := k (setI i x m)
def setIK {β : Type} (i : Nat) (x : Im) (m : Ms) (k : Ms → β) : β := Ms.rec (motive := fun _ => β) (fun e s => setK e i (some x) fun e' => k ⟨e', s⟩) m
theorem setIK_eq {β : Type} (i : Nat) (x : Im) (m : Ms) (k : Ms → β) : setIK i x m k = k (setI i x m) := by
  obtain ⟨e, s⟩ := m
  exact setK_eq e i (some x) fun e' => k ⟨e', s⟩
def gAsg (i : Nat) (G : GI) : Gs := gS G fun x m => setIK i x m fun m => some (.nx m)
theorem pms_asg {x : Str} {p pos : Pos} {e : Expr} {i : Nat} {G : GI} (h : PMI X W e G) (hg : PG X (.Name x p) (gName i)) (hs : swapsWithSole [.Name x p] e pos.line X.env = pure false := by rfl) (hw : swappedStores [.Name x p] e X.env = pure none := by rfl)
    (h1 : (assignEach [.Name x p] X.env).map (·.2) = [assign (.Name x p) X.env] := by rfl) : PMS X W (.Assign [.Name x p] e pos) (gAsg i G) := ⟨PS.wk (ps_asg h.pe hg hs hw h1) fun D σ H q => (tS.after (ρ := ρI (gx X)) q).mono fun v H1 z => by
  obtain ⟨d, Fb, μ, m, r, hv, R, g, k⟩ := z
  rw [setIK_eq] at g
  cases g
  exact k _ μ H1 (Nx.refl _ _ _) (R.put hv)⟩
/-! ### targets -/
inductive Tg where
  | one (i : Nat)
  | tup (ts : List Tg)
end
mutual
def Tg.is : Tg → List Nat
  | .one i => [i]
  | .tup ts => Tgs.is ts
def Tgs.is : List Tg → List Nat
  | [] => []
  | t :: ts => t.is ++ Tgs.is ts
end
mutual
def gTG (K : Fr0) : Tg → TG
  | .one i => gName i
  | .tup ts => fun v σ H Q => L2.gTup K ts.length (gTGs K ts) v σ H Q ∨ L2.gLst K ts.length (gTGs K ts) v σ H Q
def gTGs (K : Fr0) : List Tg → TGs
  | [] => gNil
  | t :: ts => L2.gCons (gTG K t) (gTGs K ts)
end
mutual
def tTG : Tg → D → Ms → Option Ms
  | .one i, d, m => setIK i (.d d) m some
  | .tup ts, .tuple ds, m => tTGs ts ds m
  | .tup ts, .list ds, m => tTGs ts ds m
  | .tup _, _, _ => none
def tTGs : List Tg → List D → Ms → Option Ms
  | [], [], m => some m
  | t :: ts, d :: ds, m => (tTG t d m).bind fun m => tTGs ts ds m
  | _, _, _ => none
end
/-- the slots of is have been written, the others are as they were -/
def SetsTo (is : List Nat) (σ σ' : L2.St) : Prop := ∀ vs : List Nat, (∀ i ∈ is, i ∈ vs) → L2.wipe σ' vs = L2.wipe σ vs
theorem SetsTo.one {i : Nat} {σ : L2.St} {x : Option V} : SetsTo [i] σ (σ.set i x) := fun vs h => PD.wipe_set (h i List.mem_cons_self)
theorem SetsTo.trans {is js : List Nat} {σ σ1 σ2 : L2.St} (a : SetsTo is σ σ1) (b : SetsTo js σ1 σ2) : SetsTo (is ++ js) σ σ2 := fun vs h => (b vs fun i hi => h i (List.mem_append_right _ hi)).trans (a vs fun i hi => h i (List.mem_append_left _ hi))
section
variable {G : Gx} {Fb : AS} {μ : List Addr} {H : Hp}
mutual
theorem tTG_s : ∀ {t : Tg} {d : D} {m m' : Ms}, tTG t d m = some m' → m'.s = m.s
  | .one i, d, m, m', h => by
    replace h := (setIK_eq i (.d d) m some).symm.trans h
    cases h; rfl
  | .tup ts, .tuple ds, m, m', h => tTGs_s (ts := ts) (ds := ds) h
  | .tup ts, .list ds, m, m', h => tTGs_s (ts := ts) (ds := ds) h
  | .tup ts, .none, m, m', h => by cases h
  | .tup ts, .bool _, m, m', h => by cases h
  | .tup ts, .int _, m, m', h => by cases h
  | .tup ts, .str _, m, m', h => by cases h
  | .tup ts, .dict _, m, m', h => by cases h
theorem tTGs_s : ∀ {ts : List Tg} {ds : List D} {m m' : Ms}, tTGs ts ds m = some m' → m'.s = m.s
  | [], [], m, m', h => by cases h; rfl
  | t :: ts, d :: ds, m, m', h => by
    obtain ⟨m1, h1, h2⟩ := Option.bind_eq_some_iff.mp h
    rw [tTGs_s h2, tTG_s h1]
  | [], _ :: _, _, _, h => by cases h
  | _ :: _, [], _, _, h => by cases h
end
mutual
theorem gTG_read : ∀ {t : Tg} {v : V} {d : D} {m m' : Ms} {σ : L2.St} {Q : L2.St → Hp → Prop}, MR G N Fb μ H σ m → Dn G.K (U (Lo μ m.s) Fb) H v d → tTG t d m = some m' → (∀ σ', SetsTo t.is σ σ' → MR G N Fb μ H σ' m' → Q σ' H) → gTG G.K t v σ H Q
  | .one i, v, d, m, m', σ, Q, R, hv, h, k => by
    replace h := (setIK_eq i (.d d) m some).symm.trans h
    cases h
    exact k _ .one (R.put (x := .d d) hv)
  | .tup ts, v, .tuple ds, m, m', σ, Q, R, hv, h, k => by
    obtain ⟨a, vs, rfl, ha, da⟩ := hv.tupInv
    have ⟨hl, r⟩ := gTGs_read (ts := ts) R da h k
    exact .inl ⟨a, vs, rfl, ha, hl, r⟩
  | .tup ts, v, .list ds, m, m', σ, Q, R, hv, h, k => by
    obtain ⟨a, vs, rfl, na, ha, da⟩ := hv.lstInv
    have ⟨hl, r⟩ := gTGs_read (ts := ts) R da h k
    exact .inr ⟨a, vs, rfl, SqL.of ha, hl, r⟩
  | .tup ts, _, .none, m, m', _, _, _, _, h, _ => by cases h
  | .tup ts, _, .bool _, m, m', _, _, _, _, h, _ => by cases h
  | .tup ts, _, .int _, m, m', _, _, _, _, h, _ => by cases h
  | .tup ts, _, .str _, m, m', _, _, _, _, h, _ => by cases h
  | .tup ts, _, .dict _, m, m', _, _, _, _, h, _ => by cases h
theorem gTGs_read : ∀ {ts : List Tg} {vs : List V} {ds : List D} {m m' : Ms} {σ : L2.St} {Q : L2.St → Hp → Prop}, MR G N Fb μ H σ m → DnA G.K (U (Lo μ m.s) Fb) H vs ds → tTGs ts ds m = some m' → (∀ σ', SetsTo (Tgs.is ts) σ σ' → MR G N Fb μ H σ' m' → Q σ' H) → vs.length = ts.length ∧ gTGs G.K ts vs σ H Q
  | [], vs, [], m, m', σ, Q, R, hv, h, k => by
    cases hv
    cases h
    exact ⟨rfl, rfl, k σ (fun _ _ => rfl) R⟩
  | t :: ts, vs, d :: ds, m, m', σ, Q, R, hv, h, k => by
    cases hv with
    | cons a b =>
      obtain ⟨m1, h1, h2⟩ := Option.bind_eq_some_iff.mp h
      have hl : _ := DnA.length b
      have hd : ds.length = ts.length := by
        have : ∀ {ts : List Tg} {ds : List D} {m m' : Ms}, tTGs ts ds m = some m' → ds.length = ts.length := by
          intro ts
          induction ts with
          | nil => intro ds m m' h; cases ds <;> first | rfl | cases h
          | cons t ts ih =>
            intro ds m m' h
            cases ds with
            | nil => cases h
            | cons d ds =>
              obtain ⟨m1, h1, h2⟩ := Option.bind_eq_some_iff.mp h
              simp [ih h2]
        exact this h2
      refine ⟨by simp [hl, hd], _, _, rfl, gTG_read (t := t) R a h1 fun σ1 s1 R1 => ?_⟩
      exact (gTGs_read (ts := ts) R1 (by rw [tTG_s h1]; exact b) h2 fun σ2 s2 R2 => k σ2 (s1.trans s2) R2).2
  | [], _, _ :: _, _, _, _, _, _, _, h, _ => by cases h
  | _ :: _, _, [], _, _, _, _, _, _, h, _ => by cases h
end
end
section
variable {X : Cx} {W : WN}
theorem pg_one {i : Nat} {x : Str} {p : Pos} (h : PG X (.Name x p) (gName i)) : PG X (.Name x p) (gTG X.K (.one i)) := h
theorem pgs_nil' : PGs X [] (gTGs X.K []) := pgs_nil
theorem pgs_cons' {e : Expr} {es : List Expr} {t : Tg} {ts : List Tg} (h : PG X e (gTG X.K t)) (hs : PGs X es (gTGs X.K ts)) (h1 : (assignEach (e :: es) X.env).map (·.2) = assign e X.env :: (assignEach es X.env).map (·.2) := by rfl) : PGs X (e :: es) (gTGs X.K (t :: ts)) := pgs_cons h hs h1
theorem pg_tl {es : List Expr} {k : Nat} {pos : Pos} {ts : List Tg} (hc : X.calm = true) (h : PGs X es (gTGs X.K ts)) (h1 : (assignEach es X.env).length = ts.length := by rfl) (h2 : List.findIdx? (fun x => x.fst) (assignEach es X.env) = none := by rfl) : PG X (.Tuple es k pos) (gTG X.K (.tup ts)) :=
  ⟨fun pins s σ H v u Q I r q => q.elim (fun q => (pg_tup hc h h1 h2).run pins s σ H v u Q I r q) fun q => (pg_lst hc h h1 h2).run pins s σ H v u Q I r q⟩
def gAsgT (t : Tg) (G : GE) : Gs := gS G fun d m => (tTG t d m).map .nx
theorem pms_asgT {tg e : Expr} {pos : Pos} {t : Tg} {G : GE} (h : PMD X W e G) (hg : PG X tg (gTG X.K t)) (hs : swapsWithSole [tg] e pos.line X.env = pure false := by rfl) (hw : swappedStores [tg] e X.env = pure none := by rfl)
    (h1 : (assignEach [tg] X.env).map (·.2) = [assign tg X.env] := by rfl) : PMS X W (.Assign [tg] e pos) (gAsgT t G) := ⟨PS.wk (ps_asg h.pe hg hs hw h1) fun D σ H q => (tS.after (ρ := ρD X.K) q).mono fun v H1 z => by
  obtain ⟨d, Fb, μ, m, r, hv, R, g, k⟩ := z
  obtain ⟨m1, h1, rfl⟩ := Option.map_eq_some_iff.mp g
  exact gTG_read R hv h1 fun σ' _ R' => k _ μ H1 (by rw [tTG_s h1]; exact Nx.refl _ _ _) R'⟩
/-- a, b = e1, e2 -/
def setIs : List Nat → List Im → Ms → Option Ms
  | [], [], m => some m
  | i :: is, x :: xs, m => setIs is xs (setI i x m)
  | _, _, _ => none
def gPar (is : List Nat) (G : GL) : Gs := gS G fun xs m => (setIs is xs m).map .nx
theorem pms_par {i j : Nat} {x y : Str} {a b : Expr} {px py pt pos pos2 : Pos} {kt k2 : Nat} {G : GL} (h : PML X W [a, b] G) (hp : ∀ {ta : TA}, PA X [a, b] ta → PS X (.Assign [.Tuple [.Name x px, .Name y py] kt pt] (.Tuple [a, b] k2 pos2) pos) (tPar i j ta)) :
    PMS X W (.Assign [.Tuple [.Name x px, .Name y py] kt pt] (.Tuple [a, b] k2 pos2) pos) (gPar [i, j] G) := ⟨PS.wk (hp h.pa) fun D σ H q => (tS.after (ρ := ρL (gx X)) q).mono fun vs H1 z => by
  obtain ⟨xs, Fb, μ, m, r, hv, R, g, k⟩ := z
  obtain ⟨m1, h1, rfl⟩ := Option.map_eq_some_iff.mp g
  match xs, vs, hv, h1 with
  | [x1, x2], [v1, v2], .cons a1 (.cons a2 .nil), h1 =>
    cases h1
    exact ⟨v1, v2, rfl, k _ μ H1 (Nx.refl _ _ _) ((R.put a1).put a2)⟩⟩
theorem pms_par3 {i j l : Nat} {x y z : Str} {a b c : Expr} {px py pz pt pos pos2 : Pos} {kt k2 : Nat} {G : GL} (h : PML X W [a, b, c] G) (hp : ∀ {ta : TA}, PA X [a, b, c] ta → PS X (.Assign [.Tuple [.Name x px, .Name y py, .Name z pz] kt pt] (.Tuple [a, b, c] k2 pos2) pos) (tPar3 i j l ta)) :
    PMS X W (.Assign [.Tuple [.Name x px, .Name y py, .Name z pz] kt pt] (.Tuple [a, b, c] k2 pos2) pos) (gPar [i, j, l] G) := ⟨PS.wk (hp h.pa) fun D σ H q => (tS.after (ρ := ρL (gx X)) q).mono fun vs H1 z => by
  obtain ⟨xs, Fb, μ, m, r, hv, R, g, k⟩ := z
  obtain ⟨m1, h1, rfl⟩ := Option.map_eq_some_iff.mp g
  match xs, vs, hv, h1 with
  | [x1, x2, x3], [v1, v2, v3], .cons a1 (.cons a2 (.cons a3 .nil)), h1 =>
    cases h1
    exact ⟨v1, v2, v3, rfl, k _ μ H1 (Nx.refl _ _ _) (((R.put a1).put a2).put a3)⟩⟩
end
end PM
namespace PM
open PySem PySem.Spec PyProof.Rows L2
open PD (D AS Fr0 U Dn DnA Mv ExIs All2 NT nt_lst nt_tup nt_xd nt_ext nt_rng mv_grow upd_grow sz RCd)
/-! ### keys -/
mutual
def kq : D → D → Bool
  | .int i, .int j => i == j
  | .int i, .bool b => i == (if b then 1 else 0)
  | .bool a, .int j => (if a then 1 else 0) == j
  | .bool a, .bool b => a == b
  | .str x, .str y => decide (x = y)
  | .none, .none => true
  | .tuple xs, .tuple ys => kqs xs ys
  | _, _ => false
def kqs : List D → List D → Bool
  | [], [] => true
  | x :: xs, y :: ys => kq x y && kqs xs ys
  | _, _ => false
end
theorem numB (a : Bool) (i : Int) : ((if a then 1 else 0 : Int) == i) = true ↔ NestedKey.num (if a then 1 else 0) = NestedKey.num i := by
  constructor
  · intro h; rw [eq_of_beq h]
  · intro h; injection h with h; rw [h]; exact beq_self_eq_true _
mutual
theorem kq_iff : ∀ {d e : D} {k l : NestedKey}, nestK d = some k → nestK e = some l → (kq d e = true ↔ k = l)
  | .int i, e, k, l, h1, h2 => by
    cases h1
    cases e with
    | bool b =>
      cases h2
      show (i == (if _ then 1 else 0)) = true ↔ _
      constructor
      · intro h; rw [eq_of_beq h]
      · intro h; injection h with h; rw [h]; exact beq_self_eq_true _
    | tuple ys =>
      obtain ⟨ks, _, rfl⟩ := Option.map_eq_some_iff.mp (show (nestKs ys).map NestedKey.tup = some l from h2)
      simp [kq]
    | list _ => cases h2
    | dict _ => cases h2
    | _ => cases h2; simp [kq]
  | .bool a, e, k, l, h1, h2 => by
    cases h1
    cases e with
    | bool b =>
      cases h2
      cases a <;> cases b <;> simp [kq]
    | int i =>
      cases h2
      exact numB a _
    | tuple ys =>
      obtain ⟨ks, _, rfl⟩ := Option.map_eq_some_iff.mp (show (nestKs ys).map NestedKey.tup = some l from h2)
      simp [kq]
    | list _ => cases h2
    | dict _ => cases h2
    | _ => cases h2; simp [kq]
  | .str x, e, k, l, h1, h2 => by
    cases h1
    cases e with
    | tuple ys =>
      obtain ⟨ks, _, rfl⟩ := Option.map_eq_some_iff.mp (show (nestKs ys).map NestedKey.tup = some l from h2)
      simp [kq]
    | list _ => cases h2
    | dict _ => cases h2
    | _ => cases h2; simp [kq]
  | .none, e, k, l, h1, h2 => by
    cases h1
    cases e with
    | tuple ys =>
      obtain ⟨ks, _, rfl⟩ := Option.map_eq_some_iff.mp (show (nestKs ys).map NestedKey.tup = some l from h2)
      simp [kq]
    | list _ => cases h2
    | dict _ => cases h2
    | _ => cases h2; simp [kq]
  | .tuple xs, e, k, l, h1, h2 => by
    obtain ⟨ks, h3, rfl⟩ := Option.map_eq_some_iff.mp (show (nestKs xs).map NestedKey.tup = some k from h1)
    cases e with
    | list _ => cases h2
    | dict _ => cases h2
    | tuple ys =>
      obtain ⟨ls, h4, rfl⟩ := Option.map_eq_some_iff.mp (show (nestKs ys).map NestedKey.tup = some l from h2)
      show kqs xs _ = true ↔ _
      rw [kqs_iff h3 h4]
      constructor
      · intro h; rw [h]
      · intro h; injection h
    | _ => cases h2; simp [kq]
  | .list _, _, _, _, h1, _ => by cases h1
  | .dict _, _, _, _, h1, _ => by cases h1
theorem kqs_iff : ∀ {d e : List D} {k l : List NestedKey}, nestKs d = some k → nestKs e = some l → (kqs d e = true ↔ k = l)
  | [], [], k, l, h1, h2 => by cases h1; cases h2; simp [kqs]
  | [], y :: ys, k, l, h1, h2 => by
    cases h1
    obtain ⟨a, _, h2⟩ := Option.bind_eq_some_iff.mp h2
    obtain ⟨b, _, rfl⟩ := Option.map_eq_some_iff.mp h2
    simp [kqs]
  | x :: xs, [], k, l, h1, h2 => by
    cases h2
    obtain ⟨a, _, h1⟩ := Option.bind_eq_some_iff.mp h1
    obtain ⟨b, _, rfl⟩ := Option.map_eq_some_iff.mp h1
    simp [kqs]
  | x :: xs, y :: ys, k, l, h1, h2 => by
    obtain ⟨a, e1, h1⟩ := Option.bind_eq_some_iff.mp h1
    obtain ⟨b, e2, rfl⟩ := Option.map_eq_some_iff.mp h1
    obtain ⟨c, e3, h2⟩ := Option.bind_eq_some_iff.mp h2
    obtain ⟨f, e4, rfl⟩ := Option.map_eq_some_iff.mp h2
    show (kq x y && kqs xs ys) = true ↔ _
    rw [Bool.and_eq_true, kq_iff e1 e3, kqs_iff e2 e4]
    constructor
    · rintro ⟨h, h'⟩; rw [h, h']
    · intro h; injection h with h h'; exact ⟨h, h'⟩
end
theorem leaf_nest {d : D} {l : Leaf} (h : leafK d = some l) : ∃ k, nestK d = some k ∧ (match l with | .none => k = .none | .num i => k = .num i | .text x => k = .text x) := by
  cases d <;> simp only [leafK] at h <;> cases h <;> exact ⟨_, rfl, rfl⟩
theorem lq_iff {d e : D} {k l : Leaf} (h1 : leafK d = some k) (h2 : leafK e = some l) : kq d e = true ↔ k = l := by
  obtain ⟨a, n1, z1⟩ := leaf_nest h1
  obtain ⟨b, n2, z2⟩ := leaf_nest h2
  rw [kq_iff n1 n2]
  cases k <;> cases l <;> (dsimp only at z1 z2; subst z1 z2; simp)
def findD (d : D) (kvs : List (D × Im)) : Option Im := (kvs.find? fun kv => kq kv.1 d).map (·.2)
def putD (d : D) (x : Im) (kvs : List (D × Im)) : List (D × Im) := if (kvs.any fun kv => kq kv.1 d) then kvs.map fun kv => if kq kv.1 d = true then (kv.1, x) else kv else kvs ++ [(d, x)]
section
variable {α β : Type} {R R' : α → β → Prop} {p : α → Bool} {q : β → Bool}
theorem all2_find : ∀ {as : List α} {bs : List β}, All2 R as bs → (∀ a b, R a b → p a = q b) → (as.find? p = none ∧ bs.find? q = none) ∨ ∃ a b, as.find? p = some a ∧ bs.find? q = some b ∧ R a b
  | _, _, .nil, _ => .inl ⟨rfl, rfl⟩
  | a :: as, b :: bs, .cons h t, hp => by
    rw [List.find?_cons, List.find?_cons, ← hp a b h]
    cases p a with
    | true => exact .inr ⟨a, b, rfl, rfl, h⟩
    | false => exact all2_find t hp
theorem all2_any : ∀ {as : List α} {bs : List β}, All2 R as bs → (∀ a b, R a b → p a = q b) → as.any p = bs.any q
  | _, _, .nil, _ => rfl
  | a :: as, b :: bs, .cons h t, hp => by
    rw [List.any_cons, List.any_cons, hp a b h, all2_any t hp]
theorem all2_map {α' β' : Type} {R' : α' → β' → Prop} {f : α → α'} {g : β → β'} : ∀ {as : List α} {bs : List β}, All2 R as bs → (∀ a b, R a b → R' (f a) (g b)) → All2 R' (as.map f) (bs.map g)
  | _, _, .nil, _ => .nil
  | _, _, .cons h t, hf => .cons (hf _ _ h) (all2_map t hf)
theorem all2_app : ∀ {as as' : List α} {bs bs' : List β}, All2 R as bs → All2 R as' bs' → All2 R (as ++ as') (bs ++ bs')
  | _, _, _, _, .nil, h => h
  | _, _, _, _, .cons h t, h' => .cons h (all2_app t h')
theorem find_any {p : α → Bool} : ∀ {as : List α}, as.any p = (as.find? p).isSome
  | [] => rfl
  | a :: as => by
    rw [List.any_cons, List.find?_cons]
    cases p a with
    | true => rfl
    | false => rw [Bool.false_or]; exact find_any
end
/-! ### at the heap -/
section
variable {X : Cx} {pins : List (Addr × Obj)} {σ : L2.St} {H : Hp} {s : Shared}
def lfV : V → Option Leaf
  | .int i => some (.num i)
  | .bl b => some (.num (if b then 1 else 0))
  | .str x => some (.text x)
  | .non => some .none
  | _ => none
theorem lfV_is {P : Program} {w : World} {v : V} {u : Value} {l : Leaf} (h : lfV v = some l) (r : RelV v u) : (leafKind P w).is l u = true := by
  cases v <;> simp only [lfV] at h <;> cases h
  · obtain rfl : u = .none := r
    rfl
  · rename_i b
    obtain rfl : u = .bool b := r
    cases b <;> rfl
  · obtain ⟨t, rfl⟩ : ∃ t, u = .int _ t := r
    show (Leaf.num _).isOf (.int _ t) = true
    unfold Leaf.isOf
    simp
  · obtain ⟨t, rfl⟩ : ∃ t, u = .str _ t := r
    show (Leaf.text _).isOf (.str _ t) = true
    unfold Leaf.isOf Value.isStrOf
    simp
theorem leaf_lfV {K : Fr0} {F : AS} {H : Hp} {v : V} {d : D} {l : Leaf} (h : Dn K F H v d) (e : leafK d = some l) : lfV v = some l := by
  cases h <;> simp only [leafK] at e <;> first | exact e | cases e
mutual
theorem nest_is (I : Inv X pins σ H s) {F : AS} : ∀ {d : D} {v : V} {u : Value} {k : NestedKey}, Dn X.K F H v d → nestK d = some k → RelV v u → NestedIs s.heap k u
  | .none, _, _, _, h, e, r => by
    cases h; cases e
    obtain rfl : _ = Value.none := r
    exact .none
  | .bool b, _, _, _, h, e, r => by
    cases h; cases e
    obtain rfl : _ = Value.bool b := r
    exact .bool rfl
  | .int i, _, _, _, h, e, r => by
    cases h; cases e
    obtain ⟨t, rfl⟩ : ∃ t, _ = Value.int i t := r
    exact .int i t
  | .str x, _, _, _, h, e, r => by
    cases h; cases e
    obtain ⟨t, rfl⟩ : ∃ t, _ = Value.str x t := r
    exact .text x t
  | .tuple ds, v, u, k, h, e, r => by
    obtain ⟨ks, h3, rfl⟩ := Option.map_eq_some_iff.mp (show (nestKs ds).map NestedKey.tup = some k from e)
    obtain ⟨a, xs, rfl, sq, da⟩ := h.tupInv
    obtain rfl : u = Value.ref a := r
    obtain ⟨its, rv, ⟨o, h1, h2, n, h4⟩, _⟩ := I.tuple sq
    exact .tup h1 h2 h4 (nest_all I da h3 rv)
  | .list _, _, _, _, _, e, _ => by cases e
  | .dict _, _, _, _, _, e, _ => by cases e
theorem nest_all (I : Inv X pins σ H s) {F : AS} : ∀ {ds : List D} {vs : List V} {us : List Value} {ks : List NestedKey}, DnA X.K F H vs ds → nestKs ds = some ks → Vals vs us → NestedAll s.heap ks us
  | [], _, _, _, h, e, r => by
    cases h; cases e; cases r
    exact .nil
  | d :: ds, _, _, _, h, e, r => by
    cases h with
    | cons h1 h2 =>
      obtain ⟨k, e1, e⟩ := Option.bind_eq_some_iff.mp e
      obtain ⟨ks, e2, rfl⟩ := Option.map_eq_some_iff.mp e
      cases r with
      | cons r1 r2 => exact .cons (nest_is I h1 e1 r1) (nest_all I h2 e2 r2)
end
/-- a nested key's value is an address -/
theorem nest_ref {K : Fr0} {F : AS} {v : V} {d : D} {k : NestedKey} (h : Dn K F H v d) (e : nestK d = some k) (nl : leafK d = none) : ∃ a, v = .ref a := by
  cases h with
  | lst _ _ _ => exact ⟨_, rfl⟩
  | tup _ _ => exact ⟨_, rfl⟩
  | _ => cases nl
theorem ext_ok {P : Program} {w : World} {h : Heap} {a : Addr} {q : Heap → Prop} (h1 : q h) (h2 : ∃ o, h.get? a = some o) (h3 : ∀ h1 h2 : Heap, q h1 → (∀ o, h1.get? a = some o → h2.get? a = some o) → q h2) : ObjOk P w H h a (.ext q) := ⟨h1, h2, h3⟩
theorem lf_ok {P : Program} {w : World} {h : Heap} {a : Addr} {ls : List (Leaf × V)} {us : List (Leaf × Value)} (hs : (a == sysModules) = false) (hr : All2 (fun p q => p.1 = q.1 ∧ RelV p.2 q.2) ls us) (hd : h.DictOf (leafKind P w) a us) : ObjOk P w H h a (LfO P w a ls) := by
  refine ext_ok ⟨hs, us, hr, hd⟩ ?_ fun h1 h2 ⟨q1, us', q2, q3⟩ k => ⟨q1, us', q2, q3.at k⟩
  obtain ⟨o, es, ep, e, _⟩ := hd
  exact ⟨o, e⟩
theorem nt_ok {P : Program} {w : World} {h : Heap} {a : Addr} {xs : List (NestedKey × Addr × V)} {ys : List (NestedKey × Addr × Value)} (hs : (a == sysModules) = false) (hr : All2 (fun p q => p.1 = q.1 ∧ p.2.1 = q.2.1 ∧ RelV p.2.2 q.2.2) xs ys) (hd : h.DictOfH (nestedKind P w) a ys) : ObjOk P w H h a (NtO P w a xs) := by
  obtain ⟨o, es, ep, e, q1, q2, q3, q4, q5⟩ := hd
  exact ext_ok ⟨hs, ys, hr, ⟨o, es, ep, e, q1, q2, q3⟩, q5⟩ ⟨o, e⟩ fun h1 h2 ⟨q1, us', q2, ⟨o, es, ep, e, z⟩, q4⟩ k => ⟨q1, us', q2, ⟨o, es, ep, k _ e, z⟩, q4⟩
theorem lf_of {P : Program} {w : World} {h : Heap} {a : Addr} {ls : List (Leaf × V)} (ho : ObjOk P w H h a (LfO P w a ls)) : (a == sysModules) = false ∧ ∃ us, All2 (fun p q => p.1 = q.1 ∧ RelV p.2 q.2) ls us ∧ h.DictOf (leafKind P w) a us := ho.1
/-- the keys of a dict with tuples for keys, told by data -/
def KeysAt (K : Fr0) (F : AS) (H : Hp) (xs : List (NestedKey × Addr × V)) : Prop := ∀ x ∈ xs, ∃ d, nestK d = some x.1 ∧ x.1.depth ≤ 8 ∧ Dn K F H (.ref x.2.1) d
def NtAt (P : Program) (w : World) (H : Hp) (a : Addr) (xs : List (NestedKey × Addr × V)) : Prop := H a = some (NtO P w a xs) ∨ (xs = [] ∧ H a = some (LfO P w a []))
theorem nt_of {F : AS} {a : Addr} {xs : List (NestedKey × Addr × V)} (I : Inv X pins σ H s) (h : NtAt X.prog X.w H a xs) (hk : KeysAt X.K F H xs) : (a == sysModules) = false ∧ ∃ ys, All2 (fun p q => p.1 = q.1 ∧ p.2.1 = q.2.1 ∧ RelV p.2.2 q.2.2) xs ys ∧ s.heap.DictOfH (nestedKind X.prog X.w) a ys := by
  rcases h with h | ⟨rfl, h⟩
  · obtain ⟨hs, ys, hr, ⟨o, es, ep, e, q1, q2, q3⟩, q5⟩ := (show _ ∧ _ from I.hok a _ h).1
    refine ⟨hs, ys, hr, o, es, ep, e, q1, q2, q3, fun y hy => ?_, q5⟩
    obtain ⟨i, hi⟩ := List.getElem?_of_mem hy
    have : ∀ {xs : List (NestedKey × Addr × V)} {ys : List (NestedKey × Addr × Value)} {i : Nat} {y}, All2 (fun p q => p.1 = q.1 ∧ p.2.1 = q.2.1 ∧ RelV p.2.2 q.2.2) xs ys → ys[i]? = some y → ∃ x ∈ xs, x.1 = y.1 ∧ x.2.1 = y.2.1 := by
      intro xs ys i y h
      induction h generalizing i with
      | nil => intro e; simp at e
      | cons h t ih =>
        intro e
        cases i with
        | zero => simp at e; subst e; exact ⟨_, List.mem_cons_self, h.1, h.2.1⟩
        | succ i =>
          obtain ⟨x, hx, z⟩ := ih (by simpa using e)
          exact ⟨x, List.mem_cons_of_mem _ hx, z⟩
    obtain ⟨x, hx, e1, e2⟩ := this hr hi
    obtain ⟨d, n1, n2, n3⟩ := hk x hx
    rw [← e1, ← e2]
    exact ⟨nest_is I n3 n1 rfl, n2⟩
  · obtain ⟨hs, us, hr, o, es, ep, e, q1, q2, q3, q4, q5⟩ := lf_of (I.hok a _ h)
    cases hr
    have he : es.toList = [] := by
      generalize es.toList = z at q4
      cases q4; rfl
    exact ⟨hs, [], .nil, o, es, ep, e, q1, q2, by simpa using he, (fun y hy => by cases hy), List.nodup_nil⟩
end
end PM
namespace PM
open PySem PySem.Spec PyProof.Rows L2
open PD (D AS Fr0 U Dn DnA Mv ExIs All2 NT nt_lst nt_tup nt_xd nt_ext nt_rng mv_grow upd_grow sz RCd)
/-! ### what a key may be here -/
mutual
def kOk : Nat → D → Bool
  | _, .int _ => true
  | _, .bool _ => true
  | _, .str _ => true
  | _, .none => true
  | n + 1, .tuple ds => kOks n ds
  | _, _ => false
def kOks : Nat → List D → Bool
  | _, [] => true
  | n, d :: ds => kOk n d && kOks n ds
end
mutual
theorem kOk_ok : ∀ {n : Nat} {d : D}, kOk n d = true → ∃ k, nestK d = some k ∧ k.depth ≤ n
  | n, .int i, _ => ⟨.num i, rfl, by rw [NestedKey.depth.eq_2]; omega⟩
  | n, .bool b, _ => ⟨.num (if b then 1 else 0), rfl, by rw [NestedKey.depth.eq_2]; omega⟩
  | n, .str x, _ => ⟨.text x, rfl, by rw [NestedKey.depth.eq_3]; omega⟩
  | n, .none, _ => ⟨.none, rfl, by rw [NestedKey.depth.eq_1]; omega⟩
  | n + 1, .tuple ds, h => by
    obtain ⟨ks, h1, h2⟩ := kOks_ok (n := n) (ds := ds) h
    exact ⟨.tup ks, by show (nestKs ds).map NestedKey.tup = _; rw [h1]; rfl, by rw [NestedKey.depth.eq_4]; omega⟩
  | 0, .tuple ds, h => by cases h
  | n, .list ds, h => by cases n <;> cases h
  | n, .dict ds, h => by cases n <;> cases h
theorem kOks_ok : ∀ {n : Nat} {ds : List D}, kOks n ds = true → ∃ ks, nestKs ds = some ks ∧ NestedKey.depthAll ks ≤ n
  | n, [], _ => ⟨[], rfl, by rw [NestedKey.depthAll.eq_1]; omega⟩
  | n, d :: ds, h => by
    have h : (kOk n d && kOks n ds) = true := h
    rw [Bool.and_eq_true] at h
    obtain ⟨k, h1, h2⟩ := kOk_ok h.1
    obtain ⟨ks, h3, h4⟩ := kOks_ok h.2
    exact ⟨k :: ks, by show ((nestK d).bind fun k => (nestKs ds).map (k :: ·)) = _; rw [h1, h3]; rfl, by rw [NestedKey.depthAll.eq_2]; omega⟩
end
def isTup : D → Bool
  | .tuple _ => true
  | _ => false
def keyOk (d : D) (kvs : List (D × Im)) : Bool := kOk 8 d && match kvs with
  | [] => true
  | kv :: _ => isTup kv.1 == isTup d
theorem leaf_or {d : D} {k : NestedKey} (h : nestK d = some k) : (isTup d = false ∧ ∃ l, leafK d = some l) ∨ (isTup d = true ∧ leafK d = none) := by
  cases d with
  | list _ => cases h
  | dict _ => cases h
  | tuple _ => exact .inr ⟨rfl, rfl⟩
  | _ => exact .inl ⟨rfl, _, rfl⟩
theorem leaf_tup {d : D} {l : Leaf} (h : leafK d = some l) : isTup d = false := by
  cases d <;> first | rfl | cases h
theorem all2_comp {α β γ : Type} {R : α → β → Prop} {R' : β → γ → Prop} : ∀ {as : List α} {bs : List β} {cs : List γ}, All2 R as bs → All2 R' bs cs → All2 (fun a c => ∃ b, R a b ∧ R' b c) as cs
  | _, _, _, .nil, .nil => .nil
  | _, _, _, .cons h t, .cons h' t' => .cons ⟨_, h, h'⟩ (all2_comp t t')
/-- how a dict stands: numbers, texts, truth values for keys, or tuples -/
theorem dc_cases {G : Gx} {μ : List Addr} {F : AS} {H : Hp} {a : Addr} {kvs : List (D × Im)} {d : D} (h : DcR G μ F H a kvs) (hk : keyOk d kvs = true) :
    (∃ ls l, leafK d = some l ∧ H a = some (LfO G.P G.w a ls) ∧ All2 (fun kv l => leafK kv.1 = some l.1 ∧ ImR G μ F H l.2 kv.2) kvs ls) ∨
    (∃ xs k, leafK d = none ∧ nestK d = some k ∧ k.depth ≤ 8 ∧ NtAt G.P G.w H a xs ∧ KeysAt G.K F H xs ∧ All2 (fun kv x => nestK kv.1 = some x.1 ∧ x.1.depth ≤ 8 ∧ Dn G.K F H (.ref x.2.1) kv.1 ∧ ImR G μ F H x.2.2 kv.2) kvs xs) := by
  unfold keyOk at hk
  rw [Bool.and_eq_true] at hk
  obtain ⟨k, h1, h2⟩ := kOk_ok hk.1
  rcases h with ⟨ls, e, q⟩ | ⟨xs, e, ne, q⟩
  · rcases leaf_or h1 with ⟨t, l, hl⟩ | ⟨t, hl⟩
    · exact .inl ⟨ls, l, hl, e, q⟩
    · cases q with
      | nil => exact .inr ⟨[], k, hl, h1, h2, .inr ⟨rfl, e⟩, (fun x hx => by cases hx), .nil⟩
      | cons z _ =>
        have := hk.2
        dsimp only at this
        rw [t, leaf_tup z.1] at this
        cases this
  · have ka : KeysAt G.K F H xs := by
      intro x hx
      have : ∀ {kvs : List (D × Im)} {xs : List (NestedKey × Addr × V)}, All2 (fun kv x => nestK kv.1 = some x.1 ∧ x.1.depth ≤ 8 ∧ Dn G.K F H (.ref x.2.1) kv.1 ∧ ImR G μ F H x.2.2 kv.2) kvs xs → ∀ x ∈ xs, ∃ d, nestK d = some x.1 ∧ x.1.depth ≤ 8 ∧ Dn G.K F H (.ref x.2.1) d := by
        intro kvs xs h
        induction h with
        | nil => intro x hx; cases hx
        | cons z t ih =>
          intro x hx
          rcases List.mem_cons.mp hx with rfl | hx
          · exact ⟨_, z.1, z.2.1, z.2.2.1⟩
          · exact ih x hx
      exact this q x hx
    rcases leaf_or h1 with ⟨t, l, hl⟩ | ⟨t, hl⟩
    · cases q with
      | nil =>
        exact (ne rfl).elim
      | @cons kv x _ _ z _ =>
        have := hk.2
        dsimp only at this
        have kt : isTup kv.1 = true := by
          rcases leaf_or z.1 with ⟨_, l', hl'⟩ | ⟨t', _⟩
          · have w := leaf_lfV z.2.2.1 hl'
            cases w
          · exact t'
        rw [t, kt] at this
        cases this
    · exact .inr ⟨xs, k, hl, h1, h2, .inl e, ka, q⟩
/-! ### the rules -/
section
variable {X : Cx}
/-- key in d -/
def rDIn (X : Cx) (neg : Bool) : R2 := fun x y H Q => ∃ (μ : List Addr) (F : AS) (kvs : List (D × Im)) (a : Addr) (d : D), y = .ref a ∧ DcR (gx X) μ F H a kvs ∧ Dn X.K F H x d ∧ keyOk d kvs = true ∧ Q (.bl (xor neg (findD d kvs).isSome)) H
theorem tok_I {pins : List (Addr × Obj)} {σ : L2.St} {H : Hp} {s : Shared} {n : Nat} (I : Inv X pins σ H s) : Inv X pins σ H { s with toks := n } := I.kept fun _ _ h => h
theorem find_leaf {G : Gx} {μ : List Addr} {F : AS} {H : Hp} {kvs : List (D × Im)} {ls : List (Leaf × V)} {us : List (Leaf × Value)} {d : D} {l : Leaf} (hl : leafK d = some l) (q : All2 (fun kv l => leafK kv.1 = some l.1 ∧ ImR G μ F H l.2 kv.2) kvs ls) (hr : All2 (fun p q => p.1 = q.1 ∧ RelV p.2 q.2) ls us) :
    (findD d kvs = none ∧ valueAt us l = none) ∨ ∃ z v u, findD d kvs = some z ∧ valueAt us l = some u ∧ ImR G μ F H v z ∧ RelV v u := by
  have c := all2_comp q hr
  unfold findD valueAt
  rcases all2_find (p := fun kv : D × Im => kq kv.1 d) (q := fun u : Leaf × Value => decide (u.1 = l)) c (fun kv u ⟨p, h1, h2⟩ => by
    have e : leafK kv.1 = some u.1 := h2.1 ▸ h1.1
    have i := lq_iff e hl
    by_cases h : u.1 = l
    · rw [i.mpr h, decide_eq_true h]
    · rw [decide_eq_false h]
      cases hq : kq kv.1 d with
      | false => rfl
      | true => exact (h (i.mp hq)).elim) with ⟨h1, h2⟩ | ⟨kv, u, h1, h2, p, h3, h4⟩
  · exact .inl ⟨by rw [h1]; rfl, by rw [h2]; rfl⟩
  · exact .inr ⟨kv.2, p.2, u.2, by rw [h1]; rfl, by rw [h2]; rfl, h3.2, h4.2⟩
theorem find_nest {G : Gx} {μ : List Addr} {F : AS} {H : Hp} {kvs : List (D × Im)} {xs : List (NestedKey × Addr × V)} {ys : List (NestedKey × Addr × Value)} {d : D} {k : NestedKey} (hk : nestK d = some k) (q : All2 (fun kv x => nestK kv.1 = some x.1 ∧ x.1.depth ≤ 8 ∧ Dn G.K F H (.ref x.2.1) kv.1 ∧ ImR G μ F H x.2.2 kv.2) kvs xs)
    (hr : All2 (fun p q => p.1 = q.1 ∧ p.2.1 = q.2.1 ∧ RelV p.2.2 q.2.2) xs ys) :
    (findD d kvs = none ∧ atKey ys k = none) ∨ ∃ z v b u, findD d kvs = some z ∧ atKey ys k = some (b, u) ∧ ImR G μ F H v z ∧ RelV v u := by
  have c := all2_comp q hr
  unfold findD atKey
  rcases all2_find (p := fun kv : D × Im => kq kv.1 d) (q := fun u : NestedKey × Addr × Value => decide (u.1 = k)) c (fun kv u ⟨p, h1, h2⟩ => by
    have e : nestK kv.1 = some u.1 := h2.1 ▸ h1.1
    have i := kq_iff e hk
    by_cases h : u.1 = k
    · rw [i.mpr h, decide_eq_true h]
    · rw [decide_eq_false h]
      cases hq : kq kv.1 d with
      | false => rfl
      | true => exact (h (i.mp hq)).elim) with ⟨h1, h2⟩ | ⟨kv, u, h1, h2, p, h3, h4⟩
  · exact .inl ⟨by rw [h1]; rfl, by rw [h2]; rfl⟩
  · exact .inr ⟨kv.2, p.2.2, u.2.1, u.2.2, by rw [h1]; rfl, by rw [h2]; rfl, h3.2.2.2, h4.2.2⟩
theorem op_din (hu : X.A.units + 64 < cLine) : OpR X (compareOp .In) (rDIn X false) := by
  intro pins s σ H x y v u Q I rx ry h
  obtain ⟨μ, F, kvs, a, d, rfl, hd, hx, hk, q⟩ := h
  obtain rfl : u = Value.ref a := ry
  rcases dc_cases hd hk with ⟨ls, l, hl, e, ql⟩ | ⟨xs, k, hl, hn, hdp, e, ka, qn⟩
  · obtain ⟨hs, us, hr, ho⟩ := lf_of (I.hok a _ e)
    refine wpAny_in_of (lfV_is (leaf_lfV hx hl) rx) hs ho.mapOf ⟨.bl _, H, tok_I I, rfl, ?_⟩
    rcases find_leaf hl ql hr with ⟨h1, h2⟩ | ⟨z, v, u, h1, h2, _⟩
    · rw [h2]; rw [h1] at q; exact q
    · rw [h2]; rw [h1] at q; exact q
  · obtain ⟨hs, ys, hr, ho⟩ := nt_of I e ka
    obtain ⟨b, rfl⟩ := nest_ref hx hn hl
    obtain rfl : v = Value.ref b := rx
    refine wpAny_in_heap (knd := nestedKind X.prog X.w) (k := k) (show X.A.in1.units + 8 < cLine by show X.A.units + 1 + 8 < cLine; omega) ⟨nest_is I hx hn rfl, hdp⟩ hs ho ⟨.bl _, H, tok_I I, rfl, ?_⟩
    rcases find_nest hn qn hr with ⟨h1, h2⟩ | ⟨z, v, b, u, h1, h2, _⟩
    · rw [h2]; rw [h1] at q; exact q
    · rw [h2]; rw [h1] at q; exact q
theorem op_dnin (hu : X.A.units + 64 < cLine) : OpR X (compareOp .NotIn) (rDIn X true) := by
  intro pins s σ H x y v u Q I rx ry h
  obtain ⟨μ, F, kvs, a, d, rfl, hd, hx, hk, q⟩ := h
  obtain rfl : u = Value.ref a := ry
  rcases dc_cases hd hk with ⟨ls, l, hl, e, ql⟩ | ⟨xs, k, hl, hn, hdp, e, ka, qn⟩
  · obtain ⟨hs, us, hr, ho⟩ := lf_of (I.hok a _ e)
    refine wpAny_notIn_of (lfV_is (leaf_lfV hx hl) rx) hs ho.mapOf ⟨.bl _, H, tok_I I, rfl, ?_⟩
    rcases find_leaf hl ql hr with ⟨h1, h2⟩ | ⟨z, v, u, h1, h2, _⟩
    · rw [h2]; rw [h1] at q; exact q
    · rw [h2]; rw [h1] at q; exact q
  · obtain ⟨hs, ys, hr, ho⟩ := nt_of I e ka
    obtain ⟨b, rfl⟩ := nest_ref hx hn hl
    obtain rfl : v = Value.ref b := rx
    refine wpAny_notIn_heap (knd := nestedKind X.prog X.w) (k := k) (show X.A.in1.units + 8 < cLine by show X.A.units + 1 + 8 < cLine; omega) ⟨nest_is I hx hn rfl, hdp⟩ hs ho ⟨.bl _, H, tok_I I, rfl, ?_⟩
    rcases find_nest hn qn hr with ⟨h1, h2⟩ | ⟨z, v, b, u, h1, h2, _⟩
    · rw [h2]; rw [h1] at q; exact q
    · rw [h2]; rw [h1] at q; exact q
/-- d[key] -/
def rDGet (X : Cx) : R2 := fun x y H Q => ∃ (μ : List Addr) (F : AS) (kvs : List (D × Im)) (a : Addr) (d : D) (z : Im), x = .ref a ∧ DcR (gx X) μ F H a kvs ∧ Dn X.K F H y d ∧ keyOk d kvs = true ∧ findD d kvs = some z ∧ ∀ v, ImR (gx X) μ F H v z → Q v H
theorem op_dget (hu : X.A.units + 64 < cLine) : OpR X getItem (rDGet X) := by
  intro pins s σ H x y v u Q I rx ry h
  obtain ⟨μ, F, kvs, a, d, z, rfl, hd, hx, hk, hf, q⟩ := h
  obtain rfl : v = Value.ref a := rx
  rcases dc_cases hd hk with ⟨ls, l, hl, e, ql⟩ | ⟨xs, k, hl, hn, hdp, e, ka, qn⟩
  · obtain ⟨hs, us, hr, ho⟩ := lf_of (I.hok a _ e)
    rcases find_leaf hl ql hr with ⟨h1, h2⟩ | ⟨z', v, w, h1, h2, h3, h4⟩
    · rw [hf] at h1; cases h1
    · rw [hf] at h1; cases h1
      exact wpAny_getItem_of (lfV_is (leaf_lfV hx hl) ry) ho.mapOf h2 ⟨v, H, tok_I I, h4, q v h3⟩
  · obtain ⟨hs, ys, hr, ho⟩ := nt_of I e ka
    obtain ⟨b, rfl⟩ := nest_ref hx hn hl
    obtain rfl : u = Value.ref b := ry
    rcases find_nest hn qn hr with ⟨h1, h2⟩ | ⟨z', v, b2, w, h1, h2, h3, h4⟩
    · rw [hf] at h1; cases h1
    · rw [hf] at h1; cases h1
      exact wpAny_getItem_heap (knd := nestedKind X.prog X.w) (k := k) (show X.A.in1.units + 8 < cLine by show X.A.units + 1 + 8 < cLine; omega) ⟨nest_is I hx hn rfl, hdp⟩ ho h2 ⟨v, H, tok_I I, h4, q v h3⟩
end
end PM
namespace PM
open PySem PySem.Spec PyProof.Rows L2
open PD (D AS Fr0 U Dn DnA Mv ExIs All2 NT nt_lst nt_tup nt_xd nt_ext nt_rng mv_grow upd_grow sz RCd)
/-- the object that stands now tells, wherever it is kept, what the dict holds -/
def DcNow (G : Gx) (μ : List Addr) (F : AS) (H : Hp) (a : Addr) (kvs : List (D × Im)) (u : HO) : Prop := ∀ (μ' : List Addr) (F' : AS) (H' : Hp), (∀ (n : Nat) (c : Addr), μ[n]? = some c → μ'[n]? = some c) → Mv F H F' H' → H' a = some u → DcR G μ' F' H' a kvs
section
variable {X : Cx} {pins : List (Addr × Obj)} {σ : L2.St} {H : Hp} {s : Shared} {μ : List Addr} {F : AS} {kvs : List (D × Im)} {d : D} {z : Im} {a : Addr} {v : V} {val : Value}
theorem all2_len {α β : Type} {R : α → β → Prop} {as : List α} {bs : List β} (h : All2 R as bs) : as.length = bs.length := PD.All2.length h
theorem put_leaf {ls : List (Leaf × V)} {us : List (Leaf × Value)} {l : Leaf} {G : Gx} (hl : leafK d = some l) (q : All2 (fun kv l => leafK kv.1 = some l.1 ∧ ImR G μ F H l.2 kv.2) kvs ls) (hr : All2 (fun p q => p.1 = q.1 ∧ RelV p.2 q.2) ls us) (hz : ImR G μ F H v z) (rv : RelV v val) :
    ∃ ls' : List (Leaf × V), All2 (fun kv l => leafK kv.1 = some l.1 ∧ ImR G μ F H l.2 kv.2) (putD d z kvs) ls' ∧ All2 (fun p q => p.1 = q.1 ∧ RelV p.2 q.2) ls' (stored us l val) := by
  have c := all2_comp q hr
  have key : ∀ (kv : D × Im) (u : Leaf × Value), leafK kv.1 = some u.1 → (kq kv.1 d = decide (u.1 = l)) := fun kv u e => by
    have i := lq_iff e hl
    by_cases h : u.1 = l
    · rw [i.mpr h, decide_eq_true h]
    · rw [decide_eq_false h]
      cases hq : kq kv.1 d with
      | false => rfl
      | true => exact (h (i.mp hq)).elim
  have an : (kvs.any fun kv => kq kv.1 d) = us.any fun u => decide (u.1 = l) := all2_any c fun kv u ⟨p, h1, h2⟩ => key kv u (h2.1 ▸ h1.1)
  unfold putD stored
  rw [an]
  split
  · refine ⟨ls.map fun p => if p.1 = l then (p.1, v) else p, all2_map q fun kv p h => ?_, all2_map hr fun p u h => ?_⟩
    · have k := key kv (p.1, .none) h.1
      by_cases hp : p.1 = l
      · rw [if_pos hp, if_pos (by rw [k]; exact decide_eq_true hp)]
        exact ⟨h.1, hz⟩
      · rw [if_neg hp, if_neg (by rw [k]; simpa using hp)]
        exact h
    · by_cases hp : p.1 = l
      · rw [if_pos hp, if_pos (h.1 ▸ hp)]
        exact ⟨h.1, rv⟩
      · rw [if_neg hp, if_neg (h.1 ▸ hp)]
        exact h
  · exact ⟨ls ++ [(l, v)], all2_app q (.cons ⟨hl, hz⟩ .nil), all2_app hr (.cons ⟨rfl, rv⟩ .nil)⟩
theorem put_nest {xs : List (NestedKey × Addr × V)} {ys : List (NestedKey × Addr × Value)} {k : NestedKey} {b : Addr} {G : Gx} (hk : nestK d = some k) (hd : k.depth ≤ 8) (hb : Dn G.K F H (.ref b) d) (q : All2 (fun kv x => nestK kv.1 = some x.1 ∧ x.1.depth ≤ 8 ∧ Dn G.K F H (.ref x.2.1) kv.1 ∧ ImR G μ F H x.2.2 kv.2) kvs xs)
    (hr : All2 (fun p q => p.1 = q.1 ∧ p.2.1 = q.2.1 ∧ RelV p.2.2 q.2.2) xs ys) (hz : ImR G μ F H v z) (rv : RelV v val) :
    ∃ xs' : List (NestedKey × Addr × V), xs' ≠ [] ∧ All2 (fun kv x => nestK kv.1 = some x.1 ∧ x.1.depth ≤ 8 ∧ Dn G.K F H (.ref x.2.1) kv.1 ∧ ImR G μ F H x.2.2 kv.2) (putD d z kvs) xs' ∧ All2 (fun p q => p.1 = q.1 ∧ p.2.1 = q.2.1 ∧ RelV p.2.2 q.2.2) xs' (storedH ys k b val) := by
  have c := all2_comp q hr
  have key : ∀ (kv : D × Im) (u : NestedKey), nestK kv.1 = some u → (kq kv.1 d = decide (u = k)) := fun kv u e => by
    have i := kq_iff e hk
    by_cases h : u = k
    · rw [i.mpr h, decide_eq_true h]
    · rw [decide_eq_false h]
      cases hq : kq kv.1 d with
      | false => rfl
      | true => exact (h (i.mp hq)).elim
  have an : (kvs.any fun kv => kq kv.1 d) = ys.any fun u => decide (u.1 = k) := all2_any c fun kv u ⟨p, h1, h2⟩ => key kv u.1 (h2.1 ▸ h1.1)
  unfold putD storedH atKey
  rw [Option.isSome_map, ← find_any, an]
  split
  · rename_i ha
    refine ⟨xs.map fun p => if p.1 = k then (p.1, p.2.1, v) else p, ?_, all2_map q fun kv p h => ?_, all2_map hr fun p u h => ?_⟩
    · cases hr with
      | nil => cases ha
      | cons _ _ => intro e; cases e
    · have kk := key kv p.1 h.1
      by_cases hp : p.1 = k
      · rw [if_pos hp, if_pos (by rw [kk]; exact decide_eq_true hp)]
        exact ⟨h.1, h.2.1, h.2.2.1, hz⟩
      · rw [if_neg hp, if_neg (by rw [kk]; simpa using hp)]
        exact h
    · unfold putAt
      by_cases hp : p.1 = k
      · rw [if_pos hp, if_pos (h.1 ▸ hp)]
        exact ⟨h.1, h.2.1, rv⟩
      · rw [if_neg hp, if_neg (h.1 ▸ hp)]
        exact h
  · refine ⟨xs ++ [(k, b, v)], by simp, all2_app q (.cons ⟨hk, hd, hb, hz⟩ .nil), all2_app hr (.cons ⟨rfl, rfl, rv⟩ .nil)⟩
theorem mut_lf {P : Program} {w : World} {ls : List (Leaf × V)} (e : H a = some (LfO P w a ls)) : Mut (H a) := by rw [e]; exact True.intro
theorem same_get {h h' : Heap} (hs : Heap.SameBut a h h') {b : Addr} {u : Obj} (ne : b ≠ a) (e : h.get? b = some u) : h'.get? b = some u := (hs.2 b ne).trans e
theorem wr_leaf (I : Inv X pins σ H s) {ls ls' : List (Leaf × V)} {us' : List (Leaf × Value)} {h' : Heap} {n : Nat} (e : H a = some (LfO X.prog X.w a ls)) (hs : (a == sysModules) = false) (hr : All2 (fun p q => p.1 = q.1 ∧ RelV p.2 q.2) ls' us') (hd : h'.DictOf (leafKind X.prog X.w) a us') (sb : Heap.SameBut a s.heap h') :
    Inv X pins σ (upd H a (LfO X.prog X.w a ls')) { heap := h', gens := s.gens, drawn := s.drawn, toks := n, os := s.os } := by
  refine I.write (e := a) (mut_lf e) (.inl rfl) (fun b u ne g => same_get sb ne g) ?_ (lf_ok hs hr hd)
  obtain ⟨o, es, ep, g, _⟩ := hd
  exact ⟨o, g⟩
theorem wr_nest (I : Inv X pins σ H s) {xs xs' : List (NestedKey × Addr × V)} {ys' : List (NestedKey × Addr × Value)} {h' : Heap} {n : Nat} (e : NtAt X.prog X.w H a xs) (hs : (a == sysModules) = false) (hr : All2 (fun p q => p.1 = q.1 ∧ p.2.1 = q.2.1 ∧ RelV p.2.2 q.2.2) xs' ys') (hd : h'.DictOfH (nestedKind X.prog X.w) a ys') (sb : Heap.SameBut a s.heap h') :
    Inv X pins σ (upd H a (NtO X.prog X.w a xs')) { heap := h', gens := s.gens, drawn := s.drawn, toks := n, os := s.os } := by
  refine I.write (e := a) ?_ (.inl rfl) (fun b u ne g => same_get sb ne g) ?_ (nt_ok hs hr hd)
  · rcases e with e | ⟨_, e⟩
    · rw [e]; exact True.intro
    · exact mut_lf e
  · obtain ⟨o, es, ep, g, _⟩ := hd
    exact ⟨o, g⟩
theorem now_leaf {G : Gx} {ls' : List (Leaf × V)} (q : All2 (fun kv l => leafK kv.1 = some l.1 ∧ ImR G μ F H l.2 kv.2) kvs ls') : DcNow G μ F H a kvs (LfO G.P G.w a ls') := fun μ' F' H' pre m e => .inl ⟨ls', e, PD.All2.imp (fun _ _ h => ⟨h.1, h.2.mv pre m⟩) q⟩
theorem now_nest {G : Gx} {xs' : List (NestedKey × Addr × V)} (ne : xs' ≠ []) (q : All2 (fun kv x => nestK kv.1 = some x.1 ∧ x.1.depth ≤ 8 ∧ Dn G.K F H (.ref x.2.1) kv.1 ∧ ImR G μ F H x.2.2 kv.2) kvs xs') : DcNow G μ F H a kvs (NtO G.P G.w a xs') := fun μ' F' H' pre m e => .inr ⟨xs', e, ne, PD.All2.imp (fun _ _ h => ⟨h.1, h.2.1, Dn.mv m h.2.2.1, h.2.2.2.mv pre m⟩) q⟩
/-- d[key] = value -/
def rDPut (X : Cx) : V → V → V → Hp → (Hp → Prop) → Prop := fun o i v H Q => ∃ (μ : List Addr) (F : AS) (kvs : List (D × Im)) (a : Addr) (d : D) (z : Im), o = .ref a ∧ DcR (gx X) μ F H a kvs ∧ Dn X.K F H i d ∧ keyOk d kvs = true ∧ kvs.length ≤ 100000 ∧ ImR (gx X) μ F H v z ∧ ∀ u, DcNow (gx X) μ F H a (putD d z kvs) u → Q (upd H a u)
theorem set_dput (hu : X.A.units + 64 < cLine) : PSet X (rDPut X) := by
  intro pins s σ H o i v ov iv u Q I ro ri rv h
  obtain ⟨μ, F, kvs, a, d, z, rfl, hd, hx, hk, hl, hz, q⟩ := h
  obtain rfl : ov = Value.ref a := ro
  rcases dc_cases hd hk with ⟨ls, l, hl', e, ql⟩ | ⟨xs, k, hl', hn, hdp, e, ka, qn⟩
  · obtain ⟨hs, us, hr, ho⟩ := lf_of (I.hok a _ e)
    obtain ⟨ls', q1, q2⟩ := put_leaf hl' ql hr hz rv
    exact wpAny_setItem_pairs (lfV_is (leaf_lfV hx hl') ri) ho (fun h' h1 sb => ⟨_, wr_leaf I e hs q2 h1 sb, q _ (now_leaf q1)⟩) (by rw [← all2_len hr, ← all2_len ql]; exact sz hl)
  · obtain ⟨hs, ys, hr, ho⟩ := nt_of I e ka
    obtain ⟨b, rfl⟩ := nest_ref hx hn hl'
    obtain rfl : iv = Value.ref b := ri
    obtain ⟨xs', ne, q1, q2⟩ := put_nest hn hdp hx qn hr hz rv
    exact wpAny_setItem_heap (knd := nestedKind X.prog X.w) (k := k) (show X.A.in1.units + 8 < cLine by show X.A.units + 1 + 8 < cLine; omega) ⟨nest_is I hx hn rfl, hdp⟩ ho (fun h' h1 sb => ⟨_, wr_nest I e hs q2 h1 sb, q _ (now_nest ne q1)⟩) (by rw [← all2_len hr, ← all2_len qn]; exact sz hl)
/-- d.get(key, default) -/
def rDGetD (X : Cx) : V → List V → Hp → VK → Prop := fun x xs H Q => ∃ (μ : List Addr) (F : AS) (kvs : List (D × Im)) (a : Addr) (d : D) (y df : V), x = .ref a ∧ xs = [y, df] ∧ DcR (gx X) μ F H a kvs ∧ Dn X.K F H y d ∧ keyOk d kvs = true ∧ ∀ v, (match findD d kvs with | some z => ImR (gx X) μ F H v z | none => v = df) → Q v H
/-- d.setdefault(key, default) -/
def rDDef (X : Cx) : V → List V → Hp → VK → Prop := fun x xs H Q => ∃ (μ : List Addr) (F : AS) (kvs : List (D × Im)) (a : Addr) (d : D) (y df : V) (z : Im), x = .ref a ∧ xs = [y, df] ∧ DcR (gx X) μ F H a kvs ∧ Dn X.K F H y d ∧ keyOk d kvs = true ∧ kvs.length ≤ 100000 ∧ ImR (gx X) μ F H df z ∧
  (∀ v w, findD d kvs = some w → ImR (gx X) μ F H v w → Q v H) ∧ (findD d kvs = none → ∀ u, DcNow (gx X) μ F H a (putD d z kvs) u → Q df (upd H a u))
theorem dict_ty {P : Program} {w : World} (h : (∃ us, s.heap.DictOf (leafKind P w) a us) ∨ ∃ ys, s.heap.DictOfH (nestedKind P w) a ys) : s.TypeIs (.ref a) "dict" := by
  rcases h with ⟨us, h⟩ | ⟨ys, h⟩
  · exact h.typeIs
  · exact h.typeIs
theorem mt_dget (hu : X.A.units + 64 < cLine) : MtR X "dict.get" (rDGetD X) := by
  intro pins s σ H x xs v us Q I rx rxs h
  obtain ⟨μ, F, kvs, a, d, y, df, rfl, rfl, hd, hx, hk, q⟩ := h
  obtain rfl : v = Value.ref a := rx
  cases rxs with
  | cons r1 rxs =>
    cases rxs with
    | cons r2 rxs =>
      cases rxs
      rename_i u1 u2
      rcases dc_cases hd hk with ⟨ls, l, hl', e, ql⟩ | ⟨xs, k, hl', hn, hdp, e, ka, qn⟩
      · obtain ⟨hs, us, hr, ho⟩ := lf_of (I.hok a _ e)
        refine call_meetsIn PySem.F.slot_dict_get (dict_ty (.inl ⟨us, ho⟩)) rfl (PySem.F.args_dict_get_3 _ _ _) (meets_dict_get_default (leafKind X.prog X.w) a (lfV_is (leaf_lfV hx hl') r1) hs u2) ⟨_, ho.mapOf, ?_⟩
        rcases find_leaf hl' ql hr with ⟨h1, h2⟩ | ⟨z', v, w, h1, h2, h3, h4⟩
        · rw [h2]
          rw [h1] at q
          exact ⟨df, H, tok_I I, r2, q df rfl⟩
        · rw [h2]
          rw [h1] at q
          exact ⟨v, H, tok_I I, h4, q v h3⟩
      · obtain ⟨hs, ys, hr, ho⟩ := nt_of I e ka
        obtain ⟨b, rfl⟩ := nest_ref hx hn hl'
        obtain rfl : u1 = Value.ref b := r1
        refine call_meetsIn PySem.F.slot_dict_get (dict_ty (.inr ⟨ys, ho⟩)) rfl (PySem.F.args_dict_get_3 _ _ _) (meetsH_dict_get_default (nestedKind X.prog X.w) a b hs u2) ⟨(show X.A.in1.units + 8 < cLine by show X.A.units + 1 + 8 < cLine; omega), k, ys, ⟨nest_is I hx hn rfl, hdp⟩, ho, ?_⟩
        rcases find_nest hn qn hr with ⟨h1, h2⟩ | ⟨z', v, b2, w, h1, h2, h3, h4⟩
        · rw [h2]
          rw [h1] at q
          exact ⟨df, H, tok_I I, r2, q df rfl⟩
        · rw [h2]
          rw [h1] at q
          exact ⟨v, H, tok_I I, h4, q v h3⟩
theorem mt_ddef (hu : X.A.units + 64 < cLine) : MtR X "dict.setdefault" (rDDef X) := by
  intro pins s σ H x xs v us Q I rx rxs h
  obtain ⟨μ, F, kvs, a, d, y, df, z, rfl, rfl, hd, hx, hk, hl, hz, q, qn'⟩ := h
  obtain rfl : v = Value.ref a := rx
  cases rxs with
  | cons r1 rxs =>
    cases rxs with
    | cons r2 rxs =>
      cases rxs
      rename_i u1 u2
      rcases dc_cases hd hk with ⟨ls, l, hl', e, ql⟩ | ⟨xs, k, hl', hn, hdp, e, ka, qn⟩
      · obtain ⟨hs, us, hr, ho⟩ := lf_of (I.hok a _ e)
        refine call_meetsIn PySem.F.slot_dict_setdefault (dict_ty (.inl ⟨us, ho⟩)) rfl (PySem.F.args_dict_setdefault_3 _ _ _) (kt_meets_setdefault (leafKind X.prog X.w) a (lfV_is (leaf_lfV hx hl') r1) hs u2) ⟨us, ho, by rw [← all2_len hr, ← all2_len ql]; exact sz hl, fun v hv => ?_, fun hv h' h1 sb => ?_⟩
        · rcases find_leaf hl' ql hr with ⟨h1, h2⟩ | ⟨z', v', w, h1, h2, h3, h4⟩
          · rw [hv] at h2; cases h2
          · rw [hv] at h2; cases h2
            exact ⟨v', H, tok_I I, h4, q v' z' h1 h3⟩
        · obtain ⟨ls', q1, q2⟩ := put_leaf hl' ql hr hz r2
          rcases find_leaf hl' ql hr with ⟨h3, h4⟩ | ⟨z', v', w, h3, h4, _⟩
          · exact ⟨df, _, wr_leaf I e hs q2 h1 sb, r2, qn' h3 _ (now_leaf q1)⟩
          · rw [hv] at h4; cases h4
      · obtain ⟨hs, ys, hr, ho⟩ := nt_of I e ka
        obtain ⟨b, rfl⟩ := nest_ref hx hn hl'
        obtain rfl : u1 = Value.ref b := r1
        refine call_setdefault_heap (knd := nestedKind X.prog X.w) (k := k) (show X.A.in1.units + 8 < cLine by show X.A.units + 1 + 8 < cLine; omega) ⟨nest_is I hx hn rfl, hdp⟩ hs ho (fun p hp => ?_) (fun hp h' h1 sb => ?_) (by rw [← all2_len hr, ← all2_len qn]; exact sz hl)
        · rcases find_nest hn qn hr with ⟨h1, h2⟩ | ⟨z', v', b2, w, h1, h2, h3, h4⟩
          · rw [hp] at h2; cases h2
          · rw [hp] at h2; cases h2
            exact ⟨v', H, tok_I I, h4, q v' z' h1 h3⟩
        · obtain ⟨xs', ne, q1, q2⟩ := put_nest hn hdp hx qn hr hz r2
          rcases find_nest hn qn hr with ⟨h3, h4⟩ | ⟨z', v', b2, w, h3, h4, _⟩
          · exact ⟨df, _, wr_nest I e hs q2 h1 sb, r2, qn' h3 _ (now_nest ne q1)⟩
          · rw [hp] at h4; cases h4
end
end PM
namespace PM
open PySem PySem.Spec PyProof.Rows L2
open PD (D AS Fr0 U Dn DnA Mv ExIs All2 NT nt_lst nt_tup nt_xd nt_ext nt_rng mv_grow upd_grow sz RCd)
/-! ### a dict just written: {} and {key: value} -/
theorem eval_one (k v : Expr) (pos : Pos) (env : Env) : eval (.Dict [some k] [v] pos) env = (do
    standAt pos
    let d ← subDict [(eval k env, do let x ← eval v env; standAt pos; pure x)]
    pure (.ref d)) := by
  rw [eval.eq_def]
  simp only [evalEachOpt, evalEach, List.zip, List.map, List.zipWith, evalOpt]
  unfold dictDisplay
  simp [forIn, List.forIn']
theorem sub_one {k v : Sem Value} : subDict [(k, v)] = (do
    let d ← alloc { cls := .type "dict", data := .dict #[] }
    holding [.ref d] (do
      let vs ← evalPairs [(k, v)]
      holding (vs.flatMap fun (x : Value × Value) => match x with | (k, v) => [k, v]) (do
        forIn vs PUnit.unit fun (x : Value × Value) __s => match x with
          | (k, v) => do
            dictSet d k v
            pure (ForInStep.yield PUnit.unit)
        pure ()))
    pure d) := by
  unfold subDict
  simp
section
variable {X : Cx}
def tNewDc (X : Cx) : TE := fun σ H Q => ∀ p, H p = none → Q (.ref p) (upd H p (LfO X.prog X.w p []))
theorem lf_new {P : Program} {w : World} {H : Hp} {h : Heap} (hs : (h.objs.size == sysModules) = false) : ObjOk P w H (h.push { cls := .type "dict", data := .dict #[] }) h.objs.size (LfO P w h.objs.size []) := lf_ok hs .nil (Heap.DictOf.new h)
theorem sys_ne {pins : List (Addr × Obj)} {σ : L2.St} {H : Hp} {s : Shared} (I : Inv X pins σ H s) : (s.heap.objs.size == sysModules) = false := by
  obtain ⟨o, es, ep, e, _⟩ := I.ok.mod.glob
  have h1 : 3 < X.base.objs.size := Heap.lt_size e
  have h2 := I.ok.bsz
  have h3 := I.ok.above
  have h4 := I.lt
  have h6 : sysModules = 1 := by rfl
  rw [beq_eq_false_iff_ne, h6]
  intro h
  rw [h] at h4
  have h7 : X.env.locals < 1 := h4
  have h8 : X.base.objs.size ≤ X.env.locals := Nat.le_trans h2 h3
  exact absurd (Nat.lt_of_lt_of_le h1 (Nat.le_trans h8 (Nat.le_of_lt h7))) (by decide)
theorem pe_newDc {pos : Pos} : PE X (.Dict [] [] pos) (tNewDc X) := ⟨fun pins s σ H Q I q => by
  refine thn ((pe_dnewK (X := X) (pos := pos)).run pins s σ H (fun v H' => ∃ p, v = .ref p ∧ H p = none ∧ H' = upd H p (.dK [])) I fun p hp => ⟨p, rfl, hp, rfl⟩) fun u s' ⟨v, H', I', r, p, ev, hp, eH⟩ => ?_
  subst ev eH
  have hs : (p == sysModules) = false := (I'.hok p _ upd_same).2.1
  obtain ⟨us, kv, hd⟩ := (I'.hok p _ upd_same).2.2
  cases kv
  obtain ⟨o, es, ep, e, q1, q2, q3, q4, q5⟩ := hd
  have hd2 : s'.heap.DictOf (leafKind X.prog X.w) p [] := by
    have he : es.toList = [] := by
      generalize es.toList = z at q4
      cases q4; rfl
    have he2 : es = #[] := by
      cases es; simp at he; rw [he]
    subst he2
    exact ⟨o, #[], ep, e, q1, q2, (fun _ h => by simp at h), .nil, List.nodup_nil⟩
  have I2 : Inv X pins σ (upd (upd H p (.dK [])) p (LfO X.prog X.w p [])) s' := I'.write (e := p) (t' := s'.toks) (by rw [upd_same]; exact True.intro) (.inl rfl) (fun b u _ h => h) ⟨o, e⟩ (lf_ok hs .nil hd2)
  have e2 : upd (upd H p (.dK [])) p (LfO X.prog X.w p []) = upd H p (LfO X.prog X.w p []) := by
    funext b
    by_cases hb : b = p
    · subst hb; rw [upd_same, upd_same]
    · rw [upd_ne hb, upd_ne hb, upd_ne hb]
  rw [e2] at I2
  exact ⟨.ref p, _, I2, r, q p hp⟩⟩
/-- {key: value} -/
def tDis1 (X : Cx) (tk tv : TE) : TE := fun σ H Q => ∀ p, H p = none → tk σ (upd H p (LfO X.prog X.w p [])) fun kv H1 => tv σ H1 fun vv H2 => H2 p = some (LfO X.prog X.w p []) ∧ ∃ (μ : List Addr) (F : AS) (d : D) (z : Im), Dn X.K F H2 kv d ∧ kOk 8 d = true ∧ ImR (gx X) μ F H2 vv z ∧ ∀ u, DcNow (gx X) μ F H2 p [(d, z)] u → Q (.ref p) (upd H2 p u)
theorem pe_dis1 {k v : Expr} {pos : Pos} {tk tv : TE} (hu : X.A.units + 64 < cLine) (hk : PE X k tk) (hv : PE X v tv) : PE X (.Dict [some k] [v] pos) (tDis1 X tk tv) := ⟨fun pins s σ H Q I q => by
  rw [eval_one]
  let sD : Shared := { s with heap := s.heap.push { cls := .type "dict", data := .dict #[] } }
  have hp : H s.heap.objs.size = none := I.hok.fresh (Nat.le_refl _)
  have ID : Inv X pins σ (upd H s.heap.objs.size (LfO X.prog X.w s.heap.objs.size [])) sD := I.laid (t' := s.toks) (fun b o e => Heap.get?_push_of_some _ e) (Nat.le_refl _) (lf_new (sys_ne I))
  have q := q _ hp
  rw [sub_one]
  repeat (first | refine thn (hk.run pins _ σ _ _ ID q) fun uk s1 ⟨kv, H1, I1, r1, q1⟩ => ?_ | wp_step)
  refine thn (hv.run pins s1 σ H1 _ I1 q1) fun uv s2 ⟨vv, H2, I2, r2, ep, μ, F, d, z, hx, hkk, hz, q2⟩ => ?_
  obtain ⟨kk, hn, hdp⟩ := kOk_ok hkk
  let a : Addr := s.heap.objs.size
  have hs : (a == sysModules) = false := sys_ne I
  iterate 16 wp_step
  rcases leaf_or hn with ⟨_, l, hl⟩ | ⟨_, hl⟩
  · obtain ⟨hs, us, hr, ho⟩ := lf_of (I2.hok a _ ep)
    cases hr
    refine wpAny_dictSet_pairs (lfV_is (leaf_lfV hx hl) r1) ho (fun h' h1 sb => ?_) (by decide)
    obtain ⟨ls', w1, w2⟩ := put_leaf (kvs := []) hl .nil .nil hz r2
    have e1 := wr_leaf (n := s2.toks + 1) I2 ep hs w2 h1 sb
    have e2 := q2 _ (now_leaf w1)
    iterate 8 (first | exact ⟨.ref a, _, e1, rfl, e2⟩ | wp_step)
  · obtain ⟨b, rfl⟩ := nest_ref hx hn hl
    obtain rfl : uk = Value.ref b := r1
    obtain ⟨hs, ys, hr, ho⟩ := nt_of (xs := []) (F := F) I2 (.inr ⟨rfl, ep⟩) (fun x hx => by cases hx)
    cases hr
    refine wpAny_dictSet_heap (knd := nestedKind X.prog X.w) (k := kk) (show X.A.units + 8 < cLine by omega) ⟨nest_is I2 hx hn rfl, hdp⟩ ho (fun h' h1 sb => ?_) (by decide)
    obtain ⟨xs', ne, w1, w2⟩ := put_nest (kvs := []) hn hdp hx .nil .nil hz r2
    have e1 := wr_nest (n := s2.toks + (nestedKind X.prog X.w).draws kk) I2 (.inr ⟨rfl, ep⟩) hs w2 h1 sb
    have e2 := q2 _ (now_nest ne w1)
    iterate 8 (first | exact ⟨.ref a, _, e1, rfl, e2⟩ | wp_step)⟩
end
end PM
namespace PM
open PySem PySem.Spec PyProof.Rows L2
open PD (D AS Fr0 U Dn DnA Mv ExIs All2 NT nt_lst nt_tup nt_xd nt_ext nt_rng mv_grow upd_grow sz RCd)
/-! ### methods of dicts -/
section
variable {X : Cx}
def IsDc (X : Cx) (H : Hp) (a : Addr) : Prop := (∃ ls, H a = some (LfO X.prog X.w a ls)) ∨ ∃ xs, H a = some (NtO X.prog X.w a xs)
theorem DcR.is {μ : List Addr} {F : AS} {H : Hp} {a : Addr} {kvs : List (D × Im)} (h : DcR (gx X) μ F H a kvs) : IsDc X H a := h.elim (fun ⟨ls, e, _⟩ => .inl ⟨ls, e⟩) fun ⟨xs, e, _⟩ => .inr ⟨xs, e⟩
theorem dc_obj {pins : List (Addr × Obj)} {σ : L2.St} {H : Hp} {s : Shared} {a : Addr} (I : Inv X pins σ H s) (h : IsDc X H a) : ∃ o, s.heap.get? a = some o ∧ o.ExactDict := by
  rcases h with ⟨ls, e⟩ | ⟨xs, e⟩
  · obtain ⟨_, us, _, o, es, ep, e, q, _⟩ := lf_of (I.hok a _ e)
    exact ⟨o, e, q⟩
  · obtain ⟨_, ys, _, ⟨o, es, ep, e, q, _⟩, _⟩ := (show _ ∧ _ from I.hok a _ e).1
    exact ⟨o, e, q⟩
def tBMD (X : Cx) (r : V → List V → Hp → VK → Prop) (to : TE) (t : TA) : TE := fun σ H Q => to σ H fun x H1 => (∃ a, x = .ref a ∧ IsDc X H1 a) ∧ t σ H1 fun xs H2 => r x xs H2 Q
theorem pe_bmD {o e : Expr} {es : List Expr} {to : TE} {t : TA} {name : Str} {apos cpos : Pos} {id : String} {r : V → List V → Hp → VK → Prop} (hsl : Slot "dict" name id) (hty : typeOf (.builtin id) = pure (.type "method_descriptor")) (hm : MtR X id r) (ho : PE X o to) (ha : PA X (e :: es) t)
    (h1 : attributeBase o name X.env (eval o X.env) = eval o X.env := by rfl) (h2 : ((((backTo cpos (starEach (e :: es) X.env)).all fun x => !x.fst) && (backToKw cpos (keywordEach [] X.env)).all fun x => x.fst.isSome) && decide (((e :: es).length + ([] : List Keyword).length + if ([] : List Keyword).isEmpty = true then 0 else 1) < 30)) = true := by rfl)
    (h3 : (apos.endLine == cpos.line) = true := by rfl) (he : starEach (e :: es) X.env = (false, eval e X.env) :: starEach es X.env := by rfl) (hpl : (backTo cpos (starEach es X.env)).any (·.1) = false := by rfl) : PE X (.Call (.Attribute o name apos) (e :: es) [] cpos) (tBMD X r to t) := ⟨fun pins s σ H Q I h => by
  refine wpAny_Call_method h1 h2 h3 PySem.F.plainAttrs_dict hsl hty (thn (ho.run pins s σ H _ I h) fun ov s1 ⟨x, H1, I1, r1, ⟨a, ex, isd⟩, q1⟩ => ?_)
  subst ex
  obtain rfl : ov = Value.ref a := r1
  obtain ⟨ob, eo, hx⟩ := dc_obj I1 isd
  refine ⟨⟨ob, eo, hx.1⟩, fun b eb => by cases eb; exact ⟨ob, eo, hx.2.1⟩, ?_⟩
  have run := ha.run cpos pins s1 σ H1 _ I1 q1
  have hA : ((backTo cpos (starEach (e :: es) X.env)).any fun x => x.1) = false := by
    rw [Bool.and_eq_true, Bool.and_eq_true] at h2
    rw [← Bool.not_eq_true]
    intro z
    obtain ⟨p, hp, e⟩ := List.any_eq_true.mp z
    have w := List.all_eq_true.mp h2.1.1 p hp
    rw [e] at w
    cases w
  refine Calls.callWith_builtin hA ?_
  rw [he] at run ⊢
  refine Calls.evalArgs_plain (thn run fun us s2 ⟨xs, H2, I2, r2, q2⟩ => ?_)
  exact hm pins s2 σ H2 (.ref a) xs (.ref a) us Q I2 rfl r2 q2⟩
/-- d[key], an index into a list or tuple, too -/
theorem ix_dget (hu : X.A.units + 64 < cLine) : IxR X (rDGet X) := by
  intro value slice pins s σ H x y v u Q I rx ry h hs
  have h0 := h
  obtain ⟨μ, F, kvs, a, d, z, rfl, hd, _⟩ := h
  obtain rfl : v = Value.ref a := rx
  obtain ⟨ob, eo, hx⟩ := dc_obj I hd.is
  exact tail_any ⟨ob, eo, hx.1⟩ PySem.F.slot_dict_getitem.lookup (op_dget hu pins s σ H (.ref a) y (.ref a) u Q I rfl ry h0) hs
end
/-! ### what a name or place holds, looked at where it stands -/
def seqOf (S : List Ob) : Im → Option (List Im)
  | .d (.list ds) => some (ds.map .d)
  | .d (.tuple ds) => some (ds.map .d)
  | .r n => match S[n]? with
    | some (.ls xs) => some xs
    | some (.fz (.list ds)) => some (ds.map .d)
    | _ => none
  | _ => none
def dcOf (S : List Ob) : Im → Option (List (D × Im))
  | .r n => match S[n]? with
    | some (.dc kvs) => some kvs
    | _ => none
  | _ => none
section
variable {G : Gx} {μ : List Addr} {Fb : AS} {H : Hp} {S : List Ob}
theorem seq_at (R : SR G Fb μ H S) {x : Im} {v : V} {xs : List Im} (h : ImR G μ (U (Lo μ S) Fb) H v x) (e : seqOf S x = some xs) : ∃ a vs, v = .ref a ∧ (SqL G.K H a vs ∨ SqT G.K H a vs) ∧ ImA G μ (U (Lo μ S) Fb) H vs xs := by
  unfold seqOf at e
  split at e
  · cases e
    obtain ⟨a, vs, rfl, na, ha, da⟩ := PD.Dn.lstInv h
    exact ⟨a, vs, rfl, .inl (SqL.of ha), dna_ima da⟩
  · cases e
    obtain ⟨a, vs, rfl, ha, da⟩ := PD.Dn.tupInv h
    exact ⟨a, vs, rfl, .inr ha, dna_ima da⟩
  · rename_i n
    obtain ⟨a, rfl, hn⟩ := h
    split at e
    · rename_i ys hy
      cases e
      obtain ⟨vs, ha, hi⟩ := R.ob n a _ hn hy
      exact ⟨a, vs, rfl, .inl (SqL.of ha), hi⟩
    · rename_i ds hy
      cases e
      obtain ⟨b, vs, eb, na, ha, da⟩ := PD.Dn.lstInv (R.ob n a _ hn hy)
      cases eb
      exact ⟨a, vs, rfl, .inl (SqL.of ha), dna_ima da⟩
    · cases e
  · cases e
theorem dc_at (R : SR G Fb μ H S) {x : Im} {v : V} {kvs : List (D × Im)} (h : ImR G μ (U (Lo μ S) Fb) H v x) (e : dcOf S x = some kvs) : ∃ n a, x = .r n ∧ v = .ref a ∧ μ[n]? = some a ∧ S[n]? = some (.dc kvs) ∧ DcR G μ (U (Lo μ S) Fb) H a kvs := by
  unfold dcOf at e
  split at e
  · rename_i n
    obtain ⟨a, rfl, hn⟩ := h
    split at e
    · rename_i ys hy
      cases e
      exact ⟨n, a, rfl, rfl, hn, hy, R.ob n a _ hn hy⟩
    · cases e
  · cases e
theorem ImA.at {F : AS} {xs : List Im} {vs : List V} {i : Int} {x : Im} (h : ImA G μ F H vs xs) (e : atI xs i = some x) : ∃ v, atI vs i = some v ∧ ImR G μ F H v x := by
  unfold atI at e ⊢
  rw [h.length]
  obtain ⟨j, e1, e2⟩ := Option.bind_eq_some_iff.mp e
  have : ∀ {vs : List V} {xs : List Im} {j : Nat}, ImA G μ F H vs xs → xs[j]? = some x → ∃ v, vs[j]? = some v ∧ ImR G μ F H v x := by
    intro vs xs j h
    induction h generalizing j with
    | nil => intro e; simp at e
    | cons a b ih =>
      intro e
      cases j with
      | zero => simp at e; subst e; exact ⟨_, rfl, a⟩
      | succ j =>
        obtain ⟨v, h1, h2⟩ := ih (by simpa using e)
        exact ⟨v, by simpa using h1, h2⟩
  obtain ⟨v, h1, h2⟩ := this h e2
  exact ⟨v, Option.bind_eq_some_iff.mpr ⟨j, e1, h1⟩, h2⟩
end
def gAt (Ga : GI) (Gb : GE) : GI := gB Ga fun x => gB Gb fun z m => match dcOf m.s x with
  | some kvs => if keyOk z kvs then (findD z kvs).map fun y => .ok y m else none
  | none => match z with
    | .int i => (seqOf m.s x).bind fun xs => (atI xs i).map fun y => .ok y m
    | _ => none
section
variable {X : Cx} {W : WN}
theorem pi_at {a b : Expr} {Ga : GI} {Gb : GE} {pos : Pos} (hu : X.A.units + 64 < cLine) (ha : PMI X W a Ga) (hb : PMD X W b Gb) (hs : PlainIx b := by intros; rfl) : PMI X W (.Subscript a b pos) (gAt Ga Gb) :=
  ⟨PE.wk (pe_ix (IxR.or ix_seq (ix_dget hu)) ha.pe hb.pe hs) fun σ H Q q => (tG.seq2 (ρ := ρI (gx X)) (ρ1 := ρD X.K) (stabI _) q).mono fun v H1 z => z.mono fun w H2 z => by
    obtain ⟨x, d, Fb, μ, m, r, hx, hy, R, g, k⟩ := z
    dsimp only at g
    split at g
    · rename_i kvs hk
      split at g
      · rename_i hko
        obtain ⟨y, h1, rfl⟩ := Option.map_eq_some_iff.mp g
        obtain ⟨n, a, rfl, rfl, hn, hS, dc⟩ := dc_at R.sr hx hk
        exact .inr ⟨μ, _, kvs, a, d, y, rfl, dc, hy, hko, h1, fun v hv => k μ H2 (Nx.refl _ _ _) R v hv⟩
      · cases g
    · split at g
      · obtain ⟨xs, h1, g⟩ := Option.bind_eq_some_iff.mp g
        obtain ⟨y, h2, rfl⟩ := Option.map_eq_some_iff.mp g
        obtain ⟨a, vs, rfl, sq, hi⟩ := seq_at R.sr hx h1
        obtain ⟨v, h3, h4⟩ := hi.at h2
        cases hy
        refine .inl ?_
        rcases sq with sq | sq
        · exact .inl ⟨a, vs, _, v, rfl, rfl, sq, h3, k μ H2 (Nx.refl _ _ _) R v h4⟩
        · exact .inr (.inl ⟨a, vs, _, v, rfl, rfl, sq, h3, k μ H2 (Nx.refl _ _ _) R v h4⟩)
      · cases g⟩
/-- key in d; a thing in a list or tuple -/
def dInX (neg : Bool) (z : D) (xs : List D) : Option D := if (SeqAt.shaped z && SeqAt.shaped (.list xs)) = true then some (.bool (xor neg (xs.any fun y => y.eqv z))) else none
def gIn (neg : Bool) (Ga : GE) (Gb : GI) : GE := gB Ga fun z => gB Gb fun x m => match dcOf m.s x with
  | some kvs => if keyOk z kvs then some (.ok (.bool (xor neg (findD z kvs).isSome)) m) else none
  | none => match z, x with
    | .int i, .d (.tuple ds) => ((PD.ints? ds).map fun ns => .bool (xor neg (ns.any (· == i)))).map fun b => .ok b m
    | .int i, x => ((seqOf m.s x).bind fun xs => (datsOf m.s xs).bind fun ds => (PD.ints? ds).map fun ns => PyData.bool (xor neg (ns.any (· == i)))).map fun b => .ok b m
    | _, _ => none
theorem pm_in {neg : Bool} {op : CmpOp} {a b : Expr} {Ga : GE} {Gb : GI} {pos : Pos} (ho : OpR X (compareOp op) (fun x y H Q => rIn X.K neg x y H Q ∨ rDIn X neg x y H Q)) (hm : behindInMarks op b = false) (ha : PMD X W a Ga) (hb : PMI X W b Gb) : PMD X W (.Compare a [op] [b] pos) (gIn neg Ga Gb) :=
  ⟨PE.wk (pe_cmpR ho ha.pe hb.pe hm) fun σ H Q q => (tG.seq2 (ρ := ρD X.K) (ρ1 := ρI (gx X)) (stabD _) q).mono fun v H1 z => z.mono fun w H2 z => by
    obtain ⟨d, x, Fb, μ, m, r, hx, hy, R, g, k⟩ := z
    dsimp only at g
    split at g
    · rename_i kvs hk
      split at g
      · rename_i hko
        cases g
        obtain ⟨n, a, rfl, rfl, hn, hS, dc⟩ := dc_at R.sr hy hk
        exact .inr ⟨μ, _, kvs, a, d, rfl, dc, hx, hko, k μ H2 (Nx.refl _ _ _) R _ (.bl _)⟩
      · cases g
    · refine .inl ?_
      have fin : ∀ {i : Int} {a : Addr} {ns : List Int} {vs : List V}, v = .int i → w = .ref a → (SqL X.K H2 a vs ∨ SqT X.K H2 a vs) → vs = ns.map V.int → r = .ok (.bool (xor neg (ns.any (· == i)))) m → rIn X.K neg v w H2 Q := by
        intro i a ns vs ev ew sq es er
        subst ev ew es er
        refine ⟨a, _, rfl, sq, rfl, PD.flat_ints ns, ?_⟩
        rw [PD.inV_ints]
        refine k μ H2 (Nx.refl _ _ _) R _ ?_
        cases neg <;> simpa using Dn.bl _
      split at g
      · rename_i i ds
        obtain ⟨b, h1, rfl⟩ := Option.map_eq_some_iff.mp g
        obtain ⟨ns, h2, rfl⟩ := Option.map_eq_some_iff.mp h1
        cases hx
        obtain ⟨a, vs, rfl, ha, da⟩ := PD.Dn.tupInv hy
        rw [PD.ints_of h2] at da
        exact fin rfl rfl (.inr ha) da.ints_inv rfl
      · obtain ⟨b, h1, rfl⟩ := Option.map_eq_some_iff.mp g
        obtain ⟨xs, h2, h1⟩ := Option.bind_eq_some_iff.mp h1
        obtain ⟨ds, h3, h1⟩ := Option.bind_eq_some_iff.mp h1
        obtain ⟨ns, h4, rfl⟩ := Option.map_eq_some_iff.mp h1
        cases hx
        obtain ⟨a, vs, rfl, sq, hi⟩ := seq_at R.sr hy h2
        have da := dats_dn R.sr hi h3
        rw [PD.ints_of h4] at da
        exact fin rfl rfl sq da.ints_inv rfl
      · cases g⟩
theorem or_in (hu : X.A.units + 64 < cLine) : OpR X (compareOp .In) (fun x y H Q => rIn X.K false x y H Q ∨ rDIn X false x y H Q) := L2.OpR.or op_in_seq (op_din hu)
theorem or_nin (hu : X.A.units + 64 < cLine) : OpR X (compareOp .NotIn) (fun x y H Q => rIn X.K true x y H Q ∨ rDIn X true x y H Q) := L2.OpR.or op_notIn_seq (op_dnin hu)
/-- len -/
def gLen (G : GI) : GE := gB G fun x m => (seqOf m.s x).map fun xs => .ok (.int xs.length) m
theorem pm_lenI {x : Str} {p pos : Pos} {e : Expr} {G : GI} (h : PMI X W e G) (hg : Gl X x) (hm : X.mg x = none) (hv : bootBuiltins x = some (.builtin "len")) (hn : x ≠ "__name__" := by decide) (hdb : (x == ("__debug__" : Str)) = false := by decide)
    (hs : starEach [e] X.env = (false, eval e X.env) :: starEach [] X.env := by rfl) (hpl : (backTo pos (starEach [] X.env)).any (·.1) = false := by rfl) : PMD X W (.Call (.Name x p) [e] [] pos) (gLen G) :=
  ⟨PE.wk (pe_callB call_len_seq hg hm hv (pa_cons h.pe pa_nil hs) hn hdb hs hpl) fun σ H Q q => (tG.seq (ρ := ρI (gx X)) q).mono fun v H1 z => by
    obtain ⟨y, Fb, μ, m, r, hx, R, g, k⟩ := z
    obtain ⟨xs, h1, rfl⟩ := Option.map_eq_some_iff.mp g
    obtain ⟨a, vs, rfl, sq, hi⟩ := seq_at R.sr hx h1
    exact ⟨a, vs, rfl, sq, k μ H1 (Nx.refl _ _ _) R _ (by rw [hi.length]; exact .int _)⟩⟩
/-! ### lists of one's own changed -/
def lsAt (S : List Ob) : Im → Option (Nat × List Im)
  | .r n => match S[n]? with
    | some (.ls xs) => some (n, xs)
    | _ => none
  | _ => none
theorem ls_at {G : Gx} {μ : List Addr} {Fb : AS} {H : Hp} {S : List Ob} (R : SR G Fb μ H S) {x : Im} {v : V} {n : Nat} {xs : List Im} (h : ImR G μ (U (Lo μ S) Fb) H v x) (e : lsAt S x = some (n, xs)) : ∃ a vs, v = .ref a ∧ μ[n]? = some a ∧ S[n]? = some (.ls xs) ∧ H a = some (.lst vs) ∧ ImA G μ (U (Lo μ S) Fb) H vs xs := by
  unfold lsAt at e
  split at e
  · rename_i k
    obtain ⟨a, rfl, hn⟩ := h
    split at e
    · rename_i ys hy
      cases e
      obtain ⟨vs, ha, hi⟩ := R.ob _ a _ hn hy
      exact ⟨a, vs, rfl, hn, hy, ha, hi⟩
    · cases e
  · cases e
/-- the list's new items are told -/
theorem MR.chgL {G : Gx} {μ : List Addr} {Fb : AS} {H : Hp} {σ : L2.St} {m : Ms} (R : MR G N Fb μ H σ m) {n : Nat} {a : Addr} {xs ys : List Im} {ws : List V} (h1 : μ[n]? = some a) (h2 : m.s[n]? = some (.ls xs)) (hi : ImA G μ (U (Lo μ m.s) Fb) H ws ys) :
    MR G N Fb μ (upd H a (.lst ws)) σ ⟨m.e, m.s.set n (.ls ys)⟩ ∧ Nx μ m.s H μ (m.s.set n (.ls ys)) (upd H a (.lst ws)) := by
  obtain ⟨R1, n1⟩ := R.sr.chg (o' := .ls ys) (u := .lst ws) h1 h2 rfl rfl fun mv => ⟨ws, upd_same, hi.mv (fun _ _ h => h) mv⟩
  exact ⟨R.later n1 R1, n1⟩
theorem MR.chgD {G : Gx} {μ : List Addr} {Fb : AS} {H : Hp} {σ : L2.St} {m : Ms} (R : MR G N Fb μ H σ m) {n : Nat} {a : Addr} {kvs kvs' : List (D × Im)} {u : HO} (h1 : μ[n]? = some a) (h2 : m.s[n]? = some (.dc kvs)) (hi : DcNow G μ (U (Lo μ m.s) Fb) H a kvs' u) :
    MR G N Fb μ (upd H a u) σ ⟨m.e, m.s.set n (.dc kvs')⟩ ∧ Nx μ m.s H μ (m.s.set n (.dc kvs')) (upd H a u) := by
  obtain ⟨R1, n1⟩ := R.sr.chg (o' := .dc kvs') (u := u) h1 h2 rfl rfl fun mv => hi μ _ _ (fun _ _ h => h) mv upd_same
  exact ⟨R.later n1 R1, n1⟩
theorem ImA.app {G : Gx} {μ : List Addr} {F : AS} {H : Hp} {xs ys : List Im} {vs ws : List V} (h : ImA G μ F H vs xs) (h' : ImA G μ F H ws ys) : ImA G μ F H (vs ++ ws) (xs ++ ys) := all2_app h h'
theorem ImA.set {G : Gx} {μ : List Addr} {F : AS} {H : Hp} {x : Im} {v : V} (hx : ImR G μ F H v x) : ∀ {xs : List Im} {vs : List V} {j : Nat}, ImA G μ F H vs xs → ImA G μ F H (vs.set j v) (xs.set j x)
  | _, _, _, .nil => .nil
  | _, _, 0, .cons _ t => .cons hx t
  | _, _, j + 1, .cons h t => .cons h (ImA.set hx t)
/-- the address of an object, later, too -/
theorem lo_ty {K : Fr0} {H : Hp} {a : Addr} {vs : List V} (h : H a = some (.lst vs)) : tyV K "list" (.ref a) H := .inl ⟨rfl, vs, SqL.of h⟩
end
end PM
namespace PM
open PySem PySem.Spec PyProof.Rows L2
open PD (D AS Fr0 U Dn DnA Mv ExIs All2 NT nt_lst nt_tup nt_xd nt_ext nt_rng mv_grow upd_grow sz RCd)
/-! ### methods of lists -/
/-- what a method does with the items, its arguments in hand: what it tells, and the items then -/
structure LMd (X : Cx) (id : String) (φ : List Im → List Im → Option (Im × List Im)) : Prop where
  go : ∃ r, MtR X id r ∧ ∀ {μ : List Addr} {F : AS} {H : Hp} {a : Addr} {vs ws : List V} {xs ys zs : List Im} {x : Im} {Q : VK}, H a = some (.lst vs) → ImA (gx X) μ F H vs xs → ImA (gx X) μ F H ws ys → φ xs ys = some (x, zs) →
    (∀ v us, ImA (gx X) μ F H us zs → ImR (gx X) μ F H v x → Q v (upd H a (.lst us))) → r (.ref a) ws H Q
def fApp (xs ys : List Im) : Option (Im × List Im) := match ys with
  | [y] => if xs.length < 100000 then some (.d .none, xs ++ [y]) else none
  | _ => none
def fExt (xs ys : List Im) : Option (Im × List Im) := match ys with
  | [.d (.list ds)] => if xs.length + ds.length ≤ 100000 then some (.d .none, xs ++ ds.map .d) else none
  | _ => none
def fPop0 (xs ys : List Im) : Option (Im × List Im) := match ys with
  | [] => (xs[xs.length - 1]?).map fun y => (y, xs.dropLast)
  | _ => none
def fIns (xs ys : List Im) : Option (Im × List Im) := match ys with
  | [.d (.int k), y] => if 0 ≤ k ∧ k ≤ 100000 ∧ xs.length ≤ 100000 then some (.d .none, xs.take k.toNat ++ [y] ++ xs.drop k.toNat) else none
  | _ => none
section
variable {X : Cx} {W : WN}
theorem ImA.take {G : Gx} {μ : List Addr} {F : AS} {H : Hp} : ∀ {xs : List Im} {vs : List V} (n : Nat), ImA G μ F H vs xs → ImA G μ F H (vs.take n) (xs.take n)
  | _, _, 0, _ => by simp; exact .nil
  | _, _, n + 1, .nil => .nil
  | _, _, n + 1, .cons h t => .cons h (ImA.take n t)
theorem ImA.drop {G : Gx} {μ : List Addr} {F : AS} {H : Hp} : ∀ {xs : List Im} {vs : List V} (n : Nat), ImA G μ F H vs xs → ImA G μ F H (vs.drop n) (xs.drop n)
  | _, _, 0, h => h
  | _, _, n + 1, .nil => .nil
  | _, _, n + 1, .cons h t => ImA.drop n t
theorem ImA.getV {G : Gx} {μ : List Addr} {F : AS} {H : Hp} {x : Im} : ∀ {vs : List V} {xs : List Im} {j : Nat}, ImA G μ F H vs xs → xs[j]? = some x → ∃ v, vs[j]? = some v ∧ ImR G μ F H v x
  | _, _, _, .nil, e => by simp at e
  | _, _, 0, .cons a b, e => by simp at e; subst e; exact ⟨_, rfl, a⟩
  | _, _, j + 1, .cons a b, e => by
    obtain ⟨v, h1, h2⟩ := ImA.getV (j := j) b (by simpa using e)
    exact ⟨v, by simpa using h1, h2⟩
theorem lm_app : LMd X "list.append" fApp := ⟨rAppend, mt_append, fun {μ F H a vs ws xs ys zs x Q} ha hx hy hf k => by
  unfold fApp at hf
  split at hf
  · split at hf
    · rename_i y hl
      cases hf
      match ws, hy with
      | [w], .cons hw .nil => exact ⟨a, vs, w, rfl, rfl, ha, Nat.lt_of_lt_of_le (by rw [hx.length]; exact hl) (by decide), k .non _ (hx.app (.cons hw .nil)) Dn.non⟩
    · cases hf
  · cases hf⟩
theorem lm_ext : LMd X "list.extend" fExt := ⟨rExtend, mt_extend, fun {μ F H a vs ws xs ys zs x Q} ha hx hy hf k => by
  unfold fExt at hf
  split at hf
  · split at hf
    · rename_i ds hl
      cases hf
      match ws, hy with
      | [w], .cons hw .nil =>
        obtain ⟨b, us, rfl, nb, hb, db⟩ := PD.Dn.lstInv hw
        exact ⟨a, b, vs, us, rfl, rfl, ha, hb, sz (by rw [hx.length, db.length]; exact hl), k .non _ (hx.app (dna_ima db)) Dn.non⟩
    · cases hf
  · cases hf⟩
theorem lm_ins : LMd X "list.insert" fIns := ⟨_, mt_insert, fun {μ F H a vs ws xs ys zs x Q} ha hx hy hf k => by
  unfold fIns at hf
  split at hf
  · split at hf
    · rename_i i y hl
      cases hf
      match ws, hy with
      | [w, u], .cons hw (.cons hu .nil) =>
        cases hw
        exact ⟨a, vs, _, u, rfl, rfl, ha, Nat.lt_of_le_of_lt (by rw [hx.length]; exact hl.2.2) (by decide), hl.1, Int.lt_of_le_of_lt hl.2.1 (by decide), k .non _ (((hx.take _).app (.cons hu .nil)).app (hx.drop _)) Dn.non⟩
    · cases hf
  · cases hf⟩
theorem dropLast_ima {G : Gx} {μ : List Addr} {F : AS} {H : Hp} {xs : List Im} {vs : List V} (h : ImA G μ F H vs xs) : ImA G μ F H vs.dropLast xs.dropLast := by
  rw [List.dropLast_eq_take, List.dropLast_eq_take, h.length]
  exact h.take _
theorem lm_pop0 : LMd X "list.pop" fPop0 := ⟨rPop, mt_pop, fun {μ F H a vs ws xs ys zs x Q} ha hx hy hf k => by
  unfold fPop0 at hf
  split at hf
  · obtain ⟨y, h1, h2⟩ := Option.map_eq_some_iff.mp hf
    cases h2
    match ws, hy with
    | [], .nil =>
      obtain ⟨v, h3, h4⟩ := hx.getV h1
      exact ⟨a, vs, v, rfl, rfl, ha, by rw [hx.length]; exact h3, k v _ (dropLast_ima hx) h4⟩
  · cases hf⟩
/-- one step more, something kept meanwhile -/
theorem tG.keep {α β γ δ ε ζ : Type} {ρ0 : Rel ε ζ} {ρ : Rel α β} {ρ' : Rel γ δ} {Ga : Gm α} {f : α → Gm γ} {σ : L2.St} {H : Hp} {Q : δ → Hp → Prop} {x : ε} {v : ζ} {Fb : AS} {μ : List Addr} {m : Ms} {r : Rs γ} (st : Stab ρ0) (h0 : ρ0 x v μ (U (Lo μ m.s) Fb) H) (R : MR (gx X) W.n Fb μ H σ m) (g : gB Ga f m = some r)
    (k : Go X W Fb σ μ m.s H r fun a μ' S' H' => ∀ b, ρ' a b μ' (U (Lo μ' S') Fb) H' → Q b H') : tG ρ X W Ga σ H fun b H2 => ∃ (a : α) (Fb : AS) (μ : List Addr) (m : Ms) (r : Rs γ), ρ0 x v μ (U (Lo μ m.s) Fb) H2 ∧ ρ a b μ (U (Lo μ m.s) Fb) H2 ∧ MR (gx X) W.n Fb μ H2 σ m ∧ f a m = some r ∧ Go X W Fb σ μ m.s H2 r fun a μ' S' H' => ∀ b, ρ' a b μ' (U (Lo μ' S') Fb) H' → Q b H' := by
  replace g := (gB_def _ _ _).symm.trans g
  split at g
  · cases g
  · rename_i a e ha
    exact ⟨Fb, μ, m, _, R, ha, fun μ' H' t R' b hb => ⟨a, Fb, μ', e, r, st _ _ _ _ _ _ _ _ t.pre t.mv h0, hb, R', g, k.from t⟩⟩
  · rename_i c fs e ha
    cases g
    exact ⟨Fb, μ, m, _, R, ha, k⟩
/-- r.m(args) -/
def gMet (φ : List Im → List Im → Option (Im × List Im)) (Gr : GI) (Ga : GL) : GI := gB Gr fun x m => match lsAt m.s x with
  | none => none
  | some _ => gB Ga (fun ys m => match lsAt m.s x with
    | some (n, xs) => (φ xs ys).map fun p => .ok p.1 ⟨m.e, m.s.set n (.ls p.2)⟩
    | none => none) m
theorem pi_met {id : String} {φ : List Im → List Im → Option (Im × List Im)} {o e : Expr} {es : List Expr} {name : Str} {apos cpos : Pos} {Gr : GI} {Ga : GL} (L : LMd X id φ) (hr : PMI X W o Gr) (ha : PML X W (e :: es) Ga)
    (hp : ∀ {r : V → List V → Hp → VK → Prop} {to : TE} {t : TA}, MtR X id r → PE X o to → PA X (e :: es) t → PE X (.Call (.Attribute o name apos) (e :: es) [] cpos) (tBM X.K "list" r to t)) : PMI X W (.Call (.Attribute o name apos) (e :: es) [] cpos) (gMet φ Gr Ga) := by
  obtain ⟨r, hm, L⟩ := L.go
  refine ⟨PE.wk (hp hm hr.pe ha.pa) fun σ H Q q => (tG.seq (ρ := ρI (gx X)) q).mono fun v H1 z => ?_⟩
  obtain ⟨x, Fb, μ, m, r', hx, R, g, k⟩ := z
  dsimp only at g
  split at g
  · cases g
  rename_i nx hnx
  obtain ⟨n0, xs0⟩ := nx
  obtain ⟨a, vs, rfl, hn, hS, ha0, hi⟩ := ls_at R.sr hx hnx
  have h0 : ImR (gx X) μ (U (Lo μ m.s) Fb) H1 (.ref a) x := hx
  refine ⟨lo_ty ha0, (tG.keep (ρ0 := ρI (gx X)) (ρ := ρL (gx X)) (ρ' := ρI (gx X)) (stabI _) h0 R g k).mono fun ws H2 z => ?_⟩
  obtain ⟨ys, Fb, μ, m, r', hx, hy, R, g, k⟩ := z
  split at g
  · rename_i n xs hl
    obtain ⟨p, hp, rfl⟩ := Option.map_eq_some_iff.mp g
    obtain ⟨a', vs, ea, hn, hS, ha, hi⟩ := ls_at R.sr hx hl
    cases ea
    refine L ha hi hy (x := p.1) (zs := p.2) hp fun v us hu hv => ?_
    obtain ⟨R2, n2⟩ := R.chgL hn hS hu
    exact k μ _ n2 R2 v (hv.mv (fun _ _ h => h) n2.mv)
  · cases g
/-- r.m() -/
def gMet0 (φ : List Im → List Im → Option (Im × List Im)) (Gr : GI) : GI := gB Gr fun x m => match lsAt m.s x with
  | some (n, xs) => (φ xs []).map fun p => .ok p.1 ⟨m.e, m.s.set n (.ls p.2)⟩
  | none => none
theorem pi_met0 {id : String} {φ : List Im → List Im → Option (Im × List Im)} {o : Expr} {name : Str} {apos cpos : Pos} {Gr : GI} (L : LMd X id φ) (hr : PMI X W o Gr)
    (hp : ∀ {r : V → List V → Hp → VK → Prop} {to : TE}, MtR X id r → PE X o to → PE X (.Call (.Attribute o name apos) [] [] cpos) (tBM0 X.K "list" r to)) : PMI X W (.Call (.Attribute o name apos) [] [] cpos) (gMet0 φ Gr) := by
  obtain ⟨r, hm, L⟩ := L.go
  refine ⟨PE.wk (hp hm hr.pe) fun σ H Q q => (tG.seq (ρ := ρI (gx X)) q).mono fun v H1 z => ?_⟩
  obtain ⟨x, Fb, μ, m, r', hx, R, g, k⟩ := z
  dsimp only at g
  split at g
  · rename_i n xs hl
    obtain ⟨p, hp, rfl⟩ := Option.map_eq_some_iff.mp g
    obtain ⟨a, vs, rfl, hn, hS, ha, hi⟩ := ls_at R.sr hx hl
    refine ⟨lo_ty ha, L ha hi (ws := []) (ys := []) .nil (x := p.1) (zs := p.2) hp fun v us hu hv => ?_⟩
    obtain ⟨R2, n2⟩ := R.chgL hn hS hu
    exact k μ _ n2 R2 v (hv.mv (fun _ _ h => h) n2.mv)
  · cases g
/-! ### d.get(key, x), d.setdefault(key, x) -/
def gDGetD (Gr : GI) (Gk : GE) (Gx : GI) : GI := gB Gr fun x m => match dcOf m.s x with
  | none => none
  | some _ => gB (gB Gk fun d => gB Gx fun y => gP (d, y)) (fun p m => match dcOf m.s x with
    | some kvs => if keyOk p.1 kvs then some (.ok ((findD p.1 kvs).getD p.2) m) else none
    | none => none) m
def ρP (G : Gx) : Rel (D × Im) (List V) := fun p vs μ F H => ∃ v w, vs = [v, w] ∧ Dn G.K F H v p.1 ∧ ImR G μ F H w p.2
theorem pa_pair {k e : Expr} {Gk : GE} {Ge : GI} (hk : PMD X W k Gk) (he : PMI X W e Ge) (h1 : starEach [k, e] X.env = (false, eval k X.env) :: starEach [e] X.env := by rfl) (h2 : starEach [e] X.env = (false, eval e X.env) :: starEach [] X.env := by rfl) : PA X [k, e] (tG (ρP (gx X)) X W (gB Gk fun d => gB Ge fun y => gP (d, y))) :=
  PA.wk (pa_cons hk.pe (pa_cons he.pe pa_nil h2) h1) fun σ H Q q => (tG.seq2 (ρ := ρD X.K) (ρ1 := ρI (gx X)) (stabD _) q).mono fun v H1 z => z.mono fun w H2 z => by
    obtain ⟨d, x, Fb, μ, m, r, hx, hy, R, g, k⟩ := z
    cases gP_some g
    exact k μ H2 (Nx.refl _ _ _) R [v, w] ⟨v, w, rfl, hx, hy⟩
theorem pi_dget {o k e : Expr} {apos cpos : Pos} {name : Str} {Gr : GI} {Gk : GE} {Ge : GI} (hu : X.A.units + 64 < cLine) (hr : PMI X W o Gr) (hk : PMD X W k Gk) (he : PMI X W e Ge)
    (hp : ∀ {r : V → List V → Hp → VK → Prop} {to : TE} {t : TA}, MtR X "dict.get" r → PE X o to → PA X [k, e] t → PE X (.Call (.Attribute o name apos) [k, e] [] cpos) (tBMD X r to t)) (h1 : starEach [k, e] X.env = (false, eval k X.env) :: starEach [e] X.env := by rfl) (h2 : starEach [e] X.env = (false, eval e X.env) :: starEach [] X.env := by rfl) :
    PMI X W (.Call (.Attribute o name apos) [k, e] [] cpos) (gDGetD Gr Gk Ge) := by
  refine ⟨PE.wk (hp (mt_dget hu) hr.pe (pa_pair hk he h1 h2)) fun σ H Q q => (tG.seq (ρ := ρI (gx X)) q).mono fun v H1 z => ?_⟩
  obtain ⟨x, Fb, μ, m, r', hx, R, g, k⟩ := z
  dsimp only at g
  split at g
  · cases g
  rename_i kvs0 hnx
  obtain ⟨n0, a, rfl, rfl, hn, hS, dc⟩ := dc_at R.sr hx hnx
  refine ⟨⟨a, rfl, dc.is⟩, (tG.keep (ρ0 := ρI (gx X)) (ρ := ρP (gx X)) (ρ' := ρI (gx X)) (stabI _) hx R g k).mono fun ws H2 z => ?_⟩
  obtain ⟨p, Fb, μ, m, r', hx, ⟨v, w, rfl, hd, hy⟩, R, g, k⟩ := z
  split at g
  · rename_i kvs hl
    split at g
    · rename_i hko
      cases g
      obtain ⟨n1, a', e1, e2, hn, hS, dc⟩ := dc_at R.sr hx hl
      cases e1; cases e2
      refine ⟨μ, _, kvs, a, p.1, v, w, rfl, rfl, dc, hd, hko, fun u hu => k μ H2 (Nx.refl _ _ _) R u ?_⟩
      cases hf : findD p.1 kvs with
      | none => rw [hf] at hu; subst hu; exact hy
      | some z => rw [hf] at hu; exact hu
    · cases g
  · cases g
def gDDef (Gr : GI) (Gk : GE) (Gx : GI) : GI := gB Gr fun x m => match dcOf m.s x with
  | none => none
  | some _ => gB (gB Gk fun d => gB Gx fun y => gP (d, y)) (fun p m => match x, dcOf m.s x with
    | .r n, some kvs => if keyOk p.1 kvs && decide (kvs.length ≤ 100000) then match findD p.1 kvs with
      | some z => some (.ok z m)
      | none => some (.ok p.2 ⟨m.e, m.s.set n (.dc (putD p.1 p.2 kvs))⟩)
      else none
    | _, _ => none) m
theorem pi_ddef {o k e : Expr} {apos cpos : Pos} {name : Str} {Gr : GI} {Gk : GE} {Ge : GI} (hu : X.A.units + 64 < cLine) (hr : PMI X W o Gr) (hk : PMD X W k Gk) (he : PMI X W e Ge)
    (hp : ∀ {r : V → List V → Hp → VK → Prop} {to : TE} {t : TA}, MtR X "dict.setdefault" r → PE X o to → PA X [k, e] t → PE X (.Call (.Attribute o name apos) [k, e] [] cpos) (tBMD X r to t)) (h1 : starEach [k, e] X.env = (false, eval k X.env) :: starEach [e] X.env := by rfl) (h2 : starEach [e] X.env = (false, eval e X.env) :: starEach [] X.env := by rfl) :
    PMI X W (.Call (.Attribute o name apos) [k, e] [] cpos) (gDDef Gr Gk Ge) := by
  refine ⟨PE.wk (hp (mt_ddef hu) hr.pe (pa_pair hk he h1 h2)) fun σ H Q q => (tG.seq (ρ := ρI (gx X)) q).mono fun v H1 z => ?_⟩
  obtain ⟨x, Fb, μ, m, r', hx, R, g, k⟩ := z
  dsimp only at g
  split at g
  · cases g
  rename_i kvs0 hnx
  obtain ⟨n0, a, rfl, rfl, hn, hS, dc⟩ := dc_at R.sr hx hnx
  refine ⟨⟨a, rfl, dc.is⟩, (tG.keep (ρ0 := ρI (gx X)) (ρ := ρP (gx X)) (ρ' := ρI (gx X)) (stabI _) hx R g k).mono fun ws H2 z => ?_⟩
  obtain ⟨p, Fb, μ, m, r', hx, ⟨v, w, rfl, hd, hy⟩, R, g, k⟩ := z
  split at g
  · rename_i n2 kvs en hl
    cases en
    split at g
    · rename_i hko
      rw [Bool.and_eq_true, decide_eq_true_eq] at hko
      obtain ⟨n1, a', e1, e2, hn, hS, dc⟩ := dc_at R.sr hx hl
      cases e1; cases e2
      refine ⟨μ, _, kvs, a, p.1, v, w, p.2, rfl, rfl, dc, hd, hko.1, hko.2, hy, fun u z hf hu => ?_, fun hf u hu => ?_⟩
      · rw [hf] at g
        cases g
        exact k μ H2 (Nx.refl _ _ _) R u hu
      · rw [hf] at g
        cases g
        obtain ⟨R2, n2⟩ := R.chgD hn hS hu
        exact k μ _ n2 R2 w (hy.mv (fun _ _ h => h) n2.mv)
    · cases g
  · cases g
/-! ### items stored -/
theorem PSet.or {t t' : TSet} (h : PSet X t) (h' : PSet X t') : PSet X (fun o i v H Q => t o i v H Q ∨ t' o i v H Q) := fun pins s σ H o i v ov iv u Q I ro ri rv q => q.elim (h pins s σ H o i v ov iv u Q I ro ri rv) (h' pins s σ H o i v ov iv u Q I ro ri rv)
def setAt (x : Im) (z : D) (y : Im) (m : Ms) : Option Ms := match x with
  | .r n => match m.s[n]? with
    | some (.dc kvs) => if keyOk z kvs && decide (kvs.length ≤ 100000) then some ⟨m.e, m.s.set n (.dc (putD z y kvs))⟩ else none
    | some (.ls xs) => match z with
      | .int k => (ixN xs.length k).map fun j => ⟨m.e, m.s.set n (.ls (xs.set j y))⟩
      | _ => none
    | _ => none
  | _ => none
abbrev rSet (X : Cx) : TSet := fun o i v H Q => rSetL o i v H Q ∨ rDPut X o i v H Q
theorem set_step {Fb : AS} {μ : List Addr} {m m' : Ms} {H : Hp} {σ : L2.St} {o i v : V} {x : Im} {z : D} {y : Im} {Q : Hp → Prop} (R : MR (gx X) W.n Fb μ H σ m) (hx : ImR (gx X) μ (U (Lo μ m.s) Fb) H o x) (hz : Dn X.K (U (Lo μ m.s) Fb) H i z) (hy : ImR (gx X) μ (U (Lo μ m.s) Fb) H v y) (h : setAt x z y m = some m')
    (k : ∀ H', MR (gx X) W.n Fb μ H' σ m' → Nx μ m.s H μ m'.s H' → Q H') : rSet X o i v H Q := by
  unfold setAt at h
  split at h
  · rename_i n
    obtain ⟨a, rfl, hn⟩ := hx
    split at h
    · rename_i kvs hS
      split at h
      · rename_i hko
        cases h
        rw [Bool.and_eq_true, decide_eq_true_eq] at hko
        refine .inr ⟨μ, _, kvs, a, z, y, rfl, R.sr.ob n a _ hn hS, hz, hko.1, hko.2, hy, fun u hu => ?_⟩
        obtain ⟨R2, n2⟩ := R.chgD hn hS hu
        exact k _ R2 n2
      · cases h
    · rename_i xs hS
      split at h
      · obtain ⟨j, hj, rfl⟩ := Option.map_eq_some_iff.mp h
        cases hz
        obtain ⟨vs, ha, hi⟩ := R.sr.ob n a _ hn hS
        refine .inl ⟨a, vs, _, j, rfl, rfl, ha, by rw [hi.length]; exact hj, ?_⟩
        obtain ⟨R2, n2⟩ := R.chgL hn hS (hi.set (j := j) hy)
        exact k _ R2 n2
      · cases h
    · cases h
  · cases h
theorem tS.after3 {α β α' β' α2 β2 : Type} {ρ : Rel α β} {ρ1 : Rel α' β'} {ρ2 : Rel α2 β2} {g : Gm α} {g1 : Gm α'} {g2 : Gm α2} {f : α → α' → α2 → Gs} {D : Ends} {σ : L2.St} {H : Hp} (st : Stab ρ) (st1 : Stab ρ1) (q : tS X W (gS g fun a => gS g1 fun b => gS g2 (f a b)) D σ H) :
    tG ρ X W g σ H fun b H1 => tG ρ1 X W g1 σ H1 fun b1 H2 => tG ρ2 X W g2 σ H2 fun b2 H3 => ∃ (a : α) (a1 : α') (a2 : α2) (Fb : AS) (μ : List Addr) (m : Ms) (r : Fl), ρ a b μ (U (Lo μ m.s) Fb) H3 ∧ ρ1 a1 b1 μ (U (Lo μ m.s) Fb) H3 ∧ ρ2 a2 b2 μ (U (Lo μ m.s) Fb) H3 ∧ MR (gx X) W.n Fb μ H3 σ m ∧ f a a1 a2 m = some r ∧ Fo X W Fb μ m.s H3 D r := by
  refine (tS.after2 (ρ := ρ) (ρ1 := ρ1) (f := fun a b => gS g2 (f a b)) st q).mono fun b H1 z => z.mono fun b1 H2 z => ?_
  obtain ⟨a, a1, Fb, μ, m, r, hb, hb1, R, h, k⟩ := z
  replace h := (gS_def _ _ _).symm.trans h
  split at h
  · cases h
  · rename_i a2 e hg
    exact ⟨Fb, μ, m, _, R, hg, fun μ' H3 t R3 b2 hb2 => ⟨a, a1, a2, Fb, μ', e, r, st _ _ _ _ _ _ _ _ t.pre t.mv hb, st1 _ _ _ _ _ _ _ _ t.pre t.mv hb1, hb2, R3, h, k.from t⟩⟩
  · rename_i c fs e hg
    cases h
    exact ⟨Fb, μ, m, _, R, hg, fun cls dd μ' H' t R' x => k cls dd σ μ' H' t R' x⟩
def gSet (Gv Gr : GI) (Gi : GE) : Gs := gS Gv fun y => gS Gr fun x => gS Gi fun z m => (setAt x z y m).map .nx
theorem pms_set {o ix e : Expr} {p pos : Pos} {Gv Gr : GI} {Gi : GE} (hu : X.A.units + 64 < cLine) (hr : PMI X W o Gr) (hi : PMD X W ix Gi) (h : PMI X W e Gv) (hg : ∀ {to ti : TE} {t : TSet}, PE X o to → PE X ix ti → PSet X t → PG X (.Subscript o ix p) (gSub to ti t))
    (hs : swapsWithSole [.Subscript o ix p] e pos.line X.env = pure false := by rfl) (hw : swappedStores [.Subscript o ix p] e X.env = pure none := by rfl)
    (h1 : (assignEach [.Subscript o ix p] X.env).map (·.2) = [assign (.Subscript o ix p) X.env] := by rfl) : PMS X W (.Assign [.Subscript o ix p] e pos) (gSet Gv Gr Gi) :=
  ⟨PS.wk (ps_asg h.pe (hg hr.pe hi.pe (PSet.or set_list (set_dput hu))) hs hw h1) fun D σ H q => (tS.after3 (ρ := ρI (gx X)) (ρ1 := ρI (gx X)) (ρ2 := ρD X.K) (stabI _) (stabI _) q).mono fun v H1 z => z.mono fun o H2 z => z.mono fun i H3 z => by
    obtain ⟨y, x, z, Fb, μ, m, r, hy, hx, hz, R, g, k⟩ := z
    obtain ⟨m', h1, rfl⟩ := Option.map_eq_some_iff.mp g
    exact set_step R hx hz hy h1 fun H' R' n => k σ μ H' n R'⟩
end
end PM
namespace PM
open PySem PySem.Spec PyProof.Rows L2
open PD (D AS Fr0 U Dn DnA Mv ExIs All2 NT nt_lst nt_tup nt_xd nt_ext nt_rng mv_grow upd_grow sz RCd upto upto_length upto_get bRg bRg_ok dRange1 dRange2 dRange3 pairs pairs_length pairs_get dZip enumD enumD_length enumD_get dEnum)
section
variable {X : Cx} {W : WN}
/-! ### what is walked -/
/-- J gives the items, whatever else is done meanwhile -/
def Wk (K : Fr0) (F : AS) (J : L2.It) (H : Hp) (items : List D) : Prop := ∀ (F2 : AS) H2, Mv F H F2 H2 → (∀ a, F2 a → ∃ o, H2 a = some o) →
  (∀ (i : Nat) (d : D), items[i]? = some d → J.go i H2 ∧ ∀ x H3, J.yld i H2 x H3 → (∀ a o, H2 a = some o → H3 a = some o) ∧ Dn K F2 H3 x d) ∧ J.stop items.length H2
def tI (X : Cx) (W : WN) (G : GA) : TI := fun σ H R => ∃ (Fb : AS) (μ : List Addr) (m : Ms) (r : Rs (List D)), MR (gx X) W.n Fb μ H σ m ∧ G m = some r ∧ Go X W Fb σ μ m.s H r fun items μ' S' H' => ∀ J, Wk X.K (U (Lo μ' S') Fb) J H' items → R J H'
structure PMI' (X : Cx) (W : WN) (tg iter : Expr) (G : GA) : Prop where
  pi : PI X tg iter (tI X W G)
theorem PI.wk {tg e : Expr} {t t' : TI} (h : PI X tg e t) (w : ∀ σ H R, t' σ H R → t σ H R) : PI X tg e t' := ⟨fun pins s σ H R I q => h.run pins s σ H R I (w σ H R q)⟩
theorem wk_of {K : Fr0} {F : AS} {J : L2.It} {H : Hp} {items : List D} {n : Nat} {P : Hp → Prop} {Y : Nat → Hp → V → Hp → Prop} (w : Walk J n P Y) (hn : n = items.length) (hP : ∀ F2 H2, Mv F H F2 H2 → P H2)
    (hY : ∀ (F2 : AS) H2, Mv F H F2 H2 → (∀ p, H2 p = none → ¬ F2 p) → ∀ (i : Nat) (d : D) x H3, items[i]? = some d → Y i H2 x H3 → (∀ a o, H2 a = some o → H3 a = some o) ∧ Dn K F2 H3 x d) : Wk K F J H items := fun F2 H2 m tr => by
  subst hn
  have fr : ∀ p, H2 p = none → ¬ F2 p := fun p hp z => by
    obtain ⟨o, e⟩ := tr p z
    rw [hp] at e; cases e
  refine ⟨fun i d hd => ?_, w.stops H2 (hP F2 H2 m)⟩
  have hi : i < items.length := (List.getElem?_eq_some_iff.mp hd).1
  exact ⟨w.goes i H2 hi (hP F2 H2 m), fun x H3 y => hY F2 H2 m fr i d x H3 hd (w.yields i H2 x H3 hi (hP F2 H2 m) y)⟩
theorem sqt_mv {K : Fr0} {F F2 : AS} {H H2 : Hp} {a : Addr} {xs : List V} (e : (¬ F a ∧ H a = some (.tup xs)) ∨ SqT K (fun _ => Option.none) a xs) (m : Mv F H F2 H2) : SqT K H2 a xs := PD.sqt_of (F := F2) (e.imp (fun z => m a _ z.1 z.2 nt_tup) id)
def gSeqOf (G : GE) : GA := gB G fun d => gO (match d with | .list ds => some ds | .tuple ds => some ds | _ => none)
theorem tI.seq {α β : Type} {ρ : Rel α β} {G : Gm α} {f : α → GA} {σ : L2.St} {H : Hp} {R : L2.It → Hp → Prop} (q : tI X W (gB G f) σ H R) : tG ρ X W G σ H fun b H1 => ∃ (a : α) (Fb : AS) (μ : List Addr) (m : Ms) (r : Rs (List D)), ρ a b μ (U (Lo μ m.s) Fb) H1 ∧ MR (gx X) W.n Fb μ H1 σ m ∧ f a m = some r ∧
    Go X W Fb σ μ m.s H1 r fun items μ' S' H' => ∀ J, Wk X.K (U (Lo μ' S') Fb) J H' items → R J H' := by
  obtain ⟨Fb, μ, m, r, R0, g, k⟩ := q
  replace g := (gB_def _ _ _).symm.trans g
  split at g
  · cases g
  · rename_i a e hg
    exact ⟨Fb, μ, m, _, R0, hg, fun μ' H1 t1 R1 b hb => ⟨a, Fb, μ', e, r, hb, R1, g, k.from t1⟩⟩
  · rename_i c fs e hg
    cases g
    exact ⟨Fb, μ, m, _, R0, hg, k⟩
theorem pmi_seq {tg e : Expr} {G : GE} (h : PMD X W e G) : PMI' X W tg e (gSeqOf G) := ⟨⟨fun pins s σ H R I q => by
  obtain ⟨Fb, μ, m, r, R0, g, k⟩ := q
  unfold gSeqOf at g; replace g := (gB_def _ _ _).symm.trans g
  split at g
  · cases g
  · rename_i d e1 hd
    obtain ⟨ds, h1, rfl⟩ := gO_some g
    split at h1
    · cases h1
      refine (pi_list h.pe).run pins s σ H R I ⟨Fb, μ, m, _, R0, hd, fun μ1 H1 t1 R1 v hv => ?_⟩
      obtain ⟨a, vs, rfl, na, ha, da⟩ := PD.Dn.lstInv hv
      refine ⟨a, rfl, ⟨vs, SqL.of ha⟩, k μ1 H1 t1 R1 _ (wk_of (walk_list (xs := vs)) da.length (fun F2 H2 m => SqL.of (m a _ na ha nt_lst).2) fun F2 H2 m fr i d x H3 hd y => ?_)⟩
      obtain ⟨rfl, hx⟩ := y
      obtain ⟨d', h2, h3⟩ := da.getV hx
      rw [hd] at h2; cases h2
      exact ⟨fun _ _ e => e, h3.mv m⟩
    · cases h1
      refine (pi_tup h.pe).run pins s σ H R I ⟨Fb, μ, m, _, R0, hd, fun μ1 H1 t1 R1 v hv => ?_⟩
      cases hv with
      | tup ha da =>
        rename_i a vs
        refine ⟨a, rfl, ⟨vs, PD.sqt_of ha⟩, k μ1 H1 t1 R1 _ (wk_of (walk_tup (xs := vs)) da.length (fun F2 H2 m => sqt_mv ha m) fun F2 H2 m fr i d x H3 hd y => ?_)⟩
        obtain ⟨rfl, hx⟩ := y
        obtain ⟨d', h2, h3⟩ := da.getV hx
        rw [hd] at h2; cases h2
        exact ⟨fun _ _ e => e, h3.mv m⟩
    · cases h1
  · rename_i c fs e1 hd
    cases g
    exact (pi_list h.pe).run pins s σ H R I ⟨Fb, μ, m, _, R0, hd, k⟩⟩⟩
theorem wk_range {K : Fr0} {F : AS} {H : Hp} {lo : Int} {n : Nat} : Wk K F (Itr lo n) H (upto lo 1 n) := wk_of walk_range (upto_length _ _ _).symm (fun _ _ _ => trivial) fun F2 H2 m fr i d x H3 hd y => by
  obtain ⟨rfl, rfl⟩ := y
  rw [upto_get hd, Int.mul_one]
  exact ⟨fun _ _ e => e, .int _⟩
theorem wk_rangeC {K : Fr0} {F : AS} {H : Hp} {lo c : Int} {n : Nat} : Wk K F (Itc lo c n) H (upto lo c n) := wk_of walk_rangeC (upto_length _ _ _).symm (fun _ _ _ => trivial) fun F2 H2 m fr i d x H3 hd y => by
  obtain ⟨rfl, rfl⟩ := y
  rw [upto_get hd]
  exact ⟨fun _ _ e => e, .int _⟩
section
variable {tg a b c : Expr} {G : GA} {p pos : Pos}
theorem pmi_range1 (hg : Gl X "range") (hm : X.mg "range" = none) (ha : PMA X W [a] G) (hs : starEach [a] X.env = [(false, eval a X.env)] := by rfl) : PMI' X W tg (.Call (.Name "range" p) [a] [] pos) (gB G fun ds => gO (dRange1 ds)) :=
  ⟨PI.wk (pi_range1 hg hm ha.pa hs) fun σ H R q => (tI.seq (ρ := ρA X.K) q).mono fun v H1 z => by
    obtain ⟨ds, Fb, μ, m, r, hx, R0, g, k⟩ := z
    obtain ⟨items, h1, rfl⟩ := gO_some g
    unfold dRange1 at h1
    split at h1
    · split at h1
      · rename_i hb
        cases h1
        obtain ⟨v, rfl, h⟩ := hx.one
        cases h
        exact ⟨_, rfl, (bRg_ok hb).1, (bRg_ok hb).2, k μ H1 (Nx.refl _ _ _) R0 _ wk_range⟩
      · cases h1
    · cases h1⟩
theorem pmi_range2 (hg : Gl X "range") (hm : X.mg "range" = none) (ha : PMA X W [a, b] G) (hs : starEach [a, b] X.env = [(false, eval a X.env), (false, eval b X.env)] := by rfl) (hs2 : starEach [b] X.env = [(false, eval b X.env)] := by rfl) :
    PMI' X W tg (.Call (.Name "range" p) [a, b] [] pos) (gB G fun ds => gO (dRange2 ds)) :=
  ⟨PI.wk (pi_range2 hg hm ha.pa hs hs2) fun σ H R q => (tI.seq (ρ := ρA X.K) q).mono fun v H1 z => by
    obtain ⟨ds, Fb, μ, m, r, hx, R0, g, k⟩ := z
    obtain ⟨items, h1, rfl⟩ := gO_some g
    unfold dRange2 at h1
    split at h1
    · split at h1
      · rename_i hb
        cases h1
        rw [Bool.and_eq_true] at hb
        obtain ⟨v, u, rfl, h, h'⟩ := hx.two
        cases h; cases h'
        exact ⟨_, _, rfl, ⟨(bRg_ok hb.1).1, (bRg_ok hb.1).2, (bRg_ok hb.2).1, (bRg_ok hb.2).2⟩, k μ H1 (Nx.refl _ _ _) R0 _ wk_range⟩
      · cases h1
    · cases h1⟩
theorem pmi_range3 (hg : Gl X "range") (hm : X.mg "range" = none) (ha : PMA X W [a, b, c] G) (hs : starEach [a, b, c] X.env = (false, eval a X.env) :: starEach [b, c] X.env := by rfl) (hpl : (backTo pos (starEach [b, c] X.env)).any (·.1) = false := by rfl) :
    PMI' X W tg (.Call (.Name "range" p) [a, b, c] [] pos) (gB G fun ds => gO (dRange3 ds)) :=
  ⟨PI.wk (pi_range3 hg hm ha.pa hs hpl) fun σ H R q => (tI.seq (ρ := ρA X.K) q).mono fun v H1 z => by
    obtain ⟨ds, Fb, μ, m, r, hx, R0, g, k⟩ := z
    obtain ⟨items, h1, rfl⟩ := gO_some g
    unfold dRange3 at h1
    split at h1
    · split at h1
      · rename_i hb
        cases h1
        rw [Bool.and_eq_true, Bool.and_eq_true] at hb
        cases hx with
        | cons h hx =>
          obtain ⟨v, u, rfl, h', h''⟩ := hx.two
          cases h; cases h'; cases h''
          have hc := of_decide_eq_true hb.2
          subst hc
          exact ⟨_, _, _, _, rfl, RgC.neg (bRg_ok hb.1.1).1 (bRg_ok hb.1.1).2 (bRg_ok hb.1.2).1 (bRg_ok hb.1.2).2, k μ H1 (Nx.refl _ _ _) R0 _ wk_rangeC⟩
      · cases h1
    · cases h1⟩
end
theorem pair_dn {K : Fr0} {F : AS} {H2 : Hp} {H3 : Hp} {x : V} {i : Nat} {xs ys : List V} {ds es : List D} {d : D} (fr : ∀ p, H2 p = none → ¬ F p) (hd : (pairs ds es)[i]? = some d) (y : YPair (fun i => xs[i]?) (fun i => ys[i]?) i H2 x H3)
    (da : DnA K F H2 xs ds) (db : DnA K F H2 ys es) : (∀ a o, H2 a = some o → H3 a = some o) ∧ Dn K F H3 x d := by
  obtain ⟨T, x1, y1, rfl, hT, rfl, h1, h2⟩ := y
  obtain ⟨d1, d2, h3, h4, rfl⟩ := pairs_get hd
  obtain ⟨d1', h5, h6⟩ := da.getV h1
  obtain ⟨d2', h7, h8⟩ := db.getV h2
  rw [h3] at h5; cases h5
  rw [h4] at h7; cases h7
  exact ⟨upd_grow hT, .tup (.inl ⟨fr T hT, upd_same⟩) (.cons (h6.mv (mv_grow (upd_grow hT))) (.cons (h8.mv (mv_grow (upd_grow hT))) .nil))⟩
theorem pmi_zip {a b : Expr} {elts : List Expr} {kk : Nat} {tpos p pos : Pos} {G : GA} (hg : Gl X "zip") (hm : X.mg "zip" = none) (ha : PMA X W [a, b] G)
    (hs : starEach [a, b] X.env = (false, eval a X.env) :: starEach [b] X.env := by rfl) (hpl : (backTo pos (starEach [b] X.env)).any (·.1) = false := by rfl) :
    PMI' X W (.Tuple elts kk tpos) (.Call (.Name "zip" p) [a, b] [] pos) (gB G fun ds => gO (dZip ds)) :=
  ⟨PI.wk (RZ.pi_zipA hg hm ha.pa hs hpl) fun σ H R q => (tI.seq (ρ := ρA X.K) q).mono fun v H1 z => by
    obtain ⟨ds, Fb, μ, m, r, hx, R0, g, k⟩ := z
    obtain ⟨items, h1, rfl⟩ := gO_some g
    unfold dZip at h1
    split at h1
    · cases h1
      obtain ⟨v, u, rfl, h, h'⟩ := hx.two
      obtain ⟨a, vs, rfl, na, ha, da⟩ := PD.Dn.lstInv h
      obtain ⟨b, ws, rfl, nb, hb, db⟩ := PD.Dn.lstInv h'
      refine ⟨a, b, vs, ws, rfl, .inl ⟨SqL.of ha, SqL.of hb, k μ H1 (Nx.refl _ _ _) R0 _ (wk_of (walk_zip (xs := vs) (ys := ws) rfl) (by rw [pairs_length, da.length, db.length]) (fun F2 H2 m => ⟨SqL.of (m a _ na ha nt_lst).2, SqL.of (m b _ nb hb nt_lst).2⟩) fun F2 H2 m fr i d x H3 hd y => pair_dn fr hd y (da.mv m) (db.mv m))⟩⟩
    · cases h1
      obtain ⟨v, u, rfl, h, h'⟩ := hx.two
      cases h with
      | tup ha da =>
        cases h' with
        | tup hb db =>
          rename_i a vs b ws
          refine ⟨a, b, vs, ws, rfl, .inr ⟨PD.sqt_of ha, PD.sqt_of hb, k μ H1 (Nx.refl _ _ _) R0 _ (wk_of (PD.walk_zipT (xs := vs) (ys := ws) rfl) (by rw [pairs_length, da.length, db.length]) (fun F2 H2 m => ⟨sqt_mv ha m, sqt_mv hb m⟩) fun F2 H2 m fr i d x H3 hd y => pair_dn fr hd y (da.mv m) (db.mv m))⟩⟩
    · cases h1⟩
theorem en_dn {K : Fr0} {F : AS} {H2 : Hp} {H3 : Hp} {x : V} {i : Nat} {xs : List V} {ds : List D} {d : D} (fr : ∀ p, H2 p = none → ¬ F p) (hd : (enumD 0 ds)[i]? = some d) (y : YPair (fun i => some (.int (i : Nat))) (fun i => xs[i]?) i H2 x H3)
    (da : DnA K F H2 xs ds) : (∀ a o, H2 a = some o → H3 a = some o) ∧ Dn K F H3 x d := by
  obtain ⟨T, x1, y1, rfl, hT, rfl, h1, h2⟩ := y
  cases h1
  obtain ⟨d2, h4, rfl⟩ := enumD_get hd
  obtain ⟨d2', h7, h8⟩ := da.getV h2
  rw [h4] at h7; cases h7
  rw [Nat.zero_add]
  exact ⟨upd_grow hT, .tup (.inl ⟨fr T hT, upd_same⟩) (.cons (.int _) (.cons (h8.mv (mv_grow (upd_grow hT))) .nil))⟩
theorem pmi_enum {a : Expr} {elts : List Expr} {kk : Nat} {tpos p pos : Pos} {G : GA} (hg : Gl X "enumerate") (hm : X.mg "enumerate" = none) (ha : PMA X W [a] G) (hs : starEach [a] X.env = [(false, eval a X.env)] := by rfl) :
    PMI' X W (.Tuple elts kk tpos) (.Call (.Name "enumerate" p) [a] [] pos) (gB G fun ds => gO (dEnum ds)) := ⟨⟨fun pins s σ H R I q => by
  obtain ⟨Fb, μ, m, r, R0, g, k⟩ := q
  replace g := (gB_def _ _ _).symm.trans g
  split at g
  · cases g
  · rename_i ds e1 hd
    obtain ⟨items, h1, rfl⟩ := gO_some g
    unfold dEnum at h1
    split at h1
    · cases h1
      refine (pi_enum hg hm ha.pa hs).run pins s σ H R I ⟨Fb, μ, m, _, R0, hd, fun μ1 H1 t1 R1 v hv => ?_⟩
      obtain ⟨v, rfl, h⟩ := hv.one
      obtain ⟨a, vs, rfl, na, ha, da⟩ := PD.Dn.lstInv h
      exact ⟨a, vs, rfl, SqL.of ha, k μ1 H1 t1 R1 _ (wk_of (walk_enum (xs := vs)) (by rw [enumD_length, da.length]) (fun F2 H2 m => SqL.of (m a _ na ha nt_lst).2) fun F2 H2 m fr i d x H3 hd y => en_dn fr hd y (da.mv m))⟩
    · cases h1
      refine (PD.pi_enT hg hm ha.pa hs).run pins s σ H R I ⟨Fb, μ, m, _, R0, hd, fun μ1 H1 t1 R1 v hv => ?_⟩
      obtain ⟨v, rfl, h⟩ := hv.one
      cases h with
      | tup ha da =>
        rename_i a vs
        exact ⟨a, vs, rfl, PD.sqt_of ha, k μ1 H1 t1 R1 _ (wk_of (PD.walk_u (xs := vs)) (by rw [enumD_length, da.length]) (fun F2 H2 m => sqt_mv ha m) fun F2 H2 m fr i d x H3 hd y => en_dn fr hd y (da.mv m))⟩
    · cases h1
  · rename_i c fs e1 hd
    cases g
    exact (pi_enum hg hm ha.pa hs).run pins s σ H R I ⟨Fb, μ, m, _, R0, hd, k⟩⟩⟩
/-! ### for -/
def forLoop (t : Tg) (B : Gs) : List D → Gs
  | [], e => some (.nx e)
  | d :: ds, e => match tTG t d e with
    | none => none
    | some e1 => match B e1 with
      | some (.nx e2) => forLoop t B ds e2
      | some (.ct e2) => forLoop t B ds e2
      | some (.bk e2) => some (.nx e2)
      | some (.rt v e2) => some (.rt v e2)
      | some (.ex c fs e2) => some (.ex c fs e2)
      | none => none
def gFor (Gi : GA) (t : Tg) (B : Gs) : Gs := gS Gi fun items => forLoop t B items
theorem pms_for {tg iter : Expr} {body : List Stmt} {pos : Pos} {Gi : GA} {t : Tg} {B : Gs} (hp : PassesOwn (model X.prog X.w) X.A X.env X.xe) (hc : X.calm = true) (hi : PMI' X W tg iter Gi) (hg : PG X tg (gTG X.K t)) (hb : PMSs X W body B)
    (hs : ∀ x, foldedSetIterable iter X.env x = pure x := by intro _; rfl) : PMS X W (.For tg iter body [] pos) (gFor Gi t B) := ⟨PS.wk (ps_for hp hc hi.pi hg hb.pss hs) fun Dn σ H q => by
  obtain ⟨Fb, μ, m, r, R, g, k⟩ := q
  unfold gFor at g; replace g := (gS_def _ _ _).symm.trans g
  split at g
  · cases g
  rotate_left
  · rename_i c fs e hg
    cases g
    exact ⟨Fb, μ, m, _, R, hg, fun cls dd μ' H' t R' x => k cls dd σ μ' H' t R' x⟩
  rename_i items e0 hgi
  refine ⟨Fb, μ, m, _, R, hgi, fun μ1 H1 t1 R1 J wk => ?_⟩
  refine ⟨fun i n σ' H' => n = items.length - i ∧ i ≤ items.length ∧ ∃ (μ' : List Addr) (e : Ms), forLoop t B (items.drop i) e = some r ∧ Nx μ1 e0.s H1 μ' e.s H' ∧ MR (gx X) W.n Fb μ' H' σ' e, ⟨_, rfl, Nat.zero_le _, μ1, e0, g, Nx.refl _ _ _, R1⟩, ?_⟩
  rintro i n σ' H' ⟨rfl, hi, μ', e, hl, t', R'⟩
  obtain ⟨go, stop⟩ := wk _ H' t'.mv (fun a h => R'.sr.trk h)
  by_cases hlt : i < items.length
  · refine .inr ?_
    have hd : items[i]? = some items[i] := by simp [hlt]
    obtain ⟨g1, g2⟩ := go i _ hd
    rw [List.drop_eq_getElem_cons hlt] at hl
    unfold forLoop at hl
    refine ⟨g1, fun σ'' H'' => ∃ (μ' : List Addr) (e : Ms), forLoop t B (items.drop (i + 1)) e = some r ∧ Nx μ1 e0.s H1 μ' e.s H'' ∧ MR (gx X) W.n Fb μ' H'' σ'' e, fun σ'' H'' z => ⟨items.length - (i + 1), by omega, rfl, hlt, z⟩, fun x H3 y => ?_⟩
    obtain ⟨gr, dx⟩ := g2 x H3 y
    have R3 := R'.grow gr
    have t3 := t'.trans (Nx.grow (μ := μ') (S := e.s) gr)
    split at hl
    · cases hl
    rename_i e1 he1
    refine gTG_read R3 dx he1 fun σ4 _ R4 => ?_
    have es : e1.s = e.s := tTG_s he1
    have kk := k.from (t1.trans t3)
    rw [← es] at kk t3
    split at hl
    · rename_i e2 hB
      exact ⟨Fb, μ', e1, _, R4, hB, fun σ5 μ5 H5 t5 R5 => ⟨μ5, e2, hl, t3.trans t5, R5⟩⟩
    · rename_i e2 hB
      exact ⟨Fb, μ', e1, _, R4, hB, fun σ5 μ5 H5 t5 R5 => ⟨μ5, e2, hl, t3.trans t5, R5⟩⟩
    · rename_i e2 hB
      cases hl
      exact ⟨Fb, μ', e1, _, R4, hB, fun σ5 μ5 H5 t5 R5 => kk σ5 μ5 H5 t5 R5⟩
    · rename_i v e2 hB
      cases hl
      exact ⟨Fb, μ', e1, _, R4, hB, kk⟩
    · rename_i c fs e2 hB
      cases hl
      exact ⟨Fb, μ', e1, _, R4, hB, kk⟩
    · cases hl
  · have ei : i = items.length := by omega
    subst ei
    rw [List.drop_length] at hl
    unfold forLoop at hl
    cases hl
    exact .inl ⟨stop, k σ' μ' H' (t1.trans t') R'⟩⟩
/-! ### while -/
def whileLoop (C : GT) (B : Gs) : Nat → Gs
  | 0, _ => none
  | n + 1, e => match C e with
    | some (.ok false e1) => some (.nx e1)
    | some (.ex c fs e1) => some (.ex c fs e1)
    | none => none
    | some (.ok true e1) => match B e1 with
      | some (.nx e2) => whileLoop C B n e2
      | some (.ct e2) => whileLoop C B n e2
      | some (.bk e2) => some (.nx e2)
      | some (.rt v e2) => some (.rt v e2)
      | some (.ex c fs e2) => some (.ex c fs e2)
      | none => none
theorem pms_while {c : Expr} {body : List Stmt} {pos : Pos} {C : GT} {B : Gs} (n : Nat) (hp : PassesOwn (model X.prog X.w) X.A X.env X.xe) (hc : PMT X W c C) (hb : PMSs X W body B) : PMS X W (.While c body [] pos) (whileLoop C B n) := ⟨PS.wk (ps_while hp hc.pt hb.pss) fun Dn σ H q => by
  obtain ⟨Fb, μ, m, r, R, g, k⟩ := q
  refine ⟨fun n σ' H' => ∃ (μ' : List Addr) (e : Ms), whileLoop C B n e = some r ∧ Nx μ m.s H μ' e.s H' ∧ MR (gx X) W.n Fb μ' H' σ' e, ⟨n, μ, m, g, Nx.refl _ _ _, R⟩, ?_⟩
  rintro n σ' H' ⟨μ', e, hl, t', R'⟩
  cases n with
  | zero => cases hl
  | succ n =>
    unfold whileLoop at hl
    split at hl
    · rename_i e1 hC
      cases hl
      refine ⟨Fb, μ', e, _, R', hC, fun μ2 H2 t2 R2 b hb => ?_⟩
      subst hb
      rw [if_neg Bool.false_ne_true]
      exact k σ' μ2 H2 (t'.trans t2) R2
    · rename_i c fs e1 hC
      cases hl
      exact ⟨Fb, μ', e, _, R', hC, fun cls dd μ2 H2 t2 R2 x => k cls dd σ' μ2 H2 (t'.trans t2) R2 x⟩
    · cases hl
    · rename_i e1 hC
      refine ⟨Fb, μ', e, _, R', hC, fun μ2 H2 t2 R2 b hb => ?_⟩
      subst hb
      rw [if_pos rfl]
      refine ⟨fun σ3 H3 => ∃ (μ3 : List Addr) (e3 : Ms), whileLoop C B n e3 = some r ∧ Nx μ m.s H μ3 e3.s H3 ∧ MR (gx X) W.n Fb μ3 H3 σ3 e3, fun σ3 H3 z => ⟨n, Nat.lt_succ_self n, z⟩, ?_⟩
      have tt := t'.trans t2
      have kk := k.from tt
      split at hl
      · rename_i e2 hB
        exact ⟨Fb, μ2, e1, _, R2, hB, fun σ5 μ5 H5 t5 R5 => ⟨μ5, e2, hl, tt.trans t5, R5⟩⟩
      · rename_i e2 hB
        exact ⟨Fb, μ2, e1, _, R2, hB, fun σ5 μ5 H5 t5 R5 => ⟨μ5, e2, hl, tt.trans t5, R5⟩⟩
      · rename_i e2 hB
        cases hl
        exact ⟨Fb, μ2, e1, _, R2, hB, fun σ5 μ5 H5 t5 R5 => kk σ5 μ5 H5 t5 R5⟩
      · rename_i v e2 hB
        cases hl
        exact ⟨Fb, μ2, e1, _, R2, hB, kk⟩
      · rename_i c fs e2 hB
        cases hl
        exact ⟨Fb, μ2, e1, _, R2, hB, kk⟩
      · cases hl⟩
/-! ### x += e, x[i] += e -/
def gAug (f : Int → Int → Int) (i : Nat) (G : GE) : Gs := fun m => match geti m.e i with
  | some (some (.d (.int a))) => gS G (fun z m => match z with
    | .int b => setIK i (.d (.int (f a b))) m fun m => some (.nx m)
    | _ => none) m
  | _ => none
theorem pms_aug {x : Str} {p pos : Pos} {e : Expr} {i : Nat} {op : Operator} {f : Int → Int → Int} {G : GE} (h : PMD X W e G) (ho : PIp X op (ipI f)) (hp : ∀ {te : TE}, PE X e te → PS X (.AugAssign (.Name x p) op e pos) (tAug i te (ipI f))) : PMS X W (.AugAssign (.Name x p) op e pos) (gAug f i G) := ⟨PS.wk (hp h.pe) fun D σ H q => by
  obtain ⟨Fb, μ, m, r, R, g, k⟩ := q
  unfold gAug at g
  rw [geti_eq] at g
  split at g
  · rename_i a hx
    obtain ⟨v, e1, hv⟩ := R.sl i _ hx
    cases hv
    refine ⟨_, e1, (tS.after (ρ := ρD X.K) (X := X) (W := W) ⟨Fb, μ, m, r, R, g, k⟩).mono fun w H1 z => ?_⟩
    obtain ⟨d, Fb, μ, m, r, hw, R, g, k⟩ := z
    split at g
    · rw [setIK_eq] at g
      cases g
      cases hw
      exact ⟨_, _, rfl, rfl, k _ μ H1 (Nx.refl _ _ _) (R.put (x := .d _) (Dn.int _))⟩
    · cases g
  · cases g⟩
end
end PM
namespace PM
open PySem PySem.Spec PyProof.Rows L2
open PD (D AS Fr0 U Dn DnA Mv ExIs All2 NT nt_lst nt_tup nt_xd nt_ext nt_rng mv_grow upd_grow sz RCd)
abbrev W.b : WX := fun _ _ _ _ => False
structure PMTs (X : Cx) (W : WN) (ifs : List Expr) (G : GT) : Prop where
  pts : PTs X ifs (tG ρE X W G)
/-! ### the slots of a block -/
def wipeE (e : En) : List Nat → En
  | [] => e
  | v :: vs => (wipeE e vs).set v none
def wipeK0 {β : Type} (vs : List Nat) (e : En) (k : En → β) : β := k (wipeE e vs)
def wipeK {β : Type} (vs : List Nat) (e : En) (k : En → β) : β := List.rec (motive := fun _ => (En → β) → β) (fun k => k e) (fun v _ ih k => ih fun e' => setK e' v none k) vs k
theorem wipeK_eq {β : Type} (e : En) : ∀ (vs : List Nat) (k : En → β), wipeK vs e k = k (wipeE e vs)
  | [], k => rfl
  | v :: vs, k => (wipeK_eq e vs fun e' => setK e' v none k).trans (setK_eq _ _ _ _)
def wipeM (m : Ms) (vs : List Nat) : Ms := ⟨wipeK vs m.e fun e => e, m.s⟩
theorem wipeM_def (m : Ms) (vs : List Nat) : wipeM m vs = ⟨wipeE m.e vs, m.s⟩ := by
  unfold wipeM
  rw [wipeK_eq]
theorem MR.wipe {G : Gx} {Fb : AS} {μ : List Addr} {H : Hp} {σ : L2.St} {m : Ms} (R : MR G N Fb μ H σ m) (vs : List Nat) : MR G N Fb μ H (L2.wipe σ vs) (wipeM m vs) := by
  rw [wipeM_def]
  have : ∀ vs : List Nat, MR G N Fb μ H (L2.wipe σ vs) ⟨wipeE m.e vs, m.s⟩ := by
    intro vs
    induction vs with
    | nil => exact R
    | cons v vs ih => exact ih.wipe1
  exact this vs
theorem wipeM_s (m : Ms) (vs : List Nat) : (wipeM m vs).s = m.s := by rw [wipeM_def]
def back (e e' : En) : List Nat → En
  | [] => e'
  | v :: vs => (back e e' vs).set v (e.getD v none)
def backK0 {β : Type} (e e' : En) (vs : List Nat) (k : En → β) : β := k (back e e' vs)
def backK {β : Type} (e e' : En) (vs : List Nat) (k : En → β) : β := List.rec (motive := fun _ => (En → β) → β) (fun k => k e') (fun v _ ih k => ih fun r => setK r v (getd e v) k) vs k
theorem backK_eq {β : Type} (e e' : En) : ∀ (vs : List Nat) (k : En → β), backK e e' vs k = k (back e e' vs)
  | [], k => rfl
  | v :: vs, k => (backK_eq e e' vs fun r => setK r v (getd e v) k).trans ((setK_eq _ _ _ _).trans (by rw [getd_eq]; rfl))
theorem back_length {e e' : En} : ∀ vs : List Nat, (back e e' vs).length = e'.length
  | [] => rfl
  | v :: vs => by
    unfold back
    rw [List.length_set, back_length vs]
theorem back_get {e e' : En} {i : Nat} {s : Option Im} : ∀ {vs : List Nat}, (back e e' vs)[i]? = some s → (i ∈ vs ∧ s = e.getD i none) ∨ (i ∉ vs ∧ e'[i]? = some s)
  | [], h => .inr ⟨by simp, h⟩
  | v :: vs, h => by
    unfold back at h
    by_cases hv : v = i
    · subst hv
      by_cases hl : v < (back e e' vs).length
      · rw [List.getElem?_set_self hl] at h
        exact .inl ⟨List.mem_cons_self, (Option.some.inj h).symm⟩
      · rw [List.getElem?_eq_none (by simpa using hl)] at h; cases h
    · rw [List.getElem?_set_ne hv] at h
      rcases back_get h with ⟨a, b⟩ | ⟨a, b⟩
      · exact .inl ⟨List.mem_cons_of_mem _ a, b⟩
      · exact .inr ⟨fun z => (List.mem_cons.mp z).elim (fun w => hv w.symm) a, b⟩
/-- behind the block: its slots as they were -/
theorem MR.back {G : Gx} {Fb Fb2 : AS} {μ μ' : List Addr} {H H' : Hp} {σ : L2.St} {m m' : Ms} {vs : List Nat} (R : MR G N Fb μ H σ m) (R' : MR G N Fb2 μ' H' (L2.wipe σ vs) m') (pre : ∀ (n : Nat) (c : Addr), μ[n]? = some c → μ'[n]? = some c) (mv : Mv (U (Lo μ m.s) Fb) H (U (Lo μ' m'.s) Fb2) H') :
    MR G N Fb2 μ' H' σ ⟨PM.back m.e m'.e vs, m'.s⟩ where
  sr := R'.sr
  len := by
    show (PM.back m.e m'.e vs).length = σ.length
    rw [back_length, R'.len, wipe_length]
  sl := fun i x e => by
    rcases back_get (show (PM.back m.e m'.e vs)[i]? = some (some x) from e) with ⟨hi, e1⟩ | ⟨hi, e1⟩
    · rw [List.getD_eq_getElem?_getD] at e1
      cases he : m.e[i]? with
      | none => rw [he] at e1; cases e1
      | some y =>
        rw [he] at e1
        have ey : y = some x := e1.symm
        subst ey
        obtain ⟨v, e2, h⟩ := R.sl i x he
        exact ⟨v, e2, h.mv pre mv⟩
    · obtain ⟨v, e2, h⟩ := R'.sl i x e1
      rw [wipe_out hi] at e2
      exact ⟨v, e2, h⟩
section
variable {X : Cx} {W : WN}
theorem PTs.wk {ifs : List Expr} {t t' : TT} (h : PTs X ifs t) (w : ∀ σ H Q, t' σ H Q → t σ H Q) : PTs X ifs t' := ⟨fun pins s σ H Q I q => h.run pins s σ H Q I (w σ H Q q)⟩
theorem pmts_nil : PMTs X W [] (gP true) := ⟨PTs.wk pts_nil fun σ H Q q => by
  obtain ⟨Fb, μ, m, r, R, g, k⟩ := q
  cases gP_some g
  exact k μ H (Nx.refl _ _ _) R true rfl⟩
theorem pmts_one {c : Expr} {G : GT} (h : PMT X W c G) : PMTs X W [c] G := ⟨pts_one h.pt⟩
/-- the turns of a comprehension: what is in hand, what is made so far -/
def lcLoop (t : Tg) (Gt : GT) (Ge : GI) (vs : List Nat) : List D → List Im → Ms → Option (List Im × Ms)
  | [], acc, e => some (acc, e)
  | d :: ds, acc, e => match tTG t d e with
    | none => none
    | some e1 => match Gt e1 with
      | some (.ok true e2) => match Ge e2 with
        | some (.ok v e3) => lcLoop t Gt Ge vs ds (v :: acc) (wipeM e3 vs)
        | _ => none
      | some (.ok false e2) => lcLoop t Gt Ge vs ds acc (wipeM e2 vs)
      | _ => none
/-- behind a comprehension -/
def lcEnd0 (vs : List Nat) (m : Ms) (o : Option (List Im × Ms)) : Option (Rs (List Im)) := o.map fun p => .ok p.1.reverse ⟨back m.e p.2.e vs, p.2.s⟩
def lcEnd (vs : List Nat) (m : Ms) (o : Option (List Im × Ms)) : Option (Rs (List Im)) := Option.rec (motive := fun _ => Option (Rs (List Im))) none (fun p => Prod.rec (motive := fun _ => Option (Rs (List Im))) (fun acc m2 => Ms.rec (motive := fun _ => Option (Rs (List Im))) (fun e2 s2 => Ms.rec (motive := fun _ => Option (Rs (List Im))) (fun e _ => backK e e2 vs fun e3 => revK acc [] fun xs => some (.ok xs ⟨e3, s2⟩)) m) m2) p) o
theorem lcEnd_def (vs : List Nat) (m : Ms) (o : Option (List Im × Ms)) : lcEnd vs m o = o.map fun p => .ok p.1.reverse ⟨back m.e p.2.e vs, p.2.s⟩ := by
  cases o with
  | none => rfl
  | some p =>
    obtain ⟨acc, e2, s2⟩ := p
    obtain ⟨e, s⟩ := m
    refine (backK_eq e e2 vs _).trans ((revK_eq acc [] _).trans ?_)
    rw [List.append_nil]
    rfl
def gLc (Gi : GA) (t : Tg) (Gt : GT) (Ge : GI) (vs : List Nat) : GL := gB Gi fun items m => if items.length ≤ 100000 then lcEnd vs m (lcLoop t Gt Ge vs items [] (wipeM m vs)) else none
theorem SetsTo.wipe {is vs : List Nat} {σ σ' : L2.St} (h : SetsTo is (L2.wipe σ vs) σ') (sub : ∀ i ∈ is, i ∈ vs) : L2.wipe σ' vs = L2.wipe σ vs := by
  rw [h vs sub, PD.wipe_wipe fun _ h => h]
theorem guard_write {G : Gx} {N : NfR} {Fb : AS} {μ : List Addr} {H : Hp} {σ : L2.St} {m : Ms} {p : Addr} {o0 u : HO} (R : MR G N (Fb' Fb p) μ H σ m) (e0 : H p = some o0) (nt0 : NT o0) (nc : NoCode H p) (hu : Apt u p) : MR G N (Fb' Fb p) μ (upd H p u) σ m ∧ Mv (U (Lo μ m.s) (Fb' Fb p)) H (U (Lo μ m.s) (Fb' Fb p)) (upd H p u) := by
  have mv : Mv (U (Lo μ m.s) (Fb' Fb p)) H (U (Lo μ m.s) (Fb' Fb p)) (upd H p u) := fun a o n e _ => ⟨n, by rw [upd_ne fun z => n (.inr (.inr z))]; exact e⟩
  have ne : ∀ {a : Addr}, Lo μ m.s a → a ≠ p := fun l z => R.sr.dis _ l (.inr z)
  refine ⟨⟨⟨R.sr.ml, R.sr.nf, fun a z => ?_, fun n a o h1 h2 => ?_, R.sr.inj, fun n a h1 => ?_, R.sr.tb.upd e0 nt0 nc⟩, R.len, fun i x e => ?_⟩, mv⟩
  · by_cases ha : a = p
    · subst ha; exact ⟨u, upd_same, hu⟩
    · obtain ⟨w, e, n1⟩ := R.sr.fb a z
      exact ⟨w, by rw [upd_ne ha]; exact e, n1⟩
  · exact (R.sr.ob n a o h1 h2).mv (fun _ _ h => h) mv (fun ow w e => by rw [upd_ne (ne (lo_at h1 h2 ow))]; exact e)
  · by_cases ha : a = p
    · subst ha; exact ⟨u, upd_same⟩
    · obtain ⟨w, e⟩ := R.sr.tk n a h1
      exact ⟨w, by rw [upd_ne ha]; exact e⟩
  · obtain ⟨v, e1, h⟩ := R.sl i x e
    exact ⟨v, e1, h.mv (fun _ _ h => h) mv⟩
theorem lc_read {Gi : GA} {t : Tg} {Gt : GT} {Ge : GI} {vs : List Nat} {σ : L2.St} {H : Hp} {Q : VK} (sub : ∀ i ∈ t.is, i ∈ vs) (q : tF X W (gLc Gi t Gt Ge vs) σ H Q) : tLc (tI X W Gi) (gTG X.K t) (tG ρE X W.b Gt) (tG (ρI (gx X)) X W.b Ge) vs σ H Q := by
  obtain ⟨Fb, μ, m, r, R, g, k⟩ := q
  unfold gLc at g; replace g := (gB_def _ _ _).symm.trans g
  split at g
  · cases g
  rotate_left
  · rename_i c fs e hg
    cases g
    exact ⟨Fb, μ, m, _, R, hg, k⟩
  rename_i items m0 hg
  split at g
  rotate_left
  · cases g
  rename_i hlen
  rw [lcEnd_def] at g
  obtain ⟨pf, hl, rfl⟩ := Option.map_eq_some_iff.mp g
  refine ⟨Fb, μ, m, _, R, hg, fun μ1 H1 t1 R1 J wk D hD => ?_⟩
  have np1 : ∀ (n : Nat), μ1[n]? ≠ some D := fun n e => by
    obtain ⟨w, z⟩ := R1.sr.tk n D e
    rw [hD] at z; cases z
  -- what holds between two turns
  let Inv' : Nat → Nat → Hp → Prop := fun i n H' => n = items.length - i ∧ i ≤ items.length ∧ ∃ (μ' : List Addr) (acc : List Im) (e : Ms) (ws : List V), lcLoop t Gt Ge vs (items.drop i) acc e = some pf ∧ acc.length ≤ i ∧ Nx μ1 m0.s H1 μ' e.s H' ∧ (∀ (n : Nat), μ'[n]? ≠ some D) ∧ MR (gx X) W.n (Fb' Fb D) μ' H' (L2.wipe σ vs) e ∧ H' D = some (.lst ws) ∧ ImA (gx X) μ' (U (Lo μ' e.s) (Fb' Fb D)) H' ws acc.reverse
  refine ⟨Inv', ⟨_, rfl, Nat.zero_le _, μ1, [], wipeM m0 vs, [], hl, Nat.le_refl _, (Nx.grow (upd_grow hD)), np1, (R1.guard hD apt_lst).wipe vs, upd_same, .nil⟩, ?_⟩
  rintro i n H' ⟨rfl, hi, μ', acc, e, ws, hl', hac, t', np, R', hDs, hws⟩
  have mvW : Mv (U (Lo μ1 m0.s) Fb) H1 (U (Lo μ' e.s) (Fb' Fb D)) H' := fun a o n ea nt => by
    obtain ⟨e1, n1⟩ := t'.tr.at_ ea nt fun z => n (.inl z)
    exact ⟨fun z => z.elim n1 fun z => z.elim (fun z => n (.inr z)) (ne_of_none ea hD), e1⟩
  obtain ⟨go, stop⟩ := wk _ H' mvW (fun a h => R'.sr.trk h)
  by_cases hlt : i < items.length
  · refine .inr ?_
    have hd : items[i]? = some items[i] := by simp [hlt]
    obtain ⟨g1, g2⟩ := go i _ hd
    rw [List.drop_eq_getElem_cons hlt] at hl'
    unfold lcLoop at hl'
    refine ⟨g1, fun H'' => Inv' (i + 1) (items.length - (i + 1)) H'', fun H'' z => ⟨items.length - (i + 1), by omega, z⟩, fun x H3 y => ?_⟩
    obtain ⟨gr, dx⟩ := g2 x H3 y
    have R3 := R'.grow gr
    have t3 := t'.trans (Nx.grow (μ := μ') (S := e.s) gr)
    have hw3 := hws.mv (fun _ _ h => h) (mv_grow (F := U (Lo μ' e.s) (Fb' Fb D)) gr)
    split at hl'
    · cases hl'
    rename_i e1 he1
    have es : e1.s = e.s := tTG_s he1
    refine gTG_read R3 dx he1 fun σ4 st4 R4 => ?_
    have wp := st4.wipe sub
    refine ⟨wp, ?_⟩
    have nD : ∀ {μ5 : List Addr} {e5 : Ms} {H5 : Hp}, Nx μ' e1.s H3 μ5 e5.s H5 → H3 D = some (.lst ws) → H5 D = some (.lst ws) ∧ ¬ Lo μ5 e5.s D := fun n5 h => n5.tr.at_ h nt_lst fun z => R4.sr.dis D z (.inr rfl)
    have hD3 := gr D _ hDs
    have np5 : ∀ {μ5 : List Addr} {e5 : Ms} {H5 : Hp} {σ5 : L2.St}, Nx μ' e1.s H3 μ5 e5.s H5 → MR (gx X) W.n (Fb' Fb D) μ5 H5 σ5 e5 → ∀ (n : Nat), μ5[n]? ≠ some D := fun _ R n e => R.sr.nf n D e (.inr rfl)
    split at hl'
    · rename_i e2 ht
      refine ⟨_, μ', e1, _, R4, ht, fun μ5 H5 t5 R5 b hb => ?_⟩
      subst hb
      rw [if_pos rfl]
      split at hl'
      rotate_left
      · cases hl'
      rename_i v e3 hv
      refine ⟨_, μ5, e2, _, R5, hv, fun μ6 H6 t6 R6 y hy => ?_⟩
      have tt := t5.trans t6
      obtain ⟨hD6, nl6⟩ := nD tt hD3
      obtain ⟨R7, m7⟩ := guard_write (u := .lst (ws ++ [y])) R6 hD6 nt_lst (lst_nc hD6) apt_lst
      have hw6 := (es ▸ hw3).mv tt.pre tt.mv
      have hw7 : ImA (gx X) μ6 (U (Lo μ6 e3.s) (Fb' Fb D)) H6 (ws ++ [y]) (v :: acc).reverse := by
        rw [List.reverse_cons]
        exact hw6.app (.cons hy .nil)
      refine ⟨ws, hD6, Nat.lt_of_lt_of_le (show ws.length < 100000 + 1 by have := hws.length; rw [List.length_reverse] at this; omega) (by decide), rfl, hlt, μ6, v :: acc, wipeM e3 vs, ws ++ [y], hl', by simp; omega, ?_, np5 tt R6, ?_, upd_same, hw7.mv (fun _ _ h => h) m7⟩
      · have t3' : Nx μ1 m0.s H1 μ' e1.s H3 := es ▸ t3
        have n6 := t3'.trans tt
        exact ⟨n6.pre, fun a o ea na => (let ⟨⟨o', e', k'⟩, n'⟩ := n6.tr a o ea na; ⟨⟨o', by rw [upd_ne (ne_of_none ea hD)]; exact e', k'⟩, n'⟩)⟩
      · have R8 := R7.wipe vs
        rw [wp] at R8
        exact R8
    · rename_i e2 ht
      refine ⟨_, μ', e1, _, R4, ht, fun μ5 H5 t5 R5 b hb => ?_⟩
      subst hb
      rw [if_neg Bool.false_ne_true]
      have R8 := R5.wipe vs
      rw [wp] at R8
      have t3' : Nx μ1 m0.s H1 μ' e1.s H3 := es ▸ t3
      exact ⟨rfl, hlt, μ5, acc, wipeM e2 vs, ws, hl', by omega, t3'.trans t5, np5 t5 R5, R8, (nD t5 hD3).1, (es ▸ hw3).mv t5.pre t5.mv⟩
    · cases hl'
  · have ei : i = items.length := by omega
    subst ei
    rw [List.drop_length] at hl'
    unfold lcLoop at hl'
    cases hl'
    refine .inl ⟨stop, ?_⟩
    exact k D ws μ' H' (t1.trans t') (R1.back R' t'.pre mvW) (fun z => R1.sr.free hD (.inr z)) np hDs hws fun o ea na => by
      obtain ⟨⟨o', e', _⟩, _⟩ := t1.tr D o ea na
      rw [hD] at e'; cases e'
end
end PM
namespace PM
open PySem PySem.Spec PyProof.Rows L2
open PD (D AS Fr0 U Dn DnA Mv ExIs All2 NT nt_lst nt_tup nt_xd nt_ext nt_rng mv_grow upd_grow sz RCd)
section
variable {X : Cx} {W : WN}
section
variable {elt tg iter : Expr} {ifs : List Expr} {scope : Scope} {own : List (Str × Nat)} {pos : Pos} {Gi : GA} {t : Tg} {Gt : GT} {Ge : GI}
theorem pmf_lc (hc : X.calm = true) (hN : X.N.Nodup) (hi : PMI' X W tg iter Gi) (ok : BlkOk X.N X.env.scope scope own)
    (hg : ∀ (s : Shared) (H : Hp) (C : Addr) (cl : List (Str × Addr)) (fp : List Addr), PG (X.blk s H scope (compEnvC scope cl C X.env) fp) tg (gTG X.K t)) (ht : ∀ (s : Shared) (H : Hp) (C : Addr) (cl : List (Str × Addr)) (fp : List Addr), PMTs (X.blk s H scope (compEnvC scope cl C X.env) fp) W.b ifs Gt)
    (he : ∀ (s : Shared) (H : Hp) (C : Addr) (cl : List (Str × Addr)) (fp : List Addr), PMI (X.blk s H scope (compEnvC scope cl C X.env) fp) W.b elt Ge) (sub : ∀ i ∈ t.is, i ∈ own.map (·.2)) (hs : ∀ x, foldedSetIterable iter X.env x = pure x := by intro _; rfl) :
    PMF X W (.ListComp elt [⟨tg, iter, ifs, 0⟩] scope pos) (gLc Gi t Gt Ge (own.map (·.2))) :=
  ⟨PE.wk (pe_lc hc hN hi.pi ok hg (fun s H C cl fp => (ht s H C cl fp).pts) (fun s H C cl fp => (he s H C cl fp).pe) hs) fun σ H Q q => lc_read sub q⟩
end
/-- x = a list just made: x's own -/
def gAsgO (i : Nat) (G : GL) : Gs := gS G fun xs m => setK m.e i (some (.r m.s.length)) fun e => frL (m.s ++ [.ls xs]) fun s => some (.nx ⟨e, s⟩)
theorem asgO_read {i : Nat} {G : GL} {D : Ends} {σ : L2.St} {H : Hp} (q : tS X W (gAsgO i G) D σ H) : tF X W G σ H fun b H1 => gName i b σ H1 D.nx := by
  obtain ⟨Fb, μ, m, r, R, h, k⟩ := q
  unfold gAsgO at h; replace h := (gS_def _ _ _).symm.trans h
  split at h
  · cases h
  · rename_i xs m1 hg
    rw [setK_eq, frL_eq] at h
    cases h
    refine ⟨Fb, μ, m, _, R, hg, fun a vs μ' H' n R' nf np ha hi old => ?_⟩
    obtain ⟨R1, mv⟩ := R'.sr.adopt nf (o := .ls xs) rfl (fun mv => ⟨vs, ha, hi.mv (fun _ _ h => snoc_old h) mv⟩) np
    have R2 : MR (gx X) W.n Fb (μ' ++ [a]) H' σ ⟨m1.e, m1.s ++ [.ls xs]⟩ := ⟨R1, R'.len, fun i x e => by
      obtain ⟨v, e1, h⟩ := R'.sl i x e
      exact ⟨v, e1, h.mv (fun _ _ h => snoc_old h) mv⟩⟩
    refine k _ (μ' ++ [a]) H' (n.adopt R'.sr.ml old) (R2.put (x := .r m1.s.length) ⟨a, rfl, ?_⟩)
    rw [← R'.sr.ml, List.getElem?_append_right (Nat.le_refl _), Nat.sub_self]
    rfl
  · rename_i c fs e hg
    cases h
    exact ⟨Fb, μ, m, _, R, hg, fun cls dd μ' H' t R' x => k cls dd σ μ' H' t R' x⟩
/-- x = a list just made: data -/
def gAsgD (i : Nat) (G : GL) : Gs := gS (gFl G) fun d m => setIK i (.d d) m fun m => some (.nx m)
theorem asgD_read {i : Nat} {G : GL} {D : Ends} {σ : L2.St} {H : Hp} (q : tS X W (gAsgD i G) D σ H) : tF X W G σ H fun b H1 => gName i b σ H1 D.nx := by
  obtain ⟨Fb, μ, m, r, R, h, k⟩ := q
  unfold gAsgD gFl at h; replace h := (gS_def _ _ _).symm.trans h; rw [gB_def] at h
  split at h
  · cases h
  · rename_i d m2 hg
    split at hg
    · cases hg
    · rename_i xs m1 hg1
      obtain ⟨⟨ds, S⟩, h1, h4⟩ := Option.map_eq_some_iff.mp hg
      cases h4
      rw [setIK_eq] at h
      cases h
      refine ⟨Fb, μ, m, _, R, hg1, fun a vs μ' H' n R' nf np ha hi old => ?_⟩
      obtain ⟨R1, n1, f1⟩ := fzL_ok R'.sr h1
      have R2 := R'.later n1 R1
      have dn := f1 vs hi
      have dl : Dn X.K (U (Lo μ' S) Fb) H' (.ref a) (.list ds) := .lst (fun z => z.elim (fun l => R1.dis a l (.inr rfl)) nf) ha (dn.mv unguard_mv)
      exact k _ μ' H' (n.trans n1) (R2.unguard.put (x := .d (.list ds)) dl)
    · cases hg
  · rename_i c fs e hg
    cases h
    split at hg
    · cases hg
    · rename_i xs m1 hg1
      obtain ⟨p, h1, h4⟩ := Option.map_eq_some_iff.mp hg
      cases h4
    · rename_i hg1
      cases hg
      exact ⟨Fb, μ, m, _, R, hg1, fun cls dd μ' H' t R' x => k cls dd σ μ' H' t R' x⟩
section
variable {elt tg iter : Expr} {ifs : List Expr} {scope : Scope} {own : List (Str × Nat)} {pos spos py : Pos} {Gi : GA} {t : Tg} {Gt : GT} {Ge : GI} {y : Str} {i : Nat} {B : Gs}
theorem pms_asgLc (hr : ∀ {G : GL} {D : Ends} {σ : L2.St} {H : Hp}, tS X W (B) D σ H → tF X W (gLc Gi t Gt Ge (own.map (·.2))) σ H fun b H1 => gName i b σ H1 D.nx) (hc : X.calm = true) (hN : X.N.Nodup) (hy : X.N[i]? = some y) (hyl : X.env.scope.names.lookup y = some .local) (hsw : swapsWith (.ListComp elt [⟨tg, iter, ifs, 0⟩] scope pos) (some (.Name y py)) spos.line X.env = pure true) (hi : PMI' X W tg iter Gi) (ok : BlkOk X.N X.env.scope scope own)
    (hg : ∀ (s : Shared) (H : Hp) (C : Addr) (cl : List (Str × Addr)) (fp : List Addr), PG (X.blk s H scope (compEnvC scope cl C X.env) fp) tg (gTG X.K t)) (ht : ∀ (s : Shared) (H : Hp) (C : Addr) (cl : List (Str × Addr)) (fp : List Addr), PMTs (X.blk s H scope (compEnvC scope cl C X.env) fp) W.b ifs Gt)
    (he : ∀ (s : Shared) (H : Hp) (C : Addr) (cl : List (Str × Addr)) (fp : List Addr), PMI (X.blk s H scope (compEnvC scope cl C X.env) fp) W.b elt Ge) (sub : ∀ i ∈ t.is, i ∈ own.map (·.2)) (hs : ∀ x, foldedSetIterable iter X.env x = pure x := by intro _; rfl) :
    PMS X W (.Assign [.Name y py] (.ListComp elt [⟨tg, iter, ifs, 0⟩] scope pos) spos) B :=
  ⟨PS.wk (ps_setLc hc hN hy hyl hsw hi.pi ok hg (fun s H C cl fp => (ht s H C cl fp).pts) (fun s H C cl fp => (he s H C cl fp).pe) hs) fun D σ H q => lc_read sub (hr (G := gP []) q)⟩
theorem pms_asgLcO (hc : X.calm = true) (hN : X.N.Nodup) (hy : X.N[i]? = some y) (hyl : X.env.scope.names.lookup y = some .local) (hsw : swapsWith (.ListComp elt [⟨tg, iter, ifs, 0⟩] scope pos) (some (.Name y py)) spos.line X.env = pure true) (hi : PMI' X W tg iter Gi) (ok : BlkOk X.N X.env.scope scope own)
    (hg : ∀ (s : Shared) (H : Hp) (C : Addr) (cl : List (Str × Addr)) (fp : List Addr), PG (X.blk s H scope (compEnvC scope cl C X.env) fp) tg (gTG X.K t)) (ht : ∀ (s : Shared) (H : Hp) (C : Addr) (cl : List (Str × Addr)) (fp : List Addr), PMTs (X.blk s H scope (compEnvC scope cl C X.env) fp) W.b ifs Gt)
    (he : ∀ (s : Shared) (H : Hp) (C : Addr) (cl : List (Str × Addr)) (fp : List Addr), PMI (X.blk s H scope (compEnvC scope cl C X.env) fp) W.b elt Ge) (sub : ∀ i ∈ t.is, i ∈ own.map (·.2)) (hs : ∀ x, foldedSetIterable iter X.env x = pure x := by intro _; rfl) :
    PMS X W (.Assign [.Name y py] (.ListComp elt [⟨tg, iter, ifs, 0⟩] scope pos) spos) (gAsgO i (gLc Gi t Gt Ge (own.map (·.2)))) := pms_asgLc (fun q => asgO_read q) hc hN hy hyl hsw hi ok hg ht he sub hs
theorem pms_asgLcD (hc : X.calm = true) (hN : X.N.Nodup) (hy : X.N[i]? = some y) (hyl : X.env.scope.names.lookup y = some .local) (hsw : swapsWith (.ListComp elt [⟨tg, iter, ifs, 0⟩] scope pos) (some (.Name y py)) spos.line X.env = pure true) (hi : PMI' X W tg iter Gi) (ok : BlkOk X.N X.env.scope scope own)
    (hg : ∀ (s : Shared) (H : Hp) (C : Addr) (cl : List (Str × Addr)) (fp : List Addr), PG (X.blk s H scope (compEnvC scope cl C X.env) fp) tg (gTG X.K t)) (ht : ∀ (s : Shared) (H : Hp) (C : Addr) (cl : List (Str × Addr)) (fp : List Addr), PMTs (X.blk s H scope (compEnvC scope cl C X.env) fp) W.b ifs Gt)
    (he : ∀ (s : Shared) (H : Hp) (C : Addr) (cl : List (Str × Addr)) (fp : List Addr), PMI (X.blk s H scope (compEnvC scope cl C X.env) fp) W.b elt Ge) (sub : ∀ i ∈ t.is, i ∈ own.map (·.2)) (hs : ∀ x, foldedSetIterable iter X.env x = pure x := by intro _; rfl) :
    PMS X W (.Assign [.Name y py] (.ListComp elt [⟨tg, iter, ifs, 0⟩] scope pos) spos) (gAsgD i (gLc Gi t Gt Ge (own.map (·.2)))) := pms_asgLc (fun q => asgD_read q) hc hN hy hyl hsw hi ok hg ht he sub hs
end
/-! ### dicts just written -/
def gNewDc : GI := fun m => some (.ok (.r m.s.length) ⟨m.e, m.s ++ [.dc []]⟩)
theorem pi_newDc {pos : Pos} : PMI X W (.Dict [] [] pos) gNewDc := ⟨PE.wk pe_newDc fun σ H Q q => by
  obtain ⟨Fb, μ, m, r, R, g, k⟩ := q
  cases g
  intro p hp
  obtain ⟨R1, n1⟩ := R.sr.new (o := .dc []) (u := LfO X.prog X.w p []) hp (fun mv => .inl ⟨[], upd_same, .nil⟩) rfl
  refine k (μ ++ [p]) _ n1 (R.later n1 R1) (.ref p) ⟨p, rfl, ?_⟩
  rw [← R.sr.ml, List.getElem?_append_right (Nat.le_refl _), Nat.sub_self]
  rfl⟩
def gDis1 (Gk : GE) (Gv : GI) : GI := gB Gk fun d => gB Gv fun z m => if kOk 8 d then some (.ok (.r m.s.length) ⟨m.e, m.s ++ [.dc [(d, z)]]⟩) else none
theorem pi_dis1 {k v : Expr} {pos : Pos} {Gk : GE} {Gv : GI} (hu : X.A.units + 64 < cLine) (hk : PMD X W k Gk) (hv : PMI X W v Gv) : PMI X W (.Dict [some k] [v] pos) (gDis1 Gk Gv) := ⟨PE.wk (pe_dis1 hu hk.pe hv.pe) fun σ H Q q p hp => by
  obtain ⟨Fb, μ, m, r, R, g, kk⟩ := q
  have RG := R.guard (u := LfO X.prog X.w p []) hp ⟨nt_ext, fun q z => lf_nc (H := upd H p (LfO X.prog X.w p [])) upd_same q (by rw [upd_same, z])⟩
  have nf : ¬ Fb p := fun z => R.sr.free hp (.inr z)
  -- the steps, p set apart
  unfold gDis1 at g; replace g := (gB_def _ _ _).symm.trans g
  split at g
  · cases g
  rotate_left
  · rename_i c fs e hg
    cases g
    refine ⟨Fb' Fb p, μ, m, _, RG, hg, fun cls dd μ' H' n R' x => kk cls dd μ' H' ⟨n.pre, fun a o e na => n.tr a o (upd_grow hp a o e) na⟩ R'.unguard ⟨x.1, ?_⟩⟩
    have x2 := x.2
    match fs, x2 with
    | [], x2 => exact x2
    | [(f, d)], ⟨a, v, ea, na, ha, hd⟩ => exact ⟨a, v, ea, (unguard_mv (H := H') a _ na ha nt_xd).1, ha, hd.mv unguard_mv⟩
  rename_i d m1 hg
  replace g := (gB_def _ _ _).symm.trans g
  refine ⟨Fb' Fb p, μ, m, _, RG, hg, fun μ1 H1 n1 R1 kv hkv => ?_⟩
  have n1' : Nx μ m.s H μ1 m1.s H1 := ⟨n1.pre, fun a o e na => n1.tr a o (upd_grow hp a o e) na⟩
  have pl : ∀ {μ1 : List Addr} {m1 : Ms} {H1 : Hp}, Nx μ m.s (upd H p (LfO X.prog X.w p [])) μ1 m1.s H1 → H1 p = some (LfO X.prog X.w p []) := fun n => (n.tr.at_ upd_same nt_ext fun l => RG.sr.dis p l (.inr rfl)).1
  split at g
  · cases g
  rotate_left
  · rename_i c fs e hg2
    cases g
    refine ⟨Fb' Fb p, μ1, m1, _, R1, hg2, fun cls dd μ' H' n R' x => kk cls dd μ' H' (n1'.trans n) R'.unguard ⟨x.1, ?_⟩⟩
    have x2 := x.2
    match fs, x2 with
    | [], x2 => exact x2
    | [(f, d)], ⟨a, v, ea, na, ha, hd⟩ => exact ⟨a, v, ea, (unguard_mv (H := H') a _ na ha nt_xd).1, ha, hd.mv unguard_mv⟩
  rename_i z m2 hg2
  refine ⟨Fb' Fb p, μ1, m1, _, R1, hg2, fun μ2 H2 n2 R2 vv hvv => ?_⟩
  split at g
  · rename_i hko
    cases g
    have nn := n1.trans n2
    refine ⟨pl nn, μ2, _, d, z, Dn.mv n2.mv hkv, hko, hvv, fun u hu => ?_⟩
    have mz : Mv (U (Lo μ2 m2.s) (Fb' Fb p)) H2 (U (Lo μ2 m2.s) (Fb' Fb p)) (upd H2 p u) := fun a o n e _ => ⟨n, by rw [upd_ne fun z => n (.inr (.inr z))]; exact e⟩
    have dz : ObR (gx X) μ2 (U (Lo μ2 m2.s) (Fb' Fb p)) (upd H2 p u) p (.dc [(d, z)]) := hu _ _ _ (fun _ _ h => h) mz upd_same
    obtain ⟨R3, m3⟩ := guard_write (u := u) R2 (pl nn) nt_ext (lf_nc (pl nn)) ⟨dz.nt rfl upd_same, fun q z => dz.nc rfl q (by rw [upd_same, z])⟩
    have np : ∀ (n : Nat), μ2[n]? ≠ some p := fun n e => R2.sr.nf n p e (.inr rfl)
    have old : ∀ o, H p = some o → ¬ Lo μ m.s p → False := fun o e _ => by rw [hp] at e; cases e
    obtain ⟨R4, mv4⟩ := R3.sr.adopt nf (o := .dc [(d, z)]) rfl (fun mv => hu _ _ _ (fun _ _ h => snoc_old h) (m3.trans mv) upd_same) np
    have nx : Nx μ m.s H (μ2 ++ [p]) (m2.s ++ [.dc [(d, z)]]) (upd H2 p u) := by
      have n12 := n1'.trans n2
      have n3 : Nx μ m.s H μ2 m2.s (upd H2 p u) := ⟨n12.pre, fun a o e na => (let ⟨⟨o', e', k'⟩, n'⟩ := n12.tr a o e na; ⟨⟨o', by rw [upd_ne (ne_of_none e hp)]; exact e', k'⟩, n'⟩)⟩
      exact n3.adopt R3.sr.ml old
    refine kk (μ2 ++ [p]) _ nx ⟨R4, R3.len, fun i x e => ?_⟩ (.ref p) ⟨p, rfl, ?_⟩
    · obtain ⟨v, e1, h⟩ := R3.sl i x e
      exact ⟨v, e1, h.mv (fun _ _ h => snoc_old h) mv4⟩
    · rw [← R3.sr.ml, List.getElem?_append_right (Nat.le_refl _), Nat.sub_self]
      rfl
  · cases g⟩
end
end PM
namespace PM
open PySem PySem.Spec PyProof.Rows L2
open PD (D AS Fr0 U Dn DnA Mv ExIs All2 NT nt_lst nt_tup nt_xd nt_ext nt_rng mv_grow upd_grow sz RCd)
def spF (G : Gx) (F : List Im → List Ob → Option FR) : Sp := fun vs H Q E => ∃ (Fb : AS) (μ : List Addr) (S : List Ob) (its : List Im) (r : FR), SR G Fb μ H S ∧ ImA G μ (U (Lo μ S) Fb) H vs its ∧ F its S = some r ∧ match r with
  | .val x S' => ∀ v μ' H', Nx μ S H μ' S' H' → SR G Fb μ' H' S' → ImR G μ' (U (Lo μ' S') Fb) H' v x → Q v H'
  | .exc c fs S' => ∀ cls dd μ' H', Nx μ S H μ' S' H' → SR G Fb μ' H' S' → ExIs G.K G.mg (U (Lo μ' S') Fb) H' c fs cls dd → E cls dd H'
/-- how a def ends -/
def fnE0 : Option Fl → Option FR
  | some (.nx e) => some (.val (.d .none) e.s)
  | some (.rt x e) => some (.val x e.s)
  | some (.ex c fs e) => some (.exc c fs e.s)
  | _ => none
def fnE (o : Option Fl) : Option FR := Option.rec (motive := fun _ => Option FR) none (fun r => Fl.rec (motive := fun _ => Option FR) (fun e => some (.val (.d .none) e.s)) (fun x e => some (.val x e.s)) (fun _ => none) (fun _ => none) (fun c fs e => some (.exc c fs e.s)) r) o
theorem fnE_def (o : Option Fl) : fnE o = match o with
  | some (.nx e) => some (.val (.d .none) e.s)
  | some (.rt x e) => some (.val x e.s)
  | some (.ex c fs e) => some (.exc c fs e.s)
  | _ => none := by
  cases o with
  | none => rfl
  | some r => cases r <;> rfl
def fnF (n k : Nat) (B : Gs) : List Im → List Ob → Option FR := fun its S => if its.length = n then iniK its (k - n) fun e => fnE (B ⟨e, S⟩) else none
section
variable {P : Program} {w : World} {K : Fr0} {mg : Str → Option Value} {base : Heap}
theorem MR.begin {G : Gx} {N : NfR} {Fb : AS} {μ : List Addr} {H : Hp} {S : List Ob} {vs : List V} {its : List Im} (R : SR G Fb μ H S) (h : ImA G μ (U (Lo μ S) Fb) H vs its) (rest : List (Option V)) (k : Nat) (hk : rest.length = k) : MR G N Fb μ H (vs.map some ++ rest) ⟨its.map some ++ List.replicate k none, S⟩ where
  sr := R
  len := by simp [hk, h.length]
  sl := fun i x e => by
    dsimp only at e
    by_cases hi : i < (its.map some).length
    · rw [List.getElem?_append_left hi, List.getElem?_map] at e
      obtain ⟨y, e1, e2⟩ := Option.map_eq_some_iff.mp e
      cases e2
      obtain ⟨v, h1, h2⟩ := h.getV e1
      refine ⟨v, ?_, h2.n⟩
      rw [List.getElem?_append_left (by simpa [h.length] using hi), List.getElem?_map, h1]
      rfl
    · rw [List.getElem?_append_right (by omega)] at e
      obtain ⟨_, h2⟩ := List.getElem?_eq_some_iff.mp e
      rw [List.getElem_replicate] at h2
      cases h2
abbrev WnE (E : XK) (X : Cx) : WN := ⟨fun cls d _ H' => E cls d H', nfx X⟩
theorem fn_pm {x qual : Str} {st : Stmt} {f : Addr} {fd : FuncData} {N ps : List Str} {k : Nat} {B : Gs} (Fn : Fun K x qual st f fd) (S : FnScope N ps (defScope st)) (hn : ps.length ≤ N.length)
    (body : ∀ (cdv : Value) (A : Around) (outer : List Env) (s : Shared) (H : Hp) (E : XK), Room k (A.deeper (envOfC qual (defScope st) s.heap.objs.size f cdv)) → CodeIs K f cdv →
      PMSs (cxOf (L2.CX P w) P w K mg base N qual (defScope st) f cdv A outer s H E) (WnE E (cxOf (L2.CX P w) P w K mg base N qual (defScope st) f cdv A outer s H E)) (defBody st) B) : FnOk P w K mg base (L2.CX P w) (k + 1) f fd ps (spF ⟨P, w, K, mg, base⟩ (fnF ps.length N.length B)) := by
  have len : ∀ vs H Q E, spF ⟨P, w, K, mg, base⟩ (fnF ps.length N.length B) vs H Q E → vs.length = ps.length := fun vs H Q E h => by
    obtain ⟨Fb, μ, S, its, r, R, hi, hF, _⟩ := h
    unfold fnF at hF
    split at hF
    · rename_i h; rw [hi.length]; exact h
    · cases hF
  obtain ⟨oc, od, kV, doc, pm, an, cdv, ct, osl, rfl, lk, hcd⟩ := Fn.ex
  refine fn_of lk hcd S len fun A outer s H vs Q E hr h => ⟨_, (body cdv A outer s H E hr ⟨_, _, _, _, _, _, _, _, _, _, _, _, _, _, lk⟩).pss, ?_⟩
  have hvl := len vs H Q E h
  obtain ⟨Fb, μ, S, its, r, R, hi, hF, k⟩ := h
  unfold fnF at hF
  split at hF
  rotate_left
  · cases hF
  rw [iniK_eq, fnE_def] at hF
  have R1 : MR ⟨P, w, K, mg, base⟩ (nfx (cxOf (L2.CX P w) P w K mg base N qual (defScope st) f cdv A outer s H E)) Fb μ H (L2.start N vs) ⟨its.map some ++ List.replicate (N.length - ps.length) none, S⟩ := MR.begin R hi _ _ (by simp [hvl])
  split at hF
  · rename_i e hB
    cases hF
    exact ⟨Fb, μ, _, _, R1, hB, fun σ' μ' H' n R' => k .non μ' H' n R'.sr Dn.non⟩
  · rename_i d e hB
    cases hF
    exact ⟨Fb, μ, _, _, R1, hB, fun v σ' μ' H' n R' hv => k v μ' H' n R'.sr hv⟩
  · rename_i c fs e hB
    cases hF
    exact ⟨Fb, μ, _, _, R1, hB, fun cls dd σ' μ' H' n R' hx => k cls dd μ' H' n R'.sr hx⟩
  · cases hF
/-- a def of the text, with all that its callers ask -/
structure Df (P : Program) (w : World) (K : Fr0) (mg : Str → Option Value) (base : Heap) (k : Nat) (x : Str) (st : Stmt) (ps : List Str) (F : List Im → List Ob → Option FR) : Prop where
  ex : ∃ (f : Addr) (fd : FuncData), FnOk P w K mg base (L2.CX P w) k f fd ps (spF ⟨P, w, K, mg, base⟩ F) ∧ mg x = some (.ref f) ∧ PySem.W.keepIn K (.ref f) = true ∧ Binds K fd ps [] ∧ Fun K x x st f fd
theorem df_mk {x : Str} {st : Stmt} {f : Addr} {fd : FuncData} {N ps : List Str} {k : Nat} {B : Gs} (Fn : Fun K x x st f fd) (hm : mg x = some (.ref f)) (hb : Binds K fd ps []) (S : FnScope N ps (defScope st)) (hn : ps.length ≤ N.length)
    (body : ∀ (cdv : Value) (A : Around) (outer : List Env) (s : Shared) (H : Hp) (E : XK), Room k (A.deeper (envOfC x (defScope st) s.heap.objs.size f cdv)) → CodeIs K f cdv →
      PMSs (cxOf (L2.CX P w) P w K mg base N x (defScope st) f cdv A outer s H E) (WnE E (cxOf (L2.CX P w) P w K mg base N x (defScope st) f cdv A outer s H E)) (defBody st) B) : Df P w K mg base (k + 1) x st ps (fnF ps.length N.length B) :=
  ⟨f, fd, fn_pm Fn S hn body, hm, Fn.kp, hb, Fn⟩
theorem df_no {x : Str} {st : Stmt} {f : Addr} {fd : FuncData} {ps : List Str} {k : Nat} (Fn : Fun K x x st f fd) (hm : mg x = some (.ref f)) (hb : Binds K fd ps []) : Df P w K mg base k x st ps (fun _ _ => none) :=
  ⟨f, fd, ⟨fun _ _ _ _ ⟨_, _, _, _, _, _, _, z, _⟩ => (nomatch z), fun _ _ _ _ _ _ _ _ _ _ _ _ _ ⟨_, _, _, _, _, _, _, z, _⟩ => (nomatch z)⟩, hm, Fn.kp, hb, Fn⟩
end
/-! ### the call -/
def allV : List (D × Im) → Bool
  | [] => true
  | (_, .d _) :: r => allV r
  | _ :: _ => false
/-- what a call by data tells, as the caller has it -/
def impR (x : Im) (S' : List Ob) (m : Ms) : Option (Rs Im) := match x with
  | .d d => some (.ok (.d d) m)
  | .nf _ _ => none
  | .rg _ _ => none
  | .sc _ => none
  | .un => none
  | .r n => match S'[n]? with
    | some (.ls xs) => match allD xs with
      | some _ => some (.ok (.r m.s.length) ⟨m.e, m.s ++ [.ls xs]⟩)
      | none => (frz 100 (.r n) S').map fun p => .ok (.d p.1) m
    | some (.dc kvs) => if allV kvs then some (.ok (.r m.s.length) ⟨m.e, m.s ++ [.dc kvs]⟩) else none
    | some (.fz d) => some (.ok (.d d) m)
    | _ => none
def callF (F : List Im → List Ob → Option FR) (its : List Im) (m : Ms) : Option (Rs Im) := match allD its with
  | some _ => match F its [] with
    | some (.val x S') => impR x S' m
    | some (.exc c fs _) => some (.ex c fs m)
    | none => none
  | none => match F its m.s with
    | some (.val x S') => some (.ok x ⟨m.e, S'⟩)
    | some (.exc c fs S') => some (.ex c fs ⟨m.e, S'⟩)
    | none => none
def gCallD (F : List Im → List Ob → Option FR) (G : GL) : GI := gB G (callF F)
section
variable {G : Gx} {μ : List Addr} {F F2 : AS} {H H2 : Hp}
theorem mv_cut {Fb : AS} {S : List Ob} : Mv (U (Lo μ S) Fb) H (U (Lo [] []) (U (Lo μ S) Fb)) H := fun a o n e _ => ⟨fun z => z.elim (fun ⟨k, _, h, _⟩ => by simp at h) n, e⟩
theorem mv_uncut {Fb : AS} {S S' : List Ob} {μ' : List Addr} : Mv (U (Lo μ' S') (U (Lo μ S) Fb)) H (U (Lo μ S) Fb) H := fun a o n e _ => ⟨fun z => n (.inr z), e⟩
theorem SR.nil {Fb : AS} {S : List Ob} (R : SR G Fb μ H S) : SR G (U (Lo μ S) Fb) [] H [] where
  ml := rfl
  nf := fun n a h => by simp at h
  fb := fun a z => R.trkA z
  ob := fun n a o h => by simp at h
  inj := fun n k a o _ h => by simp at h
  tk := fun n a h => by simp at h
  tb := R.tb
/-- an object of the call's own, as the caller's: set apart first -/
theorem MR.take {N : NfR} {Fb : AS} {σ : L2.St} {m : Ms} {H' : Hp} {p : Addr} {u : HO} (R : MR G N Fb μ H σ m) (g : Gr H H') (tb : TBS G H') (hp : H p = none) (ht : H' p = some u) (hu : Apt u p) : MR G N (Fb' Fb p) μ H' σ m := by
  have mv : Mv (U (Lo μ m.s) Fb) H (U (Lo μ m.s) (Fb' Fb p)) H' := fun a o n e nt => ⟨fun z => z.elim (fun z => n (.inl z)) fun z => z.elim (fun z => n (.inr z)) (ne_of_none e hp), g.at_ e nt⟩
  refine ⟨⟨R.sr.ml, fun n a h z => z.elim (R.sr.nf n a h) fun z => ?_, fun a z => ?_, fun n a o h1 h2 => (R.sr.ob n a o h1 h2).mv (fun _ _ h => h) mv (fun w u e => g.at_ e ((R.sr.ob n a o h1 h2).nt w e)), R.sr.inj, fun n a h => (let ⟨w, e⟩ := R.sr.tk n a h; let ⟨w', e', _⟩ := g a w e; ⟨w', e'⟩), tb⟩, R.len, fun i x e => ?_⟩
  · obtain ⟨w, e⟩ := R.sr.tk n a h
    rw [z, hp] at e; cases e
  · rcases z with z | z
    · exact (R.sr.fb a z).gr g
    · subst z; exact ⟨u, ht, hu⟩
  · obtain ⟨v, e1, h⟩ := R.sl i x e
    exact ⟨v, e1, h.mv (fun _ _ h => h) mv⟩
theorem allV_now {μ' : List Addr} {a : Addr} {kvs : List (D × Im)} (h : DcR G μ F H a kvs) (e : allV kvs = true) (m : Mv F H F2 H2) (ha : ∀ o, H a = some o → H2 a = some o) : DcR G μ' F2 H2 a kvs := by
  have im : ∀ {v : V} {x : Im} {d : D}, x = .d d → ImR G μ F H v x → ImR G μ' F2 H2 v x := fun ex h => by subst ex; exact Dn.mv m h
  have all : ∀ {kvs : List (D × Im)}, allV kvs = true → ∀ kv ∈ kvs, ∃ d, kv.2 = .d d := by
    intro kvs
    induction kvs with
    | nil => intro _ kv h; cases h
    | cons kv kvs ih =>
      intro e kv' h
      obtain ⟨k, x⟩ := kv
      cases x with
      | d y =>
        rcases List.mem_cons.mp h with rfl | h
        · exact ⟨y, rfl⟩
        · exact ih e kv' h
      | r n => cases e
      | nf _ _ => cases e
      | rg _ _ => cases e
      | un => cases e
      | sc _ => cases e
  have al := all e
  rcases h with ⟨ls, e1, q⟩ | ⟨xs, e1, ne, q⟩
  · refine .inl ⟨ls, ha _ e1, ?_⟩
    clear e1 e
    induction q with
    | nil => exact .nil
    | cons h t ih =>
      obtain ⟨d, ed⟩ := al _ List.mem_cons_self
      exact .cons ⟨h.1, im ed h.2⟩ (ih fun kv hk => al kv (List.mem_cons_of_mem _ hk))
  · refine .inr ⟨xs, ha _ e1, ne, ?_⟩
    clear e1 e ne
    induction q with
    | nil => exact .nil
    | cons h t ih =>
      obtain ⟨d, ed⟩ := al _ List.mem_cons_self
      exact .cons ⟨h.1, h.2.1, Dn.mv m h.2.2.1, im ed h.2.2.2⟩ (ih fun kv hk => al kv (List.mem_cons_of_mem _ hk))
end
section
variable {X : Cx} {W : WN}
theorem exIs_mv {K : Fr0} {mg : Str → Option Value} {F F' : AS} {H : Hp} {c : Str} {fs : List (Str × D)} {cls : Value} {dd : Option Addr} (x : ExIs K mg F H c fs cls dd) (m : Mv F H F' H) : ExIs K mg F' H c fs cls dd := by
  refine ⟨x.1, ?_⟩
  have x2 := x.2
  match fs, x2 with
  | [], x2 => exact x2
  | [(f, d)], ⟨a, v, ea, na, ha, hd⟩ => exact ⟨a, v, ea, (m a _ na ha nt_xd).1, ha, hd.mv m⟩
theorem call_go {F : List Im → List Ob → Option FR} {its : List Im} {us : List V} {σ : L2.St} {H : Hp} {Q : VK} {Fb : AS} {μ : List Addr} {m : Ms} {r : Rs Im} (hx : ImA (gx X) μ (U (Lo μ m.s) Fb) H us its) (R : MR (gx X) W.n Fb μ H σ m) (g : callF F its m = some r)
    (k : Go X W Fb σ μ m.s H r fun a μ' S' H' => ∀ b, ρI (gx X) a b μ' (U (Lo μ' S') Fb) H' → Q b H') : spF (gx X) F us H Q (WE W.w σ) := by
  unfold callF at g
  split at g
  · rename_i ds hds
    obtain ⟨da, ei⟩ := allD_dn hx hds
    have ha : ImA (gx X) [] (U (Lo [] []) (U (Lo μ m.s) Fb)) H us its := by rw [ei]; exact dna_ima (da.mv mv_cut)
    split at g
    · rename_i x S' hF
      refine ⟨_, [], [], its, _, R.sr.nil, ha, hF, fun v μ' H' n R' hv => ?_⟩
      have gr : Gr H H' := fun a o e => (n.tr a o e fun ⟨k, _, h, _⟩ => by simp at h).1
      have nx0 : Nx μ m.s H μ m.s H' := Nx.growN gr
      have tb' := R'.tb
      unfold impR at g
      split at g
      · cases g
        exact k μ H' nx0 (R.growN gr R'.tb) v (Dn.mv mv_uncut hv)
      · cases g
      · cases g
      · cases g
      · cases g
      · rename_i n1
        obtain ⟨a, rfl, ha1⟩ := hv
        split at g
        · rename_i xs hS
          obtain ⟨vs, ha2, hi⟩ := R'.ob n1 a _ ha1 hS
          have lo : Lo μ' S' a := lo_at ha1 hS rfl
          have hp : H a = none := by
            cases he : H a with
            | none => rfl
            | some o => exact ((n.tr a o he fun ⟨k, _, h, _⟩ => by simp at h).2 lo).elim
          split at g
          · rename_i ds2 h2
            cases g
            obtain ⟨da2, ei2⟩ := allD_dn hi h2
            have RT := R.take gr tb' hp ha2 apt_lst
            have nf : ¬ Fb a := fun z => R'.nf n1 a ha1 (.inr z)
            have np : ∀ (n : Nat), μ[n]? ≠ some a := fun n e => by
              obtain ⟨w, z⟩ := R.sr.tk n a e
              rw [hp] at z; cases z
            have mvA : Mv (U (Lo μ' S') (U (Lo μ m.s) Fb)) H' (U (Lo μ m.s) (Fb' Fb a)) H' := fun b o nb e _ => ⟨fun z => z.elim (fun z => nb (.inr (.inl z))) fun z => z.elim (fun z => nb (.inr (.inr z))) fun z => nb (.inl (by rw [z]; exact lo)), e⟩
            obtain ⟨R4, mv4⟩ := RT.sr.adopt nf (o := .ls xs) rfl (fun mv => ⟨vs, ha2, by have z := dna_ima (μ := μ ++ [a]) (da2.mv (mvA.trans mv)); rw [← ei2] at z; exact z⟩) np
            refine k (μ ++ [a]) H' (nx0.adopt R.sr.ml fun o e _ => by rw [hp] at e; cases e) ⟨R4, R.len, fun i x e => ?_⟩ (.ref a) ⟨a, rfl, ?_⟩
            · obtain ⟨v, e1, h⟩ := RT.sl i x e
              exact ⟨v, e1, h.mv (fun _ _ h => snoc_old h) mv4⟩
            · rw [← R.sr.ml, List.getElem?_append_right (Nat.le_refl _), Nat.sub_self]
              rfl
          · obtain ⟨p, hp1, rfl⟩ := Option.map_eq_some_iff.mp g
            obtain ⟨R5, n5, f5⟩ := frz_ok R' hp1
            exact k μ H' nx0 (R.growN gr R'.tb) (.ref a) (Dn.mv mv_uncut (f5 (.ref a) ⟨a, rfl, ha1⟩))
        · rename_i kvs hS
          split at g
          · rename_i hav
            cases g
            have dc := R'.ob n1 a _ ha1 hS
            have lo : Lo μ' S' a := lo_at ha1 hS rfl
            have hp : H a = none := by
              cases he : H a with
              | none => rfl
              | some o => exact ((n.tr a o he fun ⟨k, _, h, _⟩ => by simp at h).2 lo).elim
            obtain ⟨u, hu⟩ : ∃ u, H' a = some u := R'.tk n1 a ha1
            have RT := R.take gr tb' hp hu ⟨(R'.ob n1 a _ ha1 hS).nt rfl hu, fun q z => (R'.ob n1 a _ ha1 hS).nc rfl q (by rw [hu, z])⟩
            have nf : ¬ Fb a := fun z => R'.nf n1 a ha1 (.inr z)
            have np : ∀ (n : Nat), μ[n]? ≠ some a := fun n e => by
              obtain ⟨w, z⟩ := R.sr.tk n a e
              rw [hp] at z; cases z
            have mvA : Mv (U (Lo μ' S') (U (Lo μ m.s) Fb)) H' (U (Lo μ m.s) (Fb' Fb a)) H' := fun b o nb e _ => ⟨fun z => z.elim (fun z => nb (.inr (.inl z))) fun z => z.elim (fun z => nb (.inr (.inr z))) fun z => nb (.inl (by rw [z]; exact lo)), e⟩
            obtain ⟨R4, mv4⟩ := RT.sr.adopt nf (o := .dc kvs) rfl (fun mv => allV_now dc hav (mvA.trans mv) fun o e => e) np
            refine k (μ ++ [a]) H' (nx0.adopt R.sr.ml fun o e _ => by rw [hp] at e; cases e) ⟨R4, R.len, fun i x e => ?_⟩ (.ref a) ⟨a, rfl, ?_⟩
            · obtain ⟨v, e1, h⟩ := RT.sl i x e
              exact ⟨v, e1, h.mv (fun _ _ h => snoc_old h) mv4⟩
            · rw [← R.sr.ml, List.getElem?_append_right (Nat.le_refl _), Nat.sub_self]
              rfl
          · cases g
        · rename_i d hS
          cases g
          exact k μ H' nx0 (R.growN gr R'.tb) (.ref a) (Dn.mv mv_uncut (R'.ob n1 a _ ha1 hS))
        · cases g
    · rename_i c fs S' hF
      cases g
      refine ⟨_, [], [], its, _, R.sr.nil, ha, hF, fun cls dd μ' H' n R' x => ?_⟩
      have gr : Gr H H' := fun a o e => (n.tr a o e fun ⟨k, _, h, _⟩ => by simp at h).1
      exact k cls dd μ H' (Nx.growN gr) (R.growN gr R'.tb) (exIs_mv x mv_uncut)
    · cases g
  · split at g
    · rename_i x S' hF
      cases g
      exact ⟨Fb, μ, m.s, its, _, R.sr, hx, hF, fun v μ' H' n R' hv => k μ' H' n (R.later n R') v hv⟩
    · rename_i c fs S' hF
      cases g
      exact ⟨Fb, μ, m.s, its, _, R.sr, hx, hF, fun cls dd μ' H' n R' x => k cls dd μ' H' n (R.later n R') x⟩
    · cases g
variable {x : Str} {p pos : Pos} {e : Expr} {es : List Expr} {k : Nat} {st : Stmt} {ps : List Str} {F : List Im → List Ob → Option FR}
theorem pi_call {G : GL} (D : Df X.prog X.w X.K X.mg X.base k x st ps F) (hr : Room k X.A) (hg : Gl X x) (tk : Takes X W.w) (ha : PML X W (e :: es) G)
    (hdb : (x == ("__debug__" : Str)) = false := by decide) (he : starEach (e :: es) X.env = (false, eval e X.env) :: starEach es X.env := by rfl) (hpl : (backTo pos (starEach es X.env)).any (·.1) = false := by rfl) : PMI X W (.Call (.Name x p) (e :: es) [] pos) (gCallD F G) := by
  obtain ⟨f, fd, Fn, hm, hk, hb, _⟩ := D.ex
  refine ⟨PE.wk (pe_callS Fn hr hg hm hk hb (fun σ => passAt tk σ) ha.pa hdb he hpl) fun σ H Q q => (tG.seq (ρ := ρL (gx X)) q).mono fun us H1 z => ?_⟩
  obtain ⟨its, Fb, μ, m, r, hx, R, g, kk⟩ := z
  exact call_go hx R g kk
theorem pi_call0 (D : Df X.prog X.w X.K X.mg X.base k x st ps F) (hr : Room k X.A) (hg : Gl X x) (tk : Takes X W.w) (hdb : (x == ("__debug__" : Str)) = false := by decide) : PMI X W (.Call (.Name x p) [] [] pos) (gCallD F (gP [])) := by
  obtain ⟨f, fd, Fn, hm, hk, hb, _⟩ := D.ex
  have pc : ∀ {E : L2.St → XK}, (∀ σ, PassesAt (L2.CX X.prog X.w) X σ (E σ)) → PE X (.Call (.Name x p) [] [] pos) (tCallS (spF (gx X) F) E tNil) := fun {E} hx => ⟨fun pins s σ H Q I h => by
    refine wpAny_Call_Name_kw (ld_glob I hg hm ?_ hdb)
    exact PySem.W.callWith_K0 I.kIn hk (run_fnS (us := []) Fn hr hb (hx σ) I .nil h)⟩
  refine ⟨PE.wk (pc fun σ => passAt tk σ) fun σ H Q q => ?_⟩
  obtain ⟨Fb, μ, m, r, R, g, kk⟩ := q
  exact call_go (its := []) (us := []) .nil R g kk
end
end PM
namespace PM
open PySem PySem.Spec PyProof.Rows L2
open PD (D AS Fr0 U Dn DnA Mv ExIs All2 NT nt_lst nt_tup nt_xd nt_ext nt_rng mv_grow upd_grow sz RCd)
/-! ### a frame's cells, told of in the heap for as long as another def runs -/
abbrev Cs := List (Addr × Obj)
def CellO (c : Addr) (o : Obj) : HO := .ext fun h => h.get? c = some o ∧ ∃ v, o.data = .cell v
def withC (H : Hp) (cs : Cs) : Hp := fun b => match H b with
  | some x => some x
  | none => (cs.lookup b).map (CellO b)
def delC (H : Hp) (cs : Cs) : Hp := fun b => if (cs.lookup b).isSome then none else H b
/-- they stand there, untold -/
def CsAt (H : Hp) (h : Heap) (cs : Cs) : Prop := ∀ c o, cs.lookup c = some o → H c = none ∧ h.get? c = some o ∧ ∃ v, o.data = .cell v
/-- they stand there, told -/
def CsIn (H : Hp) (cs : Cs) : Prop := ∀ c o, cs.lookup c = some o → H c = some (CellO c o)
section
variable {P : Program} {w : World} {H H' : Hp} {h h' B : Heap} {cs : Cs} {fs : List Addr}
theorem withC_old {b : Addr} {x : HO} (e : H b = some x) : withC H cs b = some x := by unfold withC; rw [e]
theorem withC_new {b : Addr} {o : Obj} (e : H b = none) (l : cs.lookup b = some o) : withC H cs b = some (CellO b o) := by unfold withC; rw [e, l]; rfl
theorem withC_none {b : Addr} (e : H b = none) (l : cs.lookup b = none) : withC H cs b = none := by unfold withC; rw [e, l]; rfl
theorem withC_in (a : ∀ c o, cs.lookup c = some o → H c = none) : CsIn (withC H cs) cs := fun c o l => withC_new (a c o l) l
theorem delC_in {b : Addr} {o : Obj} (l : cs.lookup b = some o) : delC H cs b = none := by unfold delC; rw [l]; rfl
theorem delC_out {b : Addr} (l : cs.lookup b = none) : delC H cs b = H b := by unfold delC; rw [l]; rfl
theorem delC_some {b : Addr} {x : HO} (e : delC H cs b = some x) : cs.lookup b = none ∧ H b = some x := by
  unfold delC at e
  split at e
  · cases e
  · rename_i z
    refine ⟨?_, e⟩
    cases q : cs.lookup b with
    | none => rfl
    | some o => rw [q] at z; exact (z rfl).elim
theorem del_with (a : ∀ c o, cs.lookup c = some o → H c = none) : delC (withC H cs) cs = H := by
  funext b
  cases l : cs.lookup b with
  | some o => rw [delC_in l, a b o l]
  | none =>
    rw [delC_out l]
    cases e : H b with
    | none => exact withC_none e l
    | some x => exact withC_old e
theorem with_del (a : CsIn H cs) : withC (delC H cs) cs = H := by
  funext b
  cases l : cs.lookup b with
  | some o => rw [withC_new (delC_in l) l, a b o l]
  | none =>
    cases e : H b with
    | none => exact withC_none (by rw [delC_out l]; exact e) l
    | some x => exact withC_old (by rw [delC_out l]; exact e)
theorem cell_ok {a : Addr} {o : Obj} (e : h.get? a = some o ∧ ∃ v, o.data = .cell v) : ObjOk P w H h a (CellO a o) := ext_ok e ⟨o, e.1⟩ fun h1 h2 q k => ⟨k o q.1, q.2⟩
theorem cell_get {a : Addr} {o : Obj} (k : ObjOk P w H h a (CellO a o)) : h.get? a = some o := k.1.1
theorem cell_dat {a : Addr} {o : Obj} (k : ObjOk P w H h a (CellO a o)) : h.get? a = some o ∧ ∃ v, o.data = .cell v := k.1
theorem code_ncell {a : Addr} {q : Str} {o : Obj} : CodeO a q ≠ CellO a o := fun z => by
  have ep := ext_inj z
  obtain ⟨h, oc, vs, t, h1, h2, h3⟩ := code_sat a q
  have cq : (fun h => ∃ oc vs t, h.get? a = some oc ∧ oc.data = Data.fields vs ∧ vs[1]? = some (Value.str q t)) h := ⟨oc, vs, t, h1, h2, h3⟩
  rw [ep] at cq
  obtain ⟨g, v, d⟩ := cq
  rw [h1] at g
  cases g
  rw [h2] at d
  cases d
theorem hok_up (k : HOk P w H h) (a : CsAt H h cs) : HOk P w (withC H cs) h := fun b x e => by
  cases z : H b with
  | some y =>
    rw [withC_old z] at e
    cases e
    exact (k b _ z).stay (fun _ _ _ q => q) (fun _ q => withC_old q) fun _ _ q => withC_old q
  | none =>
    cases l : cs.lookup b with
    | none => rw [withC_none z l] at e; cases e
    | some o =>
      rw [withC_new z l] at e
      cases e
      exact cell_ok (a b o l).2
theorem csIn_not {x : HO} {b : Addr} (a : CsIn H cs) (e : H b = some x) (n : ∀ o, x ≠ CellO b o) : cs.lookup b = none := by
  cases l : cs.lookup b with
  | none => rfl
  | some o =>
    rw [a b o l] at e
    cases e
    exact (n o rfl).elim
theorem hok_down (k : HOk P w H h) (a : CsIn H cs) : HOk P w (delC H cs) h := fun b x e => by
  obtain ⟨l, e2⟩ := delC_some e
  refine (k b x e2).stay (fun _ _ _ q => q) (fun c q => ?_) fun c xs q => ?_
  · rw [delC_out (csIn_not a q fun o z => by cases z)]; exact q
  · rw [delC_out (csIn_not a q fun o z => by cases z)]; exact q
theorem un_down (u : Un fs [] (withC H cs) H' h h') (a : CsAt H h cs) (k : HOk P w H' h') (i : CsIn H' cs) : Un fs [] H (delC H' cs) h h' := by
  have nz : ∀ {b : Addr} {x : HO}, H b = some x → cs.lookup b = none := fun {b x} e => by
    cases l : cs.lookup b with
    | none => rfl
    | some o => rw [(a b o l).1] at e; cases e
  refine ⟨fun b o e n nf ne => ?_, fun b o e n nf ne => ?_, fun b o e n ne => ?_, u.there, fun b xs e => ?_, fun b o v e => ?_, fun b ps e => ?_⟩
  · cases l : cs.lookup b with
    | some o2 =>
      rw [(a b o2 l).2.1] at e
      cases e
      exact cell_get (k b _ (i b _ l))
    | none => exact u.keep b o e (withC_none n l) nf ne
  · cases l : cs.lookup b with
    | some o2 =>
      rw [(a b o2 l).2.1] at e
      cases e
      exact ⟨_, cell_get (k b _ (i b _ l))⟩
    | none => exact u.slot b o e (withC_none n l) nf ne
  · cases l : cs.lookup b with
    | some o2 => exact delC_in l
    | none => rw [delC_out l]; exact u.free b o e (withC_none n l) ne
  · rw [delC_out (nz e)]; exact u.tups b xs (withC_old e)
  · rw [delC_out (nz e)]; exact u.frzs b o v (withC_old e)
  · rw [delC_out (nz e)]; exact u.tbls b ps (withC_old e)
theorem un_up (u : Un fs [] (delC H cs) H' h h') (i : CsIn H cs) : Un fs [] H (withC H' cs) h h' := by
  refine ⟨fun b o e n nf ne => ?_, fun b o e n nf ne => ?_, fun b o e n ne => ?_, u.there, fun b xs e => ?_, fun b o v e => ?_, fun b ps e => ?_⟩
  · refine u.keep b o e ?_ nf ne
    unfold delC; split <;> first | rfl | exact n
  · refine u.slot b o e ?_ nf ne
    unfold delC; split <;> first | rfl | exact n
  · cases l : cs.lookup b with
    | some o2 => rw [i b o2 l] at n; cases n
    | none => exact withC_none (u.free b o e (by rw [delC_out l]; exact n) ne) l
  · exact withC_old (u.tups b xs (by rw [delC_out (csIn_not i e fun o z => by cases z)]; exact e))
  · exact withC_old (u.frzs b o v (by rw [delC_out (csIn_not i e fun o z => by cases z)]; exact e))
  · obtain ⟨more, q⟩ := u.tbls b ps (by rw [delC_out (csIn_not i e fun o z => by cases z)]; exact e)
    exact ⟨more, withC_old q⟩
theorem ub_down (u : UB fs (withC H cs) H' h B h') (a : CsAt H h cs) (k : HOk P w H' B) (i : CsIn H' cs) : UB fs H (delC H' cs) h B h' := by
  have nz : ∀ {b : Addr} {x : HO}, H b = some x → cs.lookup b = none := fun {b x} e => by
    cases l : cs.lookup b with
    | none => rfl
    | some o => rw [(a b o l).1] at e; cases e
  refine ⟨fun b o e n nf => ?_, u.slot, fun b o e n => ?_, u.there, fun b xs e => ?_, fun b o v e => ?_, fun b ps e => ?_⟩
  · cases l : cs.lookup b with
    | some o2 =>
      rw [(a b o2 l).2.1] at e
      cases e
      exact cell_get (k b _ (i b _ l))
    | none => exact u.keep b o e (withC_none n l) nf
  · cases l : cs.lookup b with
    | some o2 => exact delC_in l
    | none => rw [delC_out l]; exact u.free b o e (withC_none n l)
  · rw [delC_out (nz e)]; exact u.tups b xs (withC_old e)
  · rw [delC_out (nz e)]; exact u.frzs b o v (withC_old e)
  · rw [delC_out (nz e)]; exact u.tbls b ps (withC_old e)
theorem ub_up (u : UB fs (delC H cs) H' h B h') (i : CsIn H cs) : UB fs H (withC H' cs) h B h' := by
  refine ⟨fun b o e n nf => ?_, u.slot, fun b o e n => ?_, u.there, fun b xs e => ?_, fun b o v e => ?_, fun b ps e => ?_⟩
  · refine u.keep b o e ?_ nf
    unfold delC; split <;> first | rfl | exact n
  · cases l : cs.lookup b with
    | some o2 => rw [i b o2 l] at n; cases n
    | none => exact withC_none (u.free b o e (by rw [delC_out l]; exact n)) l
  · exact withC_old (u.tups b xs (by rw [delC_out (csIn_not i e fun o z => by cases z)]; exact e))
  · exact withC_old (u.frzs b o v (by rw [delC_out (csIn_not i e fun o z => by cases z)]; exact e))
  · obtain ⟨more, q⟩ := u.tbls b ps (by rw [delC_out (csIn_not i e fun o z => by cases z)]; exact e)
    exact ⟨more, withC_old q⟩
end
section
variable {P : Program} {w : World} {K : Fr0} {mg : Str → Option Value} {base : Heap} {A : Around} {outer : List Env} {s s' : Shared} {H : Hp} {cs : Cs} {Q Q' : VK} {E E' : XK} {u : Value}
/-- apart from what stood at the start and from the frames -/
theorem tbs_del {G : Gx} (i : CsIn H cs) (t : TBS G H) : TBS G (delC H cs) := fun x hx a h => tab_mv (t x hx a h) (fun u e => by
  obtain ⟨ps, e2, _⟩ := t x hx a h
  have z := e.symm.trans e2
  cases z
  rw [delC_out (csIn_not i e fun o z => by cases z)]; exact e) fun c q e => by rw [delC_out (csIn_not i e fun o z => code_ncell z)]; exact e
theorem tbs_with {G : Gx} (t : TBS G H) : TBS G (withC H cs) := t.grow fun a o e => withC_old e
def CsFar (base : Heap) (outer : List Env) (cs : Cs) : Prop := ∀ c o, cs.lookup c = some o → base.get? c = none ∧ c ∉ frs outer
theorem env0_up (e : Env0 P w K mg base A outer s H) (a : CsAt H s.heap cs) (f : CsFar base outer cs) : Env0 P w K mg base A outer s (withC H cs) := by
  refine ⟨e.frames, e.mod, fun b o z => ⟨(e.bs b o z).1, ?_⟩, e.bsz, e.funs, fun b z => ?_, hok_up e.hok a, e.bare⟩
  · cases l : cs.lookup b with
    | none => exact withC_none (e.bs b o z).2 l
    | some o2 => rw [(f b o2 l).1] at z; cases z
  · cases l : cs.lookup b with
    | none => exact withC_none (e.frf b z) l
    | some o2 => exact ((f b o2 l).2 z).elim
theorem env0_down (e : Env0 P w K mg base A outer s H) (i : CsIn H cs) : Env0 P w K mg base A outer s (delC H cs) := by
  have dn : ∀ {b : Addr}, H b = none → delC H cs b = none := fun {b} n => by unfold delC; split <;> first | rfl | exact n
  exact ⟨e.frames, e.mod, fun b o z => ⟨(e.bs b o z).1, dn (e.bs b o z).2⟩, e.bsz, e.funs, fun b z => dn (e.frf b z), hok_down e.hok i, e.bare⟩
theorem ce_down (a : CsAt H s.heap cs) (hq : ∀ v H', Q v H' → CsIn H' cs ∧ Q' v (delC H' cs)) (c : CE outer P w (withC H cs) s Q u s') : CE outer P w H s Q' u s' := by
  obtain ⟨v, H', o, b, un, k, r, q⟩ := c
  obtain ⟨i, q'⟩ := hq v H' q
  exact ⟨v, delC H' cs, o, b, un_down un a k i, hok_down k i, r, q'⟩
theorem cx_down (a : CsAt H s.heap cs) (hq : ∀ cls d H', E cls d H' → CsIn H' cs ∧ E' cls d (delC H' cs)) (c : L2.CX P w outer (withC H cs) s E u s') : L2.CX P w outer H s E' u s' := by
  obtain ⟨x, B, H', cls, d, e1, e2, k, ub, n, e3, e4, q⟩ := c
  obtain ⟨i, q'⟩ := hq cls d H' q
  exact ⟨x, B, delC H' cs, cls, d, e1, e2, hok_down k i, ub_down ub a k i, by unfold delC; split <;> first | rfl | exact n, e3, e4, q'⟩
theorem cr_down {r : Result} (a : CsAt H s.heap cs) (hq : ∀ v H', Q v H' → CsIn H' cs ∧ Q' v (delC H' cs)) (he : ∀ cls d H', E cls d H' → CsIn H' cs ∧ E' cls d (delC H' cs)) (c : CR (L2.CX P w) outer P w (withC H cs) s Q E r s') : CR (L2.CX P w) outer P w H s Q' E' r s' := by
  cases r with
  | ok f => cases f with
    | ret v => exact ce_down a hq c
    | _ => exact c
  | error e => exact cx_down a he c
/-- what was told stands still -/
theorem csAt_kept {H' : Hp} {h h' : Heap} {fs : List Addr} (i : ∀ c o, cs.lookup c = some o → H c = none ∧ (h.get? c = some o ∧ ∃ v, o.data = .cell v) ∧ c ∉ fs) (u : Un fs [] H H' h h') : CsAt H' h' cs := fun c o l =>
  let ⟨n, e, nf⟩ := i c o l
  ⟨u.free c o e.1 n (by simp), u.keep c o e.1 n nf (by simp), e.2⟩
theorem ce_up (i : CsIn H cs) (k : HOk P w H s.heap) (nf : ∀ c o, cs.lookup c = some o → c ∉ frs outer) (hq : ∀ v H', (∀ c o, cs.lookup c = some o → H' c = none) → Q v H' → Q' v (withC H' cs)) (c : CE outer P w (delC H cs) s Q u s') : CE outer P w H s Q' u s' := by
  obtain ⟨v, H', o, b, un, k', r, q⟩ := c
  have at' : CsAt H' s'.heap cs := csAt_kept (fun c o l => ⟨delC_in l, cell_dat (k c _ (i c o l)), nf c o l⟩) un
  exact ⟨v, withC H' cs, o, b, un_up un i, hok_up k' at', r, hq v H' (fun c o l => (at' c o l).1) q⟩
theorem cx_up (i : CsIn H cs) (k : HOk P w H s.heap) (nf : ∀ c o, cs.lookup c = some o → c ∉ frs outer) (hq : ∀ cls d H', (∀ c o, cs.lookup c = some o → H' c = none) → E cls d H' → E' cls d (withC H' cs)) (c : L2.CX P w outer (delC H cs) s E u s') : L2.CX P w outer H s E' u s' := by
  obtain ⟨x, B, H', cls, d, e1, e2, k', ub, n, e3, e4, q⟩ := c
  have fr : ∀ c o, cs.lookup c = some o → H' c = none ∧ B.get? c = some o ∧ ∃ v, o.data = .cell v := fun c o l => by
    have g := cell_get (k c _ (i c o l))
    exact ⟨ub.free c o g (delC_in l), ub.keep c o g (delC_in l) (nf c o l), (cell_dat (k c _ (i c o l))).2⟩
  refine ⟨x, B, withC H' cs, cls, d, e1, e2, hok_up k' fr, ub_up ub i, ?_, e3, e4, hq cls d H' (fun c o l => (fr c o l).1) q⟩
  cases l : cs.lookup x with
  | none => exact withC_none n l
  | some o =>
    have z : B.get? x = none := e2.2.1
    rw [(fr x o l).2.1] at z
    cases z
theorem cr_up {r : Result} (i : CsIn H cs) (k : HOk P w H s.heap) (nf : ∀ c o, cs.lookup c = some o → c ∉ frs outer) (hq : ∀ v H', (∀ c o, cs.lookup c = some o → H' c = none) → Q v H' → Q' v (withC H' cs))
    (he : ∀ cls d H', (∀ c o, cs.lookup c = some o → H' c = none) → E cls d H' → E' cls d (withC H' cs)) (c : CR (L2.CX P w) outer P w (delC H cs) s Q E r s') : CR (L2.CX P w) outer P w H s Q' E' r s' := by
  cases r with
  | ok f => cases f with
    | ret v => exact ce_up i k nf hq c
    | _ => exact c
  | error e => exact cx_up i k nf he c
end
/-! ### data where cells are told, and where not -/
section
variable {K : Fr0} {F : AS} {H : Hp} {cs : Cs}
mutual
theorem dn_del (i : CsIn H cs) : ∀ {v : V} {d : D}, Dn K F H v d → Dn K F (delC H cs) v d
  | _, _, .non => .non
  | _, _, .bl b => .bl b
  | _, _, .int n => .int n
  | _, _, .str x => .str x
  | _, _, .lst n e h => .lst n (by rw [delC_out (csIn_not i e fun o z => by cases z)]; exact e) (dna_del i h)
  | _, _, .tup e h => .tup (e.imp (fun z => ⟨z.1, by rw [delC_out (csIn_not i z.2 fun o y => by cases y)]; exact z.2⟩) id) (dna_del i h)
theorem dna_del (i : CsIn H cs) : ∀ {vs : List V} {ds : List D}, DnA K F H vs ds → DnA K F (delC H cs) vs ds
  | _, _, .nil => .nil
  | _, _, .cons h t => .cons (dn_del i h) (dna_del i t)
end
end
/-! ### a call while the frame's cells are told -/
section
variable {X : Cx}
/-- the frame's cells as they stand -/
theorem cells_far {pins : List (Addr × Obj)} {σ : L2.St} {H : Hp} {s : Shared} (I : Inv X pins σ H s) (hf : ∀ x, X.fn x = true) (hst : X.stack = X.env :: X.outer) (hfr : X.env.frame = some X.env.locals) {x : Str} {c : Addr} (l : X.env.cells.lookup x = some c) :
    H c = none ∧ X.base.get? c = none ∧ c ∉ frs X.stack := by
  have ok := I.ok
  have ge := ok.cab x c (hf x) l
  refine ⟨I.freeC x c l, ?_, fun z => ?_⟩
  · cases e : X.base.get? c with
    | none => rfl
    | some o =>
      exact absurd (Nat.lt_of_lt_of_le (Heap.lt_size e) ok.bsz) (Nat.not_lt.mpr ge)
  · obtain ⟨v, o, e1, e2⟩ := I.cell x c l
    rw [hst] at z
    unfold frs at z
    rw [List.filterMap_cons, hfr] at z
    rcases List.mem_cons.mp z with z | z
    · subst z
      obtain ⟨m, ⟨o', es, ep, g, d, _⟩, _⟩ := I.loc
      rw [e1] at g
      cases g
      rw [e2] at d
      cases d
    · have fun0 : ∀ (l : List Env) (h : Heap), h.FunFrames X.base l → c ∈ frs l → c < h.objs.size := by
        intro l
        induction l with
        | nil => intro h _ z; simp [frs] at z
        | cons e es ih =>
          intro h q z
          simp only [Heap.FunFrames] at q
          obtain ⟨_, ⟨L, o2, f1, _, f3, _⟩, q2⟩ := q
          unfold frs at z
          rw [List.filterMap_cons, f1] at z
          rcases List.mem_cons.mp z with z | z
          · rw [z]; exact Heap.lt_size f3
          · exact ih h q2 z
      exact absurd (fun0 X.outer X.s_0.heap ok.funs z) (Nat.not_lt.mpr ge)
end
/-! ### a closure with its cells told: a function by data -/
theorem fv_of_nok {G : Gx} {F : AS} {H : Hp} {f : Addr} {Fn : NdefX.NF} {ps fr : List Str} {cs : Cs} {ws : List (Option V)} {sp : List (Option V) → Sp} {k : Nat} {C : List D → Option DR} (N : NdefX.NOk G.P G.w G.K G.mg G.base (L2.CX G.P G.w) k f Fn ps fr sp) (hk : k ≤ kF)
    (e1 : H f = some (NdefX.FnO f Fn)) (n1 : ¬ F f) (l1 : cs.lookup f = none) (e2 : H Fn.c = some (CodeO Fn.c Fn.qual)) (n2 : ¬ F Fn.c) (l2 : cs.lookup Fn.c = none) (i : CsIn H cs) (ni : ∀ c o, cs.lookup c = some o → ¬ F c) (lw : ws.length = fr.length)
    (all : ∀ y c, Fn.cl.lookup y = some c → ∃ o v, cs.lookup c = some o ∧ o.data = .cell v) (inj : ∀ x y c, Fn.cl.lookup x = some c → Fn.cl.lookup y = some c → x = y)
    (has : ∀ (j : Nat) (y : Str), fr[j]? = some y → ∃ c, Fn.cl.lookup y = some c ∧ ∀ v, ws[j]? = some (some v) → ∃ u o, RelV v u ∧ cs.lookup c = some o ∧ o.data = .cell (some u))
    (hs : ∀ (F' : AS) (H' : Hp) (vs : List V) (Q : VK) (E : XK), Mv F H F' H' → TBS G H' → (∀ b, F' b → Ap H' b) → CsIn H' cs → SpC G F' C vs H' Q E →
      sp ws vs (delC H' cs) (fun v H2 => (∀ c o, cs.lookup c = some o → H2 c = none) → Q v (withC H2 cs)) (fun cls d H2 => (∀ c o, cs.lookup c = some o → H2 c = none) → E cls d (withC H2 cs))) : FV G F H f C := by
  intro F' H' m tb fb A outer s us vs Q E hr e0 hv hsp
  have i' : CsIn H' cs := fun c o l => (m c _ (ni c o l) (i c o l) nt_ext).2
  have nf : ∀ c o, cs.lookup c = some o → c ∉ frs outer := fun c o l z => by
    have := e0.frf c z
    rw [i' c o l] at this
    cases this
  have run := N.run A outer s (delC H' cs) us vs ws _ _ (hr.mono hk) (env0_down e0 i') (by rw [delC_out l1]; exact (m f _ n1 e1 nt_ext).2) (by rw [delC_out l2]; exact (m _ _ n2 e2 nt_ext).2)
    ⟨lw, fun y c l => by
      obtain ⟨o, v, q1, q2⟩ := all y c l
      exact ⟨delC_in q1, v, o, cell_get (e0.hok c _ (i' c o q1)), q2⟩, inj, fun j y h => by
      obtain ⟨c, q1, q2⟩ := has j y h
      refine ⟨c, q1, fun v z => ?_⟩
      obtain ⟨u, o, r, q3, q4⟩ := q2 v z
      exact ⟨u, r, o, cell_get (e0.hok c _ (i' c o q3)), q4⟩⟩ hv (hs F' H' vs Q E m tb fb i' hsp)
  exact codeAny_mono run fun r s' c => cr_up i' e0.hok nf (fun v H2 n q => q n) (fun cls d H2 n q => q n) c
end PM
namespace PM
open PySem PySem.Spec PyProof.Rows L2
open PD (D AS Fr0 U Dn DnA Mv ExIs All2 NT nt_lst nt_tup nt_xd nt_ext nt_rng mv_grow upd_grow sz RCd)
/-! ### a nested def's body, by its parameters and by what it takes from its frame -/
def fnN (n j k : Nat) (B : Gs) : List Im → List (Option Im) → List Ob → Option FR := fun its wis S => if its.length = n ∧ wis.length = j then match B ⟨its.map some ++ (wis ++ List.replicate (k - n - j) none), S⟩ with
    | some (.nx e) => some (.val (.d .none) e.s)
    | some (.rt x e) => some (.val x e.s)
    | some (.ex c fs e) => some (.exc c fs e.s)
    | _ => none
  else none
theorem WsR.at_ {G : Gx} {μ : List Addr} {F : AS} {H : Hp} {y : Im} : ∀ {ws : List (Option V)} {wis : List (Option Im)} {j : Nat}, WsR G μ F H ws wis → wis[j]? = some (some y) → ∃ v, ws[j]? = some (some v) ∧ ImR G μ F H v y
  | _, _, j, .nil, e => by simp at e
  | _, _, 0, .cons h t, e => by
    obtain ⟨v, e1, h1⟩ := h y (by simpa using e)
    exact ⟨v, by rw [e1]; rfl, h1⟩
  | _, _, j + 1, .cons h t, e => by
    obtain ⟨v, e1, h1⟩ := WsR.at_ (j := j) t (by simpa using e)
    exact ⟨v, by simpa using e1, h1⟩
theorem MR.begin2 {G : Gx} {N : NfR} {Fb : AS} {μ : List Addr} {H : Hp} {S : List Ob} {vs : List V} {its : List Im} {ws : List (Option V)} {wis : List (Option Im)} (R : SR G Fb μ H S) (h : ImA G μ (U (Lo μ S) Fb) H vs its) (hw : WsR G μ (U (Lo μ S) Fb) H ws wis) (rest : List (Option V)) (k : Nat) (hk : rest.length = k) :
    MR G N Fb μ H (vs.map some ++ (ws ++ rest)) ⟨its.map some ++ (wis ++ List.replicate k none), S⟩ where
  sr := R
  len := by simp [hk, h.length, PD.All2.length hw]
  sl := fun i x e => by
    dsimp only at e
    by_cases hi : i < (its.map some).length
    · rw [List.getElem?_append_left hi, List.getElem?_map] at e
      obtain ⟨y, e1, e2⟩ := Option.map_eq_some_iff.mp e
      cases e2
      obtain ⟨v, h1, h2⟩ := h.getV e1
      refine ⟨v, ?_, h2.n⟩
      rw [List.getElem?_append_left (by simpa [h.length] using hi), List.getElem?_map, h1]
      rfl
    · rw [List.getElem?_append_right (by omega)] at e
      rw [List.getElem?_append_right (by simpa [h.length] using hi)]
      have el : (vs.map some).length = (its.map some).length := by simp [h.length]
      rw [el]
      by_cases hj : i - (its.map some).length < wis.length
      · rw [List.getElem?_append_left hj] at e
        obtain ⟨v, e1, h1⟩ := hw.at_ e
        exact ⟨v, by rw [List.getElem?_append_left (by rw [PD.All2.length hw]; exact hj)]; exact e1, h1.n⟩
      · rw [List.getElem?_append_right (by omega)] at e
        obtain ⟨_, h2⟩ := List.getElem?_eq_some_iff.mp e
        rw [List.getElem_replicate] at h2
        cases h2
section
variable {P : Program} {w : World} {K : Fr0} {mg : Str → Option Value} {base : Heap}
theorem nn_pm {N ps fr : List Str} {F : NdefX.NF} {f : Addr} {k : Nat} {B : Gs} (S : NdefX.NScope N ps fr F.scope) (hb : ∀ (doc pm ctv : Value) (us : List Value), us.length = ps.length → bindArgs (F.fd doc pm ctv) ⟨us, []⟩ = pure (ps.zip us))
    (body : ∀ (A : Around) (outer : List Env) (s : Shared) (H : Hp) (E : XK), Room k (A.deeper (NdefX.envF F f s.heap.objs.size)) →
      PMSs (NdefX.ncx (L2.CX P w) P w K mg base N F f A outer s H E) (WnE E (NdefX.ncx (L2.CX P w) P w K mg base N F f A outer s H E)) F.body B) : NdefX.NOk P w K mg base (L2.CX P w) (k + 1) f F ps fr (spN ⟨P, w, K, mg, base⟩ (fnN ps.length fr.length N.length B)) := by
  have len : ∀ ws vs H Q E, spN ⟨P, w, K, mg, base⟩ (fnN ps.length fr.length N.length B) ws vs H Q E → vs.length = ps.length := fun ws vs H Q E h => by
    obtain ⟨Fb, μ, S, its, wis, r, R, hi, hw, hF, _⟩ := h
    unfold fnN at hF
    split at hF
    · rename_i h; rw [hi.length]; exact h.1
    · cases hF
  refine NdefX.nok_of S hb len fun A outer s H vs ws Q E hr e1 e2 lw h => ⟨_, (body A outer s H E hr).pss, ?_⟩
  have hvl := len ws vs H Q E h
  obtain ⟨Fb, μ, S, its, wis, r, R, hi, hw, hF, k⟩ := h
  unfold fnN at hF
  split at hF
  rotate_left
  · cases hF
  rename_i hl
  have R1 : MR ⟨P, w, K, mg, base⟩ (nfx (NdefX.ncx (L2.CX P w) P w K mg base N F f A outer s H E)) Fb μ H (NdefX.startF N vs ws) ⟨its.map some ++ (wis ++ List.replicate (N.length - ps.length - fr.length) none), S⟩ := MR.begin2 R hi hw _ _ (by rw [List.length_replicate, hvl, lw])
  split at hF
  · rename_i e hB
    cases hF
    exact ⟨Fb, μ, _, _, R1, hB, fun σ' μ' H' n R' => k .non μ' H' n R'.sr Dn.non⟩
  · rename_i d e hB
    cases hF
    exact ⟨Fb, μ, _, _, R1, hB, fun v σ' μ' H' n R' hv => k v μ' H' n R'.sr hv⟩
  · rename_i c fs e hB
    cases hF
    exact ⟨Fb, μ, _, _, R1, hB, fun cls dd σ' μ' H' n R' hx => k cls dd μ' H' n R'.sr hx⟩
  · cases hF
end
/-! ### what it takes being data, it is a function by data -/
theorem wsR_data {G : Gx} {μ : List Addr} {F : AS} {H : Hp} : ∀ {wv : List V} {cds : List D}, DnA G.K F H wv cds → WsR G μ F H (wv.map some) (cds.map fun d => some (.d d))
  | _, _, .nil => .nil
  | _, _, .cons h t => .cons (fun y e => by cases e; exact ⟨_, rfl, h⟩) (wsR_data t)
theorem fv_pure {G : Gx} {F : AS} {H : Hp} {f : Addr} {Fn : NdefX.NF} {ps fr : List Str} {cs : Cs} {wv : List V} {cds : List D} {k : Nat} {Fr : List Im → List (Option Im) → List Ob → Option FR} (N : NdefX.NOk G.P G.w G.K G.mg G.base (L2.CX G.P G.w) k f Fn ps fr (spN G Fr)) (hk : k ≤ kF)
    (e1 : H f = some (NdefX.FnO f Fn)) (n1 : ¬ F f) (l1 : cs.lookup f = none) (e2 : H Fn.c = some (CodeO Fn.c Fn.qual)) (n2 : ¬ F Fn.c) (l2 : cs.lookup Fn.c = none) (i : CsIn H cs) (ni : ∀ c o, cs.lookup c = some o → ¬ F c) (lw : wv.length = fr.length)
    (all : ∀ y c, Fn.cl.lookup y = some c → ∃ o v, cs.lookup c = some o ∧ o.data = .cell v) (inj : ∀ x y c, Fn.cl.lookup x = some c → Fn.cl.lookup y = some c → x = y)
    (has : ∀ (j : Nat) (y : Str), fr[j]? = some y → ∃ c, Fn.cl.lookup y = some c ∧ ∀ v, wv[j]? = some v → ∃ u o, RelV v u ∧ cs.lookup c = some o ∧ o.data = .cell (some u))
    (hd : DnA G.K F H wv cds) : FV G F H f (pureC Fr cds) := by
  refine fv_of_nok (ws := wv.map some) N hk e1 n1 l1 e2 n2 l2 i ni (by rw [List.length_map]; exact lw) all inj (fun j y h => ?_) fun F' H' vs Q E m tb fb i' hsp => ?_
  · obtain ⟨c, q1, q2⟩ := has j y h
    refine ⟨c, q1, fun v z => q2 v ?_⟩
    rw [List.getElem?_map] at z
    obtain ⟨v', z1, z2⟩ := Option.map_eq_some_iff.mp z
    cases z2
    exact z1
  · obtain ⟨ds, r, da, hC, hr⟩ := hsp
    have nF : ∀ c o, cs.lookup c = some o → ¬ F' c := fun c o l => (m c _ (ni c o l) (i c o l) nt_ext).1
    have R0 : SR G F' [] (delC H' cs) [] := ⟨rfl, fun n a h => by simp at h, fun b z => by
      obtain ⟨o, e, n1⟩ := fb b z
      refine ⟨o, ?_, n1⟩
      rw [delC_out]
      · exact e
      · cases l : cs.lookup b with
        | none => rfl
        | some o2 => exact (nF b o2 l z).elim, fun n a o h => by simp at h, fun n k a o _ h => by simp at h, fun n a h => by simp at h, tbs_del i' tb⟩
    have mvU : Mv F' (delC H' cs) (U (Lo [] []) F') (delC H' cs) := fun a o n e _ => ⟨fun z => z.elim (fun ⟨k, _, h, _⟩ => by simp at h) n, e⟩
    have grow : ∀ {μ' : List Addr} {S' : List Ob} {H2 : Hp}, Nx [] [] (delC H' cs) μ' S' H2 → (∀ c o, cs.lookup c = some o → H2 c = none) → Gr H' (withC H2 cs) := fun n nn a o e => by
      cases l : cs.lookup a with
      | some o2 =>
        rw [i' a o2 l] at e
        cases e
        exact ⟨_, withC_new (nn a o2 l) l, fun _ => rfl⟩
      | none =>
        obtain ⟨⟨o', e', k'⟩, _⟩ := n.tr a o (by rw [delC_out l]; exact e) fun ⟨k, _, h, _⟩ => by simp at h
        exact ⟨o', withC_old e', k'⟩
    have back : ∀ {μ' : List Addr} {S' : List Ob} {H2 : Hp}, Mv (U (Lo μ' S') F') H2 F' (withC H2 cs) := fun a o n e _ => ⟨fun z => n (.inr z), withC_old e⟩
    unfold pureC at hC
    split at hC
    · rename_i x S' hF
      obtain ⟨p, hp, rfl⟩ := Option.map_eq_some_iff.mp hC
      refine ⟨F', [], [], ds.map .d, cds.map (fun d => some (.d d)), _, R0, dna_ima ((dna_del i' da).mv mvU), wsR_data ((dna_del i' (hd.mv m)).mv mvU), hF, fun v μ' H2 n R' hv nn => ?_⟩
      obtain ⟨R5, n5, f5⟩ := frz_ok R' hp
      exact hr v (withC H2 cs) (grow n nn) (tbs_with R'.tb) ((f5 v hv).mv back)
    · rename_i c fs S' hF
      cases hC
      refine ⟨F', [], [], ds.map .d, cds.map (fun d => some (.d d)), _, R0, dna_ima ((dna_del i' da).mv mvU), wsR_data ((dna_del i' (hd.mv m)).mv mvU), hF, fun cls dd μ' H2 n R' x nn => ?_⟩
      refine hr cls dd (withC H2 cs) (grow n nn) (tbs_with R'.tb) ?_
      refine ⟨x.1, ?_⟩
      have x2 := x.2
      match fs, x2 with
      | [], x2 => exact x2
      | [(f', d)], ⟨a, v, ea, na, ha, hd'⟩ => exact ⟨a, v, ea, (back a _ na ha nt_xd).1, withC_old ha, hd'.mv back⟩
    · cases hC
end PM
namespace PM
open PySem PySem.Spec PyProof.Rows L2
open PD (D AS Fr0 U Dn DnA Mv ExIs All2 NT nt_lst nt_tup nt_xd nt_ext nt_rng mv_grow upd_grow sz RCd)
section
variable {X : Cx} {W : WN}
/-- f(..), f a slot that holds a function by data -/
def gCallFn (i : Nat) (G : GA) : GE := fun m => match m.e[i]? with
  | some (some (.r n)) => match m.s[n]? with
    | some (.fn C) => gB G (fun ds m' => match C ds with
      | some (.val d) => some (.ok d m')
      | some (.exc c fs) => some (.ex c fs m')
      | none => none) m
    | _ => none
  | _ => none
theorem pm_callFn {i : Nat} {x : Str} {p pos : Pos} {e : Expr} {es : List Expr} {G : GA} (h : PE X (.Name x p) (tVar i)) (ha : PMA X W (e :: es) G) (hr : Room kF X.A) (tk : Takes X W.w)
    (he : starEach (e :: es) X.env = (false, eval e X.env) :: starEach es X.env := by rfl) (hpl : (backTo pos (starEach es X.env)).any (·.1) = false := by rfl) : PMD X W (.Call (.Name x p) (e :: es) [] pos) (gCallFn i G) := ⟨⟨fun pins s σ H Q I q => by
  obtain ⟨Fb, μ, m, r, R, g, k⟩ := q
  unfold gCallFn at g
  split at g
  rotate_left
  · cases g
  rename_i n hi
  split at g
  rotate_left
  · cases g
  rename_i C hn
  obtain ⟨v, hv, a, rfl, hm⟩ := R.sl i _ hi
  obtain ⟨⟨na, Fn, ea⟩, fv⟩ := R.sr.ob n a _ hm hn
  refine wpAny_Call_Name_kw (thn (h.run pins s σ H (fun v H' => v = .ref a ∧ H' = H) I ⟨_, hv, rfl, rfl⟩) fun u s1 ⟨y, H1, I1, r1, e1, e2⟩ => ?_)
  subst e1
  subst e2
  obtain rfl : u = Value.ref a := r1
  replace g := (gB_def _ _ _).symm.trans g
  split at g
  · cases g
  · rename_i ds m' hG
    have run := ha.pa.run pos pins s1 σ H1 (fun vs H2 => ∃ μ', Nx μ m.s H1 μ' m'.s H2 ∧ MR (gx X) W.n Fb μ' H2 σ m' ∧ DnA X.K (U (Lo μ' m'.s) Fb) H2 vs ds) I1 ⟨Fb, μ, m, _, R, hG, fun μ' H' nx R' vs hvs => ⟨μ', nx, R', hvs⟩⟩
    refine PySem.W.callWith_F (NdefX.fnAt_of I1 ea) (thn run fun us s2 ⟨vs, H2, I2, r2, μ', nx, R', hvs⟩ => ⟨NdefX.fnAt_of I2 (nx.mv (Fb := Fb) a _ na ea nt_ext).2, ?_⟩) he hpl
    rw [List.nil_append]
    try dsimp only at g
    have spc : SpC (gx X) (U (Lo μ' m'.s) Fb) C vs H2 Q (WE W.w σ) := by
      cases hC : C ds with
      | none => rw [hC] at g; cases g
      | some z =>
        rw [hC] at g
        cases z with
        | val d =>
          cases g
          exact ⟨ds, _, hvs, hC, fun v H3 gr tb dn => k μ' H3 (nx.trans (Nx.growN gr)) (R'.growN gr tb) v dn⟩
        | exc c fs =>
          cases g
          exact ⟨ds, _, hvs, hC, fun cls dd H3 gr tb x => k cls dd μ' H3 (nx.trans (Nx.growN gr)) (R'.growN gr tb) x⟩
    refine wpAny_call (codeAny_mono (fv _ H2 nx.mv R'.sr.tb (fun b z => R'.sr.trkA z) X.A X.stack s2 us vs Q (WE W.w σ) hr I2.env0 r2 spc) fun r s' c => ?_)
    cases r with
    | ok f => cases f with
      | ret v => exact I2.after c
      | _ => exact c.elim
    | error e => exact passAt tk σ pins H2 s2 e s' I2 c
  · rename_i c fs m' hG
    cases g
    have run := ha.pa.run pos pins s1 σ H1 (fun vs H2 => False) I1 ⟨Fb, μ, m, _, R, hG, k⟩
    exact PySem.W.callWith_F (NdefX.fnAt_of I1 ea) (thn run fun us s2 ⟨vs, H2, I2, r2, z⟩ => z.elim) he hpl⟩⟩
/-- a def is called while cells are told -/
theorem run_ghost {k : Nat} {f : Addr} {fd : FuncData} {ps : List Str} {sp : Sp} {pins : List (Addr × Obj)} {σ : L2.St} {H : Hp} {s : Shared} {Q : VK} {us : List Value} {vs : List V} {cs : Cs} (Fn : FnOk X.prog X.w X.K X.mg X.base (L2.CX X.prog X.w) k f fd ps sp) (hr : Room k X.A) (hb : Binds X.K fd ps []) (tk : Takes X W.w)
    (I : Inv X pins σ H s) (hv : Vals vs us) (a : CsAt H s.heap cs) (far : CsFar X.base X.stack cs) (h : sp vs (withC H cs) (fun v H' => CsIn H' cs ∧ Q v (delC H' cs)) (fun cls d H' => CsIn H' cs ∧ W.w cls d σ (delC H' cs))) :
    wpAny (model X.prog X.w) X.A (call (.ref f) us) (EP X pins σ Q) X.xe s := by
  have hl : (us ++ []).length = ps.length := by rw [List.append_nil, ← hv.length]; exact Fn.len _ _ _ _ h
  have bt := hb s us I.kIn hl
  rw [List.append_nil] at bt
  refine wpAny_call (codeAny_mono (Fn.run X.A X.stack s (withC H cs) ⟨us, []⟩ us vs _ _ hr (env0_up I.env0 a far) bt hv h) fun r s' c => ?_)
  have c2 := cr_down (Q' := Q) (E' := WE W.w σ) a (fun v H' q => q) (fun cls d H' q => q) c
  cases r with
  | ok f => cases f with
    | ret v => exact I.after c2
    | _ => exact c2.elim
  | error e => exact passAt tk σ pins H s e s' I c2
end
end PM
namespace PM
open PySem PySem.Spec PyProof.Rows L2
open PD (D AS Fr0 U Dn DnA Mv ExIs All2 NT nt_lst nt_tup nt_xd nt_ext nt_rng mv_grow upd_grow sz RCd)
/-! ### a call with closures among its arguments -/
inductive Ag where
  | d (G : GE) | c (i : Nat)
def gAg : List Ag → Gm (List (Nat ⊕ D))
  | [] => gP []
  | .d G :: r => gB G fun x => gB (gAg r) fun xs => gP (.inr x :: xs)
  | .c i :: r => fun m => match m.e[i]? with
    | some (some _) => gB (gAg r) (fun xs => gP (.inl i :: xs)) m
    | _ => none
def AgR (K : Fr0) (σ : L2.St) (F : AS) (H : Hp) (vs : List V) (xs : List (Nat ⊕ D)) : Prop := All2 (fun v x => match x with
  | .inl i => σ[i]? = some (some v)
  | .inr d => Dn K F H v d) vs xs
theorem AgR.mv {K : Fr0} {σ : L2.St} {F F' : AS} {H H' : Hp} {vs : List V} {xs : List (Nat ⊕ D)} (h : AgR K σ F H vs xs) (m : Mv F H F' H') : AgR K σ F' H' vs xs := PD.All2.imp (fun v x z => by
  cases x with
  | inl i => exact z
  | inr d => exact Dn.mv m z) h
section
variable {X : Cx} {W : WN}
def tAC (X : Cx) (W : WN) (gs : List Ag) : TA := fun σ H Q => ∃ (Fb : AS) (μ : List Addr) (m : Ms) (r : Rs (List (Nat ⊕ D))), MR (gx X) W.n Fb μ H σ m ∧ gAg gs m = some r ∧ Go X W Fb σ μ m.s H r fun xs μ' S' H' => ∀ vs, AgR X.K σ (U (Lo μ' S') Fb) H' vs xs → Q vs H'
theorem pac_nil : PA X [] (tAC X W []) := PA.wk pa_nil fun σ H Q q => by
  obtain ⟨Fb, μ, m, r, R, g, k⟩ := q
  cases gP_some g
  exact k μ H (Nx.refl _ _ _) R [] .nil
theorem pac_d {e : Expr} {es : List Expr} {G : GE} {gs : List Ag} (h : PMD X W e G) (hs : PA X es (tAC X W gs)) (he : starEach (e :: es) X.env = (false, eval e X.env) :: starEach es X.env := by rfl) : PA X (e :: es) (tAC X W (.d G :: gs)) := PA.wk (pa_cons h.pe hs he) fun σ H Q q => by
  obtain ⟨Fb, μ, m, r, R, g, k⟩ := q
  unfold gAg at g; replace g := (gB_def _ _ _).symm.trans g
  split at g
  · cases g
  · rename_i x m1 hx
    refine ⟨Fb, μ, m, _, R, hx, fun μ1 H1 n1 R1 v hv => ?_⟩
    try dsimp only at g
    try replace g := (gB_def _ _ _).symm.trans g
    split at g
    · cases g
    · rename_i xs m2 hxs
      cases gP_some g
      exact ⟨Fb, μ1, m1, _, R1, hxs, fun μ2 H2 n2 R2 vs hv2 => k μ2 H2 (n1.trans n2) R2 (v :: vs) (.cons (Dn.mv n2.mv hv) hv2)⟩
    · rename_i c fs m2 hxs
      cases g
      exact ⟨Fb, μ1, m1, _, R1, hxs, fun cls dd μ2 H2 n2 R2 z => k cls dd μ2 H2 (n1.trans n2) R2 z⟩
  · rename_i c fs m1 hx
    cases g
    exact ⟨Fb, μ, m, _, R, hx, k⟩
theorem pac_c {x : Str} {p : Pos} {es : List Expr} {i : Nat} {gs : List Ag} (h : PE X (.Name x p) (tVar i)) (hs : PA X es (tAC X W gs)) (he : starEach (.Name x p :: es) X.env = (false, eval (.Name x p) X.env) :: starEach es X.env := by rfl) : PA X (.Name x p :: es) (tAC X W (.c i :: gs)) := PA.wk (pa_cons h hs he) fun σ H Q q => by
  obtain ⟨Fb, μ, m, r, R, g, k⟩ := q
  unfold gAg at g
  split at g
  rotate_left
  · cases g
  rename_i y hy
  obtain ⟨v, e1, _⟩ := R.sl i y hy
  refine ⟨_, e1, ?_⟩
  replace g := (gB_def _ _ _).symm.trans g
  split at g
  · cases g
  · rename_i xs m2 hxs
    cases gP_some g
    exact ⟨Fb, μ, m, _, R, hxs, fun μ2 H2 n2 R2 vs hv2 => k μ2 H2 n2 R2 (_ :: vs) (.cons e1 hv2)⟩
  · rename_i c fs m2 hxs
    cases g
    exact ⟨Fb, μ, m, _, R, hxs, fun cls dd μ2 H2 n2 R2 z => k cls dd μ2 H2 n2 R2 z⟩
/-- the frame's cells with what stands there -/
def csOf (c0 : List (Str × Addr)) (h : Heap) (cl : List (Str × Addr)) : Cs := cl.filterMap fun p => if c0.lookup p.1 = some p.2 then (h.get? p.2).map fun o => (p.2, o) else none
theorem csOf_of {c0 : List (Str × Addr)} {h : Heap} {c : Addr} {o : Obj} : ∀ {cl : List (Str × Addr)}, (csOf c0 h cl).lookup c = some o → h.get? c = some o ∧ ∃ x, c0.lookup x = some c
  | [], e => by simp [csOf] at e
  | (x, a) :: cl, e => by
    unfold csOf at e
    rw [List.filterMap_cons] at e
    by_cases hx : c0.lookup x = some a
    · rw [if_pos hx] at e
      cases g : h.get? a with
      | none =>
        rw [g] at e
        exact csOf_of (cl := cl) e
      | some q =>
        rw [g] at e
        simp only [Option.map_some, List.lookup_cons] at e
        split at e
        · rename_i z
          have z2 : c = a := by simpa using z
          subst z2
          cases e
          exact ⟨g, x, hx⟩
        · exact csOf_of (cl := cl) e
    · rw [if_neg hx] at e
      exact csOf_of (cl := cl) e
theorem csOf_has {c0 : List (Str × Addr)} {h : Heap} {c : Addr} {o : Obj} (g : h.get? c = some o) : ∀ {cl : List (Str × Addr)} {x : Str}, c0.lookup x = some c → (x, c) ∈ cl → (csOf c0 h cl).lookup c = some o
  | (y, a) :: cl, x, hx, m => by
    unfold csOf
    rw [List.filterMap_cons]
    have ih : (x, c) ∈ cl → (csOf c0 h cl).lookup c = some o := csOf_has g hx
    unfold csOf at ih
    by_cases hy : c0.lookup y = some a
    · rw [if_pos hy]
      by_cases z : c = a
      · subst z
        rw [g]
        simp
      · have m2 : (x, c) ∈ cl := by
          rcases List.mem_cons.mp m with q | q
          · cases q; exact (z rfl).elim
          · exact q
        cases g2 : h.get? a with
        | none => exact ih m2
        | some q =>
          simp only [Option.map_some, List.lookup_cons]
          rw [show (c == a) = false by simpa using z]
          exact ih m2
    · rw [if_neg hy]
      refine ih ?_
      rcases List.mem_cons.mp m with q | q
      · cases q; exact (hy hx).elim
      · exact q
theorem look_mem {x : Str} {c : Addr} : ∀ {cl : List (Str × Addr)}, cl.lookup x = some c → (x, c) ∈ cl
  | (y, a) :: cl, e => by
    rw [List.lookup_cons] at e
    split at e
    · rename_i z
      have z2 : x = y := by simpa using z
      subst z2
      cases e
      exact List.mem_cons_self
    · exact List.mem_cons_of_mem _ (look_mem e)
end
end PM
namespace PM
open PySem PySem.Spec PyProof.Rows L2
open PD (D AS Fr0 U Dn DnA Mv ExIs All2 NT nt_lst nt_tup nt_xd nt_ext nt_rng mv_grow upd_grow sz RCd)
/-- what a closure takes, as data -/
def capt (m : Ms) : List Nat → Option (List D)
  | [] => some []
  | j :: js => match m.e[j]? with
    | some (some (.d x)) => (capt m js).map (x :: ·)
    | _ => none
def mkArgs (m : Ms) : Nat → List (Nat ⊕ D) → Option (List Im × List Ob)
  | _, [] => some ([], [])
  | n, .inr d :: r => (mkArgs m n r).map fun p => (.d d :: p.1, p.2)
  | n, .inl i :: r => match m.e[i]? with
    | some (some (.nf js C)) => (capt m js).bind fun cds => (mkArgs m (n + 1) r).map fun p => (.r n :: p.1, .fn (C cds) :: p.2)
    | some (some (.r k)) => match m.s[k]? with
      | some (.fn C) => (mkArgs m (n + 1) r).map fun p => (.r n :: p.1, .fn C :: p.2)
      | _ => none
    | _ => none
theorem capt_ok {G : Gx} {Fb : AS} {μ : List Addr} {H : Hp} {σ : L2.St} {m : Ms} (R : MR G N Fb μ H σ m) : ∀ {js : List Nat} {cds : List D}, capt m js = some cds → ∃ wv : List V, DnA G.K (U (Lo μ m.s) Fb) H wv cds ∧ js.map (NdefX.slotAt σ) = wv.map some
  | [], cds, e => by cases e; exact ⟨[], .nil, rfl⟩
  | j :: js, cds, e => by
    unfold capt at e
    split at e
    · rename_i x hx
      obtain ⟨ds, e1, rfl⟩ := Option.map_eq_some_iff.mp e
      obtain ⟨wv, h1, h2⟩ := capt_ok R e1
      obtain ⟨v, hv, dv⟩ := R.sl j _ hx
      exact ⟨v :: wv, .cons dv h1, by rw [List.map_cons, List.map_cons, NdefX.slotAt_of hv, h2]⟩
    · cases e
theorem mkArgs_ok {G : Gx} {F : AS} {H : Hp} {σ : L2.St} {m : Ms} (hfn : ∀ (i : Nat) (js : List Nat) (C : List D → List D → Option DR) (cds : List D) (v : V), m.e[i]? = some (some (.nf js C)) → capt m js = some cds → σ[i]? = some (some v) → ∃ f, v = .ref f ∧ (¬ F f ∧ ∃ Fn, H f = some (NdefX.FnO f Fn)) ∧ FV G F H f (C cds))
    (hfr : ∀ (i k : Nat) (C : List D → Option DR) (v : V), m.e[i]? = some (some (.r k)) → m.s[k]? = some (.fn C) → σ[i]? = some (some v) → ∃ f, v = .ref f ∧ (¬ F f ∧ ∃ Fn, H f = some (NdefX.FnO f Fn)) ∧ FV G F H f C) :
    ∀ {xs : List (Nat ⊕ D)} {vs : List V} {n : Nat} {its : List Im} {S1 : List Ob} (μ0 : List Addr), μ0.length = n → AgR G.K σ F H vs xs → mkArgs m n xs = some (its, S1) →
      ∃ μ1 : List Addr, μ1.length = S1.length ∧ ImA G (μ0 ++ μ1) F H vs its ∧ ∀ (k : Nat) (a : Addr) (o : Ob), μ1[k]? = some a → S1[k]? = some o → o.own = false ∧ (¬ F a ∧ ∃ Fn, H a = some (NdefX.FnO a Fn)) ∧ ∀ (μ : List Addr), ObR G μ F H a o
  | [], vs, n, its, S1, μ0, hμ, ha, e => by
    cases e
    cases ha
    exact ⟨[], rfl, .nil, fun k a o h => by simp at h⟩
  | .inr d :: r, vs, n, its, S1, μ0, hμ, ha, e => by
    cases ha with
    | cons h1 h2 =>
      obtain ⟨p, e1, e2⟩ := Option.map_eq_some_iff.mp (show (mkArgs m n r).map (fun p => (Im.d d :: p.1, p.2)) = some (its, S1) from e)
      cases e2
      obtain ⟨μ1, l1, i1, o1⟩ := mkArgs_ok hfn hfr (its := p.1) (S1 := p.2) μ0 hμ h2 e1
      exact ⟨μ1, l1, .cons h1 i1, o1⟩
  | .inl i :: r, vs, n, its, S1, μ0, hμ, ha, e => by
    cases ha with
    | cons h1 h2 =>
      rename_i va vas
      have fin : ∀ {C : List D → Option DR}, (∃ f, va = V.ref f ∧ (¬ F f ∧ ∃ Fn, H f = some (NdefX.FnO f Fn)) ∧ FV G F H f C) → (mkArgs m (n + 1) r).map (fun p => (Im.r n :: p.1, Ob.fn C :: p.2)) = some (its, S1) → ∃ μ1 : List Addr, μ1.length = S1.length ∧ ImA G (μ0 ++ μ1) F H (va :: vas) its ∧ ∀ (k : Nat) (a : Addr) (o : Ob), μ1[k]? = some a → S1[k]? = some o → o.own = false ∧ (¬ F a ∧ ∃ Fn, H a = some (NdefX.FnO a Fn)) ∧ ∀ (μ : List Addr), ObR G μ F H a o := fun {C} hf e => by
        obtain ⟨p, e1, e2⟩ := Option.map_eq_some_iff.mp e
        cases e2
        obtain ⟨f, ev, nf, fv⟩ := hf
        obtain ⟨μ1, l1, i1, o1⟩ := mkArgs_ok hfn hfr (its := p.1) (S1 := p.2) (μ0 ++ [f]) (by simp [hμ]) h2 e1
        refine ⟨f :: μ1, by simp [l1], .cons ⟨f, ev, ?_⟩ (by have z := i1; rw [List.append_assoc] at z; exact z), fun k a o ea eo => ?_⟩
        · rw [List.getElem?_append_right (by omega), hμ, Nat.sub_self]
          rfl
        · cases k with
          | zero =>
            cases ea
            cases eo
            exact ⟨rfl, nf, fun μ => ⟨nf, fv⟩⟩
          | succ k => exact o1 k a o (by simpa using ea) (by simpa using eo)
      unfold mkArgs at e
      split at e
      · rename_i js C hm
        obtain ⟨cds, c1, e⟩ := Option.bind_eq_some_iff.mp e
        exact fin (hfn i js C cds _ hm c1 h1) e
      · rename_i k hm
        split at e
        · rename_i C hk
          exact fin (hfr i k C _ hm hk h1) e
        · cases e
      · cases e
def gCallC (F : List Im → List Ob → Option FR) (gs : List Ag) : GE := gB (gAg gs) fun xs m => (mkArgs m 0 xs).bind fun p => match F p.1 p.2 with
  | some (.val x S') => (frz 100 x S').map fun q => .ok q.1 m
  | some (.exc c fs _) => some (.ex c fs m)
  | none => none
section
variable {X : Cx} {W : WN}
/-- the closures' meaning, the frame's cells being told -/
theorem cl_fv {Fb : AS} {μ : List Addr} {H : Hp} {σ : L2.St} {s : Shared} {m : Ms} {pins : List (Addr × Obj)} (I : Inv X pins σ H s) (hn : W.n = nfx X) (R : MR (gx X) W.n Fb μ H σ m) (cs : Cs) (hcs : cs = csOf X.env.cells s.heap X.env.cells) (at_ : CsAt H s.heap cs) :
    ∀ (i : Nat) (js : List Nat) (C : List D → List D → Option DR) (cds : List D) (v : V), m.e[i]? = some (some (.nf js C)) → capt m js = some cds → σ[i]? = some (some v) → ∃ f, v = .ref f ∧ (¬ U (Lo μ m.s) Fb f ∧ ∃ Fn, withC H cs f = some (NdefX.FnO f Fn)) ∧ FV (gx X) (U (Lo μ m.s) Fb) (withC H cs) f (C cds) := by
  intro i js C cds v h1 h2 h3
  obtain ⟨v', e0, nr⟩ := R.sl i _ h1
  rw [h3] at e0
  cases e0
  have nr : W.n.r js C v (U (Lo μ m.s) Fb) H := nr
  rw [hn] at nr
  obtain ⟨f, c, mk, ps, fr, cl, kc, Fr, e1, n1, e2, n2, e3, eC, N, hk, hcl, hcap⟩ := nr
  subst e1
  subst eC
  obtain ⟨wv, dw, ew⟩ := capt_ok R h2
  have cap := hcap I.ok
  have ca := NdefX.cells_of I cap
  have lk : ∀ {b : Addr} {x : HO}, H b = some x → cs.lookup b = none := fun {b x} e => by
    cases l : cs.lookup b with
    | none => rfl
    | some o => rw [(at_ b o l).1] at e; cases e
  have cell : ∀ {y : Str} {a : Addr} {o : Obj}, cl.lookup y = some a → s.heap.get? a = some o → cs.lookup a = some o := fun {y a o} e g => by
    rw [hcs]
    exact csOf_has g (cap.sub y a e) (look_mem (cap.sub y a e))
  have tr : ∀ {a : Addr}, U (Lo μ m.s) Fb a → ∃ o, H a = some o := fun z => R.sr.trk z
  refine ⟨f, rfl, ⟨n1, mk c, withC_old e2⟩, ?_⟩
  refine fv_pure (wv := wv) (N f c) hk (withC_old e2) n1 (lk e2) (withC_old e3) n2 (lk e3) (withC_in fun a o l => (at_ a o l).1) (fun a o l z => ?_) ?_ (fun y a e => ?_) (fun x y a ex ey => ?_) (fun j y h => ?_) ?_
  · obtain ⟨u, e⟩ := tr z
    rw [(at_ a o l).1] at e
    cases e
  · have := ca.len
    rw [ew, List.length_map] at this
    exact this
  · rw [hcl c] at e
    obtain ⟨_, v, o, g, d⟩ := ca.all y a e
    exact ⟨o, v, cell e g, d⟩
  · rw [hcl c] at ex ey
    exact ca.inj x y a ex ey
  · obtain ⟨a, q1, q2⟩ := ca.has j y h
    refine ⟨a, by rw [hcl c]; exact q1, fun v z => ?_⟩
    rw [ew] at q2
    obtain ⟨u, r, o, g, d⟩ := q2 v (by rw [List.getElem?_map, z]; rfl)
    exact ⟨u, o, r, cell q1 g, d⟩
  · exact PD.DnA.mv (mv_grow fun a o e => withC_old e) dw
theorem mv_no {F : AS} {H : Hp} {μ : List Addr} {S : List Ob} (h : ∀ a, ¬ Lo μ S a) : Mv F H (U (Lo μ S) F) H := fun a o n e _ => ⟨fun z => z.elim (h a) n, e⟩
theorem exIs_del {K : Fr0} {mg : Str → Option Value} {F F' : AS} {H : Hp} {cs : Cs} {c : Str} {fs : List (Str × D)} {cls : Value} {dd : Option Addr} (x : ExIs K mg F H c fs cls dd) (i : CsIn H cs) (m : Mv F H F' H) : ExIs K mg F' (delC H cs) c fs cls dd := by
  refine ⟨x.1, ?_⟩
  have x2 := x.2
  match fs, x2 with
  | [], x2 => exact x2
  | [(f, d)], ⟨a, v, ea, na, ha, hd⟩ => exact ⟨a, v, ea, (m a _ na ha nt_xd).1, by rw [delC_out (csIn_not i ha fun o z => by cases z)]; exact ha, dn_del i (hd.mv m)⟩
/-- a def of the text called with closures of the frame among its arguments -/
theorem pe_callC {x : Str} {p pos : Pos} {e : Expr} {es : List Expr} {k : Nat} {st : Stmt} {ps : List Str} {F : List Im → List Ob → Option FR} {gs : List Ag} (D : Df X.prog X.w X.K X.mg X.base k x st ps F) (hr : Room k X.A) (hg : Gl X x) (tk : Takes X W.w) (hn : W.n = nfx X) (ha : PA X (e :: es) (tAC X W gs))
    (hf : ∀ x, X.fn x = true) (hst : X.stack = X.env :: X.outer) (hfr : X.env.frame = some X.env.locals) (hdb : (x == ("__debug__" : Str)) = false := by decide) (he : starEach (e :: es) X.env = (false, eval e X.env) :: starEach es X.env := by rfl) (hpl : (backTo pos (starEach es X.env)).any (·.1) = false := by rfl) :
    PMD X W (.Call (.Name x p) (e :: es) [] pos) (gCallC F gs) := ⟨⟨fun pins s σ H Q I q => by
  obtain ⟨f, fd, Fn, hm, hk, hb, _⟩ := D.ex
  obtain ⟨Fb, μ, m, r, R, g, kk⟩ := q
  refine wpAny_Call_Name_kw (ld_glob I hg hm ?_ hdb)
  unfold gCallC at g; replace g := (gB_def _ _ _).symm.trans g
  split at g
  · cases g
  · rename_i xs m' hG
    try dsimp only at g
    obtain ⟨pr, hp, g⟩ := Option.bind_eq_some_iff.mp g
    refine PySem.W.callWith_K (h₀ := X.base) I.ok.mod.kin hk (thn (ha.run pos pins s σ H (fun vs H1 => ∃ μ', Nx μ m.s H μ' m'.s H1 ∧ MR (gx X) W.n Fb μ' H1 σ m' ∧ AgR X.K σ (U (Lo μ' m'.s) Fb) H1 vs xs) I ⟨Fb, μ, m, _, R, hG, fun μ' H' nx R' vs hv => ⟨μ', nx, R', hv⟩⟩) fun us s1 ⟨vs, H1, I1, r1, μ', nx, R', hv⟩ => ⟨I1.kIn, ?_⟩) he hpl
    rw [List.nil_append]
    generalize hcs : csOf X.env.cells s1.heap X.env.cells = cs
    have at_ : CsAt H1 s1.heap cs := fun c o l => by
      rw [← hcs] at l
      obtain ⟨g1, y, l1⟩ := csOf_of l
      obtain ⟨_, o', g2, d2⟩ := I1.cell y c l1
      rw [g1] at g2
      cases g2
      exact ⟨I1.freeC y c l1, g1, _, d2⟩
    have far : CsFar X.base X.stack cs := fun c o l => by
      rw [← hcs] at l
      obtain ⟨g1, y, l1⟩ := csOf_of l
      exact (cells_far I1 hf hst hfr l1).2
    refine run_ghost Fn hr hb tk I1 r1 at_ far ?_
    have fv := cl_fv I1 hn R' cs hcs.symm at_
    have fr : ∀ (i k : Nat) (C : List PD.D → Option DR) (v : V), m'.e[i]? = some (some (.r k)) → m'.s[k]? = some (.fn C) → σ[i]? = some (some v) → ∃ f, v = .ref f ∧ (¬ U (Lo μ' m'.s) Fb f ∧ ∃ Fn, withC H1 cs f = some (NdefX.FnO f Fn)) ∧ FV (gx X) (U (Lo μ' m'.s) Fb) (withC H1 cs) f C := fun i k C v h1 h2 h3 => by
      obtain ⟨v', e0, a, ev, ha⟩ := R'.sl i _ h1
      rw [h3] at e0
      cases e0
      obtain ⟨⟨na, Fn, ea⟩, fv⟩ := R'.sr.ob k a _ ha h2
      exact ⟨a, ev, ⟨na, Fn, withC_old ea⟩, fv.mv (mv_grow fun a o e => withC_old e)⟩
    obtain ⟨μ1, l1, i1, o1⟩ := mkArgs_ok fv fr (xs := xs) (vs := vs) (n := 0) [] rfl (hv.mv (mv_grow fun a o e => withC_old e)) hp
    have nlo : ∀ a, ¬ Lo μ1 pr.2 a := fun a ⟨n, o, h1, h2, h3⟩ => by
      rw [(o1 n a o h1 h2).1] at h3
      cases h3
    have get : ∀ (n : Nat) (a : Addr), μ1[n]? = some a → ∃ o, pr.2[n]? = some o := fun n a h => by
      have hn := (List.getElem?_eq_some_iff.mp h).1
      rw [l1] at hn
      exact ⟨pr.2[n], List.getElem?_eq_getElem hn⟩
    have SR0 : SR (gx X) (U (Lo μ' m'.s) Fb) μ1 (withC H1 cs) pr.2 := ⟨l1, fun n a h => (let ⟨o, z⟩ := get n a h; (o1 n a o h z).2.1.1), fun a z => (let ⟨o, e, n1⟩ := R'.sr.trkA z; ⟨o, withC_old e, n1⟩), fun n a o h1 h2 => ((o1 n a o h1 h2).2.2 μ1).mv (fun _ _ h => h) (mv_no nlo) (fun _ _ e => e), fun n k a o _ h1 h2 h3 => absurd h3 (by rw [(o1 n a o h1 h2).1]; decide), fun n a h => (let ⟨o, z⟩ := get n a h; let ⟨Fn, e⟩ := (o1 n a o h z).2.1.2; ⟨_, e⟩), tbs_with R'.sr.tb⟩
    have lk : ∀ {b : Addr} {y : HO}, H1 b = some y → cs.lookup b = none := fun {b y} e => by
      cases l : cs.lookup b with
      | none => rfl
      | some o => rw [(at_ b o l).1] at e; cases e
    have stay : ∀ {μ2 : List Addr} {S' : List Ob} {H2 : Hp}, Nx μ1 pr.2 (withC H1 cs) μ2 S' H2 → CsIn H2 cs ∧ Gr H1 (delC H2 cs) := fun n => ⟨fun c o l => (n.tr.at_ (withC_in (fun a o l => (at_ a o l).1) c o l) nt_ext (nlo c)).1, fun a o e => by rw [delC_out (lk e)]; exact (n.tr a o (withC_old e) (nlo a)).1⟩
    have back : ∀ {μ2 : List Addr} {S' : List Ob} {H2 : Hp}, Mv (U (Lo μ2 S') (U (Lo μ' m'.s) Fb)) H2 (U (Lo μ' m'.s) Fb) H2 := fun a o n e _ => ⟨fun z => n (.inr z), e⟩
    have i2 : ImA (gx X) μ1 (U (Lo μ1 pr.2) (U (Lo μ' m'.s) Fb)) (withC H1 cs) vs pr.1 := ImA.mv (fun _ _ h => by simpa using h) (mv_no nlo) i1
    split at g
    · rename_i y S' hF
      obtain ⟨d, hd, rfl⟩ := Option.map_eq_some_iff.mp g
      refine ⟨_, μ1, pr.2, pr.1, _, SR0, i2, hF, fun v μ2 H2 n R2 hv2 => ?_⟩
      obtain ⟨ci, gr⟩ := stay n
      obtain ⟨_, _, f5⟩ := frz_ok R2 hd
      exact ⟨ci, kk μ' (delC H2 cs) (nx.trans (Nx.growN gr)) (R'.growN gr (tbs_del ci R2.tb)) v (dn_del ci ((f5 v hv2).mv back))⟩
    · rename_i c fs S' hF
      cases g
      refine ⟨_, μ1, pr.2, pr.1, _, SR0, i2, hF, fun cls dd μ2 H2 n R2 x => ?_⟩
      obtain ⟨ci, gr⟩ := stay n
      exact ⟨ci, kk cls dd μ' (delC H2 cs) (nx.trans (Nx.growN gr)) (R'.growN gr (tbs_del ci R2.tb)) (exIs_del x ci back)⟩
    · cases g
  · rename_i c fs m' hG
    cases g
    exact PySem.W.callWith_K (h₀ := X.base) I.ok.mod.kin hk (thn (ha.run pos pins s σ H (fun vs H1 => False) I ⟨Fb, μ, m, _, R, hG, kk⟩) fun us s1 ⟨vs, H1, I1, r1, z⟩ => z.elim) he hpl⟩⟩
end
end PM
namespace PM
open PySem PySem.Spec PyProof.Rows L2
open PD (D AS Fr0 U Dn DnA Mv ExIs All2 NT nt_lst nt_tup nt_xd nt_ext nt_rng mv_grow upd_grow sz RCd)
/-! ### a def within a def -/
theorem hd_one {base : Heap} {c a b : Addr} (h : PySem.W.CodeHd base c a) (h' : PySem.W.CodeHd base c b) : a = b := by
  obtain ⟨o, vs, _, _, _, _, _, _, _, e1, _, e2, e3, _⟩ := h
  obtain ⟨o', vs', _, _, _, _, _, _, _, f1, _, f2, f3, _⟩ := h'
  rw [e1] at f1
  cases f1
  rw [e2] at f2
  cases f2
  rw [e3] at f3
  cases f3
  rfl
theorem TbAt.one {G : Gx} {x : Str} {a b : Addr} (h : TbAt G x a) (h' : TbAt G x b) : a = b := by
  obtain ⟨f, c, m1, c1, t1⟩ := h
  obtain ⟨f', c', m2, c2, t2⟩ := h'
  cases Option.some.inj (m1.symm.trans m2)
  cases c1.one c2
  exact hd_one t1.code t2.code
open Classical in
noncomputable def tabL (G : Gx) : List NTb := (tabN G.P).filterMap fun x => if h : ∃ a, TbAt G x a then some (h.choose, nmOf G.P) else none
theorem tabL_nm {G : Gx} {p : NTb} (h : p ∈ tabL G) : p.2 = nmOf G.P := by
  unfold tabL at h
  obtain ⟨x, _, e⟩ := List.mem_filterMap.mp h
  split at e
  · cases e; rfl
  · cases e
theorem tabL_of {G : Gx} {x : Str} {a : Addr} (hx : x ∈ tabN G.P) (h : TbAt G x a) : (a, nmOf G.P) ∈ tabL G := by
  unfold tabL
  refine List.mem_filterMap.mpr ⟨x, hx, ?_⟩
  have hh : ∃ a, TbAt G x a := ⟨a, h⟩
  rw [dif_pos hh]
  rw [TbAt.one hh.choose_spec h]
theorem tabsN_of {G : Gx} {H : Hp} (t : TBS G H) : NdefX.TabsN (tabL G) H := fun p hp => by
  have e := tabL_nm hp
  unfold tabL at hp
  obtain ⟨x, hx, q⟩ := List.mem_filterMap.mp hp
  split at q
  · rename_i hh
    cases q
    exact t x hx _ hh.choose_spec
  · cases q
theorem tbs_of {G : Gx} {H : Hp} (t : NdefX.TabsN (tabL G) H) : TBS G H := fun x hx a h => t _ (tabL_of hx h)
section
variable {X : Cx} {W : WN}
def gDef (i : Nat) (js : List Nat) (C : List D → List D → Option DR) : Gs := fun m => some (.nx (setI i (.nf js C) m))
theorem pms_def {st : Stmt} {name x : Str} {pos : Pos} {i kc : Nat} {f : Addr} {ps fr : List Str} {js : List Nat} {Fr : NR}
    (hst : st = .FunctionDef name (C8.fnArgs st) (C8.fnBody st) [] none [] (C8.fnScope st) none name pos) (tb : ∃ P, TbAt (gx X) x P) (hx : x ∈ tabN X.prog) (hm : X.mg x = some (.ref f)) (hcd : CodeIs X.K f X.env.code) (hW : W.n = nfx X)
    (hnm : nmOf X.prog pos.line pos.col = X.env.qual ++ name) (hfree : ∀ y ∈ (C8.fnScope st).names, y.2 = .free → X.env.scope.names.lookup y.1 = some .cell ∨ X.env.scope.names.lookup y.1 = some .free)
    (hd0 : (C8.fnArgs st).defaults = []) (hk0 : (C8.fnArgs st).kw_defaults = []) (ha : annTrees (C8.fnArgs st) none X.env = []) (hN : X.N.Nodup) (hi : X.N[i]? = some name) (hl : Loc X.env.scope name) (hf : X.fn name = true ∨ X.env.scope.names.lookup name = some .local)
    (N : ∀ f c', NdefX.NOk X.prog X.w X.K X.mg X.base (L2.CX X.prog X.w) kc f (NdefX.NF.of st name (X.env.qual ++ name) (cloFrom X.env.cells (C8.fnScope st).names []) c') ps fr (spN (gx X) Fr)) (hk : kc ≤ kF)
    (hfr : ∀ y ∈ fr, (y, NameKind.free) ∈ (C8.fnScope st).names) (hat : js.map (fun j => X.N[j]?) = fr.map some) : PMS X W st (gDef i js (pureC Fr)) := by
  obtain ⟨P, tbP⟩ := tb
  obtain ⟨f', c, m1, c1, TB⟩ := tbP
  have m1 : X.mg x = some (.ref f') := m1
  cases Option.some.inj (hm.symm.trans m1)
  have hcode : X.env.code = .ref c := hcd.one c1
  have hP : (P, nmOf X.prog) ∈ tabL (gx X) := tabL_of (G := gx X) hx ⟨f, c, hm, c1, TB⟩
  refine ⟨PS.wk (NdefX.ps_ndefMS (T := tabL (gx X)) hst TB hcode hP hnm (fun p hp _ => tabL_nm hp) hfree hd0 hk0 ha hN hi hl hf) fun D σ H q => ?_⟩
  obtain ⟨Fb, μ, m, r, R, g, k⟩ := q
  cases g
  refine ⟨tabsN_of R.sr.tb, fun f c' H1 ext old t1 ef e1 e2 => ?_⟩
  have gr : Gr H H1 := fun a o e => by
    cases h1 : H1 a with
    | none => rw [old a h1] at e; cases e
    | some o' => exact ⟨o', rfl, fun nt => Option.some.inj (h1.symm.trans (ext a o e nt))⟩
  have R1 := R.growN gr (tbs_of t1)
  have nF : ¬ U (Lo μ m.s) Fb f := R.sr.free ef
  have nC : ¬ U (Lo μ m.s) Fb c' := fun z => by
    obtain ⟨o, e, n1, n2⟩ := R1.sr.trkA z
    rw [e2] at e
    cases e
    exact n2 _ rfl
  have nr : W.n.r js (pureC Fr) (.ref f) (U (Lo μ m.s) Fb) H1 := by
    rw [hW]
    exact ⟨f, c', _, ps, fr, _, kc, Fr, rfl, nF, e1, nC, e2, rfl, N, hk, fun _ => rfl, fun ok => NdefX.Caps.made ok hfree hfr hat⟩
  refine k _ μ H1 (Nx.growN gr) ⟨R1.sr, by simpa [setI] using R1.len, fun j y e => ?_⟩
  dsimp only [setI] at e
  by_cases hj : i = j
  · subst hj
    have hlt : i < m.e.length := by
      have := (List.getElem?_eq_some_iff.mp e).1
      simpa using this
    rw [List.getElem?_set_self hlt] at e
    cases e
    exact ⟨_, List.getElem?_set_self (by rw [← R1.len]; exact hlt), nr⟩
  · rw [List.getElem?_set_ne hj] at e
    rw [List.getElem?_set_ne hj]
    exact R1.sl j y e
end
end PM
namespace PM
open PySem PySem.Spec PyProof.Rows L2
open PD (D AS Fr0 U Dn DnA Mv ExIs All2 NT nt_lst nt_tup nt_xd nt_ext nt_rng mv_grow upd_grow sz RCd ExK spIni0 Ec)
/-! ### an own error without a field -/
theorem get_set {h : Heap} {a b : Addr} {o : Obj} : b ≠ a → ({ h with objs := h.objs.setIfInBounds a o } : Heap).get? b = h.get? b := fun ne => by
  unfold Heap.get?
  dsimp only
  rw [Array.getElem?_setIfInBounds_ne (Ne.symm ne)]
theorem get_freed {h : Heap} {a : Addr} : ({ h with objs := h.objs.setIfInBounds a { cls := .none, dict := none, data := .freed } } : Heap).get? a = none := by
  unfold Heap.get?
  dsimp only
  by_cases hl : a < h.objs.size
  · rw [Array.getElem?_setIfInBounds_self_of_lt hl]
  · rw [Array.getElem?_eq_none (by simpa using hl)]
theorem mk_endn {X : Cx} {pins : List (Addr × Obj)} {σ : L2.St} {H1 H2 : Hp} {Q : XK} {hp hp2 h2 : Heap} {g1 g2 : Array GenState} {d1 d2 : Drawn} {t1 t2 : Nat} {os1 os2 : OsState} {a C : Addr} (hr : Raises X (.ref C)) (I1 : Inv X pins σ H1 ⟨hp, g1, d1, t1, os1⟩) (sz : hp.objs.size ≤ a)
    (kk : ∀ b o, hp.get? b = some o → hp2.get? b = some o) (un : Un (frs X.stack) [] (upd H1 a (exo a C none)) H2 hp2 h2) (hok : HOk X.prog X.w H2 h2) (eo : os2 = os1) (bare : AllBare g2) (ea : H2 a = some (exo a C none)) (q : Q (.ref C) none (del H2 a)) : MkP X pins σ Q (.ref a) ⟨h2, g2, d2, t2, os2⟩ := by
  have hn : H1 a = none := I1.hok.fresh sz
  have lt : ∀ {b : Addr} {o : Obj}, hp.get? b = some o → b ≠ a := fun {b o} e => Nat.ne_of_lt (Nat.lt_of_lt_of_le (Heap.lt_size e) sz)
  have u1 : ∀ {b : Addr}, b ≠ a → upd H1 a (exo a C none) b = H1 b := fun ne => upd_ne ne
  obtain ⟨t0, ho⟩ := exo_at hok ea
  let G : Heap := { h2 with objs := h2.objs.setIfInBounds a { cls := .none, dict := none, data := .freed } }
  have ga : G.get? a = none := get_freed
  have gb : ∀ {b : Addr}, b ≠ a → G.get? b = h2.get? b := fun ne => get_set ne
  have U2 : Un (frs X.stack) [] H1 (del H2 a) hp G := by
    refine ⟨fun b o e n nf ne => ?_, fun b o e n nf ne => ?_, fun b o e n ne => ?_, fun b o e ne => ?_, fun b xs e => ?_, fun b o v e => ?_, fun b ps e => ?_⟩
    · rw [gb (lt e)]; exact un.keep b o (kk b o e) (by rw [u1 (lt e)]; exact n) nf ne
    · obtain ⟨sl, z⟩ := un.slot b o (kk b o e) (by rw [u1 (lt e)]; exact n) nf ne
      exact ⟨sl, by rw [gb (lt e)]; exact z⟩
    · rw [del_ne (lt e)]; exact un.free b o (kk b o e) (by rw [u1 (lt e)]; exact n) ne
    · obtain ⟨o', z⟩ := un.there b o (kk b o e) ne
      exact ⟨o', by rw [gb (lt e)]; exact z⟩
    · have ne := ne_of_none e hn
      rw [del_ne ne]; exact un.tups b xs (by rw [u1 ne]; exact e)
    · have ne := ne_of_none e hn
      rw [del_ne ne]; exact un.frzs b o v (by rw [u1 ne]; exact e)
    · have ne := ne_of_none e hn
      rw [del_ne ne]; exact un.tbls b ps (by rw [u1 ne]; exact e)
  have K2 : HOk X.prog X.w (del H2 a) G := fun b o e => by
    have ne : b ≠ a := fun z => by rw [z, del_same] at e; cases e
    rw [del_ne ne] at e
    refine (hok b o e).stay (fun c v hc z => ?_) (fun c hc => ?_) fun c xs hc => ?_
    · rw [gb ?_]
      · exact z
      · rcases hc with hc | hc
        · rw [hc]; exact ne
        · exact at_ne ea hc exo_own
    · rw [del_ne (at_ne ea hc exo_own)]; exact hc
    · rw [del_ne (at_ne ea hc exo_tup)]; exact hc
  have I3 : EP X pins σ (fun v H' => v = .non ∧ H' = del H2 a) .none ⟨G, g2, d2, t2, os2⟩ := I1.after ⟨.non, del H2 a, eo, bare, U2, K2, rfl, rfl, rfl⟩
  obtain ⟨v, H', I4, _, _, e2⟩ := I3
  subst e2
  exact ⟨a, _, _, _, _, _, _, rfl, I4, fun b o e => by
    by_cases hb : b = a
    · subst hb; rw [ga] at e; cases e
    · rw [gb hb] at e; exact e, ga, ho, ⟨rfl, rfl⟩, rfl, rfl, del_same, rfl, bare, hr, q⟩
section
variable {X : Cx} {C fI : Addr} {x : Str} {p pos : Pos} {B newId initId : String} {bmB : List Value} {k : Nat} {fd : FuncData}
theorem pmk_zero {ps : List Str} (FB : ExcBaseFacts B newId initId bmB) (T : ExK X.K C B newId bmB) (iC : PySem.W.findIn X.K (.ref C) "__init__" = some (some (.ref fI))) (tI : PySem.W.typeIn X.K (.ref fI) = some (.type "function"))
    (F1 : FnOk X.prog X.w X.K X.mg X.base (L2.CX X.prog X.w) k fI fd ps (spIni0 C)) (hr : Room (k + 1) X.A) (hb : Binds X.K fd ps []) (hg : Gl X x) (hm : X.mg x = some (.ref C)) (hdb : (x == ("__debug__" : Str)) = false := by decide) :
    PMk X (.Call (.Name x p) [] [] pos) (fun _ H Q => Q (.ref C) none H) := by
  intro pins s σ H Q I h
  refine wpAny_Call_Name_kw (ld_glob I hg hm ?_ hdb)
  refine PySem.W.callWith_K0 I.kIn T.kC ?_
  show wpAny _ _ (call (.ref C) []) _ _ _
  obtain ⟨hp, g, dr, tk, os⟩ := s
  obtain ⟨nm, N', qn, bs, bm, hdct, sn, sub, ab, col, dd, k0, k1, k2, k3, k5, hC, hT⟩ := PySem.W.excInit_of I.kIn T.ini
  have sz1 : hp.objs.size ≤ hp.objs.size + 1 := Nat.le_succ _
  have hn : H (hp.objs.size + 1) = none := I.hok.fresh sz1
  have kk : ∀ b o, hp.get? b = some o → ((hp.push (PySem.W.kdv_tup [])).push (PySem.HandSPX.excO C hp.objs.size)).get? b = some o := fun b o e => Heap.get?_push_of_some _ (Heap.get?_push_of_some _ e)
  have hget : ((hp.push (PySem.W.kdv_tup [])).push (PySem.HandSPX.excO C hp.objs.size)).get? (hp.objs.size + 1) = some (PySem.HandSPX.excO C hp.objs.size) := by heap_get
  have I2 : Inv X pins σ (upd H (hp.objs.size + 1) (exo (hp.objs.size + 1) C none)) ⟨(hp.push (PySem.W.kdv_tup [])).push (PySem.HandSPX.excO C hp.objs.size), g, dr, tk, os⟩ := I.laid (t' := tk) (a := hp.objs.size + 1) (o := exo (hp.objs.size + 1) C none) kk sz1 (exo_ok hget)
  have hq : spIni0 C [V.ref (hp.objs.size + 1)] (upd H (hp.objs.size + 1) (exo (hp.objs.size + 1) C none)) (fun z H2 => z = .non ∧ H2 = upd H (hp.objs.size + 1) (exo (hp.objs.size + 1) C none)) (fun _ _ _ => False) := ⟨_, rfl, upd_same, rfl, rfl⟩
  have r2 : Vals [V.ref (hp.objs.size + 1)] [Value.ref (hp.objs.size + 1)] := .cons rfl .nil
  have hl : [Value.ref (hp.objs.size + 1)].length = ps.length := by
    have e := r2.length
    rw [F1.len _ _ _ _ hq] at e
    exact e.symm
  refine wpAny_call (PySem.HandSPX.call_own FB hT hC (PySem.W.looks_findIn I.kIn iC) (fun self => PySem.W.bind_fn I.kIn self tI) (by show 0 ≤ sizeLine; decide)
    (codeAny_mono (F1.run _ X.stack _ _ ⟨[Value.ref (hp.objs.size + 1)], []⟩ [Value.ref (hp.objs.size + 1)] _ _ (fun _ _ _ => False) (hr.make C [] []) (I2.env0.make C [] []) (hb _ [Value.ref (hp.objs.size + 1)] I2.kIn (by simpa using hl)) r2 hq) fun r s' hq' => ?_))
  cases r with
  | error er => exact passL pins σ _ _ er s' I2 hq'
  | ok fl =>
    cases fl with
    | ret z =>
      obtain ⟨z0, H2, os2, bare2, un2, hok2, rz, ez, e2⟩ := hq'
      subst ez
      subst e2
      obtain ⟨h2, g2, d2, t2, os'⟩ := s'
      refine ⟨rz, mk_endn (raises_own T.exC T.tyC) I sz1 kk un2 hok2 os2 bare2 upd_same ?_⟩
      rw [show del (upd H (hp.objs.size + 1) (exo (hp.objs.size + 1) C none)) (hp.objs.size + 1) = H from ?_]
      · exact h
      · funext b
        by_cases hb2 : b = hp.objs.size + 1
        · subst hb2; rw [del_same, hn]
        · rw [del_ne hb2, upd_ne hb2]
    | next => exact False.elim hq'
    | brk => exact False.elim hq'
    | cont => exact False.elim hq'
end
/-- an own error without a field: all that is asked of it -/
structure Ez (P : Program) (w : World) (K : Fr0) (mg : Str → Option Value) (base : Heap) (c : Str) (B newId : String) (bmB : List Value) (C : Addr) : Prop where
  g : mg c = some (.ref C)
  x : ExK K C B newId bmB
  te : PySem.W.exmOne K (.ref C) (.ref C) = some true
  is : ExcC K C
  ini : ∃ (fI : Addr) (fd : FuncData) (ps : List Str), PySem.W.findIn K (.ref C) "__init__" = some (some (.ref fI)) ∧ PySem.W.typeIn K (.ref fI) = some (.type "function") ∧ FnOk P w K mg base (L2.CX P w) 1 fI fd ps (spIni0 C) ∧ Binds K fd ps []
section
variable {X : Cx} {W : WN} {c f : Str} {B newId initId : String} {bmB : List Value} {C : Addr}
def gRaise0 (c : Str) : Gs := fun m => some (.ex c [] m)
theorem pms_raise0 {p pos pos2 : Pos} (FB : ExcBaseFacts B newId initId bmB) (T : Ez X.prog X.w X.K X.mg X.base c B newId bmB C) (hr : Room 2 X.A) (hc : X.calm = true) (tk : Takes X W.w) (hg : Gl X c) (hdb : (c == ("__debug__" : Str)) = false := by decide) :
    PMS X W (.Raise (some (.Call (.Name c p) [] [] pos)) none pos2) (gRaise0 c) := by
  obtain ⟨fI, fd, ps, h1, h2, h3, h4⟩ := T.ini
  refine ⟨PS.wk (ps_raise hc tk (pmk_zero FB T.x h1 h2 h3 hr h4 hg T.g hdb)) fun D σ H q => ?_⟩
  obtain ⟨Fb, μ, m, r, R, g, k⟩ := q
  cases g
  exact k (.ref C) none σ μ H (Nx.refl _ _ _) R ⟨T.g, rfl⟩
def gRaise1 (c f : Str) (G : GE) : Gs := gS G fun d m => some (.ex c [(f, d)] m)
theorem pms_raise1 {e : Expr} {p pos pos2 : Pos} {G : GE} (FB : ExcBaseFacts B newId initId bmB) (T : Ec X.prog X.w X.K X.mg X.base c f B newId bmB C) (hr : Room 2 X.A) (hc : X.calm = true) (tk : Takes X W.w) (hg : Gl X c) (he : PMD X W e G)
    (hs : starEach [e] X.env = (false, eval e X.env) :: starEach [] X.env := by rfl) (hdb : (c == ("__debug__" : Str)) = false := by decide) (hpl : (backTo pos (starEach [] X.env)).any (·.1) = false := by rfl) :
    PMS X W (.Raise (some (.Call (.Name c p) [e] [] pos)) none pos2) (gRaise1 c f G) := by
  obtain ⟨fI, fd, ps, h1, h2, h3, h4⟩ := T.ini
  refine ⟨PS.wk (ps_raise hc tk (PD.pmk_one (f := f) FB T.x h1 h2 h3 hr h4 hg T.g (pa_cons he.pe pa_nil hs) hdb hs hpl)) fun D σ H q => ?_⟩
  show tG (ρD X.K) X W G σ H fun v H1 => ∃ u, [v] = [u] ∧ ∀ d, H1 d = none → W.w (.ref C) (some d) σ (upd H1 d (.xd [(f, u)]))
  refine (tS.after (ρ := ρD X.K) q).mono fun v H1 z => ?_
  obtain ⟨d, Fb, μ, m, r, hv, R, g, k⟩ := z
  cases g
  exact ⟨v, rfl, fun dx hd => k (.ref C) (some dx) σ μ _ (Nx.grow (upd_grow hd)) (R.grow (upd_grow hd)) ⟨T.g, dx, v, rfl, R.sr.free hd, upd_same, hv.mv (mv_grow (upd_grow hd))⟩⟩
end
end PM
namespace PM
open PySem PySem.Spec PyProof.Rows L2
open PD (D AS Fr0 U Dn DnA Mv ExIs All2 NT nt_lst nt_tup nt_xd nt_ext nt_rng mv_grow upd_grow sz RCd ExK spIni0 Ec call_isX)
/-! ### what a suite says of its exception: a list of texts, fields, isinstance -/
def ExV (K : Fr0) (F : AS) (H : Hp) : List (Str × D) → Option Addr → Prop
  | [], d => d = none
  | [(f, x)], d => ∃ a v, d = some a ∧ H a = some (.xd [(f, v)]) ∧ Dn K F H v x
  | _, _ => False
abbrev FsF := List (Str × D) → Option (List D)
structure PSE (X : Cx) (a : Addr) (cls : Value) (d : Option Addr) (i : Nat) (C : Addr) (es : List Expr) (φ : FsF) : Prop where
  pa : PA X es (fun σ H Q => ∃ (F : AS) (fs : List (Str × D)) (ds : List D), σ[i]? = some (some (.ref a)) ∧ cls = .ref C ∧ ExV X.K F H fs d ∧ φ fs = some ds ∧ ∀ vs, DnA X.K F H vs ds → Q vs H)
def φNil : FsF := fun _ => some []
def φC (x : D) (φ : FsF) : FsF := fun fs => (φ fs).map (x :: ·)
def φF (f : Str) (φ : FsF) : FsF := fun fs => match fs with
  | [(f', x)] => if f' = f then (φ fs).map (x :: ·) else none
  | _ => none
section
variable {X : Cx} {a : Addr} {cls : Value} {d : Option Addr} {i : Nat} {C : Addr} {f : Str} {es : List Expr} {φ : FsF}
theorem pse_nil : PSE X a cls d i C [] φNil := ⟨PA.wk pa_nil fun σ H Q q => by
  obtain ⟨F, fs, ds, h1, h2, h3, h4, k⟩ := q
  cases h4
  exact k [] .nil⟩
theorem pse_str {z : Str} {k : Nat} {p : Pos} (h : PSE X a cls d i C es φ) (hs : starEach (.Constant (.str z) k p :: es) X.env = (false, eval (.Constant (.str z) k p) X.env) :: starEach es X.env := by rfl) : PSE X a cls d i C (.Constant (.str z) k p :: es) (φC (.str z) φ) := ⟨PA.wk (pa_cons pe_str h.pa hs) fun σ H Q q => by
  obtain ⟨F, fs, ds, h1, h2, h3, h4, k⟩ := q
  obtain ⟨ds', h5, rfl⟩ := Option.map_eq_some_iff.mp h4
  exact ⟨F, fs, ds', h1, h2, h3, h5, fun vs hv => k _ (.cons (.str z) hv)⟩⟩
theorem pse_fld {oe : Obj} {pn : List (Addr × Obj)} {n : Str} {q3 q4 : Pos} (T : XfC X.K C) (hno : PySem.W.findIn X.K (.ref C) f = some none) (hz : Zc cls d oe) (hf : ∃ vs, oe.data = .fields vs) (hv : PE (X.suite a ((a, oe) :: pn)) (.Name n q3) (tVar i)) (h : PSE (X.suite a ((a, oe) :: pn)) a cls d i C es φ)
    (hat : attributeBase (.Name n q3) f X.env (eval (.Name n q3) X.env) = eval (.Name n q3) X.env) (hs : starEach (.Attribute (.Name n q3) f q4 :: es) X.env = (false, eval (.Attribute (.Name n q3) f q4) X.env) :: starEach es X.env := by rfl) :
    PSE (X.suite a ((a, oe) :: pn)) a cls d i C (.Attribute (.Name n q3) f q4 :: es) (φF f φ) := ⟨PA.wk (pa_cons (pe_xf T hno hz hf hv hat) h.pa hs) fun σ H Q q => by
  obtain ⟨F, fs, ds, h1, h2, h3, h4, k⟩ := q
  unfold φF at h4
  split at h4
  · rename_i f' x
    split at h4
    · rename_i ef
      subst ef
      obtain ⟨ds', h5, rfl⟩ := Option.map_eq_some_iff.mp h4
      obtain ⟨dd, v, rfl, h6, h7⟩ := h3
      exact ⟨_, h1, rfl, h2, dd, _, v, rfl, h6, by simp [List.lookup], F, [(f', x)], ds', h1, h2, ⟨dd, v, rfl, h6, h7⟩, h5, fun vs hv => k _ (.cons h7 hv)⟩
    · cases h4
  · cases h4⟩
theorem pse_isi {oe : Obj} {pn : List (Addr × Obj)} {n x y : Str} {B : String} {b : Bool} {p q3 q4 pos : Pos} (T : ExcC X.K C) (hB : PySem.W.kitOne X.K (.ref C) (.type B) = some b) (hg : Gl X x) (hm : X.mg x = none) (hv : bootBuiltins x = some (.builtin "isinstance")) (hgy : Gl X y) (hmy : X.mg y = none) (hvy : bootBuiltins y = some (.type B))
    (hc : cls = .ref C) (hz : Zc cls d oe) (hf : ∃ vs, oe.data = .fields vs) (hvr : PE (X.suite a ((a, oe) :: pn)) (.Name n q3) (tVar i)) (h : PSE (X.suite a ((a, oe) :: pn)) a cls d i C es φ) (hn : x ≠ "__name__" := by decide) (hdb : (x == ("__debug__" : Str)) = false := by decide) (hny : y ≠ "__name__" := by decide) (hdy : (y == ("__debug__" : Str)) = false := by decide)
    (hs : starEach (.Call (.Name x p) [.Name n q3, .Name y q4] [] pos :: es) X.env = (false, eval (.Call (.Name x p) [.Name n q3, .Name y q4] [] pos) X.env) :: starEach es X.env := by rfl)
    (s1 : starEach [.Name n q3, .Name y q4] X.env = (false, eval (.Name n q3) X.env) :: starEach [.Name y q4] X.env := by rfl) (s2 : starEach [.Name y q4] X.env = (false, eval (.Name y q4) X.env) :: starEach [] X.env := by rfl) (hpl : (backTo pos (starEach [.Name y q4] X.env)).any (·.1) = false := by rfl) :
    PSE (X.suite a ((a, oe) :: pn)) a cls d i C (.Call (.Name x p) [.Name n q3, .Name y q4] [] pos :: es) (φC (.bool b) φ) := by
  subst hc
  exact ⟨PA.wk (pa_cons (pe_callB (call_isX T hz hf) hg hm hv (pa_cons hvr (pa_cons (pe_bltn (v := .ty B) hgy hmy hvy rfl hny hdy) pa_nil s2) s1) hn hdb s1 hpl) h.pa hs) fun σ H Q q => by
    obtain ⟨F, fs, ds, h1, h2, h3, h4, k⟩ := q
    obtain ⟨ds', h5, rfl⟩ := Option.map_eq_some_iff.mp h4
    have hd : d = none ∨ ∃ dd fs, d = some dd ∧ H dd = some (.xd fs) := by
      match fs, h3 with
      | [], h3 => exact .inl h3
      | [(f, x)], ⟨dd, v, e, h6, h7⟩ => exact .inr ⟨dd, _, e, h6⟩
    exact ⟨_, h1, .ty B, .type B, b, rfl, fun u r => r, hB, hd, F, fs, ds', h1, h2, h3, h5, fun vs hv => k _ (.cons (.bl b) hv)⟩⟩
end
theorem exV_of {K : Fr0} {mg : Str → Option Value} {F : AS} {H : Hp} {c : Str} {fs : List (Str × D)} {cls : Value} {dd : Option Addr} (x : ExIs K mg F H c fs cls dd) : ExV K F H fs dd := by
  have x2 := x.2
  match fs, x2 with
  | [], x2 => exact x2
  | [(f, d)], ⟨a, v, ea, na, ha, hd⟩ => exact ⟨a, v, ea, ha, hd⟩
theorem MR.hide {G : Gx} {N : NfR} {σ : L2.St} {m : Ms} {i : Nat} {x : Option V} {Fb : AS} {μ : List Addr} {H : Hp} (R : MR G N Fb μ H σ m) : MR G N Fb μ H (σ.set i x) ⟨m.e.set i none, m.s⟩ where
  sr := R.sr
  len := by simpa using R.len
  sl := fun j y e => by
    dsimp only at e
    by_cases hj : i = j
    · subst hj
      have hlt : i < m.e.length := by
        have := (List.getElem?_eq_some_iff.mp e).1
        simpa using this
      rw [List.getElem?_set_self hlt] at e
      cases e
    · rw [List.getElem?_set_ne hj] at e
      rw [List.getElem?_set_ne hj]
      exact R.sl j y e
/-- try: body except c as n: return [..], or x = [..] -/
def gTryR (i : Nat) (c : Str) (φ : FsF) (B : Gs) : Gs := fun m => match B m with
  | some (.ex c' fs e) => if c' = c ∧ i < e.e.length then (φ fs).bind fun ds => if ds.length ≤ 1000 then some (.rt (.d (.list ds)) e) else none else none
  | r => r
def gTryA (i : Nat) (c : Str) (j : Nat) (φ : FsF) (B : Gs) : Gs := fun m => match B m with
  | some (.ex c' fs e) => if c' = c ∧ i < e.e.length then (φ fs).bind fun ds => if ds.length ≤ 1000 then some (.nx ⟨((e.e.set i none).set j (some (.d (.list ds)))).set i none, e.s⟩) else none else none
  | r => r
section
variable {X : Cx} {W : WN} {c n : Str} {C : Addr} {i : Nat} {body : List Stmt} {es : List Expr} {np pos pos' q1 q5 : Pos} {B : Gs} {φ : FsF}
theorem pms_tryR (hs : X.stack = X.env :: X.outer) (hf : X.env.frame = some X.env.locals) (hN : X.N.Nodup) (hi : X.N[i]? = some n) (hln : X.env.kindOf n = some .local)
    (hc : Names X c (.ref C)) (hm : X.mg c = some (.ref C)) (te : PySem.W.exmOne X.K (.ref C) (.ref C) = some true)
    (hb : ∀ (W' : WX) (pn : List (Addr × Obj)) (xe : Value → Shared → Prop), Takes (X.tr pn xe) W' → PassesOwn (model X.prog X.w) X.A X.env xe → PMSs (X.tr pn xe) ⟨W', W.n⟩ body B)
    (hsu : ∀ (a : Addr) (oe : Obj) (d : Option Addr) (pn : List (Addr × Obj)), Zc (.ref C) d oe → (∃ vs, oe.data = .fields vs) → PSE (X.suite a ((a, oe) :: pn)) a (.ref C) d i C es φ) :
    PMS X W (.Try body [.ExceptHandler (some (.Name c np)) (some n) [.Return (some (.List es q5)) q1] pos'] [] [] pos) (gTryR i c φ B) := by
  have tkN : Takes X (fun _ _ _ _ => False) := takes0
  have hsu2 : ∀ (a : Addr) (oe : Obj) (cls : Value) (d : Option Addr) (pn : List (Addr × Obj)), Zc cls d oe → (∃ vs, oe.data = .fields vs) → PSs (X.suite a ((a, oe) :: pn)) [.Return (some (.List es q5)) q1]
      (fun D σ H => cls = .ref C ∧ tRet (tLst (fun σ H Q => ∃ (F : AS) (fs : List (Str × PD.D)) (ds : List PD.D), σ[i]? = some (some (.ref a)) ∧ cls = .ref C ∧ ExV X.K F H fs d ∧ φ fs = some ds ∧ ∀ vs, DnA X.K F H vs ds → Q vs H)) D σ H) := fun a oe cls d pn hz hfl => by
    by_cases hcl : cls = .ref C
    · subst hcl
      refine PSs.wk (pss_one (ps_ret (pe_lst (hsu a oe d pn hz hfl).pa))) fun D σ H q => q.2
    · exact ⟨fun pins s σ H D I h => (hcl h.1).elim⟩
  refine ⟨PS.wk (ps_try_as (i := i) (tb := fun W' => tS X ⟨W', W.n⟩ B) hs hf hN hi hln hc tkN (fun W' pn xe tk po => (hb W' pn xe tk po).pss) hsu2) fun D σ H q => ?_⟩
  obtain ⟨Fb, μ, m, r, R, g, k⟩ := q
  unfold gTryR at g
  split at g
  · rename_i c' fs e hB
    split at g
    rotate_left
    · cases g
    rename_i hcf
    obtain ⟨rfl, hil⟩ := hcf
    obtain ⟨ds, hφ, g⟩ := Option.bind_eq_some_iff.mp g
    split at g
    rotate_left
    · cases g
    rename_i hlen
    cases g
    refine ⟨Fb, μ, m, _, R, hB, fun cls dd σ' μ' H' t R' x => ?_⟩
    have xv := exV_of x
    have hcl := x.1
    have hcl : X.mg c' = some cls := hcl
    rw [hm] at hcl
    cases hcl
    refine ⟨true, te, fun _ a ha => ⟨rfl, ?_⟩, fun z => nomatch z⟩
    rw [R'.len] at hil
    refine ⟨_, fs, ds, List.getElem?_set_self hil, rfl, xv, hφ, fun vs hv => ⟨Nat.le_trans (by rw [hv.length]; exact hlen) (by decide), fun p hp => ?_⟩⟩
    exact k _ σ' μ' _ (t.trans (Nx.grow (upd_grow hp))) (R'.grow (upd_grow hp)) (.lst (R'.sr.free hp) upd_same (hv.mv (mv_grow (upd_grow hp))))
  · rename_i hn1
    refine ⟨Fb, μ, m, r, R, g, ?_⟩
    cases r with
    | nx e => exact k
    | rt d e => exact k
    | bk e => exact k
    | ct e => exact k
    | ex c' fs e => exact (hn1 c' fs e g).elim
theorem pms_tryA {y : Str} {py : Pos} {j : Nat} (hs : X.stack = X.env :: X.outer) (hf : X.env.frame = some X.env.locals) (hN : X.N.Nodup) (hi : X.N[i]? = some n) (hln : X.env.kindOf n = some .local)
    (hc : Names X c (.ref C)) (hm : X.mg c = some (.ref C)) (te : PySem.W.exmOne X.K (.ref C) (.ref C) = some true)
    (hb : ∀ (W' : WX) (pn : List (Addr × Obj)) (xe : Value → Shared → Prop), Takes (X.tr pn xe) W' → PassesOwn (model X.prog X.w) X.A X.env xe → PMSs (X.tr pn xe) ⟨W', W.n⟩ body B)
    (hgy : ∀ (a : Addr) (oe : Obj) (pn : List (Addr × Obj)), PG (X.suite a ((a, oe) :: pn)) (.Name y py) (gName j))
    (hsu : ∀ (a : Addr) (oe : Obj) (d : Option Addr) (pn : List (Addr × Obj)), Zc (.ref C) d oe → (∃ vs, oe.data = .fields vs) → PSE (X.suite a ((a, oe) :: pn)) a (.ref C) d i C es φ)
    (hsw : swapsWithSole [.Name y py] (.List es q5) q1.line X.env = pure false := by rfl) (hw : swappedStores [.Name y py] (.List es q5) X.env = pure none := by rfl) (h1 : (assignEach [.Name y py] X.env).map (·.2) = [assign (.Name y py) X.env] := by rfl) :
    PMS X W (.Try body [.ExceptHandler (some (.Name c np)) (some n) [.Assign [.Name y py] (.List es q5) q1] pos'] [] [] pos) (gTryA i c j φ B) := by
  have tkN : Takes X (fun _ _ _ _ => False) := takes0
  have hsu2 : ∀ (a : Addr) (oe : Obj) (cls : Value) (d : Option Addr) (pn : List (Addr × Obj)), Zc cls d oe → (∃ vs, oe.data = .fields vs) → PSs (X.suite a ((a, oe) :: pn)) [.Assign [.Name y py] (.List es q5) q1]
      (fun D σ H => cls = .ref C ∧ tAsg (tLst (fun σ H Q => ∃ (F : AS) (fs : List (Str × PD.D)) (ds : List PD.D), σ[i]? = some (some (.ref a)) ∧ cls = .ref C ∧ ExV X.K F H fs d ∧ φ fs = some ds ∧ ∀ vs, DnA X.K F H vs ds → Q vs H)) (gName j) D σ H) := fun a oe cls d pn hz hfl => by
    by_cases hcl : cls = .ref C
    · subst hcl
      refine PSs.wk (pss_one (ps_asg (pe_lst (hsu a oe d pn hz hfl).pa) (hgy a oe pn) hsw hw h1)) fun D σ H q => q.2
    · exact ⟨fun pins s σ H D I h => (hcl h.1).elim⟩
  refine ⟨PS.wk (ps_try_as (i := i) (tb := fun W' => tS X ⟨W', W.n⟩ B) hs hf hN hi hln hc tkN (fun W' pn xe tk po => (hb W' pn xe tk po).pss) hsu2) fun D σ H q => ?_⟩
  obtain ⟨Fb, μ, m, r, R, g, k⟩ := q
  unfold gTryA at g
  split at g
  · rename_i c' fs e hB
    split at g
    rotate_left
    · cases g
    rename_i hcf
    obtain ⟨rfl, hil⟩ := hcf
    obtain ⟨ds, hφ, g⟩ := Option.bind_eq_some_iff.mp g
    split at g
    rotate_left
    · cases g
    rename_i hlen
    cases g
    refine ⟨Fb, μ, m, _, R, hB, fun cls dd σ' μ' H' t R' x => ?_⟩
    have xv := exV_of x
    have hcl := x.1
    have hcl : X.mg c' = some cls := hcl
    rw [hm] at hcl
    cases hcl
    refine ⟨true, te, fun _ a ha => ⟨rfl, ?_⟩, fun z => nomatch z⟩
    rw [R'.len] at hil
    refine ⟨_, fs, ds, List.getElem?_set_self hil, rfl, xv, hφ, fun vs hv => ⟨Nat.le_trans (by rw [hv.length]; exact hlen) (by decide), fun p hp => ?_⟩⟩
    have RG := (R'.hide (i := i) (x := some (.ref a))).grow (upd_grow (o := .lst vs) hp)
    have dl : Dn X.K (U (Lo μ' e.s) Fb) (upd H' p (.lst vs)) (.ref p) (.list ds) := .lst (R'.sr.free hp) upd_same (hv.mv (mv_grow (upd_grow hp)))
    exact k _ μ' _ (t.trans (Nx.grow (upd_grow hp))) ((RG.put (i := j) (v := .ref p) (x := .d (.list ds)) dl).hide (i := i) (x := none))
  · rename_i hn1
    refine ⟨Fb, μ, m, r, R, g, ?_⟩
    cases r with
    | nx e => exact k
    | rt d e => exact k
    | bk e => exact k
    | ct e => exact k
    | ex c' fs e => exact (hn1 c' fs e g).elim
end
end PM
namespace PM
open PySem PySem.Spec PyProof.Rows L2
open PD (D AS Fr0 U Dn DnA Mv ExIs All2 NT nt_lst nt_tup nt_xd nt_ext nt_rng mv_grow upd_grow sz RCd pick pick_vals pick_dn dMul3 rd_mul3 PK.wk)
section
variable {X : Cx} {W : WN} {x : Str} {p pos : Pos} {e : Expr} {es : List Expr} {k : Nat} {st : Stmt} {ps : List Str} {F : List Im → List Ob → Option FR}
/-! ### keywords alone -/
structure PMK (X : Cx) (W : WN) (kws : List Keyword) (G : GA) : Prop where
  pk : PK X kws (fun σ H Q => tG (ρA X.K) X W G σ H Q)
theorem pmk_nil : PMK X W [] (gP []) := ⟨PK.wk pk_nil fun σ H Q q => by
  obtain ⟨Fb, μ, m, r, R, g, k⟩ := q
  cases gP_some g
  exact k μ H (Nx.refl _ _ _) R [] .nil⟩
theorem pmk_cons {nm : Option Str} {kp : Pos} {kws : List Keyword} {Ga : GE} {Gr : GA} (ha : PMD X W e Ga) (hr : PMK X W kws Gr) : PMK X W (⟨nm, e, kp⟩ :: kws) (gCons Ga Gr) :=
  ⟨PK.wk (pk_cons ha.pe hr.pk) fun σ H Q q => (tG.seq2 (ρ := ρD X.K) (ρ1 := ρA X.K) (stabD X.K) q).mono fun x H1 z => z.mono fun xs H2 z => by
    obtain ⟨d, ds, Fb, μ, m, r, hx, hy, R, g, k⟩ := z
    cases gP_some g
    exact k μ H2 (Nx.refl _ _ _) R (x :: xs) (.cons hx hy)⟩
def gKwF (n : Nat) (is : List Nat) (F : List Im → List Ob → Option FR) : List D → GI := fun ds m => if ds.length = n then callF F ((pick PyData.none is ds).map Im.d) m else none
theorem pi_callK {kws : List Keyword} {G : GA} {ks : List Str} (is : List Nat) (D : Df X.prog X.w X.K X.mg X.base k x st ps F) (hr : Room k X.A) (hg : Gl X x) (tk : Takes X W.w) (hkw : PMK X W kws G)
    (hl : is.length = ps.length) (hks : (backToKw pos (keywordEach kws X.env)).filterMap (·.1) = ks)
    (hbd : ∀ (kV doc pm : Value) (an : Option Addr) (cdv ct : Value) (ws : List Value), ws.length = ks.length → bindArgs (PySem.W.fnOf x x (defArgs st) (defBody st) (defScope st) .none kV doc pm an cdv ct) ⟨[], ks.zip ws⟩ = pure (ps.zip (pick Value.none is ws)))
    (hall : (backToKw pos (keywordEach kws X.env)).all (·.1.isSome) = true := by rfl) (hdb : (x == ("__debug__" : Str)) = false := by decide)
    (hpl : ((backTo pos (starEach [] X.env)).any (·.1) || (backToKw pos (keywordEach kws X.env)).any (·.1.isNone)) = false := by rfl) (hln : kws.length = ks.length := by rfl) : PMI X W (.Call (.Name x p) [] kws pos) (gB G (gKwF ks.length is F)) := by
  obtain ⟨f, fd, Fn, hm, hk, hb, Fu⟩ := D.ex
  obtain ⟨oc, od, kV, doc, pm, an, cdv, ct, osl, rfl, lk, hcd⟩ := Fu.ex
  have pc : ∀ {E : L2.St → XK} {t : TA}, (∀ σ, PassesAt (L2.CX X.prog X.w) X σ (E σ)) → PK X kws t → PE X (.Call (.Name x p) [] kws pos) (fun σ H Q => t σ H fun zs H2 => zs.length = ks.length ∧ spF (gx X) F (pick V.non is zs) H2 Q (E σ)) := fun {E t} hx hkw => ⟨fun pins s σ H Q I h => by
    refine wpAny_Call_Name_kw (ld_glob I hg hm ?_ hdb)
    refine PySem.W.callWith_KW0 (h₀ := X.base) I.ok.mod.kin hk hall (thn (hkw.run pos pins s σ H _ I h) fun ws s2 ⟨zs, H2, I2, rz, l, q2⟩ => ⟨I2.kIn, ?_⟩) hpl
    rw [hks]
    have r2 := pick_vals (is := is) rz
    have hlw : ws.length = ks.length := rz.length.symm.trans l
    refine wpAny_call (codeAny_mono (Fn.run X.A X.stack s2 H2 ⟨[], ks.zip ws⟩ (pick Value.none is ws) (pick V.non is zs) Q (E σ) hr I2.env0 (.of_eq (hbd kV doc pm an cdv ct ws hlw)) r2 q2) fun r s' hq => ?_)
    cases r with
    | error e => exact hx σ pins H2 s2 e s' I2 hq
    | ok fl =>
      cases fl with
      | ret u => exact I2.after hq
      | next => exact False.elim hq
      | brk => exact False.elim hq
      | cont => exact False.elim hq⟩
  refine ⟨PE.wk (pc (fun σ => passAt tk σ) hkw.pk) fun σ H Q q => (tG.seq (ρ := ρA X.K) q).mono fun zs H1 z => ?_⟩
  obtain ⟨ds, Fb, μ, m, r, hx, R, g, kk⟩ := z
  unfold gKwF at g
  split at g
  rotate_left
  · cases g
  rename_i hn
  exact ⟨by rw [hx.length]; exact hn, call_go (dna_ima (pick_dn hx)) R g kk⟩
/-! ### one of several defs, by its place in a list -/
structure Hd (X : Cx) (k : Nat) (f : Addr) (F : List Im → List Ob → Option FR) : Prop where
  ex : ∃ (fd : FuncData) (ps : List Str), FnOk X.prog X.w X.K X.mg X.base (L2.CX X.prog X.w) k f fd ps (spF (gx X) F) ∧ PySem.W.keepIn X.K (.ref f) = true ∧ Binds X.K fd ps []
theorem Df.hd {k : Nat} {x : Str} {st : Stmt} {ps : List Str} {F : List Im → List Ob → Option FR} (D : Df X.prog X.w X.K X.mg X.base k x st ps F) : ∃ f, X.mg x = some (.ref f) ∧ Hd X k f F := by
  obtain ⟨f, fd, Fn, hm, hk, hb, _⟩ := D.ex
  exact ⟨f, hm, fd, ps, Fn, hk, hb⟩
def gSel (Gi : GE) (Fs : List (List Im → List Ob → Option FR)) (G : GL) : GI := gB Gi fun d m => match d with
  | .int (.ofNat n) => (Fs[n]?).bind fun F => (gB G (callF F)) m
  | _ => none
inductive HdA (X : Cx) : List Nat → List Addr → List (List Im → List Ob → Option FR) → Prop
  | nil : HdA X [] [] []
  | cons {k : Nat} {f : Addr} {F : List Im → List Ob → Option FR} {ks : List Nat} {fs : List Addr} {Fs : List (List Im → List Ob → Option FR)} : Room k X.A → Hd X k f F → HdA X ks fs Fs → HdA X (k :: ks) (f :: fs) (F :: Fs)
theorem HdA.get {ks : List Nat} {fs : List Addr} {Fs : List (List Im → List Ob → Option FR)} (h : HdA X ks fs Fs) : ∀ {n : Nat} {F : List Im → List Ob → Option FR}, Fs[n]? = some F → ∃ k f, fs[n]? = some f ∧ Room k X.A ∧ Hd X k f F := by
  induction h with
  | nil => intro n F h; simp at h
  | cons r d _ ih =>
    intro n F h
    cases n with
    | zero => simp at h; subst h; exact ⟨_, _, rfl, r, d⟩
    | succ n => exact ih (n := n) (by simpa using h)
theorem sel_read {els : List Expr} {ix : Expr} {lp sp : Pos} {Gi : GE} {G : GL} {ks : List Nat} {fs : List Addr} {Fs : List (List Im → List Ob → Option FR)} {tl : TA} (hs : HdA X ks fs Fs) (htl : ∀ σ H (Q : List V → Hp → Prop), Q (fs.map V.ref) H → tl σ H Q) (hsz : fs.length ≤ 100) {σ : L2.St} {H : Hp} {Q : VK} (q : tG (ρI (gx X)) X W (gSel Gi Fs G) σ H Q) :
    tOp (rIx X.K) (tLst tl) (tG (ρD X.K) X W Gi) σ H fun y H1 => ∃ (n : Nat) (F : List Im → List Ob → Option FR) (k : Nat) (f : Addr), y = .ref f ∧ Room k X.A ∧ Hd X k f F ∧ tG (ρI (gx X)) X W (gB G (callF F)) σ H1 Q := by
  refine htl σ H _ ⟨Nat.le_trans (by simpa using hsz) (by decide), fun p hp => ?_⟩
  obtain ⟨Fb, μ, m, r, R, g, k⟩ := q
  have R1 : MR (gx X) W.n Fb μ (upd H p (.lst (fs.map V.ref))) σ m := R.grow (upd_grow hp)
  have t1 : Nx μ m.s H μ m.s (upd H p (.lst (fs.map V.ref))) := Nx.grow (upd_grow hp)
  have nl : ¬ Lo μ m.s p := fun z => R.sr.free hp (.inl z)
  unfold gSel at g; replace g := (gB_def _ _ _).symm.trans g
  split at g
  · cases g
  · rename_i d e1 hg
    refine ⟨Fb, μ, m, _, R1, hg, fun μ2 H2 t2 R2 b hb => ?_⟩
    try dsimp only at g
    split at g
    · rename_i n
      obtain ⟨F, hF, g⟩ := Option.bind_eq_some_iff.mp g
      obtain ⟨k2, f, hf, hr, hd⟩ := hs.get hF
      cases hb
      refine .inl ⟨p, fs.map V.ref, _, .ref f, rfl, rfl, SqL.of (t2.tr.at_ upd_same nt_lst nl).1, ?_, n, F, k2, f, rfl, hr, hd, Fb, μ2, e1, r, R2, g, k.from (t1.trans t2)⟩
      have hlt : n < fs.length := (List.getElem?_eq_some_iff.mp hf).1
      unfold atI
      rw [show ixN (fs.map V.ref).length (Int.ofNat n) = some n by
        unfold ixN
        simp
        omega]
      rw [Option.bind_some, List.getElem?_map, hf]
      rfl
    · cases g
  · rename_i c fs' e1 hg
    cases g
    exact ⟨Fb, μ, m, _, R1, hg, fun cls dd μ' H' t R' x => k cls dd μ' H' (t1.trans t) R' x⟩
theorem pi_callSel {els : List Expr} {ix : Expr} {lp sp : Pos} {Gi : GE} {G : GL} {ks : List Nat} {fs : List Addr} {Fs : List (List Im → List Ob → Option FR)} {tl : TA} (hs : HdA X ks fs Fs) (hel : PA X els tl) (htl : ∀ σ H (Q : List V → Hp → Prop), Q (fs.map V.ref) H → tl σ H Q) (hsz : fs.length ≤ 100) (tk : Takes X W.w)
    (hi : PMD X W ix Gi) (ha : PML X W (e :: es) G) (hp : PlainIx ix := by intros; rfl)
    (ht : eval (.Call (.Subscript (.List els lp) ix sp) (e :: es) [] pos) X.env = (do callWith pos (← eval (.Subscript (.List els lp) ix sp) X.env) [] (backTo pos (starEach (e :: es) X.env)) (backToKw pos (keywordEach [] X.env))) := by rfl)
    (he : starEach (e :: es) X.env = (false, eval e X.env) :: starEach es X.env := by rfl) (hpl : (backTo pos (starEach es X.env)).any (·.1) = false := by rfl) :
    PMI X W (.Call (.Subscript (.List els lp) ix sp) (e :: es) [] pos) (gSel Gi Fs G) := ⟨⟨fun pins s σ H Q I q => by
  refine Call_ (thn ((pe_ix ix_seq (pe_lst hel) hi.pe hp).run pins s σ H _ I (sel_read (els := els) (ix := ix) (lp := lp) (sp := sp) hs htl hsz q)) fun u s1 ⟨y, H1, I1, ry, n, F, k, f, ey, hr, hd, q1⟩ => ?_) ht
  subst ey
  obtain rfl : u = Value.ref f := ry
  obtain ⟨fd, ps, Fn, hk, hb⟩ := hd.ex
  have q2 := tG.seq (ρ := ρL (gx X)) q1
  refine PySem.W.callWith_K (h₀ := X.base) I1.ok.mod.kin hk (thn (ha.pa.run pos pins s1 σ H1 _ I1 q2) fun us s2 ⟨vs, H2, I2, r, z⟩ => ⟨I2.kIn, ?_⟩) he hpl
  obtain ⟨as, Fb, μ, m, r', hx, R, g, kk⟩ := z
  exact run_fnS Fn hr hb (passAt tk σ) I2 r (call_go hx R g kk)⟩⟩
theorem pi_callSel0 {els : List Expr} {ix : Expr} {lp sp : Pos} {Gi : GE} {ks : List Nat} {fs : List Addr} {Fs : List (List Im → List Ob → Option FR)} {tl : TA} (hs : HdA X ks fs Fs) (hel : PA X els tl) (htl : ∀ σ H (Q : List V → Hp → Prop), Q (fs.map V.ref) H → tl σ H Q) (hsz : fs.length ≤ 100) (tk : Takes X W.w)
    (hi : PMD X W ix Gi) (hp : PlainIx ix := by intros; rfl)
    (ht : eval (.Call (.Subscript (.List els lp) ix sp) [] [] pos) X.env = (do callWith pos (← eval (.Subscript (.List els lp) ix sp) X.env) [] (backTo pos (starEach [] X.env)) (backToKw pos (keywordEach [] X.env))) := by rfl) :
    PMI X W (.Call (.Subscript (.List els lp) ix sp) [] [] pos) (gSel Gi Fs (gP [])) := ⟨⟨fun pins s σ H Q I q => by
  refine Call_ (thn ((pe_ix ix_seq (pe_lst hel) hi.pe hp).run pins s σ H _ I (sel_read (els := els) (ix := ix) (lp := lp) (sp := sp) hs htl hsz q)) fun u s1 ⟨y, H1, I1, ry, n, F, k, f, ey, hr, hd, q1⟩ => ?_) ht
  subst ey
  obtain rfl : u = Value.ref f := ry
  obtain ⟨fd, ps, Fn, hk, hb⟩ := hd.ex
  obtain ⟨Fb, μ, m, r', R, g, kk⟩ := q1
  exact PySem.W.callWith_K0 I1.kIn hk (run_fnS (us := []) Fn hr hb (passAt tk σ) I1 .nil (call_go (its := []) (us := []) .nil R g kk))⟩⟩
/-! ### a number of the module; times -/
theorem pm_glob {i : Int} {tok : Tok} (hg : Gl X x) (hm : X.mg x = some (.int i tok)) (hdb : (x == ("__debug__" : Str)) = false := by decide) : PMD X W (.Name x p) (gP (.int i)) := pm_c (pe_glob (v := .int i) hg hm ⟨tok, rfl⟩ hdb) fun _ _ _ => .int i
theorem pm_mul {a b : Expr} {Ga Gb : GE} (ha : PMD X W a Ga) (hb : PMD X W b Gb) : PMD X W (.BinOp a .Mult b pos) (gOp dMul3 Ga Gb) := pm_op (L2.OpR.or op_repT PD.or_mul) rd_mul3 ha hb
end
end PM
namespace PM
open PySem PySem.Spec PyProof.Rows L2
open PD (D AS Fr0 U Dn DnA Mv ExIs All2 NT nt_lst nt_tup nt_xd nt_ext nt_rng mv_grow upd_grow sz RCd)
/-! ### [.. for .. in .. for .. in ..] -/
section
variable {X : Cx} {W : WN}
theorem lc_in {D : Addr} {Fb : AS} {μ1 : List Addr} {S1 : List Ob} {H1 : Hp} {t1 : Tg} {Gt1 : GT} {Ge : GI} {vs1 : List Nat} {σ2 : L2.St} {H6 : Hp} {μ6 : List Addr} {e3 e4 : Ms} {items : List PD.D} {acc acc' : List Im} {ws : List V} {J1 : It} {Nout : Hp → Prop} (hD1 : H1 D = none) (t16 : Nx μ1 S1 H1 μ6 e3.s H6) (sub : ∀ i ∈ t1.is, i ∈ vs1) (R6 : MR (gx X) W.n (Fb' Fb D) μ6 H6 σ2 e3)
    (hl : lcLoop t1 Gt1 Ge vs1 items acc (wipeM e3 vs1) = some (acc', e4)) (hD : H6 D = some (.lst ws)) (him : ImA (gx X) μ6 (U (Lo μ6 e3.s) (Fb' Fb D)) H6 ws acc.reverse) (hlen : acc.length + items.length ≤ 100000) (wk1 : Wk X.K (U (Lo μ6 e3.s) (Fb' Fb D)) J1 H6 items)
    (k : ∀ (μ7 : List Addr) (ws7 : List V) (H7 : Hp), Nx μ1 S1 H1 μ7 e4.s H7 → MR (gx X) W.n (Fb' Fb D) μ7 H7 (L2.wipe σ2 vs1) e4 → H7 D = some (.lst ws7) → ImA (gx X) μ7 (U (Lo μ7 e4.s) (Fb' Fb D)) H7 ws7 acc'.reverse → Nout H7) :
    ∃ W1 : Nat → Nat → Hp → Prop, (∃ m, W1 0 m H6) ∧ ∀ j k H, W1 j k H → (J1.stop j H ∧ Nout H) ∨ (J1.go j H ∧ ∃ Nx1 : Hp → Prop, (∀ H', Nx1 H' → ∃ k', k' < k ∧ W1 (j + 1) k' H') ∧ ∀ x H', J1.yld j H x H' → gTG X.K t1 x (L2.wipe σ2 vs1) H' fun σ3 H5 => L2.wipe σ3 vs1 = L2.wipe σ2 vs1 ∧ tG ρE X W.b Gt1 σ3 H5 fun b H6 => if b = true then tG (ρI (gx X)) X W.b Ge σ3 H6 fun y H7 => ∃ acc : List V, H7 D = some (.lst acc) ∧ acc.length < sizeLine ∧ Nx1 (upd H7 D (.lst (acc ++ [y]))) else Nx1 H6) := by
  let Inv' : Nat → Nat → Hp → Prop := fun i n H' => n = items.length - i ∧ i ≤ items.length ∧ ∃ (μ' : List Addr) (a : List Im) (e : Ms) (ws : List V), lcLoop t1 Gt1 Ge vs1 (items.drop i) a e = some (acc', e4) ∧ a.length ≤ acc.length + i ∧ Nx μ1 S1 H1 μ' e.s H' ∧ Mv (U (Lo μ6 e3.s) (Fb' Fb D)) H6 (U (Lo μ' e.s) (Fb' Fb D)) H' ∧ MR (gx X) W.n (Fb' Fb D) μ' H' (L2.wipe σ2 vs1) e ∧ H' D = some (.lst ws) ∧ ImA (gx X) μ' (U (Lo μ' e.s) (Fb' Fb D)) H' ws a.reverse
  refine ⟨Inv', ⟨_, rfl, Nat.zero_le _, μ6, acc, wipeM e3 vs1, ws, hl, Nat.le_refl _, t16, Mv.refl _ _, R6.wipe vs1, hD, him⟩, ?_⟩
  rintro i n H' ⟨rfl, hi, μ', a, e, ws, hl', hac, t', mv', R', hDs, hws⟩
  obtain ⟨go, stop⟩ := wk1 _ H' mv' (fun a h => R'.sr.trk h)
  by_cases hlt : i < items.length
  · refine .inr ?_
    have hd : items[i]? = some items[i] := by simp [hlt]
    obtain ⟨g1, g2⟩ := go i _ hd
    rw [List.drop_eq_getElem_cons hlt] at hl'
    unfold lcLoop at hl'
    refine ⟨g1, fun H'' => Inv' (i + 1) (items.length - (i + 1)) H'', fun H'' z => ⟨items.length - (i + 1), by omega, z⟩, fun x H3 y => ?_⟩
    obtain ⟨gr, dx⟩ := g2 x H3 y
    have R3 := R'.grow gr
    have t3 := t'.trans (Nx.grow (μ := μ') (S := e.s) gr)
    have hw3 := hws.mv (fun _ _ h => h) (mv_grow (F := U (Lo μ' e.s) (Fb' Fb D)) gr)
    split at hl'
    · cases hl'
    rename_i e1 he1
    have es : e1.s = e.s := tTG_s he1
    refine gTG_read R3 dx he1 fun σ4 st4 R4 => ?_
    have wp := st4.wipe sub
    refine ⟨wp, ?_⟩
    have nD : ∀ {μ5 : List Addr} {e5 : Ms} {H5 : Hp}, Nx μ' e1.s H3 μ5 e5.s H5 → H3 D = some (.lst ws) → H5 D = some (.lst ws) ∧ ¬ Lo μ5 e5.s D := fun n5 h => n5.tr.at_ h nt_lst fun z => R4.sr.dis D z (.inr rfl)
    have hD3 := gr D _ hDs
    have t3' : Nx μ1 S1 H1 μ' e1.s H3 := es ▸ t3
    have mv3 : Mv (U (Lo μ6 e3.s) (Fb' Fb D)) H6 (U (Lo μ' e1.s) (Fb' Fb D)) H3 := es ▸ mv'.trans (mv_grow gr)
    split at hl'
    · rename_i e2 ht
      refine ⟨_, μ', e1, _, R4, ht, fun μ5 H5 t5 R5 b hb => ?_⟩
      subst hb
      rw [if_pos rfl]
      split at hl'
      rotate_left
      · cases hl'
      rename_i v e5 hv
      refine ⟨_, μ5, e2, _, R5, hv, fun μ6' H6' t6 R6' y hy => ?_⟩
      have tt := t5.trans t6
      obtain ⟨hD6, nl6⟩ := nD tt hD3
      obtain ⟨R7, m7⟩ := guard_write (u := .lst (ws ++ [y])) R6' hD6 nt_lst (lst_nc hD6) apt_lst
      have hw6 := (es ▸ hw3).mv tt.pre tt.mv
      have hw7 : ImA (gx X) μ6' (U (Lo μ6' e5.s) (Fb' Fb D)) H6' (ws ++ [y]) (v :: a).reverse := by
        rw [List.reverse_cons]
        exact hw6.app (.cons hy .nil)
      refine ⟨ws, hD6, Nat.lt_of_lt_of_le (show ws.length < 100000 + 1 by have := hws.length; rw [List.length_reverse] at this; omega) (by decide), rfl, hlt, μ6', v :: a, wipeM e5 vs1, ws ++ [y], hl', by simp; omega, ?_, mv3.trans (tt.mv.trans m7), ?_, upd_same, hw7.mv (fun _ _ h => h) m7⟩
      · have n6 := t3'.trans tt
        exact ⟨n6.pre, fun b o eb nb => (let ⟨⟨o', e', k'⟩, n'⟩ := n6.tr b o eb nb; ⟨⟨o', by rw [upd_ne (ne_of_none eb hD1)]; exact e', k'⟩, n'⟩)⟩
      · have R8 := R7.wipe vs1
        rw [wp] at R8
        exact R8
    · rename_i e2 ht
      refine ⟨_, μ', e1, _, R4, ht, fun μ5 H5 t5 R5 b hb => ?_⟩
      subst hb
      rw [if_neg Bool.false_ne_true]
      have R8 := R5.wipe vs1
      rw [wp] at R8
      exact ⟨rfl, hlt, μ5, a, wipeM e2 vs1, ws, hl', by omega, t3'.trans t5, mv3.trans t5.mv, R8, (nD t5 hD3).1, (es ▸ hw3).mv t5.pre t5.mv⟩
    · cases hl'
  · have ei : i = items.length := by omega
    subst ei
    rw [List.drop_length] at hl'
    unfold lcLoop at hl'
    cases hl'
    exact .inl ⟨stop, k μ' ws H' t' R' hDs hws⟩
/-- two loops -/
def lcLoop2 (t : Tg) (Gt : GT) (Gi1 : GA) (t1 : Tg) (Gt1 : GT) (Ge : GI) (vs vs1 : List Nat) : List PD.D → List Im → Ms → Option (List Im × Ms)
  | [], acc, e => some (acc, e)
  | d :: ds, acc, e => match tTG t d e with
    | none => none
    | some e1 => match Gt e1 with
      | some (.ok true e2) => match Gi1 e2 with
        | some (.ok items e3) => if acc.length + items.length ≤ 100000 then match lcLoop t1 Gt1 Ge vs1 items acc (wipeM e3 vs1) with
            | some p => lcLoop2 t Gt Gi1 t1 Gt1 Ge vs vs1 ds p.1 (wipeM p.2 vs)
            | none => none
          else none
        | _ => none
      | some (.ok false e2) => lcLoop2 t Gt Gi1 t1 Gt1 Ge vs vs1 ds acc (wipeM e2 vs)
      | _ => none
def gLc2 (Gi : GA) (t : Tg) (Gt : GT) (Gi1 : GA) (t1 : Tg) (Gt1 : GT) (Ge : GI) (vs vs1 : List Nat) : GL := gB Gi fun items m => (lcLoop2 t Gt Gi1 t1 Gt1 Ge vs vs1 items [] (wipeM m vs)).map fun p => .ok p.1.reverse ⟨back m.e p.2.e vs, p.2.s⟩
theorem lc2_read {Gi Gi1 : GA} {t t1 : Tg} {Gt Gt1 : GT} {Ge : GI} {vs vs1 : List Nat} {σ : L2.St} {H : Hp} {Q : VK} (sub : ∀ i ∈ t.is, i ∈ vs) (sub1 : ∀ i ∈ t1.is, i ∈ vs1) (hv : ∀ i ∈ vs1, i ∈ vs) (q : tF X W (gLc2 Gi t Gt Gi1 t1 Gt1 Ge vs vs1) σ H Q) :
    tLc2 (tI X W Gi) (gTG X.K t) (tG ρE X W.b Gt) (tI X W.b Gi1) (gTG X.K t1) (tG ρE X W.b Gt1) (tG (ρI (gx X)) X W.b Ge) vs vs1 σ H Q := by
  obtain ⟨Fb, μ, m, r, R, g, k⟩ := q
  unfold gLc2 at g; replace g := (gB_def _ _ _).symm.trans g
  split at g
  · cases g
  rotate_left
  · rename_i c fs e hg
    cases g
    exact ⟨Fb, μ, m, _, R, hg, k⟩
  rename_i items m0 hg
  try dsimp only at g
  obtain ⟨pf, hl, rfl⟩ := Option.map_eq_some_iff.mp g
  refine ⟨Fb, μ, m, _, R, hg, fun μ1 H1 t1' R1 J wk D hD => ?_⟩
  have np1 : ∀ (n : Nat), μ1[n]? ≠ some D := fun n e => by
    obtain ⟨w, z⟩ := R1.sr.tk n D e
    rw [hD] at z; cases z
  let Inv' : Nat → Nat → Hp → Prop := fun i n H' => n = items.length - i ∧ i ≤ items.length ∧ ∃ (μ' : List Addr) (acc : List Im) (e : Ms) (ws : List V), lcLoop2 t Gt Gi1 t1 Gt1 Ge vs vs1 (items.drop i) acc e = some pf ∧ Nx μ1 m0.s H1 μ' e.s H' ∧ MR (gx X) W.n (Fb' Fb D) μ' H' (L2.wipe σ vs) e ∧ H' D = some (.lst ws) ∧ ImA (gx X) μ' (U (Lo μ' e.s) (Fb' Fb D)) H' ws acc.reverse
  refine ⟨Inv', ⟨_, rfl, Nat.zero_le _, μ1, [], wipeM m0 vs, [], hl, Nx.grow (upd_grow hD), (R1.guard hD apt_lst).wipe vs, upd_same, .nil⟩, ?_⟩
  rintro i n H' ⟨rfl, hi, μ', acc, e, ws, hl', t', R', hDs, hws⟩
  have mvW : Mv (U (Lo μ1 m0.s) Fb) H1 (U (Lo μ' e.s) (Fb' Fb D)) H' := fun a o n ea nt => by
    obtain ⟨e1, n1⟩ := t'.tr.at_ ea nt fun z => n (.inl z)
    exact ⟨fun z => z.elim n1 fun z => z.elim (fun z => n (.inr z)) (ne_of_none ea hD), e1⟩
  obtain ⟨go, stop⟩ := wk _ H' mvW (fun a h => R'.sr.trk h)
  by_cases hlt : i < items.length
  · refine .inr ?_
    have hd : items[i]? = some items[i] := by simp [hlt]
    obtain ⟨g1, g2⟩ := go i _ hd
    rw [List.drop_eq_getElem_cons hlt] at hl'
    unfold lcLoop2 at hl'
    refine ⟨g1, fun H'' => Inv' (i + 1) (items.length - (i + 1)) H'', fun H'' z => ⟨items.length - (i + 1), by omega, z⟩, fun x H3 y => ?_⟩
    obtain ⟨gr, dx⟩ := g2 x H3 y
    have R3 := R'.grow gr
    have t3 := t'.trans (Nx.grow (μ := μ') (S := e.s) gr)
    have hw3 := hws.mv (fun _ _ h => h) (mv_grow (F := U (Lo μ' e.s) (Fb' Fb D)) gr)
    split at hl'
    · cases hl'
    rename_i e1 he1
    have es : e1.s = e.s := tTG_s he1
    refine gTG_read R3 dx he1 fun σ4 st4 R4 => ?_
    have wp := st4.wipe sub
    refine ⟨wp, ?_⟩
    have nD : ∀ {μ5 : List Addr} {e5 : Ms} {H5 : Hp}, Nx μ' e1.s H3 μ5 e5.s H5 → H3 D = some (.lst ws) → H5 D = some (.lst ws) ∧ ¬ Lo μ5 e5.s D := fun n5 h => n5.tr.at_ h nt_lst fun z => R4.sr.dis D z (.inr rfl)
    have hD3 := gr D _ hDs
    have t3' : Nx μ1 m0.s H1 μ' e1.s H3 := es ▸ t3
    split at hl'
    · rename_i e2 ht
      refine ⟨_, μ', e1, _, R4, ht, fun μ5 H5 t5 R5 b hb => ?_⟩
      subst hb
      rw [if_pos rfl]
      split at hl'
      rotate_left
      · cases hl'
      rename_i items1 e3 hi1
      split at hl'
      rotate_left
      · cases hl'
      rename_i hlen
      split at hl'
      rotate_left
      · cases hl'
      rename_i p hp
      refine ⟨_, μ5, e2, _, R5, hi1, fun μ6 H6 t6 R6 J1 wk1 => ?_⟩
      have tt := t5.trans t6
      obtain ⟨hD6, nl6⟩ := nD tt hD3
      refine lc_in hD (t3'.trans tt) sub1 R6 (acc' := p.1) (e4 := p.2) hp hD6 ((es ▸ hw3).mv tt.pre tt.mv) hlen wk1 fun μ7 ws7 H7 n7 R7 hD7 hw7 => ?_
      have R8 := R7.wipe vs
      rw [PD.wipe_wipe hv, wp] at R8
      exact ⟨rfl, hlt, μ7, p.1, wipeM p.2 vs, ws7, hl', n7, R8, hD7, hw7⟩
    · rename_i e2 ht
      refine ⟨_, μ', e1, _, R4, ht, fun μ5 H5 t5 R5 b hb => ?_⟩
      subst hb
      rw [if_neg Bool.false_ne_true]
      have R8 := R5.wipe vs
      rw [wp] at R8
      exact ⟨rfl, hlt, μ5, acc, wipeM e2 vs, ws, hl', t3'.trans t5, R8, (nD t5 hD3).1, (es ▸ hw3).mv t5.pre t5.mv⟩
    · cases hl'
  · have ei : i = items.length := by omega
    subst ei
    rw [List.drop_length] at hl'
    unfold lcLoop2 at hl'
    cases hl'
    refine .inl ⟨stop, ?_⟩
    exact k D ws μ' H' (t1'.trans t') (R1.back R' t'.pre mvW) (fun z => R1.sr.free hD (.inr z)) (fun n e => R'.sr.nf n D e (.inr rfl)) hDs hws fun o ea na => by
      obtain ⟨⟨o', e', _⟩, _⟩ := t1'.tr D o ea na
      rw [hD] at e'; cases e'
section
variable {elt tg iter tg1 iter1 : Expr} {ifs ifs1 : List Expr} {scope : Scope} {own : List (Str × Nat)} {vs1 : List Nat} {pos spos py : Pos} {Gi Gi1 : GA} {t t1 : Tg} {Gt Gt1 : GT} {Ge : GI} {y : Str} {i : Nat}
theorem pmf_lc2 (hc : X.calm = true) (hN : X.N.Nodup) (hi : PMI' X W tg iter Gi) (ok : BlkOk X.N X.env.scope scope own) (hv : ∀ i ∈ vs1, i ∈ own.map (·.2))
    (hg : ∀ (s : Shared) (H : Hp) (C : Addr) (cl : List (Str × Addr)) (fp : List Addr), PG (X.blk s H scope (compEnvC scope cl C X.env) fp) tg (gTG X.K t)) (ht : ∀ (s : Shared) (H : Hp) (C : Addr) (cl : List (Str × Addr)) (fp : List Addr), PMTs (X.blk s H scope (compEnvC scope cl C X.env) fp) W.b ifs Gt)
    (hi1 : ∀ (s : Shared) (H : Hp) (C : Addr) (cl : List (Str × Addr)) (fp : List Addr), PMI' (X.blk s H scope (compEnvC scope cl C X.env) fp) W.b tg1 iter1 Gi1) (hg1 : ∀ (s : Shared) (H : Hp) (C : Addr) (cl : List (Str × Addr)) (fp : List Addr), PG (X.blk s H scope (compEnvC scope cl C X.env) fp) tg1 (gTG X.K t1))
    (ht1 : ∀ (s : Shared) (H : Hp) (C : Addr) (cl : List (Str × Addr)) (fp : List Addr), PMTs (X.blk s H scope (compEnvC scope cl C X.env) fp) W.b ifs1 Gt1)
    (he : ∀ (s : Shared) (H : Hp) (C : Addr) (cl : List (Str × Addr)) (fp : List Addr), PMI (X.blk s H scope (compEnvC scope cl C X.env) fp) W.b elt Ge) (sub : ∀ i ∈ t.is, i ∈ own.map (·.2)) (sub1 : ∀ i ∈ t1.is, i ∈ vs1) (hs : ∀ x, foldedSetIterable iter X.env x = pure x := by intro _; rfl) (hs1 : ∀ env x, foldedSetIterable iter1 env x = pure x := by intro _ _; rfl) : PMF X W (.ListComp elt [⟨tg, iter, ifs, 0⟩, ⟨tg1, iter1, ifs1, 0⟩] scope pos) (gLc2 Gi t Gt Gi1 t1 Gt1 Ge (own.map (·.2)) vs1) :=
  ⟨PE.wk (pe_lc2 hc hN hi.pi ok hv hg (fun s H C cl fp => (ht s H C cl fp).pts) (fun s H C cl fp => (hi1 s H C cl fp).pi) hg1 (fun s H C cl fp => (ht1 s H C cl fp).pts) (fun s H C cl fp => (he s H C cl fp).pe) hs hs1) fun σ H Q q => lc2_read sub sub1 hv q⟩
theorem pms_asgLc2O (hc : X.calm = true) (hN : X.N.Nodup) (hy : X.N[i]? = some y) (hyl : X.env.scope.names.lookup y = some .local) (hsw : swapsWith (.ListComp elt [⟨tg, iter, ifs, 0⟩, ⟨tg1, iter1, ifs1, 0⟩] scope pos) (some (.Name y py)) spos.line X.env = pure true) (hi : PMI' X W tg iter Gi) (ok : BlkOk X.N X.env.scope scope own) (hv : ∀ i ∈ vs1, i ∈ own.map (·.2))
    (hg : ∀ (s : Shared) (H : Hp) (C : Addr) (cl : List (Str × Addr)) (fp : List Addr), PG (X.blk s H scope (compEnvC scope cl C X.env) fp) tg (gTG X.K t)) (ht : ∀ (s : Shared) (H : Hp) (C : Addr) (cl : List (Str × Addr)) (fp : List Addr), PMTs (X.blk s H scope (compEnvC scope cl C X.env) fp) W.b ifs Gt)
    (hi1 : ∀ (s : Shared) (H : Hp) (C : Addr) (cl : List (Str × Addr)) (fp : List Addr), PMI' (X.blk s H scope (compEnvC scope cl C X.env) fp) W.b tg1 iter1 Gi1) (hg1 : ∀ (s : Shared) (H : Hp) (C : Addr) (cl : List (Str × Addr)) (fp : List Addr), PG (X.blk s H scope (compEnvC scope cl C X.env) fp) tg1 (gTG X.K t1))
    (ht1 : ∀ (s : Shared) (H : Hp) (C : Addr) (cl : List (Str × Addr)) (fp : List Addr), PMTs (X.blk s H scope (compEnvC scope cl C X.env) fp) W.b ifs1 Gt1)
    (he : ∀ (s : Shared) (H : Hp) (C : Addr) (cl : List (Str × Addr)) (fp : List Addr), PMI (X.blk s H scope (compEnvC scope cl C X.env) fp) W.b elt Ge) (sub : ∀ i ∈ t.is, i ∈ own.map (·.2)) (sub1 : ∀ i ∈ t1.is, i ∈ vs1) (hs : ∀ x, foldedSetIterable iter X.env x = pure x := by intro _; rfl) (hs1 : ∀ env x, foldedSetIterable iter1 env x = pure x := by intro _ _; rfl) : PMS X W (.Assign [.Name y py] (.ListComp elt [⟨tg, iter, ifs, 0⟩, ⟨tg1, iter1, ifs1, 0⟩] scope pos) spos) (gAsgO i (gLc2 Gi t Gt Gi1 t1 Gt1 Ge (own.map (·.2)) vs1)) :=
  ⟨PS.wk (ps_setLc2 hc hN hy hyl hsw hi.pi ok hv hg (fun s H C cl fp => (ht s H C cl fp).pts) (fun s H C cl fp => (hi1 s H C cl fp).pi) hg1 (fun s H C cl fp => (ht1 s H C cl fp).pts) (fun s H C cl fp => (he s H C cl fp).pe) hs hs1) fun D σ H q => lc2_read sub sub1 hv (asgO_read q)⟩
theorem pms_asgLc2D (hc : X.calm = true) (hN : X.N.Nodup) (hy : X.N[i]? = some y) (hyl : X.env.scope.names.lookup y = some .local) (hsw : swapsWith (.ListComp elt [⟨tg, iter, ifs, 0⟩, ⟨tg1, iter1, ifs1, 0⟩] scope pos) (some (.Name y py)) spos.line X.env = pure true) (hi : PMI' X W tg iter Gi) (ok : BlkOk X.N X.env.scope scope own) (hv : ∀ i ∈ vs1, i ∈ own.map (·.2))
    (hg : ∀ (s : Shared) (H : Hp) (C : Addr) (cl : List (Str × Addr)) (fp : List Addr), PG (X.blk s H scope (compEnvC scope cl C X.env) fp) tg (gTG X.K t)) (ht : ∀ (s : Shared) (H : Hp) (C : Addr) (cl : List (Str × Addr)) (fp : List Addr), PMTs (X.blk s H scope (compEnvC scope cl C X.env) fp) W.b ifs Gt)
    (hi1 : ∀ (s : Shared) (H : Hp) (C : Addr) (cl : List (Str × Addr)) (fp : List Addr), PMI' (X.blk s H scope (compEnvC scope cl C X.env) fp) W.b tg1 iter1 Gi1) (hg1 : ∀ (s : Shared) (H : Hp) (C : Addr) (cl : List (Str × Addr)) (fp : List Addr), PG (X.blk s H scope (compEnvC scope cl C X.env) fp) tg1 (gTG X.K t1))
    (ht1 : ∀ (s : Shared) (H : Hp) (C : Addr) (cl : List (Str × Addr)) (fp : List Addr), PMTs (X.blk s H scope (compEnvC scope cl C X.env) fp) W.b ifs1 Gt1)
    (he : ∀ (s : Shared) (H : Hp) (C : Addr) (cl : List (Str × Addr)) (fp : List Addr), PMI (X.blk s H scope (compEnvC scope cl C X.env) fp) W.b elt Ge) (sub : ∀ i ∈ t.is, i ∈ own.map (·.2)) (sub1 : ∀ i ∈ t1.is, i ∈ vs1) (hs : ∀ x, foldedSetIterable iter X.env x = pure x := by intro _; rfl) (hs1 : ∀ env x, foldedSetIterable iter1 env x = pure x := by intro _ _; rfl) : PMS X W (.Assign [.Name y py] (.ListComp elt [⟨tg, iter, ifs, 0⟩, ⟨tg1, iter1, ifs1, 0⟩] scope pos) spos) (gAsgD i (gLc2 Gi t Gt Gi1 t1 Gt1 Ge (own.map (·.2)) vs1)) :=
  ⟨PS.wk (ps_setLc2 hc hN hy hyl hsw hi.pi ok hv hg (fun s H C cl fp => (ht s H C cl fp).pts) (fun s H C cl fp => (hi1 s H C cl fp).pi) hg1 (fun s H C cl fp => (ht1 s H C cl fp).pts) (fun s H C cl fp => (he s H C cl fp).pe) hs hs1) fun D σ H q => lc2_read sub sub1 hv (asgD_read q)⟩
end
end
end PM
namespace PM
open PySem PySem.Spec PyProof.Rows L2 PpSet
open PD (D AS Fr0 U Dn DnA Mv ExIs All2 NT nt_lst nt_tup nt_xd nt_ext nt_rng mv_grow upd_grow sz RCd)
/-! ### {k: v for tg in iter if ..} -/
theorem newDict_ok {P : Program} {w : World} {A : Around} {E : Value → Shared → Prop} {s : Shared} {Q : Value → Shared → Prop} (h : Q (.ref s.heap.objs.size) { s with heap := s.heap.push { cls := .type "dict", data := .dict #[] } }) : wpAny (model P w) A newDict Q E s := by
  unfold newDict newObj
  repeat (first | exact h | wp_step)
def PutW (X : Cx) (D : Addr) (H : Hp) (y v : V) (Q : Hp → Prop) : Prop := ∃ (μ : List Addr) (F : AS) (kvs : List (PD.D × Im)) (d : PD.D) (z : Im), DcR (gx X) μ F H D kvs ∧ Dn X.K F H y d ∧ keyOk d kvs = true ∧ kvs.length ≤ 100000 ∧ ImR (gx X) μ F H v z ∧ ∀ u, DcNow (gx X) μ F H D (putD d z kvs) u → Q (upd H D u)
theorem put_run {X : Cx} {pins : List (Addr × Obj)} {σ : L2.St} {H : Hp} {s : Shared} {D : Addr} {y v : V} {iv u : Value} {Q : Hp → Prop} {R : Unit → Shared → Prop} {E : Value → Shared → Prop} (hu : X.A.units + 64 < cLine) (I : Inv X pins σ H s) (ri : RelV y iv) (rv : RelV v u) (h : PutW X D H y v Q) (k : ∀ H' s', Inv X pins σ H' s' → Q H' → R () s') :
    wpAny (model X.prog X.w) X.A (dictSet D iv u) R E s := by
  obtain ⟨μ, F, kvs, d, z, hd, hx, hk, hl, hz, q⟩ := h
  rcases dc_cases hd hk with ⟨ls, l, hl', e, ql⟩ | ⟨xs, k', hl', hn, hdp, e, ka, qn⟩
  · obtain ⟨hs, us, hr, ho⟩ := lf_of (I.hok D _ e)
    obtain ⟨ls', q1, q2⟩ := put_leaf hl' ql hr hz rv
    exact wpAny_dictSet_pairs (lfV_is (leaf_lfV hx hl') ri) ho (fun h' h1 sb => k _ _ (wr_leaf I e hs q2 h1 sb) (q _ (now_leaf q1))) (by rw [← all2_len hr, ← all2_len ql]; exact sz hl)
  · obtain ⟨hs, ys, hr, ho⟩ := nt_of I e ka
    obtain ⟨b, rfl⟩ := nest_ref hx hn hl'
    obtain rfl : iv = Value.ref b := ri
    obtain ⟨xs', ne, q1, q2⟩ := put_nest hn hdp hx qn hr hz rv
    exact wpAny_dictSet_heap (knd := nestedKind X.prog X.w) (k := k') (show X.A.units + 8 < cLine by omega) ⟨nest_is I hx hn rfl, hdp⟩ ho (fun h' h1 sb => k _ _ (wr_nest I e hs q2 h1 sb) (q _ (now_nest ne q1))) (by rw [← all2_len hr, ← all2_len qn]; exact sz hl)
def tDcP (X : Cx) (wi : TI) (g : TG) (tt : TT) (tk tv : TE) (vs : List Nat) : TE := fun σ H Q => wi σ H fun J H1 => ∀ D, H1 D = none → ∃ M : Nat → Nat → Hp → Prop, (∃ m, M 0 m (upd H1 D (LfO X.prog X.w D []))) ∧ ∀ i m Hi, M i m Hi →
  (J.stop i Hi ∧ Q (.ref D) Hi) ∨ (J.go i Hi ∧ ∃ Nx : Hp → Prop, (∀ Hn, Nx Hn → ∃ m', m' < m ∧ M (i + 1) m' Hn) ∧ ∀ x Hy, J.yld i Hi x Hy → g x (wipe σ vs) Hy fun σb Hb => wipe σb vs = wipe σ vs ∧ tt σb Hb fun b Hc =>
    if b = true then tk σb Hc fun y Hd => tv σb Hd fun z He => PutW X D He y z Nx else Nx Hc)
section
variable {X : Cx} {kx vx tg iter : Expr} {ifs : List Expr} {scope : Scope} {own : List (Str × Nat)} {pos : Pos} {wi : TI} {g : TG} {tt : TT} {tk tv : TE}
theorem dcP_core {pins : List (Addr × Obj)} {s : Shared} {σ : L2.St} {H : Hp} {Q : VK} {pos' : Pos} {use : Option (Value → Sem Unit)} {Qf : Value → Shared → Prop} (hu : X.A.units + 64 < cLine) (hc : X.calm = true) (hN : X.N.Nodup) (I : Inv X pins σ H s) (hi : PI X tg iter wi) (ok : BlkOk X.N X.env.scope scope own)
    (hg : ∀ (s : Shared) (H : Hp) (C : Addr) (cl : List (Str × Addr)) (fp : List Addr), PG (X.blk s H scope (compEnvC scope cl C X.env) fp) tg g) (ht : ∀ (s : Shared) (H : Hp) (C : Addr) (cl : List (Str × Addr)) (fp : List Addr), PTs (X.blk s H scope (compEnvC scope cl C X.env) fp) ifs tt)
    (hk : ∀ (s : Shared) (H : Hp) (C : Addr) (cl : List (Str × Addr)) (fp : List Addr), PE (X.blk s H scope (compEnvC scope cl C X.env) fp) kx tk) (he : ∀ (s : Shared) (H : Hp) (C : Addr) (cl : List (Str × Addr)) (fp : List Addr), PE (X.blk s H scope (compEnvC scope cl C X.env) fp) vx tv)
    (hs : ∀ x, foldedSetIterable iter X.env x = pure x) (h : tDcP X wi g tt tk tv (own.map (·.2)) σ H Q)
    (hRR : ∀ D C s' m H', Inv X pins σ H' s' → Q (.ref D) H' → s'.heap.Ns C m → FpOk X pins H' C → compPost (model X.prog X.w) X.A X.xe use Qf (.ref D) C (.ok .next) s') :
    wpAny (model X.prog X.w) X.A (comprehension (.DictComp kx vx [⟨tg, iter, ifs, 0⟩] scope pos) scope X.env pos' newDict false (eval iter X.env) use) Qf X.xe s := by
  have fre : ∀ y ∈ scope.names, y.2 = .free → ∃ c, X.env.cells.lookup y.1 = some c := fun y hy e => (ok.free y hy e).elim (fun z => I.ok.has _ (.inl z)) fun z => I.ok.has _ (.inr z)
  refine wpAny_comprehension_free (use := use) rfl hs (closure_ok fre) ok.kind (fun y hy e => by rw [ok.uniq y hy, e]) (thn (hi.run pins s σ H _ I h) fun _ _ hx => thn hx fun _ s2 ⟨it, fp, tn, J, H2, e, I2, T, st2, f2, q⟩ => ?_)
  subst e
  refine newDict_ok (newEnv_comp ?_)
  let D : Addr := s2.heap.objs.size
  have bel : ∀ b ∈ fp, b < D := fun b hb => by
    obtain ⟨o, eo, _⟩ := T.obj _ _ st2 b hb
    exact Heap.lt_size eo
  obtain ⟨M, ⟨m0, w0⟩, turn⟩ := q D (I2.hok.fresh (Nat.le_refl _))
  let sS : Shared := { s2 with heap := s2.heap.push { cls := .type "dict", data := .dict #[] } }
  have grS : ∀ b o, s2.heap.get? b = some o → sS.heap.get? b = some o := fun b o eo => Heap.get?_push_of_some _ eo
  obtain ⟨HS, hHS⟩ : ∃ Z, upd H2 D (LfO X.prog X.w D []) = Z := ⟨_, rfl⟩
  rw [hHS] at w0
  have IS : Inv X pins σ HS sS := hHS ▸ I2.laid (t' := s2.toks) grS (Nat.le_refl _) (lf_new (sys_ne I2))
  have szS : D < sS.heap.objs.size := by
    show D < (s2.heap.push _).objs.size
    rw [Heap.size_push]
    exact Nat.lt_succ_self _
  have fS : ∀ b ∈ fp, FpOk X pins HS b ∧ b < sS.heap.objs.size := fun b hb => ⟨⟨by rw [← hHS, upd_ne (Nat.ne_of_lt (bel b hb))]; exact (f2 b hb).1, (f2 b hb).2⟩, Nat.lt_trans (bel b hb) szS⟩
  have stS : tn 0 sS.heap := T.keep _ _ _ st2 fun b _ => grS b
  have IB := block_start IS ok hN fS
  let cl := cellsFrom (sS.heap.objs.size + 1) scope.names (cloFrom X.env.cells scope.names [])
  let C : Addr := sS.heap.objs.size
  let ce : Env := compEnvC scope cl C X.env
  have pg := hg sS HS C cl fp
  have pt := ht sS HS C cl fp
  have pk := hk sS HS C cl fp
  have pe := he sS HS C cl fp
  let sB : Shared := { sS with heap := pushCells (sS.heap.push { cls := .type "dict", data := .dict #[] }) scope.names }
  have stB : tn 0 sB.heap := T.keep _ _ _ stS fun b _ o eo => pushCells_keeps _ _ _ _ (Heap.get?_push_of_some _ eo)
  show codeAny (model X.prog X.w) X.A (.compStart (.DictComp kx vx [⟨tg, iter, ifs, 0⟩] scope pos) 0 (.ref it) (.ref D) ce) (compPost (model X.prog X.w) X.A X.xe use Qf (.ref D) C) sB
  let Y : Cx := X.blk sS HS scope ce fp
  let vs := own.map (·.2)
  have nfp : ∀ b ∈ fp, HS b = none := fun b hb => (fS b hb).1.1
  have stat : ∀ {σq : L2.St} {Hq : Hp} {sq : Shared}, Inv Y [] σq Hq sq → (∀ b ∈ fp, Hq b = none) → ∀ b ∈ fp, FpOk Y [] Hq b := fun {σq Hq sq} Iq hn b hb =>
    ⟨hn b hb, (Iq.ok.exf b hb).1, Iq.ok.exfs b hb, .inl hb, fun x c e => (Iq.ok.exf b hb).2 x c e, fun p hp => by cases hp⟩
  have loop : codeAny (model X.prog X.w) X.A (.compLoop (.DictComp kx vx [⟨tg, iter, ifs, 0⟩] scope pos) 0 (.ref it) (.ref D) ce) (compPost (model X.prog X.w) X.A X.xe use Qf (.ref D) C) sB := by
    refine compLoop_anyD (fun n sq => ∃ i Hq, Inv Y [] (wipe σ vs) Hq sq ∧ tn i sq.heap ∧ (∀ b ∈ fp, Hq b = none) ∧ M i n Hq) (fun n s5 z => ?_) m0 ⟨0, HS, IB, stB, nfp, w0⟩
    obtain ⟨i, H5, I5, st5, n5, w5⟩ := z
    have fq := stat I5 n5
    rcases turn i n H5 w5 with ⟨stp, qq⟩ | ⟨gos, Nx, hNx, step⟩
    · refine thnF (T.done Y rfl rfl rfl hc i [] s5 _ H5 (fun _ _ => False) I5 fq st5 stp) fun r s6 ⟨hr, I6⟩ => ?_
      subst hr
      have I7 : Inv X pins σ H5 s6 := IS.call' (ch := fp) I6.os I6.base I6.hok I6.bare fun b hb =>
        have f := (fS b hb).1
        ⟨f.2.2.2.1, f.2.1, f.2.2.2.2.1, f.2.2.2.2.2⟩
      obtain ⟨m, hn, _⟩ := I6.loc
      have f := IS.fpOk (Nat.le_refl _) (show H5 C = none from I6.free)
      exact hRR D C s6 m H5 I7 qq hn f
    · refine thnF (T.item Y rfl rfl rfl hc i [] s5 _ H5 (fun _ _ => False) I5 fq st5 gos) fun r s6 ⟨u, hr, h6⟩ => ?_
      subst hr
      refine thnF h6 fun _ s7 ⟨x, H7, I7, r7, y7, st7, n7⟩ => ?_
      refine thnF (pg.run _ s7 _ H7 x u _ (I7.pinned (stat I7 n7) (T.obj _ _ st7)) r7 (step x H7 y7)) fun _ s8 ⟨σ8, H8, I8, hw, q8⟩ => thnF (pt.run _ s8 σ8 H8 _ I8 q8) fun b s9 ⟨H9, I9, q9⟩ => ?_
      have fin : ∀ {sq : Shared} {Hq : Hp}, Inv Y ([] ++ pinsAt fp s7.heap) σ8 Hq sq → Nx Hq → ∃ m, m < n ∧ ∃ i Hq, Inv Y [] (wipe σ vs) Hq sq ∧ tn i sq.heap ∧ (∀ b ∈ fp, Hq b = none) ∧ M i m Hq := fun {sq Hq} Iq nx => by
        obtain ⟨m', hm, wq⟩ := hNx Hq nx
        have pin : ∀ b ∈ fp, ∀ o, s7.heap.get? b = some o → sq.heap.get? b = some o ∧ Hq b = none := fun b hb o e =>
          have z := Iq.pin (b, o) (List.mem_append_right _ (List.mem_append_right _ (mem_pinsAt hb e)))
          ⟨z.1, z.2.1⟩
        refine ⟨m', hm, i + 1, Hq, (Iq.unpinned (pins := [])).weak (by rw [show wipe σ vs = wipe σ8 vs from hw.symm, wipe_length]) (fun j v e => (wipe_some (vs := vs) (by rw [hw]; exact e)).1), T.keep _ _ _ st7 fun b hb o e => (pin b hb o e).1, fun b hb => ?_, wq⟩
        obtain ⟨o, e, _⟩ := T.obj _ _ st7 b hb
        exact (pin b hb o e).2
      cases b with
      | false =>
        rw [if_neg Bool.false_ne_true]
        exact fin I9 q9
      | true =>
        rw [if_pos rfl]
        refine thnF (pk.run _ s9 σ8 H9 _ I9 q9) fun z s10 ⟨yk, H10, I10, r10, q10⟩ => ?_
        refine thnF (pe.run _ s10 σ8 H10 _ I10 q10) fun z' s11 ⟨yv, H11, I11, r11, pu⟩ => ?_
        exact put_run (X := Y) hu I11 r10 r11 pu fun H' s' I' nx => fin I' nx
  exact codeAny_compStart_dict loop (T.self X.A 0 _ _ _ stB loop)
theorem pe_dcP (hu : X.A.units + 64 < cLine) (hc : X.calm = true) (hN : X.N.Nodup) (hi : PI X tg iter wi) (ok : BlkOk X.N X.env.scope scope own)
    (hg : ∀ (s : Shared) (H : Hp) (C : Addr) (cl : List (Str × Addr)) (fp : List Addr), PG (X.blk s H scope (compEnvC scope cl C X.env) fp) tg g) (ht : ∀ (s : Shared) (H : Hp) (C : Addr) (cl : List (Str × Addr)) (fp : List Addr), PTs (X.blk s H scope (compEnvC scope cl C X.env) fp) ifs tt)
    (hk : ∀ (s : Shared) (H : Hp) (C : Addr) (cl : List (Str × Addr)) (fp : List Addr), PE (X.blk s H scope (compEnvC scope cl C X.env) fp) kx tk) (he : ∀ (s : Shared) (H : Hp) (C : Addr) (cl : List (Str × Addr)) (fp : List Addr), PE (X.blk s H scope (compEnvC scope cl C X.env) fp) vx tv)
    (hs : ∀ x, foldedSetIterable iter X.env x = pure x := by intro _; rfl) : PE X (.DictComp kx vx [⟨tg, iter, ifs, 0⟩] scope pos) (tDcP X wi g tt tk tv (own.map (·.2))) := by
  refine ⟨fun pins s σ H Q I h => ?_⟩
  rw [arm_eval_DictComp]
  refine dcP_core hu hc hN I hi ok hg ht hk he hs h fun D C s' m H' I' q hn f => ⟨m, hn, fun h'' sb => ?_⟩
  exact ⟨.ref D, H', I'.turned (t' := s'.toks) (fun b o hb e => (sb.2 b hb).trans e) f.1 f.2.1 f.2.2.2.1 f.2.2.2.2.1 f.2.2.2.2.2, rfl, q⟩
theorem ps_setDcP {i : Nat} {y : Str} {py spos : Pos} (hu : X.A.units + 64 < cLine) (hc : X.calm = true) (hN : X.N.Nodup) (hy : X.N[i]? = some y) (hyl : X.env.scope.names.lookup y = some .local) (hsw : swapsWith (.DictComp kx vx [⟨tg, iter, ifs, 0⟩] scope pos) (some (.Name y py)) spos.line X.env = pure true) (hi : PI X tg iter wi) (ok : BlkOk X.N X.env.scope scope own)
    (hg : ∀ (s : Shared) (H : Hp) (C : Addr) (cl : List (Str × Addr)) (fp : List Addr), PG (X.blk s H scope (compEnvC scope cl C X.env) fp) tg g) (ht : ∀ (s : Shared) (H : Hp) (C : Addr) (cl : List (Str × Addr)) (fp : List Addr), PTs (X.blk s H scope (compEnvC scope cl C X.env) fp) ifs tt)
    (hk : ∀ (s : Shared) (H : Hp) (C : Addr) (cl : List (Str × Addr)) (fp : List Addr), PE (X.blk s H scope (compEnvC scope cl C X.env) fp) kx tk) (he : ∀ (s : Shared) (H : Hp) (C : Addr) (cl : List (Str × Addr)) (fp : List Addr), PE (X.blk s H scope (compEnvC scope cl C X.env) fp) vx tv)
    (hs : ∀ x, foldedSetIterable iter X.env x = pure x := by intro _; rfl) : PS X (.Assign [.Name y py] (.DictComp kx vx [⟨tg, iter, ifs, 0⟩] scope pos) spos) (tAsg (tDcP X wi g tt tk tv (own.map (·.2))) (gName i)) := by
  refine ⟨fun pins s σ H D I h => ?_⟩
  rw [exec_Assign_Name_used _ _ _ _ hsw]
  refine wpAny_bind (wpAny_standAt (wpAny_bind ?_))
  show wpAny _ X.A (do let _ ← comprehension (.DictComp kx vx [⟨tg, iter, ifs, 0⟩] scope pos) scope X.env (firstIterPos [⟨tg, iter, ifs, 0⟩] pos) newDict false (eval iter X.env) (some (assign (.Name y py) X.env))) _ _ s
  have h : tDcP X wi g tt tk tv (own.map (·.2)) σ H (fun x H1 => gName i x σ H1 D.nx) := h
  refine wpAny_bind (thn (dcP_core (Qf := fun _ s' => SP X pins D .next s') hu hc hN I hi ok hg ht hk he hs h fun L C s' m H' I' q hn f => ?_) fun _ s' hq => wpAny_pure (wpAny_pure hq))
  show wpAny _ _ (assign (.Name y py) X.env (.ref L)) _ _ _
  refine wpAny_assign_Name (store_ok2 (v := V.ref L) I' hN hy (.inl hyl) rfl (fun s2 I2 ⟨a, sb, ha⟩ => ?_) (.inr hyl))
  obtain ⟨f0, f1, f2, f3, f4, f5⟩ := f
  have haC : C ≠ a := by
    rcases ha with z | z
    · rw [z]; exact f1
    · exact fun e => f4 y a z e.symm
  refine ⟨m, hn.sameBut sb haC, fun h3 sb3 => ?_⟩
  exact ⟨_, H', I2.turned (t' := s2.toks) (fun b o hb e => (sb3.2 b hb).trans e) f0 f1 f3 f4 f5, q⟩
end
section
variable {X : Cx} {W : WN}
def dcLoop (t : Tg) (Gt : GT) (Gk : GE) (Gv : GI) (vs : List Nat) : List PD.D → List (PD.D × Im) → Ms → Option (List (PD.D × Im) × Ms)
  | [], acc, e => some (acc, e)
  | d :: ds, acc, e => match tTG t d e with
    | none => none
    | some e1 => match Gt e1 with
      | some (.ok true e2) => match Gk e2 with
        | some (.ok key e3) => match Gv e3 with
          | some (.ok v e4) => if keyOk key acc = true ∧ acc.length ≤ 100000 then dcLoop t Gt Gk Gv vs ds (putD key v acc) (wipeM e4 vs) else none
          | _ => none
        | _ => none
      | some (.ok false e2) => dcLoop t Gt Gk Gv vs ds acc (wipeM e2 vs)
      | _ => none
def gDc (Gi : GA) (t : Tg) (Gt : GT) (Gk : GE) (Gv : GI) (vs : List Nat) : GI := gB Gi fun items m => (dcLoop t Gt Gk Gv vs items [] (wipeM m vs)).map fun p => .ok (.r p.2.s.length) ⟨back m.e p.2.e vs, p.2.s ++ [.dc p.1]⟩
theorem dc_here {G : Gx} {μ : List Addr} {F : AS} {H : Hp} {a : Addr} {kvs : List (PD.D × Im)} (h : DcR G μ F H a kvs) : ∃ o, H a = some o ∧ Apt o a := by
  have z : ObR G μ F H a (.dc kvs) := h
  obtain ⟨o, e⟩ : ∃ o, H a = some o := h.elim (fun ⟨ls, e, _⟩ => ⟨_, e⟩) fun ⟨xs, e, _⟩ => ⟨_, e⟩
  exact ⟨o, e, z.nt rfl e, fun q w => z.nc rfl q (by rw [e, w])⟩
theorem dc_read {Gi : GA} {t : Tg} {Gt : GT} {Gk : GE} {Gv : GI} {vs : List Nat} {σ : L2.St} {H : Hp} {Q : VK} (sub : ∀ i ∈ t.is, i ∈ vs) (q : tG (ρI (gx X)) X W (gDc Gi t Gt Gk Gv vs) σ H Q) :
    tDcP X (tI X W Gi) (gTG X.K t) (tG ρE X W.b Gt) (tG (ρD X.K) X W.b Gk) (tG (ρI (gx X)) X W.b Gv) vs σ H Q := by
  obtain ⟨Fb, μ, m, r, R, g, k⟩ := q
  unfold gDc at g; replace g := (gB_def _ _ _).symm.trans g
  split at g
  · cases g
  rotate_left
  · rename_i c fs e hg
    cases g
    exact ⟨Fb, μ, m, _, R, hg, k⟩
  rename_i items m0 hg
  try dsimp only at g
  obtain ⟨pf, hl, rfl⟩ := Option.map_eq_some_iff.mp g
  refine ⟨Fb, μ, m, _, R, hg, fun μ1 H1 t1' R1 J wk D hD => ?_⟩
  have np1 : ∀ (n : Nat), μ1[n]? ≠ some D := fun n e => by
    obtain ⟨w, z⟩ := R1.sr.tk n D e
    rw [hD] at z; cases z
  have ap0 : Apt (LfO X.prog X.w D []) D := ⟨nt_ext, fun q z => lf_nc (H := upd H1 D (LfO X.prog X.w D [])) upd_same q (by rw [upd_same, z])⟩
  let Inv' : Nat → Nat → Hp → Prop := fun i n H' => n = items.length - i ∧ i ≤ items.length ∧ ∃ (μ' : List Addr) (acc : List (PD.D × Im)) (e : Ms), dcLoop t Gt Gk Gv vs (items.drop i) acc e = some pf ∧ Nx μ1 m0.s H1 μ' e.s H' ∧ MR (gx X) W.n (Fb' Fb D) μ' H' (L2.wipe σ vs) e ∧ DcR (gx X) μ' (U (Lo μ' e.s) (Fb' Fb D)) H' D acc
  refine ⟨Inv', ⟨_, rfl, Nat.zero_le _, μ1, [], wipeM m0 vs, hl, Nx.grow (upd_grow hD), (R1.guard hD ap0).wipe vs, .inl ⟨[], upd_same, .nil⟩⟩, ?_⟩
  rintro i n H' ⟨rfl, hi, μ', acc, e, hl', t', R', hDc⟩
  have mvW : Mv (U (Lo μ1 m0.s) Fb) H1 (U (Lo μ' e.s) (Fb' Fb D)) H' := fun a o n ea nt => by
    obtain ⟨e1, n1⟩ := t'.tr.at_ ea nt fun z => n (.inl z)
    exact ⟨fun z => z.elim n1 fun z => z.elim (fun z => n (.inr z)) (ne_of_none ea hD), e1⟩
  obtain ⟨go, stop⟩ := wk _ H' mvW (fun a h => R'.sr.trk h)
  by_cases hlt : i < items.length
  · refine .inr ?_
    have hd : items[i]? = some items[i] := by simp [hlt]
    obtain ⟨g1, g2⟩ := go i _ hd
    rw [List.drop_eq_getElem_cons hlt] at hl'
    unfold dcLoop at hl'
    refine ⟨g1, fun H'' => Inv' (i + 1) (items.length - (i + 1)) H'', fun H'' z => ⟨items.length - (i + 1), by omega, z⟩, fun x H3 y => ?_⟩
    obtain ⟨gr, dx⟩ := g2 x H3 y
    have R3 := R'.grow gr
    have t3 := t'.trans (Nx.grow (μ := μ') (S := e.s) gr)
    have hc3 := hDc.mv (fun _ _ h => h) (mv_grow (F := U (Lo μ' e.s) (Fb' Fb D)) gr) (fun o e => gr D o e)
    split at hl'
    · cases hl'
    rename_i e1 he1
    have es : e1.s = e.s := tTG_s he1
    refine gTG_read R3 dx he1 fun σ4 st4 R4 => ?_
    have wp := st4.wipe sub
    refine ⟨wp, ?_⟩
    have hc4 : DcR (gx X) μ' (U (Lo μ' e1.s) (Fb' Fb D)) H3 D acc := es ▸ hc3
    obtain ⟨oD, eD, apD⟩ := dc_here hc4
    have nD : ∀ {μ5 : List Addr} {e5 : Ms} {H5 : Hp}, Nx μ' e1.s H3 μ5 e5.s H5 → DcR (gx X) μ5 (U (Lo μ5 e5.s) (Fb' Fb D)) H5 D acc := fun n5 => hc4.mv n5.pre n5.mv fun o e => by
      rw [eD] at e
      cases e
      exact (n5.tr.at_ eD apD.1 fun z => R4.sr.dis D z (.inr rfl)).1
    have t3' : Nx μ1 m0.s H1 μ' e1.s H3 := es ▸ t3
    split at hl'
    · rename_i e2 ht
      refine ⟨_, μ', e1, _, R4, ht, fun μ5 H5 t5 R5 b hb => ?_⟩
      subst hb
      rw [if_pos rfl]
      split at hl'
      rotate_left
      · cases hl'
      rename_i key e3 hk
      split at hl'
      rotate_left
      · cases hl'
      rename_i v e4 hv
      split at hl'
      rotate_left
      · cases hl'
      rename_i hko
      refine ⟨_, μ5, e2, _, R5, hk, fun μ6 H6 t6 R6 yk hyk => ?_⟩
      refine ⟨_, μ6, e3, _, R6, hv, fun μ7 H7 t7 R7 yv hyv => ?_⟩
      have tt := (t5.trans t6).trans t7
      have hc7 := nD tt
      refine ⟨μ7, _, acc, key, v, hc7, hyk.mv t7.mv, hko.1, hko.2, hyv, fun u hu => ?_⟩
      obtain ⟨o7, e7, ap7⟩ := dc_here hc7
      have mz : Mv (U (Lo μ7 e4.s) (Fb' Fb D)) H7 (U (Lo μ7 e4.s) (Fb' Fb D)) (upd H7 D u) := fun a o n e _ => ⟨n, by rw [upd_ne fun z => n (.inr (.inr z))]; exact e⟩
      have dz : ObR (gx X) μ7 (U (Lo μ7 e4.s) (Fb' Fb D)) (upd H7 D u) D (.dc (putD key v acc)) := hu _ _ _ (fun _ _ h => h) mz upd_same
      obtain ⟨R8, m8⟩ := guard_write (u := u) R7 e7 ap7.1 (fun q w => ap7.2 q (Option.some.inj (e7.symm.trans w))) ⟨dz.nt rfl upd_same, fun q z => dz.nc rfl q (by rw [upd_same, z])⟩
      refine ⟨rfl, hlt, μ7, putD key v acc, wipeM e4 vs, hl', ?_, ?_, dz⟩
      · have n6 := t3'.trans tt
        exact ⟨n6.pre, fun a o ea na => (let ⟨⟨o', e', k'⟩, n'⟩ := n6.tr a o ea na; ⟨⟨o', by rw [upd_ne (ne_of_none ea hD)]; exact e', k'⟩, n'⟩)⟩
      · have R9 := R8.wipe vs
        rw [wp] at R9
        exact R9
    · rename_i e2 ht
      refine ⟨_, μ', e1, _, R4, ht, fun μ5 H5 t5 R5 b hb => ?_⟩
      subst hb
      rw [if_neg Bool.false_ne_true]
      have R8 := R5.wipe vs
      rw [wp] at R8
      exact ⟨rfl, hlt, μ5, acc, wipeM e2 vs, hl', t3'.trans t5, R8, nD t5⟩
    · cases hl'
  · have ei : i = items.length := by omega
    subst ei
    rw [List.drop_length] at hl'
    unfold dcLoop at hl'
    cases hl'
    refine .inl ⟨stop, ?_⟩
    have RB := R1.back R' t'.pre mvW
    have nf : ¬ Fb D := fun z => R1.sr.free hD (.inr z)
    have np : ∀ (n : Nat), μ'[n]? ≠ some D := fun n e => R'.sr.nf n D e (.inr rfl)
    have old : ∀ o, H D = some o → ¬ Lo μ m.s D → False := fun o ea na => by
      obtain ⟨⟨o', e', _⟩, _⟩ := t1'.tr D o ea na
      rw [hD] at e'; cases e'
    obtain ⟨R2, mv⟩ := RB.sr.adopt nf (o := .dc acc) rfl (fun mv => DcR.mv (fun _ _ h => snoc_old h) mv hDc (fun o e => e)) np
    refine k (μ' ++ [D]) H' ((t1'.trans t').adopt R'.sr.ml old) ⟨R2, RB.len, fun i x e => ?_⟩ (.ref D) ⟨D, rfl, ?_⟩
    · obtain ⟨v, e1, h⟩ := RB.sl i x e
      exact ⟨v, e1, h.mv (fun _ _ h => snoc_old h) mv⟩
    · rw [← R'.sr.ml, List.getElem?_append_right (Nat.le_refl _), Nat.sub_self]
      rfl
theorem pmi_dc {kx vx tg iter : Expr} {ifs : List Expr} {scope : Scope} {own : List (Str × Nat)} {pos : Pos} {Gi : GA} {t : Tg} {Gt : GT} {Gk : GE} {Gv : GI} (hu : X.A.units + 64 < cLine) (hc : X.calm = true) (hN : X.N.Nodup) (hi : PMI' X W tg iter Gi) (ok : BlkOk X.N X.env.scope scope own)
    (hg : ∀ (s : Shared) (H : Hp) (C : Addr) (cl : List (Str × Addr)) (fp : List Addr), PG (X.blk s H scope (compEnvC scope cl C X.env) fp) tg (gTG X.K t)) (ht : ∀ (s : Shared) (H : Hp) (C : Addr) (cl : List (Str × Addr)) (fp : List Addr), PMTs (X.blk s H scope (compEnvC scope cl C X.env) fp) W.b ifs Gt)
    (hk : ∀ (s : Shared) (H : Hp) (C : Addr) (cl : List (Str × Addr)) (fp : List Addr), PMD (X.blk s H scope (compEnvC scope cl C X.env) fp) W.b kx Gk) (he : ∀ (s : Shared) (H : Hp) (C : Addr) (cl : List (Str × Addr)) (fp : List Addr), PMI (X.blk s H scope (compEnvC scope cl C X.env) fp) W.b vx Gv)
    (sub : ∀ i ∈ t.is, i ∈ own.map (·.2)) (hs : ∀ x, foldedSetIterable iter X.env x = pure x := by intro _; rfl) : PMI X W (.DictComp kx vx [⟨tg, iter, ifs, 0⟩] scope pos) (gDc Gi t Gt Gk Gv (own.map (·.2))) :=
  ⟨PE.wk (pe_dcP hu hc hN hi.pi ok hg (fun s H C cl fp => (ht s H C cl fp).pts) (fun s H C cl fp => (hk s H C cl fp).pe) (fun s H C cl fp => (he s H C cl fp).pe) hs) fun σ H Q q => dc_read sub q⟩
theorem pms_asgDc {i : Nat} {y : Str} {py spos : Pos} {kx vx tg iter : Expr} {ifs : List Expr} {scope : Scope} {own : List (Str × Nat)} {pos : Pos} {Gi : GA} {t : Tg} {Gt : GT} {Gk : GE} {Gv : GI} (hu : X.A.units + 64 < cLine) (hc : X.calm = true) (hN : X.N.Nodup) (hy : X.N[i]? = some y) (hyl : X.env.scope.names.lookup y = some .local) (hsw : swapsWith (.DictComp kx vx [⟨tg, iter, ifs, 0⟩] scope pos) (some (.Name y py)) spos.line X.env = pure true) (hi : PMI' X W tg iter Gi) (ok : BlkOk X.N X.env.scope scope own)
    (hg : ∀ (s : Shared) (H : Hp) (C : Addr) (cl : List (Str × Addr)) (fp : List Addr), PG (X.blk s H scope (compEnvC scope cl C X.env) fp) tg (gTG X.K t)) (ht : ∀ (s : Shared) (H : Hp) (C : Addr) (cl : List (Str × Addr)) (fp : List Addr), PMTs (X.blk s H scope (compEnvC scope cl C X.env) fp) W.b ifs Gt)
    (hk : ∀ (s : Shared) (H : Hp) (C : Addr) (cl : List (Str × Addr)) (fp : List Addr), PMD (X.blk s H scope (compEnvC scope cl C X.env) fp) W.b kx Gk) (he : ∀ (s : Shared) (H : Hp) (C : Addr) (cl : List (Str × Addr)) (fp : List Addr), PMI (X.blk s H scope (compEnvC scope cl C X.env) fp) W.b vx Gv)
    (sub : ∀ i ∈ t.is, i ∈ own.map (·.2)) (hs : ∀ x, foldedSetIterable iter X.env x = pure x := by intro _; rfl) : PMS X W (.Assign [.Name y py] (.DictComp kx vx [⟨tg, iter, ifs, 0⟩] scope pos) spos) (gAsg i (gDc Gi t Gt Gk Gv (own.map (·.2)))) :=
  ⟨PS.wk (ps_setDcP hu hc hN hy hyl hsw hi.pi ok hg (fun s H C cl fp => (ht s H C cl fp).pts) (fun s H C cl fp => (hk s H C cl fp).pe) (fun s H C cl fp => (he s H C cl fp).pe) hs) fun D σ H q => dc_read sub ((tS.after (ρ := ρI (gx X)) q).mono fun v H1 z => by
    obtain ⟨d, Fb, μ, m, r, hv, R, g, k⟩ := z
    rw [setIK_eq] at g; cases g
    exact k _ μ H1 (Nx.refl _ _ _) (R.put hv))⟩
end
end PM
namespace PM
open PySem PySem.Spec PyProof.Rows L2
open PD (D AS Fr0 U Dn DnA Mv ExIs All2 NT nt_lst nt_tup nt_xd nt_ext nt_rng mv_grow upd_grow sz RCd)
/-! ### built-ins by name -/
theorem un_of {k : Nat} {A : Around} (h : Room k A) : A.units + 64 < cLine := by have := h.un; omega
def isInts : List PD.D → Option (List Int)
  | [] => some []
  | .int n :: r => (isInts r).map (n :: ·)
  | _ => none
theorem isInts_dn {K : Fr0} {F : AS} {H : Hp} : ∀ {ds : List PD.D} {ns : List Int} {vs : List V}, DnA K F H vs ds → isInts ds = some ns → vs = ns.map V.int ∧ ds = ns.map PyData.int
  | [], ns, vs, h, e => by cases h; cases e; exact ⟨rfl, rfl⟩
  | d :: ds, ns, vs, h, e => by
    cases h with
    | cons h1 h2 =>
      cases d with
      | int n =>
        obtain ⟨ms, e1, rfl⟩ := Option.map_eq_some_iff.mp (show (isInts ds).map (n :: ·) = some ns from e)
        obtain ⟨a, b⟩ := isInts_dn h2 e1
        cases h1
        exact ⟨by rw [a]; rfl, by rw [b]; rfl⟩
      | _ => cases e
theorem ints_dn {K : Fr0} {F : AS} {H : Hp} : ∀ ns : List Int, DnA K F H (ns.map V.int) (ns.map PyData.int)
  | [] => .nil
  | n :: ns => .cons (.int n) (ints_dn ns)
def insI (k : Int) : List Int → List Int
  | [] => [k]
  | x :: xs => if k ≤ x then k :: x :: xs else x :: insI k xs
def sortI : List Int → List Int
  | [] => []
  | x :: xs => insI x (sortI xs)
theorem insI_perm (k : Int) : ∀ l : List Int, (insI k l).Perm (k :: l)
  | [] => List.Perm.refl _
  | x :: xs => by
    unfold insI
    split
    · exact List.Perm.refl _
    · exact ((insI_perm k xs).cons x).trans (List.Perm.swap k x xs)
theorem sortI_perm : ∀ l : List Int, (sortI l).Perm l
  | [] => List.Perm.refl _
  | x :: xs => (insI_perm x (sortI xs)).trans ((sortI_perm xs).cons x)
theorem insI_pw (k : Int) : ∀ {l : List Int}, l.Pairwise (· ≤ ·) → (insI k l).Pairwise (· ≤ ·)
  | [], _ => by simp [insI]
  | x :: xs, h => by
    obtain ⟨h1, h2⟩ := List.pairwise_cons.mp h
    unfold insI
    split
    · rename_i hk
      exact List.pairwise_cons.mpr ⟨fun y hy => by
        rcases List.mem_cons.mp hy with z | z
        · rw [z]; exact hk
        · exact Int.le_trans hk (h1 y z), h⟩
    · rename_i hk
      refine List.pairwise_cons.mpr ⟨fun y hy => ?_, insI_pw k h2⟩
      rcases List.mem_cons.mp ((insI_perm k xs).mem_iff.mp hy) with z | z
      · rw [z]; omega
      · exact h1 y z
theorem sortI_pw : ∀ l : List Int, (sortI l).Pairwise (· ≤ ·)
  | [] => List.Pairwise.nil
  | x :: xs => insI_pw x (sortI_pw xs)
def dSortI : List PD.D → Option PD.D
  | [.list ds] => (isInts ds).map fun ns => .list ((sortI ns).map .int)
  | _ => none
theorem rc_sortI {K : Fr0} : RCd K (rSortedI K) dSortI := ⟨by
  intro F H xs ds z Q hx hz hf k
  unfold dSortI at hz
  split at hz
  · rename_i es
    obtain ⟨ns, h1, rfl⟩ := Option.map_eq_some_iff.mp hz
    obtain ⟨v, rfl, h⟩ := hx.one
    obtain ⟨a, vs, rfl, na, ha, da⟩ := h.lstInv
    obtain ⟨e1, e2⟩ := isInts_dn da h1
    subst e1
    refine ⟨a, ns, rfl, SqL.of ha, fun ns' p hp hs hn => ?_⟩
    have e : ns' = sortI ns := List.Perm.eq_of_pairwise (le := (· ≤ ·)) (fun a b _ _ h1 h2 => Int.le_antisymm h1 h2) hs (sortI_pw ns) (hp.trans (sortI_perm ns).symm)
    subst e
    exact k _ _ (upd_grow hn) (.lst (hf p hn) upd_same (ints_dn _))
  · cases hz⟩
def dSum : List PD.D → Option PD.D
  | [.list ds] => (isInts ds).map fun ns => .int ns.sum
  | _ => none
theorem rc_sum {K : Fr0} : RCd K (rSum K) dSum := ⟨by
  intro F H xs ds z Q hx hz hf k
  unfold dSum at hz
  split at hz
  · rename_i es
    obtain ⟨ns, h1, rfl⟩ := Option.map_eq_some_iff.mp hz
    obtain ⟨v, rfl, h⟩ := hx.one
    obtain ⟨a, vs, rfl, na, ha, da⟩ := h.lstInv
    obtain ⟨e1, e2⟩ := isInts_dn da h1
    subst e1
    exact ⟨a, ns, rfl, SqL.of ha, k _ _ (fun _ _ e => e) (.int _)⟩
  · cases hz⟩
section
variable {X : Cx} {W : WN} {k : Nat} {e e2 : Expr} {G : GA} {p pos : Pos}
theorem pm_abs (hm : X.mg "abs" = none) (ha : PMA X W [e] G) (hg : Gl X "abs" := by rfl) (hs : starEach [e] X.env = (false, eval e X.env) :: starEach [] X.env := by rfl) (hpl : (backTo pos (starEach [] X.env)).any (·.1) = false := by rfl) : PMD X W (.Call (.Name "abs" p) [e] [] pos) (gCall PD.dAbs G) := pm_cb call_abs PD.rc_abs hg hm (by decide +kernel) ha (by decide) (by decide) hs hpl
theorem pm_int1 (hm : X.mg "int" = none) (ha : PMA X W [e] G) (hg : Gl X "int" := by rfl) (hs : starEach [e] X.env = (false, eval e X.env) :: starEach [] X.env := by rfl) (hpl : (backTo pos (starEach [] X.env)).any (·.1) = false := by rfl) : PMD X W (.Call (.Name "int" p) [e] [] pos) (gCall PD.dToInt G) := pm_ct call_int1 PD.rc_int hg hm (by decide +kernel) ha (by decide) (by decide) hs hpl
theorem pm_tuple (hm : X.mg "tuple" = none) (ha : PMA X W [e] G) (hg : Gl X "tuple" := by rfl) (hs : starEach [e] X.env = (false, eval e X.env) :: starEach [] X.env := by rfl) (hpl : (backTo pos (starEach [] X.env)).any (·.1) = false := by rfl) : PMD X W (.Call (.Name "tuple" p) [e] [] pos) (gCall PD.dToTup G) := pm_ct call_tuple_of PD.rc_tuple hg hm (by decide +kernel) ha (by decide) (by decide) hs hpl
theorem pm_all (hc : X.calm = true) (hm : X.mg "all" = none) (ha : PMA X W [e] G) (hg : Gl X "all" := by rfl) (hs : starEach [e] X.env = (false, eval e X.env) :: starEach [] X.env := by rfl) (hpl : (backTo pos (starEach [] X.env)).any (·.1) = false := by rfl) : PMD X W (.Call (.Name "all" p) [e] [] pos) (gCall PD.dAll G) := pm_cb (cr_all hc) PD.rc_all hg hm (by decide +kernel) ha (by decide) (by decide) hs hpl
theorem pm_any (hc : X.calm = true) (hm : X.mg "any" = none) (ha : PMA X W [e] G) (hg : Gl X "any" := by rfl) (hs : starEach [e] X.env = (false, eval e X.env) :: starEach [] X.env := by rfl) (hpl : (backTo pos (starEach [] X.env)).any (·.1) = false := by rfl) : PMD X W (.Call (.Name "any" p) [e] [] pos) (gCall PD.dAny G) := pm_cb (cr_any hc) PD.rc_any hg hm (by decide +kernel) ha (by decide) (by decide) hs hpl
theorem pm_sum (hc : X.calm = true) (hm : X.mg "sum" = none) (ha : PMA X W [e] G) (hg : Gl X "sum" := by rfl) (hs : starEach [e] X.env = (false, eval e X.env) :: starEach [] X.env := by rfl) (hpl : (backTo pos (starEach [] X.env)).any (·.1) = false := by rfl) : PMD X W (.Call (.Name "sum" p) [e] [] pos) (gCall dSum G) := pm_cb (cr_sum hc) rc_sum hg hm (by decide +kernel) ha (by decide) (by decide) hs hpl
theorem pm_sortI (hm : X.mg "sorted" = none) (ha : PMA X W [e] G) (hg : Gl X "sorted" := by rfl) (hs : starEach [e] X.env = (false, eval e X.env) :: starEach [] X.env := by rfl) (hpl : (backTo pos (starEach [] X.env)).any (·.1) = false := by rfl) : PMD X W (.Call (.Name "sorted" p) [e] [] pos) (gCall dSortI G) := pm_cb cr_sortedI rc_sortI hg hm (by decide +kernel) ha (by decide) (by decide) hs hpl
theorem pm_max2 (hc : X.calm = true) (hm : X.mg "max" = none) (ha : PMA X W [e, e2] G) (hg : Gl X "max" := by rfl) (hs : starEach [e, e2] X.env = (false, eval e X.env) :: starEach [e2] X.env := by rfl) (hpl : (backTo pos (starEach [e2] X.env)).any (·.1) = false := by rfl) : PMD X W (.Call (.Name "max" p) [e, e2] [] pos) (gCall PD.dMax G) := pm_cb (call_max2 hc) PD.rc_max hg hm (by decide +kernel) ha (by decide) (by decide) hs hpl
theorem pm_min2 (hc : X.calm = true) (hm : X.mg "min" = none) (ha : PMA X W [e, e2] G) (hg : Gl X "min" := by rfl) (hs : starEach [e, e2] X.env = (false, eval e X.env) :: starEach [e2] X.env := by rfl) (hpl : (backTo pos (starEach [e2] X.env)).any (·.1) = false := by rfl) : PMD X W (.Call (.Name "min" p) [e, e2] [] pos) (gCall PD.dMin G) := pm_cb (call_min2 hc) PD.rc_min hg hm (by decide +kernel) ha (by decide) (by decide) hs hpl
theorem pm_len {G : GI} (hm : X.mg "len" = none) (h : PMI X W e G) (hg : Gl X "len" := by rfl) (hs : starEach [e] X.env = (false, eval e X.env) :: starEach [] X.env := by rfl) (hpl : (backTo pos (starEach [] X.env)).any (·.1) = false := by rfl) : PMD X W (.Call (.Name "len" p) [e] [] pos) (gLen G) := pm_lenI h hg hm (by decide +kernel) (by decide) (by decide) hs hpl
end
end PM
namespace PM
open PySem PySem.Spec PyProof.Rows L2
open PD (D AS Fr0 U Dn DnA Mv ExIs All2 NT nt_lst nt_tup nt_xd nt_ext nt_rng mv_grow upd_grow sz RCd)
/-! ### a nested def with cells of its own besides those it takes -/
abbrev cellObj : Obj := { cls := .type "cell", data := .cell none }
theorem push_cell {h : Heap} {o : Obj} {b : Addr} {u : Obj} (e : h.get? b = some u) : (h.push o).get? b = some u := Heap.get?_push_of_some _ e
theorem cf_look : ∀ (names : List (Str × NameKind)) (h : Heap) (acc : List (Str × Addr)) (x : Str) (c : Addr), (cellsFrom h.objs.size names acc).lookup x = some c →
    acc.lookup x = some c ∨ ((x, NameKind.cell) ∈ names ∧ h.objs.size ≤ c ∧ (pushCells h names).IsCell c none)
  | [], h, acc, x, c, e => by rw [cellsFrom.eq_def] at e; exact .inl e
  | (y, k) :: r, h, acc, x, c, e => by
    rw [cellsFrom.eq_def] at e
    dsimp only at e
    by_cases hk : (k == NameKind.cell) = true
    · rw [if_pos hk] at e
      have ek : k = NameKind.cell := by simpa using hk
      subst ek
      have sz : (h.push cellObj).objs.size = h.objs.size + 1 := Heap.size_push _ _
      rw [← sz] at e
      rw [pushCells.eq_def]
      dsimp only
      rw [if_pos hk]
      rcases cf_look r (h.push cellObj) ((y, h.objs.size) :: acc) x c e with e1 | ⟨m, l, q⟩
      · rw [List.lookup_cons] at e1
        split at e1
        · rename_i z
          have z2 : x = y := by simpa using z
          subst z2
          cases e1
          exact .inr ⟨List.mem_cons_self, Nat.le_refl _, cellObj, pushCells_keeps _ _ _ _ (Heap.get?_push_size _ rfl), rfl⟩
        · exact .inl e1
      · exact .inr ⟨List.mem_cons_of_mem _ m, Nat.le_trans (by rw [sz]; exact Nat.le_succ _) l, q⟩
    · rw [if_neg hk] at e
      rw [pushCells.eq_def]
      dsimp only
      rw [if_neg hk]
      rcases cf_look r h acc x c e with e1 | ⟨m, l, q⟩
      · exact .inl e1
      · exact .inr ⟨List.mem_cons_of_mem _ m, l, q⟩
theorem cf_own : ∀ (names : List (Str × NameKind)) (h : Heap) (acc : List (Str × Addr)) (x : Str) (c : Addr), (x, NameKind.cell) ∈ names → (cellsFrom h.objs.size names acc).lookup x = some c → h.objs.size ≤ c
  | [], h, acc, x, c, m, e => by cases m
  | (y, k) :: r, h, acc, x, c, m, e => by
    rw [cellsFrom.eq_def] at e
    dsimp only at e
    by_cases hk : (k == NameKind.cell) = true
    · rw [if_pos hk] at e
      have sz : (h.push cellObj).objs.size = h.objs.size + 1 := Heap.size_push _ _
      rw [← sz] at e
      rcases cf_look r (h.push cellObj) ((y, h.objs.size) :: acc) x c e with e1 | ⟨m2, l, q⟩
      · rw [List.lookup_cons] at e1
        split at e1
        · cases e1
          exact Nat.le_refl _
        · rename_i z
          rcases List.mem_cons.mp m with w | w
          · cases w
            simp at z
          · have := cf_own r (h.push cellObj) ((y, h.objs.size) :: acc) x c w e
            rw [sz] at this
            exact Nat.le_trans (Nat.le_succ _) this
      · rw [sz] at l
        exact Nat.le_trans (Nat.le_succ _) l
    · rw [if_neg hk] at e
      rcases List.mem_cons.mp m with w | w
      · cases w
        simp at hk
      · exact cf_own r h acc x c w e
theorem cf_free : ∀ (names : List (Str × NameKind)) (n : Nat) (acc : List (Str × Addr)) (x : Str), (x, NameKind.cell) ∉ names → (cellsFrom n names acc).lookup x = acc.lookup x
  | [], n, acc, x, m => by rw [cellsFrom.eq_def]
  | (y, k) :: r, n, acc, x, m => by
    rw [cellsFrom.eq_def]
    dsimp only
    have mr : (x, NameKind.cell) ∉ r := fun z => m (List.mem_cons_of_mem _ z)
    by_cases hk : (k == NameKind.cell) = true
    · rw [if_pos hk, cf_free r _ _ x mr, List.lookup_cons]
      have ek : k = NameKind.cell := by simpa using hk
      subst ek
      split
      · rename_i z
        have z2 : x = y := by simpa using z
        subst z2
        exact (m List.mem_cons_self).elim
      · rfl
    · rw [if_neg hk, cf_free r _ _ x mr]
theorem cf_inj : ∀ (names : List (Str × NameKind)) (h : Heap) (acc : List (Str × Addr)), (∀ x c, acc.lookup x = some c → c < h.objs.size) → (∀ x y c, acc.lookup x = some c → acc.lookup y = some c → x = y) →
    ∀ x y c, (cellsFrom h.objs.size names acc).lookup x = some c → (cellsFrom h.objs.size names acc).lookup y = some c → x = y
  | [], h, acc, hb, hi, x, y, c, e1, e2 => by
    rw [cellsFrom.eq_def] at e1 e2
    exact hi x y c e1 e2
  | (z, k) :: r, h, acc, hb, hi, x, y, c, e1, e2 => by
    rw [cellsFrom.eq_def] at e1 e2
    dsimp only at e1 e2
    by_cases hk : (k == NameKind.cell) = true
    · rw [if_pos hk] at e1 e2
      have sz : (h.push cellObj).objs.size = h.objs.size + 1 := Heap.size_push _ _
      rw [← sz] at e1 e2
      refine cf_inj r (h.push cellObj) ((z, h.objs.size) :: acc) (fun a b q => ?_) (fun a b d q1 q2 => ?_) x y c e1 e2
      · rw [List.lookup_cons] at q
        rw [sz]
        split at q
        · cases q; exact Nat.lt_succ_self _
        · exact Nat.lt_succ_of_lt (hb a b q)
      · rw [List.lookup_cons] at q1 q2
        split at q1
        · rename_i za
          split at q2
          · rename_i zb
            have w1 : a = z := by simpa using za
            have w2 : b = z := by simpa using zb
            rw [w1, w2]
          · cases q1
            exact absurd (hb b _ q2) (Nat.lt_irrefl _)
        · split at q2
          · cases q2
            exact absurd (hb a _ q1) (Nat.lt_irrefl _)
          · exact hi a b d q1 q2
    · rw [if_neg hk] at e1 e2
      exact cf_inj r h acc hb hi x y c e1 e2
structure MScope (N ps fr : List Str) (sc : Scope) : Prop where
  kind : sc.kind = .function
  co : sc.isCoroutine = false
  gen : sc.isGenerator = false
  nd : N.Nodup
  pre : N.take (ps.length + fr.length) = ps ++ fr
  par : ∀ x ∈ ps, sc.names.lookup x = some .local ∨ sc.names.lookup x = some .cell
  frk : ∀ x ∈ fr, sc.names.lookup x = some .free
  free : ∀ y ∈ sc.names, y.2 = .free → y.1 ∈ fr
  uniq : ∀ y ∈ sc.names, sc.names.lookup y.1 = some y.2
abbrev menv (F : NdefX.NF) (f L : Addr) : Env := PySem.W.envX F.qual F.scope L f (.ref F.c) (cellsFrom (L + 1) F.scope.names F.cl)
def mcx (CX : CXT) (P : Program) (w : World) (K : Fr0) (mg : Str → Option Value) (base : Heap) (N : List Str) (F : NdefX.NF) (f : Addr) (A : Around) (outer : List Env) (s : Shared) (H : Hp) (E : XK) : Cx :=
  { prog := P, w := w, K := K, mg := mg, base := base, A := A.deeper (menv F f s.heap.objs.size), N := N, s_0 := s, H_0 := H, env := menv F f s.heap.objs.size, outer := outer,
    stack := menv F f s.heap.objs.size :: outer, ex := [], fn := fun x => F.scope.names.lookup x == some .cell, calm := true, pn := [], xe := fun e s' =>
      wpAny (model P w) (A.deeper (menv F f s.heap.objs.size)) (leaving (menv F f s.heap.objs.size) e) (fun x s'' => CX outer H s E e s'') (fun e' s'' => CX outer H s E e' s'') s' }
theorem look_mem' {x : Str} {k : NameKind} : ∀ {l : List (Str × NameKind)}, l.lookup x = some k → (x, k) ∈ l
  | (y, a) :: l, e => by
    rw [List.lookup_cons] at e
    split at e
    · rename_i z
      have z2 : x = y := by simpa using z
      subst z2
      cases e
      exact List.mem_cons_self
    · exact List.mem_cons_of_mem _ (look_mem' e)
section
variable {CX : CXT} {P : Program} {w : World} {K : Fr0} {mg : Str → Option Value} {base : Heap} {N ps fr : List Str} {F : NdefX.NF} {f : Addr} {A : Around} {outer : List Env} {s : Shared} {H : Hp} {E : XK} {ws : List (Option V)}
theorem m_start (S : MScope N ps fr F.scope) (hd : A.handled = none) (e0 : Env0 P w K mg base A outer s H) (hc : NdefX.CellsAt F.cl fr ws s.heap H) (hln : ps.length + fr.length ≤ N.length) :
    Inv (mcx CX P w K mg base N F f A outer s H E) [] (List.replicate ps.length none ++ (ws ++ List.replicate (N.length - ps.length - ws.length) none)) H { s with heap := pushCells (s.heap.push { cls := .type "frame", data := .dict #[] }) F.scope.names } := by
  have sz : (s.heap.push { cls := .type "frame", data := .dict #[] }).objs.size = s.heap.objs.size + 1 := Heap.size_push _ _
  have kp : ∀ {b : Addr} {o : Obj}, s.heap.get? b = some o → (pushCells (s.heap.push { cls := .type "frame", data := .dict #[] }) F.scope.names).get? b = some o := fun e => pushCells_keeps _ _ _ _ (Heap.get?_push_of_some _ e)
  have clb : ∀ x c, F.cl.lookup x = some c → c < s.heap.objs.size := fun x c e => by
    obtain ⟨_, v, o, g, _⟩ := hc.all x c e
    exact Heap.lt_size g
  have look : ∀ {x : Str} {c : Addr}, (cellsFrom (s.heap.objs.size + 1) F.scope.names F.cl).lookup x = some c → F.cl.lookup x = some c ∨ ((x, NameKind.cell) ∈ F.scope.names ∧ s.heap.objs.size + 1 ≤ c ∧ (pushCells (s.heap.push { cls := .type "frame", data := .dict #[] }) F.scope.names).IsCell c none) := fun {x c} e => by
    have z := cf_look F.scope.names (s.heap.push { cls := .type "frame", data := .dict #[] }) F.cl x c (by rw [sz]; exact e)
    rw [sz] at z
    exact z
  have inF : ∀ {x : Str}, F.scope.names.lookup x = some .free → x ∈ fr := fun e => S.free _ (look_mem' e) rfl
  refine ⟨⟨e0.mod, S.kind, rfl, rfl, Nat.le_refl _, fun x y c e1 e2 => ?_, fun x hx => ?_, fun x c hf e => ?_, fun _ => hd, ?_, .inr ⟨rfl, rfl⟩, fun b hb => (by cases hb), e0.bs, e0.bsz, fun b o e z => (by cases z), fun b hb => (by cases hb), e0.funs, e0.frf⟩, rfl, e0.bare, ?_, ⟨fun _ => none, ?_, fun i x v hN hσ hV => ?_⟩, fun x c e => ?_, e0.hok.fresh (Nat.le_refl _), fun x c e => ?_, fun p hp => (by cases hp), fun b o e => ?_, ?_⟩
  · have e1 : (cellsFrom (s.heap.objs.size + 1) F.scope.names F.cl).lookup x = some c := e1
    have e2 : (cellsFrom (s.heap.objs.size + 1) F.scope.names F.cl).lookup y = some c := e2
    rw [← sz] at e1 e2
    exact cf_inj _ _ _ (fun x c e => by rw [sz]; exact Nat.lt_succ_of_lt (clb x c e)) hc.inj x y c e1 e2
  · have := PySem.W.cellsFrom_some F.scope.names (s.heap.objs.size + 1) F.cl (x := x) (hx.elim (fun z => .inl z) fun z => .inr (by
      obtain ⟨j, hj⟩ := List.mem_iff_getElem?.mp (inF z)
      obtain ⟨c, e, _⟩ := hc.has j x hj
      rw [e]; rfl))
    obtain ⟨c, e⟩ := Option.isSome_iff_exists.mp this
    exact ⟨c, e⟩
  · have hf : (F.scope.names.lookup x == some .cell) = true := hf
    have e : (cellsFrom (s.heap.objs.size + 1) F.scope.names F.cl).lookup x = some c := e
    rw [← sz] at e
    have := cf_own _ _ _ x c (look_mem' (by simpa using hf)) e
    rw [sz] at this
    exact Nat.le_of_succ_le this
  · show (A.deeper _).frames = _
    simp [Around.deeper, e0.frames]
    rfl
  · exact ⟨fun b o e _ _ _ => kp e, fun b o e _ _ _ => ⟨o.slots, kp e⟩, fun b o e n _ => n, fun b o e _ => ⟨o, kp e⟩, fun b xs e => e, fun b o v e => e, fun b ps e => ⟨#[], by have e : H b = some (.tbl ps) := e; simpa using e⟩⟩
  · exact (Heap.Ns.new s.heap _).keeps fun b o e => pushCells_keeps _ _ _ _ e
  · have hN : N[i]? = some x := hN
    have lw : ws.length = fr.length := hc.len
    have hi : i < ps.length + fr.length ∧ ps.length ≤ i ∧ ws[i - ps.length]? = some (some v) := by
      by_cases h1 : i < ps.length
      · rw [List.getElem?_append_left (by simpa using h1), List.getElem?_replicate] at hσ
        split at hσ <;> cases hσ
      · rw [List.getElem?_append_right (by simpa using h1), List.length_replicate] at hσ
        by_cases h2 : i - ps.length < ws.length
        · rw [List.getElem?_append_left h2] at hσ
          exact ⟨by omega, by omega, hσ⟩
        · rw [List.getElem?_append_right (by omega), List.getElem?_replicate] at hσ
          split at hσ <;> cases hσ
    have hx : fr[i - ps.length]? = some x := by
      have z : (N.take (ps.length + fr.length))[i]? = some x := by rw [List.getElem?_take_of_lt hi.1]; exact hN
      rw [S.pre, List.getElem?_append_right hi.2.1] at z
      exact z
    obtain ⟨c, e, q⟩ := hc.has _ x hx
    obtain ⟨u, r, o, g, d⟩ := q v hi.2.2
    have fx := S.frk x (List.mem_of_getElem? hx)
    have nc : (x, NameKind.cell) ∉ F.scope.names := fun z => by
      have := S.uniq _ z
      rw [fx] at this
      cases this
    exact ⟨u, r, .inr ⟨.inr fx, c, by show (cellsFrom _ _ _).lookup x = _; rw [cf_free _ _ _ _ nc]; exact e, o, kp g, d⟩⟩
  · rcases look e with e1 | ⟨_, _, q⟩
    · obtain ⟨_, v, o, g, d⟩ := hc.all x c e1
      exact ⟨v, o, kp g, d⟩
    · exact ⟨_, q⟩
  · rcases look e with e1 | ⟨_, l, _⟩
    · exact (hc.all x c e1).1
    · exact e0.hok.fresh (Nat.le_of_succ_le l)
  · exact (e0.hok b o e).stay (fun c v _ z => kp z) (fun _ q => q) fun _ _ q => q
  · have := hc.len
    show (List.replicate ps.length none ++ (ws ++ List.replicate (N.length - ps.length - ws.length) none)).length = N.length
    simp
    omega
/-- the arguments, one by one -/
theorem m_binds {X : Cx} {pins : List (Addr × Obj)} {H : Hp} {M : Model} {A : Around} {E : Value → Shared → Prop} {R : PUnit → Shared → Prop} (hN : X.N.Nodup) (rest : List (Option V)) : ∀ (xs : List Str) (us : List Value) (vs : List V) (done : List V) (s : Shared), xs.length = us.length → Vals vs us → (∀ j x, xs[j]? = some x → X.N[done.length + j]? = some x ∧ Loc X.env.scope x ∧ (X.fn x = true ∨ X.env.scope.names.lookup x = some .local)) →
    Inv X pins (done.map some ++ (List.replicate xs.length none ++ rest)) H s → (∀ s', Inv X pins ((done ++ vs).map some ++ rest) H s' → R PUnit.unit s') →
    wpAny M A (forIn (xs.zip us) PUnit.unit fun x __s => match x with
        | (name, v) => do
          storeName X.env name v
          pure (ForInStep.yield PUnit.unit)) R E s
  | [], us, vs, done, s, hl, hv, hx, I, k => by
    have : us = [] := by cases us; rfl; simp at hl
    subst this
    cases hv
    simp only [List.zip_nil_left, List.forIn_nil]
    refine wpAny_pure (k s ?_)
    simpa using I
  | x :: xs, us, vs, done, s, hl, hv, hx, I, k => by
    cases us with
    | nil => simp at hl
    | cons u us =>
      cases hv with
      | cons r hv =>
        rename_i v vs
        simp only [List.zip_cons_cons, List.forIn_cons]
        obtain ⟨h1, h2, h3⟩ := hx 0 x rfl
        refine wpAny_bind (wpAny_bind (store_ok I hN h1 h2 r (fun s' I' => wpAny_pure ?_) h3))
        refine m_binds hN rest xs us vs (done ++ [v]) s' (by simpa using hl) hv (fun j y hy => ?_) ?_ fun s2 I2 => k s2 (by simpa using I2)
        · have := hx (j + 1) y (by simpa using hy)
          simpa [Nat.add_assoc, Nat.add_comm 1 j] using this
        · have e : (done.map some ++ (List.replicate (x :: xs).length (none : Option V) ++ rest)).set (done.length + 0) (some v) = (done ++ [v]).map some ++ (List.replicate xs.length none ++ rest) := by
            simp [List.set_append, List.replicate_succ]
          rw [← e]
          exact I'
theorem m_env (S : MScope N ps fr F.scope) (hd : A.handled = none) (e0 : Env0 P w K mg base A outer s H) (hc : NdefX.CellsAt F.cl fr ws s.heap H) (hln : ps.length + fr.length ≤ N.length) {us : List Value} {vs : List V} (hl : us.length = ps.length) (hv : Vals vs us) {M : Model} {A' : Around} {R : Env → Shared → Prop} {Er : Value → Shared → Prop}
    (k : ∀ s', Inv (mcx CX P w K mg base N F f A outer s H E) [] (NdefX.startF N vs ws) H s' → R (menv F f s.heap.objs.size) s') :
    wpAny M A' (newFunctionEnv F.scope mainGlobals F.cl (ps.zip us) (F.qual ++ Str.ofString ".<locals>.") (some f) (.ref F.c) none builtinsNs) R Er s := by
  have I := m_start (CX := CX) (E := E) (f := f) S hd e0 hc hln
  have lv : vs.length = ps.length := by rw [hv.length]; exact hl
  rw [newFunctionEnv.eq_1]
  wp_step
  wp_step
  refine wpAny_bind ?_
  refine PySem.wpAny_layCells (fun x __s => match x with
    | (name, kind) => if (kind == NameKind.cell) = true then do
        let a ← alloc { cls := Value.type "cell", data := Data.cell none }
        pure (ForInStep.yield ((name, a) :: __s))
      else pure (ForInStep.yield __s)) (fun _ _ _ => rfl) _ _ _ _ ?_
  dsimp only
  simp only [Option.isSome_none, Bool.false_eq_true, if_false, Heap.size_push]
  refine wpAny_bind (m_binds (X := mcx CX P w K mg base N F f A outer s H E) (pins := []) (H := H) S.nd (ws ++ List.replicate (N.length - ps.length - ws.length) none) ps us vs [] _ hl.symm hv (fun j x hj => ?_) I fun s' I' => wpAny_pure (k s' ?_))
  · have hj2 : j < ps.length := (List.getElem?_eq_some_iff.mp hj).1
    have z : (N.take (ps.length + fr.length))[j]? = some x := by rw [S.pre, List.getElem?_append_left hj2]; exact hj
    rw [List.getElem?_take_of_lt (by omega)] at z
    have pr := S.par x (List.mem_of_getElem? hj)
    refine ⟨by show N[_]? = _; simpa using z, pr, ?_⟩
    rcases pr with q | q
    · exact .inr q
    · exact .inl (show (F.scope.names.lookup x == some .cell) = true by rw [q]; rfl)
  · have e : NdefX.startF N vs ws = ([] ++ vs).map some ++ (ws ++ List.replicate (N.length - ps.length - ws.length) none) := by
      unfold NdefX.startF
      rw [lv]
      rfl
    rw [e]
    exact I'
end
theorem mnok_of {CX : CXT} {P : Program} {w : World} {K : Fr0} {mg : Str → Option Value} {base : Heap} {N ps fr : List Str} {F : NdefX.NF} {f : Addr} {k : Nat} {sp : List (Option V) → Sp} (S : MScope N ps fr F.scope) (hln : ps.length + fr.length ≤ N.length)
    (hb : ∀ (doc pm ctv : Value) (us : List Value), us.length = ps.length → bindArgs (F.fd doc pm ctv) ⟨us, []⟩ = pure (ps.zip us)) (len : ∀ ws vs H Q E, sp ws vs H Q E → vs.length = ps.length)
    (body : ∀ (A : Around) (outer : List Env) (s : Shared) (H : Hp) (vs : List V) (ws : List (Option V)) (Q : VK) (E : XK), Room k (A.deeper (menv F f s.heap.objs.size)) → ws.length = fr.length → sp ws vs H Q E →
      ∃ t, PSs (mcx CX P w K mg base N F f A outer s H E) F.body t ∧ t { nx := fun _ H' => Q .non H', rt := Q } (NdefX.startF N vs ws) H) : NdefX.NOk P w K mg base CX (k + 1) f F ps fr sp := by
  refine ⟨len, fun A outer s H us vs ws Q E hr e0 hf hc hcells hv h => ?_⟩
  have hl : us.length = ps.length := by rw [← hv.length]; exact len _ _ _ _ _ h
  have kf : ObjOk P w H s.heap f (NdefX.FnO f F) := e0.hok f _ hf
  have kc : ObjOk P w H s.heap F.c (CodeO F.c F.qual) := e0.hok F.c _ hc
  obtain ⟨⟨od, sl, doc, pm, ctv, hget⟩, _⟩ := kf
  obtain ⟨⟨oc, cvs, tk, cget, cdat, cq⟩, _⟩ := kc
  refine codeAny_call_function (body := F.body) (by have := hr.dp; omega) hget rfl S.co S.gen rfl ?_ ?_
  · exact ⟨F.c, oc, cvs, tk, rfl, cget, cdat, cq⟩
  · show wpAny _ _ (bindArgs (F.fd doc pm ctv) ⟨us, []⟩) _ _ _
    rw [hb doc pm ctv us hl]
    refine wpAny_pure (m_env (CX := CX) (E := E) (f := f) S hr.hd e0 hcells hln hl hv fun s' I' => ⟨I'.nolimit, codeAny_func ?_⟩)
    obtain ⟨t, ps', ht⟩ := body A outer s H vs ws Q E (hr.deeper _) hcells.len h
    refine thn (ps'.run [] s' _ H _ I' ht) fun fl s2 q => ?_
    cases fl with
    | next =>
      obtain ⟨σ2, H2, I2, q2⟩ := q
      exact ⟨.non, H2, I2.os, I2.bare, I2.base, I2.hok, rfl, q2⟩
    | ret u =>
      obtain ⟨v, σ2, H2, I2, r, q2⟩ := q
      exact ⟨v, H2, I2.os, I2.bare, I2.base, I2.hok, r, q2⟩
    | brk => obtain ⟨σ2, H2, I2, q2⟩ := q; exact q2.elim
    | cont => obtain ⟨σ2, H2, I2, q2⟩ := q; exact q2.elim
end PM
namespace PM
open PySem PySem.Spec PyProof.Rows L2
open PD (D AS Fr0 U Dn DnA Mv ExIs All2 NT nt_lst nt_tup nt_xd nt_ext nt_rng mv_grow upd_grow sz RCd)
section
variable {P : Program} {w : World} {K : Fr0} {mg : Str → Option Value} {base : Heap}
theorem mm_pm {N ps fr : List Str} {F : NdefX.NF} {f : Addr} {k : Nat} {B : Gs} (S : MScope N ps fr F.scope) (hln : ps.length + fr.length ≤ N.length) (hb : ∀ (doc pm ctv : Value) (us : List Value), us.length = ps.length → bindArgs (F.fd doc pm ctv) ⟨us, []⟩ = pure (ps.zip us))
    (body : ∀ (A : Around) (outer : List Env) (s : Shared) (H : Hp) (E : XK), Room k (A.deeper (menv F f s.heap.objs.size)) →
      PMSs (mcx (L2.CX P w) P w K mg base N F f A outer s H E) (WnE E (mcx (L2.CX P w) P w K mg base N F f A outer s H E)) F.body B) : NdefX.NOk P w K mg base (L2.CX P w) (k + 1) f F ps fr (spN ⟨P, w, K, mg, base⟩ (fnN ps.length fr.length N.length B)) := by
  have len : ∀ ws vs H Q E, spN ⟨P, w, K, mg, base⟩ (fnN ps.length fr.length N.length B) ws vs H Q E → vs.length = ps.length := fun ws vs H Q E h => by
    obtain ⟨Fb, μ, S, its, wis, r, R, hi, hw, hF, _⟩ := h
    unfold fnN at hF
    split at hF
    · rename_i h; rw [hi.length]; exact h.1
    · cases hF
  refine mnok_of S hln hb len fun A outer s H vs ws Q E hr lw h => ⟨_, (body A outer s H E hr).pss, ?_⟩
  have hvl := len ws vs H Q E h
  obtain ⟨Fb, μ, S, its, wis, r, R, hi, hw, hF, k⟩ := h
  unfold fnN at hF
  split at hF
  rotate_left
  · cases hF
  rename_i hl
  have R1 : MR ⟨P, w, K, mg, base⟩ (nfx (mcx (L2.CX P w) P w K mg base N F f A outer s H E)) Fb μ H (NdefX.startF N vs ws) ⟨its.map some ++ (wis ++ List.replicate (N.length - ps.length - fr.length) none), S⟩ := MR.begin2 R hi hw _ _ (by rw [List.length_replicate, hvl, lw])
  split at hF
  · rename_i e hB
    cases hF
    exact ⟨Fb, μ, _, _, R1, hB, fun σ' μ' H' n R' => k .non μ' H' n R'.sr Dn.non⟩
  · rename_i d e hB
    cases hF
    exact ⟨Fb, μ, _, _, R1, hB, fun v σ' μ' H' n R' hv => k v μ' H' n R'.sr hv⟩
  · rename_i c fs e hB
    cases hF
    exact ⟨Fb, μ, _, _, R1, hB, fun cls dd σ' μ' H' n R' hx => k cls dd μ' H' n R'.sr hx⟩
  · cases hF
end
/-! ### the law's end -/
def isT : Option FR → Bool
  | some (.val (.d (.bool true)) _) => true
  | _ => false
theorem isT_ok {o : Option FR} (h : isT o = true) : ∃ S, o = some (.val (.d (.bool true)) S) := by
  unfold isT at h
  split at h
  · exact ⟨_, rfl⟩
  · cases h
/-- what is known of the heap at the law's start -/
structure BOk (K : Fr0) (mg : Str → Option Value) (cs : List (Addr × Addr)) (base : Heap) : Prop where
  kin : K.In base
  ns : base.Ns mainGlobals mg
  tb : ∀ p ∈ cs, LamX.TabB base mg p.1 p.2
abbrev csT (K : Fr0) (tf : List Str) : List (Addr × Addr) := tf.map fun x => He.cT K (x, none)
section
variable {P : Program} {w : World} {K : Fr0} {mg : Str → Option Value} {base : Heap} {k : Nat} {f : Addr} {fd : FuncData} {ps : List Str} {F : List Im → List Ob → Option FR} {cs : List (Addr × Addr)}
def spLaw (P : Program) (w : World) (K : Fr0) (mg : Str → Option Value) (cs : List (Addr × Addr)) (F : List Im → List Ob → Option FR) : Sp := fun vs H Q _ => ∀ base, BOk K mg cs base → spF ⟨P, w, K, mg, base⟩ F vs H Q fun _ _ _ => False
theorem law_fn {x : Str} {st : Stmt} (D : Df P w K mg base k x st ps F) (Fu : Fun K x x st f fd) (hm : mg x = some (.ref f)) (ok : BOk K mg cs base) : FnOk P w K mg base CX0 k f fd ps (spLaw P w K mg cs F) := by
  obtain ⟨f2, fd2, Fn, hm2, _, _, Fu2⟩ := D.ex
  cases Option.some.inj (hm.symm.trans hm2)
  rw [PD.fun_fd Fu Fu2]
  exact ⟨fun _ _ _ _ h => Fn.len _ _ _ _ (h base ok), fun A outer s H args us vs Q E hr he hb hv hs => codeAny_mono (Fn.run A outer s H args us vs Q _ hr he hb hv (hs base ok)) fun r s' q => by
    cases r with
    | error e =>
      obtain ⟨_, _, _, _, _, _, _, _, _, _, _, _, z⟩ := q
      exact z.elim
    | ok fl => cases fl <;> exact q⟩
theorem code_of {x : Str} {fx c : Addr} (hg : He.ga K x = fx) (h : CodeIs K fx (.ref c)) : He.codeOf K (x, none) = c := by
  obtain ⟨oc, od, osl, name, qual, params, body, scope, dV, kV, doc, pm, an, ct, e⟩ := h
  unfold He.codeOf He.fAd
  dsimp only
  rw [hg, e]
theorem tbs_start {tf : List Str} {H : Hp} (ok : BOk K mg (csT K tf) base) (ht : ∀ x ∈ tabN P, x ∈ tf ∧ mg x = some (.ref (He.ga K x))) (hH : ∀ p ∈ csT K tf, H p.2 = some (.tbl #[])) : TBS ⟨P, w, K, mg, base⟩ H := fun x hx a ⟨fx, c, m, cc, tb⟩ => by
  obtain ⟨h1, h2⟩ := ht x hx
  have m : mg x = some (.ref fx) := m
  have ef : He.ga K x = fx := by rw [h2] at m; cases m; rfl
  have ec := code_of ef cc
  have mem : He.cT K (x, none) ∈ csT K tf := List.mem_map.mpr ⟨x, h1, rfl⟩
  have t1 := ok.tb _ mem
  have e1 : (He.cT K (x, none)).1 = c := ec
  rw [e1] at t1
  have ea : a = (He.cT K (x, none)).2 := hd_one tb.code t1.code
  refine ⟨#[], by rw [ea]; exact hH _ mem, ?_, fun pos cv h => ?_⟩
  · exact trivial
  · cases h
theorem law_blind {tf : List Str} (h : isT (F [.un] []) = true) (ht : ∀ x ∈ tabN P, x ∈ tf ∧ mg x = some (.ref (He.ga K x))) (H : Hp) (a : Addr) (hH : ∀ p ∈ csT K tf, H p.2 = some (.tbl #[])) : spLaw P w K mg (csT K tf) F [.ref a] H (fun v _ => v = .bl true) fun _ _ _ => False := fun base ok => by
  obtain ⟨S, e⟩ := isT_ok h
  refine ⟨fun _ => False, [], [], [.un], _, ⟨rfl, fun n a h => by simp at h, fun a z => z.elim, fun n a o h => by simp at h, fun n k a o _ h => by simp at h, fun n a h => by simp at h, tbs_start ok ht hH⟩, .cons True.intro .nil, e, fun v μ' H' _ _ hv => ?_⟩
  cases hv
  rfl
end
end PM
namespace PM
open PySem PySem.Spec PyProof.Rows L2
open PD (D AS Fr0 U Dn DnA Mv ExIs All2 NT nt_lst nt_tup nt_xd nt_ext nt_rng mv_grow upd_grow sz RCd upto upto_length upto_get bRg bRg_ok dRange1 dRange2)
section
variable {X : Cx} {W : WN}
/-! ### in: numbers, texts, None, truth values -/
def flD : PD.D → Option V
  | .none => some .non
  | .bool b => some (.bl b)
  | .int i => some (.int i)
  | .str x => some (.str x)
  | _ => none
def flDs : List PD.D → Option (List V)
  | [] => some []
  | d :: ds => (flD d).bind fun v => (flDs ds).map (v :: ·)
theorem flD_ok {K : Fr0} {F : AS} {H : Hp} {v w : V} : ∀ {d : PD.D}, Dn K F H v d → flD d = some w → v = w ∧ flatV w = true
  | .none, h, e => by cases h; cases e; exact ⟨rfl, rfl⟩
  | .bool _, h, e => by cases h; cases e; exact ⟨rfl, rfl⟩
  | .int _, h, e => by cases h; cases e; exact ⟨rfl, rfl⟩
  | .str _, h, e => by cases h; cases e; exact ⟨rfl, rfl⟩
  | .list _, h, e => by cases e
  | .tuple _, h, e => by cases e
  | .dict _, h, e => by cases e
theorem flDs_ok {K : Fr0} {F : AS} {H : Hp} : ∀ {ds : List PD.D} {vs ws : List V}, DnA K F H vs ds → flDs ds = some ws → vs = ws ∧ ws.all flatV = true
  | [], vs, ws, h, e => by cases h; cases e; exact ⟨rfl, rfl⟩
  | d :: ds, vs, ws, h, e => by
    cases h with
    | cons h1 h2 =>
      obtain ⟨w, e1, e⟩ := Option.bind_eq_some_iff.mp e
      obtain ⟨us, e2, rfl⟩ := Option.map_eq_some_iff.mp e
      obtain ⟨rfl, f1⟩ := flD_ok h1 e1
      obtain ⟨rfl, f2⟩ := flDs_ok h2 e2
      exact ⟨rfl, by simp [f1, f2]⟩
def gIn2 (neg : Bool) (Ga : GE) (Gb : GI) : GE := gB Ga fun z => gB Gb fun x m => match dcOf m.s x with
  | some kvs => if keyOk z kvs then some (.ok (.bool (xor neg (findD z kvs).isSome)) m) else none
  | none => (flD z).bind fun v => (seqOf m.s x).bind fun xs => (datsOf m.s xs).bind fun ds => (flDs ds).map fun vs => .ok (.bool (if neg = true then !inV v vs else inV v vs)) m
theorem in_read {neg : Bool} {Ga : GE} {Gb : GI} {σ : L2.St} {H : Hp} {Q : VK} (q : tG (ρD X.K) X W (gIn2 neg Ga Gb) σ H Q) : tG (ρD X.K) X W Ga σ H fun v H1 => tG (ρI (gx X)) X W Gb σ H1 fun w H2 => rIn X.K neg v w H2 Q ∨ rDIn X neg v w H2 Q :=
  (tG.seq2 (ρ := ρD X.K) (ρ1 := ρI (gx X)) (stabD _) q).mono fun v H1 z => z.mono fun w H2 z => by
    obtain ⟨d, x, Fb, μ, m, r, hx, hy, R, g, k⟩ := z
    try dsimp only at g
    split at g
    · rename_i kvs hk
      split at g
      · rename_i hko
        cases g
        obtain ⟨n, a, rfl, rfl, hn, hS, dc⟩ := dc_at R.sr hy hk
        exact .inr ⟨μ, _, kvs, a, d, rfl, dc, hx, hko, k μ H2 (Nx.refl _ _ _) R _ (.bl _)⟩
      · cases g
    · refine .inl ?_
      obtain ⟨u, h1, g⟩ := Option.bind_eq_some_iff.mp g
      obtain ⟨xs, h2, g⟩ := Option.bind_eq_some_iff.mp g
      obtain ⟨ds, h3, g⟩ := Option.bind_eq_some_iff.mp g
      obtain ⟨vs, h4, rfl⟩ := Option.map_eq_some_iff.mp g
      obtain ⟨rfl, f1⟩ := flD_ok hx h1
      obtain ⟨a, ws, rfl, sq, hi⟩ := seq_at R.sr hy h2
      obtain ⟨rfl, f2⟩ := flDs_ok (dats_dn R.sr hi h3) h4
      exact ⟨a, _, rfl, sq, f1, f2, k μ H2 (Nx.refl _ _ _) R _ (.bl _)⟩
theorem pm_in2 {neg : Bool} {op : CmpOp} {a b : Expr} {Ga : GE} {Gb : GI} {pos : Pos} (ho : OpR X (compareOp op) (fun x y H Q => rIn X.K neg x y H Q ∨ rDIn X neg x y H Q)) (hm : behindInMarks op b = false) (ha : PMD X W a Ga) (hb : PMI X W b Gb) : PMD X W (.Compare a [op] [b] pos) (gIn2 neg Ga Gb) :=
  ⟨PE.wk (pe_cmpR ho ha.pe hb.pe hm) fun σ H Q q => in_read q⟩
theorem pmt_in {neg : Bool} {op : CmpOp} {a b : Expr} {Ga : GE} {Gb : GI} {pos : Pos} (ho : OpR X (compareOp op) (fun x y H Q => rIn X.K neg x y H Q ∨ rDIn X neg x y H Q)) (hm : behindInMarks op b = false) (ha : PMD X W a Ga) (hb : PMI X W b Gb) : PMT X W (.Compare a [op] [b] pos) (gBool (gIn2 neg Ga Gb)) :=
  ⟨PT.wk (pt_cmpR ho ha.pe hb.pe hm) fun σ H Q q => in_read ((tG.seq (ρ := ρD X.K) q).mono fun v H1 z => by
    obtain ⟨d, Fb, μ, m, r, hx, R, g, k⟩ := z
    obtain ⟨b, h1, rfl⟩ := gO_some g
    split at h1
    · cases h1
      cases hx
      exact ⟨_, rfl, k μ H1 (Nx.refl _ _ _) R _ rfl⟩
    · cases h1)⟩
/-! ### ranges kept by a name -/
def gRgNew (G : GA) : GI := gB G fun ds m => match ds with
  | [.int i, .int j] => some (.ok (.rg i j) m)
  | _ => none
theorem pi_rg2 {a b : Expr} {G : GA} {p pos : Pos} (hg : Gl X "range") (hm : X.mg "range" = none) (ha : PMA X W [a, b] G) (hs : starEach [a, b] X.env = (false, eval a X.env) :: starEach [b] X.env := by rfl) (hpl : (backTo pos (starEach [b] X.env)).any (·.1) = false := by rfl) : PMI X W (.Call (.Name "range" p) [a, b] [] pos) (gRgNew G) :=
  ⟨PE.wk (pe_callTy cr_range2 hg hm (by decide +kernel) ha.pa (by decide) (by decide) hs hpl) fun σ H Q q => (tG.seq (ρ := ρA X.K) q).mono fun vs H1 z => by
    obtain ⟨ds, Fb, μ, m, r, hx, R, g, k⟩ := z
    try dsimp only at g
    split at g
    · cases g
      obtain ⟨v, u, rfl, h, h'⟩ := hx.two
      cases h; cases h'
      exact ⟨_, _, rfl, fun p hp => k μ _ (Nx.grow (upd_grow hp)) (R.grow (upd_grow hp)) _ ⟨p, rfl, R.sr.free hp, upd_same⟩⟩
    · cases g⟩
def gRgOf (i : Nat) : GA := fun m => match m.e[i]? with
  | some (some (.rg a b)) => if (bRg a && bRg b) = true then some (.ok (upto a 1 (b - a).toNat) m) else none
  | _ => none
theorem pmi_rg {i : Nat} {x : Str} {p : Pos} {tg : Expr} (h : PE X (.Name x p) (tVar i)) : PMI' X W tg (.Name x p) (gRgOf i) := ⟨⟨fun pins s σ H R I q => by
  obtain ⟨Fb, μ, m, r, R0, g, k⟩ := q
  unfold gRgOf at g
  split at g
  rotate_left
  · cases g
  rename_i a b hx
  split at g
  rotate_left
  · cases g
  rename_i hb
  cases g
  obtain ⟨v, hv, c, rfl, nc, hc⟩ := R0.sl i _ hx
  refine thn (h.run pins s σ H (fun v H' => v = .ref c ∧ H' = H) I ⟨_, hv, rfl, rfl⟩) fun u s1 ⟨y, H1, I1, r1, e1, e2⟩ => ?_
  subst e1 e2
  obtain rfl : u = Value.ref c := r1
  rw [Bool.and_eq_true] at hb
  obtain ⟨b1, b2⟩ := bRg_ok hb.1
  obtain ⟨b3, b4⟩ := bRg_ok hb.2
  have ho : ObjOk X.prog X.w H1 s1.heap c (.rng a b) := I1.hok c _ hc
  have big : (2 : Int) ^ 62 = 4611686018427387904 := by decide
  have cnt : Builtin.Range.rangeSize a b 1 = ((b - a).toNat : Int) := by
    unfold Builtin.Range.rangeSize
    rw [if_pos (by decide)]
    split
    · rw [Int.ediv_one]; omega
    · omega
  obtain ⟨t, u, v, hr⟩ : ∃ t u v, IsRange s1.heap c a b 1 t u v := ho
  have bt := hb
  simp only [bRg, Bool.and_eq_true, decide_eq_true_eq] at bt
  refine wpAny_pyIter_range hr ?_ ?_
  · unfold Builtin.Range.small
    rw [cnt]
    simp only [Builtin.Range.rangeFitsLong, Bool.and_eq_true, Bool.or_eq_true, decide_eq_true_eq, beq_iff_eq, show ((1 : Int) > 0) by decide, if_true]
    have big3 : (2 : Int) ^ 63 = 9223372036854775808 := by decide
    rw [big3]
    omega
  · have hn : H1 s1.heap.objs.size = none := I1.hok.fresh (Nat.le_refl _)
    rw [cnt]
    refine ⟨s1.heap.objs.size, [s1.heap.objs.size], _, _, H1, rfl, I1.kept (t' := s1.toks) (fun b o e => Heap.get?_push_of_some _ e), turn_range s1.heap.objs.size a (b - a).toNat, ?_, fun d hd => ?_, k μ H1 (Nx.refl _ _ _) R0 _ wk_range⟩
    · show (s1.heap.push _).get? s1.heap.objs.size = some _
      rw [Heap.get?_push_size _ rfl]
      simp
    · rcases List.mem_cons.mp hd with e | e
      · rw [e]; exact I1.fpOk (Nat.le_refl _) hn
      · cases e⟩⟩
/-! ### tuple(range(..)) -/
def gTupRg (Ga Gb : GE) : GE := gB Ga fun d => gB Gb fun e => gO (match d, e with
  | .int i, .int j => if (bRg i && bRg j) = true then some (.tuple (upto i 1 (j - i).toNat)) else none
  | _, _ => none)
theorem rgV_dn {K : Fr0} {F : AS} {H : Hp} (i : Int) (n : Nat) : DnA K F H ((List.range n).map fun (k : Nat) => V.int (i + (k : Int))) (upto i 1 n) := by
  unfold upto
  induction List.range n with
  | nil => exact .nil
  | cons k ks ih =>
    refine .cons ?_ ih
    show Dn K F H (V.int (i + (k : Int))) (.int (i + (k : Int) * 1))
    rw [Int.mul_one]
    exact .int _
theorem pm_tupRg {a b : Expr} {Ga Gb : GE} {p p2 pos pos2 : Pos} (hc : X.calm = true) (hg : Gl X "tuple") (hm : X.mg "tuple" = none) (hg2 : Gl X "range") (hm2 : X.mg "range" = none) (ha : PMD X W a Ga) (hb : PMD X W b Gb)
    (h1 : starEach [a, b] X.env = (false, eval a X.env) :: starEach [b] X.env := by rfl) (h2 : starEach [b] X.env = (false, eval b X.env) :: starEach [] X.env := by rfl) (h3 : (backTo pos (starEach [b] X.env)).any (·.1) = false := by rfl)
    (h4 : starEach [.Call (.Name "range" p) [a, b] [] pos] X.env = (false, eval (.Call (.Name "range" p) [a, b] [] pos) X.env) :: starEach [] X.env := by rfl) : PMD X W (.Call (.Name "tuple" p2) [.Call (.Name "range" p) [a, b] [] pos] [] pos2) (gTupRg Ga Gb) :=
  ⟨PE.wk (pe_tupRg hc hg hm (prg_2 hg2 hm2 ha.pe hb.pe h1 h2 h3) h4) fun σ H Q q => (tG.seq2 (ρ := ρD X.K) (ρ1 := ρD X.K) (stabD _) q).mono fun v H1 z => z.mono fun w H2 z => by
    obtain ⟨d, e, Fb, μ, m, r, hx, hy, R, g, k⟩ := z
    obtain ⟨z, h1, rfl⟩ := gO_some g
    split at h1
    · rename_i i j
      split at h1
      · rename_i hb
        cases h1
        cases hx; cases hy
        rw [Bool.and_eq_true] at hb
        obtain ⟨b1, b2⟩ := bRg_ok hb.1
        obtain ⟨b3, b4⟩ := bRg_ok hb.2
        have bt := hb
        simp only [bRg, Bool.and_eq_true, decide_eq_true_eq] at bt
        refine ⟨i, j, rfl, rfl, ⟨by omega, by omega, by omega, by omega, ?_⟩, fun q hq => k μ _ (Nx.grow (upd_grow hq)) (R.grow (upd_grow hq)) _ (.tup (.inl ⟨R.sr.free hq, upd_same⟩) (rgV_dn _ _))⟩
        omega
      · cases h1
    · cases h1⟩
end
/-- a block within a block -/
def frB (sn on : List (Str × NameKind)) : Bool := on.all fun y => if y.2 = .free then (sn.lookup y.1 == some .cell || sn.lookup y.1 == some .free) else true
theorem blk_mk2 {N : List Str} {sc scope : Scope} {own : List (Str × Nat)} (h1 : scope.kind = .function)
    (h : (∀ y ∈ scope.names, scope.names.lookup y.1 = some y.2) ∧ (∀ p ∈ own, N[p.2]? = some p.1) ∧ ∀ y ∈ scope.names, y.2 = .local ∨ y.2 = .cell → y.1 ∈ own.map (·.1) ∨ y.1 ∉ N) (h3 : frB sc.names scope.names = true) : BlkOk N sc scope own := ⟨h1, h.1, h.2.1, fun y hy e => by
      have z := List.all_eq_true.mp h3 y hy
      rw [if_pos e, Bool.or_eq_true] at z
      exact z.imp (fun z => eq_of_beq z) fun z => eq_of_beq z, h.2.2⟩
/-- the table of a def of the text, at the law's start -/
theorem tb_at {P : Program} {w : World} {K : Fr0} {mg : Str → Option Value} {base : Heap} {x : Str} {st : Stmt} {fd : FuncData} {tf : List Str} (Fn : Fun K x x st (He.ga K x) fd) (hm : mg x = some (.ref (He.ga K x))) (ok : BOk K mg (csT K tf) base) (hx : x ∈ tf) : ∃ Q, TbAt ⟨P, w, K, mg, base⟩ x Q := by
  obtain ⟨oc, od, kV, doc, pm, an, cdv, ct, osl, rfl, lk, hcd⟩ := Fn.ex
  obtain ⟨c, rfl⟩ := He.codeIn_ref hcd
  have cc : CodeIs K (He.ga K x) (.ref c) := ⟨_, _, _, _, _, _, _, _, _, _, _, _, _, _, lk⟩
  have mem : He.cT K (x, none) ∈ csT K tf := List.mem_map.mpr ⟨x, hx, rfl⟩
  have t1 := ok.tb _ mem
  have e1 : (He.cT K (x, none)).1 = c := code_of rfl cc
  rw [e1] at t1
  exact ⟨_, _, c, hm, cc, t1⟩
end PM
namespace PM
open PySem PySem.Spec PyProof.Rows L2
open PD (D AS Fr0 U Dn DnA Mv ExIs All2 NT RCd bools? bools_of)
/-! ### any(t), all(t) of a tuple of truth values -/
theorem iter_tupA {prog : Program} {w : World} {A : Around} {E : Value → Shared → Prop} {s : Shared} {l : Addr} {items : Array Value} {Q : Value → Shared → Prop} (hl : s.heap.IsTuple l items)
    (h : ∀ s₂ : Shared, s₂ = { s with heap := s.heap.push { cls := .type "tuple_iterator", data := .fields #[.ref l, .int 0 0] } } →
      (s₂.heap.IsTupleIter s.heap.objs.size l 0 ∧ s₂.heap.IsTuple l items) → l ≠ s.heap.objs.size → Q (.ref s.heap.objs.size) s₂) : wpAny (model prog w) A (pyIter (.ref l)) Q E s := by
  have hlt : l < s.heap.objs.size := by obtain ⟨_, e, _⟩ := hl; exact Heap.lt_size e
  exact wpAny_pyIter_tuple hl (h _ rfl ⟨⟨_, Heap.get?_push_size _ rfl, rfl, rfl⟩, hl.push _⟩ (Nat.ne_of_lt hlt))
section
variable {X : Cx}
def rAnyT (K : Fr0) : List V → Hp → VK → Prop := fun vs H Q => ∃ (a : Addr) (bs : List Bool), vs = [V.ref a] ∧ SqT K H a (bs.map V.bl) ∧ Q (.bl (bs.any id)) H
theorem cr_anyT (hc : X.calm = true) : CallR X (.builtin "any") (rAnyT X.K) := by
  intro pins s σ H vs us Q I r h
  obtain ⟨a, bs, rfl, hs, q⟩ := h
  obtain ⟨its, rv, hl, _⟩ := I.tuple hs
  rw [Vals.ref1 r]
  have hb := rv.bls
  refine call_any_walk (iter_tupA hl fun s₂ e2 st hne => ?_)
  subst e2
  refine ⟨_, _, _, _, _, _, _, rfl, Walks.tuple (A := X.A.in1) (I.ok.hd hc) _ a hne its.toArray, st, truth_bools hb, fun h' tk hk => ?_⟩
  refine ⟨.bl _, H, I.kept fun b o eo => hk b o (fun hmem => ?_) (Heap.get?_push_of_some _ eo), ?_, q⟩
  · rcases List.mem_cons.mp hmem with e1 | hmem
    · exact absurd (e1 ▸ Heap.lt_size eo) (Nat.lt_irrefl _)
    · cases hmem
  · show Value.bool _ = Value.bool _
    rw [← L2.any_range, hb, List.size_toArray, List.length_map]
def rAnyB (K : Fr0) : List V → Hp → VK → Prop := fun vs H Q => rAny K vs H Q ∨ rAnyT K vs H Q
theorem cr_anyB (hc : X.calm = true) : CallR X (.builtin "any") (rAnyB X.K) := by
  intro pins s σ H vs us Q I r h
  exact h.elim (fun h => cr_any hc pins s σ H vs us Q I r h) fun h => cr_anyT hc pins s σ H vs us Q I r h
def dAnyB : List D → Option D
  | [.list ds] => (bools? ds).map fun bs => .bool (bs.any id)
  | [.tuple ds] => (bools? ds).map fun bs => .bool (bs.any id)
  | _ => none
theorem rc_anyB {K : Fr0} : RCd K (rAnyB K) dAnyB := ⟨by
  intro F H xs ds z Q hx hz hf k
  unfold dAnyB at hz
  split at hz
  · obtain ⟨bs, h1, rfl⟩ := Option.map_eq_some_iff.mp hz
    obtain ⟨v, rfl, h⟩ := hx.one
    obtain ⟨a, vs, rfl, na, ha, da⟩ := h.lstInv
    rw [bools_of h1] at da
    have e := da.bls_inv
    subst e
    exact .inl ⟨a, bs, rfl, SqL.of ha, k _ H (fun _ _ e => e) (.bl _)⟩
  · obtain ⟨bs, h1, rfl⟩ := Option.map_eq_some_iff.mp hz
    obtain ⟨v, rfl, h⟩ := hx.one
    obtain ⟨a, vs, rfl, ha, da⟩ := h.tupInv
    rw [bools_of h1] at da
    have e := da.bls_inv
    subst e
    exact .inr ⟨a, bs, rfl, ha, k _ H (fun _ _ e => e) (.bl _)⟩
  · cases hz⟩
variable {W : WN} {e : Expr} {p pos : Pos} {G : GA}
theorem pm_anyB (hc : X.calm = true) (hm : X.mg "any" = none) (ha : PMA X W [e] G) (hg : Gl X "any" := by rfl) (hs : starEach [e] X.env = (false, eval e X.env) :: starEach [] X.env := by rfl) (hpl : (backTo pos (starEach [] X.env)).any (·.1) = false := by rfl) : PMD X W (.Call (.Name "any" p) [e] [] pos) (gCall dAnyB G) := pm_cb (cr_anyB hc) rc_anyB hg hm (by decide +kernel) ha (by decide) (by decide) hs hpl
end
end PM
namespace PM
open PySem PySem.Spec PyProof.Rows L2
open PD (D AS Fr0 U Dn DnA Mv ExIs All2 NT mv_grow upd_grow)
section
variable {X : Cx} {W : WN}
/-! ### t[::-1] -/
theorem pm_revT {e : Expr} {G : GE} {k : Nat} {p1 p2 p3 pos : Pos} (h : PMD X W e G) : PMD X W (.Subscript e (.Slice none none (some (.UnaryOp .USub (.Constant (.int 1) k p1) p2)) p3) pos) (gB G fun d => gO (PD.dRev d)) :=
  ⟨PE.wk (PD.pe_revT h.pe) fun σ H Q q => (tG.seq (ρ := ρD X.K) q).mono fun v H1 z => by
    obtain ⟨d, Fb, μ, m, r, hx, R, g, k⟩ := z
    obtain ⟨z, h1, rfl⟩ := gO_some g
    cases d <;> simp only [PD.dRev] at h1 <;> cases h1
    obtain ⟨a, vs, rfl, ha, da⟩ := hx.tupInv
    exact ⟨a, vs, rfl, ha, fun p hp => k μ _ (Nx.grow (upd_grow hp)) (R.grow (upd_grow hp)) _ (.tup (.inl ⟨R.sr.free hp, upd_same⟩) (da.rev.mv (mv_grow (upd_grow hp))))⟩⟩
def dRevL : D → Option (List D)
  | .list ds => some ds.reverse
  | _ => none
theorem pmf_revL {e : Expr} {G : GE} {k : Nat} {p1 p2 p3 pos : Pos} (h : PMD X W e G) : PMF X W (.Subscript e (.Slice none none (some (.UnaryOp .USub (.Constant (.int 1) k p1) p2)) p3) pos) (gB G fun d => gO ((dRevL d).map fun ds => ds.map Im.d)) :=
  ⟨PE.wk (pe_revL h.pe) fun σ H Q q => (tF.mk (ρ := ρD X.K) q).mono fun v H1 z => by
    obtain ⟨d, Fb, μ, m, r, hx, R, g, k⟩ := z
    obtain ⟨z, h1, rfl⟩ := gO_some g
    cases d <;> simp only [dRevL, Option.map_none, Option.map_some] at h1 <;> cases h1
    obtain ⟨a, vs, rfl, na, ha, da⟩ := hx.lstInv
    exact ⟨a, vs, rfl, SqL.of ha, fun p hp => k.laid R (dna_ima da.rev) hp⟩⟩
end
end PM
/-! zip of a tuple with a list, and of a list with a tuple: over any two things that are gone through one by one -/
namespace PM
open PySem PySem.Spec PyProof.Rows L2
open PD (D AS Fr0 U Dn DnA Mv ExIs All2 NT nt_lst nt_tup nt_xd nt_ext nt_rng mv_grow upd_grow sz RCd pairs pairs_length pairs_get dZip)
/-- what stands at j goes through what stands at l, and is at k -/
structure Tick (P : Program) (w : World) (j l : Addr) (St : Nat → Heap → Prop) (Src : Array Value → Heap → Prop) : Prop where
  keep : ∀ k h h', St k h → (∀ o, h.get? j = some o → h'.get? j = some o) → St k h'
  keepS : ∀ xs h h', Src xs h → (∀ o, h.get? l = some o → h'.get? l = some o) → Src xs h'
  obj : ∀ k h, St k h → ∃ o vs, h.get? j = some o ∧ o.data = .fields vs
  item : ∀ (A : Around) (E : Value → Shared → Prop) (s : Shared) (Q : Value → Shared → Prop) k xs x, St k s.heap → Src xs s.heap → xs[k]? = some x → (∀ g, St (k + 1) g → Heap.SameBut j s.heap g → Q x { s with heap := g }) → wpAny (model P w) A (Builtin.SmallTypes.nextOf (.ref j)) Q E s
  done : ∀ (A : Around) (E : Value → Shared → Prop) (s : Shared) (Q : Value → Shared → Prop) k xs, A.handled = none → St k s.heap → Src xs s.heap → xs[k]? = none → (∀ g e, Heap.ExtBut j s.heap g → (∃ o, g.get? e = some o ∧ o.cls = .type "StopIteration") → E (.ref e) { s with heap := g }) → wpAny (model P w) A (Builtin.SmallTypes.nextOf (.ref j)) Q E s
theorem tick_tup {P : Program} {w : World} (j l : Addr) : Tick P w j l (fun k h => h.IsTupleIter j l k) (fun xs h => h.IsTuple l xs) :=
  ⟨fun k h h' st kk => st.at kk, fun xs h h' st kk => st.at kk, fun k h ⟨o, e, _, d⟩ => ⟨o, _, e, d⟩, fun A E s Q k xs x st sr hx q => RZ.nextOf_tuple_item st sr hx q, fun A E s Q k xs hh st sr hx q => RZ.nextOf_tuple_end hh st sr hx q⟩
theorem tick_lst {P : Program} {w : World} (j l : Addr) : Tick P w j l (fun k h => h.IsListIter j l k) (fun xs h => h.IsList l xs) :=
  ⟨fun k h h' st kk => st.at kk, fun xs h h' st kk => st.at kk, fun k h ⟨o, e, _, d⟩ => ⟨o, _, e, d⟩, fun A E s Q k xs x st sr hx q => wpAny_nextOf_list_item st sr hx q, fun A E s Q k xs hh st sr hx q => wpAny_nextOf_list_end hh st sr hx q⟩
section
variable {P : Program} {w : World} {A : Around} {E : Value → Shared → Prop} {s : Shared} {z TI TO i1 i2 l1 l2 : Addr} {St1 St2 : Nat → Heap → Prop} {Sr1 Sr2 : Array Value → Heap → Prop} {k1 k2 : Nat} {xs ys : Array Value} {x y a b : Value}
theorem zipM_next (C1 : Tick P w i1 l1 St1 Sr1) (C2 : Tick P w i2 l2 St2 Sr2) {Q : Value → Shared → Prop} (D : ZipApart z TI TO i1 i2 l1 l2) (kz : IsZip s.heap z TI TO .none) (kI : IsPair s.heap TI (.ref i1) (.ref i2)) (kO : IsPair s.heap TO a b)
    (c1 : St1 k1 s.heap) (c2 : St2 k2 s.heap) (s1 : Sr1 xs s.heap) (s2 : Sr2 ys s.heap) (kx : xs[k1]? = some x) (ky : ys[k2]? = some y)
    (q : ∀ g, IsZip g z TI TO (rawInt s.heap.objs.size) → IsPair g TO x y → St1 (k1 + 1) g → St2 (k2 + 1) g → IsPair g s.heap.objs.size x y → g.objs.size = s.heap.objs.size + 1 →
      (∀ c o, c ≠ z → c ≠ TO → c ≠ i1 → c ≠ i2 → s.heap.get? c = some o → g.get? c = some o) → Q (.ref s.heap.objs.size) { s with heap := g }) :
    wpAny (model P w) A (Builtin.«zip.__next__» ⟨[.ref z], []⟩) (fun fin s' => ∃ v, fin = .done (.ret v) ∧ Q v s') E s := by
  show wpAny _ _ (field (.ref z) 2 >>= _) _ _ _; refine wpAny_bind (wpAny_field kz rfl (x := .bool false) rfl ?_)
  show wpAny _ _ (field (.ref z) 3 >>= _) _ _ _; refine wpAny_bind (wpAny_field kz rfl (x := .ref TI) rfl ?_)
  refine wpAny_bind (wpAny_seqItems kI rfl ?_); show wpAny _ _ (Builtin.SmallTypes.ownedTupleIsFree (.ref z) >>= _) _ _ _
  refine wpAny_bind ?_; unfold Builtin.SmallTypes.ownedTupleIsFree; refine wpAny_bind (wpAny_field kz rfl (x := .none) rfl (wpAny_pure ?_))
  simp only [if_true]
  refine wpAny_bind (wpAny_rule ?_); refine wpAny_bind (wpAny_field kz rfl (x := .ref TO) rfl ?_)
  refine wpAny_bind (wpAny_setField_rec kz (by simp) fun g1 z1 b1 => ?_)
  replace z1 : IsZip g1 z TI TO .ellipsis := z1
  refine wpAny_bind ?_; simp only [List.zipIdx_cons, List.zipIdx_nil, List.forIn_cons, List.forIn_nil]
  refine wpAny_bind (wpAny_bind (wpAny_onRaise ?_)); show wpAny _ _ (Builtin.SmallTypes.nextOf (.ref i1) >>= _) _ _ _
  refine wpAny_bind (C1.item _ _ _ _ _ _ _ (C1.keep _ _ _ c1 fun o e => b1.extBut _ _ D.i1z e) (C1.keepS _ _ _ s1 fun o e => b1.extBut _ _ D.l1z e) kx fun g2 d1 b2 => wpAny_pure ?_)
  have o2 : IsPair g2 TO a b := b2.extBut _ _ D.TOi1 (b1.extBut _ _ D.TOz kO)
  refine wpAny_bind (wpAny_seqItems o2 rfl ?_); refine wpAny_bind (wpAny_updateSeq_pair o2 fun g3 o3 b3 => ?_)
  replace o3 : IsPair g3 TO x b := o3
  refine wpAny_bind (wpAny_letGo (wpAny_pure ?_)); refine wpAny_bind (wpAny_bind (wpAny_onRaise ?_)); show wpAny _ _ (Builtin.SmallTypes.nextOf (.ref i2) >>= _) _ _ _
  refine wpAny_bind (C2.item _ _ _ _ _ _ _ (C2.keep _ _ _ c2 fun o e => b3.extBut _ _ D.TOi2.symm (b2.extBut _ _ D.i12.symm (b1.extBut _ _ D.i2z e)))
    (C2.keepS _ _ _ s2 fun o e => b3.extBut _ _ D.l2TO (b2.extBut _ _ D.l2i1 (b1.extBut _ _ D.l2z e))) ky fun g4 d2 b4 => wpAny_pure ?_)
  have o4 : IsPair g4 TO x b := b4.extBut _ _ D.TOi2 o3
  refine wpAny_bind (wpAny_seqItems o4 rfl ?_); refine wpAny_bind (wpAny_updateSeq_pair o4 fun g5 o5 b5 => ?_)
  replace o5 : IsPair g5 TO x y := o5
  refine wpAny_bind (wpAny_letGo (wpAny_pure (wpAny_pure ?_))); refine wpAny_bind (wpAny_seqItems o5 rfl ?_); refine wpAny_bind (wpAny_newTuple ?_)
  have sz5 : g5.objs.size = s.heap.objs.size := by rw [b5.1, b4.1, b3.1, b2.1, b1.1]
  have z5 : IsZip g5 z TI TO .ellipsis := b5.extBut _ _ D.TOz.symm (b4.extBut _ _ D.i2z.symm (b3.extBut _ _ D.TOz.symm (b2.extBut _ _ D.i1z.symm z1)))
  have k5 : ∀ c o, c ≠ z → c ≠ TO → c ≠ i1 → c ≠ i2 → s.heap.get? c = some o → g5.get? c = some o := fun c o n1 n2 n3 n4 e => b5.extBut _ _ n2 (b4.extBut _ _ n4 (b3.extBut _ _ n2 (b2.extBut _ _ n3 (b1.extBut _ _ n1 e))))
  have d1' : St1 (k1 + 1) g5 := C1.keep _ _ _ d1 fun o e => b5.extBut _ _ D.TOi1.symm (b4.extBut _ _ D.i12 (b3.extBut _ _ D.TOi1.symm e))
  have d2' : St2 (k2 + 1) g5 := C2.keep _ _ _ d2 fun o e => b5.extBut _ _ D.TOi2.symm e
  have zlt : z < g5.objs.size := Heap.lt_size z5
  show wpAny _ _ (Builtin.SmallTypes.ownedTupleHandOut (.ref z) (.ref g5.objs.size) >>= _) _ _ _
  refine wpAny_bind ?_; unfold Builtin.SmallTypes.ownedTupleHandOut
  have z6 : IsZip (g5.push { cls := .type "tuple", data := .seq #[x, y] }) z TI TO .ellipsis := Heap.get?_push_of_some _ z5
  refine wpAny_bind (wpAny_setField_rec z6 (by simp) fun g7 z7 b7 => ?_)
  replace z7 : IsZip g7 z TI TO (rawInt g5.objs.size) := z7
  refine wpAny_setField_rec z7 (by simp) fun g8 z8 b8 => ?_
  replace z8 : IsZip g8 z TI TO (rawInt g5.objs.size) := z8
  have up : ∀ c o, c ≠ z → g5.get? c = some o → g8.get? c = some o := fun c o n1 e => b8.extBut _ _ n1 (b7.extBut _ _ n1 (Heap.get?_push_of_some _ e))
  have t8 : IsPair g8 g5.objs.size x y := b8.extBut _ _ (Nat.ne_of_gt zlt) (b7.extBut _ _ (Nat.ne_of_gt zlt) (Heap.get?_push_size _ rfl))
  have e8 : g8.objs.size = g5.objs.size + 1 := by rw [b8.1, b7.1, Heap.size_push]
  rw [sz5] at z8 t8 e8
  refine wpAny_pure ⟨_, rfl, ?_⟩
  show Q (.ref g5.objs.size) _
  rw [sz5]
  exact q g8 z8 (up _ _ D.TOz o5) (C1.keep _ _ _ d1' fun o e => up _ o D.i1z e) (C2.keep _ _ _ d2' fun o e => up _ o D.i2z e) t8 e8 fun c o n1 n2 n3 n4 e => up c o n1 (k5 c o n1 n2 n3 n4 e)
theorem zipM_end (C1 : Tick P w i1 l1 St1 Sr1) (C2 : Tick P w i2 l2 St2 Sr2) {Q : Fin → Shared → Prop} (hh : A.handled = none) (D : ZipApart z TI TO i1 i2 l1 l2) (kz : IsZip s.heap z TI TO .none) (kI : IsPair s.heap TI (.ref i1) (.ref i2)) (kO : IsPair s.heap TO a b)
    (c1 : St1 k1 s.heap) (c2 : St2 k2 s.heap) (s1 : Sr1 xs s.heap) (s2 : Sr2 ys s.heap) (ke : xs[k1]? = none ∨ ys[k2]? = none)
    (q : ∀ g e, (∀ c o, c ≠ z → c ≠ TO → c ≠ i1 → c ≠ i2 → s.heap.get? c = some o → g.get? c = some o) → (∃ o, g.get? e = some o ∧ o.cls = .type "StopIteration") → E (.ref e) { s with heap := g }) :
    wpAny (model P w) A (Builtin.«zip.__next__» ⟨[.ref z], []⟩) Q E s := by
  show wpAny _ _ (field (.ref z) 2 >>= _) _ _ _; refine wpAny_bind (wpAny_field kz rfl (x := .bool false) rfl ?_)
  show wpAny _ _ (field (.ref z) 3 >>= _) _ _ _; refine wpAny_bind (wpAny_field kz rfl (x := .ref TI) rfl ?_)
  refine wpAny_bind (wpAny_seqItems kI rfl ?_); show wpAny _ _ (Builtin.SmallTypes.ownedTupleIsFree (.ref z) >>= _) _ _ _
  refine wpAny_bind ?_; unfold Builtin.SmallTypes.ownedTupleIsFree; refine wpAny_bind (wpAny_field kz rfl (x := .none) rfl (wpAny_pure ?_))
  simp only [if_true]
  refine wpAny_bind (wpAny_rule ?_); refine wpAny_bind (wpAny_field kz rfl (x := .ref TO) rfl ?_)
  refine wpAny_bind (wpAny_setField_rec kz (by simp) fun g1 z1 b1 => ?_)
  replace z1 : IsZip g1 z TI TO .ellipsis := z1
  refine wpAny_bind ?_; simp only [List.zipIdx_cons, List.zipIdx_nil, List.forIn_cons, List.forIn_nil]
  refine wpAny_bind (wpAny_bind (wpAny_onRaise ?_)); show wpAny _ _ (Builtin.SmallTypes.nextOf (.ref i1) >>= _) _ _ _
  have f1 : St1 k1 g1 := C1.keep _ _ _ c1 fun o e => b1.extBut _ _ D.i1z e
  have t1 : Sr1 xs g1 := C1.keepS _ _ _ s1 fun o e => b1.extBut _ _ D.l1z e
  cases kx : xs[k1]? with
  | none =>
    refine wpAny_bind (C1.done _ _ _ _ _ _ (by first | exact hh | assumption) f1 t1 kx fun g2 e b2 ⟨oe, he, ce⟩ => ?_)
    have z2 : IsZip g2 z TI TO .ellipsis := b2 _ _ D.i1z.symm z1
    have ez : e ≠ z := fun q => by subst q; rw [z2] at he; cases he; simp at ce
    refine wpAny_setField_rec z2 (by simp) fun g3 _ b3 => q g3 e (fun c o n1 _ n3 _ x => b3.extBut _ _ n1 (b2 _ _ n3 (b1.extBut _ _ n1 x))) ⟨oe, b3.extBut _ _ ez he, ce⟩
  | some x =>
    have ky : ys[k2]? = none := ke.elim (fun q => by rw [kx] at q; cases q) id
    refine wpAny_bind (C1.item _ _ _ _ _ _ _ f1 t1 kx fun g2 d1 b2 => wpAny_pure ?_)
    have o2 : IsPair g2 TO a b := b2.extBut _ _ D.TOi1 (b1.extBut _ _ D.TOz kO)
    refine wpAny_bind (wpAny_seqItems o2 rfl ?_); refine wpAny_bind (wpAny_updateSeq_pair o2 fun g3 o3 b3 => ?_)
    refine wpAny_bind (wpAny_letGo (wpAny_pure ?_)); refine wpAny_bind (wpAny_bind (wpAny_onRaise ?_)); show wpAny _ _ (Builtin.SmallTypes.nextOf (.ref i2) >>= _) _ _ _
    refine wpAny_bind (C2.done _ _ _ _ _ _ (by first | exact hh | assumption) (C2.keep _ _ _ c2 fun o e => b3.extBut _ _ D.TOi2.symm (b2.extBut _ _ D.i12.symm (b1.extBut _ _ D.i2z e)))
      (C2.keepS _ _ _ s2 fun o e => b3.extBut _ _ D.l2TO (b2.extBut _ _ D.l2i1 (b1.extBut _ _ D.l2z e))) ky fun g4 e b4 ⟨oe, he, ce⟩ => ?_)
    have z4 : IsZip g4 z TI TO .ellipsis := b4 _ _ D.i2z.symm (b3.extBut _ _ D.TOz.symm (b2.extBut _ _ D.i1z.symm z1))
    have ez : e ≠ z := fun q => by subst q; rw [z4] at he; cases he; simp at ce
    refine wpAny_setField_rec z4 (by simp) fun g5 _ b5 => q g5 e (fun c o n1 n2 n3 n4 x => b5.extBut _ _ n1 (b4 _ _ n4 (b3.extBut _ _ n2 (b2.extBut _ _ n3 (b1.extBut _ _ n1 x))))) ⟨oe, b5.extBut _ _ ez he, ce⟩
theorem nextM_item (C1 : Tick P w i1 l1 St1 Sr1) (C2 : Tick P w i2 l2 St2 Sr2) {Q : Option Value → Shared → Prop} (D : ZipApart z TI TO i1 i2 l1 l2) (kz : IsZip s.heap z TI TO .none) (kI : IsPair s.heap TI (.ref i1) (.ref i2)) (kO : IsPair s.heap TO a b)
    (c1 : St1 k1 s.heap) (c2 : St2 k2 s.heap) (s1 : Sr1 xs s.heap) (s2 : Sr2 ys s.heap) (kx : xs[k1]? = some x) (ky : ys[k2]? = some y)
    (q : ∀ g, IsZip g z TI TO (rawInt s.heap.objs.size) → IsPair g TO x y → St1 (k1 + 1) g → St2 (k2 + 1) g → IsPair g s.heap.objs.size x y → g.objs.size = s.heap.objs.size + 1 →
      (∀ c o, c ≠ z → c ≠ TO → c ≠ i1 → c ≠ i2 → s.heap.get? c = some o → g.get? c = some o) → Q (some (.ref s.heap.objs.size)) { s with heap := g }) : wpAny (model P w) A (pyNext (.ref z)) Q E s := by
  have kT : s.TypeIs (.ref z) "zip" := ⟨_, kz, rfl⟩
  unfold pyNext
  refine wpAny_bind (wpAny_attempt (wpAny_callSpecial?_slot (name := Str.ofString "__next__") kT F.slot_zip_next ?_))
  exact wpAny_call_entry F.slot_zip_next kT F.entry_zip_next (zipM_next C1 C2 D kz kI kO c1 c2 s1 s2 kx ky fun g a1 a2 a3 a4 a5 a6 a7 => wpAny_pure (q g a1 a2 a3 a4 a5 a6 a7)) (F.args_zip_next_1 _)
theorem nextM_end (C1 : Tick P w i1 l1 St1 Sr1) (C2 : Tick P w i2 l2 St2 Sr2) {Q : Option Value → Shared → Prop} (hh : A.handled = none) (D : ZipApart z TI TO i1 i2 l1 l2) (kz : IsZip s.heap z TI TO .none) (kI : IsPair s.heap TI (.ref i1) (.ref i2)) (kO : IsPair s.heap TO a b)
    (c1 : St1 k1 s.heap) (c2 : St2 k2 s.heap) (s1 : Sr1 xs s.heap) (s2 : Sr2 ys s.heap) (ke : xs[k1]? = none ∨ ys[k2]? = none)
    (q : ∀ g, (∀ c o, c ≠ z → c ≠ TO → c ≠ i1 → c ≠ i2 → s.heap.get? c = some o → g.get? c = some o) → Q none { s with heap := g }) : wpAny (model P w) A (pyNext (.ref z)) Q E s := by
  have kT : s.TypeIs (.ref z) "zip" := ⟨_, kz, rfl⟩
  unfold pyNext
  refine wpAny_bind (wpAny_attempt (wpAny_callSpecial?_slot (name := Str.ofString "__next__") kT F.slot_zip_next ?_))
  refine wpAny_call_entry F.slot_zip_next kT F.entry_zip_next (zipM_end C1 C2 hh D kz kI kO c1 c2 s1 s2 ke fun g e kk ⟨o, ho, hc⟩ => ?_) (F.args_zip_next_1 _)
  refine wpAny_bind (wpAny_isInstance (T := "StopIteration") (b := true) ⟨o, ho, hc⟩ isSubtype_stop ?_)
  exact wpAny_pure (q _ kk)
end
/-! ### at the level of the frame -/
structure Sou (Sq : Fr0 → Hp → Addr → List V → Prop) (Sr : Addr → Array Value → Heap → Prop) : Prop where
  get : ∀ {X : Cx} {pins : List (Addr × Obj)} {σ : L2.St} {H : Hp} {s : Shared} {a : Addr} {xs : List V}, Inv X pins σ H s → Sq X.K H a xs → ∃ us : List Value, Vals xs us ∧ Sr a us.toArray s.heap ∧ a < s.heap.objs.size
  inj : ∀ {X : Cx} {pins : List (Addr × Obj)} {σ : L2.St} {H : Hp} {s : Shared} {a : Addr} {xs ys : List V}, Inv X pins σ H s → Sq X.K H a xs → Sq X.K H a ys → xs = ys
theorem sou_l : Sou SqL (fun a xs h => h.IsList a xs) := ⟨fun I h => let ⟨us, r, p, _⟩ := I.list h; ⟨us, r, p.isList, p.lt⟩, fun I h h' => I.list_inj h h'⟩
theorem sou_t : Sou SqT (fun a xs h => h.IsTuple a xs) := ⟨fun I h => let ⟨us, r, p, _⟩ := I.tuple h; ⟨us, r, p, let ⟨_, e, _⟩ := p; Heap.lt_size e⟩, fun I h h' => I.tuple_inj h h'⟩
/-- the items of both, in new pairs -/
def ItM (S1 S2 : Fr0 → Hp → Addr → List V → Prop) (K : Fr0) (a b : Addr) : It where
  go := fun i H => ∃ (xs ys : List V) (x y : V), S1 K H a xs ∧ S2 K H b ys ∧ xs[i]? = some x ∧ ys[i]? = some y
  yld := fun i H v H' => ∃ (T : Addr) (x y : V), v = .ref T ∧ H T = none ∧ H' = upd H T (.tup [x, y]) ∧ (∀ l, S1 K H a l → l[i]? = some x) ∧ ∀ l, S2 K H b l → l[i]? = some y
  stop := fun i H => ∃ xs ys : List V, S1 K H a xs ∧ S2 K H b ys ∧ (xs.length ≤ i ∨ ys.length ≤ i)
theorem turn_zipM {P : Program} {w : World} {K : Fr0} {S1 S2 : Fr0 → Hp → Addr → List V → Prop} {R1 R2 : Addr → Array Value → Heap → Prop} {elts : List Expr} {kk : Nat} {tpos : Pos} {a b z TI TO i1 i2 : Addr} {J1 J2 : Nat → Heap → Prop} (U1 : Sou S1 R1) (U2 : Sou S2 R2)
    (C1 : Tick P w i1 a J1 (R1 a)) (C2 : Tick P w i2 b J2 (R2 b)) (D : ZipApart z TI TO i1 i2 a b) :
    Turn P w K (.Tuple elts kk tpos) (ItM S1 S2 K a b) [z, TI, TO, i1, i2] z (fun i h => IsZip h z TI TO .none ∧ IsPair h TI (.ref i1) (.ref i2) ∧ (∃ x y, IsPair h TO x y) ∧ J1 i h ∧ J2 i h) where
  mem := List.mem_cons_self
  obj := fun i h st c hc => by
    obtain ⟨kz, kI, ⟨x, y, kO⟩, c1, c2⟩ := st
    obtain ⟨o1, _, e1, d1⟩ := C1.obj _ _ c1
    obtain ⟨o2, _, e2, d2⟩ := C2.obj _ _ c2
    simp only [List.mem_cons, List.mem_nil_iff, or_false] at hc
    rcases hc with rfl | rfl | rfl | rfl | rfl
    · exact ⟨_, kz, fun v q => nomatch q⟩
    · exact ⟨_, kI, fun v q => nomatch q⟩
    · exact ⟨_, kO, fun v q => nomatch q⟩
    · exact ⟨o1, e1, fun v q => by rw [d1] at q; cases q⟩
    · exact ⟨o2, e2, fun v q => by rw [d2] at q; cases q⟩
  keep := fun i h h' ⟨kz, kI, ⟨x, y, kO⟩, c1, c2⟩ k => ⟨k z (by simp) _ kz, k TI (by simp) _ kI, ⟨x, y, k TO (by simp) _ kO⟩, C1.keep _ _ _ c1 fun o q => k i1 (by simp) o q, C2.keep _ _ _ c2 fun o q => k i2 (by simp) o q⟩
  item := by
    rintro X rfl rfl rfl hc i pins s σ H E I hf ⟨kz, kI, ⟨x0, y0, kO⟩, c1, c2⟩ ⟨xs, ys, x, y, qx, qy, hx, hy⟩
    obtain ⟨us, rv, p1, _⟩ := U1.get I qx
    obtain ⟨us2, rv2, p2, _⟩ := U2.get I qy
    obtain ⟨u, hu, ru⟩ := rv.get hx
    obtain ⟨u2, hu2, ru2⟩ := rv2.get hy
    have zl : z < s.heap.objs.size := Heap.lt_size kz
    refine nextM_item C1 C2 D kz kI kO c1 c2 p1 p2 (x := u) (y := u2) (by simpa using hu) (by simpa using hu2) fun g z' TO' d1 d2 hT hsz hk => ⟨_, rfl, wpAny_letOwnedTupleGo_zip (s := { s with heap := g }) z' fun g2 z2 sb => ?_⟩
    have hT2 : g2.get? s.heap.objs.size = some { cls := .type "tuple", data := .seq #[u, u2] } := (sb.2 _ (Nat.ne_of_gt zl)).trans hT
    have fresh : ObjOk X.prog X.w (upd H s.heap.objs.size (.tup [x, y])) g2 s.heap.objs.size (.tup [x, y]) := ⟨by show 2 ≤ sizeLine; decide, [u, u2], .cons ru (.cons ru2 .nil), ⟨_, hT2, rfl, _, rfl⟩⟩
    have kept : ∀ c o, c ∉ [z, TI, TO, i1, i2] → s.heap.get? c = some o → g2.get? c = some o := fun c o hb q => by
      simp only [List.mem_cons, List.mem_nil_iff, or_false, not_or] at hb
      exact (sb.2 c hb.1).trans (hk c o hb.1 hb.2.2.1 hb.2.2.2.1 hb.2.2.2.2 q)
    have I1 : Inv X pins σ (upd H s.heap.objs.size (.tup [x, y])) { s with heap := g2 } := I.turnedNew (t' := s.toks) (ch := [z, TI, TO, i1, i2]) kept hf (Nat.le_refl _) fresh
    refine ⟨.ref s.heap.objs.size, _, I1, rfl, ⟨_, x, y, rfl, I.hok.fresh (Nat.le_refl _), rfl, fun l hl => by rw [U1.inj I hl qx]; exact hx, fun l hl => by rw [U2.inj I hl qy]; exact hy⟩, ⟨z2, ?_, ⟨u, u2, ?_⟩, ?_, ?_⟩, fun c hcm => ?_⟩
    · exact (sb.2 _ D.TIz).trans (hk _ _ D.TIz D.TITO D.TIi1 D.TIi2 kI)
    · exact (sb.2 _ D.TOz).trans TO'
    · exact C1.keep _ _ _ d1 fun o q => (sb.2 _ D.i1z).trans q
    · exact C2.keep _ _ _ d2 fun o q => (sb.2 _ D.i2z).trans q
    · obtain ⟨o1, _, e1, _⟩ := C1.obj _ _ c1
      obtain ⟨o2, _, e2, _⟩ := C2.obj _ _ c2
      have lt : c < s.heap.objs.size := by
        simp only [List.mem_cons, List.mem_nil_iff, or_false] at hcm
        rcases hcm with rfl | rfl | rfl | rfl | rfl
        · exact zl
        · exact Heap.lt_size kI
        · exact Heap.lt_size kO
        · exact Heap.lt_size e1
        · exact Heap.lt_size e2
      rw [upd_ne (Nat.ne_of_lt lt)]
      exact (hf c hcm).1
  done := by
    rintro X rfl rfl rfl hc i pins s σ H E I hf ⟨kz, kI, ⟨x0, y0, kO⟩, c1, c2⟩ ⟨xs, ys, qx, qy, ke⟩
    obtain ⟨us, rv, p1, _⟩ := U1.get I qx
    obtain ⟨us2, rv2, p2, _⟩ := U2.get I qy
    have l1 := rv.length
    have l2 := rv2.length
    have he : us.toArray[i]? = none ∨ us2.toArray[i]? = none := ke.imp (fun q => by simp; omega) (fun q => by simp; omega)
    refine nextM_end C1 C2 (I.ok.hd hc) D kz kI kO c1 c2 p1 p2 he fun g hk => ⟨rfl, I.turnedL (t' := s.toks) (ch := [z, TI, TO, i1, i2]) (fun c o hb q => ?_) hf⟩
    simp only [List.mem_cons, List.mem_nil_iff, or_false, not_or] at hb
    exact hk c o hb.1 hb.2.2.1 hb.2.2.2.1 hb.2.2.2.2 q
  self := fun A i s Q E st h => wpAny_pyIter_zip st.1 h
/-! ### made -/
abbrev mk1 (t : String) (h : Heap) (l : Addr) : Heap := h.push { cls := .type t, data := .fields #[.ref l, .int 0 0] }
abbrev mk3 (t u : String) (h : Heap) (l m : Addr) : Heap := (mk1 u (mk1 t h l) m).push { cls := .type "tuple", data := .seq #[.ref h.objs.size, .ref (mk1 t h l).objs.size] }
abbrev mk4 (t u : String) (h : Heap) (l m : Addr) : Heap := (mk3 t u h l m).push { cls := .type "tuple", data := .seq #[.none, .none] }
abbrev mk5 (t u : String) (h : Heap) (l m : Addr) : Heap := (mk4 t u h l m).push { cls := .type "zip", data := .fields #[.none, .bool false, .bool false, .ref (mk1 u (mk1 t h l) m).objs.size, .ref (mk3 t u h l m).objs.size] }
theorem meets_tl (l m : Addr) (xs ys : Array Value) : Meets (Builtin.«zip.__new__» ⟨[.type "zip", .ref l, .ref m], []⟩) (fun _ R s => s.heap.IsTuple l xs ∧ s.heap.IsList m ys ∧
      R (.ok (.ret (.ref (mk4 "tuple_iterator" "list_iterator" s.heap l m).objs.size))) { s with heap := mk5 "tuple_iterator" "list_iterator" s.heap l m }) :=
  .of_wp fun prog w A R s h => by
    obtain ⟨hp, g, d, tk, os⟩ := s
    obtain ⟨h1, h2, h⟩ := h
    have zs := sub_zip
    have e1 : Heap.IsTuple (Shared.heap ⟨hp, g, d, tk, os⟩) l xs := h1
    have e2 : Heap.IsList (Shared.heap ⟨mk1 "tuple_iterator" hp l, g, d, tk, os⟩) m ys := Heap.IsList.push h2 _
    wp_walk using wpAny_pyIter_tuple e1, wpAny_pyIter_list e2
    exact ⟨_, rfl, h⟩
theorem meets_lt (l m : Addr) (xs ys : Array Value) : Meets (Builtin.«zip.__new__» ⟨[.type "zip", .ref l, .ref m], []⟩) (fun _ R s => s.heap.IsList l xs ∧ s.heap.IsTuple m ys ∧
      R (.ok (.ret (.ref (mk4 "list_iterator" "tuple_iterator" s.heap l m).objs.size))) { s with heap := mk5 "list_iterator" "tuple_iterator" s.heap l m }) :=
  .of_wp fun prog w A R s h => by
    obtain ⟨hp, g, d, tk, os⟩ := s
    obtain ⟨h1, h2, h⟩ := h
    have zs := sub_zip
    have e1 : Heap.IsList (Shared.heap ⟨hp, g, d, tk, os⟩) l xs := h1
    have e2 : Heap.IsTuple (Shared.heap ⟨mk1 "list_iterator" hp l, g, d, tk, os⟩) m ys := Heap.IsTuple.push h2 _
    wp_walk using wpAny_pyIter_list e1, wpAny_pyIter_tuple e2
    exact ⟨_, rfl, h⟩
section
variable {prog : Program} {w : World} {A : Around} {E : Value → Shared → Prop} {s : Shared}
/-- what stands where behind the making -/
structure Made (s : Shared) (t u : String) (l m : Addr) (g : Heap) : Prop where
  z : IsZip g (s.heap.objs.size + 4) (s.heap.objs.size + 2) (s.heap.objs.size + 3) .none
  i : IsPair g (s.heap.objs.size + 2) (.ref s.heap.objs.size) (.ref (s.heap.objs.size + 1))
  o : IsPair g (s.heap.objs.size + 3) .none .none
  a : g.get? s.heap.objs.size = some { cls := .type t, data := .fields #[.ref l, .int 0 0] }
  b : g.get? (s.heap.objs.size + 1) = some { cls := .type u, data := .fields #[.ref m, .int 0 0] }
  k : ∀ c o, s.heap.get? c = some o → g.get? c = some o
theorem made_mk5 (t u : String) (l m : Addr) (s : Shared) : Made s t u l m (mk5 t u s.heap l m) ∧ (mk4 t u s.heap l m).objs.size = s.heap.objs.size + 4 := by
  have z1 : (mk1 t s.heap l).objs.size = s.heap.objs.size + 1 := Heap.size_push ..
  have z2 : (mk1 u (mk1 t s.heap l) m).objs.size = s.heap.objs.size + 2 := by rw [Heap.size_push, z1]
  have z3 : (mk3 t u s.heap l m).objs.size = s.heap.objs.size + 3 := by rw [Heap.size_push, z2]
  have z4 : (mk4 t u s.heap l m).objs.size = s.heap.objs.size + 4 := by rw [Heap.size_push, z3]
  have g5 : (mk5 t u s.heap l m).get? (mk4 t u s.heap l m).objs.size = some _ := Heap.get?_push_size _ rfl
  have g4 : (mk5 t u s.heap l m).get? (mk3 t u s.heap l m).objs.size = some _ := Heap.get?_push_of_some _ (Heap.get?_push_size _ rfl)
  have g3 : (mk5 t u s.heap l m).get? (mk1 u (mk1 t s.heap l) m).objs.size = some _ := Heap.get?_push_of_some _ (Heap.get?_push_of_some _ (Heap.get?_push_size _ rfl))
  have g2 : (mk5 t u s.heap l m).get? (mk1 t s.heap l).objs.size = some _ := Heap.get?_push_of_some _ (Heap.get?_push_of_some _ (Heap.get?_push_of_some _ (Heap.get?_push_size _ rfl)))
  have g1 : (mk5 t u s.heap l m).get? s.heap.objs.size = some _ := Heap.get?_push_of_some _ (Heap.get?_push_of_some _ (Heap.get?_push_of_some _ (Heap.get?_push_of_some _ (Heap.get?_push_size _ rfl))))
  rw [z2, z3, z4] at g5
  rw [z1, z2] at g3
  rw [z3] at g4
  rw [z1] at g2
  exact ⟨⟨g5, g3, g4, g1, g2, fun c o x => Heap.get?_push_of_some _ (Heap.get?_push_of_some _ (Heap.get?_push_of_some _ (Heap.get?_push_of_some _ (Heap.get?_push_of_some _ x))))⟩, z4⟩
theorem call_zipTL {l m : Addr} {xs ys : Array Value} {Q : Value → Shared → Prop} (h1 : s.heap.IsTuple l xs) (h2 : s.heap.IsList m ys) (q : ∀ g, Made s "tuple_iterator" "list_iterator" l m g → Q (.ref (s.heap.objs.size + 4)) { s with heap := g }) :
    wpAny (model prog w) A (call (.type "zip") [.ref l, .ref m]) Q E s := by
  refine callType_new F.called_zip (by decide) (F.typeCall_zip_2 _ _) (F.newCall_zip_2 _ _) (fun obj => F.args_object_init_3 obj _ _) F.entry_zip_new (meets_tl l m xs ys) ⟨h1, h2, ?_⟩
  obtain ⟨md, z4⟩ := made_mk5 "tuple_iterator" "list_iterator" l m s
  show _ ∧ _
  rw [z4]
  exact ⟨⟨_, md.z, rfl⟩, q _ md⟩
theorem call_zipLT {l m : Addr} {xs ys : Array Value} {Q : Value → Shared → Prop} (h1 : s.heap.IsList l xs) (h2 : s.heap.IsTuple m ys) (q : ∀ g, Made s "list_iterator" "tuple_iterator" l m g → Q (.ref (s.heap.objs.size + 4)) { s with heap := g }) :
    wpAny (model prog w) A (call (.type "zip") [.ref l, .ref m]) Q E s := by
  refine callType_new F.called_zip (by decide) (F.typeCall_zip_2 _ _) (F.newCall_zip_2 _ _) (fun obj => F.args_object_init_3 obj _ _) F.entry_zip_new (meets_lt l m xs ys) ⟨h1, h2, ?_⟩
  obtain ⟨md, z4⟩ := made_mk5 "list_iterator" "tuple_iterator" l m s
  show _ ∧ _
  rw [z4]
  exact ⟨⟨_, md.z, rfl⟩, q _ md⟩
end
def iZipM (K : Fr0) (ta : TA) : TI := fun σ H R => ta σ H fun vs H1 => ∃ a b xs ys, vs = [.ref a, .ref b] ∧ ((SqT K H1 a xs ∧ SqL K H1 b ys ∧ R (ItM SqT SqL K a b) H1) ∨ (SqL K H1 a xs ∧ SqT K H1 b ys ∧ R (ItM SqL SqT K a b) H1))
theorem pi_zipM {X : Cx} {e e2 : Expr} {ta : TA} {p pos tpos : Pos} {elts : List Expr} {kk : Nat} (hg : Gl X "zip") (hm : X.mg "zip" = none) (ha : PA X [e, e2] ta)
    (hs : starEach [e, e2] X.env = (false, eval e X.env) :: starEach [e2] X.env := by rfl) (hpl : (backTo pos (starEach [e2] X.env)).any (·.1) = false := by rfl) : PI X (.Tuple elts kk tpos) (.Call (.Name "zip" p) [e, e2] [] pos) (iZipM X.K ta) := by
  refine ⟨fun pins s σ H R I h => ?_⟩
  refine Call_ (ld_blt I hg hm PyProof.Rows.boot_zip (PyProof.Rows.callWith_type1 (thn (ha.run pos pins s σ H _ I h) fun us s1 ⟨vs, H1, I1, r1, a, b, xs, ys, ex, q1⟩ => ?_) hs hpl))
  subst ex
  cases r1 with
  | cons r rr =>
    cases rr with
    | cons r' rr =>
      cases rr
      cases r
      cases r'
      have fresh5 : ∀ c, c ∈ [s1.heap.objs.size + 4, s1.heap.objs.size + 2, s1.heap.objs.size + 3, s1.heap.objs.size, s1.heap.objs.size + 1] → FpOk X pins H1 c := fun c hcm => by
        have hle : s1.heap.objs.size ≤ c := by
          simp only [List.mem_cons, List.mem_nil_iff, or_false] at hcm
          omega
        exact I1.fpOk hle (I1.hok.fresh hle)
      rcases q1 with ⟨qx, qy, q⟩ | ⟨qx, qy, q⟩
      · obtain ⟨us, rv, p1, lt1⟩ := sou_t.get I1 qx
        obtain ⟨us2, rv2, p2, lt2⟩ := sou_l.get I1 qy
        refine call_zipTL p1 p2 fun g md => wpAny_pyIter_zip md.z ?_
        exact ⟨s1.heap.objs.size + 4, _, _, _, H1, rfl, I1.kept (t' := s1.toks) md.k, turn_zipM sou_t sou_l (tick_tup _ _) (tick_lst _ _) (PySem.W.ktu_apart s1.heap.objs.size a b lt1 lt2), ⟨md.z, md.i, ⟨_, _, md.o⟩, ⟨_, md.a, rfl, rfl⟩, ⟨_, md.b, rfl, rfl⟩⟩, fresh5, q⟩
      · obtain ⟨us, rv, p1, lt1⟩ := sou_l.get I1 qx
        obtain ⟨us2, rv2, p2, lt2⟩ := sou_t.get I1 qy
        refine call_zipLT p1 p2 fun g md => wpAny_pyIter_zip md.z ?_
        exact ⟨s1.heap.objs.size + 4, _, _, _, H1, rfl, I1.kept (t' := s1.toks) md.k, turn_zipM sou_l sou_t (tick_lst _ _) (tick_tup _ _) (PySem.W.ktu_apart s1.heap.objs.size a b lt1 lt2), ⟨md.z, md.i, ⟨_, _, md.o⟩, ⟨_, md.a, rfl, rfl⟩, ⟨_, md.b, rfl, rfl⟩⟩, fresh5, q⟩
theorem walk_zipM {S1 S2 : Fr0 → Hp → Addr → List V → Prop} {K : Fr0} {a b : Addr} {xs ys : List V} {n : Nat} (hn : n = min xs.length ys.length) : Walk (ItM S1 S2 K a b) n (fun H => S1 K H a xs ∧ S2 K H b ys) (YPair (fun i => xs[i]?) (fun i => ys[i]?)) := by
  subst hn
  refine ⟨fun i H hi q => ⟨xs, ys, xs[i]'(by omega), ys[i]'(by omega), q.1, q.2, List.getElem?_eq_getElem _, List.getElem?_eq_getElem _⟩, fun H q => ⟨xs, ys, q.1, q.2, by omega⟩, fun i H x H' hi q y => ?_⟩
  obtain ⟨T, x1, y1, e1, e2, e3, h1, h2⟩ := y
  exact ⟨T, x1, y1, e1, e2, e3, h1 xs q.1, h2 ys q.2⟩
def dZipM : List D → Option (List D)
  | [.list xs, .tuple ys] => some (pairs xs ys)
  | [.tuple xs, .list ys] => some (pairs xs ys)
  | _ => none
/-- zip of any two -/
def dZipA (ds : List D) : Option (List D) := match dZip ds with
  | some r => some r
  | none => dZipM ds
section
variable {X : Cx} {W : WN}
theorem pmi_zipA {a b : Expr} {elts : List Expr} {kk : Nat} {tpos p pos : Pos} {G : GA} (hg : Gl X "zip") (hm : X.mg "zip" = none) (ha : PMA X W [a, b] G)
    (hs : starEach [a, b] X.env = (false, eval a X.env) :: starEach [b] X.env := by rfl) (hpl : (backTo pos (starEach [b] X.env)).any (·.1) = false := by rfl) :
    PMI' X W (.Tuple elts kk tpos) (.Call (.Name "zip" p) [a, b] [] pos) (gB G fun ds => gO (dZipA ds)) := ⟨⟨fun pins s σ H R I q => by
  obtain ⟨Fb, μ, m, r, R0, g, k⟩ := q
  replace g := (gB_def _ _ _).symm.trans g
  split at g
  · cases g
  · rename_i ds e1 hd
    obtain ⟨items, h1, rfl⟩ := gO_some g
    unfold dZipA at h1
    split at h1
    · rename_i it hz
      cases h1
      exact (pmi_zip (W := W) hg hm ha hs hpl).pi.run pins s σ H R I ⟨Fb, μ, m, _, R0, by unfold gB gO; rw [hd]; dsimp only; rw [hz], k⟩
    · refine (pi_zipM hg hm ha.pa hs hpl).run pins s σ H R I ⟨Fb, μ, m, _, R0, hd, fun μ1 H1 t1 R1 v hv => ?_⟩
      unfold dZipM at h1
      split at h1
      · cases h1
        obtain ⟨v, u, rfl, h, h'⟩ := hv.two
        obtain ⟨a, vs, rfl, na, ha, da⟩ := PD.Dn.lstInv h
        cases h' with
        | tup hb db =>
          rename_i b ws
          exact ⟨a, b, vs, ws, rfl, .inr ⟨SqL.of ha, PD.sqt_of hb, k μ1 H1 t1 R1 _ (wk_of (walk_zipM (xs := vs) (ys := ws) rfl) (by rw [pairs_length, da.length, db.length]) (fun F2 H2 m => ⟨SqL.of (m a _ na ha nt_lst).2, sqt_mv hb m⟩) fun F2 H2 m fr i d x H3 hd y => pair_dn fr hd y (da.mv m) (db.mv m))⟩⟩
      · cases h1
        obtain ⟨v, u, rfl, h, h'⟩ := hv.two
        obtain ⟨b, ws, rfl, nb, hb, db⟩ := PD.Dn.lstInv h'
        cases h with
        | tup ha da =>
          rename_i a vs
          exact ⟨a, b, vs, ws, rfl, .inl ⟨PD.sqt_of ha, SqL.of hb, k μ1 H1 t1 R1 _ (wk_of (walk_zipM (xs := vs) (ys := ws) rfl) (by rw [pairs_length, da.length, db.length]) (fun F2 H2 m => ⟨sqt_mv ha m, SqL.of (m b _ nb hb nt_lst).2⟩) fun F2 H2 m fr i d x H3 hd y => pair_dn fr hd y (da.mv m) (db.mv m))⟩⟩
      · cases h1
  · rename_i c fs e1 hd
    cases g
    exact (pi_zipM hg hm ha.pa hs hpl).run pins s σ H R I ⟨Fb, μ, m, _, R0, hd, k⟩⟩⟩
end
end PM
namespace K39
open PySem PySem.Spec PyProof.Rows L2 PM
def topS (i : Nat) : Stmt := PySem.Challenge.pw_nextsuch_k39_namings_by_hand_and_refused.main.body.getD i (.Pass ⟨0, 0, 0, 0⟩)
abbrev s_least_text : Stmt := topS 4
abbrev n_least_text : List Str := ["starts", "go_on", "is_end", "groups", "seen", "own", "at", "text", "group", "letter", "fresh", "there"]
theorem sc_least_text : FnScope n_least_text ["starts", "go_on", "is_end"] (defScope s_least_text) := ⟨rfl, rfl, rfl, by decide +kernel, rfl, by decide +kernel, by decide +kernel⟩
abbrev s_asked_from : Stmt := topS 9
abbrev n_asked_from : List Str := ["naming", "row", "longer", "at"]
theorem sc_asked_from : FnScope n_asked_from ["naming", "row", "longer"] (defScope s_asked_from) := ⟨rfl, rfl, rfl, by decide +kernel, rfl, by decide +kernel, by decide +kernel⟩
abbrev s_marks_told : Stmt := topS 10
abbrev n_marks_told : List Str := ["pair", "mark", "asked", "letter", "side", "letters"]
theorem sc_marks_told : FnScope n_marks_told ["pair", "mark", "asked", "letter"] (defScope s_marks_told) := ⟨rfl, rfl, rfl, by decide +kernel, rfl, by decide +kernel, by decide +kernel⟩
abbrev s_rows_behind : Stmt := topS 11
abbrev n_rows_behind : List Str := ["naming", "row", "letter", "told", "at", "pair", "longer", "mark"]
theorem sc_rows_behind : FnScope n_rows_behind ["naming", "row", "letter"] (defScope s_rows_behind) := ⟨rfl, rfl, rfl, by decide +kernel, rfl, by decide +kernel, by decide +kernel⟩
abbrev s_marks_at_front : Stmt := topS 12
abbrev n_marks_at_front : List Str := ["side", "longer"]
theorem sc_marks_at_front : FnScope n_marks_at_front ["side", "longer"] (defScope s_marks_at_front) := ⟨rfl, rfl, rfl, by decide +kernel, rfl, by decide +kernel, by decide +kernel⟩
abbrev s_rows_at_front : Stmt := topS 13
abbrev n_rows_at_front : List Str := ["naming", "told", "side", "_", "longer", "mark"]
theorem sc_rows_at_front : FnScope n_rows_at_front ["naming"] (defScope s_rows_at_front) := ⟨rfl, rfl, rfl, by decide +kernel, rfl, by decide +kernel, by decide +kernel⟩
abbrev s_can_end : Stmt := topS 14
abbrev n_can_end : List Str := ["naming", "row", "mark", "side", "_"]
theorem sc_can_end : FnScope n_can_end ["naming", "row"] (defScope s_can_end) := ⟨rfl, rfl, rfl, by decide +kernel, rfl, by decide +kernel, by decide +kernel⟩
abbrev s_how_they_lie : Stmt := topS 15
abbrev n_how_they_lie : List Str := ["lies", "row", "other_row"]
theorem sc_how_they_lie : FnScope n_how_they_lie ["lies", "row", "other_row"] (defScope s_how_they_lie) := ⟨rfl, rfl, rfl, by decide +kernel, rfl, by decide +kernel, by decide +kernel⟩
abbrev s_text_lying : Stmt := topS 16
abbrev n_text_lying : List Str := ["wide", "one", "other", "words", "starts", "row", "other_row", "go_on", "is_end"]
theorem sc_text_lying : FnScope n_text_lying ["wide", "one", "other", "words"] (defScope s_text_lying) := ⟨rfl, rfl, rfl, by decide +kernel, rfl, by decide +kernel, by decide +kernel⟩
abbrev s_text_lying__go_on : Stmt := (defBody s_text_lying).getD 1 (.Pass ⟨0, 0, 0, 0⟩)
abbrev n_text_lying__go_on : List Str := ["own", "letter", "one", "other", "wide", "here", "there", "lies", "row", "other_row"]
theorem ms_text_lying__go_on : MScope n_text_lying__go_on ["own", "letter"] ["one", "other", "wide"] (C8.fnScope s_text_lying__go_on) := ⟨rfl, rfl, rfl, by decide +kernel, rfl, by decide +kernel, by decide +kernel, by decide +kernel, by decide +kernel⟩
theorem fr_text_lying__go_on : ∀ y ∈ (C8.fnScope s_text_lying__go_on).names, y.2 = .free → (defScope s_text_lying).names.lookup y.1 = some .cell ∨ (defScope s_text_lying).names.lookup y.1 = some .free := by decide +kernel
theorem ff_text_lying__go_on : ∀ y ∈ (["one", "other", "wide"] : List Str), (y, NameKind.free) ∈ (C8.fnScope s_text_lying__go_on).names := by decide +kernel
abbrev s_text_lying__is_end : Stmt := (defBody s_text_lying).getD 2 (.Pass ⟨0, 0, 0, 0⟩)
abbrev n_text_lying__is_end : List Str := ["own", "one", "other", "words", "here", "there", "lies"]
theorem ms_text_lying__is_end : MScope n_text_lying__is_end ["own"] ["one", "other", "words"] (C8.fnScope s_text_lying__is_end) := ⟨rfl, rfl, rfl, by decide +kernel, rfl, by decide +kernel, by decide +kernel, by decide +kernel, by decide +kernel⟩
theorem fr_text_lying__is_end : ∀ y ∈ (C8.fnScope s_text_lying__is_end).names, y.2 = .free → (defScope s_text_lying).names.lookup y.1 = some .cell ∨ (defScope s_text_lying).names.lookup y.1 = some .free := by decide +kernel
theorem ff_text_lying__is_end : ∀ y ∈ (["one", "other", "words"] : List Str), (y, NameKind.free) ∈ (C8.fnScope s_text_lying__is_end).names := by decide +kernel
abbrev s_are_one : Stmt := topS 18
abbrev n_are_one : List Str := ["wide", "one", "other"]
theorem sc_are_one : FnScope n_are_one ["wide", "one", "other"] (defScope s_are_one) := ⟨rfl, rfl, rfl, by decide +kernel, rfl, by decide +kernel, by decide +kernel⟩
abbrev s_order_of : Stmt := topS 19
abbrev n_order_of : List Str := ["wide", "one", "other", "told", "word"]
theorem sc_order_of : FnScope n_order_of ["wide", "one", "other"] (defScope s_order_of) := ⟨rfl, rfl, rfl, by decide +kernel, rfl, by decide +kernel, by decide +kernel⟩
abbrev s__law_same : Stmt := topS 25
abbrev n__law_same : List Str := ["near", "goal", "mine_so", "own"]
theorem sc__law_same : FnScope n__law_same ["near", "goal"] (defScope s__law_same) := ⟨rfl, rfl, rfl, by decide +kernel, rfl, by decide +kernel, by decide +kernel⟩
abbrev s_unlike_named : Stmt := topS 20
abbrev n_unlike_named : List Str := ["wide", "one", "other", "text"]
theorem sc_unlike_named : FnScope n_unlike_named ["wide", "one", "other"] (defScope s_unlike_named) := ⟨rfl, rfl, rfl, by decide +kernel, rfl, by decide +kernel, by decide +kernel⟩
abbrev s_text_there : Stmt := topS 17
abbrev n_text_there : List Str := ["wide", "naming", "what", "starts", "row", "go_on", "is_end"]
theorem sc_text_there : FnScope n_text_there ["wide", "naming", "what"] (defScope s_text_there) := ⟨rfl, rfl, rfl, by decide +kernel, rfl, by decide +kernel, by decide +kernel⟩
abbrev s_text_there__go_on : Stmt := (defBody s_text_there).getD 1 (.Pass ⟨0, 0, 0, 0⟩)
abbrev n_text_there__go_on : List Str := ["own", "letter", "naming", "wide", "here", "stands", "row"]
theorem ms_text_there__go_on : MScope n_text_there__go_on ["own", "letter"] ["naming", "wide"] (C8.fnScope s_text_there__go_on) := ⟨rfl, rfl, rfl, by decide +kernel, rfl, by decide +kernel, by decide +kernel, by decide +kernel, by decide +kernel⟩
theorem fr_text_there__go_on : ∀ y ∈ (C8.fnScope s_text_there__go_on).names, y.2 = .free → (defScope s_text_there).names.lookup y.1 = some .cell ∨ (defScope s_text_there).names.lookup y.1 = some .free := by decide +kernel
theorem ff_text_there__go_on : ∀ y ∈ (["naming", "wide"] : List Str), (y, NameKind.free) ∈ (C8.fnScope s_text_there__go_on).names := by decide +kernel
abbrev s_text_there__is_end : Stmt := (defBody s_text_there).getD 2 (.Pass ⟨0, 0, 0, 0⟩)
abbrev n_text_there__is_end : List Str := ["own", "naming", "what", "here", "stands"]
theorem ms_text_there__is_end : MScope n_text_there__is_end ["own"] ["naming", "what"] (C8.fnScope s_text_there__is_end) := ⟨rfl, rfl, rfl, by decide +kernel, rfl, by decide +kernel, by decide +kernel, by decide +kernel, by decide +kernel⟩
theorem fr_text_there__is_end : ∀ y ∈ (C8.fnScope s_text_there__is_end).names, y.2 = .free → (defScope s_text_there).names.lookup y.1 = some .cell ∨ (defScope s_text_there).names.lookup y.1 = some .free := by decide +kernel
theorem ff_text_there__is_end : ∀ y ∈ (["naming", "what"] : List Str), (y, NameKind.free) ∈ (C8.fnScope s_text_there__is_end).names := by decide +kernel
abbrev s_text_with : Stmt := topS 22
abbrev n_text_with : List Str := ["wide", "naming", "what", "text"]
theorem sc_text_with : FnScope n_text_with ["wide", "naming", "what"] (defScope s_text_with) := ⟨rfl, rfl, rfl, by decide +kernel, rfl, by decide +kernel, by decide +kernel⟩
abbrev s__law_heard : Stmt := topS 26
abbrev n__law_heard : List Str := ["door", "wide_so", "one_so", "two", "found_so", "flaw"]
theorem sc__law_heard : FnScope n__law_heard ["door", "wide_so", "one_so", "two"] (defScope s__law_heard) := ⟨rfl, rfl, rfl, by decide +kernel, rfl, by decide +kernel, by decide +kernel⟩
abbrev s__law_pairs_right : Stmt := topS 27
abbrev n__law_pairs_right : List Str := ["before", "first_1", "last_1", "any_so", "second", "rows", "got", "own"]
theorem sc__law_pairs_right : FnScope n__law_pairs_right [] (defScope s__law_pairs_right) := ⟨rfl, rfl, rfl, by decide +kernel, rfl, by decide +kernel, by decide +kernel⟩
abbrev s_letters_there : Stmt := topS 21
abbrev n_letters_there : List Str := ["wide", "naming", "what"]
theorem sc_letters_there : FnScope n_letters_there ["wide", "naming"] (defScope s_letters_there) := ⟨rfl, rfl, rfl, by decide +kernel, rfl, by decide +kernel, by decide +kernel⟩
abbrev s__law_lists : Stmt := topS 24
abbrev n__law_lists : List Str := ["matter", "bit"]
theorem sc__law_lists : FnScope n__law_lists ["matter"] (defScope s__law_lists) := ⟨rfl, rfl, rfl, by decide +kernel, rfl, by decide +kernel, by decide +kernel⟩
abbrev s__law_there_right : Stmt := topS 28
abbrev n__law_there_right : List Str := ["before", "first_1", "second", "back_so", "gone_so", "got", "own", "rows", "soft", "other_so"]
theorem sc__law_there_right : FnScope n__law_there_right [] (defScope s__law_there_right) := ⟨rfl, rfl, rfl, by decide +kernel, rfl, by decide +kernel, by decide +kernel⟩
abbrev s_law : Stmt := topS 29
abbrev n_law : List Str := ["script"]
theorem sc_law : FnScope n_law ["script"] (defScope s_law) := ⟨rfl, rfl, rfl, by decide +kernel, rfl, by decide +kernel, by decide +kernel⟩
def q1_least_text : Gs := (gSeq (gIfS (gBool (gIn2 true (gD (gVar 11)) (gVar 4))) (gSeq (gSet (gI (gP (.bool true))) (gVar 4) (gD (gVar 11)))
    (gSeq (gS (gMet fApp (gVar 10) (gConsL (gVar 11) (gP []))) fun _ m => some (.nx m))
    gSkip)) gSkip)
    gSkip)
def q2_least_text : Gs := (gSeq (gFor (gSeqOf (gCallFn 1 (PM.gCons (gD (gVar 5)) (PM.gCons (gD (gVar 9)) (gP []))))) (Tg.one 11) q1_least_text)
    gSkip)
def q3_least_text : Gs := (gSeq (gAsg 10 (gOwn (gLst (gP []))))
    (gSeq (gFor (gSeqOf (gD (gVar 8))) (Tg.one 5) q2_least_text)
    (gSeq (gIfS (gBool (gOp (PD.dCmp fun i j => decide (j < i)) (gLen (gVar 10)) (gP (.int 0)))) (gSeq (gS (gMet fApp (gVar 3) (gConsL (gI (gTup (PM.gCons (gOp PD.dAdd (gD (gVar 7)) (gTup (PM.gCons (gD (gVar 9)) (gP [])))) (PM.gCons (gD (gVar 10)) (gP []))))) (gP []))) fun _ m => some (.nx m))
    gSkip) gSkip)
    gSkip)))
def q4_least_text : GI := (gI (gCallFn 2 (PM.gCons (gD (gVar 5)) (gP []))))
def q5_least_text : Gs := (gSeq (gAsgT (Tg.tup [(Tg.one 7), (Tg.one 8)]) (gD (gAt (gVar 3) (gD (gVar 6)))))
    (gSeq (gIfS (gTru (gCall dAnyB (PM.gCons (gFl (gLc (gSeqOf (gD (gVar 8))) (Tg.one 5) (gP true) q4_least_text [5])) (gP [])))) (gSeq (gRet (gVar 7))
    gSkip) gSkip)
    (gSeq (gFor (gB (PM.gCons (gP (.int 1)) (PM.gCons (gOp PD.dAdd (gP (.int 3)) (gP (.int 1))) (gP []))) fun ds => gO (PD.dRange2 ds)) (Tg.one 9) q3_least_text)
    (gSeq (gAug (fun i j => i + j) 6 (gP (.int 1)))
    gSkip))))
def g0_least_text : Gs := (gAsg 3 (gOwn (gLst (gConsL (gI (gTup (PM.gCons (gTup (gP [])) (PM.gCons (gD (gVar 0)) (gP []))))) (gP [])))))
def g1_least_text : Gs := (gAsg 4 (gDc (gSeqOf (gD (gVar 0))) (Tg.one 5) (gP true) (gD (gVar 5)) (gI (gP (.bool true))) [5]))
def g2_least_text : Gs := (gAsg 6 (gI (gP (.int 0))))
def g3_least_text : Gs := (whileLoop (gBool (gOp PD.dLt (gD (gVar 6)) (gLen (gVar 3)))) q5_least_text 3000)
def g4_least_text : Gs := (gRet (gI (gP .none)))
def B_least_text : Gs := (gSeq g0_least_text (gSeq g1_least_text (gSeq g2_least_text (gSeq g3_least_text (gSeq g4_least_text gSkip)))))
def F_least_text : List Im → List Ob → Option FR := fnF 3 12 B_least_text
def g0_asked_from : Gs := (gAsg 3 (gI (gLen (gVar 2))))
def g1_asked_from : Gs := (gIfS (gBool (gOp (PD.dEq false) (gD (gVar 3)) (gP (.int 0)))) (gSeq (gRet (gI (gIf (gBool (gOp (PD.dEq false) (gD (gAt (gAt (gVar 0) (gP (.int 0))) (gP (.int 0)))) (gP (.str "next")))) (gP (.int 0)) (gP (.int 2)))))
    gSkip) gSkip)
def g2_asked_from : Gs := (gIfS (gTru (gD (gAt (gVar 1) (gOp PD.dSub (gD (gVar 3)) (gP (.int 1)))))) (gSeq (gRet (gI (gP (.int 0))))
    gSkip) gSkip)
def g3_asked_from : Gs := (gRet (gI (gIf (gTru (gD (gAt (gVar 2) (gOp PD.dSub (gD (gVar 3)) (gP (.int 1)))))) (gP (.int 1)) (gP (.int 2)))))
def B_asked_from : Gs := (gSeq g0_asked_from (gSeq g1_asked_from (gSeq g2_asked_from (gSeq g3_asked_from gSkip))))
def F_asked_from : List Im → List Ob → Option FR := fnF 3 4 B_asked_from
def g0_marks_told : Gs := (gAsgT (Tg.tup [(Tg.one 4), (Tg.one 5)]) (gD (gVar 0)))
def g1_marks_told : Gs := (gIfS (gBool (gOp (PD.dEq false) (gD (gVar 4)) (gP (.str "next")))) (gSeq (gRet (gI (gTup (PM.gCons (gOrV (gD (gVar 1)) (gAndV (gOp (PD.dEq false) (gD (gVar 2)) (gP (.int 0))) (gIn2 false (gD (gVar 3)) (gVar 5)))) (gP [])))))
    gSkip) gSkip)
def g2_marks_told : Gs := (gIfS (gBool (gOp (PD.dEq true) (gD (gVar 2)) (gP (.int 2)))) (gSeq (gRet (gI (gIf (gTru (gD (gVar 1))) (gTup (PM.gCons (gP (.bool true)) (gP []))) (gTup (gP [])))))
    gSkip) gSkip)
def g3_marks_told : Gs := (gIfS (gBool (gIn2 true (gD (gVar 3)) (gVar 5))) (gSeq (gRet (gI (gTup (PM.gCons (gD (gVar 1)) (gP [])))))
    gSkip) gSkip)
def g4_marks_told : Gs := (gRet (gI (gIf (gTru (gD (gVar 1))) (gTup (gP [])) (gTup (PM.gCons (gP (.bool false)) (PM.gCons (gP (.bool true)) (gP [])))))))
def B_marks_told : Gs := (gSeq g0_marks_told (gSeq g1_marks_told (gSeq g2_marks_told (gSeq g3_marks_told (gSeq g4_marks_told gSkip)))))
def F_marks_told : List Im → List Ob → Option FR := fnF 4 6 B_marks_told
def q1_rows_behind : GI := (gI (gOp PD.dAdd (gD (gVar 6)) (gTup (PM.gCons (gD (gVar 7)) (gP [])))))
def q2_rows_behind : GA := (gSeqOf (gD (gCallD (F_marks_told) (gConsL (gVar 5) (gConsL (gAt (gVar 1) (gD (gVar 4))) (gConsL (gCallD (F_asked_from) (gConsL (gVar 0) (gConsL (gVar 1) (gConsL (gVar 6) (gP []))))) (gConsL (gVar 2) (gP []))))))))
def q3_rows_behind : Gs := (gSeq (gAsgD 3 (gLc2 (gSeqOf (gD (gVar 3))) (Tg.one 6) (gP true) q2_rows_behind (Tg.one 7) (gP true) q1_rows_behind [6, 7] [7]))
    gSkip)
def g0_rows_behind : Gs := (gAsg 3 (gI (gFl (gLst (gConsL (gI (gTup (gP []))) (gP []))))))
def g1_rows_behind : Gs := (gFor (gB (PM.gCons (gD (gVar 0)) (gP [])) fun ds => gO (PD.dEnum ds)) (Tg.tup [(Tg.one 4), (Tg.one 5)]) q3_rows_behind)
def g2_rows_behind : Gs := (gRet (gVar 3))
def B_rows_behind : Gs := (gSeq g0_rows_behind (gSeq g1_rows_behind (gSeq g2_rows_behind gSkip)))
def F_rows_behind : List Im → List Ob → Option FR := fnF 3 8 B_rows_behind
def B_marks_at_front : Gs := (gSeq (gIfS (gBool (gOp (PD.dEq false) (gD (gVar 0)) (gP (.str "next")))) (gSeq (gRet (gI (gTup (PM.gCons (gP (.bool false)) (gP [])))))
    gSkip) gSkip)
    (gSeq (gRet (gI (gIf (gTru (gCall dAnyB (PM.gCons (gSl (gD (gVar 1)) (gB (gB (gP (.int 1)) fun d => gO (PD.dNeg d)) fun d => gO (PD.dPart d)) (gP none)) (gP [])))) (gTup (PM.gCons (gP (.bool true)) (gP []))) (gTup (PM.gCons (gP (.bool false)) (PM.gCons (gP (.bool true)) (gP [])))))))
    gSkip))
def F_marks_at_front : List Im → List Ob → Option FR := fnF 2 2 B_marks_at_front
def q1_rows_at_front : GI := (gI (gOp PD.dAdd (gD (gVar 4)) (gTup (PM.gCons (gD (gVar 5)) (gP [])))))
def q2_rows_at_front : GA := (gSeqOf (gD (gCallD (F_marks_at_front) (gConsL (gVar 2) (gConsL (gVar 4) (gP []))))))
def q3_rows_at_front : Gs := (gSeq (gAsgD 1 (gLc2 (gSeqOf (gD (gVar 1))) (Tg.one 4) (gP true) q2_rows_at_front (Tg.one 5) (gP true) q1_rows_at_front [4, 5] [5]))
    gSkip)
def g0_rows_at_front : Gs := (gAsg 1 (gI (gFl (gLst (gConsL (gI (gTup (gP []))) (gP []))))))
def g1_rows_at_front : Gs := (gFor (gSeqOf (gD (gVar 0))) (Tg.tup [(Tg.one 2), (Tg.one 3)]) q3_rows_at_front)
def g2_rows_at_front : Gs := (gRet (gVar 1))
def B_rows_at_front : Gs := (gSeq g0_rows_at_front (gSeq g1_rows_at_front (gSeq g2_rows_at_front gSkip)))
def F_rows_at_front : List Im → List Ob → Option FR := fnF 1 6 B_rows_at_front
def q1_can_end : GI := (gI (gOrV (gD (gVar 2)) (gOp (PD.dEq false) (gD (gVar 3)) (gP (.str "next")))))
def B_can_end : Gs := (gSeq (gRet (gI (gCall PD.dAll (PM.gCons (gFl (gLc (gB (PM.gCons (gD (gVar 1)) (PM.gCons (gD (gVar 0)) (gP []))) fun ds => gO (dZipA ds)) (Tg.tup [(Tg.one 2), (Tg.tup [(Tg.one 3), (Tg.one 4)])]) (gP true) q1_can_end [2, 3, 4])) (gP [])))))
    gSkip)
def F_can_end : List Im → List Ob → Option FR := fnF 2 5 B_can_end
def g0_how_they_lie : Gs := (gIfS (gOr (gBool (gOp (PD.dIsN true) (gD (gVar 0)) (gP .none))) (gB (gOr (gTru (gD (gAt (gVar 1) (gB (gP (.int 1)) fun d => gO (PD.dNeg d))))) (gTru (gD (gAt (gVar 2) (gB (gP (.int 1)) fun d => gO (PD.dNeg d)))))) fun b => gP !b)) (gSeq (gRet (gVar 0))
    gSkip) gSkip)
def g1_how_they_lie : Gs := (gIfS (gAnd (gTru (gD (gAt (gVar 1) (gB (gP (.int 1)) fun d => gO (PD.dNeg d))))) (gTru (gD (gAt (gVar 2) (gB (gP (.int 1)) fun d => gO (PD.dNeg d)))))) (gSeq (gRet (gI (gP (.str "same"))))
    gSkip) gSkip)
def g2_how_they_lie : Gs := (gRet (gI (gIf (gTru (gD (gAt (gVar 1) (gB (gP (.int 1)) fun d => gO (PD.dNeg d))))) (gP (.str "ahead")) (gP (.str "behind")))))
def B_how_they_lie : Gs := (gSeq g0_how_they_lie (gSeq g1_how_they_lie (gSeq g2_how_they_lie gSkip)))
def F_how_they_lie : List Im → List Ob → Option FR := fnF 3 3 B_how_they_lie
def q1_text_lying__go_on : GI := (gI (gTup (PM.gCons (gD (gVar 8)) (PM.gCons (gD (gVar 9)) (PM.gCons (gD (gCallD (F_how_they_lie) (gConsL (gVar 7) (gConsL (gVar 8) (gConsL (gVar 9) (gP [])))))) (gP []))))))
def q2_text_lying__go_on : GA := (gSeqOf (gD (gCallD (F_rows_behind) (gConsL (gVar 3) (gConsL (gVar 6) (gConsL (gVar 1) (gP [])))))))
def N_text_lying__go_on : NR := fnN 2 3 10 (gSeq (gIfS (gBool (gOp (PD.dCmp fun i j => decide (j < i)) (gD (gVar 1)) (gD (gVar 4)))) (gSeq (gRet (gOwn (gLst (gP []))))
    gSkip) gSkip)
    (gSeq (gAsgT (Tg.tup [(Tg.one 5), (Tg.one 6), (Tg.one 7)]) (gD (gVar 0)))
    (gSeq (gRet (gOwn (gLc2 (gSeqOf (gD (gCallD (F_rows_behind) (gConsL (gVar 2) (gConsL (gVar 5) (gConsL (gVar 1) (gP []))))))) (Tg.one 8) (gP true) q2_text_lying__go_on (Tg.one 9) (gP true) q1_text_lying__go_on [8, 9] [9])))
    gSkip)))
def N_text_lying__is_end : NR := fnN 1 3 7 (gSeq (gAsgT (Tg.tup [(Tg.one 4), (Tg.one 5), (Tg.one 6)]) (gD (gVar 0)))
    (gSeq (gRet (gI (gAndV (gD (gCallD (F_can_end) (gConsL (gVar 1) (gConsL (gVar 4) (gP []))))) (gAndV (gD (gCallD (F_can_end) (gConsL (gVar 2) (gConsL (gVar 5) (gP []))))) (gIn2 false (gIf (gBool (gOp (PD.dIsN false) (gD (gVar 6)) (gP .none))) (gP (.str "same")) (gD (gVar 6))) (gVar 3))))))
    gSkip))
def q1_text_lying : GI := (gI (gTup (PM.gCons (gD (gVar 5)) (PM.gCons (gD (gVar 6)) (PM.gCons (gD (gCallD (F_how_they_lie) (gConsL (gI (gP .none)) (gConsL (gVar 5) (gConsL (gVar 6) (gP [])))))) (gP []))))))
def q2_text_lying : GA := (gSeqOf (gD (gCallD (F_rows_at_front) (gConsL (gVar 2) (gP [])))))
def g0_text_lying : Gs := (gAsgD 4 (gLc2 (gSeqOf (gD (gCallD (F_rows_at_front) (gConsL (gVar 1) (gP []))))) (Tg.one 5) (gP true) q2_text_lying (Tg.one 6) (gP true) q1_text_lying [5, 6] [6]))
def g1_text_lying : Gs := (gDef 7 [1, 2, 0] (pureC N_text_lying__go_on))
def g2_text_lying : Gs := (gDef 8 [1, 2, 3] (pureC N_text_lying__is_end))
def g3_text_lying : Gs := (gRet (gI (gCallC (F_least_text) [.d (gD (gVar 4)), .c 7, .c 8])))
def B_text_lying : Gs := (gSeq g0_text_lying (gSeq g1_text_lying (gSeq g2_text_lying (gSeq g3_text_lying gSkip))))
def F_text_lying : List Im → List Ob → Option FR := fnF 4 9 B_text_lying
def B_are_one : Gs := (gSeq (gRet (gI (gOp (PD.dIsN false) (gD (gCallD (F_text_lying) (gConsL (gVar 0) (gConsL (gVar 1) (gConsL (gVar 2) (gConsL (gI (gTup (PM.gCons (gP (.str "ahead")) (PM.gCons (gP (.str "behind")) (gP []))))) (gP []))))))) (gP .none))))
    gSkip)
def F_are_one : List Im → List Ob → Option FR := fnF 3 3 B_are_one
def q1_order_of : GT := (gBool (gOp (PD.dIsN true) (gD (gCallD (F_text_lying) (gConsL (gVar 0) (gConsL (gVar 1) (gConsL (gVar 2) (gConsL (gI (gTup (PM.gCons (gD (gVar 4)) (gP [])))) (gP []))))))) (gP .none)))
def B_order_of : Gs := (gSeq (gAsgD 3 (gLc (gSeqOf (gTup (PM.gCons (gP (.str "ahead")) (PM.gCons (gP (.str "same")) (PM.gCons (gP (.str "behind")) (gP [])))))) (Tg.one 4) q1_order_of (gVar 4) [4]))
    (gSeq (gRet (gI (gIf (gBool (gOp (PD.dEq false) (gLen (gVar 3)) (gP (.int 1)))) (gD (gAt (gVar 3) (gP (.int 0)))) (gP .none))))
    gSkip))
def F_order_of : List Im → List Ob → Option FR := fnF 3 5 B_order_of
def q1__law_same (F : List Im → List Ob → Option FR) : GI := (gCallD (F) (gConsL (gVar 2) (gConsL (gVar 3) (gP []))))
def F__law_same : Nat → List Im → List Ob → Option FR
  | 0 => fun _ _ => none
  | n + 1 => let F := F__law_same n
    fnF 2 4 (gSeq (gIfS (gTru (gB (gD (gVar 1)) fun d => gO (PD.dIsi2 "list" "tuple" d))) (gSeq (gIfS (gOr (gBool (gOp (PD.dEq true) (gB (gD (gVar 0)) fun d => gO (PD.dIsi "list" d)) (gB (gD (gVar 1)) fun d => gO (PD.dIsi "list" d)))) (gBool (gOp (PD.dEq true) (gB (gD (gVar 0)) fun d => gO (PD.dIsi "tuple" d)) (gB (gD (gVar 1)) fun d => gO (PD.dIsi "tuple" d))))) (gSeq (gRet (gI (gP (.bool false))))
    gSkip) gSkip)
    (gSeq (gRet (gI (gAndV (gOp (PD.dEq false) (gLen (gVar 0)) (gLen (gVar 1))) (gCall PD.dAll (PM.gCons (gFl (gLc (gB (PM.gCons (gD (gVar 0)) (PM.gCons (gD (gVar 1)) (gP []))) fun ds => gO (dZipA ds)) (Tg.tup [(Tg.one 2), (Tg.one 3)]) (gP true) (q1__law_same F) [2, 3])) (gP []))))))
    gSkip)) gSkip)
    (gSeq (gIfS (gOr (gBool (gOp (PD.dIsN false) (gD (gVar 1)) (gP .none))) (gTru (gB (gD (gVar 1)) fun d => gO (PD.dIsi2 "bool" "str" d)))) (gSeq (gRet (gI (gAndV (gOp (PD.dEq false) (gD (gVar 0)) (gD (gVar 1))) (gAndV (gOp (PD.dEq false) (gB (gD (gVar 0)) fun d => gO (PD.dIsi "bool" d)) (gB (gD (gVar 1)) fun d => gO (PD.dIsi "bool" d))) (gOp (PD.dEq false) (gOp (PD.dIsN false) (gD (gVar 0)) (gP .none)) (gOp (PD.dIsN false) (gD (gVar 1)) (gP .none)))))))
    gSkip) gSkip)
    (gSeq (gRet (gI (gAndV (gB (gD (gVar 0)) fun d => gO (PD.dIsi "int" d)) (gAndV (gB (gB (gD (gVar 0)) fun d => gO (PD.dIsi "bool" d)) fun d => gO (PD.dNot d)) (gOp (PD.dEq false) (gD (gVar 0)) (gD (gVar 1)))))))
    gSkip)))
def g0_unlike_named : Gs := (gAsg 3 (gCallD (F_text_lying) (gConsL (gVar 0) (gConsL (gVar 1) (gConsL (gVar 2) (gConsL (gI (gTup (PM.gCons (gP (.str "ahead")) (PM.gCons (gP (.str "behind")) (gP []))))) (gP [])))))))
def g1_unlike_named : Gs := (gIfS (gBool (gOp (PD.dIsN false) (gD (gVar 3)) (gP .none))) (gSeq (gRaise0 "CanNot")
    gSkip) gSkip)
def g2_unlike_named : Gs := (gRet (gVar 3))
def B_unlike_named : Gs := (gSeq g0_unlike_named (gSeq g1_unlike_named (gSeq g2_unlike_named gSkip)))
def F_unlike_named : List Im → List Ob → Option FR := fnF 3 4 B_unlike_named
def q1_text_there__go_on : GI := (gI (gTup (PM.gCons (gD (gVar 6)) (PM.gCons (gIf (gAnd (gBool (gOp (PD.dIsN false) (gD (gVar 5)) (gP .none))) (gTru (gD (gAt (gVar 6) (gB (gP (.int 1)) fun d => gO (PD.dNeg d)))))) (gD (gVar 1)) (gD (gVar 5))) (gP [])))))
def N_text_there__go_on : NR := fnN 2 2 7 (gSeq (gIfS (gBool (gOp (PD.dCmp fun i j => decide (j < i)) (gD (gVar 1)) (gD (gVar 3)))) (gSeq (gRet (gOwn (gLst (gP []))))
    gSkip) gSkip)
    (gSeq (gAsgT (Tg.tup [(Tg.one 4), (Tg.one 5)]) (gD (gVar 0)))
    (gSeq (gRet (gOwn (gLc (gSeqOf (gD (gCallD (F_rows_behind) (gConsL (gVar 2) (gConsL (gVar 4) (gConsL (gVar 1) (gP []))))))) (Tg.one 6) (gP true) q1_text_there__go_on [6])))
    gSkip)))
def N_text_there__is_end : NR := fnN 1 2 5 (gSeq (gAsgT (Tg.tup [(Tg.one 3), (Tg.one 4)]) (gD (gVar 0)))
    (gSeq (gRet (gI (gAndV (gD (gCallD (F_can_end) (gConsL (gVar 1) (gConsL (gVar 3) (gP []))))) (gOp (PD.dEq false) (gIf (gBool (gOp (PD.dIsN false) (gD (gVar 4)) (gP .none))) (gP (.str "back")) (gD (gVar 4))) (gD (gVar 2))))))
    gSkip))
def q1_text_there : GI := (gI (gTup (PM.gCons (gD (gVar 4)) (PM.gCons (gIf (gTru (gD (gAt (gVar 4) (gB (gP (.int 1)) fun d => gO (PD.dNeg d))))) (gP (.str "front")) (gP .none)) (gP [])))))
def g0_text_there : Gs := (gAsgD 3 (gLc (gSeqOf (gD (gCallD (F_rows_at_front) (gConsL (gVar 1) (gP []))))) (Tg.one 4) (gP true) q1_text_there [4]))
def g1_text_there : Gs := (gDef 5 [1, 0] (pureC N_text_there__go_on))
def g2_text_there : Gs := (gDef 6 [1, 2] (pureC N_text_there__is_end))
def g3_text_there : Gs := (gRet (gI (gCallC (F_least_text) [.d (gD (gVar 3)), .c 5, .c 6])))
def B_text_there : Gs := (gSeq g0_text_there (gSeq g1_text_there (gSeq g2_text_there (gSeq g3_text_there gSkip))))
def F_text_there : List Im → List Ob → Option FR := fnF 3 7 B_text_there
def g0_text_with : Gs := (gAsg 3 (gCallD (F_text_there) (gConsL (gVar 0) (gConsL (gVar 1) (gConsL (gVar 2) (gP []))))))
def g1_text_with : Gs := (gIfS (gBool (gOp (PD.dIsN false) (gD (gVar 3)) (gP .none))) (gSeq (gRaise0 "CanNot")
    gSkip) gSkip)
def g2_text_with : Gs := (gRet (gVar 3))
def B_text_with : Gs := (gSeq g0_text_with (gSeq g1_text_with (gSeq g2_text_with gSkip)))
def F_text_with : List Im → List Ob → Option FR := fnF 3 4 B_text_with
def g0__law_heard : Gs := (gAsg 4 (gI (gP .none)))
def g1__law_heard : Gs := (gTryA 5 "CanNot" 4 (φC (.str "can not") (φC (.bool true) φNil)) (gSeq (gAsg 4 (gI (gIf (gBool (gOp (PD.dEq false) (gD (gVar 0)) (gP (.int 0)))) (gD (gCallD (F_unlike_named) (gConsL (gVar 1) (gConsL (gVar 2) (gConsL (gVar 3) (gP [])))))) (gD (gCallD (F_text_with) (gConsL (gVar 1) (gConsL (gVar 2) (gConsL (gVar 3) (gP [])))))))))
    gSkip))
def g2__law_heard : Gs := (gRet (gVar 4))
def B__law_heard : Gs := (gSeq g0__law_heard (gSeq g1__law_heard (gSeq g2__law_heard gSkip)))
def F__law_heard : List Im → List Ob → Option FR := fnF 4 6 B__law_heard
def q1__law_pairs_right : GI := (gOwn (gLst (gConsL (gAt (gVar 7) (gP (.int 3))) (gConsL (gI (gOp (PD.dEq false) (gD (gAt (gVar 7) (gP (.int 3)))) (gP (.str "same")))) (gConsL (gAt (gVar 7) (gP (.int 4))) (gP []))))))
def q2__law_pairs_right : GI := (gOwn (gLst (gConsL (gCallD (F_order_of) (gConsL (gAt (gVar 7) (gP (.int 0))) (gConsL (gAt (gVar 7) (gP (.int 1))) (gConsL (gAt (gVar 7) (gP (.int 2))) (gP []))))) (gConsL (gCallD (F_are_one) (gConsL (gAt (gVar 7) (gP (.int 0))) (gConsL (gAt (gVar 7) (gP (.int 1))) (gConsL (gAt (gVar 7) (gP (.int 2))) (gP []))))) (gConsL (gCallD (F__law_heard) (gConsL (gI (gP (.int 0))) (gConsL (gAt (gVar 7) (gP (.int 0))) (gConsL (gAt (gVar 7) (gP (.int 1))) (gConsL (gAt (gVar 7) (gP (.int 2))) (gP [])))))) (gP []))))))
def g0__law_pairs_right : Gs := (gAsgT (Tg.tup [(Tg.one 0), (Tg.one 1), (Tg.one 2), (Tg.one 3)]) (gTup (PM.gCons (gTup (PM.gCons (gTup (PM.gCons (gP (.str "next")) (PM.gCons (gTup (PM.gCons (gP (.int 2)) (gP []))) (gP [])))) (PM.gCons (gTup (PM.gCons (gP (.str "last")) (PM.gCons (gTup (PM.gCons (gP (.int 1)) (gP []))) (gP [])))) (gP [])))) (PM.gCons (gTup (PM.gCons (gTup (PM.gCons (gP (.str "next")) (PM.gCons (gTup (PM.gCons (gP (.int 1)) (gP []))) (gP [])))) (gP []))) (PM.gCons (gTup (PM.gCons (gTup (PM.gCons (gP (.str "last")) (PM.gCons (gTup (PM.gCons (gP (.int 1)) (gP []))) (gP [])))) (gP []))) (PM.gCons (gTup (PM.gCons (gTup (PM.gCons (gP (.str "next")) (PM.gCons (gTup (PM.gCons (gP (.int 1)) (PM.gCons (gP (.int 2)) (gP [])))) (gP [])))) (gP []))) (gP [])))))))
def g1__law_pairs_right : Gs := (gAsg 4 (gI (gTup (PM.gCons (gTup (PM.gCons (gP (.str "next")) (PM.gCons (gTup (PM.gCons (gP (.int 1)) (PM.gCons (gP (.int 2)) (gP [])))) (gP [])))) (PM.gCons (gTup (PM.gCons (gP (.str "next")) (PM.gCons (gTup (PM.gCons (gP (.int 1)) (PM.gCons (gP (.int 2)) (gP [])))) (gP [])))) (gP []))))))
def g2__law_pairs_right : Gs := (gAsg 5 (gI (gFl (gLst (gConsL (gI (gTup (PM.gCons (gP (.int 2)) (PM.gCons (gD (gVar 0)) (PM.gCons (gD (gVar 2)) (PM.gCons (gP .none) (PM.gCons (gTup (PM.gCons (gP (.int 2)) (PM.gCons (gP (.int 1)) (gP [])))) (gP [])))))))) (gConsL (gI (gTup (PM.gCons (gP (.int 2)) (PM.gCons (gD (gVar 3)) (PM.gCons (gD (gVar 1)) (PM.gCons (gP .none) (PM.gCons (gTup (PM.gCons (gP (.int 2)) (gP []))) (gP [])))))))) (gConsL (gI (gTup (PM.gCons (gP (.int 1)) (PM.gCons (gD (gVar 1)) (PM.gCons (gD (gVar 1)) (PM.gCons (gP (.str "same")) (PM.gCons (gFl (gLst (gConsL (gI (gP (.str "can not"))) (gConsL (gI (gP (.bool true))) (gP []))))) (gP [])))))))) (gConsL (gI (gTup (PM.gCons (gP (.int 2)) (PM.gCons (gD (gVar 0)) (PM.gCons (gOp PD.dAdd (gD (gVar 0)) (gD (gVar 0))) (PM.gCons (gP (.str "same")) (PM.gCons (gFl (gLst (gConsL (gI (gP (.str "can not"))) (gConsL (gI (gP (.bool true))) (gP []))))) (gP [])))))))) (gConsL (gI (gTup (PM.gCons (gP (.int 2)) (PM.gCons (gD (gVar 1)) (PM.gCons (gD (gVar 2)) (PM.gCons (gP .none) (PM.gCons (gTup (gP [])) (gP [])))))))) (gConsL (gI (gTup (PM.gCons (gP (.int 1)) (PM.gCons (gD (gVar 1)) (PM.gCons (gOp PD.dAdd (gD (gVar 1)) (gD (gVar 1))) (PM.gCons (gP .none) (PM.gCons (gTup (PM.gCons (gP (.int 1)) (gP []))) (gP [])))))))) (gConsL (gI (gTup (PM.gCons (gP (.int 2)) (PM.gCons (gD (gVar 3)) (PM.gCons (gD (gVar 4)) (PM.gCons (gP .none) (PM.gCons (gTup (PM.gCons (gP (.int 1)) (gP []))) (gP [])))))))) (gP []))))))))))))
def g3__law_pairs_right : Gs := (gAsg 5 (gI (gOp PD.dAdd (gD (gVar 5)) (gFl (gLst (gConsL (gI (gTup (PM.gCons (gP (.int 2)) (PM.gCons (gTup (PM.gCons (gTup (PM.gCons (gP (.str "next")) (PM.gCons (gTup (PM.gCons (gP (.int 2)) (gP []))) (gP [])))) (PM.gCons (gTup (PM.gCons (gP (.str "last")) (PM.gCons (gTup (PM.gCons (gP (.int 1)) (PM.gCons (gP (.int 2)) (gP [])))) (gP [])))) (PM.gCons (gTup (PM.gCons (gP (.str "last")) (PM.gCons (gTup (PM.gCons (gP (.int 1)) (PM.gCons (gP (.int 2)) (gP [])))) (gP [])))) (gP []))))) (PM.gCons (gTup (PM.gCons (gTup (PM.gCons (gP (.str "last")) (PM.gCons (gTup (PM.gCons (gP (.int 1)) (PM.gCons (gP (.int 2)) (gP [])))) (gP [])))) (PM.gCons (gTup (PM.gCons (gP (.str "next")) (PM.gCons (gTup (PM.gCons (gP (.int 1)) (PM.gCons (gP (.int 2)) (gP [])))) (gP [])))) (gP [])))) (PM.gCons (gP (.str "ahead")) (PM.gCons (gTup (gP [])) (gP [])))))))) (gConsL (gI (gTup (PM.gCons (gP (.int 2)) (PM.gCons (gTup (PM.gCons (gTup (PM.gCons (gP (.str "last")) (PM.gCons (gTup (PM.gCons (gP (.int 1)) (PM.gCons (gP (.int 2)) (gP [])))) (gP [])))) (PM.gCons (gTup (PM.gCons (gP (.str "next")) (PM.gCons (gTup (PM.gCons (gP (.int 1)) (PM.gCons (gP (.int 2)) (gP [])))) (gP [])))) (gP [])))) (PM.gCons (gD (gVar 0)) (PM.gCons (gP (.str "behind")) (PM.gCons (gTup (gP [])) (gP [])))))))) (gConsL (gI (gTup (PM.gCons (gP (.int 3)) (PM.gCons (gTup (PM.gCons (gTup (PM.gCons (gP (.str "next")) (PM.gCons (gTup (PM.gCons (gP (.int 3)) (gP []))) (gP [])))) (PM.gCons (gTup (PM.gCons (gP (.str "last")) (PM.gCons (gTup (PM.gCons (gP (.int 3)) (gP []))) (gP [])))) (gP [])))) (PM.gCons (gTup (PM.gCons (gTup (PM.gCons (gP (.str "last")) (PM.gCons (gTup (PM.gCons (gP (.int 1)) (gP []))) (gP [])))) (PM.gCons (gTup (PM.gCons (gP (.str "last")) (PM.gCons (gTup (PM.gCons (gP (.int 2)) (gP []))) (gP [])))) (PM.gCons (gTup (PM.gCons (gP (.str "last")) (PM.gCons (gTup (PM.gCons (gP (.int 1)) (PM.gCons (gP (.int 2)) (PM.gCons (gP (.int 3)) (gP []))))) (gP [])))) (PM.gCons (gTup (PM.gCons (gP (.str "last")) (PM.gCons (gTup (PM.gCons (gP (.int 1)) (PM.gCons (gP (.int 2)) (PM.gCons (gP (.int 3)) (gP []))))) (gP [])))) (gP [])))))) (PM.gCons (gP .none) (PM.gCons (gTup (PM.gCons (gP (.int 1)) (PM.gCons (gP (.int 1)) (PM.gCons (gP (.int 2)) (PM.gCons (gP (.int 1)) (gP [])))))) (gP [])))))))) (gP [])))))))))
def g4__law_pairs_right : Gs := (gAsg 5 (gI (gOp PD.dAdd (gD (gVar 5)) (gFl (gLst (gConsL (gI (gTup (PM.gCons (gP (.int 2)) (PM.gCons (gTup (PM.gCons (gTup (PM.gCons (gP (.str "next")) (PM.gCons (gTup (PM.gCons (gP (.int 1)) (gP []))) (gP [])))) (PM.gCons (gTup (PM.gCons (gP (.str "next")) (PM.gCons (gTup (PM.gCons (gP (.int 2)) (gP []))) (gP [])))) (PM.gCons (gTup (PM.gCons (gP (.str "last")) (PM.gCons (gTup (PM.gCons (gP (.int 1)) (gP []))) (gP [])))) (PM.gCons (gTup (PM.gCons (gP (.str "next")) (PM.gCons (gTup (PM.gCons (gP (.int 2)) (gP []))) (gP [])))) (gP [])))))) (PM.gCons (gTup (PM.gCons (gTup (PM.gCons (gP (.str "next")) (PM.gCons (gTup (PM.gCons (gP (.int 1)) (gP []))) (gP [])))) (PM.gCons (gTup (PM.gCons (gP (.str "next")) (PM.gCons (gTup (PM.gCons (gP (.int 2)) (gP []))) (gP [])))) (gP [])))) (PM.gCons (gP .none) (PM.gCons (gTup (PM.gCons (gP (.int 2)) (gP []))) (gP [])))))))) (gConsL (gI (gTup (PM.gCons (gP (.int 1)) (PM.gCons (gTup (PM.gCons (gTup (PM.gCons (gP (.str "last")) (PM.gCons (gTup (PM.gCons (gP (.int 1)) (gP []))) (gP [])))) (PM.gCons (gTup (PM.gCons (gP (.str "last")) (PM.gCons (gTup (PM.gCons (gP (.int 1)) (gP []))) (gP [])))) (gP [])))) (PM.gCons (gTup (PM.gCons (gTup (PM.gCons (gP (.str "last")) (PM.gCons (gTup (PM.gCons (gP (.int 1)) (gP []))) (gP [])))) (gP []))) (PM.gCons (gP .none) (PM.gCons (gTup (PM.gCons (gP (.int 1)) (gP []))) (gP [])))))))) (gP []))))))))
def g5__law_pairs_right : Gs := (gAsgD 6 (gLc (gSeqOf (gD (gVar 5))) (Tg.one 7) (gP true) q2__law_pairs_right [7]))
def g6__law_pairs_right : Gs := (gRet (gCallD (F__law_same 12) (gConsL (gVar 6) (gConsL (gI (gFl (gLc (gSeqOf (gD (gVar 5))) (Tg.one 7) (gP true) q1__law_pairs_right [7]))) (gP [])))))
def B__law_pairs_right : Gs := (gSeq g0__law_pairs_right (gSeq g1__law_pairs_right (gSeq g2__law_pairs_right (gSeq g3__law_pairs_right (gSeq g4__law_pairs_right (gSeq g5__law_pairs_right (gSeq g6__law_pairs_right gSkip)))))))
def F__law_pairs_right : List Im → List Ob → Option FR := fnF 0 8 B__law_pairs_right
def q1_letters_there : GT := (gBool (gOp (PD.dIsN true) (gD (gCallD (F_text_there) (gConsL (gVar 0) (gConsL (gVar 1) (gConsL (gVar 2) (gP [])))))) (gP .none)))
def B_letters_there : Gs := (gSeq (gRet (gI (gCall PD.dToTup (PM.gCons (gFl (gLc (gSeqOf (gOp PD.dAdd (gTupRg (gP (.int 1)) (gOp PD.dAdd (gD (gVar 0)) (gP (.int 1)))) (gTup (PM.gCons (gP (.str "back")) (PM.gCons (gP (.str "front")) (gP [])))))) (Tg.one 2) q1_letters_there (gVar 2) [2])) (gP [])))))
    gSkip)
def F_letters_there : List Im → List Ob → Option FR := fnF 2 3 B_letters_there
def q1__law_lists (F : List Im → List Ob → Option FR) : GI := (gCallD (F) (gConsL (gVar 1) (gP [])))
def F__law_lists : Nat → List Im → List Ob → Option FR
  | 0 => fun _ _ => none
  | n + 1 => let F := F__law_lists n
    fnF 1 2 (gSeq (gRet (gI (gIf (gTru (gB (gD (gVar 0)) fun d => gO (PD.dIsi2 "list" "tuple" d))) (gFl (gLc (gSeqOf (gD (gVar 0))) (Tg.one 1) (gP true) (q1__law_lists F) [1])) (gD (gVar 0)))))
    gSkip)
def q1__law_there_right : GI := (gAt (gVar 6) (gP (.int 3)))
def q2__law_there_right : GI := (gCallD (F__law_heard) (gConsL (gI (gP (.int 1))) (gConsL (gAt (gVar 6) (gP (.int 0))) (gConsL (gAt (gVar 6) (gP (.int 1))) (gConsL (gAt (gVar 6) (gP (.int 2))) (gP []))))))
def q3__law_there_right : GI := (gCallD (F_letters_there) (gConsL (gI (gP (.int 2))) (gConsL (gVar 6) (gP []))))
def g0__law_there_right : Gs := (gAsgT (Tg.tup [(Tg.one 0), (Tg.one 1), (Tg.one 2)]) (gTup (PM.gCons (gTup (PM.gCons (gTup (PM.gCons (gP (.str "next")) (PM.gCons (gTup (PM.gCons (gP (.int 2)) (gP []))) (gP [])))) (PM.gCons (gTup (PM.gCons (gP (.str "last")) (PM.gCons (gTup (PM.gCons (gP (.int 1)) (gP []))) (gP [])))) (gP [])))) (PM.gCons (gTup (PM.gCons (gTup (PM.gCons (gP (.str "next")) (PM.gCons (gTup (PM.gCons (gP (.int 1)) (gP []))) (gP [])))) (gP []))) (PM.gCons (gTup (PM.gCons (gTup (PM.gCons (gP (.str "next")) (PM.gCons (gTup (PM.gCons (gP (.int 1)) (PM.gCons (gP (.int 2)) (gP [])))) (gP [])))) (PM.gCons (gTup (PM.gCons (gP (.str "next")) (PM.gCons (gTup (PM.gCons (gP (.int 1)) (PM.gCons (gP (.int 2)) (gP [])))) (gP [])))) (gP [])))) (gP []))))))
def g1__law_there_right : Gs := (gAsgT (Tg.tup [(Tg.one 3), (Tg.one 4)]) (gTup (PM.gCons (gTup (PM.gCons (gTup (PM.gCons (gP (.str "last")) (PM.gCons (gTup (PM.gCons (gP (.int 2)) (gP []))) (gP [])))) (PM.gCons (gTup (PM.gCons (gP (.str "next")) (PM.gCons (gTup (PM.gCons (gP (.int 1)) (PM.gCons (gP (.int 2)) (gP [])))) (gP [])))) (gP [])))) (PM.gCons (gTup (PM.gCons (gTup (PM.gCons (gP (.str "next")) (PM.gCons (gTup (PM.gCons (gP (.int 2)) (gP []))) (gP [])))) (PM.gCons (gTup (PM.gCons (gP (.str "next")) (PM.gCons (gTup (PM.gCons (gP (.int 2)) (gP []))) (gP [])))) (PM.gCons (gTup (PM.gCons (gP (.str "last")) (PM.gCons (gTup (PM.gCons (gP (.int 1)) (PM.gCons (gP (.int 2)) (gP [])))) (gP [])))) (PM.gCons (gTup (PM.gCons (gP (.str "next")) (PM.gCons (gTup (PM.gCons (gP (.int 1)) (gP []))) (gP [])))) (gP [])))))) (gP [])))))
def g2__law_there_right : Gs := (gAsg 5 (gI (gOp PD.dAdd (gFl (gLc (gSeqOf (gTup (PM.gCons (gD (gVar 0)) (PM.gCons (gD (gVar 1)) (PM.gCons (gOp PD.dAdd (gD (gVar 1)) (gTup (PM.gCons (gTup (PM.gCons (gP (.str "next")) (PM.gCons (gTup (PM.gCons (gP (.int 1)) (PM.gCons (gP (.int 2)) (gP [])))) (gP [])))) (gP [])))) (PM.gCons (gD (gVar 2)) (PM.gCons (gD (gVar 3)) (PM.gCons (gD (gVar 4)) (gP []))))))))) (Tg.one 6) (gP true) q3__law_there_right [6])) (gFl (gLst (gConsL (gCallD (F_letters_there) (gConsL (gI (gP (.int 3))) (gConsL (gI (gTup (PM.gCons (gTup (PM.gCons (gP (.str "next")) (PM.gCons (gTup (PM.gCons (gP (.int 1)) (PM.gCons (gP (.int 3)) (gP [])))) (gP [])))) (PM.gCons (gTup (PM.gCons (gP (.str "last")) (PM.gCons (gTup (PM.gCons (gP (.int 2)) (gP []))) (gP [])))) (gP []))))) (gP [])))) (gConsL (gCallD (F_letters_there) (gConsL (gI (gP (.int 1))) (gConsL (gI (gTup (PM.gCons (gTup (PM.gCons (gP (.str "last")) (PM.gCons (gTup (PM.gCons (gP (.int 1)) (gP []))) (gP [])))) (PM.gCons (gTup (PM.gCons (gP (.str "last")) (PM.gCons (gTup (PM.gCons (gP (.int 1)) (gP []))) (gP [])))) (gP []))))) (gP [])))) (gP []))))))))
def g3__law_there_right : Gs := (gIfS (gB (gTru (gD (gCallD (F__law_same 12) (gConsL (gVar 5) (gConsL (gI (gFl (gLst (gConsL (gI (gTup (PM.gCons (gP (.int 1)) (PM.gCons (gP (.str "front")) (gP []))))) (gConsL (gI (gTup (PM.gCons (gP (.int 1)) (PM.gCons (gP (.str "back")) (gP []))))) (gConsL (gI (gTup (PM.gCons (gP (.int 1)) (PM.gCons (gP (.int 2)) (PM.gCons (gP (.str "back")) (gP [])))))) (gConsL (gI (gTup (PM.gCons (gP (.int 1)) (PM.gCons (gP (.int 2)) (PM.gCons (gP (.str "back")) (gP [])))))) (gConsL (gI (gTup (PM.gCons (gP (.int 1)) (PM.gCons (gP (.str "back")) (gP []))))) (gConsL (gI (gTup (PM.gCons (gP (.int 1)) (PM.gCons (gP (.str "back")) (gP []))))) (gConsL (gI (gTup (PM.gCons (gP (.int 2)) (PM.gCons (gP (.str "front")) (gP []))))) (gConsL (gI (gTup (PM.gCons (gP (.int 1)) (PM.gCons (gP (.str "front")) (gP []))))) (gP [])))))))))))) (gP [])))))) fun b => gP !b) (gSeq (gRet (gI (gP (.bool false))))
    gSkip) gSkip)
def g4__law_there_right : Gs := (gAsg 7 (gI (gFl (gLst (gConsL (gI (gTup (PM.gCons (gP (.int 2)) (PM.gCons (gD (gVar 0)) (PM.gCons (gP (.int 1)) (PM.gCons (gTup (PM.gCons (gP (.int 1)) (gP []))) (gP []))))))) (gConsL (gI (gTup (PM.gCons (gP (.int 2)) (PM.gCons (gD (gVar 0)) (PM.gCons (gP (.int 2)) (PM.gCons (gFl (gLst (gConsL (gI (gP (.str "can not"))) (gConsL (gI (gP (.bool true))) (gP []))))) (gP []))))))) (gConsL (gI (gTup (PM.gCons (gP (.int 2)) (PM.gCons (gD (gVar 0)) (PM.gCons (gP (.str "front")) (PM.gCons (gTup (gP [])) (gP []))))))) (gConsL (gI (gTup (PM.gCons (gP (.int 2)) (PM.gCons (gD (gVar 0)) (PM.gCons (gP (.str "back")) (PM.gCons (gFl (gLst (gConsL (gI (gP (.str "can not"))) (gConsL (gI (gP (.bool true))) (gP []))))) (gP []))))))) (gConsL (gI (gTup (PM.gCons (gP (.int 2)) (PM.gCons (gD (gVar 2)) (PM.gCons (gP (.int 2)) (PM.gCons (gTup (PM.gCons (gP (.int 1)) (PM.gCons (gP (.int 2)) (gP [])))) (gP []))))))) (gConsL (gI (gTup (PM.gCons (gP (.int 2)) (PM.gCons (gD (gVar 2)) (PM.gCons (gP (.str "back")) (PM.gCons (gTup (gP [])) (gP []))))))) (gConsL (gI (gTup (PM.gCons (gP (.int 2)) (PM.gCons (gD (gVar 3)) (PM.gCons (gP (.str "back")) (PM.gCons (gTup (gP [])) (gP []))))))) (gConsL (gI (gTup (PM.gCons (gP (.int 2)) (PM.gCons (gD (gVar 3)) (PM.gCons (gP (.int 1)) (PM.gCons (gTup (PM.gCons (gP (.int 1)) (gP []))) (gP []))))))) (gConsL (gI (gTup (PM.gCons (gP (.int 2)) (PM.gCons (gD (gVar 3)) (PM.gCons (gP (.int 2)) (PM.gCons (gFl (gLst (gConsL (gI (gP (.str "can not"))) (gConsL (gI (gP (.bool true))) (gP []))))) (gP []))))))) (gConsL (gI (gTup (PM.gCons (gP (.int 2)) (PM.gCons (gD (gVar 4)) (PM.gCons (gP (.int 1)) (PM.gCons (gTup (PM.gCons (gP (.int 2)) (PM.gCons (gP (.int 2)) (PM.gCons (gP (.int 1)) (gP []))))) (gP []))))))) (gConsL (gI (gTup (PM.gCons (gP (.int 3)) (PM.gCons (gTup (PM.gCons (gTup (PM.gCons (gP (.str "next")) (PM.gCons (gTup (PM.gCons (gP (.int 1)) (PM.gCons (gP (.int 3)) (gP [])))) (gP [])))) (PM.gCons (gTup (PM.gCons (gP (.str "last")) (PM.gCons (gTup (PM.gCons (gP (.int 2)) (gP []))) (gP [])))) (gP [])))) (PM.gCons (gP (.int 2)) (PM.gCons (gTup (PM.gCons (gP (.int 2)) (gP []))) (gP []))))))) (gConsL (gI (gTup (PM.gCons (gP (.int 1)) (PM.gCons (gTup (PM.gCons (gTup (PM.gCons (gP (.str "last")) (PM.gCons (gTup (PM.gCons (gP (.int 1)) (gP []))) (gP [])))) (PM.gCons (gTup (PM.gCons (gP (.str "last")) (PM.gCons (gTup (PM.gCons (gP (.int 1)) (gP []))) (gP [])))) (gP [])))) (PM.gCons (gP (.int 1)) (PM.gCons (gTup (PM.gCons (gP (.int 1)) (PM.gCons (gP (.int 1)) (gP [])))) (gP []))))))) (gP [])))))))))))))))))
def g5__law_there_right : Gs := (gIfS (gB (gTru (gD (gCallD (F__law_same 12) (gConsL (gI (gFl (gLc (gSeqOf (gD (gVar 7))) (Tg.one 6) (gP true) q2__law_there_right [6]))) (gConsL (gI (gFl (gLc (gSeqOf (gD (gVar 7))) (Tg.one 6) (gP true) q1__law_there_right [6]))) (gP [])))))) fun b => gP !b) (gSeq (gRet (gI (gP (.bool false))))
    gSkip) gSkip)
def g6__law_there_right : Gs := (gPar [8, 9] (gConsL (gCallD (F__law_lists 12) (gConsL (gVar 0) (gP []))) (gConsL (gCallD (F__law_lists 12) (gConsL (gI (gTup (PM.gCons (gTup (PM.gCons (gP (.str "last")) (PM.gCons (gTup (PM.gCons (gP (.int 1)) (gP []))) (gP [])))) (gP [])))) (gP []))) (gP []))))
def g7__law_there_right : Gs := (gAsg 5 (gI (gFl (gLst (gConsL (gB (PM.gCons (gD (gVar 9)) (PM.gCons (gD (gVar 8)) (PM.gCons (gP (.int 2)) (gP [])))) (gKwF 3 [2, 1, 0] (F_are_one))) (gConsL (gB (PM.gCons (gD (gVar 9)) (PM.gCons (gD (gVar 8)) (PM.gCons (gP (.int 2)) (gP [])))) (gKwF 3 [2, 1, 0] (F_order_of))) (gConsL (gB (PM.gCons (gD (gVar 9)) (PM.gCons (gD (gVar 8)) (PM.gCons (gP (.int 2)) (gP [])))) (gKwF 3 [2, 1, 0] (F_unlike_named))) (gConsL (gB (PM.gCons (gD (gVar 8)) (PM.gCons (gP (.int 2)) (gP []))) (gKwF 2 [1, 0] (F_letters_there))) (gConsL (gB (PM.gCons (gP (.int 1)) (PM.gCons (gD (gVar 8)) (PM.gCons (gP (.int 2)) (gP [])))) (gKwF 3 [2, 1, 0] (F_text_with))) (gP []))))))))))
def g8__law_there_right : Gs := (gRet (gCallD (F__law_same 12) (gConsL (gVar 5) (gConsL (gI (gFl (gLst (gConsL (gI (gP (.bool false))) (gConsL (gI (gP .none)) (gConsL (gI (gTup (PM.gCons (gP (.int 2)) (PM.gCons (gP (.int 1)) (gP []))))) (gConsL (gI (gTup (PM.gCons (gP (.int 1)) (PM.gCons (gP (.str "front")) (gP []))))) (gConsL (gI (gTup (PM.gCons (gP (.int 1)) (gP [])))) (gP []))))))))) (gP [])))))
def B__law_there_right : Gs := (gSeq g0__law_there_right (gSeq g1__law_there_right (gSeq g2__law_there_right (gSeq g3__law_there_right (gSeq g4__law_there_right (gSeq g5__law_there_right (gSeq g6__law_there_right (gSeq g7__law_there_right (gSeq g8__law_there_right gSkip)))))))))
def F__law_there_right : List Im → List Ob → Option FR := fnF 0 10 B__law_there_right
def B_law : Gs := (gSeq (gRet (gI (gAndV (gD (gCallD (F__law_pairs_right) (gP []))) (gD (gCallD (F__law_there_right) (gP []))))))
    gSkip)
def F_law : List Im → List Ob → Option FR := fnF 1 1 B_law
abbrev s_CanNot : Stmt := PD.clsDef (topS 1) 0
structure Tx (K : PySem.W.Frag) (mg : Str → Option Value) : Prop where
  b_ValueError : mg "ValueError" = none
  b_all : mg "all" = none
  b_any : mg "any" = none
  b_bool : mg "bool" = none
  b_enumerate : mg "enumerate" = none
  b_int : mg "int" = none
  b_isinstance : mg "isinstance" = none
  b_len : mg "len" = none
  b_list : mg "list" = none
  b_range : mg "range" = none
  b_str : mg "str" = none
  b_tuple : mg "tuple" = none
  b_zip : mg "zip" = none
  n_BEFORE : ∃ tok, mg "BEFORE" = some (.int 0 tok)
  n_HERE : ∃ tok, mg "HERE" = some (.int 1 tok)
  n_LATER : ∃ tok, mg "LATER" = some (.int 2 tok)
  n_MOST_LETTERS : ∃ tok, mg "MOST_LETTERS" = some (.int 3 tok)
  f_least_text : ∃ fd, Fun K "least_text" "least_text" s_least_text (He.ga K "least_text") fd ∧ mg "least_text" = some (.ref (He.ga K "least_text"))
  f_asked_from : ∃ fd, Fun K "asked_from" "asked_from" s_asked_from (He.ga K "asked_from") fd ∧ mg "asked_from" = some (.ref (He.ga K "asked_from"))
  f_marks_told : ∃ fd, Fun K "marks_told" "marks_told" s_marks_told (He.ga K "marks_told") fd ∧ mg "marks_told" = some (.ref (He.ga K "marks_told"))
  f_rows_behind : ∃ fd, Fun K "rows_behind" "rows_behind" s_rows_behind (He.ga K "rows_behind") fd ∧ mg "rows_behind" = some (.ref (He.ga K "rows_behind"))
  f_marks_at_front : ∃ fd, Fun K "marks_at_front" "marks_at_front" s_marks_at_front (He.ga K "marks_at_front") fd ∧ mg "marks_at_front" = some (.ref (He.ga K "marks_at_front"))
  f_rows_at_front : ∃ fd, Fun K "rows_at_front" "rows_at_front" s_rows_at_front (He.ga K "rows_at_front") fd ∧ mg "rows_at_front" = some (.ref (He.ga K "rows_at_front"))
  f_can_end : ∃ fd, Fun K "can_end" "can_end" s_can_end (He.ga K "can_end") fd ∧ mg "can_end" = some (.ref (He.ga K "can_end"))
  f_how_they_lie : ∃ fd, Fun K "how_they_lie" "how_they_lie" s_how_they_lie (He.ga K "how_they_lie") fd ∧ mg "how_they_lie" = some (.ref (He.ga K "how_they_lie"))
  f_text_lying : ∃ fd, Fun K "text_lying" "text_lying" s_text_lying (He.ga K "text_lying") fd ∧ mg "text_lying" = some (.ref (He.ga K "text_lying"))
  f_are_one : ∃ fd, Fun K "are_one" "are_one" s_are_one (He.ga K "are_one") fd ∧ mg "are_one" = some (.ref (He.ga K "are_one"))
  f_order_of : ∃ fd, Fun K "order_of" "order_of" s_order_of (He.ga K "order_of") fd ∧ mg "order_of" = some (.ref (He.ga K "order_of"))
  f__law_same : ∃ fd, Fun K "_law_same" "_law_same" s__law_same (He.ga K "_law_same") fd ∧ mg "_law_same" = some (.ref (He.ga K "_law_same"))
  f_unlike_named : ∃ fd, Fun K "unlike_named" "unlike_named" s_unlike_named (He.ga K "unlike_named") fd ∧ mg "unlike_named" = some (.ref (He.ga K "unlike_named"))
  f_text_there : ∃ fd, Fun K "text_there" "text_there" s_text_there (He.ga K "text_there") fd ∧ mg "text_there" = some (.ref (He.ga K "text_there"))
  f_text_with : ∃ fd, Fun K "text_with" "text_with" s_text_with (He.ga K "text_with") fd ∧ mg "text_with" = some (.ref (He.ga K "text_with"))
  f__law_heard : ∃ fd, Fun K "_law_heard" "_law_heard" s__law_heard (He.ga K "_law_heard") fd ∧ mg "_law_heard" = some (.ref (He.ga K "_law_heard"))
  f__law_pairs_right : ∃ fd, Fun K "_law_pairs_right" "_law_pairs_right" s__law_pairs_right (He.ga K "_law_pairs_right") fd ∧ mg "_law_pairs_right" = some (.ref (He.ga K "_law_pairs_right"))
  f_letters_there : ∃ fd, Fun K "letters_there" "letters_there" s_letters_there (He.ga K "letters_there") fd ∧ mg "letters_there" = some (.ref (He.ga K "letters_there"))
  f__law_lists : ∃ fd, Fun K "_law_lists" "_law_lists" s__law_lists (He.ga K "_law_lists") fd ∧ mg "_law_lists" = some (.ref (He.ga K "_law_lists"))
  f__law_there_right : ∃ fd, Fun K "_law_there_right" "_law_there_right" s__law_there_right (He.ga K "_law_there_right") fd ∧ mg "_law_there_right" = some (.ref (He.ga K "_law_there_right"))
  f_law : ∃ fd, Fun K "law" "law" s_law (He.ga K "law") fd ∧ mg "law" = some (.ref (He.ga K "law"))
  k_CanNot : PD.ClsF K "CanNot" "zz" "ValueError" "ValueError.__new__" [.type "ValueError", .type "Exception", .type "BaseException", .type "object"] [("ValueError", true)]
  g_CanNot : mg "CanNot" = some (.ref (He.ga K "CanNot"))
  i_CanNot : ∃ fd, Fun K "__init__" "CanNot.__init__" s_CanNot (He.ma K (He.ga K "CanNot") "__init__") fd
structure Bx (P : Program) (w : World) (K : PySem.W.Frag) (mg : Str → Option Value) (base : Heap) : Prop where
  tn_text_lying : ("text_lying" : Str) ∈ tabN P
  tb_text_lying : ∃ Q, TbAt ⟨P, w, K, mg, base⟩ "text_lying" Q
  nm_text_lying__go_on : nmOf P 72 4 = ("text_lying.<locals>." : Str) ++ ("go_on" : Str)
  nm_text_lying__is_end : nmOf P 78 4 = ("text_lying.<locals>." : Str) ++ ("is_end" : Str)
  tn_text_there : ("text_there" : Str) ∈ tabN P
  tb_text_there : ∃ Q, TbAt ⟨P, w, K, mg, base⟩ "text_there" Q
  nm_text_there__go_on : nmOf P 85 4 = ("text_there.<locals>." : Str) ++ ("go_on" : Str)
  nm_text_there__is_end : nmOf P 91 4 = ("text_there.<locals>." : Str) ++ ("is_end" : Str)
theorem boot_ValueError : bootBuiltins "ValueError" = some (.type "ValueError") := by decide +kernel
section
variable {P : Program} {w : World} {K : PySem.W.Frag} {mg : Str → Option Value} {base : Heap}
theorem c_CanNot (T : Tx K mg) : Ez P w K mg base "CanNot" "ValueError" "ValueError.__new__" [.type "ValueError", .type "Exception", .type "BaseException", .type "object"] (He.ga K "CanNot") := by
  obtain ⟨fd, Fn⟩ := T.i_CanNot
  have k := T.k_CanNot
  exact ⟨T.g_CanNot, k.xk, k.te, k.is, _, fd, _, k.ii, k.it, PD.ok_ini0 Fn (⟨rfl, rfl, rfl, by decide +kernel, rfl, by decide +kernel, by decide +kernel⟩ : FnScope ["self"] ["self"] (defScope s_CanNot)) rfl, Fn.binds fun _ _ _ _ _ _ us hl => match us, hl with | [_], _ => rfl⟩
theorem st0_least_text (T : Tx K mg) (B : Bx P w K mg base) (fd : FuncData) (Fn : Fun K "least_text" "least_text" s_least_text (He.ga K "least_text") fd) (hm : mg "least_text" = some (.ref (He.ga K "least_text"))) (cdv : Value) (A : Around) (outer : List Env) (s : Shared) (H : Hp) (E : XK) (hr : Room 30 (A.deeper (envOfC "least_text" (defScope s_least_text) s.heap.objs.size (He.ga K "least_text") cdv))) (hcd : CodeIs K (He.ga K "least_text") cdv) :
    PMS (cxOf (L2.CX P w) P w K mg base n_least_text "least_text" (defScope s_least_text) (He.ga K "least_text") cdv A outer s H E) (WnE E (cxOf (L2.CX P w) P w K mg base n_least_text "least_text" (defScope s_least_text) (He.ga K "least_text") cdv A outer s H E)) ((defBody s_least_text).getD 0 (.Pass ⟨0, 0, 0, 0⟩)) g0_least_text := by
  obtain ⟨t_MOST_LETTERS, n_MOST_LETTERS⟩ := T.n_MOST_LETTERS
  exact (pms_asg (PMF.o (pmf_lst (pml_cons (PMD.i (pm_tup (pma_cons (pm_tup pma_nil) (pma_cons (PMI.d (pi_var (pv 0))) pma_nil)))) pml_nil))) (pg_name (i := 3) sc_least_text.nd rfl (by first | exact .inl rfl | exact .inr rfl)))
theorem st1_least_text (T : Tx K mg) (B : Bx P w K mg base) (fd : FuncData) (Fn : Fun K "least_text" "least_text" s_least_text (He.ga K "least_text") fd) (hm : mg "least_text" = some (.ref (He.ga K "least_text"))) (cdv : Value) (A : Around) (outer : List Env) (s : Shared) (H : Hp) (E : XK) (hr : Room 30 (A.deeper (envOfC "least_text" (defScope s_least_text) s.heap.objs.size (He.ga K "least_text") cdv))) (hcd : CodeIs K (He.ga K "least_text") cdv) :
    PMS (cxOf (L2.CX P w) P w K mg base n_least_text "least_text" (defScope s_least_text) (He.ga K "least_text") cdv A outer s H E) (WnE E (cxOf (L2.CX P w) P w K mg base n_least_text "least_text" (defScope s_least_text) (He.ga K "least_text") cdv A outer s H E)) ((defBody s_least_text).getD 1 (.Pass ⟨0, 0, 0, 0⟩)) g1_least_text := by
  obtain ⟨t_MOST_LETTERS, n_MOST_LETTERS⟩ := T.n_MOST_LETTERS
  exact (pms_asgDc (i := 4) (own := [("own", 5)]) (un_of hr) rfl sc_least_text.nd rfl rfl rfl (pmi_seq (PMI.d (pi_var (pv 0)))) (PD.blk_mk (N := n_least_text) (sc := defScope s_least_text) rfl (by decide +kernel)) (fun _ _ _ _ _ => (pg_one (pg_name (i := 5) sc_least_text.nd rfl (by first | exact .inl rfl | exact .inr rfl)))) (fun _ _ _ _ _ => pmts_nil) (fun _ _ _ _ _ => (PMI.d (pi_var (pv 5)))) (fun _ _ _ _ _ => (PMD.i pm_bl)) (by decide))
theorem st2_least_text (T : Tx K mg) (B : Bx P w K mg base) (fd : FuncData) (Fn : Fun K "least_text" "least_text" s_least_text (He.ga K "least_text") fd) (hm : mg "least_text" = some (.ref (He.ga K "least_text"))) (cdv : Value) (A : Around) (outer : List Env) (s : Shared) (H : Hp) (E : XK) (hr : Room 30 (A.deeper (envOfC "least_text" (defScope s_least_text) s.heap.objs.size (He.ga K "least_text") cdv))) (hcd : CodeIs K (He.ga K "least_text") cdv) :
    PMS (cxOf (L2.CX P w) P w K mg base n_least_text "least_text" (defScope s_least_text) (He.ga K "least_text") cdv A outer s H E) (WnE E (cxOf (L2.CX P w) P w K mg base n_least_text "least_text" (defScope s_least_text) (He.ga K "least_text") cdv A outer s H E)) ((defBody s_least_text).getD 2 (.Pass ⟨0, 0, 0, 0⟩)) g2_least_text := by
  obtain ⟨t_MOST_LETTERS, n_MOST_LETTERS⟩ := T.n_MOST_LETTERS
  exact (pms_asg (PMD.i pm_int) (pg_name (i := 6) sc_least_text.nd rfl (by first | exact .inl rfl | exact .inr rfl)))
theorem st3_least_text (T : Tx K mg) (B : Bx P w K mg base) (fd : FuncData) (Fn : Fun K "least_text" "least_text" s_least_text (He.ga K "least_text") fd) (hm : mg "least_text" = some (.ref (He.ga K "least_text"))) (cdv : Value) (A : Around) (outer : List Env) (s : Shared) (H : Hp) (E : XK) (hr : Room 30 (A.deeper (envOfC "least_text" (defScope s_least_text) s.heap.objs.size (He.ga K "least_text") cdv))) (hcd : CodeIs K (He.ga K "least_text") cdv) :
    PMS (cxOf (L2.CX P w) P w K mg base n_least_text "least_text" (defScope s_least_text) (He.ga K "least_text") cdv A outer s H E) (WnE E (cxOf (L2.CX P w) P w K mg base n_least_text "least_text" (defScope s_least_text) (He.ga K "least_text") cdv A outer s H E)) ((defBody s_least_text).getD 3 (.Pass ⟨0, 0, 0, 0⟩)) g3_least_text := by
  obtain ⟨t_MOST_LETTERS, n_MOST_LETTERS⟩ := T.n_MOST_LETTERS
  exact (pms_while 3000 (passes_of rfl) (pmt_cmp (PD.cr_lt hr) (PMI.d (pi_var (pv 6))) (pm_len T.b_len (pi_var (pv 3)))) (pmss_cons (pms_asgT (PMI.d (pi_at (un_of hr) (pi_var (pv 3)) (PMI.d (pi_var (pv 6))) (fun _ _ => rfl))) (pg_tl rfl (pgs_cons' (pg_one (pg_name (i := 7) sc_least_text.nd rfl (by first | exact .inl rfl | exact .inr rfl))) (pgs_cons' (pg_one (pg_name (i := 8) sc_least_text.nd rfl (by first | exact .inl rfl | exact .inr rfl))) pgs_nil'))))
    (pmss_cons (pms_if (pmt_val (pm_anyB rfl T.b_any (pma_cons (PMF.d (pmf_lc (own := [("own", 5)]) rfl sc_least_text.nd (pmi_seq (PMI.d (pi_var (pv 8)))) (PD.blk_mk (N := n_least_text) (sc := defScope s_least_text) rfl (by decide +kernel)) (fun _ _ _ _ _ => (pg_one (pg_name (i := 5) sc_least_text.nd rfl (by first | exact .inl rfl | exact .inr rfl)))) (fun _ _ _ _ _ => pmts_nil) (fun _ _ _ _ _ => (PMD.i (pm_callFn (i := 2) (pv 2) (pma_cons (PMI.d (pi_var (pv 5))) pma_nil) (hr.mono (by decide)) takes0))) (by decide))) pma_nil))) (pmss_cons (pms_ret (pi_var (pv 7)))
    pmss_nil) pmss_nil)
    (pmss_cons (pms_for (passes_of rfl) rfl (pmi_range2 (by rfl) T.b_range (pma_cons pm_int (pma_cons (pm_add (pm_glob (by rfl) n_MOST_LETTERS) pm_int) pma_nil))) (pg_one (pg_name (i := 9) sc_least_text.nd rfl (by first | exact .inl rfl | exact .inr rfl))) (pmss_cons (pms_asg (PMF.o (pmf_lst pml_nil)) (pg_name (i := 10) sc_least_text.nd rfl (by first | exact .inl rfl | exact .inr rfl)))
    (pmss_cons (pms_for (passes_of rfl) rfl (pmi_seq (PMI.d (pi_var (pv 8)))) (pg_one (pg_name (i := 5) sc_least_text.nd rfl (by first | exact .inl rfl | exact .inr rfl))) (pmss_cons (pms_for (passes_of rfl) rfl (pmi_seq (pm_callFn (i := 1) (pv 1) (pma_cons (PMI.d (pi_var (pv 5))) (pma_cons (PMI.d (pi_var (pv 9))) pma_nil)) (hr.mono (by decide)) (takes_of rfl rfl rfl rfl))) (pg_one (pg_name (i := 11) sc_least_text.nd rfl (by first | exact .inl rfl | exact .inr rfl))) (pmss_cons (pms_if (pmt_in (or_nin (un_of hr)) (by rfl) (PMI.d (pi_var (pv 11))) (pi_var (pv 4))) (pmss_cons (pms_set (un_of hr) (pi_var (pv 4)) (PMI.d (pi_var (pv 11))) (PMD.i pm_bl) (fun a b q => pg_sub a b q))
    (pmss_cons (pms_expr (pi_met lm_app (pi_var (pv 10)) (pml_cons (pi_var (pv 11)) pml_nil) (fun a b q => pe_bm PySem.F.plainAttrs_list PySem.F.slot_list_append PySem.F.type_list_append a b q)))
    pmss_nil)) pmss_nil)
    pmss_nil))
    pmss_nil))
    (pmss_cons (pms_if (pmt_cmp PD.cd_gt (pm_len T.b_len (pi_var (pv 10))) pm_int) (pmss_cons (pms_expr (pi_met lm_app (pi_var (pv 3)) (pml_cons (PMD.i (pm_tup (pma_cons (pm_add (PMI.d (pi_var (pv 7))) (pm_tup (pma_cons (PMI.d (pi_var (pv 9))) pma_nil))) (pma_cons (PMI.d (pi_var (pv 10))) pma_nil)))) pml_nil) (fun a b q => pe_bm PySem.F.plainAttrs_list PySem.F.slot_list_append PySem.F.type_list_append a b q)))
    pmss_nil) pmss_nil)
    pmss_nil))))
    (pmss_cons (pms_aug (i := 6) pm_int ip_add (fun h => ps_aug sc_least_text.nd rfl (by first | exact .inl rfl | exact .inr rfl) h ip_add))
    pmss_nil)))))
theorem st4_least_text (T : Tx K mg) (B : Bx P w K mg base) (fd : FuncData) (Fn : Fun K "least_text" "least_text" s_least_text (He.ga K "least_text") fd) (hm : mg "least_text" = some (.ref (He.ga K "least_text"))) (cdv : Value) (A : Around) (outer : List Env) (s : Shared) (H : Hp) (E : XK) (hr : Room 30 (A.deeper (envOfC "least_text" (defScope s_least_text) s.heap.objs.size (He.ga K "least_text") cdv))) (hcd : CodeIs K (He.ga K "least_text") cdv) :
    PMS (cxOf (L2.CX P w) P w K mg base n_least_text "least_text" (defScope s_least_text) (He.ga K "least_text") cdv A outer s H E) (WnE E (cxOf (L2.CX P w) P w K mg base n_least_text "least_text" (defScope s_least_text) (He.ga K "least_text") cdv A outer s H E)) ((defBody s_least_text).getD 4 (.Pass ⟨0, 0, 0, 0⟩)) g4_least_text := by
  obtain ⟨t_MOST_LETTERS, n_MOST_LETTERS⟩ := T.n_MOST_LETTERS
  exact (pms_ret (PMD.i pm_non))
theorem df_least_text (T : Tx K mg) (B : Bx P w K mg base) : Df P w K mg base 31 "least_text" s_least_text ["starts", "go_on", "is_end"] F_least_text := by
  obtain ⟨fd, Fn, hm⟩ := T.f_least_text
  exact df_mk (N := n_least_text) (ps := ["starts", "go_on", "is_end"]) (k := 30) (B := B_least_text) Fn hm (Fn.binds fun _ _ _ _ _ _ us hl => match us, hl with | [_, _, _], _ => rfl) sc_least_text (by decide) fun cdv A outer s H E hr hcd =>
    (pmss_cons (st0_least_text T B fd Fn hm cdv A outer s H E hr hcd) (pmss_cons (st1_least_text T B fd Fn hm cdv A outer s H E hr hcd) (pmss_cons (st2_least_text T B fd Fn hm cdv A outer s H E hr hcd) (pmss_cons (st3_least_text T B fd Fn hm cdv A outer s H E hr hcd) (pmss_cons (st4_least_text T B fd Fn hm cdv A outer s H E hr hcd) pmss_nil)))))
theorem st0_asked_from (T : Tx K mg) (B : Bx P w K mg base) (fd : FuncData) (Fn : Fun K "asked_from" "asked_from" s_asked_from (He.ga K "asked_from") fd) (hm : mg "asked_from" = some (.ref (He.ga K "asked_from"))) (cdv : Value) (A : Around) (outer : List Env) (s : Shared) (H : Hp) (E : XK) (hr : Room 1 (A.deeper (envOfC "asked_from" (defScope s_asked_from) s.heap.objs.size (He.ga K "asked_from") cdv))) (hcd : CodeIs K (He.ga K "asked_from") cdv) :
    PMS (cxOf (L2.CX P w) P w K mg base n_asked_from "asked_from" (defScope s_asked_from) (He.ga K "asked_from") cdv A outer s H E) (WnE E (cxOf (L2.CX P w) P w K mg base n_asked_from "asked_from" (defScope s_asked_from) (He.ga K "asked_from") cdv A outer s H E)) ((defBody s_asked_from).getD 0 (.Pass ⟨0, 0, 0, 0⟩)) g0_asked_from := by
  obtain ⟨t_BEFORE, n_BEFORE⟩ := T.n_BEFORE
  obtain ⟨t_HERE, n_HERE⟩ := T.n_HERE
  obtain ⟨t_LATER, n_LATER⟩ := T.n_LATER
  exact (pms_asg (PMD.i (pm_len T.b_len (pi_var (pv 2)))) (pg_name (i := 3) sc_asked_from.nd rfl (by first | exact .inl rfl | exact .inr rfl)))
theorem st1_asked_from (T : Tx K mg) (B : Bx P w K mg base) (fd : FuncData) (Fn : Fun K "asked_from" "asked_from" s_asked_from (He.ga K "asked_from") fd) (hm : mg "asked_from" = some (.ref (He.ga K "asked_from"))) (cdv : Value) (A : Around) (outer : List Env) (s : Shared) (H : Hp) (E : XK) (hr : Room 1 (A.deeper (envOfC "asked_from" (defScope s_asked_from) s.heap.objs.size (He.ga K "asked_from") cdv))) (hcd : CodeIs K (He.ga K "asked_from") cdv) :
    PMS (cxOf (L2.CX P w) P w K mg base n_asked_from "asked_from" (defScope s_asked_from) (He.ga K "asked_from") cdv A outer s H E) (WnE E (cxOf (L2.CX P w) P w K mg base n_asked_from "asked_from" (defScope s_asked_from) (He.ga K "asked_from") cdv A outer s H E)) ((defBody s_asked_from).getD 1 (.Pass ⟨0, 0, 0, 0⟩)) g1_asked_from := by
  obtain ⟨t_BEFORE, n_BEFORE⟩ := T.n_BEFORE
  obtain ⟨t_HERE, n_HERE⟩ := T.n_HERE
  obtain ⟨t_LATER, n_LATER⟩ := T.n_LATER
  exact (pms_if (pmt_cmp (PD.cr_eq hr) (PMI.d (pi_var (pv 3))) pm_int) (pmss_cons (pms_ret (PMD.i (pm_ifExp (pmt_cmp (PD.cr_eq hr) (PMI.d (pi_at (un_of hr) (pi_at (un_of hr) (pi_var (pv 0)) pm_int (fun _ _ => rfl)) pm_int (fun _ _ => rfl))) pm_str) (pm_glob (by rfl) n_BEFORE) (pm_glob (by rfl) n_LATER))))
    pmss_nil) pmss_nil)
theorem st2_asked_from (T : Tx K mg) (B : Bx P w K mg base) (fd : FuncData) (Fn : Fun K "asked_from" "asked_from" s_asked_from (He.ga K "asked_from") fd) (hm : mg "asked_from" = some (.ref (He.ga K "asked_from"))) (cdv : Value) (A : Around) (outer : List Env) (s : Shared) (H : Hp) (E : XK) (hr : Room 1 (A.deeper (envOfC "asked_from" (defScope s_asked_from) s.heap.objs.size (He.ga K "asked_from") cdv))) (hcd : CodeIs K (He.ga K "asked_from") cdv) :
    PMS (cxOf (L2.CX P w) P w K mg base n_asked_from "asked_from" (defScope s_asked_from) (He.ga K "asked_from") cdv A outer s H E) (WnE E (cxOf (L2.CX P w) P w K mg base n_asked_from "asked_from" (defScope s_asked_from) (He.ga K "asked_from") cdv A outer s H E)) ((defBody s_asked_from).getD 2 (.Pass ⟨0, 0, 0, 0⟩)) g2_asked_from := by
  obtain ⟨t_BEFORE, n_BEFORE⟩ := T.n_BEFORE
  obtain ⟨t_HERE, n_HERE⟩ := T.n_HERE
  obtain ⟨t_LATER, n_LATER⟩ := T.n_LATER
  exact (pms_if (pmt_val (PMI.d (pi_at (un_of hr) (pi_var (pv 1)) (pm_sub (PMI.d (pi_var (pv 3))) pm_int) (fun _ _ => rfl)))) (pmss_cons (pms_ret (PMD.i (pm_glob (by rfl) n_BEFORE)))
    pmss_nil) pmss_nil)
theorem st3_asked_from (T : Tx K mg) (B : Bx P w K mg base) (fd : FuncData) (Fn : Fun K "asked_from" "asked_from" s_asked_from (He.ga K "asked_from") fd) (hm : mg "asked_from" = some (.ref (He.ga K "asked_from"))) (cdv : Value) (A : Around) (outer : List Env) (s : Shared) (H : Hp) (E : XK) (hr : Room 1 (A.deeper (envOfC "asked_from" (defScope s_asked_from) s.heap.objs.size (He.ga K "asked_from") cdv))) (hcd : CodeIs K (He.ga K "asked_from") cdv) :
    PMS (cxOf (L2.CX P w) P w K mg base n_asked_from "asked_from" (defScope s_asked_from) (He.ga K "asked_from") cdv A outer s H E) (WnE E (cxOf (L2.CX P w) P w K mg base n_asked_from "asked_from" (defScope s_asked_from) (He.ga K "asked_from") cdv A outer s H E)) ((defBody s_asked_from).getD 3 (.Pass ⟨0, 0, 0, 0⟩)) g3_asked_from := by
  obtain ⟨t_BEFORE, n_BEFORE⟩ := T.n_BEFORE
  obtain ⟨t_HERE, n_HERE⟩ := T.n_HERE
  obtain ⟨t_LATER, n_LATER⟩ := T.n_LATER
  exact (pms_ret (PMD.i (pm_ifExp (pmt_val (PMI.d (pi_at (un_of hr) (pi_var (pv 2)) (pm_sub (PMI.d (pi_var (pv 3))) pm_int) (fun _ _ => rfl)))) (pm_glob (by rfl) n_HERE) (pm_glob (by rfl) n_LATER))))
theorem df_asked_from (T : Tx K mg) (B : Bx P w K mg base) : Df P w K mg base 2 "asked_from" s_asked_from ["naming", "row", "longer"] F_asked_from := by
  obtain ⟨fd, Fn, hm⟩ := T.f_asked_from
  exact df_mk (N := n_asked_from) (ps := ["naming", "row", "longer"]) (k := 1) (B := B_asked_from) Fn hm (Fn.binds fun _ _ _ _ _ _ us hl => match us, hl with | [_, _, _], _ => rfl) sc_asked_from (by decide) fun cdv A outer s H E hr hcd =>
    (pmss_cons (st0_asked_from T B fd Fn hm cdv A outer s H E hr hcd) (pmss_cons (st1_asked_from T B fd Fn hm cdv A outer s H E hr hcd) (pmss_cons (st2_asked_from T B fd Fn hm cdv A outer s H E hr hcd) (pmss_cons (st3_asked_from T B fd Fn hm cdv A outer s H E hr hcd) pmss_nil))))
theorem st0_marks_told (T : Tx K mg) (B : Bx P w K mg base) (fd : FuncData) (Fn : Fun K "marks_told" "marks_told" s_marks_told (He.ga K "marks_told") fd) (hm : mg "marks_told" = some (.ref (He.ga K "marks_told"))) (cdv : Value) (A : Around) (outer : List Env) (s : Shared) (H : Hp) (E : XK) (hr : Room 1 (A.deeper (envOfC "marks_told" (defScope s_marks_told) s.heap.objs.size (He.ga K "marks_told") cdv))) (hcd : CodeIs K (He.ga K "marks_told") cdv) :
    PMS (cxOf (L2.CX P w) P w K mg base n_marks_told "marks_told" (defScope s_marks_told) (He.ga K "marks_told") cdv A outer s H E) (WnE E (cxOf (L2.CX P w) P w K mg base n_marks_told "marks_told" (defScope s_marks_told) (He.ga K "marks_told") cdv A outer s H E)) ((defBody s_marks_told).getD 0 (.Pass ⟨0, 0, 0, 0⟩)) g0_marks_told := by
  obtain ⟨t_BEFORE, n_BEFORE⟩ := T.n_BEFORE
  obtain ⟨t_LATER, n_LATER⟩ := T.n_LATER
  exact (pms_asgT (PMI.d (pi_var (pv 0))) (pg_tl rfl (pgs_cons' (pg_one (pg_name (i := 4) sc_marks_told.nd rfl (by first | exact .inl rfl | exact .inr rfl))) (pgs_cons' (pg_one (pg_name (i := 5) sc_marks_told.nd rfl (by first | exact .inl rfl | exact .inr rfl))) pgs_nil'))))
theorem st1_marks_told (T : Tx K mg) (B : Bx P w K mg base) (fd : FuncData) (Fn : Fun K "marks_told" "marks_told" s_marks_told (He.ga K "marks_told") fd) (hm : mg "marks_told" = some (.ref (He.ga K "marks_told"))) (cdv : Value) (A : Around) (outer : List Env) (s : Shared) (H : Hp) (E : XK) (hr : Room 1 (A.deeper (envOfC "marks_told" (defScope s_marks_told) s.heap.objs.size (He.ga K "marks_told") cdv))) (hcd : CodeIs K (He.ga K "marks_told") cdv) :
    PMS (cxOf (L2.CX P w) P w K mg base n_marks_told "marks_told" (defScope s_marks_told) (He.ga K "marks_told") cdv A outer s H E) (WnE E (cxOf (L2.CX P w) P w K mg base n_marks_told "marks_told" (defScope s_marks_told) (He.ga K "marks_told") cdv A outer s H E)) ((defBody s_marks_told).getD 1 (.Pass ⟨0, 0, 0, 0⟩)) g1_marks_told := by
  obtain ⟨t_BEFORE, n_BEFORE⟩ := T.n_BEFORE
  obtain ⟨t_LATER, n_LATER⟩ := T.n_LATER
  exact (pms_if (pmt_cmp (PD.cr_eq hr) (PMI.d (pi_var (pv 4))) pm_str) (pmss_cons (pms_ret (PMD.i (pm_tup (pma_cons (pm_or (PMI.d (pi_var (pv 1))) (pm_last (pm_and (pm_cmp (PD.cr_eq hr) (PMI.d (pi_var (pv 2))) (pm_glob (by rfl) n_BEFORE)) (pm_last (pm_in2 (or_in (un_of hr)) (by rfl) (PMI.d (pi_var (pv 3))) (pi_var (pv 5))))))) pma_nil))))
    pmss_nil) pmss_nil)
theorem st2_marks_told (T : Tx K mg) (B : Bx P w K mg base) (fd : FuncData) (Fn : Fun K "marks_told" "marks_told" s_marks_told (He.ga K "marks_told") fd) (hm : mg "marks_told" = some (.ref (He.ga K "marks_told"))) (cdv : Value) (A : Around) (outer : List Env) (s : Shared) (H : Hp) (E : XK) (hr : Room 1 (A.deeper (envOfC "marks_told" (defScope s_marks_told) s.heap.objs.size (He.ga K "marks_told") cdv))) (hcd : CodeIs K (He.ga K "marks_told") cdv) :
    PMS (cxOf (L2.CX P w) P w K mg base n_marks_told "marks_told" (defScope s_marks_told) (He.ga K "marks_told") cdv A outer s H E) (WnE E (cxOf (L2.CX P w) P w K mg base n_marks_told "marks_told" (defScope s_marks_told) (He.ga K "marks_told") cdv A outer s H E)) ((defBody s_marks_told).getD 2 (.Pass ⟨0, 0, 0, 0⟩)) g2_marks_told := by
  obtain ⟨t_BEFORE, n_BEFORE⟩ := T.n_BEFORE
  obtain ⟨t_LATER, n_LATER⟩ := T.n_LATER
  exact (pms_if (pmt_cmp (PD.cr_ne hr) (PMI.d (pi_var (pv 2))) (pm_glob (by rfl) n_LATER)) (pmss_cons (pms_ret (PMD.i (pm_ifExp (pmt_val (PMI.d (pi_var (pv 1)))) (pm_tup (pma_cons pm_bl pma_nil)) (pm_tup pma_nil))))
    pmss_nil) pmss_nil)
theorem st3_marks_told (T : Tx K mg) (B : Bx P w K mg base) (fd : FuncData) (Fn : Fun K "marks_told" "marks_told" s_marks_told (He.ga K "marks_told") fd) (hm : mg "marks_told" = some (.ref (He.ga K "marks_told"))) (cdv : Value) (A : Around) (outer : List Env) (s : Shared) (H : Hp) (E : XK) (hr : Room 1 (A.deeper (envOfC "marks_told" (defScope s_marks_told) s.heap.objs.size (He.ga K "marks_told") cdv))) (hcd : CodeIs K (He.ga K "marks_told") cdv) :
    PMS (cxOf (L2.CX P w) P w K mg base n_marks_told "marks_told" (defScope s_marks_told) (He.ga K "marks_told") cdv A outer s H E) (WnE E (cxOf (L2.CX P w) P w K mg base n_marks_told "marks_told" (defScope s_marks_told) (He.ga K "marks_told") cdv A outer s H E)) ((defBody s_marks_told).getD 3 (.Pass ⟨0, 0, 0, 0⟩)) g3_marks_told := by
  obtain ⟨t_BEFORE, n_BEFORE⟩ := T.n_BEFORE
  obtain ⟨t_LATER, n_LATER⟩ := T.n_LATER
  exact (pms_if (pmt_in (or_nin (un_of hr)) (by rfl) (PMI.d (pi_var (pv 3))) (pi_var (pv 5))) (pmss_cons (pms_ret (PMD.i (pm_tup (pma_cons (PMI.d (pi_var (pv 1))) pma_nil))))
    pmss_nil) pmss_nil)
theorem st4_marks_told (T : Tx K mg) (B : Bx P w K mg base) (fd : FuncData) (Fn : Fun K "marks_told" "marks_told" s_marks_told (He.ga K "marks_told") fd) (hm : mg "marks_told" = some (.ref (He.ga K "marks_told"))) (cdv : Value) (A : Around) (outer : List Env) (s : Shared) (H : Hp) (E : XK) (hr : Room 1 (A.deeper (envOfC "marks_told" (defScope s_marks_told) s.heap.objs.size (He.ga K "marks_told") cdv))) (hcd : CodeIs K (He.ga K "marks_told") cdv) :
    PMS (cxOf (L2.CX P w) P w K mg base n_marks_told "marks_told" (defScope s_marks_told) (He.ga K "marks_told") cdv A outer s H E) (WnE E (cxOf (L2.CX P w) P w K mg base n_marks_told "marks_told" (defScope s_marks_told) (He.ga K "marks_told") cdv A outer s H E)) ((defBody s_marks_told).getD 4 (.Pass ⟨0, 0, 0, 0⟩)) g4_marks_told := by
  obtain ⟨t_BEFORE, n_BEFORE⟩ := T.n_BEFORE
  obtain ⟨t_LATER, n_LATER⟩ := T.n_LATER
  exact (pms_ret (PMD.i (pm_ifExp (pmt_val (PMI.d (pi_var (pv 1)))) (pm_tup pma_nil) (pm_tup (pma_cons pm_bl (pma_cons pm_bl pma_nil))))))
theorem df_marks_told (T : Tx K mg) (B : Bx P w K mg base) : Df P w K mg base 2 "marks_told" s_marks_told ["pair", "mark", "asked", "letter"] F_marks_told := by
  obtain ⟨fd, Fn, hm⟩ := T.f_marks_told
  exact df_mk (N := n_marks_told) (ps := ["pair", "mark", "asked", "letter"]) (k := 1) (B := B_marks_told) Fn hm (Fn.binds fun _ _ _ _ _ _ us hl => match us, hl with | [_, _, _, _], _ => rfl) sc_marks_told (by decide) fun cdv A outer s H E hr hcd =>
    (pmss_cons (st0_marks_told T B fd Fn hm cdv A outer s H E hr hcd) (pmss_cons (st1_marks_told T B fd Fn hm cdv A outer s H E hr hcd) (pmss_cons (st2_marks_told T B fd Fn hm cdv A outer s H E hr hcd) (pmss_cons (st3_marks_told T B fd Fn hm cdv A outer s H E hr hcd) (pmss_cons (st4_marks_told T B fd Fn hm cdv A outer s H E hr hcd) pmss_nil)))))
theorem st0_rows_behind (T : Tx K mg) (B : Bx P w K mg base) (fd : FuncData) (Fn : Fun K "rows_behind" "rows_behind" s_rows_behind (He.ga K "rows_behind") fd) (hm : mg "rows_behind" = some (.ref (He.ga K "rows_behind"))) (cdv : Value) (A : Around) (outer : List Env) (s : Shared) (H : Hp) (E : XK) (hr : Room 2 (A.deeper (envOfC "rows_behind" (defScope s_rows_behind) s.heap.objs.size (He.ga K "rows_behind") cdv))) (hcd : CodeIs K (He.ga K "rows_behind") cdv) :
    PMS (cxOf (L2.CX P w) P w K mg base n_rows_behind "rows_behind" (defScope s_rows_behind) (He.ga K "rows_behind") cdv A outer s H E) (WnE E (cxOf (L2.CX P w) P w K mg base n_rows_behind "rows_behind" (defScope s_rows_behind) (He.ga K "rows_behind") cdv A outer s H E)) ((defBody s_rows_behind).getD 0 (.Pass ⟨0, 0, 0, 0⟩)) g0_rows_behind := by
  have D_asked_from := df_asked_from (P := P) (w := w) (base := base) T B
  have D_marks_told := df_marks_told (P := P) (w := w) (base := base) T B
  exact (pms_asg (PMD.i (PMF.d (pmf_lst (pml_cons (PMD.i (pm_tup pma_nil)) pml_nil)))) (pg_name (i := 3) sc_rows_behind.nd rfl (by first | exact .inl rfl | exact .inr rfl)))
theorem st1_rows_behind (T : Tx K mg) (B : Bx P w K mg base) (fd : FuncData) (Fn : Fun K "rows_behind" "rows_behind" s_rows_behind (He.ga K "rows_behind") fd) (hm : mg "rows_behind" = some (.ref (He.ga K "rows_behind"))) (cdv : Value) (A : Around) (outer : List Env) (s : Shared) (H : Hp) (E : XK) (hr : Room 2 (A.deeper (envOfC "rows_behind" (defScope s_rows_behind) s.heap.objs.size (He.ga K "rows_behind") cdv))) (hcd : CodeIs K (He.ga K "rows_behind") cdv) :
    PMS (cxOf (L2.CX P w) P w K mg base n_rows_behind "rows_behind" (defScope s_rows_behind) (He.ga K "rows_behind") cdv A outer s H E) (WnE E (cxOf (L2.CX P w) P w K mg base n_rows_behind "rows_behind" (defScope s_rows_behind) (He.ga K "rows_behind") cdv A outer s H E)) ((defBody s_rows_behind).getD 1 (.Pass ⟨0, 0, 0, 0⟩)) g1_rows_behind := by
  have D_asked_from := df_asked_from (P := P) (w := w) (base := base) T B
  have D_marks_told := df_marks_told (P := P) (w := w) (base := base) T B
  exact (pms_for (passes_of rfl) rfl (pmi_enum (by rfl) T.b_enumerate (pma_cons (PMI.d (pi_var (pv 0))) pma_nil)) (pg_tl rfl (pgs_cons' (pg_one (pg_name (i := 4) sc_rows_behind.nd rfl (by first | exact .inl rfl | exact .inr rfl))) (pgs_cons' (pg_one (pg_name (i := 5) sc_rows_behind.nd rfl (by first | exact .inl rfl | exact .inr rfl))) pgs_nil'))) (pmss_cons (pms_asgLc2D (i := 3) (own := [("longer", 6), ("mark", 7)]) rfl sc_rows_behind.nd rfl rfl rfl (pmi_seq (PMI.d (pi_var (pv 3)))) (PD.blk_mk (N := n_rows_behind) (sc := defScope s_rows_behind) rfl (by decide +kernel)) (by decide) (fun _ _ _ _ _ => (pg_one (pg_name (i := 6) sc_rows_behind.nd rfl (by first | exact .inl rfl | exact .inr rfl)))) (fun _ _ _ _ _ => pmts_nil) (fun _ _ _ _ _ => (pmi_seq (PMI.d (pi_call D_marks_told (hr.mono (by decide)) (by rfl) takes0 (pml_cons (pi_var (pv 5)) (pml_cons (pi_at (un_of hr) (pi_var (pv 1)) (PMI.d (pi_var (pv 4))) (fun _ _ => rfl)) (pml_cons (pi_call D_asked_from (hr.mono (by decide)) (by rfl) takes0 (pml_cons (pi_var (pv 0)) (pml_cons (pi_var (pv 1)) (pml_cons (pi_var (pv 6)) pml_nil)))) (pml_cons (pi_var (pv 2)) pml_nil)))))))) (fun _ _ _ _ _ => (pg_one (pg_name (i := 7) sc_rows_behind.nd rfl (by first | exact .inl rfl | exact .inr rfl)))) (fun _ _ _ _ _ => pmts_nil) (fun _ _ _ _ _ => (PMD.i (pm_add (PMI.d (pi_var (pv 6))) (pm_tup (pma_cons (PMI.d (pi_var (pv 7))) pma_nil))))) (by decide) (by decide))
    pmss_nil))
theorem st2_rows_behind (T : Tx K mg) (B : Bx P w K mg base) (fd : FuncData) (Fn : Fun K "rows_behind" "rows_behind" s_rows_behind (He.ga K "rows_behind") fd) (hm : mg "rows_behind" = some (.ref (He.ga K "rows_behind"))) (cdv : Value) (A : Around) (outer : List Env) (s : Shared) (H : Hp) (E : XK) (hr : Room 2 (A.deeper (envOfC "rows_behind" (defScope s_rows_behind) s.heap.objs.size (He.ga K "rows_behind") cdv))) (hcd : CodeIs K (He.ga K "rows_behind") cdv) :
    PMS (cxOf (L2.CX P w) P w K mg base n_rows_behind "rows_behind" (defScope s_rows_behind) (He.ga K "rows_behind") cdv A outer s H E) (WnE E (cxOf (L2.CX P w) P w K mg base n_rows_behind "rows_behind" (defScope s_rows_behind) (He.ga K "rows_behind") cdv A outer s H E)) ((defBody s_rows_behind).getD 2 (.Pass ⟨0, 0, 0, 0⟩)) g2_rows_behind := by
  have D_asked_from := df_asked_from (P := P) (w := w) (base := base) T B
  have D_marks_told := df_marks_told (P := P) (w := w) (base := base) T B
  exact (pms_ret (pi_var (pv 3)))
theorem df_rows_behind (T : Tx K mg) (B : Bx P w K mg base) : Df P w K mg base 3 "rows_behind" s_rows_behind ["naming", "row", "letter"] F_rows_behind := by
  obtain ⟨fd, Fn, hm⟩ := T.f_rows_behind
  exact df_mk (N := n_rows_behind) (ps := ["naming", "row", "letter"]) (k := 2) (B := B_rows_behind) Fn hm (Fn.binds fun _ _ _ _ _ _ us hl => match us, hl with | [_, _, _], _ => rfl) sc_rows_behind (by decide) fun cdv A outer s H E hr hcd =>
    (pmss_cons (st0_rows_behind T B fd Fn hm cdv A outer s H E hr hcd) (pmss_cons (st1_rows_behind T B fd Fn hm cdv A outer s H E hr hcd) (pmss_cons (st2_rows_behind T B fd Fn hm cdv A outer s H E hr hcd) pmss_nil)))
theorem df_marks_at_front (T : Tx K mg) (B : Bx P w K mg base) : Df P w K mg base 2 "marks_at_front" s_marks_at_front ["side", "longer"] F_marks_at_front := by
  obtain ⟨fd, Fn, hm⟩ := T.f_marks_at_front
  exact df_mk (N := n_marks_at_front) (ps := ["side", "longer"]) (k := 1) (B := B_marks_at_front) Fn hm (Fn.binds fun _ _ _ _ _ _ us hl => match us, hl with | [_, _], _ => rfl) sc_marks_at_front (by decide) fun cdv A outer s H E hr hcd =>
    (pmss_cons (pms_if (pmt_cmp (PD.cr_eq hr) (PMI.d (pi_var (pv 0))) pm_str) (pmss_cons (pms_ret (PMD.i (pm_tup (pma_cons pm_bl pma_nil))))
    pmss_nil) pmss_nil)
    (pmss_cons (pms_ret (PMD.i (pm_ifExp (pmt_val (pm_anyB rfl T.b_any (pma_cons (pm_slice (PMI.d (pi_var (pv 1))) (pmo_some (pm_neg pm_int)) pmo_none) pma_nil))) (pm_tup (pma_cons pm_bl pma_nil)) (pm_tup (pma_cons pm_bl (pma_cons pm_bl pma_nil))))))
    pmss_nil))
theorem st0_rows_at_front (T : Tx K mg) (B : Bx P w K mg base) (fd : FuncData) (Fn : Fun K "rows_at_front" "rows_at_front" s_rows_at_front (He.ga K "rows_at_front") fd) (hm : mg "rows_at_front" = some (.ref (He.ga K "rows_at_front"))) (cdv : Value) (A : Around) (outer : List Env) (s : Shared) (H : Hp) (E : XK) (hr : Room 2 (A.deeper (envOfC "rows_at_front" (defScope s_rows_at_front) s.heap.objs.size (He.ga K "rows_at_front") cdv))) (hcd : CodeIs K (He.ga K "rows_at_front") cdv) :
    PMS (cxOf (L2.CX P w) P w K mg base n_rows_at_front "rows_at_front" (defScope s_rows_at_front) (He.ga K "rows_at_front") cdv A outer s H E) (WnE E (cxOf (L2.CX P w) P w K mg base n_rows_at_front "rows_at_front" (defScope s_rows_at_front) (He.ga K "rows_at_front") cdv A outer s H E)) ((defBody s_rows_at_front).getD 0 (.Pass ⟨0, 0, 0, 0⟩)) g0_rows_at_front := by
  have D_marks_at_front := df_marks_at_front (P := P) (w := w) (base := base) T B
  exact (pms_asg (PMD.i (PMF.d (pmf_lst (pml_cons (PMD.i (pm_tup pma_nil)) pml_nil)))) (pg_name (i := 1) sc_rows_at_front.nd rfl (by first | exact .inl rfl | exact .inr rfl)))
theorem st1_rows_at_front (T : Tx K mg) (B : Bx P w K mg base) (fd : FuncData) (Fn : Fun K "rows_at_front" "rows_at_front" s_rows_at_front (He.ga K "rows_at_front") fd) (hm : mg "rows_at_front" = some (.ref (He.ga K "rows_at_front"))) (cdv : Value) (A : Around) (outer : List Env) (s : Shared) (H : Hp) (E : XK) (hr : Room 2 (A.deeper (envOfC "rows_at_front" (defScope s_rows_at_front) s.heap.objs.size (He.ga K "rows_at_front") cdv))) (hcd : CodeIs K (He.ga K "rows_at_front") cdv) :
    PMS (cxOf (L2.CX P w) P w K mg base n_rows_at_front "rows_at_front" (defScope s_rows_at_front) (He.ga K "rows_at_front") cdv A outer s H E) (WnE E (cxOf (L2.CX P w) P w K mg base n_rows_at_front "rows_at_front" (defScope s_rows_at_front) (He.ga K "rows_at_front") cdv A outer s H E)) ((defBody s_rows_at_front).getD 1 (.Pass ⟨0, 0, 0, 0⟩)) g1_rows_at_front := by
  have D_marks_at_front := df_marks_at_front (P := P) (w := w) (base := base) T B
  exact (pms_for (passes_of rfl) rfl (pmi_seq (PMI.d (pi_var (pv 0)))) (pg_tl rfl (pgs_cons' (pg_one (pg_name (i := 2) sc_rows_at_front.nd rfl (by first | exact .inl rfl | exact .inr rfl))) (pgs_cons' (pg_one (pg_name (i := 3) sc_rows_at_front.nd rfl (by first | exact .inl rfl | exact .inr rfl))) pgs_nil'))) (pmss_cons (pms_asgLc2D (i := 1) (own := [("longer", 4), ("mark", 5)]) rfl sc_rows_at_front.nd rfl rfl rfl (pmi_seq (PMI.d (pi_var (pv 1)))) (PD.blk_mk (N := n_rows_at_front) (sc := defScope s_rows_at_front) rfl (by decide +kernel)) (by decide) (fun _ _ _ _ _ => (pg_one (pg_name (i := 4) sc_rows_at_front.nd rfl (by first | exact .inl rfl | exact .inr rfl)))) (fun _ _ _ _ _ => pmts_nil) (fun _ _ _ _ _ => (pmi_seq (PMI.d (pi_call D_marks_at_front (hr.mono (by decide)) (by rfl) takes0 (pml_cons (pi_var (pv 2)) (pml_cons (pi_var (pv 4)) pml_nil)))))) (fun _ _ _ _ _ => (pg_one (pg_name (i := 5) sc_rows_at_front.nd rfl (by first | exact .inl rfl | exact .inr rfl)))) (fun _ _ _ _ _ => pmts_nil) (fun _ _ _ _ _ => (PMD.i (pm_add (PMI.d (pi_var (pv 4))) (pm_tup (pma_cons (PMI.d (pi_var (pv 5))) pma_nil))))) (by decide) (by decide))
    pmss_nil))
theorem st2_rows_at_front (T : Tx K mg) (B : Bx P w K mg base) (fd : FuncData) (Fn : Fun K "rows_at_front" "rows_at_front" s_rows_at_front (He.ga K "rows_at_front") fd) (hm : mg "rows_at_front" = some (.ref (He.ga K "rows_at_front"))) (cdv : Value) (A : Around) (outer : List Env) (s : Shared) (H : Hp) (E : XK) (hr : Room 2 (A.deeper (envOfC "rows_at_front" (defScope s_rows_at_front) s.heap.objs.size (He.ga K "rows_at_front") cdv))) (hcd : CodeIs K (He.ga K "rows_at_front") cdv) :
    PMS (cxOf (L2.CX P w) P w K mg base n_rows_at_front "rows_at_front" (defScope s_rows_at_front) (He.ga K "rows_at_front") cdv A outer s H E) (WnE E (cxOf (L2.CX P w) P w K mg base n_rows_at_front "rows_at_front" (defScope s_rows_at_front) (He.ga K "rows_at_front") cdv A outer s H E)) ((defBody s_rows_at_front).getD 2 (.Pass ⟨0, 0, 0, 0⟩)) g2_rows_at_front := by
  have D_marks_at_front := df_marks_at_front (P := P) (w := w) (base := base) T B
  exact (pms_ret (pi_var (pv 1)))
theorem df_rows_at_front (T : Tx K mg) (B : Bx P w K mg base) : Df P w K mg base 3 "rows_at_front" s_rows_at_front ["naming"] F_rows_at_front := by
  obtain ⟨fd, Fn, hm⟩ := T.f_rows_at_front
  exact df_mk (N := n_rows_at_front) (ps := ["naming"]) (k := 2) (B := B_rows_at_front) Fn hm (Fn.binds fun _ _ _ _ _ _ us hl => match us, hl with | [_], _ => rfl) sc_rows_at_front (by decide) fun cdv A outer s H E hr hcd =>
    (pmss_cons (st0_rows_at_front T B fd Fn hm cdv A outer s H E hr hcd) (pmss_cons (st1_rows_at_front T B fd Fn hm cdv A outer s H E hr hcd) (pmss_cons (st2_rows_at_front T B fd Fn hm cdv A outer s H E hr hcd) pmss_nil)))
theorem df_can_end (T : Tx K mg) (B : Bx P w K mg base) : Df P w K mg base 2 "can_end" s_can_end ["naming", "row"] F_can_end := by
  obtain ⟨fd, Fn, hm⟩ := T.f_can_end
  exact df_mk (N := n_can_end) (ps := ["naming", "row"]) (k := 1) (B := B_can_end) Fn hm (Fn.binds fun _ _ _ _ _ _ us hl => match us, hl with | [_, _], _ => rfl) sc_can_end (by decide) fun cdv A outer s H E hr hcd =>
    (pmss_cons (pms_ret (PMD.i (pm_all rfl T.b_all (pma_cons (PMF.d (pmf_lc (own := [("mark", 2), ("side", 3), ("_", 4)]) rfl sc_can_end.nd (pmi_zipA (by rfl) T.b_zip (pma_cons (PMI.d (pi_var (pv 1))) (pma_cons (PMI.d (pi_var (pv 0))) pma_nil))) (PD.blk_mk (N := n_can_end) (sc := defScope s_can_end) rfl (by decide +kernel)) (fun _ _ _ _ _ => (pg_tl rfl (pgs_cons' (pg_one (pg_name (i := 2) sc_can_end.nd rfl (by first | exact .inl rfl | exact .inr rfl))) (pgs_cons' (pg_tl rfl (pgs_cons' (pg_one (pg_name (i := 3) sc_can_end.nd rfl (by first | exact .inl rfl | exact .inr rfl))) (pgs_cons' (pg_one (pg_name (i := 4) sc_can_end.nd rfl (by first | exact .inl rfl | exact .inr rfl))) pgs_nil'))) pgs_nil')))) (fun _ _ _ _ _ => pmts_nil) (fun _ _ _ _ _ => (PMD.i (pm_or (PMI.d (pi_var (pv 2))) (pm_last (pm_cmp (PD.cr_eq hr) (PMI.d (pi_var (pv 3))) pm_str))))) (by decide))) pma_nil))))
    pmss_nil)
theorem st0_how_they_lie (T : Tx K mg) (B : Bx P w K mg base) (fd : FuncData) (Fn : Fun K "how_they_lie" "how_they_lie" s_how_they_lie (He.ga K "how_they_lie") fd) (hm : mg "how_they_lie" = some (.ref (He.ga K "how_they_lie"))) (cdv : Value) (A : Around) (outer : List Env) (s : Shared) (H : Hp) (E : XK) (hr : Room 1 (A.deeper (envOfC "how_they_lie" (defScope s_how_they_lie) s.heap.objs.size (He.ga K "how_they_lie") cdv))) (hcd : CodeIs K (He.ga K "how_they_lie") cdv) :
    PMS (cxOf (L2.CX P w) P w K mg base n_how_they_lie "how_they_lie" (defScope s_how_they_lie) (He.ga K "how_they_lie") cdv A outer s H E) (WnE E (cxOf (L2.CX P w) P w K mg base n_how_they_lie "how_they_lie" (defScope s_how_they_lie) (He.ga K "how_they_lie") cdv A outer s H E)) ((defBody s_how_they_lie).getD 0 (.Pass ⟨0, 0, 0, 0⟩)) g0_how_they_lie := by
  exact (pms_if (PMW.t (pmw_or (pmt_cmp PD.cd_isnot (PMI.d (pi_var (pv 0))) pm_non) (pmw_or1 (pmt_not (PMW.t (pmw_or (pmt_val (PMI.d (pi_at (un_of hr) (pi_var (pv 1)) (pm_neg pm_int) (fun _ _ => rfl)))) (pmw_or1 (pmt_val (PMI.d (pi_at (un_of hr) (pi_var (pv 2)) (pm_neg pm_int) (fun _ _ => rfl))))))))))) (pmss_cons (pms_ret (pi_var (pv 0)))
    pmss_nil) pmss_nil)
theorem st1_how_they_lie (T : Tx K mg) (B : Bx P w K mg base) (fd : FuncData) (Fn : Fun K "how_they_lie" "how_they_lie" s_how_they_lie (He.ga K "how_they_lie") fd) (hm : mg "how_they_lie" = some (.ref (He.ga K "how_they_lie"))) (cdv : Value) (A : Around) (outer : List Env) (s : Shared) (H : Hp) (E : XK) (hr : Room 1 (A.deeper (envOfC "how_they_lie" (defScope s_how_they_lie) s.heap.objs.size (He.ga K "how_they_lie") cdv))) (hcd : CodeIs K (He.ga K "how_they_lie") cdv) :
    PMS (cxOf (L2.CX P w) P w K mg base n_how_they_lie "how_they_lie" (defScope s_how_they_lie) (He.ga K "how_they_lie") cdv A outer s H E) (WnE E (cxOf (L2.CX P w) P w K mg base n_how_they_lie "how_they_lie" (defScope s_how_they_lie) (He.ga K "how_they_lie") cdv A outer s H E)) ((defBody s_how_they_lie).getD 1 (.Pass ⟨0, 0, 0, 0⟩)) g1_how_they_lie := by
  exact (pms_if (PMW.t (pmw_and (pmt_val (PMI.d (pi_at (un_of hr) (pi_var (pv 1)) (pm_neg pm_int) (fun _ _ => rfl)))) (pmw_and1 (pmt_val (PMI.d (pi_at (un_of hr) (pi_var (pv 2)) (pm_neg pm_int) (fun _ _ => rfl))))))) (pmss_cons (pms_ret (PMD.i pm_str))
    pmss_nil) pmss_nil)
theorem st2_how_they_lie (T : Tx K mg) (B : Bx P w K mg base) (fd : FuncData) (Fn : Fun K "how_they_lie" "how_they_lie" s_how_they_lie (He.ga K "how_they_lie") fd) (hm : mg "how_they_lie" = some (.ref (He.ga K "how_they_lie"))) (cdv : Value) (A : Around) (outer : List Env) (s : Shared) (H : Hp) (E : XK) (hr : Room 1 (A.deeper (envOfC "how_they_lie" (defScope s_how_they_lie) s.heap.objs.size (He.ga K "how_they_lie") cdv))) (hcd : CodeIs K (He.ga K "how_they_lie") cdv) :
    PMS (cxOf (L2.CX P w) P w K mg base n_how_they_lie "how_they_lie" (defScope s_how_they_lie) (He.ga K "how_they_lie") cdv A outer s H E) (WnE E (cxOf (L2.CX P w) P w K mg base n_how_they_lie "how_they_lie" (defScope s_how_they_lie) (He.ga K "how_they_lie") cdv A outer s H E)) ((defBody s_how_they_lie).getD 2 (.Pass ⟨0, 0, 0, 0⟩)) g2_how_they_lie := by
  exact (pms_ret (PMD.i (pm_ifExp (pmt_val (PMI.d (pi_at (un_of hr) (pi_var (pv 1)) (pm_neg pm_int) (fun _ _ => rfl)))) pm_str pm_str)))
theorem df_how_they_lie (T : Tx K mg) (B : Bx P w K mg base) : Df P w K mg base 2 "how_they_lie" s_how_they_lie ["lies", "row", "other_row"] F_how_they_lie := by
  obtain ⟨fd, Fn, hm⟩ := T.f_how_they_lie
  exact df_mk (N := n_how_they_lie) (ps := ["lies", "row", "other_row"]) (k := 1) (B := B_how_they_lie) Fn hm (Fn.binds fun _ _ _ _ _ _ us hl => match us, hl with | [_, _, _], _ => rfl) sc_how_they_lie (by decide) fun cdv A outer s H E hr hcd =>
    (pmss_cons (st0_how_they_lie T B fd Fn hm cdv A outer s H E hr hcd) (pmss_cons (st1_how_they_lie T B fd Fn hm cdv A outer s H E hr hcd) (pmss_cons (st2_how_they_lie T B fd Fn hm cdv A outer s H E hr hcd) pmss_nil)))
theorem st0_text_lying (T : Tx K mg) (B : Bx P w K mg base) (fd : FuncData) (Fn : Fun K "text_lying" "text_lying" s_text_lying (He.ga K "text_lying") fd) (hm : mg "text_lying" = some (.ref (He.ga K "text_lying"))) (cdv : Value) (A : Around) (outer : List Env) (s : Shared) (H : Hp) (E : XK) (hr : Room 31 (A.deeper (envOfC "text_lying" (defScope s_text_lying) s.heap.objs.size (He.ga K "text_lying") cdv))) (hcd : CodeIs K (He.ga K "text_lying") cdv) :
    PMS (cxOf (L2.CX P w) P w K mg base n_text_lying "text_lying" (defScope s_text_lying) (He.ga K "text_lying") cdv A outer s H E) (WnE E (cxOf (L2.CX P w) P w K mg base n_text_lying "text_lying" (defScope s_text_lying) (He.ga K "text_lying") cdv A outer s H E)) ((defBody s_text_lying).getD 0 (.Pass ⟨0, 0, 0, 0⟩)) g0_text_lying := by
  have D_can_end := df_can_end (P := P) (w := w) (base := base) T B
  have D_how_they_lie := df_how_they_lie (P := P) (w := w) (base := base) T B
  have D_least_text := df_least_text (P := P) (w := w) (base := base) T B
  have D_rows_at_front := df_rows_at_front (P := P) (w := w) (base := base) T B
  have D_rows_behind := df_rows_behind (P := P) (w := w) (base := base) T B
  exact (pms_asgLc2D (i := 4) (own := [("row", 5), ("other_row", 6)]) rfl sc_text_lying.nd rfl rfl rfl (pmi_seq (PMI.d (pi_call D_rows_at_front (hr.mono (by decide)) (by rfl) (takes_of rfl rfl rfl rfl) (pml_cons (pi_var (pv 1)) pml_nil)))) (PD.blk_mk (N := n_text_lying) (sc := defScope s_text_lying) rfl (by decide +kernel)) (by decide) (fun _ _ _ _ _ => (pg_one (pg_name (i := 5) sc_text_lying.nd rfl (by first | exact .inl rfl | exact .inr rfl)))) (fun _ _ _ _ _ => pmts_nil) (fun _ _ _ _ _ => (pmi_seq (PMI.d (pi_call D_rows_at_front (hr.mono (by decide)) (by rfl) takes0 (pml_cons (pi_var (pv 2)) pml_nil))))) (fun _ _ _ _ _ => (pg_one (pg_name (i := 6) sc_text_lying.nd rfl (by first | exact .inl rfl | exact .inr rfl)))) (fun _ _ _ _ _ => pmts_nil) (fun _ _ _ _ _ => (PMD.i (pm_tup (pma_cons (PMI.d (pi_var (pv 5))) (pma_cons (PMI.d (pi_var (pv 6))) (pma_cons (PMI.d (pi_call D_how_they_lie (hr.mono (by decide)) (by rfl) takes0 (pml_cons (PMD.i pm_non) (pml_cons (pi_var (pv 5)) (pml_cons (pi_var (pv 6)) pml_nil))))) pma_nil)))))) (by decide) (by decide))
theorem st1_text_lying (T : Tx K mg) (B : Bx P w K mg base) (fd : FuncData) (Fn : Fun K "text_lying" "text_lying" s_text_lying (He.ga K "text_lying") fd) (hm : mg "text_lying" = some (.ref (He.ga K "text_lying"))) (cdv : Value) (A : Around) (outer : List Env) (s : Shared) (H : Hp) (E : XK) (hr : Room 31 (A.deeper (envOfC "text_lying" (defScope s_text_lying) s.heap.objs.size (He.ga K "text_lying") cdv))) (hcd : CodeIs K (He.ga K "text_lying") cdv) :
    PMS (cxOf (L2.CX P w) P w K mg base n_text_lying "text_lying" (defScope s_text_lying) (He.ga K "text_lying") cdv A outer s H E) (WnE E (cxOf (L2.CX P w) P w K mg base n_text_lying "text_lying" (defScope s_text_lying) (He.ga K "text_lying") cdv A outer s H E)) ((defBody s_text_lying).getD 1 (.Pass ⟨0, 0, 0, 0⟩)) g1_text_lying := by
  have D_can_end := df_can_end (P := P) (w := w) (base := base) T B
  have D_how_they_lie := df_how_they_lie (P := P) (w := w) (base := base) T B
  have D_least_text := df_least_text (P := P) (w := w) (base := base) T B
  have D_rows_at_front := df_rows_at_front (P := P) (w := w) (base := base) T B
  have D_rows_behind := df_rows_behind (P := P) (w := w) (base := base) T B
  exact (pms_def (kc := 4) (x := "text_lying") (st := s_text_lying__go_on) (ps := ["own", "letter"]) (fr := ["one", "other", "wide"]) (Fr := N_text_lying__go_on) rfl B.tb_text_lying B.tn_text_lying hm hcd rfl B.nm_text_lying__go_on fr_text_lying__go_on rfl rfl rfl sc_text_lying.nd rfl (by first | exact .inl rfl | exact .inr rfl) (.inl rfl) (fun f2 c2 => mm_pm (N := n_text_lying__go_on) (ps := ["own", "letter"]) (fr := ["one", "other", "wide"]) (k := 3) ms_text_lying__go_on (by decide) (fun _ _ _ us hl => match us, hl with | [_, _], _ => rfl) (fun A outer s H E hr2 => (pmss_cons (pms_if (pmt_cmp PD.cd_gt (PMI.d (pi_var (pv 1))) (PMI.d (pi_var (pv 4)))) (pmss_cons (pms_ret (PMF.o (pmf_lst pml_nil)))
    pmss_nil) pmss_nil)
    (pmss_cons (pms_asgT (PMI.d (pi_var (pv 0))) (pg_tl rfl (pgs_cons' (pg_one (pg_name (i := 5) ms_text_lying__go_on.nd rfl (by first | exact .inl rfl | exact .inr rfl))) (pgs_cons' (pg_one (pg_name (i := 6) ms_text_lying__go_on.nd rfl (by first | exact .inl rfl | exact .inr rfl))) (pgs_cons' (pg_one (pg_name (i := 7) ms_text_lying__go_on.nd rfl (by first | exact .inl rfl | exact .inr rfl))) pgs_nil')))))
    (pmss_cons (pms_ret (PMF.o (pmf_lc2 (own := [("row", 8), ("other_row", 9)]) rfl ms_text_lying__go_on.nd (pmi_seq (PMI.d (pi_call D_rows_behind (hr2.mono (by decide)) (by rfl) (takes_of rfl rfl rfl rfl) (pml_cons (pi_var (pv 2)) (pml_cons (pi_var (pv 5)) (pml_cons (pi_var (pv 1)) pml_nil)))))) (PD.blk_mk (N := n_text_lying__go_on) (sc := C8.fnScope s_text_lying__go_on) rfl (by decide +kernel)) (by decide) (fun _ _ _ _ _ => (pg_one (pg_name (i := 8) ms_text_lying__go_on.nd rfl (by first | exact .inl rfl | exact .inr rfl)))) (fun _ _ _ _ _ => pmts_nil) (fun _ _ _ _ _ => (pmi_seq (PMI.d (pi_call D_rows_behind (hr2.mono (by decide)) (by rfl) takes0 (pml_cons (pi_var (pv 3)) (pml_cons (pi_var (pv 6)) (pml_cons (pi_var (pv 1)) pml_nil))))))) (fun _ _ _ _ _ => (pg_one (pg_name (i := 9) ms_text_lying__go_on.nd rfl (by first | exact .inl rfl | exact .inr rfl)))) (fun _ _ _ _ _ => pmts_nil) (fun _ _ _ _ _ => (PMD.i (pm_tup (pma_cons (PMI.d (pi_var (pv 8))) (pma_cons (PMI.d (pi_var (pv 9))) (pma_cons (PMI.d (pi_call D_how_they_lie (hr2.mono (by decide)) (by rfl) takes0 (pml_cons (pi_var (pv 7)) (pml_cons (pi_var (pv 8)) (pml_cons (pi_var (pv 9)) pml_nil))))) pma_nil)))))) (by decide) (by decide))))
    pmss_nil))))) (by decide) ff_text_lying__go_on rfl)
theorem st2_text_lying (T : Tx K mg) (B : Bx P w K mg base) (fd : FuncData) (Fn : Fun K "text_lying" "text_lying" s_text_lying (He.ga K "text_lying") fd) (hm : mg "text_lying" = some (.ref (He.ga K "text_lying"))) (cdv : Value) (A : Around) (outer : List Env) (s : Shared) (H : Hp) (E : XK) (hr : Room 31 (A.deeper (envOfC "text_lying" (defScope s_text_lying) s.heap.objs.size (He.ga K "text_lying") cdv))) (hcd : CodeIs K (He.ga K "text_lying") cdv) :
    PMS (cxOf (L2.CX P w) P w K mg base n_text_lying "text_lying" (defScope s_text_lying) (He.ga K "text_lying") cdv A outer s H E) (WnE E (cxOf (L2.CX P w) P w K mg base n_text_lying "text_lying" (defScope s_text_lying) (He.ga K "text_lying") cdv A outer s H E)) ((defBody s_text_lying).getD 2 (.Pass ⟨0, 0, 0, 0⟩)) g2_text_lying := by
  have D_can_end := df_can_end (P := P) (w := w) (base := base) T B
  have D_how_they_lie := df_how_they_lie (P := P) (w := w) (base := base) T B
  have D_least_text := df_least_text (P := P) (w := w) (base := base) T B
  have D_rows_at_front := df_rows_at_front (P := P) (w := w) (base := base) T B
  have D_rows_behind := df_rows_behind (P := P) (w := w) (base := base) T B
  exact (pms_def (kc := 3) (x := "text_lying") (st := s_text_lying__is_end) (ps := ["own"]) (fr := ["one", "other", "words"]) (Fr := N_text_lying__is_end) rfl B.tb_text_lying B.tn_text_lying hm hcd rfl B.nm_text_lying__is_end fr_text_lying__is_end rfl rfl rfl sc_text_lying.nd rfl (by first | exact .inl rfl | exact .inr rfl) (.inl rfl) (fun f2 c2 => mm_pm (N := n_text_lying__is_end) (ps := ["own"]) (fr := ["one", "other", "words"]) (k := 2) ms_text_lying__is_end (by decide) (fun _ _ _ us hl => match us, hl with | [_], _ => rfl) (fun A outer s H E hr2 => (pmss_cons (pms_asgT (PMI.d (pi_var (pv 0))) (pg_tl rfl (pgs_cons' (pg_one (pg_name (i := 4) ms_text_lying__is_end.nd rfl (by first | exact .inl rfl | exact .inr rfl))) (pgs_cons' (pg_one (pg_name (i := 5) ms_text_lying__is_end.nd rfl (by first | exact .inl rfl | exact .inr rfl))) (pgs_cons' (pg_one (pg_name (i := 6) ms_text_lying__is_end.nd rfl (by first | exact .inl rfl | exact .inr rfl))) pgs_nil')))))
    (pmss_cons (pms_ret (PMD.i (pm_and (PMI.d (pi_call D_can_end (hr2.mono (by decide)) (by rfl) (takes_of rfl rfl rfl rfl) (pml_cons (pi_var (pv 1)) (pml_cons (pi_var (pv 4)) pml_nil)))) (pm_and (PMI.d (pi_call D_can_end (hr2.mono (by decide)) (by rfl) (takes_of rfl rfl rfl rfl) (pml_cons (pi_var (pv 2)) (pml_cons (pi_var (pv 5)) pml_nil)))) (pm_last (pm_in2 (or_in (un_of hr2)) (by rfl) (pm_ifExp (pmt_cmp PD.cd_is (PMI.d (pi_var (pv 6))) pm_non) pm_str (PMI.d (pi_var (pv 6)))) (pi_var (pv 3))))))))
    pmss_nil)))) (by decide) ff_text_lying__is_end rfl)
theorem st3_text_lying (T : Tx K mg) (B : Bx P w K mg base) (fd : FuncData) (Fn : Fun K "text_lying" "text_lying" s_text_lying (He.ga K "text_lying") fd) (hm : mg "text_lying" = some (.ref (He.ga K "text_lying"))) (cdv : Value) (A : Around) (outer : List Env) (s : Shared) (H : Hp) (E : XK) (hr : Room 31 (A.deeper (envOfC "text_lying" (defScope s_text_lying) s.heap.objs.size (He.ga K "text_lying") cdv))) (hcd : CodeIs K (He.ga K "text_lying") cdv) :
    PMS (cxOf (L2.CX P w) P w K mg base n_text_lying "text_lying" (defScope s_text_lying) (He.ga K "text_lying") cdv A outer s H E) (WnE E (cxOf (L2.CX P w) P w K mg base n_text_lying "text_lying" (defScope s_text_lying) (He.ga K "text_lying") cdv A outer s H E)) ((defBody s_text_lying).getD 3 (.Pass ⟨0, 0, 0, 0⟩)) g3_text_lying := by
  have D_can_end := df_can_end (P := P) (w := w) (base := base) T B
  have D_how_they_lie := df_how_they_lie (P := P) (w := w) (base := base) T B
  have D_least_text := df_least_text (P := P) (w := w) (base := base) T B
  have D_rows_at_front := df_rows_at_front (P := P) (w := w) (base := base) T B
  have D_rows_behind := df_rows_behind (P := P) (w := w) (base := base) T B
  exact (pms_ret (PMD.i (pe_callC D_least_text (hr.mono (by decide)) (by rfl) (takes_of rfl rfl rfl rfl) rfl (pac_d (PMI.d (pi_var (pv 4))) (pac_c (pv 7) (pac_c (pv 8) pac_nil))) (fun _ => rfl) rfl rfl)))
theorem df_text_lying (T : Tx K mg) (B : Bx P w K mg base) : Df P w K mg base 32 "text_lying" s_text_lying ["wide", "one", "other", "words"] F_text_lying := by
  obtain ⟨fd, Fn, hm⟩ := T.f_text_lying
  exact df_mk (N := n_text_lying) (ps := ["wide", "one", "other", "words"]) (k := 31) (B := B_text_lying) Fn hm (Fn.binds fun _ _ _ _ _ _ us hl => match us, hl with | [_, _, _, _], _ => rfl) sc_text_lying (by decide) fun cdv A outer s H E hr hcd =>
    (pmss_cons (st0_text_lying T B fd Fn hm cdv A outer s H E hr hcd) (pmss_cons (st1_text_lying T B fd Fn hm cdv A outer s H E hr hcd) (pmss_cons (st2_text_lying T B fd Fn hm cdv A outer s H E hr hcd) (pmss_cons (st3_text_lying T B fd Fn hm cdv A outer s H E hr hcd) pmss_nil))))
theorem df_are_one (T : Tx K mg) (B : Bx P w K mg base) : Df P w K mg base 33 "are_one" s_are_one ["wide", "one", "other"] F_are_one := by
  obtain ⟨fd, Fn, hm⟩ := T.f_are_one
  have D_text_lying := df_text_lying (P := P) (w := w) (base := base) T B
  exact df_mk (N := n_are_one) (ps := ["wide", "one", "other"]) (k := 32) (B := B_are_one) Fn hm (Fn.binds fun _ _ _ _ _ _ us hl => match us, hl with | [_, _, _], _ => rfl) sc_are_one (by decide) fun cdv A outer s H E hr hcd =>
    (pmss_cons (pms_ret (PMD.i (pm_cmp PD.cd_is (PMI.d (pi_call D_text_lying (hr.mono (by decide)) (by rfl) (takes_of rfl rfl rfl rfl) (pml_cons (pi_var (pv 0)) (pml_cons (pi_var (pv 1)) (pml_cons (pi_var (pv 2)) (pml_cons (PMD.i (pm_tup (pma_cons pm_str (pma_cons pm_str pma_nil)))) pml_nil)))))) pm_non)))
    pmss_nil)
theorem df_order_of (T : Tx K mg) (B : Bx P w K mg base) : Df P w K mg base 33 "order_of" s_order_of ["wide", "one", "other"] F_order_of := by
  obtain ⟨fd, Fn, hm⟩ := T.f_order_of
  have D_text_lying := df_text_lying (P := P) (w := w) (base := base) T B
  exact df_mk (N := n_order_of) (ps := ["wide", "one", "other"]) (k := 32) (B := B_order_of) Fn hm (Fn.binds fun _ _ _ _ _ _ us hl => match us, hl with | [_, _, _], _ => rfl) sc_order_of (by decide) fun cdv A outer s H E hr hcd =>
    (pmss_cons (pms_asgLcD (i := 3) (own := [("word", 4)]) rfl sc_order_of.nd rfl rfl rfl (pmi_seq (pm_tup (pma_cons pm_str (pma_cons pm_str (pma_cons pm_str pma_nil))))) (PD.blk_mk (N := n_order_of) (sc := defScope s_order_of) rfl (by decide +kernel)) (fun _ _ _ _ _ => (pg_one (pg_name (i := 4) sc_order_of.nd rfl (by first | exact .inl rfl | exact .inr rfl)))) (fun _ _ _ _ _ => (pmts_one (pmt_cmp PD.cd_isnot (PMI.d (pi_call D_text_lying (hr.mono (by decide)) (by rfl) takes0 (pml_cons (pi_var (pv 0)) (pml_cons (pi_var (pv 1)) (pml_cons (pi_var (pv 2)) (pml_cons (PMD.i (pm_tup (pma_cons (PMI.d (pi_var (pv 4))) pma_nil))) pml_nil)))))) pm_non))) (fun _ _ _ _ _ => (pi_var (pv 4))) (by decide))
    (pmss_cons (pms_ret (PMD.i (pm_ifExp (pmt_cmp (PD.cr_eq hr) (pm_len T.b_len (pi_var (pv 3))) pm_int) (PMI.d (pi_at (un_of hr) (pi_var (pv 3)) pm_int (fun _ _ => rfl))) pm_non)))
    pmss_nil))
theorem df__law_same (T : Tx K mg) (B : Bx P w K mg base) : ∀ n, Df P w K mg base (n + 2) "_law_same" s__law_same ["near", "goal"] (F__law_same n) := by
  obtain ⟨fd, Fn, hm⟩ := T.f__law_same
  intro n
  induction n with
  | zero => exact df_no Fn hm (Fn.binds fun _ _ _ _ _ _ us hl => match us, hl with | [_, _], _ => rfl)
  | succ n D =>
  exact df_mk Fn hm (Fn.binds fun _ _ _ _ _ _ us hl => match us, hl with | [_, _], _ => rfl) sc__law_same (by decide) fun cdv A outer s H E hr hcd =>
    (pmss_cons (pms_if (pmt_val (pm_isi2 (by rfl) T.b_isinstance rfl (by rfl) T.b_list rfl (by rfl) T.b_tuple rfl (PMI.d (pi_var (pv 1))))) (pmss_cons (pms_if (PMW.t (pmw_or (pmt_cmp (PD.cr_ne hr) (pm_isi (by rfl) T.b_isinstance rfl (by rfl) T.b_list rfl (PMI.d (pi_var (pv 0)))) (pm_isi (by rfl) T.b_isinstance rfl (by rfl) T.b_list rfl (PMI.d (pi_var (pv 1))))) (pmw_or1 (pmt_cmp (PD.cr_ne hr) (pm_isi (by rfl) T.b_isinstance rfl (by rfl) T.b_tuple rfl (PMI.d (pi_var (pv 0)))) (pm_isi (by rfl) T.b_isinstance rfl (by rfl) T.b_tuple rfl (PMI.d (pi_var (pv 1)))))))) (pmss_cons (pms_ret (PMD.i pm_bl))
    pmss_nil) pmss_nil)
    (pmss_cons (pms_ret (PMD.i (pm_and (pm_cmp (PD.cr_eq hr) (pm_len T.b_len (pi_var (pv 0))) (pm_len T.b_len (pi_var (pv 1)))) (pm_last (pm_all rfl T.b_all (pma_cons (PMF.d (pmf_lc (own := [("mine_so", 2), ("own", 3)]) rfl sc__law_same.nd (pmi_zipA (by rfl) T.b_zip (pma_cons (PMI.d (pi_var (pv 0))) (pma_cons (PMI.d (pi_var (pv 1))) pma_nil))) (PD.blk_mk (N := n__law_same) (sc := defScope s__law_same) rfl (by decide +kernel)) (fun _ _ _ _ _ => (pg_tl rfl (pgs_cons' (pg_one (pg_name (i := 2) sc__law_same.nd rfl (by first | exact .inl rfl | exact .inr rfl))) (pgs_cons' (pg_one (pg_name (i := 3) sc__law_same.nd rfl (by first | exact .inl rfl | exact .inr rfl))) pgs_nil')))) (fun _ _ _ _ _ => pmts_nil) (fun _ _ _ _ _ => (pi_call D hr (by rfl) takes0 (pml_cons (pi_var (pv 2)) (pml_cons (pi_var (pv 3)) pml_nil)))) (by decide))) pma_nil))))))
    pmss_nil)) pmss_nil)
    (pmss_cons (pms_if (PMW.t (pmw_or (pmt_cmp PD.cd_is (PMI.d (pi_var (pv 1))) pm_non) (pmw_or1 (pmt_val (pm_isi2 (by rfl) T.b_isinstance rfl (by rfl) T.b_bool rfl (by rfl) T.b_str rfl (PMI.d (pi_var (pv 1)))))))) (pmss_cons (pms_ret (PMD.i (pm_and (pm_cmp (PD.cr_eq hr) (PMI.d (pi_var (pv 0))) (PMI.d (pi_var (pv 1)))) (pm_and (pm_cmp (PD.cr_eq hr) (pm_isi (by rfl) T.b_isinstance rfl (by rfl) T.b_bool rfl (PMI.d (pi_var (pv 0)))) (pm_isi (by rfl) T.b_isinstance rfl (by rfl) T.b_bool rfl (PMI.d (pi_var (pv 1))))) (pm_last (pm_cmp (PD.cr_eq hr) (pm_cmp PD.cd_is (PMI.d (pi_var (pv 0))) pm_non) (pm_cmp PD.cd_is (PMI.d (pi_var (pv 1))) pm_non)))))))
    pmss_nil) pmss_nil)
    (pmss_cons (pms_ret (PMD.i (pm_and (pm_isi (by rfl) T.b_isinstance rfl (by rfl) T.b_int rfl (PMI.d (pi_var (pv 0)))) (pm_and (pm_not (pm_isi (by rfl) T.b_isinstance rfl (by rfl) T.b_bool rfl (PMI.d (pi_var (pv 0))))) (pm_last (pm_cmp (PD.cr_eq hr) (PMI.d (pi_var (pv 0))) (PMI.d (pi_var (pv 1)))))))))
    pmss_nil)))
theorem st0_unlike_named (T : Tx K mg) (B : Bx P w K mg base) (fd : FuncData) (Fn : Fun K "unlike_named" "unlike_named" s_unlike_named (He.ga K "unlike_named") fd) (hm : mg "unlike_named" = some (.ref (He.ga K "unlike_named"))) (cdv : Value) (A : Around) (outer : List Env) (s : Shared) (H : Hp) (E : XK) (hr : Room 32 (A.deeper (envOfC "unlike_named" (defScope s_unlike_named) s.heap.objs.size (He.ga K "unlike_named") cdv))) (hcd : CodeIs K (He.ga K "unlike_named") cdv) :
    PMS (cxOf (L2.CX P w) P w K mg base n_unlike_named "unlike_named" (defScope s_unlike_named) (He.ga K "unlike_named") cdv A outer s H E) (WnE E (cxOf (L2.CX P w) P w K mg base n_unlike_named "unlike_named" (defScope s_unlike_named) (He.ga K "unlike_named") cdv A outer s H E)) ((defBody s_unlike_named).getD 0 (.Pass ⟨0, 0, 0, 0⟩)) g0_unlike_named := by
  have D_text_lying := df_text_lying (P := P) (w := w) (base := base) T B
  exact (pms_asg (pi_call D_text_lying (hr.mono (by decide)) (by rfl) (takes_of rfl rfl rfl rfl) (pml_cons (pi_var (pv 0)) (pml_cons (pi_var (pv 1)) (pml_cons (pi_var (pv 2)) (pml_cons (PMD.i (pm_tup (pma_cons pm_str (pma_cons pm_str pma_nil)))) pml_nil))))) (pg_name (i := 3) sc_unlike_named.nd rfl (by first | exact .inl rfl | exact .inr rfl)))
theorem st1_unlike_named (T : Tx K mg) (B : Bx P w K mg base) (fd : FuncData) (Fn : Fun K "unlike_named" "unlike_named" s_unlike_named (He.ga K "unlike_named") fd) (hm : mg "unlike_named" = some (.ref (He.ga K "unlike_named"))) (cdv : Value) (A : Around) (outer : List Env) (s : Shared) (H : Hp) (E : XK) (hr : Room 32 (A.deeper (envOfC "unlike_named" (defScope s_unlike_named) s.heap.objs.size (He.ga K "unlike_named") cdv))) (hcd : CodeIs K (He.ga K "unlike_named") cdv) :
    PMS (cxOf (L2.CX P w) P w K mg base n_unlike_named "unlike_named" (defScope s_unlike_named) (He.ga K "unlike_named") cdv A outer s H E) (WnE E (cxOf (L2.CX P w) P w K mg base n_unlike_named "unlike_named" (defScope s_unlike_named) (He.ga K "unlike_named") cdv A outer s H E)) ((defBody s_unlike_named).getD 1 (.Pass ⟨0, 0, 0, 0⟩)) g1_unlike_named := by
  have D_text_lying := df_text_lying (P := P) (w := w) (base := base) T B
  exact (pms_if (pmt_cmp PD.cd_is (PMI.d (pi_var (pv 3))) pm_non) (pmss_cons (pms_raise0 F.excBase_ValueError (c_CanNot T) (hr.mono (by decide)) rfl (takes_of rfl rfl rfl rfl) (by rfl))
    pmss_nil) pmss_nil)
theorem st2_unlike_named (T : Tx K mg) (B : Bx P w K mg base) (fd : FuncData) (Fn : Fun K "unlike_named" "unlike_named" s_unlike_named (He.ga K "unlike_named") fd) (hm : mg "unlike_named" = some (.ref (He.ga K "unlike_named"))) (cdv : Value) (A : Around) (outer : List Env) (s : Shared) (H : Hp) (E : XK) (hr : Room 32 (A.deeper (envOfC "unlike_named" (defScope s_unlike_named) s.heap.objs.size (He.ga K "unlike_named") cdv))) (hcd : CodeIs K (He.ga K "unlike_named") cdv) :
    PMS (cxOf (L2.CX P w) P w K mg base n_unlike_named "unlike_named" (defScope s_unlike_named) (He.ga K "unlike_named") cdv A outer s H E) (WnE E (cxOf (L2.CX P w) P w K mg base n_unlike_named "unlike_named" (defScope s_unlike_named) (He.ga K "unlike_named") cdv A outer s H E)) ((defBody s_unlike_named).getD 2 (.Pass ⟨0, 0, 0, 0⟩)) g2_unlike_named := by
  have D_text_lying := df_text_lying (P := P) (w := w) (base := base) T B
  exact (pms_ret (pi_var (pv 3)))
theorem df_unlike_named (T : Tx K mg) (B : Bx P w K mg base) : Df P w K mg base 33 "unlike_named" s_unlike_named ["wide", "one", "other"] F_unlike_named := by
  obtain ⟨fd, Fn, hm⟩ := T.f_unlike_named
  exact df_mk (N := n_unlike_named) (ps := ["wide", "one", "other"]) (k := 32) (B := B_unlike_named) Fn hm (Fn.binds fun _ _ _ _ _ _ us hl => match us, hl with | [_, _, _], _ => rfl) sc_unlike_named (by decide) fun cdv A outer s H E hr hcd =>
    (pmss_cons (st0_unlike_named T B fd Fn hm cdv A outer s H E hr hcd) (pmss_cons (st1_unlike_named T B fd Fn hm cdv A outer s H E hr hcd) (pmss_cons (st2_unlike_named T B fd Fn hm cdv A outer s H E hr hcd) pmss_nil)))
theorem st0_text_there (T : Tx K mg) (B : Bx P w K mg base) (fd : FuncData) (Fn : Fun K "text_there" "text_there" s_text_there (He.ga K "text_there") fd) (hm : mg "text_there" = some (.ref (He.ga K "text_there"))) (cdv : Value) (A : Around) (outer : List Env) (s : Shared) (H : Hp) (E : XK) (hr : Room 31 (A.deeper (envOfC "text_there" (defScope s_text_there) s.heap.objs.size (He.ga K "text_there") cdv))) (hcd : CodeIs K (He.ga K "text_there") cdv) :
    PMS (cxOf (L2.CX P w) P w K mg base n_text_there "text_there" (defScope s_text_there) (He.ga K "text_there") cdv A outer s H E) (WnE E (cxOf (L2.CX P w) P w K mg base n_text_there "text_there" (defScope s_text_there) (He.ga K "text_there") cdv A outer s H E)) ((defBody s_text_there).getD 0 (.Pass ⟨0, 0, 0, 0⟩)) g0_text_there := by
  have D_can_end := df_can_end (P := P) (w := w) (base := base) T B
  have D_least_text := df_least_text (P := P) (w := w) (base := base) T B
  have D_rows_at_front := df_rows_at_front (P := P) (w := w) (base := base) T B
  have D_rows_behind := df_rows_behind (P := P) (w := w) (base := base) T B
  exact (pms_asgLcD (i := 3) (own := [("row", 4)]) rfl sc_text_there.nd rfl rfl rfl (pmi_seq (PMI.d (pi_call D_rows_at_front (hr.mono (by decide)) (by rfl) (takes_of rfl rfl rfl rfl) (pml_cons (pi_var (pv 1)) pml_nil)))) (PD.blk_mk (N := n_text_there) (sc := defScope s_text_there) rfl (by decide +kernel)) (fun _ _ _ _ _ => (pg_one (pg_name (i := 4) sc_text_there.nd rfl (by first | exact .inl rfl | exact .inr rfl)))) (fun _ _ _ _ _ => pmts_nil) (fun _ _ _ _ _ => (PMD.i (pm_tup (pma_cons (PMI.d (pi_var (pv 4))) (pma_cons (pm_ifExp (pmt_val (PMI.d (pi_at (un_of hr) (pi_var (pv 4)) (pm_neg pm_int) (fun _ _ => rfl)))) pm_str pm_non) pma_nil))))) (by decide))
theorem st1_text_there (T : Tx K mg) (B : Bx P w K mg base) (fd : FuncData) (Fn : Fun K "text_there" "text_there" s_text_there (He.ga K "text_there") fd) (hm : mg "text_there" = some (.ref (He.ga K "text_there"))) (cdv : Value) (A : Around) (outer : List Env) (s : Shared) (H : Hp) (E : XK) (hr : Room 31 (A.deeper (envOfC "text_there" (defScope s_text_there) s.heap.objs.size (He.ga K "text_there") cdv))) (hcd : CodeIs K (He.ga K "text_there") cdv) :
    PMS (cxOf (L2.CX P w) P w K mg base n_text_there "text_there" (defScope s_text_there) (He.ga K "text_there") cdv A outer s H E) (WnE E (cxOf (L2.CX P w) P w K mg base n_text_there "text_there" (defScope s_text_there) (He.ga K "text_there") cdv A outer s H E)) ((defBody s_text_there).getD 1 (.Pass ⟨0, 0, 0, 0⟩)) g1_text_there := by
  have D_can_end := df_can_end (P := P) (w := w) (base := base) T B
  have D_least_text := df_least_text (P := P) (w := w) (base := base) T B
  have D_rows_at_front := df_rows_at_front (P := P) (w := w) (base := base) T B
  have D_rows_behind := df_rows_behind (P := P) (w := w) (base := base) T B
  exact (pms_def (kc := 4) (x := "text_there") (st := s_text_there__go_on) (ps := ["own", "letter"]) (fr := ["naming", "wide"]) (Fr := N_text_there__go_on) rfl B.tb_text_there B.tn_text_there hm hcd rfl B.nm_text_there__go_on fr_text_there__go_on rfl rfl rfl sc_text_there.nd rfl (by first | exact .inl rfl | exact .inr rfl) (.inl rfl) (fun f2 c2 => mm_pm (N := n_text_there__go_on) (ps := ["own", "letter"]) (fr := ["naming", "wide"]) (k := 3) ms_text_there__go_on (by decide) (fun _ _ _ us hl => match us, hl with | [_, _], _ => rfl) (fun A outer s H E hr2 => (pmss_cons (pms_if (pmt_cmp PD.cd_gt (PMI.d (pi_var (pv 1))) (PMI.d (pi_var (pv 3)))) (pmss_cons (pms_ret (PMF.o (pmf_lst pml_nil)))
    pmss_nil) pmss_nil)
    (pmss_cons (pms_asgT (PMI.d (pi_var (pv 0))) (pg_tl rfl (pgs_cons' (pg_one (pg_name (i := 4) ms_text_there__go_on.nd rfl (by first | exact .inl rfl | exact .inr rfl))) (pgs_cons' (pg_one (pg_name (i := 5) ms_text_there__go_on.nd rfl (by first | exact .inl rfl | exact .inr rfl))) pgs_nil'))))
    (pmss_cons (pms_ret (PMF.o (pmf_lc (own := [("row", 6)]) rfl ms_text_there__go_on.nd (pmi_seq (PMI.d (pi_call D_rows_behind (hr2.mono (by decide)) (by rfl) (takes_of rfl rfl rfl rfl) (pml_cons (pi_var (pv 2)) (pml_cons (pi_var (pv 4)) (pml_cons (pi_var (pv 1)) pml_nil)))))) (PD.blk_mk (N := n_text_there__go_on) (sc := C8.fnScope s_text_there__go_on) rfl (by decide +kernel)) (fun _ _ _ _ _ => (pg_one (pg_name (i := 6) ms_text_there__go_on.nd rfl (by first | exact .inl rfl | exact .inr rfl)))) (fun _ _ _ _ _ => pmts_nil) (fun _ _ _ _ _ => (PMD.i (pm_tup (pma_cons (PMI.d (pi_var (pv 6))) (pma_cons (pm_ifExp (PMW.t (pmw_and (pmt_cmp PD.cd_is (PMI.d (pi_var (pv 5))) pm_non) (pmw_and1 (pmt_val (PMI.d (pi_at (un_of hr2) (pi_var (pv 6)) (pm_neg pm_int) (fun _ _ => rfl))))))) (PMI.d (pi_var (pv 1))) (PMI.d (pi_var (pv 5)))) pma_nil))))) (by decide))))
    pmss_nil))))) (by decide) ff_text_there__go_on rfl)
theorem st2_text_there (T : Tx K mg) (B : Bx P w K mg base) (fd : FuncData) (Fn : Fun K "text_there" "text_there" s_text_there (He.ga K "text_there") fd) (hm : mg "text_there" = some (.ref (He.ga K "text_there"))) (cdv : Value) (A : Around) (outer : List Env) (s : Shared) (H : Hp) (E : XK) (hr : Room 31 (A.deeper (envOfC "text_there" (defScope s_text_there) s.heap.objs.size (He.ga K "text_there") cdv))) (hcd : CodeIs K (He.ga K "text_there") cdv) :
    PMS (cxOf (L2.CX P w) P w K mg base n_text_there "text_there" (defScope s_text_there) (He.ga K "text_there") cdv A outer s H E) (WnE E (cxOf (L2.CX P w) P w K mg base n_text_there "text_there" (defScope s_text_there) (He.ga K "text_there") cdv A outer s H E)) ((defBody s_text_there).getD 2 (.Pass ⟨0, 0, 0, 0⟩)) g2_text_there := by
  have D_can_end := df_can_end (P := P) (w := w) (base := base) T B
  have D_least_text := df_least_text (P := P) (w := w) (base := base) T B
  have D_rows_at_front := df_rows_at_front (P := P) (w := w) (base := base) T B
  have D_rows_behind := df_rows_behind (P := P) (w := w) (base := base) T B
  exact (pms_def (kc := 3) (x := "text_there") (st := s_text_there__is_end) (ps := ["own"]) (fr := ["naming", "what"]) (Fr := N_text_there__is_end) rfl B.tb_text_there B.tn_text_there hm hcd rfl B.nm_text_there__is_end fr_text_there__is_end rfl rfl rfl sc_text_there.nd rfl (by first | exact .inl rfl | exact .inr rfl) (.inl rfl) (fun f2 c2 => mm_pm (N := n_text_there__is_end) (ps := ["own"]) (fr := ["naming", "what"]) (k := 2) ms_text_there__is_end (by decide) (fun _ _ _ us hl => match us, hl with | [_], _ => rfl) (fun A outer s H E hr2 => (pmss_cons (pms_asgT (PMI.d (pi_var (pv 0))) (pg_tl rfl (pgs_cons' (pg_one (pg_name (i := 3) ms_text_there__is_end.nd rfl (by first | exact .inl rfl | exact .inr rfl))) (pgs_cons' (pg_one (pg_name (i := 4) ms_text_there__is_end.nd rfl (by first | exact .inl rfl | exact .inr rfl))) pgs_nil'))))
    (pmss_cons (pms_ret (PMD.i (pm_and (PMI.d (pi_call D_can_end (hr2.mono (by decide)) (by rfl) (takes_of rfl rfl rfl rfl) (pml_cons (pi_var (pv 1)) (pml_cons (pi_var (pv 3)) pml_nil)))) (pm_last (pm_cmp (PD.cr_eq hr2) (pm_ifExp (pmt_cmp PD.cd_is (PMI.d (pi_var (pv 4))) pm_non) pm_str (PMI.d (pi_var (pv 4)))) (PMI.d (pi_var (pv 2))))))))
    pmss_nil)))) (by decide) ff_text_there__is_end rfl)
theorem st3_text_there (T : Tx K mg) (B : Bx P w K mg base) (fd : FuncData) (Fn : Fun K "text_there" "text_there" s_text_there (He.ga K "text_there") fd) (hm : mg "text_there" = some (.ref (He.ga K "text_there"))) (cdv : Value) (A : Around) (outer : List Env) (s : Shared) (H : Hp) (E : XK) (hr : Room 31 (A.deeper (envOfC "text_there" (defScope s_text_there) s.heap.objs.size (He.ga K "text_there") cdv))) (hcd : CodeIs K (He.ga K "text_there") cdv) :
    PMS (cxOf (L2.CX P w) P w K mg base n_text_there "text_there" (defScope s_text_there) (He.ga K "text_there") cdv A outer s H E) (WnE E (cxOf (L2.CX P w) P w K mg base n_text_there "text_there" (defScope s_text_there) (He.ga K "text_there") cdv A outer s H E)) ((defBody s_text_there).getD 3 (.Pass ⟨0, 0, 0, 0⟩)) g3_text_there := by
  have D_can_end := df_can_end (P := P) (w := w) (base := base) T B
  have D_least_text := df_least_text (P := P) (w := w) (base := base) T B
  have D_rows_at_front := df_rows_at_front (P := P) (w := w) (base := base) T B
  have D_rows_behind := df_rows_behind (P := P) (w := w) (base := base) T B
  exact (pms_ret (PMD.i (pe_callC D_least_text (hr.mono (by decide)) (by rfl) (takes_of rfl rfl rfl rfl) rfl (pac_d (PMI.d (pi_var (pv 3))) (pac_c (pv 5) (pac_c (pv 6) pac_nil))) (fun _ => rfl) rfl rfl)))
theorem df_text_there (T : Tx K mg) (B : Bx P w K mg base) : Df P w K mg base 32 "text_there" s_text_there ["wide", "naming", "what"] F_text_there := by
  obtain ⟨fd, Fn, hm⟩ := T.f_text_there
  exact df_mk (N := n_text_there) (ps := ["wide", "naming", "what"]) (k := 31) (B := B_text_there) Fn hm (Fn.binds fun _ _ _ _ _ _ us hl => match us, hl with | [_, _, _], _ => rfl) sc_text_there (by decide) fun cdv A outer s H E hr hcd =>
    (pmss_cons (st0_text_there T B fd Fn hm cdv A outer s H E hr hcd) (pmss_cons (st1_text_there T B fd Fn hm cdv A outer s H E hr hcd) (pmss_cons (st2_text_there T B fd Fn hm cdv A outer s H E hr hcd) (pmss_cons (st3_text_there T B fd Fn hm cdv A outer s H E hr hcd) pmss_nil))))
theorem st0_text_with (T : Tx K mg) (B : Bx P w K mg base) (fd : FuncData) (Fn : Fun K "text_with" "text_with" s_text_with (He.ga K "text_with") fd) (hm : mg "text_with" = some (.ref (He.ga K "text_with"))) (cdv : Value) (A : Around) (outer : List Env) (s : Shared) (H : Hp) (E : XK) (hr : Room 32 (A.deeper (envOfC "text_with" (defScope s_text_with) s.heap.objs.size (He.ga K "text_with") cdv))) (hcd : CodeIs K (He.ga K "text_with") cdv) :
    PMS (cxOf (L2.CX P w) P w K mg base n_text_with "text_with" (defScope s_text_with) (He.ga K "text_with") cdv A outer s H E) (WnE E (cxOf (L2.CX P w) P w K mg base n_text_with "text_with" (defScope s_text_with) (He.ga K "text_with") cdv A outer s H E)) ((defBody s_text_with).getD 0 (.Pass ⟨0, 0, 0, 0⟩)) g0_text_with := by
  have D_text_there := df_text_there (P := P) (w := w) (base := base) T B
  exact (pms_asg (pi_call D_text_there (hr.mono (by decide)) (by rfl) (takes_of rfl rfl rfl rfl) (pml_cons (pi_var (pv 0)) (pml_cons (pi_var (pv 1)) (pml_cons (pi_var (pv 2)) pml_nil)))) (pg_name (i := 3) sc_text_with.nd rfl (by first | exact .inl rfl | exact .inr rfl)))
theorem st1_text_with (T : Tx K mg) (B : Bx P w K mg base) (fd : FuncData) (Fn : Fun K "text_with" "text_with" s_text_with (He.ga K "text_with") fd) (hm : mg "text_with" = some (.ref (He.ga K "text_with"))) (cdv : Value) (A : Around) (outer : List Env) (s : Shared) (H : Hp) (E : XK) (hr : Room 32 (A.deeper (envOfC "text_with" (defScope s_text_with) s.heap.objs.size (He.ga K "text_with") cdv))) (hcd : CodeIs K (He.ga K "text_with") cdv) :
    PMS (cxOf (L2.CX P w) P w K mg base n_text_with "text_with" (defScope s_text_with) (He.ga K "text_with") cdv A outer s H E) (WnE E (cxOf (L2.CX P w) P w K mg base n_text_with "text_with" (defScope s_text_with) (He.ga K "text_with") cdv A outer s H E)) ((defBody s_text_with).getD 1 (.Pass ⟨0, 0, 0, 0⟩)) g1_text_with := by
  have D_text_there := df_text_there (P := P) (w := w) (base := base) T B
  exact (pms_if (pmt_cmp PD.cd_is (PMI.d (pi_var (pv 3))) pm_non) (pmss_cons (pms_raise0 F.excBase_ValueError (c_CanNot T) (hr.mono (by decide)) rfl (takes_of rfl rfl rfl rfl) (by rfl))
    pmss_nil) pmss_nil)
theorem st2_text_with (T : Tx K mg) (B : Bx P w K mg base) (fd : FuncData) (Fn : Fun K "text_with" "text_with" s_text_with (He.ga K "text_with") fd) (hm : mg "text_with" = some (.ref (He.ga K "text_with"))) (cdv : Value) (A : Around) (outer : List Env) (s : Shared) (H : Hp) (E : XK) (hr : Room 32 (A.deeper (envOfC "text_with" (defScope s_text_with) s.heap.objs.size (He.ga K "text_with") cdv))) (hcd : CodeIs K (He.ga K "text_with") cdv) :
    PMS (cxOf (L2.CX P w) P w K mg base n_text_with "text_with" (defScope s_text_with) (He.ga K "text_with") cdv A outer s H E) (WnE E (cxOf (L2.CX P w) P w K mg base n_text_with "text_with" (defScope s_text_with) (He.ga K "text_with") cdv A outer s H E)) ((defBody s_text_with).getD 2 (.Pass ⟨0, 0, 0, 0⟩)) g2_text_with := by
  have D_text_there := df_text_there (P := P) (w := w) (base := base) T B
  exact (pms_ret (pi_var (pv 3)))
theorem df_text_with (T : Tx K mg) (B : Bx P w K mg base) : Df P w K mg base 33 "text_with" s_text_with ["wide", "naming", "what"] F_text_with := by
  obtain ⟨fd, Fn, hm⟩ := T.f_text_with
  exact df_mk (N := n_text_with) (ps := ["wide", "naming", "what"]) (k := 32) (B := B_text_with) Fn hm (Fn.binds fun _ _ _ _ _ _ us hl => match us, hl with | [_, _, _], _ => rfl) sc_text_with (by decide) fun cdv A outer s H E hr hcd =>
    (pmss_cons (st0_text_with T B fd Fn hm cdv A outer s H E hr hcd) (pmss_cons (st1_text_with T B fd Fn hm cdv A outer s H E hr hcd) (pmss_cons (st2_text_with T B fd Fn hm cdv A outer s H E hr hcd) pmss_nil)))
theorem st0__law_heard (T : Tx K mg) (B : Bx P w K mg base) (fd : FuncData) (Fn : Fun K "_law_heard" "_law_heard" s__law_heard (He.ga K "_law_heard") fd) (hm : mg "_law_heard" = some (.ref (He.ga K "_law_heard"))) (cdv : Value) (A : Around) (outer : List Env) (s : Shared) (H : Hp) (E : XK) (hr : Room 33 (A.deeper (envOfC "_law_heard" (defScope s__law_heard) s.heap.objs.size (He.ga K "_law_heard") cdv))) (hcd : CodeIs K (He.ga K "_law_heard") cdv) :
    PMS (cxOf (L2.CX P w) P w K mg base n__law_heard "_law_heard" (defScope s__law_heard) (He.ga K "_law_heard") cdv A outer s H E) (WnE E (cxOf (L2.CX P w) P w K mg base n__law_heard "_law_heard" (defScope s__law_heard) (He.ga K "_law_heard") cdv A outer s H E)) ((defBody s__law_heard).getD 0 (.Pass ⟨0, 0, 0, 0⟩)) g0__law_heard := by
  have D_text_with := df_text_with (P := P) (w := w) (base := base) T B
  have D_unlike_named := df_unlike_named (P := P) (w := w) (base := base) T B
  exact (pms_asg (PMD.i pm_non) (pg_name (i := 4) sc__law_heard.nd rfl (by first | exact .inl rfl | exact .inr rfl)))
theorem st1__law_heard (T : Tx K mg) (B : Bx P w K mg base) (fd : FuncData) (Fn : Fun K "_law_heard" "_law_heard" s__law_heard (He.ga K "_law_heard") fd) (hm : mg "_law_heard" = some (.ref (He.ga K "_law_heard"))) (cdv : Value) (A : Around) (outer : List Env) (s : Shared) (H : Hp) (E : XK) (hr : Room 33 (A.deeper (envOfC "_law_heard" (defScope s__law_heard) s.heap.objs.size (He.ga K "_law_heard") cdv))) (hcd : CodeIs K (He.ga K "_law_heard") cdv) :
    PMS (cxOf (L2.CX P w) P w K mg base n__law_heard "_law_heard" (defScope s__law_heard) (He.ga K "_law_heard") cdv A outer s H E) (WnE E (cxOf (L2.CX P w) P w K mg base n__law_heard "_law_heard" (defScope s__law_heard) (He.ga K "_law_heard") cdv A outer s H E)) ((defBody s__law_heard).getD 1 (.Pass ⟨0, 0, 0, 0⟩)) g1__law_heard := by
  have D_text_with := df_text_with (P := P) (w := w) (base := base) T B
  have D_unlike_named := df_unlike_named (P := P) (w := w) (base := base) T B
  exact (pms_tryA (i := 5) (j := 4) rfl rfl sc__law_heard.nd rfl rfl ⟨rfl, by decide, .inl (c_CanNot T (P := P) (w := w) (base := base)).g⟩ (c_CanNot T (P := P) (w := w) (base := base)).g T.k_CanNot.te (fun W pn xe tk po => (pmss_cons (pms_asg (PMD.i (pm_ifExp (pmt_cmp (PD.cr_eq hr) (PMI.d (pi_var (pv 0))) pm_int) (PMI.d (pi_call D_unlike_named (hr.mono (by decide)) (by rfl) tk (pml_cons (pi_var (pv 1)) (pml_cons (pi_var (pv 2)) (pml_cons (pi_var (pv 3)) pml_nil))))) (PMI.d (pi_call D_text_with (hr.mono (by decide)) (by rfl) tk (pml_cons (pi_var (pv 1)) (pml_cons (pi_var (pv 2)) (pml_cons (pi_var (pv 3)) pml_nil))))))) (pg_name (i := 4) sc__law_heard.nd rfl (by first | exact .inl rfl | exact .inr rfl)))
    pmss_nil)) (fun a oe pn => (pg_name (i := 4) sc__law_heard.nd rfl (by first | exact .inl rfl | exact .inr rfl))) (fun a oe d pn hz hf => (pse_str (pse_isi T.k_CanNot.is (T.k_CanNot.isi ("ValueError", true) (by simp)) (by rfl) T.b_isinstance rfl (by rfl) T.b_ValueError boot_ValueError rfl hz hf (pv 5) pse_nil))))
theorem st2__law_heard (T : Tx K mg) (B : Bx P w K mg base) (fd : FuncData) (Fn : Fun K "_law_heard" "_law_heard" s__law_heard (He.ga K "_law_heard") fd) (hm : mg "_law_heard" = some (.ref (He.ga K "_law_heard"))) (cdv : Value) (A : Around) (outer : List Env) (s : Shared) (H : Hp) (E : XK) (hr : Room 33 (A.deeper (envOfC "_law_heard" (defScope s__law_heard) s.heap.objs.size (He.ga K "_law_heard") cdv))) (hcd : CodeIs K (He.ga K "_law_heard") cdv) :
    PMS (cxOf (L2.CX P w) P w K mg base n__law_heard "_law_heard" (defScope s__law_heard) (He.ga K "_law_heard") cdv A outer s H E) (WnE E (cxOf (L2.CX P w) P w K mg base n__law_heard "_law_heard" (defScope s__law_heard) (He.ga K "_law_heard") cdv A outer s H E)) ((defBody s__law_heard).getD 2 (.Pass ⟨0, 0, 0, 0⟩)) g2__law_heard := by
  have D_text_with := df_text_with (P := P) (w := w) (base := base) T B
  have D_unlike_named := df_unlike_named (P := P) (w := w) (base := base) T B
  exact (pms_ret (pi_var (pv 4)))
theorem df__law_heard (T : Tx K mg) (B : Bx P w K mg base) : Df P w K mg base 34 "_law_heard" s__law_heard ["door", "wide_so", "one_so", "two"] F__law_heard := by
  obtain ⟨fd, Fn, hm⟩ := T.f__law_heard
  exact df_mk (N := n__law_heard) (ps := ["door", "wide_so", "one_so", "two"]) (k := 33) (B := B__law_heard) Fn hm (Fn.binds fun _ _ _ _ _ _ us hl => match us, hl with | [_, _, _, _], _ => rfl) sc__law_heard (by decide) fun cdv A outer s H E hr hcd =>
    (pmss_cons (st0__law_heard T B fd Fn hm cdv A outer s H E hr hcd) (pmss_cons (st1__law_heard T B fd Fn hm cdv A outer s H E hr hcd) (pmss_cons (st2__law_heard T B fd Fn hm cdv A outer s H E hr hcd) pmss_nil)))
theorem st0__law_pairs_right (T : Tx K mg) (B : Bx P w K mg base) (fd : FuncData) (Fn : Fun K "_law_pairs_right" "_law_pairs_right" s__law_pairs_right (He.ga K "_law_pairs_right") fd) (hm : mg "_law_pairs_right" = some (.ref (He.ga K "_law_pairs_right"))) (cdv : Value) (A : Around) (outer : List Env) (s : Shared) (H : Hp) (E : XK) (hr : Room 34 (A.deeper (envOfC "_law_pairs_right" (defScope s__law_pairs_right) s.heap.objs.size (He.ga K "_law_pairs_right") cdv))) (hcd : CodeIs K (He.ga K "_law_pairs_right") cdv) :
    PMS (cxOf (L2.CX P w) P w K mg base n__law_pairs_right "_law_pairs_right" (defScope s__law_pairs_right) (He.ga K "_law_pairs_right") cdv A outer s H E) (WnE E (cxOf (L2.CX P w) P w K mg base n__law_pairs_right "_law_pairs_right" (defScope s__law_pairs_right) (He.ga K "_law_pairs_right") cdv A outer s H E)) ((defBody s__law_pairs_right).getD 0 (.Pass ⟨0, 0, 0, 0⟩)) g0__law_pairs_right := by
  have D__law_heard := df__law_heard (P := P) (w := w) (base := base) T B
  have D__law_same := df__law_same (P := P) (w := w) (base := base) T B 12
  have D_are_one := df_are_one (P := P) (w := w) (base := base) T B
  have D_order_of := df_order_of (P := P) (w := w) (base := base) T B
  exact (pms_asgT (pm_tup (pma_cons (pm_tup (pma_cons (pm_tup (pma_cons pm_str (pma_cons (pm_tup (pma_cons pm_int pma_nil)) pma_nil))) (pma_cons (pm_tup (pma_cons pm_str (pma_cons (pm_tup (pma_cons pm_int pma_nil)) pma_nil))) pma_nil))) (pma_cons (pm_tup (pma_cons (pm_tup (pma_cons pm_str (pma_cons (pm_tup (pma_cons pm_int pma_nil)) pma_nil))) pma_nil)) (pma_cons (pm_tup (pma_cons (pm_tup (pma_cons pm_str (pma_cons (pm_tup (pma_cons pm_int pma_nil)) pma_nil))) pma_nil)) (pma_cons (pm_tup (pma_cons (pm_tup (pma_cons pm_str (pma_cons (pm_tup (pma_cons pm_int (pma_cons pm_int pma_nil))) pma_nil))) pma_nil)) pma_nil))))) (pg_tl rfl (pgs_cons' (pg_one (pg_name (i := 0) sc__law_pairs_right.nd rfl (by first | exact .inl rfl | exact .inr rfl))) (pgs_cons' (pg_one (pg_name (i := 1) sc__law_pairs_right.nd rfl (by first | exact .inl rfl | exact .inr rfl))) (pgs_cons' (pg_one (pg_name (i := 2) sc__law_pairs_right.nd rfl (by first | exact .inl rfl | exact .inr rfl))) (pgs_cons' (pg_one (pg_name (i := 3) sc__law_pairs_right.nd rfl (by first | exact .inl rfl | exact .inr rfl))) pgs_nil'))))))
theorem st1__law_pairs_right (T : Tx K mg) (B : Bx P w K mg base) (fd : FuncData) (Fn : Fun K "_law_pairs_right" "_law_pairs_right" s__law_pairs_right (He.ga K "_law_pairs_right") fd) (hm : mg "_law_pairs_right" = some (.ref (He.ga K "_law_pairs_right"))) (cdv : Value) (A : Around) (outer : List Env) (s : Shared) (H : Hp) (E : XK) (hr : Room 34 (A.deeper (envOfC "_law_pairs_right" (defScope s__law_pairs_right) s.heap.objs.size (He.ga K "_law_pairs_right") cdv))) (hcd : CodeIs K (He.ga K "_law_pairs_right") cdv) :
    PMS (cxOf (L2.CX P w) P w K mg base n__law_pairs_right "_law_pairs_right" (defScope s__law_pairs_right) (He.ga K "_law_pairs_right") cdv A outer s H E) (WnE E (cxOf (L2.CX P w) P w K mg base n__law_pairs_right "_law_pairs_right" (defScope s__law_pairs_right) (He.ga K "_law_pairs_right") cdv A outer s H E)) ((defBody s__law_pairs_right).getD 1 (.Pass ⟨0, 0, 0, 0⟩)) g1__law_pairs_right := by
  have D__law_heard := df__law_heard (P := P) (w := w) (base := base) T B
  have D__law_same := df__law_same (P := P) (w := w) (base := base) T B 12
  have D_are_one := df_are_one (P := P) (w := w) (base := base) T B
  have D_order_of := df_order_of (P := P) (w := w) (base := base) T B
  exact (pms_asg (PMD.i (pm_tup (pma_cons (pm_tup (pma_cons pm_str (pma_cons (pm_tup (pma_cons pm_int (pma_cons pm_int pma_nil))) pma_nil))) (pma_cons (pm_tup (pma_cons pm_str (pma_cons (pm_tup (pma_cons pm_int (pma_cons pm_int pma_nil))) pma_nil))) pma_nil)))) (pg_name (i := 4) sc__law_pairs_right.nd rfl (by first | exact .inl rfl | exact .inr rfl)))
theorem st2__law_pairs_right (T : Tx K mg) (B : Bx P w K mg base) (fd : FuncData) (Fn : Fun K "_law_pairs_right" "_law_pairs_right" s__law_pairs_right (He.ga K "_law_pairs_right") fd) (hm : mg "_law_pairs_right" = some (.ref (He.ga K "_law_pairs_right"))) (cdv : Value) (A : Around) (outer : List Env) (s : Shared) (H : Hp) (E : XK) (hr : Room 34 (A.deeper (envOfC "_law_pairs_right" (defScope s__law_pairs_right) s.heap.objs.size (He.ga K "_law_pairs_right") cdv))) (hcd : CodeIs K (He.ga K "_law_pairs_right") cdv) :
    PMS (cxOf (L2.CX P w) P w K mg base n__law_pairs_right "_law_pairs_right" (defScope s__law_pairs_right) (He.ga K "_law_pairs_right") cdv A outer s H E) (WnE E (cxOf (L2.CX P w) P w K mg base n__law_pairs_right "_law_pairs_right" (defScope s__law_pairs_right) (He.ga K "_law_pairs_right") cdv A outer s H E)) ((defBody s__law_pairs_right).getD 2 (.Pass ⟨0, 0, 0, 0⟩)) g2__law_pairs_right := by
  have D__law_heard := df__law_heard (P := P) (w := w) (base := base) T B
  have D__law_same := df__law_same (P := P) (w := w) (base := base) T B 12
  have D_are_one := df_are_one (P := P) (w := w) (base := base) T B
  have D_order_of := df_order_of (P := P) (w := w) (base := base) T B
  exact (pms_asg (PMD.i (PMF.d (pmf_lst (pml_cons (PMD.i (pm_tup (pma_cons pm_int (pma_cons (PMI.d (pi_var (pv 0))) (pma_cons (PMI.d (pi_var (pv 2))) (pma_cons pm_non (pma_cons (pm_tup (pma_cons pm_int (pma_cons pm_int pma_nil))) pma_nil))))))) (pml_cons (PMD.i (pm_tup (pma_cons pm_int (pma_cons (PMI.d (pi_var (pv 3))) (pma_cons (PMI.d (pi_var (pv 1))) (pma_cons pm_non (pma_cons (pm_tup (pma_cons pm_int pma_nil)) pma_nil))))))) (pml_cons (PMD.i (pm_tup (pma_cons pm_int (pma_cons (PMI.d (pi_var (pv 1))) (pma_cons (PMI.d (pi_var (pv 1))) (pma_cons pm_str (pma_cons (PMF.d (pmf_lst (pml_cons (PMD.i pm_str) (pml_cons (PMD.i pm_bl) pml_nil)))) pma_nil))))))) (pml_cons (PMD.i (pm_tup (pma_cons pm_int (pma_cons (PMI.d (pi_var (pv 0))) (pma_cons (pm_add (PMI.d (pi_var (pv 0))) (PMI.d (pi_var (pv 0)))) (pma_cons pm_str (pma_cons (PMF.d (pmf_lst (pml_cons (PMD.i pm_str) (pml_cons (PMD.i pm_bl) pml_nil)))) pma_nil))))))) (pml_cons (PMD.i (pm_tup (pma_cons pm_int (pma_cons (PMI.d (pi_var (pv 1))) (pma_cons (PMI.d (pi_var (pv 2))) (pma_cons pm_non (pma_cons (pm_tup pma_nil) pma_nil))))))) (pml_cons (PMD.i (pm_tup (pma_cons pm_int (pma_cons (PMI.d (pi_var (pv 1))) (pma_cons (pm_add (PMI.d (pi_var (pv 1))) (PMI.d (pi_var (pv 1)))) (pma_cons pm_non (pma_cons (pm_tup (pma_cons pm_int pma_nil)) pma_nil))))))) (pml_cons (PMD.i (pm_tup (pma_cons pm_int (pma_cons (PMI.d (pi_var (pv 3))) (pma_cons (PMI.d (pi_var (pv 4))) (pma_cons pm_non (pma_cons (pm_tup (pma_cons pm_int pma_nil)) pma_nil))))))) pml_nil)))))))))) (pg_name (i := 5) sc__law_pairs_right.nd rfl (by first | exact .inl rfl | exact .inr rfl)))
theorem st3__law_pairs_right (T : Tx K mg) (B : Bx P w K mg base) (fd : FuncData) (Fn : Fun K "_law_pairs_right" "_law_pairs_right" s__law_pairs_right (He.ga K "_law_pairs_right") fd) (hm : mg "_law_pairs_right" = some (.ref (He.ga K "_law_pairs_right"))) (cdv : Value) (A : Around) (outer : List Env) (s : Shared) (H : Hp) (E : XK) (hr : Room 34 (A.deeper (envOfC "_law_pairs_right" (defScope s__law_pairs_right) s.heap.objs.size (He.ga K "_law_pairs_right") cdv))) (hcd : CodeIs K (He.ga K "_law_pairs_right") cdv) :
    PMS (cxOf (L2.CX P w) P w K mg base n__law_pairs_right "_law_pairs_right" (defScope s__law_pairs_right) (He.ga K "_law_pairs_right") cdv A outer s H E) (WnE E (cxOf (L2.CX P w) P w K mg base n__law_pairs_right "_law_pairs_right" (defScope s__law_pairs_right) (He.ga K "_law_pairs_right") cdv A outer s H E)) ((defBody s__law_pairs_right).getD 3 (.Pass ⟨0, 0, 0, 0⟩)) g3__law_pairs_right := by
  have D__law_heard := df__law_heard (P := P) (w := w) (base := base) T B
  have D__law_same := df__law_same (P := P) (w := w) (base := base) T B 12
  have D_are_one := df_are_one (P := P) (w := w) (base := base) T B
  have D_order_of := df_order_of (P := P) (w := w) (base := base) T B
  exact (pms_asg (PMD.i (pm_add (PMI.d (pi_var (pv 5))) (PMF.d (pmf_lst (pml_cons (PMD.i (pm_tup (pma_cons pm_int (pma_cons (pm_tup (pma_cons (pm_tup (pma_cons pm_str (pma_cons (pm_tup (pma_cons pm_int pma_nil)) pma_nil))) (pma_cons (pm_tup (pma_cons pm_str (pma_cons (pm_tup (pma_cons pm_int (pma_cons pm_int pma_nil))) pma_nil))) (pma_cons (pm_tup (pma_cons pm_str (pma_cons (pm_tup (pma_cons pm_int (pma_cons pm_int pma_nil))) pma_nil))) pma_nil)))) (pma_cons (pm_tup (pma_cons (pm_tup (pma_cons pm_str (pma_cons (pm_tup (pma_cons pm_int (pma_cons pm_int pma_nil))) pma_nil))) (pma_cons (pm_tup (pma_cons pm_str (pma_cons (pm_tup (pma_cons pm_int (pma_cons pm_int pma_nil))) pma_nil))) pma_nil))) (pma_cons pm_str (pma_cons (pm_tup pma_nil) pma_nil))))))) (pml_cons (PMD.i (pm_tup (pma_cons pm_int (pma_cons (pm_tup (pma_cons (pm_tup (pma_cons pm_str (pma_cons (pm_tup (pma_cons pm_int (pma_cons pm_int pma_nil))) pma_nil))) (pma_cons (pm_tup (pma_cons pm_str (pma_cons (pm_tup (pma_cons pm_int (pma_cons pm_int pma_nil))) pma_nil))) pma_nil))) (pma_cons (PMI.d (pi_var (pv 0))) (pma_cons pm_str (pma_cons (pm_tup pma_nil) pma_nil))))))) (pml_cons (PMD.i (pm_tup (pma_cons pm_int (pma_cons (pm_tup (pma_cons (pm_tup (pma_cons pm_str (pma_cons (pm_tup (pma_cons pm_int pma_nil)) pma_nil))) (pma_cons (pm_tup (pma_cons pm_str (pma_cons (pm_tup (pma_cons pm_int pma_nil)) pma_nil))) pma_nil))) (pma_cons (pm_tup (pma_cons (pm_tup (pma_cons pm_str (pma_cons (pm_tup (pma_cons pm_int pma_nil)) pma_nil))) (pma_cons (pm_tup (pma_cons pm_str (pma_cons (pm_tup (pma_cons pm_int pma_nil)) pma_nil))) (pma_cons (pm_tup (pma_cons pm_str (pma_cons (pm_tup (pma_cons pm_int (pma_cons pm_int (pma_cons pm_int pma_nil)))) pma_nil))) (pma_cons (pm_tup (pma_cons pm_str (pma_cons (pm_tup (pma_cons pm_int (pma_cons pm_int (pma_cons pm_int pma_nil)))) pma_nil))) pma_nil))))) (pma_cons pm_non (pma_cons (pm_tup (pma_cons pm_int (pma_cons pm_int (pma_cons pm_int (pma_cons pm_int pma_nil))))) pma_nil))))))) pml_nil))))))) (pg_name (i := 5) sc__law_pairs_right.nd rfl (by first | exact .inl rfl | exact .inr rfl)))
theorem st4__law_pairs_right (T : Tx K mg) (B : Bx P w K mg base) (fd : FuncData) (Fn : Fun K "_law_pairs_right" "_law_pairs_right" s__law_pairs_right (He.ga K "_law_pairs_right") fd) (hm : mg "_law_pairs_right" = some (.ref (He.ga K "_law_pairs_right"))) (cdv : Value) (A : Around) (outer : List Env) (s : Shared) (H : Hp) (E : XK) (hr : Room 34 (A.deeper (envOfC "_law_pairs_right" (defScope s__law_pairs_right) s.heap.objs.size (He.ga K "_law_pairs_right") cdv))) (hcd : CodeIs K (He.ga K "_law_pairs_right") cdv) :
    PMS (cxOf (L2.CX P w) P w K mg base n__law_pairs_right "_law_pairs_right" (defScope s__law_pairs_right) (He.ga K "_law_pairs_right") cdv A outer s H E) (WnE E (cxOf (L2.CX P w) P w K mg base n__law_pairs_right "_law_pairs_right" (defScope s__law_pairs_right) (He.ga K "_law_pairs_right") cdv A outer s H E)) ((defBody s__law_pairs_right).getD 4 (.Pass ⟨0, 0, 0, 0⟩)) g4__law_pairs_right := by
  have D__law_heard := df__law_heard (P := P) (w := w) (base := base) T B
  have D__law_same := df__law_same (P := P) (w := w) (base := base) T B 12
  have D_are_one := df_are_one (P := P) (w := w) (base := base) T B
  have D_order_of := df_order_of (P := P) (w := w) (base := base) T B
  exact (pms_asg (PMD.i (pm_add (PMI.d (pi_var (pv 5))) (PMF.d (pmf_lst (pml_cons (PMD.i (pm_tup (pma_cons pm_int (pma_cons (pm_tup (pma_cons (pm_tup (pma_cons pm_str (pma_cons (pm_tup (pma_cons pm_int pma_nil)) pma_nil))) (pma_cons (pm_tup (pma_cons pm_str (pma_cons (pm_tup (pma_cons pm_int pma_nil)) pma_nil))) (pma_cons (pm_tup (pma_cons pm_str (pma_cons (pm_tup (pma_cons pm_int pma_nil)) pma_nil))) (pma_cons (pm_tup (pma_cons pm_str (pma_cons (pm_tup (pma_cons pm_int pma_nil)) pma_nil))) pma_nil))))) (pma_cons (pm_tup (pma_cons (pm_tup (pma_cons pm_str (pma_cons (pm_tup (pma_cons pm_int pma_nil)) pma_nil))) (pma_cons (pm_tup (pma_cons pm_str (pma_cons (pm_tup (pma_cons pm_int pma_nil)) pma_nil))) pma_nil))) (pma_cons pm_non (pma_cons (pm_tup (pma_cons pm_int pma_nil)) pma_nil))))))) (pml_cons (PMD.i (pm_tup (pma_cons pm_int (pma_cons (pm_tup (pma_cons (pm_tup (pma_cons pm_str (pma_cons (pm_tup (pma_cons pm_int pma_nil)) pma_nil))) (pma_cons (pm_tup (pma_cons pm_str (pma_cons (pm_tup (pma_cons pm_int pma_nil)) pma_nil))) pma_nil))) (pma_cons (pm_tup (pma_cons (pm_tup (pma_cons pm_str (pma_cons (pm_tup (pma_cons pm_int pma_nil)) pma_nil))) pma_nil)) (pma_cons pm_non (pma_cons (pm_tup (pma_cons pm_int pma_nil)) pma_nil))))))) pml_nil)))))) (pg_name (i := 5) sc__law_pairs_right.nd rfl (by first | exact .inl rfl | exact .inr rfl)))
theorem st5__law_pairs_right (T : Tx K mg) (B : Bx P w K mg base) (fd : FuncData) (Fn : Fun K "_law_pairs_right" "_law_pairs_right" s__law_pairs_right (He.ga K "_law_pairs_right") fd) (hm : mg "_law_pairs_right" = some (.ref (He.ga K "_law_pairs_right"))) (cdv : Value) (A : Around) (outer : List Env) (s : Shared) (H : Hp) (E : XK) (hr : Room 34 (A.deeper (envOfC "_law_pairs_right" (defScope s__law_pairs_right) s.heap.objs.size (He.ga K "_law_pairs_right") cdv))) (hcd : CodeIs K (He.ga K "_law_pairs_right") cdv) :
    PMS (cxOf (L2.CX P w) P w K mg base n__law_pairs_right "_law_pairs_right" (defScope s__law_pairs_right) (He.ga K "_law_pairs_right") cdv A outer s H E) (WnE E (cxOf (L2.CX P w) P w K mg base n__law_pairs_right "_law_pairs_right" (defScope s__law_pairs_right) (He.ga K "_law_pairs_right") cdv A outer s H E)) ((defBody s__law_pairs_right).getD 5 (.Pass ⟨0, 0, 0, 0⟩)) g5__law_pairs_right := by
  have D__law_heard := df__law_heard (P := P) (w := w) (base := base) T B
  have D__law_same := df__law_same (P := P) (w := w) (base := base) T B 12
  have D_are_one := df_are_one (P := P) (w := w) (base := base) T B
  have D_order_of := df_order_of (P := P) (w := w) (base := base) T B
  exact (pms_asgLcD (i := 6) (own := [("own", 7)]) rfl sc__law_pairs_right.nd rfl rfl rfl (pmi_seq (PMI.d (pi_var (pv 5)))) (PD.blk_mk (N := n__law_pairs_right) (sc := defScope s__law_pairs_right) rfl (by decide +kernel)) (fun _ _ _ _ _ => (pg_one (pg_name (i := 7) sc__law_pairs_right.nd rfl (by first | exact .inl rfl | exact .inr rfl)))) (fun _ _ _ _ _ => pmts_nil) (fun _ _ _ _ _ => (PMF.o (pmf_lst (pml_cons (pi_call D_order_of (hr.mono (by decide)) (by rfl) takes0 (pml_cons (pi_at (un_of hr) (pi_var (pv 7)) pm_int (fun _ _ => rfl)) (pml_cons (pi_at (un_of hr) (pi_var (pv 7)) pm_int (fun _ _ => rfl)) (pml_cons (pi_at (un_of hr) (pi_var (pv 7)) pm_int (fun _ _ => rfl)) pml_nil)))) (pml_cons (pi_call D_are_one (hr.mono (by decide)) (by rfl) takes0 (pml_cons (pi_at (un_of hr) (pi_var (pv 7)) pm_int (fun _ _ => rfl)) (pml_cons (pi_at (un_of hr) (pi_var (pv 7)) pm_int (fun _ _ => rfl)) (pml_cons (pi_at (un_of hr) (pi_var (pv 7)) pm_int (fun _ _ => rfl)) pml_nil)))) (pml_cons (pi_call D__law_heard (hr.mono (by decide)) (by rfl) takes0 (pml_cons (PMD.i pm_int) (pml_cons (pi_at (un_of hr) (pi_var (pv 7)) pm_int (fun _ _ => rfl)) (pml_cons (pi_at (un_of hr) (pi_var (pv 7)) pm_int (fun _ _ => rfl)) (pml_cons (pi_at (un_of hr) (pi_var (pv 7)) pm_int (fun _ _ => rfl)) pml_nil))))) pml_nil)))))) (by decide))
theorem st6__law_pairs_right (T : Tx K mg) (B : Bx P w K mg base) (fd : FuncData) (Fn : Fun K "_law_pairs_right" "_law_pairs_right" s__law_pairs_right (He.ga K "_law_pairs_right") fd) (hm : mg "_law_pairs_right" = some (.ref (He.ga K "_law_pairs_right"))) (cdv : Value) (A : Around) (outer : List Env) (s : Shared) (H : Hp) (E : XK) (hr : Room 34 (A.deeper (envOfC "_law_pairs_right" (defScope s__law_pairs_right) s.heap.objs.size (He.ga K "_law_pairs_right") cdv))) (hcd : CodeIs K (He.ga K "_law_pairs_right") cdv) :
    PMS (cxOf (L2.CX P w) P w K mg base n__law_pairs_right "_law_pairs_right" (defScope s__law_pairs_right) (He.ga K "_law_pairs_right") cdv A outer s H E) (WnE E (cxOf (L2.CX P w) P w K mg base n__law_pairs_right "_law_pairs_right" (defScope s__law_pairs_right) (He.ga K "_law_pairs_right") cdv A outer s H E)) ((defBody s__law_pairs_right).getD 6 (.Pass ⟨0, 0, 0, 0⟩)) g6__law_pairs_right := by
  have D__law_heard := df__law_heard (P := P) (w := w) (base := base) T B
  have D__law_same := df__law_same (P := P) (w := w) (base := base) T B 12
  have D_are_one := df_are_one (P := P) (w := w) (base := base) T B
  have D_order_of := df_order_of (P := P) (w := w) (base := base) T B
  exact (pms_ret (pi_call D__law_same (hr.mono (by decide)) (by rfl) (takes_of rfl rfl rfl rfl) (pml_cons (pi_var (pv 6)) (pml_cons (PMD.i (PMF.d (pmf_lc (own := [("own", 7)]) rfl sc__law_pairs_right.nd (pmi_seq (PMI.d (pi_var (pv 5)))) (PD.blk_mk (N := n__law_pairs_right) (sc := defScope s__law_pairs_right) rfl (by decide +kernel)) (fun _ _ _ _ _ => (pg_one (pg_name (i := 7) sc__law_pairs_right.nd rfl (by first | exact .inl rfl | exact .inr rfl)))) (fun _ _ _ _ _ => pmts_nil) (fun _ _ _ _ _ => (PMF.o (pmf_lst (pml_cons (pi_at (un_of hr) (pi_var (pv 7)) pm_int (fun _ _ => rfl)) (pml_cons (PMD.i (pm_cmp (PD.cr_eq hr) (PMI.d (pi_at (un_of hr) (pi_var (pv 7)) pm_int (fun _ _ => rfl))) pm_str)) (pml_cons (pi_at (un_of hr) (pi_var (pv 7)) pm_int (fun _ _ => rfl)) pml_nil)))))) (by decide)))) pml_nil))))
theorem df__law_pairs_right (T : Tx K mg) (B : Bx P w K mg base) : Df P w K mg base 35 "_law_pairs_right" s__law_pairs_right [] F__law_pairs_right := by
  obtain ⟨fd, Fn, hm⟩ := T.f__law_pairs_right
  exact df_mk (N := n__law_pairs_right) (ps := []) (k := 34) (B := B__law_pairs_right) Fn hm (Fn.binds fun _ _ _ _ _ _ us hl => match us, hl with | [], _ => rfl) sc__law_pairs_right (by decide) fun cdv A outer s H E hr hcd =>
    (pmss_cons (st0__law_pairs_right T B fd Fn hm cdv A outer s H E hr hcd) (pmss_cons (st1__law_pairs_right T B fd Fn hm cdv A outer s H E hr hcd) (pmss_cons (st2__law_pairs_right T B fd Fn hm cdv A outer s H E hr hcd) (pmss_cons (st3__law_pairs_right T B fd Fn hm cdv A outer s H E hr hcd) (pmss_cons (st4__law_pairs_right T B fd Fn hm cdv A outer s H E hr hcd) (pmss_cons (st5__law_pairs_right T B fd Fn hm cdv A outer s H E hr hcd) (pmss_cons (st6__law_pairs_right T B fd Fn hm cdv A outer s H E hr hcd) pmss_nil)))))))
theorem df_letters_there (T : Tx K mg) (B : Bx P w K mg base) : Df P w K mg base 33 "letters_there" s_letters_there ["wide", "naming"] F_letters_there := by
  obtain ⟨fd, Fn, hm⟩ := T.f_letters_there
  have D_text_there := df_text_there (P := P) (w := w) (base := base) T B
  exact df_mk (N := n_letters_there) (ps := ["wide", "naming"]) (k := 32) (B := B_letters_there) Fn hm (Fn.binds fun _ _ _ _ _ _ us hl => match us, hl with | [_, _], _ => rfl) sc_letters_there (by decide) fun cdv A outer s H E hr hcd =>
    (pmss_cons (pms_ret (PMD.i (pm_tuple T.b_tuple (pma_cons (PMF.d (pmf_lc (own := [("what", 2)]) rfl sc_letters_there.nd (pmi_seq (pm_add (pm_tupRg (by rfl) (by rfl) T.b_tuple (by rfl) T.b_range pm_int (pm_add (PMI.d (pi_var (pv 0))) pm_int)) (pm_tup (pma_cons pm_str (pma_cons pm_str pma_nil))))) (PD.blk_mk (N := n_letters_there) (sc := defScope s_letters_there) rfl (by decide +kernel)) (fun _ _ _ _ _ => (pg_one (pg_name (i := 2) sc_letters_there.nd rfl (by first | exact .inl rfl | exact .inr rfl)))) (fun _ _ _ _ _ => (pmts_one (pmt_cmp PD.cd_isnot (PMI.d (pi_call D_text_there (hr.mono (by decide)) (by rfl) takes0 (pml_cons (pi_var (pv 0)) (pml_cons (pi_var (pv 1)) (pml_cons (pi_var (pv 2)) pml_nil))))) pm_non))) (fun _ _ _ _ _ => (pi_var (pv 2))) (by decide))) pma_nil))))
    pmss_nil)
theorem df__law_lists (T : Tx K mg) (B : Bx P w K mg base) : ∀ n, Df P w K mg base (n + 2) "_law_lists" s__law_lists ["matter"] (F__law_lists n) := by
  obtain ⟨fd, Fn, hm⟩ := T.f__law_lists
  intro n
  induction n with
  | zero => exact df_no Fn hm (Fn.binds fun _ _ _ _ _ _ us hl => match us, hl with | [_], _ => rfl)
  | succ n D =>
  exact df_mk Fn hm (Fn.binds fun _ _ _ _ _ _ us hl => match us, hl with | [_], _ => rfl) sc__law_lists (by decide) fun cdv A outer s H E hr hcd =>
    (pmss_cons (pms_ret (PMD.i (pm_ifExp (pmt_val (pm_isi2 (by rfl) T.b_isinstance rfl (by rfl) T.b_list rfl (by rfl) T.b_tuple rfl (PMI.d (pi_var (pv 0))))) (PMF.d (pmf_lc (own := [("bit", 1)]) rfl sc__law_lists.nd (pmi_seq (PMI.d (pi_var (pv 0)))) (PD.blk_mk (N := n__law_lists) (sc := defScope s__law_lists) rfl (by decide +kernel)) (fun _ _ _ _ _ => (pg_one (pg_name (i := 1) sc__law_lists.nd rfl (by first | exact .inl rfl | exact .inr rfl)))) (fun _ _ _ _ _ => pmts_nil) (fun _ _ _ _ _ => (pi_call D hr (by rfl) takes0 (pml_cons (pi_var (pv 1)) pml_nil))) (by decide))) (PMI.d (pi_var (pv 0))))))
    pmss_nil)
theorem st0__law_there_right (T : Tx K mg) (B : Bx P w K mg base) (fd : FuncData) (Fn : Fun K "_law_there_right" "_law_there_right" s__law_there_right (He.ga K "_law_there_right") fd) (hm : mg "_law_there_right" = some (.ref (He.ga K "_law_there_right"))) (cdv : Value) (A : Around) (outer : List Env) (s : Shared) (H : Hp) (E : XK) (hr : Room 34 (A.deeper (envOfC "_law_there_right" (defScope s__law_there_right) s.heap.objs.size (He.ga K "_law_there_right") cdv))) (hcd : CodeIs K (He.ga K "_law_there_right") cdv) :
    PMS (cxOf (L2.CX P w) P w K mg base n__law_there_right "_law_there_right" (defScope s__law_there_right) (He.ga K "_law_there_right") cdv A outer s H E) (WnE E (cxOf (L2.CX P w) P w K mg base n__law_there_right "_law_there_right" (defScope s__law_there_right) (He.ga K "_law_there_right") cdv A outer s H E)) ((defBody s__law_there_right).getD 0 (.Pass ⟨0, 0, 0, 0⟩)) g0__law_there_right := by
  have D__law_heard := df__law_heard (P := P) (w := w) (base := base) T B
  have D__law_lists := df__law_lists (P := P) (w := w) (base := base) T B 12
  have D__law_same := df__law_same (P := P) (w := w) (base := base) T B 12
  have D_are_one := df_are_one (P := P) (w := w) (base := base) T B
  have D_letters_there := df_letters_there (P := P) (w := w) (base := base) T B
  have D_order_of := df_order_of (P := P) (w := w) (base := base) T B
  have D_text_with := df_text_with (P := P) (w := w) (base := base) T B
  have D_unlike_named := df_unlike_named (P := P) (w := w) (base := base) T B
  exact (pms_asgT (pm_tup (pma_cons (pm_tup (pma_cons (pm_tup (pma_cons pm_str (pma_cons (pm_tup (pma_cons pm_int pma_nil)) pma_nil))) (pma_cons (pm_tup (pma_cons pm_str (pma_cons (pm_tup (pma_cons pm_int pma_nil)) pma_nil))) pma_nil))) (pma_cons (pm_tup (pma_cons (pm_tup (pma_cons pm_str (pma_cons (pm_tup (pma_cons pm_int pma_nil)) pma_nil))) pma_nil)) (pma_cons (pm_tup (pma_cons (pm_tup (pma_cons pm_str (pma_cons (pm_tup (pma_cons pm_int (pma_cons pm_int pma_nil))) pma_nil))) (pma_cons (pm_tup (pma_cons pm_str (pma_cons (pm_tup (pma_cons pm_int (pma_cons pm_int pma_nil))) pma_nil))) pma_nil))) pma_nil)))) (pg_tl rfl (pgs_cons' (pg_one (pg_name (i := 0) sc__law_there_right.nd rfl (by first | exact .inl rfl | exact .inr rfl))) (pgs_cons' (pg_one (pg_name (i := 1) sc__law_there_right.nd rfl (by first | exact .inl rfl | exact .inr rfl))) (pgs_cons' (pg_one (pg_name (i := 2) sc__law_there_right.nd rfl (by first | exact .inl rfl | exact .inr rfl))) pgs_nil')))))
theorem st1__law_there_right (T : Tx K mg) (B : Bx P w K mg base) (fd : FuncData) (Fn : Fun K "_law_there_right" "_law_there_right" s__law_there_right (He.ga K "_law_there_right") fd) (hm : mg "_law_there_right" = some (.ref (He.ga K "_law_there_right"))) (cdv : Value) (A : Around) (outer : List Env) (s : Shared) (H : Hp) (E : XK) (hr : Room 34 (A.deeper (envOfC "_law_there_right" (defScope s__law_there_right) s.heap.objs.size (He.ga K "_law_there_right") cdv))) (hcd : CodeIs K (He.ga K "_law_there_right") cdv) :
    PMS (cxOf (L2.CX P w) P w K mg base n__law_there_right "_law_there_right" (defScope s__law_there_right) (He.ga K "_law_there_right") cdv A outer s H E) (WnE E (cxOf (L2.CX P w) P w K mg base n__law_there_right "_law_there_right" (defScope s__law_there_right) (He.ga K "_law_there_right") cdv A outer s H E)) ((defBody s__law_there_right).getD 1 (.Pass ⟨0, 0, 0, 0⟩)) g1__law_there_right := by
  have D__law_heard := df__law_heard (P := P) (w := w) (base := base) T B
  have D__law_lists := df__law_lists (P := P) (w := w) (base := base) T B 12
  have D__law_same := df__law_same (P := P) (w := w) (base := base) T B 12
  have D_are_one := df_are_one (P := P) (w := w) (base := base) T B
  have D_letters_there := df_letters_there (P := P) (w := w) (base := base) T B
  have D_order_of := df_order_of (P := P) (w := w) (base := base) T B
  have D_text_with := df_text_with (P := P) (w := w) (base := base) T B
  have D_unlike_named := df_unlike_named (P := P) (w := w) (base := base) T B
  exact (pms_asgT (pm_tup (pma_cons (pm_tup (pma_cons (pm_tup (pma_cons pm_str (pma_cons (pm_tup (pma_cons pm_int pma_nil)) pma_nil))) (pma_cons (pm_tup (pma_cons pm_str (pma_cons (pm_tup (pma_cons pm_int (pma_cons pm_int pma_nil))) pma_nil))) pma_nil))) (pma_cons (pm_tup (pma_cons (pm_tup (pma_cons pm_str (pma_cons (pm_tup (pma_cons pm_int pma_nil)) pma_nil))) (pma_cons (pm_tup (pma_cons pm_str (pma_cons (pm_tup (pma_cons pm_int pma_nil)) pma_nil))) (pma_cons (pm_tup (pma_cons pm_str (pma_cons (pm_tup (pma_cons pm_int (pma_cons pm_int pma_nil))) pma_nil))) (pma_cons (pm_tup (pma_cons pm_str (pma_cons (pm_tup (pma_cons pm_int pma_nil)) pma_nil))) pma_nil))))) pma_nil))) (pg_tl rfl (pgs_cons' (pg_one (pg_name (i := 3) sc__law_there_right.nd rfl (by first | exact .inl rfl | exact .inr rfl))) (pgs_cons' (pg_one (pg_name (i := 4) sc__law_there_right.nd rfl (by first | exact .inl rfl | exact .inr rfl))) pgs_nil'))))
theorem st2__law_there_right (T : Tx K mg) (B : Bx P w K mg base) (fd : FuncData) (Fn : Fun K "_law_there_right" "_law_there_right" s__law_there_right (He.ga K "_law_there_right") fd) (hm : mg "_law_there_right" = some (.ref (He.ga K "_law_there_right"))) (cdv : Value) (A : Around) (outer : List Env) (s : Shared) (H : Hp) (E : XK) (hr : Room 34 (A.deeper (envOfC "_law_there_right" (defScope s__law_there_right) s.heap.objs.size (He.ga K "_law_there_right") cdv))) (hcd : CodeIs K (He.ga K "_law_there_right") cdv) :
    PMS (cxOf (L2.CX P w) P w K mg base n__law_there_right "_law_there_right" (defScope s__law_there_right) (He.ga K "_law_there_right") cdv A outer s H E) (WnE E (cxOf (L2.CX P w) P w K mg base n__law_there_right "_law_there_right" (defScope s__law_there_right) (He.ga K "_law_there_right") cdv A outer s H E)) ((defBody s__law_there_right).getD 2 (.Pass ⟨0, 0, 0, 0⟩)) g2__law_there_right := by
  have D__law_heard := df__law_heard (P := P) (w := w) (base := base) T B
  have D__law_lists := df__law_lists (P := P) (w := w) (base := base) T B 12
  have D__law_same := df__law_same (P := P) (w := w) (base := base) T B 12
  have D_are_one := df_are_one (P := P) (w := w) (base := base) T B
  have D_letters_there := df_letters_there (P := P) (w := w) (base := base) T B
  have D_order_of := df_order_of (P := P) (w := w) (base := base) T B
  have D_text_with := df_text_with (P := P) (w := w) (base := base) T B
  have D_unlike_named := df_unlike_named (P := P) (w := w) (base := base) T B
  exact (pms_asg (PMD.i (pm_add (PMF.d (pmf_lc (own := [("own", 6)]) rfl sc__law_there_right.nd (pmi_seq (pm_tup (pma_cons (PMI.d (pi_var (pv 0))) (pma_cons (PMI.d (pi_var (pv 1))) (pma_cons (pm_add (PMI.d (pi_var (pv 1))) (pm_tup (pma_cons (pm_tup (pma_cons pm_str (pma_cons (pm_tup (pma_cons pm_int (pma_cons pm_int pma_nil))) pma_nil))) pma_nil))) (pma_cons (PMI.d (pi_var (pv 2))) (pma_cons (PMI.d (pi_var (pv 3))) (pma_cons (PMI.d (pi_var (pv 4))) pma_nil)))))))) (PD.blk_mk (N := n__law_there_right) (sc := defScope s__law_there_right) rfl (by decide +kernel)) (fun _ _ _ _ _ => (pg_one (pg_name (i := 6) sc__law_there_right.nd rfl (by first | exact .inl rfl | exact .inr rfl)))) (fun _ _ _ _ _ => pmts_nil) (fun _ _ _ _ _ => (pi_call D_letters_there (hr.mono (by decide)) (by rfl) takes0 (pml_cons (PMD.i pm_int) (pml_cons (pi_var (pv 6)) pml_nil)))) (by decide))) (PMF.d (pmf_lst (pml_cons (pi_call D_letters_there (hr.mono (by decide)) (by rfl) (takes_of rfl rfl rfl rfl) (pml_cons (PMD.i pm_int) (pml_cons (PMD.i (pm_tup (pma_cons (pm_tup (pma_cons pm_str (pma_cons (pm_tup (pma_cons pm_int (pma_cons pm_int pma_nil))) pma_nil))) (pma_cons (pm_tup (pma_cons pm_str (pma_cons (pm_tup (pma_cons pm_int pma_nil)) pma_nil))) pma_nil)))) pml_nil))) (pml_cons (pi_call D_letters_there (hr.mono (by decide)) (by rfl) (takes_of rfl rfl rfl rfl) (pml_cons (PMD.i pm_int) (pml_cons (PMD.i (pm_tup (pma_cons (pm_tup (pma_cons pm_str (pma_cons (pm_tup (pma_cons pm_int pma_nil)) pma_nil))) (pma_cons (pm_tup (pma_cons pm_str (pma_cons (pm_tup (pma_cons pm_int pma_nil)) pma_nil))) pma_nil)))) pml_nil))) pml_nil)))))) (pg_name (i := 5) sc__law_there_right.nd rfl (by first | exact .inl rfl | exact .inr rfl)))
theorem st3__law_there_right (T : Tx K mg) (B : Bx P w K mg base) (fd : FuncData) (Fn : Fun K "_law_there_right" "_law_there_right" s__law_there_right (He.ga K "_law_there_right") fd) (hm : mg "_law_there_right" = some (.ref (He.ga K "_law_there_right"))) (cdv : Value) (A : Around) (outer : List Env) (s : Shared) (H : Hp) (E : XK) (hr : Room 34 (A.deeper (envOfC "_law_there_right" (defScope s__law_there_right) s.heap.objs.size (He.ga K "_law_there_right") cdv))) (hcd : CodeIs K (He.ga K "_law_there_right") cdv) :
    PMS (cxOf (L2.CX P w) P w K mg base n__law_there_right "_law_there_right" (defScope s__law_there_right) (He.ga K "_law_there_right") cdv A outer s H E) (WnE E (cxOf (L2.CX P w) P w K mg base n__law_there_right "_law_there_right" (defScope s__law_there_right) (He.ga K "_law_there_right") cdv A outer s H E)) ((defBody s__law_there_right).getD 3 (.Pass ⟨0, 0, 0, 0⟩)) g3__law_there_right := by
  have D__law_heard := df__law_heard (P := P) (w := w) (base := base) T B
  have D__law_lists := df__law_lists (P := P) (w := w) (base := base) T B 12
  have D__law_same := df__law_same (P := P) (w := w) (base := base) T B 12
  have D_are_one := df_are_one (P := P) (w := w) (base := base) T B
  have D_letters_there := df_letters_there (P := P) (w := w) (base := base) T B
  have D_order_of := df_order_of (P := P) (w := w) (base := base) T B
  have D_text_with := df_text_with (P := P) (w := w) (base := base) T B
  have D_unlike_named := df_unlike_named (P := P) (w := w) (base := base) T B
  exact (pms_if (pmt_not (pmt_val (PMI.d (pi_call D__law_same (hr.mono (by decide)) (by rfl) (takes_of rfl rfl rfl rfl) (pml_cons (pi_var (pv 5)) (pml_cons (PMD.i (PMF.d (pmf_lst (pml_cons (PMD.i (pm_tup (pma_cons pm_int (pma_cons pm_str pma_nil)))) (pml_cons (PMD.i (pm_tup (pma_cons pm_int (pma_cons pm_str pma_nil)))) (pml_cons (PMD.i (pm_tup (pma_cons pm_int (pma_cons pm_int (pma_cons pm_str pma_nil))))) (pml_cons (PMD.i (pm_tup (pma_cons pm_int (pma_cons pm_int (pma_cons pm_str pma_nil))))) (pml_cons (PMD.i (pm_tup (pma_cons pm_int (pma_cons pm_str pma_nil)))) (pml_cons (PMD.i (pm_tup (pma_cons pm_int (pma_cons pm_str pma_nil)))) (pml_cons (PMD.i (pm_tup (pma_cons pm_int (pma_cons pm_str pma_nil)))) (pml_cons (PMD.i (pm_tup (pma_cons pm_int (pma_cons pm_str pma_nil)))) pml_nil))))))))))) pml_nil)))))) (pmss_cons (pms_ret (PMD.i pm_bl))
    pmss_nil) pmss_nil)
theorem st4__law_there_right (T : Tx K mg) (B : Bx P w K mg base) (fd : FuncData) (Fn : Fun K "_law_there_right" "_law_there_right" s__law_there_right (He.ga K "_law_there_right") fd) (hm : mg "_law_there_right" = some (.ref (He.ga K "_law_there_right"))) (cdv : Value) (A : Around) (outer : List Env) (s : Shared) (H : Hp) (E : XK) (hr : Room 34 (A.deeper (envOfC "_law_there_right" (defScope s__law_there_right) s.heap.objs.size (He.ga K "_law_there_right") cdv))) (hcd : CodeIs K (He.ga K "_law_there_right") cdv) :
    PMS (cxOf (L2.CX P w) P w K mg base n__law_there_right "_law_there_right" (defScope s__law_there_right) (He.ga K "_law_there_right") cdv A outer s H E) (WnE E (cxOf (L2.CX P w) P w K mg base n__law_there_right "_law_there_right" (defScope s__law_there_right) (He.ga K "_law_there_right") cdv A outer s H E)) ((defBody s__law_there_right).getD 4 (.Pass ⟨0, 0, 0, 0⟩)) g4__law_there_right := by
  have D__law_heard := df__law_heard (P := P) (w := w) (base := base) T B
  have D__law_lists := df__law_lists (P := P) (w := w) (base := base) T B 12
  have D__law_same := df__law_same (P := P) (w := w) (base := base) T B 12
  have D_are_one := df_are_one (P := P) (w := w) (base := base) T B
  have D_letters_there := df_letters_there (P := P) (w := w) (base := base) T B
  have D_order_of := df_order_of (P := P) (w := w) (base := base) T B
  have D_text_with := df_text_with (P := P) (w := w) (base := base) T B
  have D_unlike_named := df_unlike_named (P := P) (w := w) (base := base) T B
  exact (pms_asg (PMD.i (PMF.d (pmf_lst (pml_cons (PMD.i (pm_tup (pma_cons pm_int (pma_cons (PMI.d (pi_var (pv 0))) (pma_cons pm_int (pma_cons (pm_tup (pma_cons pm_int pma_nil)) pma_nil)))))) (pml_cons (PMD.i (pm_tup (pma_cons pm_int (pma_cons (PMI.d (pi_var (pv 0))) (pma_cons pm_int (pma_cons (PMF.d (pmf_lst (pml_cons (PMD.i pm_str) (pml_cons (PMD.i pm_bl) pml_nil)))) pma_nil)))))) (pml_cons (PMD.i (pm_tup (pma_cons pm_int (pma_cons (PMI.d (pi_var (pv 0))) (pma_cons pm_str (pma_cons (pm_tup pma_nil) pma_nil)))))) (pml_cons (PMD.i (pm_tup (pma_cons pm_int (pma_cons (PMI.d (pi_var (pv 0))) (pma_cons pm_str (pma_cons (PMF.d (pmf_lst (pml_cons (PMD.i pm_str) (pml_cons (PMD.i pm_bl) pml_nil)))) pma_nil)))))) (pml_cons (PMD.i (pm_tup (pma_cons pm_int (pma_cons (PMI.d (pi_var (pv 2))) (pma_cons pm_int (pma_cons (pm_tup (pma_cons pm_int (pma_cons pm_int pma_nil))) pma_nil)))))) (pml_cons (PMD.i (pm_tup (pma_cons pm_int (pma_cons (PMI.d (pi_var (pv 2))) (pma_cons pm_str (pma_cons (pm_tup pma_nil) pma_nil)))))) (pml_cons (PMD.i (pm_tup (pma_cons pm_int (pma_cons (PMI.d (pi_var (pv 3))) (pma_cons pm_str (pma_cons (pm_tup pma_nil) pma_nil)))))) (pml_cons (PMD.i (pm_tup (pma_cons pm_int (pma_cons (PMI.d (pi_var (pv 3))) (pma_cons pm_int (pma_cons (pm_tup (pma_cons pm_int pma_nil)) pma_nil)))))) (pml_cons (PMD.i (pm_tup (pma_cons pm_int (pma_cons (PMI.d (pi_var (pv 3))) (pma_cons pm_int (pma_cons (PMF.d (pmf_lst (pml_cons (PMD.i pm_str) (pml_cons (PMD.i pm_bl) pml_nil)))) pma_nil)))))) (pml_cons (PMD.i (pm_tup (pma_cons pm_int (pma_cons (PMI.d (pi_var (pv 4))) (pma_cons pm_int (pma_cons (pm_tup (pma_cons pm_int (pma_cons pm_int (pma_cons pm_int pma_nil)))) pma_nil)))))) (pml_cons (PMD.i (pm_tup (pma_cons pm_int (pma_cons (pm_tup (pma_cons (pm_tup (pma_cons pm_str (pma_cons (pm_tup (pma_cons pm_int (pma_cons pm_int pma_nil))) pma_nil))) (pma_cons (pm_tup (pma_cons pm_str (pma_cons (pm_tup (pma_cons pm_int pma_nil)) pma_nil))) pma_nil))) (pma_cons pm_int (pma_cons (pm_tup (pma_cons pm_int pma_nil)) pma_nil)))))) (pml_cons (PMD.i (pm_tup (pma_cons pm_int (pma_cons (pm_tup (pma_cons (pm_tup (pma_cons pm_str (pma_cons (pm_tup (pma_cons pm_int pma_nil)) pma_nil))) (pma_cons (pm_tup (pma_cons pm_str (pma_cons (pm_tup (pma_cons pm_int pma_nil)) pma_nil))) pma_nil))) (pma_cons pm_int (pma_cons (pm_tup (pma_cons pm_int (pma_cons pm_int pma_nil))) pma_nil)))))) pml_nil))))))))))))))) (pg_name (i := 7) sc__law_there_right.nd rfl (by first | exact .inl rfl | exact .inr rfl)))
theorem st5__law_there_right (T : Tx K mg) (B : Bx P w K mg base) (fd : FuncData) (Fn : Fun K "_law_there_right" "_law_there_right" s__law_there_right (He.ga K "_law_there_right") fd) (hm : mg "_law_there_right" = some (.ref (He.ga K "_law_there_right"))) (cdv : Value) (A : Around) (outer : List Env) (s : Shared) (H : Hp) (E : XK) (hr : Room 34 (A.deeper (envOfC "_law_there_right" (defScope s__law_there_right) s.heap.objs.size (He.ga K "_law_there_right") cdv))) (hcd : CodeIs K (He.ga K "_law_there_right") cdv) :
    PMS (cxOf (L2.CX P w) P w K mg base n__law_there_right "_law_there_right" (defScope s__law_there_right) (He.ga K "_law_there_right") cdv A outer s H E) (WnE E (cxOf (L2.CX P w) P w K mg base n__law_there_right "_law_there_right" (defScope s__law_there_right) (He.ga K "_law_there_right") cdv A outer s H E)) ((defBody s__law_there_right).getD 5 (.Pass ⟨0, 0, 0, 0⟩)) g5__law_there_right := by
  have D__law_heard := df__law_heard (P := P) (w := w) (base := base) T B
  have D__law_lists := df__law_lists (P := P) (w := w) (base := base) T B 12
  have D__law_same := df__law_same (P := P) (w := w) (base := base) T B 12
  have D_are_one := df_are_one (P := P) (w := w) (base := base) T B
  have D_letters_there := df_letters_there (P := P) (w := w) (base := base) T B
  have D_order_of := df_order_of (P := P) (w := w) (base := base) T B
  have D_text_with := df_text_with (P := P) (w := w) (base := base) T B
  have D_unlike_named := df_unlike_named (P := P) (w := w) (base := base) T B
  exact (pms_if (pmt_not (pmt_val (PMI.d (pi_call D__law_same (hr.mono (by decide)) (by rfl) (takes_of rfl rfl rfl rfl) (pml_cons (PMD.i (PMF.d (pmf_lc (own := [("own", 6)]) rfl sc__law_there_right.nd (pmi_seq (PMI.d (pi_var (pv 7)))) (PD.blk_mk (N := n__law_there_right) (sc := defScope s__law_there_right) rfl (by decide +kernel)) (fun _ _ _ _ _ => (pg_one (pg_name (i := 6) sc__law_there_right.nd rfl (by first | exact .inl rfl | exact .inr rfl)))) (fun _ _ _ _ _ => pmts_nil) (fun _ _ _ _ _ => (pi_call D__law_heard (hr.mono (by decide)) (by rfl) takes0 (pml_cons (PMD.i pm_int) (pml_cons (pi_at (un_of hr) (pi_var (pv 6)) pm_int (fun _ _ => rfl)) (pml_cons (pi_at (un_of hr) (pi_var (pv 6)) pm_int (fun _ _ => rfl)) (pml_cons (pi_at (un_of hr) (pi_var (pv 6)) pm_int (fun _ _ => rfl)) pml_nil)))))) (by decide)))) (pml_cons (PMD.i (PMF.d (pmf_lc (own := [("own", 6)]) rfl sc__law_there_right.nd (pmi_seq (PMI.d (pi_var (pv 7)))) (PD.blk_mk (N := n__law_there_right) (sc := defScope s__law_there_right) rfl (by decide +kernel)) (fun _ _ _ _ _ => (pg_one (pg_name (i := 6) sc__law_there_right.nd rfl (by first | exact .inl rfl | exact .inr rfl)))) (fun _ _ _ _ _ => pmts_nil) (fun _ _ _ _ _ => (pi_at (un_of hr) (pi_var (pv 6)) pm_int (fun _ _ => rfl))) (by decide)))) pml_nil)))))) (pmss_cons (pms_ret (PMD.i pm_bl))
    pmss_nil) pmss_nil)
theorem st6__law_there_right (T : Tx K mg) (B : Bx P w K mg base) (fd : FuncData) (Fn : Fun K "_law_there_right" "_law_there_right" s__law_there_right (He.ga K "_law_there_right") fd) (hm : mg "_law_there_right" = some (.ref (He.ga K "_law_there_right"))) (cdv : Value) (A : Around) (outer : List Env) (s : Shared) (H : Hp) (E : XK) (hr : Room 34 (A.deeper (envOfC "_law_there_right" (defScope s__law_there_right) s.heap.objs.size (He.ga K "_law_there_right") cdv))) (hcd : CodeIs K (He.ga K "_law_there_right") cdv) :
    PMS (cxOf (L2.CX P w) P w K mg base n__law_there_right "_law_there_right" (defScope s__law_there_right) (He.ga K "_law_there_right") cdv A outer s H E) (WnE E (cxOf (L2.CX P w) P w K mg base n__law_there_right "_law_there_right" (defScope s__law_there_right) (He.ga K "_law_there_right") cdv A outer s H E)) ((defBody s__law_there_right).getD 6 (.Pass ⟨0, 0, 0, 0⟩)) g6__law_there_right := by
  have D__law_heard := df__law_heard (P := P) (w := w) (base := base) T B
  have D__law_lists := df__law_lists (P := P) (w := w) (base := base) T B 12
  have D__law_same := df__law_same (P := P) (w := w) (base := base) T B 12
  have D_are_one := df_are_one (P := P) (w := w) (base := base) T B
  have D_letters_there := df_letters_there (P := P) (w := w) (base := base) T B
  have D_order_of := df_order_of (P := P) (w := w) (base := base) T B
  have D_text_with := df_text_with (P := P) (w := w) (base := base) T B
  have D_unlike_named := df_unlike_named (P := P) (w := w) (base := base) T B
  exact (pms_par (pml_cons (pi_call D__law_lists (hr.mono (by decide)) (by rfl) (takes_of rfl rfl rfl rfl) (pml_cons (pi_var (pv 0)) pml_nil)) (pml_cons (pi_call D__law_lists (hr.mono (by decide)) (by rfl) (takes_of rfl rfl rfl rfl) (pml_cons (PMD.i (pm_tup (pma_cons (pm_tup (pma_cons pm_str (pma_cons (pm_tup (pma_cons pm_int pma_nil)) pma_nil))) pma_nil))) pml_nil)) pml_nil)) (fun h => ps_par rfl sc__law_there_right.nd rfl rfl (by decide) (by first | exact .inl rfl | exact .inr rfl | rfl) (by first | exact .inl rfl | exact .inr rfl | rfl) h rfl))
theorem st7__law_there_right (T : Tx K mg) (B : Bx P w K mg base) (fd : FuncData) (Fn : Fun K "_law_there_right" "_law_there_right" s__law_there_right (He.ga K "_law_there_right") fd) (hm : mg "_law_there_right" = some (.ref (He.ga K "_law_there_right"))) (cdv : Value) (A : Around) (outer : List Env) (s : Shared) (H : Hp) (E : XK) (hr : Room 34 (A.deeper (envOfC "_law_there_right" (defScope s__law_there_right) s.heap.objs.size (He.ga K "_law_there_right") cdv))) (hcd : CodeIs K (He.ga K "_law_there_right") cdv) :
    PMS (cxOf (L2.CX P w) P w K mg base n__law_there_right "_law_there_right" (defScope s__law_there_right) (He.ga K "_law_there_right") cdv A outer s H E) (WnE E (cxOf (L2.CX P w) P w K mg base n__law_there_right "_law_there_right" (defScope s__law_there_right) (He.ga K "_law_there_right") cdv A outer s H E)) ((defBody s__law_there_right).getD 7 (.Pass ⟨0, 0, 0, 0⟩)) g7__law_there_right := by
  have D__law_heard := df__law_heard (P := P) (w := w) (base := base) T B
  have D__law_lists := df__law_lists (P := P) (w := w) (base := base) T B 12
  have D__law_same := df__law_same (P := P) (w := w) (base := base) T B 12
  have D_are_one := df_are_one (P := P) (w := w) (base := base) T B
  have D_letters_there := df_letters_there (P := P) (w := w) (base := base) T B
  have D_order_of := df_order_of (P := P) (w := w) (base := base) T B
  have D_text_with := df_text_with (P := P) (w := w) (base := base) T B
  have D_unlike_named := df_unlike_named (P := P) (w := w) (base := base) T B
  exact (pms_asg (PMD.i (PMF.d (pmf_lst (pml_cons (pi_callK (ks := ["other", "one", "wide"]) [2, 1, 0] D_are_one (hr.mono (by decide)) (by rfl) (takes_of rfl rfl rfl rfl) (pmk_cons (PMI.d (pi_var (pv 9))) (pmk_cons (PMI.d (pi_var (pv 8))) (pmk_cons pm_int pmk_nil))) rfl rfl (fun _ _ _ _ _ _ ws hw => match ws, hw with | [_, _, _], _ => rfl)) (pml_cons (pi_callK (ks := ["other", "one", "wide"]) [2, 1, 0] D_order_of (hr.mono (by decide)) (by rfl) (takes_of rfl rfl rfl rfl) (pmk_cons (PMI.d (pi_var (pv 9))) (pmk_cons (PMI.d (pi_var (pv 8))) (pmk_cons pm_int pmk_nil))) rfl rfl (fun _ _ _ _ _ _ ws hw => match ws, hw with | [_, _, _], _ => rfl)) (pml_cons (pi_callK (ks := ["other", "one", "wide"]) [2, 1, 0] D_unlike_named (hr.mono (by decide)) (by rfl) (takes_of rfl rfl rfl rfl) (pmk_cons (PMI.d (pi_var (pv 9))) (pmk_cons (PMI.d (pi_var (pv 8))) (pmk_cons pm_int pmk_nil))) rfl rfl (fun _ _ _ _ _ _ ws hw => match ws, hw with | [_, _, _], _ => rfl)) (pml_cons (pi_callK (ks := ["naming", "wide"]) [1, 0] D_letters_there (hr.mono (by decide)) (by rfl) (takes_of rfl rfl rfl rfl) (pmk_cons (PMI.d (pi_var (pv 8))) (pmk_cons pm_int pmk_nil)) rfl rfl (fun _ _ _ _ _ _ ws hw => match ws, hw with | [_, _], _ => rfl)) (pml_cons (pi_callK (ks := ["what", "naming", "wide"]) [2, 1, 0] D_text_with (hr.mono (by decide)) (by rfl) (takes_of rfl rfl rfl rfl) (pmk_cons pm_int (pmk_cons (PMI.d (pi_var (pv 8))) (pmk_cons pm_int pmk_nil))) rfl rfl (fun _ _ _ _ _ _ ws hw => match ws, hw with | [_, _, _], _ => rfl)) pml_nil)))))))) (pg_name (i := 5) sc__law_there_right.nd rfl (by first | exact .inl rfl | exact .inr rfl)))
theorem st8__law_there_right (T : Tx K mg) (B : Bx P w K mg base) (fd : FuncData) (Fn : Fun K "_law_there_right" "_law_there_right" s__law_there_right (He.ga K "_law_there_right") fd) (hm : mg "_law_there_right" = some (.ref (He.ga K "_law_there_right"))) (cdv : Value) (A : Around) (outer : List Env) (s : Shared) (H : Hp) (E : XK) (hr : Room 34 (A.deeper (envOfC "_law_there_right" (defScope s__law_there_right) s.heap.objs.size (He.ga K "_law_there_right") cdv))) (hcd : CodeIs K (He.ga K "_law_there_right") cdv) :
    PMS (cxOf (L2.CX P w) P w K mg base n__law_there_right "_law_there_right" (defScope s__law_there_right) (He.ga K "_law_there_right") cdv A outer s H E) (WnE E (cxOf (L2.CX P w) P w K mg base n__law_there_right "_law_there_right" (defScope s__law_there_right) (He.ga K "_law_there_right") cdv A outer s H E)) ((defBody s__law_there_right).getD 8 (.Pass ⟨0, 0, 0, 0⟩)) g8__law_there_right := by
  have D__law_heard := df__law_heard (P := P) (w := w) (base := base) T B
  have D__law_lists := df__law_lists (P := P) (w := w) (base := base) T B 12
  have D__law_same := df__law_same (P := P) (w := w) (base := base) T B 12
  have D_are_one := df_are_one (P := P) (w := w) (base := base) T B
  have D_letters_there := df_letters_there (P := P) (w := w) (base := base) T B
  have D_order_of := df_order_of (P := P) (w := w) (base := base) T B
  have D_text_with := df_text_with (P := P) (w := w) (base := base) T B
  have D_unlike_named := df_unlike_named (P := P) (w := w) (base := base) T B
  exact (pms_ret (pi_call D__law_same (hr.mono (by decide)) (by rfl) (takes_of rfl rfl rfl rfl) (pml_cons (pi_var (pv 5)) (pml_cons (PMD.i (PMF.d (pmf_lst (pml_cons (PMD.i pm_bl) (pml_cons (PMD.i pm_non) (pml_cons (PMD.i (pm_tup (pma_cons pm_int (pma_cons pm_int pma_nil)))) (pml_cons (PMD.i (pm_tup (pma_cons pm_int (pma_cons pm_str pma_nil)))) (pml_cons (PMD.i (pm_tup (pma_cons pm_int pma_nil))) pml_nil)))))))) pml_nil))))
theorem df__law_there_right (T : Tx K mg) (B : Bx P w K mg base) : Df P w K mg base 35 "_law_there_right" s__law_there_right [] F__law_there_right := by
  obtain ⟨fd, Fn, hm⟩ := T.f__law_there_right
  exact df_mk (N := n__law_there_right) (ps := []) (k := 34) (B := B__law_there_right) Fn hm (Fn.binds fun _ _ _ _ _ _ us hl => match us, hl with | [], _ => rfl) sc__law_there_right (by decide) fun cdv A outer s H E hr hcd =>
    (pmss_cons (st0__law_there_right T B fd Fn hm cdv A outer s H E hr hcd) (pmss_cons (st1__law_there_right T B fd Fn hm cdv A outer s H E hr hcd) (pmss_cons (st2__law_there_right T B fd Fn hm cdv A outer s H E hr hcd) (pmss_cons (st3__law_there_right T B fd Fn hm cdv A outer s H E hr hcd) (pmss_cons (st4__law_there_right T B fd Fn hm cdv A outer s H E hr hcd) (pmss_cons (st5__law_there_right T B fd Fn hm cdv A outer s H E hr hcd) (pmss_cons (st6__law_there_right T B fd Fn hm cdv A outer s H E hr hcd) (pmss_cons (st7__law_there_right T B fd Fn hm cdv A outer s H E hr hcd) (pmss_cons (st8__law_there_right T B fd Fn hm cdv A outer s H E hr hcd) pmss_nil)))))))))
theorem df_law (T : Tx K mg) (B : Bx P w K mg base) : Df P w K mg base 36 "law" s_law ["script"] F_law := by
  obtain ⟨fd, Fn, hm⟩ := T.f_law
  have D__law_pairs_right := df__law_pairs_right (P := P) (w := w) (base := base) T B
  have D__law_there_right := df__law_there_right (P := P) (w := w) (base := base) T B
  exact df_mk (N := n_law) (ps := ["script"]) (k := 35) (B := B_law) Fn hm (Fn.binds fun _ _ _ _ _ _ us hl => match us, hl with | [_], _ => rfl) sc_law (by decide) fun cdv A outer s H E hr hcd =>
    (pmss_cons (pms_ret (PMD.i (pm_and (PMI.d (pi_call0 D__law_pairs_right (hr.mono (by decide)) (by rfl) (takes_of rfl rfl rfl rfl))) (pm_last (PMI.d (pi_call0 D__law_there_right (hr.mono (by decide)) (by rfl) (takes_of rfl rfl rfl rfl)))))))
    pmss_nil)
end
/-! ### the head -/
def fa : List (PySem.W.Frag → Bool) :=
  [fun K => (He.Fa.free "ValueError").ok K,
   fun K => (He.Fa.free "all").ok K,
   fun K => (He.Fa.free "any").ok K,
   fun K => (He.Fa.free "bool").ok K,
   fun K => (He.Fa.free "enumerate").ok K,
   fun K => (He.Fa.free "int").ok K,
   fun K => (He.Fa.free "isinstance").ok K,
   fun K => (He.Fa.free "len").ok K,
   fun K => (He.Fa.free "list").ok K,
   fun K => (He.Fa.free "range").ok K,
   fun K => (He.Fa.free "str").ok K,
   fun K => (He.Fa.free "tuple").ok K,
   fun K => (He.Fa.free "zip").ok K,
   fun K => (He.Fa.int "BEFORE" 0).ok K,
   fun K => (He.Fa.int "HERE" 1).ok K,
   fun K => (He.Fa.int "LATER" 2).ok K,
   fun K => (He.Fa.int "MOST_LETTERS" 3).ok K,
   fun K => (He.Fa.glo "least_text").ok K,
   fun K => (He.Fa.glo "asked_from").ok K,
   fun K => (He.Fa.glo "marks_told").ok K,
   fun K => (He.Fa.glo "rows_behind").ok K,
   fun K => (He.Fa.glo "marks_at_front").ok K,
   fun K => (He.Fa.glo "rows_at_front").ok K,
   fun K => (He.Fa.glo "can_end").ok K,
   fun K => (He.Fa.glo "how_they_lie").ok K,
   fun K => (He.Fa.glo "text_lying").ok K,
   fun K => (He.Fa.glo "are_one").ok K,
   fun K => (He.Fa.glo "order_of").ok K,
   fun K => (He.Fa.glo "_law_same").ok K,
   fun K => (He.Fa.glo "unlike_named").ok K,
   fun K => (He.Fa.glo "text_there").ok K,
   fun K => (He.Fa.glo "text_with").ok K,
   fun K => (He.Fa.glo "_law_heard").ok K,
   fun K => (He.Fa.glo "_law_pairs_right").ok K,
   fun K => (He.Fa.glo "letters_there").ok K,
   fun K => (He.Fa.glo "_law_lists").ok K,
   fun K => (He.Fa.glo "_law_there_right").ok K,
   fun K => (He.Fa.glo "law").ok K,
   PD.clsB "CanNot" "zz" "ValueError" "ValueError.__new__" [.type "ValueError", .type "Exception", .type "BaseException", .type "object"] [("ValueError", true)]]
def dd_least_text : He.DefD := ⟨("least_text", none), "least_text", "least_text", defArgs s_least_text, defBody s_least_text, defScope s_least_text, [], []⟩
def dd_asked_from : He.DefD := ⟨("asked_from", none), "asked_from", "asked_from", defArgs s_asked_from, defBody s_asked_from, defScope s_asked_from, [], []⟩
def dd_marks_told : He.DefD := ⟨("marks_told", none), "marks_told", "marks_told", defArgs s_marks_told, defBody s_marks_told, defScope s_marks_told, [], []⟩
def dd_rows_behind : He.DefD := ⟨("rows_behind", none), "rows_behind", "rows_behind", defArgs s_rows_behind, defBody s_rows_behind, defScope s_rows_behind, [], []⟩
def dd_marks_at_front : He.DefD := ⟨("marks_at_front", none), "marks_at_front", "marks_at_front", defArgs s_marks_at_front, defBody s_marks_at_front, defScope s_marks_at_front, [], []⟩
def dd_rows_at_front : He.DefD := ⟨("rows_at_front", none), "rows_at_front", "rows_at_front", defArgs s_rows_at_front, defBody s_rows_at_front, defScope s_rows_at_front, [], []⟩
def dd_can_end : He.DefD := ⟨("can_end", none), "can_end", "can_end", defArgs s_can_end, defBody s_can_end, defScope s_can_end, [], []⟩
def dd_how_they_lie : He.DefD := ⟨("how_they_lie", none), "how_they_lie", "how_they_lie", defArgs s_how_they_lie, defBody s_how_they_lie, defScope s_how_they_lie, [], []⟩
def dd_text_lying : He.DefD := ⟨("text_lying", none), "text_lying", "text_lying", defArgs s_text_lying, defBody s_text_lying, defScope s_text_lying, [], []⟩
def dd_are_one : He.DefD := ⟨("are_one", none), "are_one", "are_one", defArgs s_are_one, defBody s_are_one, defScope s_are_one, [], []⟩
def dd_order_of : He.DefD := ⟨("order_of", none), "order_of", "order_of", defArgs s_order_of, defBody s_order_of, defScope s_order_of, [], []⟩
def dd__law_same : He.DefD := ⟨("_law_same", none), "_law_same", "_law_same", defArgs s__law_same, defBody s__law_same, defScope s__law_same, [], []⟩
def dd_unlike_named : He.DefD := ⟨("unlike_named", none), "unlike_named", "unlike_named", defArgs s_unlike_named, defBody s_unlike_named, defScope s_unlike_named, [], []⟩
def dd_text_there : He.DefD := ⟨("text_there", none), "text_there", "text_there", defArgs s_text_there, defBody s_text_there, defScope s_text_there, [], []⟩
def dd_text_with : He.DefD := ⟨("text_with", none), "text_with", "text_with", defArgs s_text_with, defBody s_text_with, defScope s_text_with, [], []⟩
def dd__law_heard : He.DefD := ⟨("_law_heard", none), "_law_heard", "_law_heard", defArgs s__law_heard, defBody s__law_heard, defScope s__law_heard, [], []⟩
def dd__law_pairs_right : He.DefD := ⟨("_law_pairs_right", none), "_law_pairs_right", "_law_pairs_right", defArgs s__law_pairs_right, defBody s__law_pairs_right, defScope s__law_pairs_right, [], []⟩
def dd_letters_there : He.DefD := ⟨("letters_there", none), "letters_there", "letters_there", defArgs s_letters_there, defBody s_letters_there, defScope s_letters_there, [], []⟩
def dd__law_lists : He.DefD := ⟨("_law_lists", none), "_law_lists", "_law_lists", defArgs s__law_lists, defBody s__law_lists, defScope s__law_lists, [], []⟩
def dd__law_there_right : He.DefD := ⟨("_law_there_right", none), "_law_there_right", "_law_there_right", defArgs s__law_there_right, defBody s__law_there_right, defScope s__law_there_right, [], []⟩
def dd_law : He.DefD := ⟨("law", none), "law", "law", defArgs s_law, defBody s_law, defScope s_law, [], []⟩
def dd_CanNot : He.DefD := ⟨("CanNot", some "__init__"), "__init__", "CanNot.__init__", defArgs s_CanNot, defBody s_CanNot, defScope s_CanNot, [], []⟩
def fns : List He.DefD := [dd_least_text, dd_asked_from, dd_marks_told, dd_rows_behind, dd_marks_at_front, dd_rows_at_front, dd_can_end, dd_how_they_lie, dd_text_lying, dd_are_one, dd_order_of, dd__law_same, dd_unlike_named, dd_text_there, dd_text_with, dd__law_heard, dd__law_pairs_right, dd_letters_there, dd__law_lists, dd__law_there_right, dd_law, dd_CanNot]
def tf : List Str := ["text_lying", "text_there"]
abbrev R : PySem.W.OpenRow := PySem.W.OpenLaw.row PySem.Challenge.rw_nextsuch_k39_namings_by_hand_and_refused
abbrev hk : PySem.W.Hook := He.hookX 6 [] fns [] (tf.map fun x => (x, none)) (fun K => fa.all fun f => f K)
def ob (s : PySem.W.SharedT) : He.AlX := He.obsX 6 [] fns [] (tf.map fun x => (x, none)) (fun K => fa.all fun f => f K) (HandSHeadRun.getT s)
theorem ob_eq (s : PySem.W.SharedT) : ob s = hk.obs s.abs := He.obsX_eq (HandSHeadRun.getT_eq s)
def loose : List Str := (["CanNot", "least_text", "asked_from", "marks_told", "rows_behind", "marks_at_front", "rows_at_front", "can_end", "how_they_lie", "text_lying", "text_there", "are_one", "order_of", "unlike_named", "letters_there", "text_with", "_law_lists", "_law_same", "_law_heard", "_law_pairs_right"] : List Str) ++ (["_law_there_right", "MOST_LETTERS", "BEFORE", "HERE", "LATER"] : List Str)
theorem run (w : World) : HandSHeadRun.RunEq R (PySem.W.view R.prog [29]) hk ob 4000 loose w := by
  intro os
  kernel_rfl
abbrev Says (w : World) (h : Heap) (K : PySem.W.Frag) : Prop := He.SaysX [] fns [] (tf.map fun x => (x, none)) (fun K => fa.all fun f => f K) w h K
theorem fact {w : World} {h : Heap} {K : PySem.W.Frag} (c : Says w h K) (i : Nat) {f : PySem.W.Frag → Bool} (e : fa[i]? = some f := by rfl) : f K = true := List.all_eq_true.mp c.more f (List.mem_of_getElem? e)
theorem tx {w : World} {K : PySem.W.Frag} {h : Heap} {mg : Str → Option Value} (X : K.In h) (G : h.Ns mainGlobals mg) (c : Says w h K) : Tx K mg where
  b_ValueError := He.free_ok X G (fact c 0 (f := fun K => (He.Fa.free "ValueError").ok K))
  b_all := He.free_ok X G (fact c 1 (f := fun K => (He.Fa.free "all").ok K))
  b_any := He.free_ok X G (fact c 2 (f := fun K => (He.Fa.free "any").ok K))
  b_bool := He.free_ok X G (fact c 3 (f := fun K => (He.Fa.free "bool").ok K))
  b_enumerate := He.free_ok X G (fact c 4 (f := fun K => (He.Fa.free "enumerate").ok K))
  b_int := He.free_ok X G (fact c 5 (f := fun K => (He.Fa.free "int").ok K))
  b_isinstance := He.free_ok X G (fact c 6 (f := fun K => (He.Fa.free "isinstance").ok K))
  b_len := He.free_ok X G (fact c 7 (f := fun K => (He.Fa.free "len").ok K))
  b_list := He.free_ok X G (fact c 8 (f := fun K => (He.Fa.free "list").ok K))
  b_range := He.free_ok X G (fact c 9 (f := fun K => (He.Fa.free "range").ok K))
  b_str := He.free_ok X G (fact c 10 (f := fun K => (He.Fa.free "str").ok K))
  b_tuple := He.free_ok X G (fact c 11 (f := fun K => (He.Fa.free "tuple").ok K))
  b_zip := He.free_ok X G (fact c 12 (f := fun K => (He.Fa.free "zip").ok K))
  n_BEFORE := He.int_ok X G (fact c 13 (f := fun K => (He.Fa.int "BEFORE" 0).ok K))
  n_HERE := He.int_ok X G (fact c 14 (f := fun K => (He.Fa.int "HERE" 1).ok K))
  n_LATER := He.int_ok X G (fact c 15 (f := fun K => (He.Fa.int "LATER" 2).ok K))
  n_MOST_LETTERS := He.int_ok X G (fact c 16 (f := fun K => (He.Fa.int "MOST_LETTERS" 3).ok K))
  f_least_text := let ⟨fd, F⟩ := c.t.d.defs (d := dd_least_text) (List.mem_of_getElem? (l := fns) (i := 0) rfl); ⟨fd, PD.fun_of F, He.glo_ok X G (fact c 17 (f := fun K => (He.Fa.glo "least_text").ok K))⟩
  f_asked_from := let ⟨fd, F⟩ := c.t.d.defs (d := dd_asked_from) (List.mem_of_getElem? (l := fns) (i := 1) rfl); ⟨fd, PD.fun_of F, He.glo_ok X G (fact c 18 (f := fun K => (He.Fa.glo "asked_from").ok K))⟩
  f_marks_told := let ⟨fd, F⟩ := c.t.d.defs (d := dd_marks_told) (List.mem_of_getElem? (l := fns) (i := 2) rfl); ⟨fd, PD.fun_of F, He.glo_ok X G (fact c 19 (f := fun K => (He.Fa.glo "marks_told").ok K))⟩
  f_rows_behind := let ⟨fd, F⟩ := c.t.d.defs (d := dd_rows_behind) (List.mem_of_getElem? (l := fns) (i := 3) rfl); ⟨fd, PD.fun_of F, He.glo_ok X G (fact c 20 (f := fun K => (He.Fa.glo "rows_behind").ok K))⟩
  f_marks_at_front := let ⟨fd, F⟩ := c.t.d.defs (d := dd_marks_at_front) (List.mem_of_getElem? (l := fns) (i := 4) rfl); ⟨fd, PD.fun_of F, He.glo_ok X G (fact c 21 (f := fun K => (He.Fa.glo "marks_at_front").ok K))⟩
  f_rows_at_front := let ⟨fd, F⟩ := c.t.d.defs (d := dd_rows_at_front) (List.mem_of_getElem? (l := fns) (i := 5) rfl); ⟨fd, PD.fun_of F, He.glo_ok X G (fact c 22 (f := fun K => (He.Fa.glo "rows_at_front").ok K))⟩
  f_can_end := let ⟨fd, F⟩ := c.t.d.defs (d := dd_can_end) (List.mem_of_getElem? (l := fns) (i := 6) rfl); ⟨fd, PD.fun_of F, He.glo_ok X G (fact c 23 (f := fun K => (He.Fa.glo "can_end").ok K))⟩
  f_how_they_lie := let ⟨fd, F⟩ := c.t.d.defs (d := dd_how_they_lie) (List.mem_of_getElem? (l := fns) (i := 7) rfl); ⟨fd, PD.fun_of F, He.glo_ok X G (fact c 24 (f := fun K => (He.Fa.glo "how_they_lie").ok K))⟩
  f_text_lying := let ⟨fd, F⟩ := c.t.d.defs (d := dd_text_lying) (List.mem_of_getElem? (l := fns) (i := 8) rfl); ⟨fd, PD.fun_of F, He.glo_ok X G (fact c 25 (f := fun K => (He.Fa.glo "text_lying").ok K))⟩
  f_are_one := let ⟨fd, F⟩ := c.t.d.defs (d := dd_are_one) (List.mem_of_getElem? (l := fns) (i := 9) rfl); ⟨fd, PD.fun_of F, He.glo_ok X G (fact c 26 (f := fun K => (He.Fa.glo "are_one").ok K))⟩
  f_order_of := let ⟨fd, F⟩ := c.t.d.defs (d := dd_order_of) (List.mem_of_getElem? (l := fns) (i := 10) rfl); ⟨fd, PD.fun_of F, He.glo_ok X G (fact c 27 (f := fun K => (He.Fa.glo "order_of").ok K))⟩
  f__law_same := let ⟨fd, F⟩ := c.t.d.defs (d := dd__law_same) (List.mem_of_getElem? (l := fns) (i := 11) rfl); ⟨fd, PD.fun_of F, He.glo_ok X G (fact c 28 (f := fun K => (He.Fa.glo "_law_same").ok K))⟩
  f_unlike_named := let ⟨fd, F⟩ := c.t.d.defs (d := dd_unlike_named) (List.mem_of_getElem? (l := fns) (i := 12) rfl); ⟨fd, PD.fun_of F, He.glo_ok X G (fact c 29 (f := fun K => (He.Fa.glo "unlike_named").ok K))⟩
  f_text_there := let ⟨fd, F⟩ := c.t.d.defs (d := dd_text_there) (List.mem_of_getElem? (l := fns) (i := 13) rfl); ⟨fd, PD.fun_of F, He.glo_ok X G (fact c 30 (f := fun K => (He.Fa.glo "text_there").ok K))⟩
  f_text_with := let ⟨fd, F⟩ := c.t.d.defs (d := dd_text_with) (List.mem_of_getElem? (l := fns) (i := 14) rfl); ⟨fd, PD.fun_of F, He.glo_ok X G (fact c 31 (f := fun K => (He.Fa.glo "text_with").ok K))⟩
  f__law_heard := let ⟨fd, F⟩ := c.t.d.defs (d := dd__law_heard) (List.mem_of_getElem? (l := fns) (i := 15) rfl); ⟨fd, PD.fun_of F, He.glo_ok X G (fact c 32 (f := fun K => (He.Fa.glo "_law_heard").ok K))⟩
  f__law_pairs_right := let ⟨fd, F⟩ := c.t.d.defs (d := dd__law_pairs_right) (List.mem_of_getElem? (l := fns) (i := 16) rfl); ⟨fd, PD.fun_of F, He.glo_ok X G (fact c 33 (f := fun K => (He.Fa.glo "_law_pairs_right").ok K))⟩
  f_letters_there := let ⟨fd, F⟩ := c.t.d.defs (d := dd_letters_there) (List.mem_of_getElem? (l := fns) (i := 17) rfl); ⟨fd, PD.fun_of F, He.glo_ok X G (fact c 34 (f := fun K => (He.Fa.glo "letters_there").ok K))⟩
  f__law_lists := let ⟨fd, F⟩ := c.t.d.defs (d := dd__law_lists) (List.mem_of_getElem? (l := fns) (i := 18) rfl); ⟨fd, PD.fun_of F, He.glo_ok X G (fact c 35 (f := fun K => (He.Fa.glo "_law_lists").ok K))⟩
  f__law_there_right := let ⟨fd, F⟩ := c.t.d.defs (d := dd__law_there_right) (List.mem_of_getElem? (l := fns) (i := 19) rfl); ⟨fd, PD.fun_of F, He.glo_ok X G (fact c 36 (f := fun K => (He.Fa.glo "_law_there_right").ok K))⟩
  f_law := let ⟨fd, F⟩ := c.t.d.defs (d := dd_law) (List.mem_of_getElem? (l := fns) (i := 20) rfl); ⟨fd, PD.fun_of F, He.glo_ok X G (fact c 37 (f := fun K => (He.Fa.glo "law").ok K))⟩
  k_CanNot := PD.clsB_ok (fact c 38)
  g_CanNot := He.glo_ok X G (PD.clsB_ok (fact c 38)).glo
  i_CanNot := let ⟨fd, F⟩ := c.t.d.defs (d := dd_CanNot) (List.mem_of_getElem? (l := fns) (i := 21) rfl); ⟨fd, PD.fun_of F⟩
theorem tabs_eq : tabN PySem.Challenge.pw_nextsuch_k39_namings_by_hand_and_refused = tf := by decide +kernel
theorem bx {w : World} {K : PySem.W.Frag} {mg : Str → Option Value} {base : Heap} (T : Tx K mg) (ok : BOk K mg (csT K tf) base) : Bx PySem.Challenge.pw_nextsuch_k39_namings_by_hand_and_refused w K mg base where
  tn_text_lying := by rw [tabs_eq]; decide
  tb_text_lying := by
    obtain ⟨fd, Fn, hm⟩ := T.f_text_lying
    exact tb_at Fn hm ok (by decide)
  nm_text_lying__go_on := by decide +kernel
  nm_text_lying__is_end := by decide +kernel
  tn_text_there := by rw [tabs_eq]; decide
  tb_text_there := by
    obtain ⟨fd, Fn, hm⟩ := T.f_text_there
    exact tb_at Fn hm ok (by decide)
  nm_text_there__go_on := by decide +kernel
  nm_text_there__is_end := by decide +kernel
theorem ev : isT (F_law [.un] []) = true := by decide +kernel
end K39
open PySem PySem.W PySem.Calls PyProof.Rows
set_option maxHeartbeats 0 in
theorem PySem.Challenge.cw_nextsuch_k39_namings_by_hand_and_refused_holds : PySem.Challenge.rw_nextsuch_k39_namings_by_hand_and_refused.Holds := by
  w_on; o_law
  refine HandSHeadRun.head_any (r := OpenLaw.row PySem.Challenge.rw_nextsuch_k39_namings_by_hand_and_refused) (q := view (OpenLaw.row PySem.Challenge.rw_nextsuch_k39_namings_by_hand_and_refused).prog [29]) (H := K39.hk) (ob := K39.ob) (M := 4000) (loose := K39.loose) (d := HandSHeadRun.topDef (OpenLaw.row PySem.Challenge.rw_nextsuch_k39_namings_by_hand_and_refused).prog 29) (kwd := []) K39.ob_eq
    (by kernel_rfl) (fun s => by kernel_rfl) K39.run (by kernel_rfl) (by kernel_rfl) (by kernel_rfl) (by rfl) (by first | assumption | decide +kernel) (by decide +kernel) ⟨rfl, rfl, rfl, rfl, rfl, by decide +kernel⟩ ?hw ?hc
  case hw => w_witness2
  case hc =>
    refine LamX.walk_ofTsE (l := PySem.Challenge.rw_nextsuch_k39_namings_by_hand_and_refused) (n := 63) (k := 36) (x := "script") (CX := fun _ => L2.CX0) rfl (by decide) (by kernel_rfl) ⟨rfl, by decide, by decide⟩ ?F (fun _ _ _ _ _ z => z)
    intro w mg fa h Y G hmg0
    obtain ⟨K, KX, c⟩ := Y
    have hmg : mg ("law" : PySem.Str) = some (.ref fa) := by
      have e : (HandSHeadRun.topDef (OpenLaw.row PySem.Challenge.rw_nextsuch_k39_namings_by_hand_and_refused).prog 29).name = ("law" : PySem.Str) := by kernel_rfl
      rw [← e]
      exact hmg0
    have T := K39.tx KX G c
    obtain ⟨fd, F, hm2⟩ := T.f_law
    have ef := Option.some.inj (hmg.symm.trans hm2)
    cases ef
    have F0 := F
    obtain ⟨oc, od, kV, doc, pm, an, cdv, ct, osl, hfd, lk, hcd⟩ := F0.ex
    have hbd : ∀ (s : PySem.Shared) (u : PySem.Value), PySem.BindsTo s fd ⟨[u], []⟩ [(("script" : PySem.Str), u)] := fun s u => by cases hfd; exact .of_eq rfl
    have mem : ∀ p ∈ PM.csT K K39.tf, ∃ x ∈ K39.tf, p = He.cT K (x, none) := fun p hp => let ⟨x, hx, e⟩ := List.mem_map.mp hp; ⟨x, hx, e.symm⟩
    have mx : ∀ x ∈ K39.tf, (x, none) ∈ K39.tf.map fun x => ((x, none) : He.Defn) := fun x hx => List.mem_map.mpr ⟨x, hx, rfl⟩
    refine ⟨K, KX, fd, PM.csT K K39.tf, PM.spLaw PySem.Challenge.pw_nextsuch_k39_namings_by_hand_and_refused w K mg (PM.csT K K39.tf) K39.F_law, fun p hp => ?_, fun p hp => ?_, fun p hp => ?_, hbd, fun H a ns hl _ hT hS => ?_, fun base hK hG hB => ?_⟩
    · obtain ⟨x, hx, rfl⟩ := mem p hp
      exact c.empty _ (mx x hx)
    · obtain ⟨x, hx, rfl⟩ := mem p hp
      exact c.out _ (mx x hx)
    · obtain ⟨x, hx, rfl⟩ := mem p hp
      exact PySem.W.codeHd_of_K KX (c.hd _ (mx x hx))
    · refine PM.law_blind (F := K39.F_law) K39.ev (fun x hx => ?_) H a hT
      rw [K39.tabs_eq] at hx
      refine ⟨hx, ?_⟩
      simp only [K39.tf, List.mem_cons, List.mem_nil_iff, or_false] at hx
      rcases hx with rfl | rfl
      · obtain ⟨fd, Fn, hm⟩ := T.f_text_lying; exact hm
      · obtain ⟨fd, Fn, hm⟩ := T.f_text_there; exact hm
    · have ok : PM.BOk K mg (PM.csT K K39.tf) base := ⟨hK, hG, hB⟩
      exact PM.law_fn (F := K39.F_law) (K39.df_law T (K39.bx T ok)) F hm2 ok

