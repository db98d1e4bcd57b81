import PyProof.Rows.All
import HandS.ForMost
import HandS.ForExc
import HandS.IsInst
import HandS.Gcd
import HandS.TupAny
import HandS.Wide
import HandS.WideBits
import HandS.Deep
import HandS.Conv
import HandS.ExcInit
import HandS.ExcField
import HandS.ExcIs
import HandS.Iter
import HandS.Zip0
import HandS.SetFor
import HandS.Ends
import HandS.HeadHook2
import HandS.Head2
import HandS.Head3
import HandS.HeadEnd
import KE.KStateDown
import Wide.All
import OpenK.AllK
import Wide.FinOn
import PySem.Challenge.RW_someoneout_k00_kinds_and_checker
set_option Elab.async false
set_option linter.all false
set_option maxRecDepth 100000
set_option maxHeartbeats 2000000
/-! Lift: a layer of our own over HandS: pure functions on data, and the rules that tie a def's text to them. -/
namespace LF
open PySem PySem.Spec PyProof.Rows L2

/-- what a name holds: data, or a list that may change (its place in the store) -/
inductive A where
  | d (x : PyData)
  | box (i : Nat)
  | scr (ds : List PyData)
abbrev Env := List (Option A)
abbrev Sto := List (List PyData)
/-- an expression's outcome -/
inductive R (α : Type) where
  | ok (a : α) (st : Sto)
  | exc (c : Str) (fs : List (Str × PyData)) (st : Sto)
  | bad
/-- a statement's outcome -/
inductive O where
  | nx (env : Env) (st : Sto)
  | rt (a : A) (st : Sto)
  | bk (env : Env) (st : Sto)
  | ct (env : Env) (st : Sto)
  | exc (c : Str) (fs : List (Str × PyData)) (st : Sto)
  | bad
abbrev GE := Env → Sto → R A
abbrev GA := Env → Sto → R (List A)
abbrev GT := Env → Sto → R Bool
abbrev GS := Env → Sto → O
def R.bind {α β : Type} (r : R α) (f : α → Sto → R β) : R β :=
  match r with
  | .ok a st => f a st
  | .exc c fs st => .exc c fs st
  | .bad => .bad
def R.bindO {α : Type} (r : R α) (f : α → Sto → O) : O :=
  match r with
  | .ok a st => f a st
  | .exc c fs st => .exc c fs st
  | .bad => .bad
@[simp] theorem R.bind_ok {α β : Type} {a : α} {st : Sto} {f : α → Sto → R β} : (R.ok a st).bind f = f a st := rfl
@[simp] theorem R.bind_exc {α β : Type} {c fs st} {f : α → Sto → R β} : (R.exc c fs st : R α).bind f = .exc c fs st := rfl
@[simp] theorem R.bind_bad {α β : Type} {f : α → Sto → R β} : (R.bad : R α).bind f = .bad := rfl
@[simp] theorem R.bindO_ok {α : Type} {a : α} {st : Sto} {f : α → Sto → O} : (R.ok a st).bindO f = f a st := rfl
@[simp] theorem R.bindO_exc {α : Type} {c fs st} {f : α → Sto → O} : (R.exc c fs st : R α).bindO f = .exc c fs st := rfl
@[simp] theorem R.bindO_bad {α : Type} {f : α → Sto → O} : (R.bad : R α).bindO f = .bad := rfl

/-! ### what is represented -/
mutual
inductive Rp (K : PySem.W.Frag) (L : List Addr) (H : Hp) : V → PyData → Prop
  | non : Rp K L H .non .none
  | bl (b : Bool) : Rp K L H (.bl b) (.bool b)
  | int (i : Int) : Rp K L H (.int i) (.int i)
  | str (x : Str) : Rp K L H (.str x) (.str x)
  | lst {a : Addr} {xs : List V} {ds : List PyData} : a ∉ L → H a = some (.lst xs) → RpAll K L H xs ds → Rp K L H (.ref a) (.list ds)
  | tup {a : Addr} {xs : List V} {ds : List PyData} : SqT K H a xs → RpAll K L H xs ds → Rp K L H (.ref a) (.tuple ds)
inductive RpAll (K : PySem.W.Frag) (L : List Addr) (H : Hp) : List V → List PyData → Prop
  | nil : RpAll K L H [] []
  | cons {v : V} {vs : List V} {d : PyData} {ds : List PyData} : Rp K L H v d → RpAll K L H vs ds → RpAll K L H (v :: vs) (d :: ds)
end
/-- a list that nobody changes: the script -/
def Frz (K : PySem.W.Frag) (H : Hp) (a : Addr) (xs : List V) : Prop := (∃ o, H a = some (.frz o (.lst xs))) ∨ SqL K (fun _ => none) a xs
theorem Frz.sql {K : PySem.W.Frag} {H : Hp} {a : Addr} {xs : List V} (h : Frz K H a xs) : SqL K H a xs := by
  rcases h with ⟨o, e⟩ | (e | ⟨o, e⟩) | e
  · exact .inl (.inr ⟨o, e⟩)
  · cases e
  · cases e
  · exact .inr e
theorem Frz.of {K : PySem.W.Frag} {H : Hp} {a : Addr} {xs : List V} (h : SqL K H a xs) (hn : H a = none ∨ ∃ o, H a = some (.frz o (.lst xs))) : Frz K H a xs := by
  rcases hn with hn | ⟨o, e⟩
  · rcases h with (e | ⟨o, e⟩) | e
    · rw [hn] at e; cases e
    · rw [hn] at e; cases e
    · exact .inr (.inr e)
  · exact .inl ⟨o, e⟩
theorem Frz.keep {K : PySem.W.Frag} {H H' : Hp} {a : Addr} {xs : List V} (h : Frz K H a xs) (k : ∀ o, H a = some (.frz o (.lst xs)) → H' a = some (.frz o (.lst xs))) : Frz K H' a xs := by
  rcases h with ⟨o, e⟩ | e
  · exact .inl ⟨o, k o e⟩
  · exact .inr e
inductive RpA (K : PySem.W.Frag) (L ρ : List Addr) (H : Hp) : V → A → Prop
  | d {v : V} {x : PyData} : Rp K L H v x → RpA K L ρ H v (.d x)
  | box {a : Addr} {i : Nat} : ρ[i]? = some a → RpA K L ρ H (.ref a) (.box i)
  | scr {a : Addr} {xs : List V} {ds : List PyData} : Frz K H a xs → RpAll K L H xs ds → RpA K L ρ H (.ref a) (.scr ds)
inductive RpAs (K : PySem.W.Frag) (L ρ : List Addr) (H : Hp) : List V → List A → Prop
  | nil : RpAs K L ρ H [] []
  | cons {v : V} {vs : List V} {a : A} {as : List A} : RpA K L ρ H v a → RpAs K L ρ H vs as → RpAs K L ρ H (v :: vs) (a :: as)
structure StOk (K : PySem.W.Frag) (L ρ : List Addr) (H : Hp) (st : Sto) : Prop where
  len : st.length = ρ.length
  nd : ρ.Nodup
  rl : ∀ a ∈ ρ, a ∈ L
  there : ∀ a ∈ L, H a ≠ none
  cell : ∀ (i : Nat) (a : Addr) (ds : List PyData), ρ[i]? = some a → st[i]? = some ds → ∃ xs, H a = some (.lst xs) ∧ RpAll K L H xs ds
structure Stp (L ρ : List Addr) (H : Hp) (L' ρ' : List Addr) (H' : Hp) : Prop where
  keep : ∀ a o, a ∉ ρ → H a = some o → H' a = some o
  lk : ∀ a ∈ L', a ∈ L ∨ H a = none
  ll : ∀ a ∈ L, a ∈ L'
  rr : ∃ suf, ρ' = ρ ++ suf ∧ ∀ a ∈ suf, H a = none
structure RpE (K : PySem.W.Frag) (L ρ : List Addr) (H : Hp) (env : Env) (σ : L2.St) : Prop where
  len : env.length = σ.length
  at_ : ∀ (i : Nat) (a : A), env[i]? = some (some a) → ∃ v, σ[i]? = some (some v) ∧ RpA K L ρ H v a

section
variable {K : PySem.W.Frag} {L ρ L' ρ' Lb ρ2 : List Addr} {H H' H2 : Hp} {st st' : Sto}
theorem StOk.isLst (S : StOk K L ρ H st) {a : Addr} (h : a ∈ ρ) : ∃ xs, H a = some (.lst xs) := by
  obtain ⟨i, hi, e⟩ := List.getElem_of_mem h
  have e1 : ρ[i]? = some a := by rw [List.getElem?_eq_getElem hi, e]
  have hi2 : i < st.length := by rw [S.len]; exact hi
  obtain ⟨xs, q, _⟩ := S.cell i a st[i] e1 (List.getElem?_eq_getElem hi2)
  exact ⟨xs, q⟩
theorem Stp.refl : Stp L ρ H L ρ H := ⟨fun _ _ _ e => e, fun _ h => .inl h, fun _ h => h, [], by simp, by simp⟩
theorem Stp.back (S : StOk K L ρ H st) (s : Stp L ρ H L' ρ' H') (S' : StOk K L' ρ' H' st') {a : Addr} (e : H' a = none) : H a = none := by
  cases q : H a with
  | none => rfl
  | some o =>
    by_cases h : a ∈ ρ
    · obtain ⟨suf, er, _⟩ := s.rr
      obtain ⟨xs, z⟩ := S'.isLst (a := a) (by rw [er]; exact List.mem_append_left _ h)
      rw [e] at z; cases z
    · rw [s.keep a o h q] at e; cases e
theorem Stp.trans (S : StOk K L ρ H st) (s : Stp L ρ H L' ρ' H') (S' : StOk K L' ρ' H' st') (t : Stp L' ρ' H' Lb ρ2 H2) : Stp L ρ H Lb ρ2 H2 := by
  obtain ⟨suf, er, hs⟩ := s.rr
  obtain ⟨suf2, er2, hs2⟩ := t.rr
  refine ⟨fun a o h e => ?_, fun a h => ?_, fun a h => t.ll a (s.ll a h), suf ++ suf2, by rw [er2, er, List.append_assoc], fun a h => ?_⟩
  · refine t.keep a o (fun z => ?_) (s.keep a o h e)
    rw [er] at z
    rcases List.mem_append.mp z with z | z
    · exact h z
    · rw [hs a z] at e; cases e
  · rcases t.lk a h with z | z
    · exact s.lk a z
    · exact .inr (s.back S S' z)
  · rcases List.mem_append.mp h with z | z
    · exact hs a z
    · exact s.back S S' (hs2 a z)
theorem Rd_some {a : Addr} {u : HO} (r : Rd H a u) : H a ≠ none := by
  rcases r with r | ⟨o, r⟩ <;> (rw [r]; simp)
mutual
theorem Rp.step (S : StOk K L ρ H st) (s : Stp L ρ H L' ρ' H') : ∀ {v : V} {d : PyData}, Rp K L H v d → Rp K L' H' v d
  | _, _, .non => .non
  | _, _, .bl b => .bl b
  | _, _, .int i => .int i
  | _, _, .str x => .str x
  | _, _, .lst (a := a) hL hR hA => by
    have hr : a ∉ ρ := fun z => hL (S.rl a z)
    refine .lst (fun z => ?_) ?_ (RpAll.step S s hA)
    · rcases s.lk a z with q | q
      · exact hL q
      · rw [hR] at q; cases q
    · exact s.keep a _ hr hR
  | _, _, .tup (a := a) (xs := xs) hT hA => by
    refine .tup (xs := xs) ?_ (RpAll.step S s hA)
    rcases hT with (e | ⟨o, e⟩) | k
    · exact .inl (.inl (s.keep a _ (fun z => by obtain ⟨ys, q⟩ := S.isLst z; rw [e] at q; cases q) e))
    · exact .inl (.inr ⟨o, s.keep a _ (fun z => by obtain ⟨ys, q⟩ := S.isLst z; rw [e] at q; cases q) e⟩)
    · exact .inr k
theorem RpAll.step (S : StOk K L ρ H st) (s : Stp L ρ H L' ρ' H') : ∀ {vs : List V} {ds : List PyData}, RpAll K L H vs ds → RpAll K L' H' vs ds
  | _, _, .nil => .nil
  | _, _, .cons h t => .cons (Rp.step S s h) (RpAll.step S s t)
end
theorem RpA.step (S : StOk K L ρ H st) (s : Stp L ρ H L' ρ' H') {v : V} {a : A} (h : RpA K L ρ H v a) : RpA K L' ρ' H' v a := by
  cases h with
  | d h => exact .d (h.step S s)
  | box e =>
    obtain ⟨suf, er, _⟩ := s.rr
    refine .box ?_
    rw [er, List.getElem?_append_left (List.getElem?_eq_some_iff.mp e).1]
    exact e
  | scr e hA => exact .scr (e.keep fun o e => s.keep _ _ (fun z => by obtain ⟨ys, q⟩ := S.isLst z; rw [e] at q; cases q) e) (hA.step S s)
theorem RpAs.step (S : StOk K L ρ H st) (s : Stp L ρ H L' ρ' H') : ∀ {vs : List V} {as : List A}, RpAs K L ρ H vs as → RpAs K L' ρ' H' vs as
  | _, _, .nil => .nil
  | _, _, .cons h t => .cons (h.step S s) (RpAs.step S s t)
theorem RpE.step (S : StOk K L ρ H st) (s : Stp L ρ H L' ρ' H') {env : Env} {σ : L2.St} (h : RpE K L ρ H env σ) : RpE K L' ρ' H' env σ :=
  ⟨h.len, fun i a e => let ⟨v, e1, r⟩ := h.at_ i a e; ⟨v, e1, r.step S s⟩⟩
theorem RpE.set {env : Env} {σ : L2.St} (h : RpE K L ρ H env σ) {i : Nat} {v : V} {a : A} (r : RpA K L ρ H v a) : RpE K L ρ H (env.set i (some a)) (σ.set i (some v)) := by
  refine ⟨by simp [h.len], fun j b e => ?_⟩
  by_cases hj : i = j
  · subst hj
    by_cases hi : i < env.length
    · rw [List.getElem?_set_self hi] at e
      cases e
      exact ⟨v, by rw [List.getElem?_set_self (by rw [← h.len]; exact hi)], r⟩
    · rw [List.getElem?_eq_none (by simpa using hi)] at e; cases e
  · rw [List.getElem?_set_ne hj] at e
    obtain ⟨w, e1, q⟩ := h.at_ j b e
    exact ⟨w, by rw [List.getElem?_set_ne hj]; exact e1, q⟩
/-- a new object that nothing locked knows -/
theorem Stp.new {p : Addr} {o : HO} (hp : H p = none) : Stp L ρ H L ρ (upd H p o) :=
  ⟨fun a u _ e => by rw [upd_ne (ne_of_none e hp)]; exact e, fun _ h => .inl h, fun _ h => h, [], by simp, by simp⟩
theorem StOk.step0 (S : StOk K L ρ H st) (s : Stp L ρ H L ρ H') (k : ∀ a ∈ L, ∀ o, H a = some o → H' a = some o) : StOk K L ρ H' st :=
  ⟨S.len, S.nd, S.rl, fun a h e => (by
    cases q : H a with
    | none => exact S.there a h q
    | some o => rw [k a h o q] at e; cases e), fun i a ds e1 e2 => by
    obtain ⟨xs, q, r⟩ := S.cell i a ds e1 e2
    exact ⟨xs, k a (S.rl a (List.mem_of_getElem? e1)) _ q, r.step S s⟩⟩
theorem StOk.new (S : StOk K L ρ H st) {p : Addr} {o : HO} (hp : H p = none) : StOk K L ρ (upd H p o) st :=
  S.step0 (Stp.new hp) fun a _ u e => by rw [upd_ne (ne_of_none e hp)]; exact e
theorem StOk.fresh (S : StOk K L ρ H st) {p : Addr} (hp : H p = none) : p ∉ L := fun z => S.there p z hp
theorem RpAll.length : ∀ {vs : List V} {ds : List PyData}, RpAll K L H vs ds → vs.length = ds.length
  | _, _, .nil => rfl
  | _, _, .cons _ t => congrArg (· + 1) (RpAll.length t)
theorem RpAs.length : ∀ {vs : List V} {as : List A}, RpAs K L ρ H vs as → vs.length = as.length
  | _, _, .nil => rfl
  | _, _, .cons _ t => congrArg (· + 1) (RpAs.length t)
theorem RpAll.get : ∀ {vs : List V} {ds : List PyData} {i : Nat} {d : PyData}, RpAll K L H vs ds → ds[i]? = some d → ∃ v, vs[i]? = some v ∧ Rp K L H v d
  | _, _, _, _, .nil, e => by simp at e
  | _, _, 0, _, .cons h _, e => by simp at e; subst e; exact ⟨_, rfl, h⟩
  | _, _, i + 1, d, .cons _ t, e => by
    obtain ⟨v, h1, h2⟩ := RpAll.get (i := i) (d := d) t (by simpa using e)
    exact ⟨v, by simpa using h1, h2⟩
theorem RpAll.getV : ∀ {vs : List V} {ds : List PyData} {i : Nat} {v : V}, RpAll K L H vs ds → vs[i]? = some v → ∃ d, ds[i]? = some d ∧ Rp K L H v d
  | _, _, _, _, .nil, e => by simp at e
  | _, _, 0, _, .cons h _, e => by simp at e; subst e; exact ⟨_, rfl, h⟩
  | _, _, i + 1, d, .cons _ t, e => by
    obtain ⟨v, h1, h2⟩ := RpAll.getV (i := i) (v := d) t (by simpa using e)
    exact ⟨v, by simpa using h1, h2⟩
theorem RpAll.append : ∀ {vs ws : List V} {ds es : List PyData}, RpAll K L H vs ds → RpAll K L H ws es → RpAll K L H (vs ++ ws) (ds ++ es)
  | _, _, _, _, .nil, s => s
  | _, _, _, _, .cons h t, s => .cons h (RpAll.append t s)
theorem RpAll.take : ∀ {vs : List V} {ds : List PyData} (n : Nat), RpAll K L H vs ds → RpAll K L H (vs.take n) (ds.take n)
  | _, _, 0, _ => .nil
  | _, _, _ + 1, .nil => .nil
  | _, _, n + 1, .cons h t => .cons h (RpAll.take n t)
theorem RpAll.drop : ∀ {vs : List V} {ds : List PyData} (n : Nat), RpAll K L H vs ds → RpAll K L H (vs.drop n) (ds.drop n)
  | _, _, 0, r => r
  | _, _, _ + 1, .nil => .nil
  | _, _, n + 1, .cons _ t => RpAll.drop n t
mutual
theorem Rp.dp : ∀ {v : V} {d : PyData}, Rp K L H v d → Dp K H v d
  | _, _, .non => .non
  | _, _, .bl b => .bl b
  | _, _, .int i => .int i
  | _, _, .str x => .str x
  | _, _, .lst _ hR hA => .lst (SqL.of hR) (RpAll.dp hA)
  | _, _, .tup hT hA => .tup hT (RpAll.dp hA)
theorem RpAll.dp : ∀ {vs : List V} {ds : List PyData}, RpAll K L H vs ds → DpAll K H vs ds
  | _, _, .nil => .nil
  | _, _, .cons h t => .cons (Rp.dp h) (RpAll.dp t)
end
end

/-! ### lifting -/
structure XdOk (K : PySem.W.Frag) (L : List Addr) (H : Hp) (d : Addr) (fs : List (Str × PyData)) : Prop where
  ex : ∃ vs : List (Str × V), H d = some (.xd vs) ∧ vs.map (·.1) = fs.map (·.1) ∧ RpAll K L H (vs.map (·.2)) (fs.map (·.2))
section
variable (K : PySem.W.Frag) (mg : Str → Option Value) (E : XK)
def OutX (L ρ : List Addr) (H : Hp) (c : Str) (fs : List (Str × PyData)) (st : Sto) : Prop :=
  ∀ C L' ρ' H' d, mg c = some (.ref C) → Stp L ρ H L' ρ' H' → StOk K L' ρ' H' st → XdOk K L' H' d fs → E (.ref C) (some d) H'
def Out (L ρ : List Addr) (H : Hp) (r : R A) (Q : VK) : Prop :=
  match r with
  | .ok a st => ∀ L' ρ' H' v, Stp L ρ H L' ρ' H' → StOk K L' ρ' H' st → RpA K L' ρ' H' v a → Q v H'
  | .exc c fs st => OutX K mg E L ρ H c fs st
  | .bad => False
def OutL (L ρ : List Addr) (H : Hp) (r : R (List A)) (Q : List V → Hp → Prop) : Prop :=
  match r with
  | .ok a st => ∀ L' ρ' H' v, Stp L ρ H L' ρ' H' → StOk K L' ρ' H' st → RpAs K L' ρ' H' v a → Q v H'
  | .exc c fs st => OutX K mg E L ρ H c fs st
  | .bad => False
def OutB (L ρ : List Addr) (H : Hp) (r : R Bool) (Q : Bool → Hp → Prop) : Prop :=
  match r with
  | .ok b st => ∀ L' ρ' H', Stp L ρ H L' ρ' H' → StOk K L' ρ' H' st → Q b H'
  | .exc c fs st => OutX K mg E L ρ H c fs st
  | .bad => False
def OutS (L ρ : List Addr) (H : Hp) (r : O) (D : Ends) : Prop :=
  match r with
  | .nx env st => ∀ L' ρ' H' σ', Stp L ρ H L' ρ' H' → StOk K L' ρ' H' st → RpE K L' ρ' H' env σ' → D.nx σ' H'
  | .rt a st => ∀ L' ρ' H' v, Stp L ρ H L' ρ' H' → StOk K L' ρ' H' st → RpA K L' ρ' H' v a → D.rt v H'
  | .bk env st => ∀ L' ρ' H' σ', Stp L ρ H L' ρ' H' → StOk K L' ρ' H' st → RpE K L' ρ' H' env σ' → D.bk σ' H'
  | .ct env st => ∀ L' ρ' H' σ', Stp L ρ H L' ρ' H' → StOk K L' ρ' H' st → RpE K L' ρ' H' env σ' → D.ct σ' H'
  | .exc c fs st => OutX K mg E L ρ H c fs st
  | .bad => False
def lift (E : L2.St → XK) (g : GE) : TE := fun σ H Q => ∃ L ρ st env, StOk K L ρ H st ∧ RpE K L ρ H env σ ∧ Out K mg (E σ) L ρ H (g env st) Q
def liftA (E : L2.St → XK) (g : GA) : TA := fun σ H Q => ∃ L ρ st env, StOk K L ρ H st ∧ RpE K L ρ H env σ ∧ OutL K mg (E σ) L ρ H (g env st) Q
def liftT (E : L2.St → XK) (g : GT) : TT := fun σ H Q => ∃ L ρ st env, StOk K L ρ H st ∧ RpE K L ρ H env σ ∧ OutB K mg (E σ) L ρ H (g env st) Q
def liftS (g : GS) : TS := fun D σ H => ∃ L ρ st env, StOk K L ρ H st ∧ RpE K L ρ H env σ ∧ OutS K mg E L ρ H (g env st) D
/-- a def's promise, by its pure function -/
def spL (n : Nat) (f : List A → Sto → R A) : Sp := fun vs H Q E => ∃ L ρ st as, StOk K L ρ H st ∧ RpAs K L ρ H vs as ∧ as.length = n ∧ Out K mg E L ρ H (f as st) Q
end
section
variable {K : PySem.W.Frag} {mg : Str → Option Value} {E : XK} {L ρ L' ρ' : List Addr} {H H' : Hp} {st st' : Sto}
theorem OutX.step {c fs st'' } (S : StOk K L ρ H st) (s : Stp L ρ H L' ρ' H') (S' : StOk K L' ρ' H' st') (h : OutX K mg E L ρ H c fs st'') : OutX K mg E L' ρ' H' c fs st'' :=
  fun C Lb ρ2 H2 d hc t T x => h C Lb ρ2 H2 d hc (s.trans S S' t) T x
theorem Out.step {r : R A} {Q : VK} (S : StOk K L ρ H st) (s : Stp L ρ H L' ρ' H') (S' : StOk K L' ρ' H' st') (h : Out K mg E L ρ H r Q) : Out K mg E L' ρ' H' r Q := by
  cases r with
  | ok a st => exact fun Lb ρ2 H2 v t T x => h Lb ρ2 H2 v (s.trans S S' t) T x
  | exc c fs st => exact OutX.step S s S' h
  | bad => exact h
theorem OutL.step {r : R (List A)} {Q} (S : StOk K L ρ H st) (s : Stp L ρ H L' ρ' H') (S' : StOk K L' ρ' H' st') (h : OutL K mg E L ρ H r Q) : OutL K mg E L' ρ' H' r Q := by
  cases r with
  | ok a st => exact fun Lb ρ2 H2 v t T x => h Lb ρ2 H2 v (s.trans S S' t) T x
  | exc c fs st => exact OutX.step S s S' h
  | bad => exact h
theorem OutB.step {r : R Bool} {Q} (S : StOk K L ρ H st) (s : Stp L ρ H L' ρ' H') (S' : StOk K L' ρ' H' st') (h : OutB K mg E L ρ H r Q) : OutB K mg E L' ρ' H' r Q := by
  cases r with
  | ok a st => exact fun Lb ρ2 H2 t T => h Lb ρ2 H2 (s.trans S S' t) T
  | exc c fs st => exact OutX.step S s S' h
  | bad => exact h
theorem OutS.step {r : O} {D} (S : StOk K L ρ H st) (s : Stp L ρ H L' ρ' H') (S' : StOk K L' ρ' H' st') (h : OutS K mg E L ρ H r D) : OutS K mg E L' ρ' H' r D := by
  cases r with
  | nx a st => exact fun Lb ρ2 H2 v t T x => h Lb ρ2 H2 v (s.trans S S' t) T x
  | rt a st => exact fun Lb ρ2 H2 v t T x => h Lb ρ2 H2 v (s.trans S S' t) T x
  | bk a st => exact fun Lb ρ2 H2 v t T x => h Lb ρ2 H2 v (s.trans S S' t) T x
  | ct a st => exact fun Lb ρ2 H2 v t T x => h Lb ρ2 H2 v (s.trans S S' t) T x
  | exc c fs st => exact OutX.step S s S' h
  | bad => exact h
/-- one thing after another -/
theorem Out.bind {r : R A} {f : A → Sto → R A} {Q Q' : VK} (S : StOk K L ρ H st) (h : Out K mg E L ρ H (r.bind f) Q)
    (k : ∀ a st' L' ρ' H' v, Stp L ρ H L' ρ' H' → StOk K L' ρ' H' st' → RpA K L' ρ' H' v a → Out K mg E L' ρ' H' (f a st') Q → Q' v H') : Out K mg E L ρ H r Q' := by
  cases r with
  | ok a st1 => exact fun Lb ρ2 H2 v t T x => k a st1 Lb ρ2 H2 v t T x (Out.step S t T h)
  | exc c fs st => exact h
  | bad => exact h
theorem Out.bindL {r : R A} {f : A → Sto → R (List A)} {Q} {Q' : VK} (S : StOk K L ρ H st) (h : OutL K mg E L ρ H (r.bind f) Q)
    (k : ∀ a st' L' ρ' H' v, Stp L ρ H L' ρ' H' → StOk K L' ρ' H' st' → RpA K L' ρ' H' v a → OutL K mg E L' ρ' H' (f a st') Q → Q' v H') : Out K mg E L ρ H r Q' := by
  cases r with
  | ok a st1 => exact fun Lb ρ2 H2 v t T x => k a st1 Lb ρ2 H2 v t T x (OutL.step S t T h)
  | exc c fs st => exact h
  | bad => exact h
theorem OutL.bind {r : R (List A)} {f : List A → Sto → R A} {Q : VK} {Q'} (S : StOk K L ρ H st) (h : Out K mg E L ρ H (r.bind f) Q)
    (k : ∀ a st' L' ρ' H' v, Stp L ρ H L' ρ' H' → StOk K L' ρ' H' st' → RpAs K L' ρ' H' v a → Out K mg E L' ρ' H' (f a st') Q → Q' v H') : OutL K mg E L ρ H r Q' := by
  cases r with
  | ok a st1 => exact fun Lb ρ2 H2 v t T x => k a st1 Lb ρ2 H2 v t T x (Out.step S t T h)
  | exc c fs st => exact h
  | bad => exact h
theorem OutL.bindL {r : R (List A)} {f : List A → Sto → R (List A)} {Q} {Q'} (S : StOk K L ρ H st) (h : OutL K mg E L ρ H (r.bind f) Q)
    (k : ∀ a st' L' ρ' H' v, Stp L ρ H L' ρ' H' → StOk K L' ρ' H' st' → RpAs K L' ρ' H' v a → OutL K mg E L' ρ' H' (f a st') Q → Q' v H') : OutL K mg E L ρ H r Q' := by
  cases r with
  | ok a st1 => exact fun Lb ρ2 H2 v t T x => k a st1 Lb ρ2 H2 v t T x (OutL.step S t T h)
  | exc c fs st => exact h
  | bad => exact h
theorem Out.bindB {r : R A} {f : A → Sto → R Bool} {Q} {Q' : VK} (S : StOk K L ρ H st) (h : OutB K mg E L ρ H (r.bind f) Q)
    (k : ∀ a st' L' ρ' H' v, Stp L ρ H L' ρ' H' → StOk K L' ρ' H' st' → RpA K L' ρ' H' v a → OutB K mg E L' ρ' H' (f a st') Q → Q' v H') : Out K mg E L ρ H r Q' := by
  cases r with
  | ok a st1 => exact fun Lb ρ2 H2 v t T x => k a st1 Lb ρ2 H2 v t T x (OutB.step S t T h)
  | exc c fs st => exact h
  | bad => exact h
theorem OutB.bind {r : R Bool} {f : Bool → Sto → R A} {Q : VK} {Q'} (S : StOk K L ρ H st) (h : Out K mg E L ρ H (r.bind f) Q)
    (k : ∀ a st' L' ρ' H', Stp L ρ H L' ρ' H' → StOk K L' ρ' H' st' → Out K mg E L' ρ' H' (f a st') Q → Q' a H') : OutB K mg E L ρ H r Q' := by
  cases r with
  | ok a st1 => exact fun Lb ρ2 H2 t T => k a st1 Lb ρ2 H2 t T (Out.step S t T h)
  | exc c fs st => exact h
  | bad => exact h
theorem OutB.bindB {r : R Bool} {f : Bool → Sto → R Bool} {Q} {Q'} (S : StOk K L ρ H st) (h : OutB K mg E L ρ H (r.bind f) Q)
    (k : ∀ a st' L' ρ' H', Stp L ρ H L' ρ' H' → StOk K L' ρ' H' st' → OutB K mg E L' ρ' H' (f a st') Q → Q' a H') : OutB K mg E L ρ H r Q' := by
  cases r with
  | ok a st1 => exact fun Lb ρ2 H2 t T => k a st1 Lb ρ2 H2 t T (OutB.step S t T h)
  | exc c fs st => exact h
  | bad => exact h
theorem Out.bindO {r : R A} {f : A → Sto → O} {D} {Q' : VK} (S : StOk K L ρ H st) (h : OutS K mg E L ρ H (r.bindO f) D)
    (k : ∀ a st' L' ρ' H' v, Stp L ρ H L' ρ' H' → StOk K L' ρ' H' st' → RpA K L' ρ' H' v a → OutS K mg E L' ρ' H' (f a st') D → Q' v H') : Out K mg E L ρ H r Q' := by
  cases r with
  | ok a st1 => exact fun Lb ρ2 H2 v t T x => k a st1 Lb ρ2 H2 v t T x (OutS.step S t T h)
  | exc c fs st => exact h
  | bad => exact h
theorem OutB.bindO {r : R Bool} {f : Bool → Sto → O} {D} {Q'} (S : StOk K L ρ H st) (h : OutS K mg E L ρ H (r.bindO f) D)
    (k : ∀ a st' L' ρ' H', Stp L ρ H L' ρ' H' → StOk K L' ρ' H' st' → OutS K mg E L' ρ' H' (f a st') D → Q' a H') : OutB K mg E L ρ H r Q' := by
  cases r with
  | ok a st1 => exact fun Lb ρ2 H2 t T => k a st1 Lb ρ2 H2 t T (OutS.step S t T h)
  | exc c fs st => exact h
  | bad => exact h
end
theorem _root_.L2.PE.imp {X : Cx} {e : Expr} {t t' : TE} (h : PE X e t) (k : ∀ σ H Q, t' σ H Q → t σ H Q) : PE X e t' := ⟨fun pins s σ H Q I q => h.run pins s σ H Q I (k σ H Q q)⟩
theorem _root_.L2.PT.imp {X : Cx} {e : Expr} {t t' : TT} (h : PT X e t) (k : ∀ σ H Q, t' σ H Q → t σ H Q) : PT X e t' := ⟨fun pins s σ H Q I q => h.run pins s σ H Q I (k σ H Q q)⟩
theorem _root_.L2.PW.imp {X : Cx} {e : Expr} {t t' : TT} (h : PW X e t) (k : ∀ σ H Q, t' σ H Q → t σ H Q) : PW X e t' := ⟨fun w pins s σ H Q I q => h.run w pins s σ H Q I (k σ H Q q)⟩
theorem _root_.L2.PA.imp {X : Cx} {e : List Expr} {t t' : TA} (h : PA X e t) (k : ∀ σ H Q, t' σ H Q → t σ H Q) : PA X e t' := ⟨fun p pins s σ H Q I q => h.run p pins s σ H Q I (k σ H Q q)⟩
theorem _root_.L2.PS.imp {X : Cx} {e : Stmt} {t t' : TS} (h : PS X e t) (k : ∀ D σ H, t' D σ H → t D σ H) : PS X e t' := ⟨fun pins s σ H D I q => h.run pins s σ H D I (k D σ H q)⟩
theorem _root_.L2.PSs.imp {X : Cx} {e : List Stmt} {t t' : TS} (h : PSs X e t) (k : ∀ D σ H, t' D σ H → t D σ H) : PSs X e t' := ⟨fun pins s σ H D I q => h.run pins s σ H D I (k D σ H q)⟩

section
variable {X : Cx} {E : L2.St → XK}
/-- the lifted judgements -/
abbrev LE (X : Cx) (E : L2.St → XK) (e : Expr) (g : GE) : Prop := PE X e (lift X.K X.mg E g)
abbrev LA (X : Cx) (E : L2.St → XK) (es : List Expr) (g : GA) : Prop := PA X es (liftA X.K X.mg E g)
abbrev LT (X : Cx) (E : L2.St → XK) (e : Expr) (g : GT) : Prop := PT X e (liftT X.K X.mg E g)
abbrev LW (X : Cx) (E : L2.St → XK) (e : Expr) (g : GT) : Prop := PW X e (liftT X.K X.mg E g)
abbrev LS (X : Cx) (E : XK) (s : Stmt) (g : GS) : Prop := PS X s (liftS X.K X.mg E g)
abbrev LSs (X : Cx) (E : XK) (s : List Stmt) (g : GS) : Prop := PSs X s (liftS X.K X.mg E g)

/-! ### names, constants -/
@[simp] def gVar (i : Nat) : GE := fun env st => match env[i]? with
  | some (some a) => .ok a st
  | _ => .bad
@[simp] def gC (d : PyData) : GE := fun _ st => .ok (.d d) st
theorem le_var {i : Nat} {x : Str} {pos : Pos} (hN : X.N[i]? = some x) (hv : Vis X.env.scope x) (hd : (x == ("__debug__" : Str)) = false := by decide) (hcd : (x == ("__classdict__" : Str)) = false := by decide) : LE X E (.Name x pos) (gVar i) := by
  refine (pe_var hN hv hd hcd).imp fun σ H Q h => ?_
  obtain ⟨L, ρ, st, env, S, V, h⟩ := h
  unfold gVar at h
  split at h
  · rename_i a e
    obtain ⟨v, e1, r⟩ := V.at_ i a e
    exact ⟨v, e1, h L ρ H v .refl S r⟩
  · exact h.elim
theorem le_const {e : Expr} {v : V} {d : PyData} (h : PE X e (tC v)) (hr : ∀ K L H, Rp K L H v d) : LE X E e (gC d) := by
  refine h.imp fun σ H Q h => ?_
  obtain ⟨L, ρ, st, env, S, V, h⟩ := h
  exact h L ρ H v .refl S (.d (hr _ _ _))
theorem le_int {i j pos} : LE X E (.Constant (.int i) j pos) (gC (.int i)) := le_const pe_int fun _ _ _ => .int _
theorem le_bl {b j pos} : LE X E (.Constant (.bool b) j pos) (gC (.bool b)) := le_const pe_bl fun _ _ _ => .bl _
theorem le_non {j pos} : LE X E (.Constant .none j pos) (gC .none) := le_const pe_non fun _ _ _ => .non
theorem le_str {x j pos} : LE X E (.Constant (.str x) j pos) (gC (.str x)) := le_const pe_str fun _ _ _ => .str _

/-! ### operators -/
/-- a reading by values serves a pure partial function -/
def OpL (K : PySem.W.Frag) (r : R2) (p : A → A → Sto → Option PyData) : Prop :=
  ∀ (L ρ : List Addr) (H : Hp) (st : Sto) (x y : V) (a b : A) (d : PyData) (Q : VK), StOk K L ρ H st → RpA K L ρ H x a → RpA K L ρ H y b → p a b st = some d →
    (∀ L' ρ' H' v, Stp L ρ H L' ρ' H' → StOk K L' ρ' H' st → Rp K L' H' v d → Q v H') → r x y H Q
@[simp] def ofO (o : Option PyData) (st : Sto) : R A := match o with
  | some d => .ok (.d d) st
  | none => .bad
@[simp] theorem ofO_some {d st} : ofO (some d) st = .ok (.d d) st := rfl
@[simp] def g2 (p : A → A → Sto → Option PyData) (ga gb : GE) : GE := fun env st => (ga env st).bind fun a st1 => (gb env st1).bind fun b st2 => ofO (p a b st2) st2
theorem lift_op {r : R2} {p : A → A → Sto → Option PyData} {ga gb : GE} {K : PySem.W.Frag} {mg : Str → Option Value} (hp : OpL K r p) (σ : L2.St) (H : Hp) (Q : VK) (h : lift K mg E (g2 p ga gb) σ H Q) :
    tOp r (lift K mg E ga) (lift K mg E gb) σ H Q := by
  obtain ⟨L, ρ, st, env, S, V, h⟩ := h
  refine ⟨L, ρ, st, env, S, V, Out.bind S h fun a st1 L1 ρ1 H1 x s1 S1 r1 h1 => ⟨L1, ρ1, st1, env, S1, V.step S s1, Out.bind S1 h1 fun b st2 Lb ρ2 H2 y s2 S2 r2 h2 => ?_⟩⟩
  cases e : p a b st2 with
  | none => rw [e] at h2; exact h2.elim
  | some d =>
    rw [e] at h2
    exact hp Lb ρ2 H2 st2 x y a b d Q S2 (r1.step S1 s2) r2 e fun L3 ρ3 H3 v s3 S3 r3 => h2 L3 ρ3 H3 v s3 S3 (.d r3)
theorem le_op {op : Operator} {r : R2} {p} {a b : Expr} {ga gb : GE} {pos : Pos} (ho : OpR X (binaryOp op) r) (hp : OpL X.K r p) (ha : LE X E a ga) (hb : LE X E b gb) : LE X E (.BinOp a op b pos) (g2 p ga gb) :=
  (pe_op ho ha hb).imp (lift_op hp)
theorem le_cmp {op : CmpOp} {r : R2} {p} {a b : Expr} {ga gb : GE} {pos : Pos} (ho : OpR X (compareOp op) r) (hp : OpL X.K r p) (ha : LE X E a ga) (hb : LE X E b gb) (hm : behindInMarks op b = false) : LE X E (.Compare a [op] [b] pos) (g2 p ga gb) :=
  (pe_cmpR ho ha hb hm).imp (lift_op hp)
/-- a value that is a bool, as a test -/
@[simp] def gB (g : GE) : GT := fun env st => (g env st).bind fun a st1 => match a with
  | .d (.bool b) => .ok b st1
  | _ => .bad
theorem lift_test {g : GE} {K : PySem.W.Frag} {mg : Str → Option Value} (σ : L2.St) (H : Hp) (Q) (h : liftT K mg E (gB g) σ H Q) : tB (lift K mg E g) σ H Q := by
  obtain ⟨L, ρ, st, env, S, V, h⟩ := h
  refine ⟨L, ρ, st, env, S, V, Out.bindB S h fun a st1 L1 ρ1 H1 x s1 S1 r1 h1 => ?_⟩
  split at h1
  · rename_i b
    cases r1 with
    | d r => cases r; exact ⟨b, rfl, h1 L1 ρ1 H1 .refl S1⟩
  · exact h1.elim
theorem lt_val {e : Expr} {g : GE} (h : LE X E e g) (he : ∀ whole, isTrue e X.env whole = (do let v ← whole; standAt e.pos; holding [v] (truthy v)) := by intro _; rfl) : LT X E e (gB g) := (pt_val h he).imp lift_test
theorem lt_cmp {op : CmpOp} {r : R2} {p} {a b : Expr} {ga gb : GE} {pos : Pos} (ho : OpR X (compareOp op) r) (hp : OpL X.K r p) (ha : LE X E a ga) (hb : LE X E b gb) (hm : behindInMarks op b = false) : LT X E (.Compare a [op] [b] pos) (gB (g2 p ga gb)) := by
  refine (pt_cmpR ho ha hb hm).imp fun σ H Q h => ?_
  obtain ⟨L, ρ, st, env, S, V, h⟩ := h
  show tOp r _ _ σ H _
  refine lift_op (E := E) hp σ H _ ⟨L, ρ, st, env, S, V, Out.bindB S h fun a st1 L1 ρ1 H1 x s1 S1 r1 h1 => ?_⟩
  split at h1
  · rename_i b
    cases r1 with
    | d r => cases r; exact ⟨b, rfl, h1 L1 ρ1 H1 .refl S1⟩
  · exact h1.elim
/-! ### and, or, not -/
@[simp] def gAnd (a b : GT) : GT := fun env st => (a env st).bind fun c st1 => if c = true then b env st1 else .ok false st1
@[simp] def gOr (a b : GT) : GT := fun env st => (a env st).bind fun c st1 => if c = true then .ok true st1 else b env st1
@[simp] def gNot (a : GT) : GT := fun env st => (a env st).bind fun c st1 => .ok (!c) st1
variable {a b : Expr} {rest : List Expr} {pos : Pos} {ta tb : GT} {ga gb gc : GE}
theorem lw_and1 (ha : LT X E a ta) : LW X E (.BoolOp .And [a] pos) ta := pw_and1 ha
theorem lw_or1 (ha : LT X E a ta) : LW X E (.BoolOp .Or [a] pos) ta := pw_or1 ha
theorem lw_and (ha : LT X E a ta) (hb : LW X E (.BoolOp .And (b :: rest) pos) tb) : LW X E (.BoolOp .And (a :: b :: rest) pos) (gAnd ta tb) := by
  refine (pw_and ha hb).imp fun σ H Q h => ?_
  obtain ⟨L, ρ, st, env, S, V, h⟩ := h
  refine ⟨L, ρ, st, env, S, V, OutB.bindB S h fun c st1 L1 ρ1 H1 s1 S1 h1 => ?_⟩
  split
  · rename_i hc; rw [if_pos hc] at h1
    exact ⟨L1, ρ1, st1, env, S1, V.step S s1, h1⟩
  · rename_i hc; rw [if_neg hc] at h1
    exact h1 L1 ρ1 H1 .refl S1
theorem lw_or (ha : LT X E a ta) (hb : LW X E (.BoolOp .Or (b :: rest) pos) tb) : LW X E (.BoolOp .Or (a :: b :: rest) pos) (gOr ta tb) := by
  refine (pw_or ha hb).imp fun σ H Q h => ?_
  obtain ⟨L, ρ, st, env, S, V, h⟩ := h
  refine ⟨L, ρ, st, env, S, V, OutB.bindB S h fun c st1 L1 ρ1 H1 s1 S1 h1 => ?_⟩
  split
  · rename_i hc; rw [if_pos hc] at h1
    exact h1 L1 ρ1 H1 .refl S1
  · rename_i hc; rw [if_neg hc] at h1
    exact ⟨L1, ρ1, st1, env, S1, V.step S s1, h1⟩
theorem lt_w {e : Expr} (h : LW X E e ta) : LT X E e ta := h.pt
theorem lt_not (ha : LT X E a ta) : LT X E (.UnaryOp .Not a pos) (gNot ta) := by
  refine (pt_not ha).imp fun σ H Q h => ?_
  obtain ⟨L, ρ, st, env, S, V, h⟩ := h
  exact ⟨L, ρ, st, env, S, V, OutB.bindB S h fun c st1 L1 ρ1 H1 s1 S1 h1 => h1 L1 ρ1 H1 .refl S1⟩
/-- .. as values -/
@[simp] def gAndV (a b : GE) : GE := fun env st => (gB a env st).bind fun c st1 => if c = true then b env st1 else .ok (.d (.bool false)) st1
@[simp] def gOrV (a b : GE) : GE := fun env st => (gB a env st).bind fun c st1 => if c = true then .ok (.d (.bool true)) st1 else b env st1
@[simp] def gNotV (a : GE) : GE := fun env st => (gB a env st).bind fun c st1 => .ok (.d (.bool (!c))) st1
theorem lift_B {E : XK} {g : GE} {f : Bool → Sto → R A} {K : PySem.W.Frag} {mg : Str → Option Value} {Q : VK} {L ρ : List Addr} {H : Hp} {st : Sto} {env : Env} (S : StOk K L ρ H st) (h : Out K mg E L ρ H ((gB g env st).bind f) Q) {Q' : VK}
    (k : ∀ c st' L' ρ' H', Stp L ρ H L' ρ' H' → StOk K L' ρ' H' st' → Out K mg E L' ρ' H' (f c st') Q → Q' (.bl c) H') : Out K mg E L ρ H (g env st) Q' := by
  unfold gB at h
  cases e : g env st with
  | bad => rw [e] at h; exact h
  | exc c fs st => rw [e] at h; exact h
  | ok a st1 =>
    rw [e] at h
    intro L1 ρ1 H1 x s1 S1 r1
    rw [R.bind_ok] at h
    cases a with
    | box i => exact h.elim
    | scr i => exact h.elim
    | d d =>
      cases d with
      | bool b => cases r1 with
        | d r => cases r; exact k b st1 L1 ρ1 H1 s1 S1 (Out.step S s1 S1 h)
      | _ => exact h.elim
theorem le_one {op} (h : LE X E a ga) : LE X E (.BoolOp op [a] pos) ga := pe_one h
theorem le_and (ha : LE X E a ga) (hb : LE X E (.BoolOp .And (b :: rest) pos) gb) : LE X E (.BoolOp .And (a :: b :: rest) pos) (gAndV ga gb) := by
  refine (pe_and ha hb).imp fun σ H Q h => ?_
  obtain ⟨L, ρ, st, env, S, V, h⟩ := h
  refine ⟨L, ρ, st, env, S, V, lift_B S h fun c st1 L1 ρ1 H1 s1 S1 h1 => ⟨c, rfl, ?_⟩⟩
  split
  · rename_i hc; rw [if_pos hc] at h1
    exact ⟨L1, ρ1, st1, env, S1, V.step S s1, h1⟩
  · rename_i hc; rw [if_neg hc] at h1
    exact h1 L1 ρ1 H1 _ .refl S1 (.d (.bl _))
theorem le_or (ha : LE X E a ga) (hb : LE X E (.BoolOp .Or (b :: rest) pos) gb) : LE X E (.BoolOp .Or (a :: b :: rest) pos) (gOrV ga gb) := by
  refine (pe_or ha hb).imp fun σ H Q h => ?_
  obtain ⟨L, ρ, st, env, S, V, h⟩ := h
  refine ⟨L, ρ, st, env, S, V, lift_B S h fun c st1 L1 ρ1 H1 s1 S1 h1 => ⟨c, rfl, ?_⟩⟩
  split
  · rename_i hc; rw [if_pos hc] at h1
    exact h1 L1 ρ1 H1 _ .refl S1 (.d (.bl _))
  · rename_i hc; rw [if_neg hc] at h1
    exact ⟨L1, ρ1, st1, env, S1, V.step S s1, h1⟩
theorem le_not (ha : LE X E a ga) : LE X E (.UnaryOp .Not a pos) (gNotV ga) := by
  refine (pe_not ha).imp fun σ H Q h => ?_
  obtain ⟨L, ρ, st, env, S, V, h⟩ := h
  exact ⟨L, ρ, st, env, S, V, lift_B S h fun c st1 L1 ρ1 H1 s1 S1 h1 => ⟨c, rfl, h1 L1 ρ1 H1 _ .refl S1 (.d (.bl _))⟩⟩
@[simp] def gIf (t : GT) (a b : GE) : GE := fun env st => (t env st).bind fun c st1 => if c = true then a env st1 else b env st1
theorem le_if {c : Expr} (hc : LT X E c ta) (ha : LE X E a ga) (hb : LE X E b gb) : LE X E (.IfExp c a b pos) (gIf ta ga gb) := by
  refine (pe_ifExp hc ha hb).imp fun σ H Q h => ?_
  obtain ⟨L, ρ, st, env, S, V, h⟩ := h
  refine ⟨L, ρ, st, env, S, V, OutB.bind S h fun c st1 L1 ρ1 H1 s1 S1 h1 => ?_⟩
  split
  · rename_i hc; rw [if_pos hc] at h1
    exact ⟨L1, ρ1, st1, env, S1, V.step S s1, h1⟩
  · rename_i hc; rw [if_neg hc] at h1
    exact ⟨L1, ρ1, st1, env, S1, V.step S s1, h1⟩
/-! ### arguments -/
@[simp] def gNil : GA := fun _ st => .ok [] st
@[simp] def gCons (g : GE) (h : GA) : GA := fun env st => (g env st).bind fun a st1 => (h env st1).bind fun as st2 => .ok (a :: as) st2
theorem la_nil : LA X E [] gNil := by
  refine pa_nil.imp fun σ H Q h => ?_
  obtain ⟨L, ρ, st, env, S, V, h⟩ := h
  exact h L ρ H [] .refl S .nil
theorem la_cons {es : List Expr} {g : GE} {t : GA} (ha : LE X E a g) (hr : LA X E es t) (hs : starEach (a :: es) X.env = (false, eval a X.env) :: starEach es X.env := by rfl) : LA X E (a :: es) (gCons g t) := by
  refine (pa_cons ha hr hs).imp fun σ H Q h => ?_
  obtain ⟨L, ρ, st, env, S, V, h⟩ := h
  refine ⟨L, ρ, st, env, S, V, Out.bindL S h fun a st1 L1 ρ1 H1 x s1 S1 r1 h1 => ⟨L1, ρ1, st1, env, S1, V.step S s1, OutL.bindL S1 h1 fun as st2 Lb ρ2 H2 xs s2 S2 r2 h2 => ?_⟩⟩
  exact h2 Lb ρ2 H2 _ .refl S2 (.cons (r1.step S1 s2) r2)
end
section
variable {X : Cx} {E : XK} {pos : Pos}
/-! ### statements -/
@[simp] def sNil : GS := fun env st => .nx env st
@[simp] def sSeq (a b : GS) : GS := fun env st => match a env st with
  | .nx env' st' => b env' st'
  | o => o
theorem OutS.seq {K : PySem.W.Frag} {mg : Str → Option Value} {L ρ : List Addr} {H : Hp} {st : Sto} {env : Env} {a b : GS} {D : Ends} (S : StOk K L ρ H st) (h : OutS K mg E L ρ H (sSeq a b env st) D) : OutS K mg E L ρ H (a env st) { D with nx := liftS K mg E b D } := by
  unfold sSeq at h
  split at h
  · rename_i env' st' e
    rw [e]
    exact fun L' ρ' H' σ' s S' V' => ⟨L', ρ', st', env', S', V', OutS.step S s S' h⟩
  · rename_i o hn
    generalize a env st = r at h hn
    cases r with
    | nx env' st' => exact absurd rfl (hn env' st')
    | _ => exact h
theorem ls_nil : LSs X E [] sNil := by
  refine pss_nil.imp fun D σ H h => ?_
  obtain ⟨L, ρ, st, env, S, V, h⟩ := h
  exact h L ρ H σ .refl S V
theorem ls_cons {s : Stmt} {ss : List Stmt} {a b : GS} (h1 : LS X E s a) (h2 : LSs X E ss b) : LSs X E (s :: ss) (sSeq a b) := by
  refine (pss_cons h1 h2).imp fun D σ H h => ?_
  obtain ⟨L, ρ, st, env, S, V, h⟩ := h
  exact ⟨L, ρ, st, env, S, V, OutS.seq S h⟩
theorem ls_one {s : Stmt} {a : GS} (h1 : LS X E s a) : LSs X E [s] a := pss_one h1
@[simp] def sSet (i : Nat) (g : GE) : GS := fun env st => (g env st).bindO fun a st1 => .nx (env.set i (some a)) st1
theorem ls_set {i : Nat} {x : Str} {e : Expr} {g : GE} {pos' : Pos} (hN : X.N.Nodup) (hi : X.N[i]? = some x) (hx : Loc X.env.scope x) (he : LE X (fun _ => E) e g) (hs : swapsWith e (some (.Name x pos')) pos.line X.env = pure false := by rfl) (hf : X.fn x = true ∨ X.env.scope.names.lookup x = some .local := by first | exact .inl rfl | exact .inr rfl | assumption) :
    LS X E (.Assign [.Name x pos'] e pos) (sSet i g) := by
  refine (ps_set hN hi hx he hs hf).imp fun D σ H h => ?_
  obtain ⟨L, ρ, st, env, S, V, h⟩ := h
  exact ⟨L, ρ, st, env, S, V, Out.bindO S h fun a st1 L1 ρ1 H1 x s1 S1 r1 h1 => h1 L1 ρ1 H1 _ .refl S1 ((V.step S s1).set r1)⟩
@[simp] def sRet (g : GE) : GS := fun env st => (g env st).bindO fun a st1 => .rt a st1
theorem ls_ret {e : Expr} {g : GE} (he : LE X (fun _ => E) e g) : LS X E (.Return (some e) pos) (sRet g) := by
  refine (ps_ret he).imp fun D σ H h => ?_
  obtain ⟨L, ρ, st, env, S, V, h⟩ := h
  exact ⟨L, ρ, st, env, S, V, Out.bindO S h fun a st1 L1 ρ1 H1 x s1 S1 r1 h1 => h1 L1 ρ1 H1 x .refl S1 r1⟩
@[simp] def sExpr (g : GE) : GS := fun env st => (g env st).bindO fun _ st1 => .nx env st1
theorem ls_expr {e : Expr} {g : GE} (he : LE X (fun _ => E) e g) (hs : swapsWith e none pos.line X.env = pure false := by rfl) : LS X E (.Expr e pos) (sExpr g) := by
  refine (ps_expr he hs).imp fun D σ H h => ?_
  obtain ⟨L, ρ, st, env, S, V, h⟩ := h
  exact ⟨L, ρ, st, env, S, V, Out.bindO S h fun a st1 L1 ρ1 H1 x s1 S1 r1 h1 => h1 L1 ρ1 H1 σ .refl S1 (V.step S s1)⟩
@[simp] def sIf (c : GT) (a b : GS) : GS := fun env st => (c env st).bindO fun k st1 => if k = true then a env st1 else b env st1
theorem ls_if {c : Expr} {x y : List Stmt} {tc : GT} {sa sb : GS} (hc : LT X (fun _ => E) c tc) (ha : LSs X E x sa) (hb : LSs X E y sb) : LS X E (.If c x y pos) (sIf tc sa sb) := by
  refine (ps_if hc ha hb).imp fun D σ H h => ?_
  obtain ⟨L, ρ, st, env, S, V, h⟩ := h
  refine ⟨L, ρ, st, env, S, V, OutB.bindO S h fun k st1 L1 ρ1 H1 s1 S1 h1 => ?_⟩
  split
  · rename_i hc; rw [if_pos hc] at h1
    exact ⟨L1, ρ1, st1, env, S1, V.step S s1, h1⟩
  · rename_i hc; rw [if_neg hc] at h1
    exact ⟨L1, ρ1, st1, env, S1, V.step S s1, h1⟩
@[simp] def sPass : GS := fun env st => .nx env st
@[simp] def sBreak : GS := fun env st => .bk env st
@[simp] def sCont : GS := fun env st => .ct env st
theorem ls_pass : LS X E (.Pass pos) sPass := by
  refine ps_pass.imp fun D σ H h => ?_
  obtain ⟨L, ρ, st, env, S, V, h⟩ := h
  exact h L ρ H σ .refl S V
theorem ls_break : LS X E (.Break pos) sBreak := by
  refine ps_break.imp fun D σ H h => ?_
  obtain ⟨L, ρ, st, env, S, V, h⟩ := h
  exact h L ρ H σ .refl S V
theorem ls_cont : LS X E (.Continue pos) sCont := by
  refine ps_continue.imp fun D σ H h => ?_
  obtain ⟨L, ρ, st, env, S, V, h⟩ := h
  exact h L ρ H σ .refl S V
end
end LF
set_option Elab.async false
set_option linter.all false
set_option maxRecDepth 100000
set_option maxHeartbeats 2000000
namespace LF
open PySem PySem.Spec PyProof.Rows L2

/-! ### a def -/
@[simp] def runB (m : Nat) (b : GS) : List A → Sto → R A := fun as st =>
  match b (as.map some ++ List.replicate (m - as.length) none) st with
  | .nx _ st' => .ok (.d .none) st'
  | .rt a st' => .ok a st'
  | .exc c fs st' => .exc c fs st'
  | _ => .bad
theorem RpE.start {K : PySem.W.Frag} {L ρ : List Addr} {H : Hp} {N : List Str} : ∀ {vs : List V} {as : List A}, RpAs K L ρ H vs as → RpE K L ρ H (as.map some ++ List.replicate (N.length - as.length) none) (L2.start N vs) := by
  intro vs as h
  refine ⟨by simp [L2.start, h.length], fun i a e => ?_⟩
  have key : ∀ {vs : List V} {as : List A} (i : Nat), RpAs K L ρ H vs as → as[i]? = some a → ∃ v, vs[i]? = some v ∧ RpA K L ρ H v a := by
    intro vs as i h
    induction h generalizing i with
    | nil => intro e; simp at e
    | cons h1 h2 ih =>
      intro e
      cases i with
      | zero => simp at e; subst e; exact ⟨_, rfl, h1⟩
      | succ i => obtain ⟨v, q1, q2⟩ := ih i (by simpa using e); exact ⟨v, by simpa using q1, q2⟩
  by_cases hi : i < as.length
  · rw [List.getElem?_append_left (by simpa using hi), List.getElem?_map] at e
    have e' : as[i]? = some a := by
      cases q : as[i]? with
      | none => rw [q] at e; cases e
      | some b => rw [q] at e; simp at e; rw [e]
    obtain ⟨v, q1, q2⟩ := key i h e'
    refine ⟨v, ?_, q2⟩
    unfold L2.start
    rw [List.getElem?_append_left (by rw [List.length_map, h.length]; exact hi), List.getElem?_map, q1]
    rfl
  · rw [List.getElem?_append_right (by simpa using hi), List.getElem?_replicate] at e
    split at e <;> cases e
/-- a promise of a def that lets nothing out -/
def spL0 (K : PySem.W.Frag) (mg : Str → Option Value) (n : Nat) (f : List A → Sto → R A) : Sp := fun vs H Q _ => ∃ L ρ st as, StOk K L ρ H st ∧ RpAs K L ρ H vs as ∧ as.length = n ∧ Out K mg E0 L ρ H (f as st) Q
theorem OutS.run {K : PySem.W.Frag} {mg : Str → Option Value} {E : XK} {L ρ : List Addr} {H : Hp} {st : Sto} {m : Nat} {b : GS} {as : List A} {Q : VK} (h : Out K mg E L ρ H (runB m b as st) Q) :
    OutS K mg E L ρ H (b (as.map some ++ List.replicate (m - as.length) none) st) { nx := fun _ H' => Q .non H', rt := Q } := by
  unfold runB at h
  generalize b (as.map some ++ List.replicate (m - as.length) none) st = r at h
  cases r with
  | nx env st' => exact fun L' ρ' H' σ' s S V => h L' ρ' H' .non s S (.d .non)
  | rt a st' => exact h
  | exc c fs st' => exact h
  | bk _ _ => exact h.elim
  | ct _ _ => exact h.elim
  | bad => exact h.elim
section
variable {P : Program} {w : World} {K : PySem.W.Frag} {mg : Str → Option Value} {base : Heap}
theorem fn0 {x qual : Str} {st : Stmt} {f : Addr} {fd : FuncData} {N ps : List Str} {k : Nat} {b : GS} {g : List A → Sto → R A} (F : Fun K x qual st f fd) (S : FnScope N ps (defScope st)) (n : Nat) (hn : n = ps.length)
    (hg : ∀ as s, as.length = n → g as s = runB N.length b as s)
    (hb : ∀ (cdv : Value) (A : Around) (outer : List PySem.Env) (s : Shared) (H : Hp) (E : XK), Room k (A.deeper (envOfC qual (defScope st) s.heap.objs.size f cdv)) →
      LSs (cxOf CX0 P w K mg base N qual (defScope st) f cdv A outer s H E).nox E0 (defBody st) b) : FnOk P w K mg base CX0 (k + 1) f fd ps (spL0 K mg n g) := by
  subst hn
  refine F.ok S (fun vs H Q E h => ?_) (fun cdv A outer s H vs Q E hr h => ⟨_, hb cdv A outer s H E hr, ?_⟩)
  · obtain ⟨L, ρ, st, as, _, r, e, _⟩ := h
    rw [r.length, e]
  · obtain ⟨L, ρ, st, as, S', r, e, h⟩ := h
    rw [hg as st e] at h
    exact ⟨L, ρ, st, _, S', .start r, OutS.run h⟩
theorem fnX {x qual : Str} {st : Stmt} {f : Addr} {fd : FuncData} {N ps : List Str} {k : Nat} {b : GS} {g : List A → Sto → R A} (F : Fun K x qual st f fd) (S : FnScope N ps (defScope st)) (n : Nat) (hn : n = ps.length)
    (hg : ∀ as s, as.length = n → g as s = runB N.length b as s)
    (hb : ∀ (cdv : Value) (A : Around) (outer : List PySem.Env) (s : Shared) (H : Hp) (E : XK), Room k (A.deeper (envOfC qual (defScope st) s.heap.objs.size f cdv)) →
      LSs (cxOf (L2.CX P w) P w K mg base N qual (defScope st) f cdv A outer s H E) E (defBody st) b) : FnOk P w K mg base (L2.CX P w) (k + 1) f fd ps (spL K mg n g) := by
  subst hn
  refine F.okX S (fun vs H Q E h => ?_) (fun cdv A outer s H vs Q E hr h => ⟨_, hb cdv A outer s H E hr, ?_⟩)
  · obtain ⟨L, ρ, st, as, _, r, e, _⟩ := h
    rw [r.length, e]
  · obtain ⟨L, ρ, st, as, S', r, e, h⟩ := h
    rw [hg as st e] at h
    exact ⟨L, ρ, st, _, S', .start r, OutS.run h⟩
end
/-! ### calls -/
def GLen (g : GA) (n : Nat) : Prop := ∀ env st as st', g env st = .ok as st' → as.length = n
theorem gl_nil : GLen gNil 0 := fun env st as st' e => by cases e; rfl
theorem gl_cons {g : GE} {t : GA} {n : Nat} (h : GLen t n) : GLen (gCons g t) (n + 1) := fun env st as st' e => by
  unfold gCons at e
  cases e1 : g env st with
  | bad => rw [e1] at e; cases e
  | exc _ _ _ => rw [e1] at e; cases e
  | ok a s1 =>
    rw [e1, R.bind_ok] at e
    cases e2 : t env s1 with
    | bad => rw [e2] at e; cases e
    | exc _ _ _ => rw [e2] at e; cases e
    | ok bs s2 =>
      rw [e2, R.bind_ok] at e
      cases e
      exact congrArg (· + 1) (h _ _ _ _ e2)
@[simp] def gCall (f : List A → Sto → R A) (ga : GA) : GE := fun env st => (ga env st).bind fun as st1 => f as st1
section
variable {X : Cx} {E : L2.St → XK} {CX : CXT} {k : Nat} {fa : Addr} {fd : FuncData} {ps : List Str} {x : Str} {p pos : Pos} {e : Expr} {es : List Expr} {ga : GA} {f : List A → Sto → R A} {n : Nat}
theorem OutL.bindN {E : XK} {K : PySem.W.Frag} {mg : Str → Option Value} {L ρ : List Addr} {H : Hp} {st : Sto} {env : Env} {f : List A → Sto → R A} {Q : VK} {Q'} (S : StOk K L ρ H st) (hl : GLen ga n) (h : Out K mg E L ρ H ((ga env st).bind f) Q)
    (k : ∀ a st' L' ρ' H' v, Stp L ρ H L' ρ' H' → StOk K L' ρ' H' st' → RpAs K L' ρ' H' v a → a.length = n → Out K mg E L' ρ' H' (f a st') Q → Q' v H') : OutL K mg E L ρ H (ga env st) Q' := by
  cases e : ga env st with
  | ok a st1 => rw [e] at h; exact fun Lb ρ2 H2 v t T x => k a st1 Lb ρ2 H2 v t T x (hl _ _ _ _ e) (Out.step S t T h)
  | exc c fs st => rw [e] at h; exact h
  | bad => rw [e] at h; exact h
/-- a def that lets nothing out, called -/
theorem le_call (F : FnOk X.prog X.w X.K X.mg X.base CX0 k fa fd ps (spL0 X.K X.mg n f)) (hr : Room k X.A) (hg : Gl X x) (hm : X.mg x = some (.ref fa)) (hk : PySem.W.keepIn X.K (.ref fa) = true) (hb : Binds X.K fd ps []) (hl : GLen ga n)
    (ha : LA X E (e :: es) ga) (hdb : (x == ("__debug__" : Str)) = false := by decide) (he : starEach (e :: es) X.env = (false, eval e X.env) :: starEach es X.env := by rfl) (hpl : (backTo pos (starEach es X.env)).any (·.1) = false := by rfl)
    (hE : ∀ (E : XK) L ρ H as st Q, Out X.K X.mg E L ρ H (f as st) Q → Out X.K X.mg E0 L ρ H (f as st) Q) :
    LE X E (.Call (.Name x p) (e :: es) [] pos) (gCall f ga) := by
  refine (pe_call F hr hg hm hk hb .nil pass0 ha hdb he hpl).imp fun σ H Q h => ?_
  obtain ⟨L, ρ, st, env, S, V, h⟩ := h
  refine ⟨L, ρ, st, env, S, V, OutL.bindN S hl h fun as st1 L1 ρ1 H1 vs s1 S1 r1 hn h1 => ?_⟩
  rw [List.append_nil]
  exact ⟨L1, ρ1, st1, as, S1, r1, hn, hE _ _ _ _ _ _ _ h1⟩
/-- a def that may let something out -/
theorem le_callX (F : FnOk X.prog X.w X.K X.mg X.base CX k fa fd ps (spL X.K X.mg n f)) (hr : Room k X.A) (hg : Gl X x) (hm : X.mg x = some (.ref fa)) (hk : PySem.W.keepIn X.K (.ref fa) = true) (hb : Binds X.K fd ps []) (hl : GLen ga n) {Ec : XK} (hx : Passes CX X Ec)
    (ha : LA X (fun _ => Ec) (e :: es) ga) (hdb : (x == ("__debug__" : Str)) = false := by decide) (he : starEach (e :: es) X.env = (false, eval e X.env) :: starEach es X.env := by rfl) (hpl : (backTo pos (starEach es X.env)).any (·.1) = false := by rfl) :
    LE X (fun _ => Ec) (.Call (.Name x p) (e :: es) [] pos) (gCall f ga) := by
  refine (pe_call F hr hg hm hk hb .nil hx ha hdb he hpl).imp fun σ H Q h => ?_
  obtain ⟨L, ρ, st, env, S, V, h⟩ := h
  refine ⟨L, ρ, st, env, S, V, OutL.bindN S hl h fun as st1 L1 ρ1 H1 vs s1 S1 r1 hn h1 => ?_⟩
  rw [List.append_nil]
  exact ⟨L1, ρ1, st1, as, S1, r1, hn, h1⟩
/-- .. within a try -/
theorem le_callS (F : FnOk X.prog X.w X.K X.mg X.base CX k fa fd ps (spL X.K X.mg n f)) (hr : Room k X.A) (hg : Gl X x) (hm : X.mg x = some (.ref fa)) (hk : PySem.W.keepIn X.K (.ref fa) = true) (hb : Binds X.K fd ps []) (hl : GLen ga n) (hx : ∀ σ, PassesAt CX X σ (E σ))
    (ha : LA X E (e :: es) ga) (hdb : (x == ("__debug__" : Str)) = false := by decide) (he : starEach (e :: es) X.env = (false, eval e X.env) :: starEach es X.env := by rfl) (hpl : (backTo pos (starEach es X.env)).any (·.1) = false := by rfl) :
    LE X E (.Call (.Name x p) (e :: es) [] pos) (gCall f ga) := by
  refine (pe_callS F hr hg hm hk hb hx ha hdb he hpl).imp fun σ H Q h => ?_
  obtain ⟨L, ρ, st, env, S, V, h⟩ := h
  refine ⟨L, ρ, st, env, S, V, OutL.bindN S hl h fun as st1 L1 ρ1 H1 vs s1 S1 r1 hn h1 => ?_⟩
  exact ⟨L1, ρ1, st1, as, S1, r1, hn, h1⟩
end
/-- a function that never lets an exception out -/
def NoX (f : List A → Sto → R A) : Prop := ∀ as st c fs st', f as st ≠ .exc c fs st'
theorem NoX.out {f : List A → Sto → R A} (h : NoX f) {K : PySem.W.Frag} {mg : Str → Option Value} {E E' : XK} : ∀ L ρ H as st Q, Out K mg E L ρ H (f as st) Q → Out K mg E' L ρ H (f as st) Q := by
  intro L ρ H as st Q q
  cases e : f as st with
  | ok a s => rw [e] at q; exact q
  | exc c fs s => exact absurd e (h _ _ _ _ _)
  | bad => rw [e] at q; exact q

/-! ### built-ins, by values -/
def CaL (K : PySem.W.Frag) (r : List V → Hp → VK → Prop) (p : List A → Sto → Option PyData) : Prop :=
  ∀ (L ρ : List Addr) (H : Hp) (st : Sto) (vs : List V) (as : List A) (d : PyData) (Q : VK), StOk K L ρ H st → RpAs K L ρ H vs as → p as st = some d →
    (∀ L' ρ' H' v, Stp L ρ H L' ρ' H' → StOk K L' ρ' H' st → Rp K L' H' v d → Q v H') → r vs H Q
@[simp] def gB1 (p : List A → Sto → Option PyData) (ga : GA) : GE := fun env st => (ga env st).bind fun as st1 => ofO (p as st1) st1
section
variable {X : Cx} {E : L2.St → XK} {x : Str} {p pos : Pos} {e : Expr} {es : List Expr} {ga : GA} {id T : String} {r : List V → Hp → VK → Prop} {pf : List A → Sto → Option PyData}
theorem lift_cb {K : PySem.W.Frag} {mg : Str → Option Value} (hp : CaL K r pf) (σ : L2.St) (H : Hp) (Q : VK) (h : lift K mg E (gB1 pf ga) σ H Q) : tCB r (liftA K mg E ga) σ H Q := by
  obtain ⟨L, ρ, st, env, S, V, h⟩ := h
  refine ⟨L, ρ, st, env, S, V, OutL.bind S h fun as st1 L1 ρ1 H1 vs s1 S1 r1 h1 => ?_⟩
  cases q : pf as st1 with
  | none => rw [q] at h1; exact h1.elim
  | some d =>
    rw [q] at h1
    exact hp L1 ρ1 H1 st1 vs as d Q S1 r1 q fun L3 ρ3 H3 v s3 S3 r3 => h1 L3 ρ3 H3 v s3 S3 (.d r3)
theorem le_cb (hc : CallR X (.builtin id) r) (hp : CaL X.K r pf) (hg : Gl X x) (hm : X.mg x = none) (hv : bootBuiltins x = some (.builtin id)) (ha : LA X E (e :: es) ga) (hn : x ≠ "__name__" := by decide) (hdb : (x == ("__debug__" : Str)) = false := by decide)
    (he : starEach (e :: es) X.env = (false, eval e X.env) :: starEach es X.env := by rfl) (hpl : (backTo pos (starEach es X.env)).any (·.1) = false := by rfl) : LE X E (.Call (.Name x p) (e :: es) [] pos) (gB1 pf ga) :=
  (pe_callB hc hg hm hv ha hn hdb he hpl).imp (lift_cb hp)
theorem le_ct (hc : CallR X (.type T) r) (hp : CaL X.K r pf) (hg : Gl X x) (hm : X.mg x = none) (hv : bootBuiltins x = some (.type T)) (ha : LA X E (e :: es) ga) (hn : x ≠ "__name__" := by decide) (hdb : (x == ("__debug__" : Str)) = false := by decide)
    (he : starEach (e :: es) X.env = (false, eval e X.env) :: starEach es X.env := by rfl) (hpl : (backTo pos (starEach es X.env)).any (·.1) = false := by rfl) : LE X E (.Call (.Name x p) (e :: es) [] pos) (gB1 pf ga) :=
  (pe_callTy hc hg hm hv ha hn hdb he hpl).imp (lift_cb hp)
theorem le_cfun (hc : CallR X (.builtin id) r) (hp : CaL X.K r pf) (hg : Gl X x) (hm : X.mg x = some (.builtin id)) (ha : LA X E (e :: es) ga) (hdb : (x == ("__debug__" : Str)) = false := by decide)
    (he : starEach (e :: es) X.env = (false, eval e X.env) :: starEach es X.env := by rfl) (hpl : (backTo pos (starEach es X.env)).any (·.1) = false := by rfl) : LE X E (.Call (.Name x p) (e :: es) [] pos) (gB1 pf ga) :=
  (pe_callBfun hc hg hm ha hdb he hpl).imp (lift_cb hp)
end
/-! #### len -/
theorem RpAs.one {K : PySem.W.Frag} {L ρ : List Addr} {H : Hp} {vs : List V} {a : A} (r : RpAs K L ρ H vs [a]) : ∃ v, vs = [v] ∧ RpA K L ρ H v a := by
  cases r with
  | cons h t => cases t; exact ⟨_, rfl, h⟩
theorem RpAs.two {K : PySem.W.Frag} {L ρ : List Addr} {H : Hp} {vs : List V} {a b : A} (r : RpAs K L ρ H vs [a, b]) : ∃ v w, vs = [v, w] ∧ RpA K L ρ H v a ∧ RpA K L ρ H w b := by
  cases r with
  | cons h t => obtain ⟨w, e, q⟩ := RpAs.one t; subst e; exact ⟨_, _, rfl, h, q⟩
/-- what can be read as a sequence -/
def seqOf : A → Sto → Option (List PyData)
  | .d (.tuple ds), _ => some ds
  | .d (.list ds), _ => some ds
  | .box i, st => st[i]?
  | .scr ds, _ => some ds
  | _, _ => none
theorem seq_at {K : PySem.W.Frag} {L ρ : List Addr} {H : Hp} {st : Sto} {v : V} {a : A} {ds : List PyData} (S : StOk K L ρ H st) (r : RpA K L ρ H v a) (h : seqOf a st = some ds) :
    ∃ p xs, v = .ref p ∧ (SqL K H p xs ∨ SqT K H p xs) ∧ RpAll K L H xs ds := by
  cases r with
  | d r =>
    cases r with
    | lst hL hR hA => cases h; exact ⟨_, _, rfl, .inl (SqL.of hR), hA⟩
    | tup hT hA => cases h; exact ⟨_, _, rfl, .inr hT, hA⟩
    | _ => cases h
  | box e =>
    obtain ⟨xs, q, hA⟩ := S.cell _ _ _ e h
    exact ⟨_, xs, rfl, .inl (SqL.of q), hA⟩
  | scr e hA => cases h; exact ⟨_, _, rfl, .inl e.sql, hA⟩
@[simp] def pLen : List A → Sto → Option PyData
  | [a], st => (seqOf a st).map fun ds => .int ds.length
  | _, _ => none
theorem cal_len {K : PySem.W.Frag} : CaL K (fun xs H Q => ∃ p ys, xs = [.ref p] ∧ (SqL K H p ys ∨ SqT K H p ys) ∧ Q (.int ys.length) H) pLen := by
  intro L ρ H st vs as d Q S r h k
  match as, r, h with
  | [a], r, h =>
    obtain ⟨v, rfl, ra⟩ := r.one
    cases hs : seqOf a st with
    | none => simp [pLen, hs] at h
    | some ds =>
      simp only [pLen, hs, Option.map_some, Option.some.injEq] at h
      subst h
      obtain ⟨p, xs, rfl, hq, hA⟩ := seq_at S ra hs
      refine ⟨p, xs, rfl, hq, ?_⟩
      have e : xs.length = ds.length := hA.length
      rw [e]
      exact k L ρ H _ .refl S (.int _)
  | [], r, h => cases h
  | _ :: _ :: _, r, h => cases h
/-! #### scalars -/
@[simp] def pInt1 : List A → Sto → Option PyData
  | [.d (.int i)], _ => some (.int i)
  | [.d (.bool b)], _ => some (.int (if b then 1 else 0))
  | _, _ => none
@[simp] def pBool1 : List A → Sto → Option PyData
  | [.d (.int i)], _ => some (.bool (i != 0))
  | [.d (.bool b)], _ => some (.bool b)
  | _, _ => none
@[simp] def pAbs : List A → Sto → Option PyData
  | [.d (.int i)], _ => some (.int (if i < 0 then -i else i))
  | _, _ => none
@[simp] def pMax2 : List A → Sto → Option PyData
  | [.d (.int i), .d (.int j)], _ => some (.int (if j > i then j else i))
  | _, _ => none
@[simp] def pMin2 : List A → Sto → Option PyData
  | [.d (.int i), .d (.int j)], _ => some (.int (if j < i then j else i))
  | _, _ => none
def pStrI : List A → Sto → Option PyData
  | [.d (.int i)], _ => if i.natAbs.log2 < 1920 then some (.str (toString i)) else none
  | _, _ => none
@[simp] def pGcd : List A → Sto → Option PyData
  | [.d (.int i), .d (.int j)], _ => some (.int ((Nat.gcd i.natAbs j.natAbs : Nat) : Int))
  | _, _ => none
theorem RpA.int {K : PySem.W.Frag} {L ρ : List Addr} {H : Hp} {v : V} {i : Int} (r : RpA K L ρ H v (.d (.int i))) : v = .int i := by
  cases r with
  | d r => cases r; rfl
theorem RpA.bl {K : PySem.W.Frag} {L ρ : List Addr} {H : Hp} {v : V} {i : Bool} (r : RpA K L ρ H v (.d (.bool i))) : v = .bl i := by
  cases r with
  | d r => cases r; rfl
theorem RpA.str {K : PySem.W.Frag} {L ρ : List Addr} {H : Hp} {v : V} {i : Str} (r : RpA K L ρ H v (.d (.str i))) : v = .str i := by
  cases r with
  | d r => cases r; rfl
theorem cal_int1 {K : PySem.W.Frag} : CaL K (fun xs H Q => (∃ i, xs = [.int i] ∧ Q (.int i) H) ∨ ∃ k, xs = [.bl k] ∧ Q (.int (if k then 1 else 0)) H) pInt1 := by
  intro L ρ H st vs as d Q S r h k
  unfold pInt1 at h
  split at h
  · obtain ⟨v, rfl, ra⟩ := r.one; cases h; rw [ra.int]
    exact .inl ⟨_, rfl, k L ρ H _ .refl S (.int _)⟩
  · obtain ⟨v, rfl, ra⟩ := r.one; cases h; rw [ra.bl]
    exact .inr ⟨_, rfl, k L ρ H _ .refl S (.int _)⟩
  · cases h
theorem cal_bool1 {K : PySem.W.Frag} : CaL K (fun xs H Q => (∃ i, xs = [.int i] ∧ Q (.bl (i != 0)) H) ∨ ∃ k, xs = [.bl k] ∧ Q (.bl k) H) pBool1 := by
  intro L ρ H st vs as d Q S r h k
  unfold pBool1 at h
  split at h
  · obtain ⟨v, rfl, ra⟩ := r.one; cases h; rw [ra.int]
    exact .inl ⟨_, rfl, k L ρ H _ .refl S (.bl _)⟩
  · obtain ⟨v, rfl, ra⟩ := r.one; cases h; rw [ra.bl]
    exact .inr ⟨_, rfl, k L ρ H _ .refl S (.bl _)⟩
  · cases h
theorem cal_abs {K : PySem.W.Frag} : CaL K (fun xs H Q => ∃ i, xs = [.int i] ∧ Q (.int (if i < 0 then -i else i)) H) pAbs := by
  intro L ρ H st vs as d Q S r h k
  unfold pAbs at h
  split at h
  · obtain ⟨v, rfl, ra⟩ := r.one; cases h; rw [ra.int]
    exact ⟨_, rfl, k L ρ H _ .refl S (.int _)⟩
  · cases h
theorem cal_max2 {K : PySem.W.Frag} : CaL K (fun xs H Q => ∃ i j, xs = [.int i, .int j] ∧ Q (.int (if j > i then j else i)) H) pMax2 := by
  intro L ρ H st vs as d Q S r h k
  unfold pMax2 at h
  split at h
  · obtain ⟨v, w, rfl, ra, rb⟩ := r.two; cases h; rw [ra.int, rb.int]
    exact ⟨_, _, rfl, k L ρ H _ .refl S (.int _)⟩
  · cases h
theorem cal_min2 {K : PySem.W.Frag} : CaL K (fun xs H Q => ∃ i j, xs = [.int i, .int j] ∧ Q (.int (if j < i then j else i)) H) pMin2 := by
  intro L ρ H st vs as d Q S r h k
  unfold pMin2 at h
  split at h
  · obtain ⟨v, w, rfl, ra, rb⟩ := r.two; cases h; rw [ra.int, rb.int]
    exact ⟨_, _, rfl, k L ρ H _ .refl S (.int _)⟩
  · cases h
theorem cal_strI {K : PySem.W.Frag} : CaL K (fun xs H Q => ∃ i, xs = [.int i] ∧ i.natAbs.log2 < 1920 ∧ Q (.str (toString i)) H) pStrI := by
  intro L ρ H st vs as d Q S r h k
  unfold pStrI at h
  split at h
  · rename_i i _
    obtain ⟨v, rfl, ra⟩ := r.one
    split at h
    · rename_i hi
      cases h; rw [ra.int]
      exact ⟨_, rfl, hi, k L ρ H _ .refl S (.str _)⟩
    · cases h
  · cases h
theorem cal_gcd {K : PySem.W.Frag} : CaL K rGcd pGcd := by
  intro L ρ H st vs as d Q S r h k
  unfold pGcd at h
  split at h
  · obtain ⟨v, w, rfl, ra, rb⟩ := r.two; cases h; rw [ra.int, rb.int]
    exact ⟨_, _, rfl, k L ρ H _ .refl S (.int _)⟩
  · cases h
/-! #### tuple(..), list(..) -/
@[simp] def pTup : List A → Sto → Option PyData
  | [a], st => (seqOf a st).map .tuple
  | _, _ => none
@[simp] def pLst : List A → Sto → Option PyData
  | [a], st => (seqOf a st).map .list
  | _, _ => none
theorem cal_tup {K : PySem.W.Frag} : CaL K (fun xs H Q => ∃ p ys, xs = [.ref p] ∧ ((SqL K H p ys ∧ ∀ l, H l = none → Q (.ref l) (upd H l (.tup ys))) ∨ (SqT K H p ys ∧ Q (.ref p) H))) pTup := by
  intro L ρ H st vs as d Q S r h k
  match as, r, h with
  | [a], r, h =>
    obtain ⟨v, rfl, ra⟩ := r.one
    cases hs : seqOf a st with
    | none => simp [pTup, hs] at h
    | some ds =>
      simp only [pTup, hs, Option.map_some, Option.some.injEq] at h
      subst h
      obtain ⟨p, xs, rfl, hq, hA⟩ := seq_at S ra hs
      refine ⟨p, xs, rfl, ?_⟩
      rcases hq with hq | hq
      · exact .inl ⟨hq, fun l hl => k L ρ _ _ (.new hl) (S.new hl) (.tup (SqT.of upd_same) (hA.step S (.new hl)))⟩
      · exact .inr ⟨hq, k L ρ H _ .refl S (.tup hq hA)⟩
  | [], r, h => cases h
  | _ :: _ :: _, r, h => cases h
theorem cal_lst {K : PySem.W.Frag} : CaL K (fun xs H Q => ∃ p ys, xs = [.ref p] ∧ (SqL K H p ys ∨ SqT K H p ys) ∧ ∀ l, H l = none → Q (.ref l) (upd H l (.lst ys))) pLst := by
  intro L ρ H st vs as d Q S r h k
  match as, r, h with
  | [a], r, h =>
    obtain ⟨v, rfl, ra⟩ := r.one
    cases hs : seqOf a st with
    | none => simp [pLst, hs] at h
    | some ds =>
      simp only [pLst, hs, Option.map_some, Option.some.injEq] at h
      subst h
      obtain ⟨p, xs, rfl, hq, hA⟩ := seq_at S ra hs
      exact ⟨p, xs, rfl, hq, fun l hl => k L ρ _ _ (.new hl) (S.new hl) (.lst (S.fresh hl) upd_same (hA.step S (.new hl)))⟩
  | [], r, h => cases h
  | _ :: _ :: _, r, h => cases h
/-! #### sum, all, any -/
def intsOf : List PyData → Option (List Int)
  | [] => some []
  | .int i :: r => (intsOf r).map (i :: ·)
  | _ => none
def boolsOf : List PyData → Option (List Bool)
  | [] => some []
  | .bool i :: r => (boolsOf r).map (i :: ·)
  | _ => none
theorem intsOf_map : ∀ (ns : List Int), intsOf (ns.map .int) = some ns
  | [] => rfl
  | n :: r => by simp [intsOf, intsOf_map r]
theorem boolsOf_map : ∀ (ns : List Bool), boolsOf (ns.map .bool) = some ns
  | [] => rfl
  | n :: r => by simp [boolsOf, boolsOf_map r]
theorem RpAll.ints {K : PySem.W.Frag} {L : List Addr} {H : Hp} : ∀ {xs : List V} {ds : List PyData} {ns : List Int}, RpAll K L H xs ds → intsOf ds = some ns → xs = ns.map V.int
  | _, [], _, .nil, e => by cases e; rfl
  | _, .int i :: r, ns, .cons h t, e => by
    cases q : intsOf r with
    | none => simp [intsOf, q] at e
    | some ms =>
      simp only [intsOf, q, Option.map_some, Option.some.injEq] at e
      subst e
      cases h
      rw [RpAll.ints t q]; rfl
  | _, .none :: r, ns, .cons h t, e => by simp [intsOf] at e
  | _, .bool _ :: r, ns, .cons h t, e => by simp [intsOf] at e
  | _, .str _ :: r, ns, .cons h t, e => by simp [intsOf] at e
  | _, .list _ :: r, ns, .cons h t, e => by simp [intsOf] at e
  | _, .tuple _ :: r, ns, .cons h t, e => by simp [intsOf] at e
  | _, .dict _ :: r, ns, .cons h t, e => by simp [intsOf] at e
theorem RpAll.bools {K : PySem.W.Frag} {L : List Addr} {H : Hp} : ∀ {xs : List V} {ds : List PyData} {ns : List Bool}, RpAll K L H xs ds → boolsOf ds = some ns → xs = ns.map V.bl
  | _, [], _, .nil, e => by cases e; rfl
  | _, .bool i :: r, ns, .cons h t, e => by
    cases q : boolsOf r with
    | none => simp [boolsOf, q] at e
    | some ms =>
      simp only [boolsOf, q, Option.map_some, Option.some.injEq] at e
      subst e
      cases h
      rw [RpAll.bools t q]; rfl
  | _, .none :: r, ns, .cons h t, e => by simp [boolsOf] at e
  | _, .int _ :: r, ns, .cons h t, e => by simp [boolsOf] at e
  | _, .str _ :: r, ns, .cons h t, e => by simp [boolsOf] at e
  | _, .list _ :: r, ns, .cons h t, e => by simp [boolsOf] at e
  | _, .tuple _ :: r, ns, .cons h t, e => by simp [boolsOf] at e
  | _, .dict _ :: r, ns, .cons h t, e => by simp [boolsOf] at e
/-- a list (not a tuple) -/
def lstOf : A → Sto → Option (List PyData)
  | .d (.list ds), _ => some ds
  | .box i, st => st[i]?
  | _, _ => none
theorem lst_at {K : PySem.W.Frag} {L ρ : List Addr} {H : Hp} {st : Sto} {v : V} {a : A} {ds : List PyData} (S : StOk K L ρ H st) (r : RpA K L ρ H v a) (h : lstOf a st = some ds) :
    ∃ p xs, v = .ref p ∧ SqL K H p xs ∧ RpAll K L H xs ds := by
  cases r with
  | d r =>
    cases r with
    | lst hL hR hA => cases h; exact ⟨_, _, rfl, SqL.of hR, hA⟩
    | _ => cases h
  | box e =>
    obtain ⟨xs, q, hA⟩ := S.cell _ _ _ e h
    exact ⟨_, xs, rfl, SqL.of q, hA⟩
  | scr e hA => cases h
theorem tup_at {K : PySem.W.Frag} {L ρ : List Addr} {H : Hp} {v : V} {ds : List PyData} (r : RpA K L ρ H v (.d (.tuple ds))) :
    ∃ p xs, v = .ref p ∧ SqT K H p xs ∧ RpAll K L H xs ds := by
  cases r with
  | d r => cases r with
    | tup hT hA => exact ⟨_, _, rfl, hT, hA⟩
@[simp] def pSumL : List A → Sto → Option PyData
  | [a], st => ((lstOf a st).bind intsOf).map fun ns => .int ns.sum
  | _, _ => none
@[simp] def pAllL : List A → Sto → Option PyData
  | [a], st => ((lstOf a st).bind boolsOf).map fun ns => .bool (ns.all id)
  | _, _ => none
@[simp] def pAnyL : List A → Sto → Option PyData
  | [a], st => ((lstOf a st).bind boolsOf).map fun ns => .bool (ns.any id)
  | _, _ => none
theorem cal_sum {K : PySem.W.Frag} : CaL K (rSum K) pSumL := by
  intro L ρ H st vs as d Q S r h k
  match as, r, h with
  | [a], r, h =>
    obtain ⟨v, rfl, ra⟩ := r.one
    cases hs : lstOf a st with
    | none => simp [pSumL, hs] at h
    | some ds =>
      cases hn : intsOf ds with
      | none => simp [pSumL, hs, hn] at h
      | some ns =>
        simp only [pSumL, hs, hn, Option.bind_some, Option.map_some, Option.some.injEq] at h
        subst h
        obtain ⟨p, xs, rfl, hq, hA⟩ := lst_at S ra hs
        rw [hA.ints hn] at hq
        exact ⟨p, ns, rfl, hq, k L ρ H _ .refl S (.int _)⟩
  | [], r, h => cases h
  | _ :: _ :: _, r, h => cases h
theorem cal_all {K : PySem.W.Frag} : CaL K (rAll K) pAllL := by
  intro L ρ H st vs as d Q S r h k
  match as, r, h with
  | [a], r, h =>
    obtain ⟨v, rfl, ra⟩ := r.one
    cases hs : lstOf a st with
    | none => simp [pAllL, hs] at h
    | some ds =>
      cases hn : boolsOf ds with
      | none => simp [pAllL, hs, hn] at h
      | some ns =>
        simp only [pAllL, hs, hn, Option.bind_some, Option.map_some, Option.some.injEq] at h
        subst h
        obtain ⟨p, xs, rfl, hq, hA⟩ := lst_at S ra hs
        rw [hA.bools hn] at hq
        exact ⟨p, ns, rfl, hq, k L ρ H _ .refl S (.bl _)⟩
  | [], r, h => cases h
  | _ :: _ :: _, r, h => cases h
theorem cal_any {K : PySem.W.Frag} : CaL K (rAny K) pAnyL := by
  intro L ρ H st vs as d Q S r h k
  match as, r, h with
  | [a], r, h =>
    obtain ⟨v, rfl, ra⟩ := r.one
    cases hs : lstOf a st with
    | none => simp [pAnyL, hs] at h
    | some ds =>
      cases hn : boolsOf ds with
      | none => simp [pAnyL, hs, hn] at h
      | some ns =>
        simp only [pAnyL, hs, hn, Option.bind_some, Option.map_some, Option.some.injEq] at h
        subst h
        obtain ⟨p, xs, rfl, hq, hA⟩ := lst_at S ra hs
        rw [hA.bools hn] at hq
        exact ⟨p, ns, rfl, hq, k L ρ H _ .refl S (.bl _)⟩
  | [], r, h => cases h
  | _ :: _ :: _, r, h => cases h
@[simp] theorem seqOf_t {ds st} : seqOf (.d (.tuple ds)) st = some ds := rfl
@[simp] theorem seqOf_l {ds st} : seqOf (.d (.list ds)) st = some ds := rfl
@[simp] theorem seqOf_b {i st} : seqOf (.box i) st = st[i]? := rfl
@[simp] theorem seqOf_s {ds st} : seqOf (.scr ds) st = some ds := rfl
@[simp] theorem seqOf_i {i st} : seqOf (.d (.int i)) st = none := rfl
@[simp] theorem seqOf_x {i st} : seqOf (.d (.str i)) st = none := rfl
@[simp] theorem seqOf_n {st} : seqOf (.d .none) st = none := rfl
@[simp] theorem seqOf_o {i st} : seqOf (.d (.bool i)) st = none := rfl
@[simp] theorem lstOf_l {ds st} : lstOf (.d (.list ds)) st = some ds := rfl
@[simp] theorem lstOf_b {i st} : lstOf (.box i) st = st[i]? := rfl
@[simp] theorem intsOf_m (ns : List Int) : intsOf (ns.map .int) = some ns := intsOf_map ns
@[simp] theorem boolsOf_m (ns : List Bool) : boolsOf (ns.map .bool) = some ns := boolsOf_map ns
end LF
set_option Elab.async false
set_option linter.all false
set_option maxRecDepth 100000
set_option maxHeartbeats 2000000
namespace LF
open PySem PySem.Spec PyProof.Rows L2

/-! ### operators on scalars -/
@[simp] def pI (c : Int → Int → Bool) (g : Int → Int → Int) : A → A → Sto → Option PyData
  | .d (.int i), .d (.int j), _ => if c i j = true then some (.int (g i j)) else none
  | _, _, _ => none
@[simp] def pI0 (g : Int → Int → Int) : A → A → Sto → Option PyData
  | .d (.int i), .d (.int j), _ => some (.int (g i j))
  | _, _, _ => none
@[simp] def pB0 (g : Int → Int → Bool) : A → A → Sto → Option PyData
  | .d (.int i), .d (.int j), _ => some (.bool (g i j))
  | _, _, _ => none
section
variable {K : PySem.W.Frag}
theorem opl_I {C : Int → Int → Prop} {c : Int → Int → Bool} {g : Int → Int → Int} (h : ∀ i j, c i j = true → C i j) : OpL K (rI C fun i j => .int (g i j)) (pI c g) := by
  intro L ρ H st x y a b d Q S ra rb e k
  unfold pI at e
  split at e
  · split at e
    · rename_i hc
      cases e; rw [ra.int, rb.int]
      exact ⟨_, _, rfl, rfl, h _ _ hc, k L ρ H _ .refl S (.int _)⟩
    · cases e
  · cases e
theorem opl_I0 {g : Int → Int → Int} : OpL K (rI0 fun i j => .int (g i j)) (pI0 g) := by
  intro L ρ H st x y a b d Q S ra rb e k
  unfold pI0 at e
  split at e
  · cases e; rw [ra.int, rb.int]
    exact ⟨_, _, rfl, rfl, k L ρ H _ .refl S (.int _)⟩
  · cases e
theorem opl_B0 {g : Int → Int → Bool} : OpL K (rI0 fun i j => .bl (g i j)) (pB0 g) := by
  intro L ρ H st x y a b d Q S ra rb e k
  unfold pB0 at e
  split at e
  · cases e; rw [ra.int, rb.int]
    exact ⟨_, _, rfl, rfl, k L ρ H _ .refl S (.bl _)⟩
  · cases e
theorem OpL.or {r r' : R2} {p : A → A → Sto → Option PyData} (h : ∀ L ρ H st x y a b d Q, StOk K L ρ H st → RpA K L ρ H x a → RpA K L ρ H y b → p a b st = some d →
    (∀ L' ρ' H' v, Stp L ρ H L' ρ' H' → StOk K L' ρ' H' st → Rp K L' H' v d → Q v H') → r x y H Q ∨ r' x y H Q) : OpL K (fun x y H Q => r x y H Q ∨ r' x y H Q) p :=
  fun L ρ H st x y a b d Q S ra rb e k => h L ρ H st x y a b d Q S ra rb e k
/-! ### + -/
def bigN : Nat := 1000000
theorem big_line : bigN ≤ sizeLine := by rw [sizeLine_eq]; decide
@[simp] def pAdd : A → A → Sto → Option PyData
  | .d (.int i), .d (.int j), _ => some (.int (i + j))
  | .d (.tuple a), .d (.tuple b), _ => if a.length + b.length ≤ bigN then some (.tuple (a ++ b)) else none
  | .d (.list a), .d (.list b), _ => if a.length + b.length ≤ bigN then some (.list (a ++ b)) else none
  | _, _, _ => none
def rAddU (K : PySem.W.Frag) : R2 := fun x y H Q => (rI0 fun i j => .int (i + j)) x y H Q ∨ (rCatA K x y H Q ∨ rCat x y H Q)
theorem op_addU {X : Cx} : OpR X (binaryOp .Add) (rAddU X.K) := op_add.or (op_catA.or op_cat)
theorem lst_in {L : List Addr} {H : Hp} {v : V} {ds : List PyData} (r : Rp K L H v (.list ds)) : ∃ p xs, v = .ref p ∧ p ∉ L ∧ H p = some (.lst xs) ∧ RpAll K L H xs ds := by
  cases r with
  | lst hL hR hA => exact ⟨_, _, rfl, hL, hR, hA⟩
theorem opl_add : OpL K (rAddU K) pAdd := by
  intro L ρ H st x y a b d Q S ra rb e k
  unfold pAdd at e
  split at e
  · cases e; rw [ra.int, rb.int]
    exact .inl ⟨_, _, rfl, rfl, k L ρ H _ .refl S (.int _)⟩
  · split at e
    · rename_i hz
      cases e
      obtain ⟨p, xs, rfl, hp, hA⟩ := tup_at ra
      obtain ⟨q, ys, rfl, hq, hB⟩ := tup_at rb
      refine .inr (.inl ⟨p, q, xs, ys, rfl, rfl, hp, hq, ?_, fun e0 => ?_, fun _ e1 => ?_, fun _ _ l hl => ?_⟩)
      · rw [hA.length, hB.length]; exact Nat.le_trans hz big_line
      · refine k L ρ H _ .refl S ?_
        subst e0; cases hA
        exact .tup hq hB
      · refine k L ρ H _ .refl S ?_
        subst e1; cases hB
        rw [List.append_nil]
        exact .tup hp hA
      · exact k L ρ _ _ (.new hl) (S.new hl) (.tup (SqT.of upd_same) ((hA.step S (.new hl)).append (hB.step S (.new hl))))
    · cases e
  · split at e
    · rename_i hz
      cases e
      cases ra with
      | d ra =>
        cases rb with
        | d rb =>
          obtain ⟨p, xs, rfl, _, hp, hA⟩ := lst_in ra
          obtain ⟨q, ys, rfl, _, hq, hB⟩ := lst_in rb
          refine .inr (.inr ⟨p, q, xs, ys, rfl, rfl, hp, hq, ?_, fun l hl => ?_⟩)
          · rw [hA.length, hB.length]; exact Nat.le_trans hz big_line
          · exact k L ρ _ _ (.new hl) (S.new hl) (.lst (S.fresh hl) upd_same ((hA.step S (.new hl)).append (hB.step S (.new hl))))
    · cases e
  · cases e
/-! ### ==, != of data; is None; in -/
@[simp] def pEq : A → A → Sto → Option PyData
  | .d x, .d y, _ => if (SeqAt.shaped x && SeqAt.shaped y) = true then some (.bool (PyData.eqv x y)) else none
  | _, _, _ => none
@[simp] def pNe : A → A → Sto → Option PyData
  | .d x, .d y, _ => if (SeqAt.shaped x && SeqAt.shaped y) = true then some (.bool (!PyData.eqv x y)) else none
  | _, _, _ => none
theorem opl_eq : OpL K (rEqD K) pEq := by
  intro L ρ H st x y a b d Q S ra rb e k
  unfold pEq at e
  split at e
  · split at e
    · rename_i hs
      rw [Bool.and_eq_true] at hs
      cases e
      cases ra with
      | d ra => cases rb with
        | d rb => exact ⟨_, _, ra.dp, rb.dp, hs.1, hs.2, k L ρ H _ .refl S (.bl _)⟩
    · cases e
  · cases e
theorem opl_ne : OpL K (rNeD K) pNe := by
  intro L ρ H st x y a b d Q S ra rb e k
  unfold pNe at e
  split at e
  · split at e
    · rename_i hs
      rw [Bool.and_eq_true] at hs
      cases e
      cases ra with
      | d ra => cases rb with
        | d rb => exact ⟨_, _, ra.dp, rb.dp, hs.1, hs.2, k L ρ H _ .refl S (.bl _)⟩
    · cases e
  · cases e
def isNone : PyData → Bool
  | .none => true
  | _ => false
@[simp] def pIsN : A → A → Sto → Option PyData
  | .d x, .d .none, _ => some (.bool (isNone x))
  | _, _, _ => none
@[simp] def pNotN : A → A → Sto → Option PyData
  | .d x, .d .none, _ => some (.bool (!isNone x))
  | _, _, _ => none
theorem rp_non {L : List Addr} {H : Hp} {v : V} {x : PyData} (r : Rp K L H v x) : decide (v = .non) = isNone x := by
  cases r <;> simp [isNone]
theorem opl_isN : OpL K (fun x y H Q => y = .non ∧ Q (.bl (decide (x = .non))) H) pIsN := by
  intro L ρ H st x y a b d Q S ra rb e k
  unfold pIsN at e
  split at e
  · cases e
    cases ra with
    | d ra => cases rb with
      | d rb => cases rb; exact ⟨rfl, by rw [rp_non ra]; exact k L ρ H _ .refl S (.bl _)⟩
  · cases e
theorem opl_notN : OpL K (fun x y H Q => y = .non ∧ Q (.bl (!decide (x = .non))) H) pNotN := by
  intro L ρ H st x y a b d Q S ra rb e k
  unfold pNotN at e
  split at e
  · cases e
    cases ra with
    | d ra => cases rb with
      | d rb => cases rb; exact ⟨rfl, by rw [rp_non ra]; exact k L ρ H _ .refl S (.bl _)⟩
  · cases e
/-- in, not in: a tuple -/
def rInT (K : PySem.W.Frag) : R2 := fun x y H Q => ∃ d ds, Dp K H x d ∧ Dp K H y (.tuple ds) ∧ SeqAt.shaped d = true ∧ SeqAt.shaped (.tuple ds) = true ∧ Q (.bl (ds.any fun z => PyData.eqv z d)) H
def rNotInT (K : PySem.W.Frag) : R2 := fun x y H Q => ∃ d ds, Dp K H x d ∧ Dp K H y (.tuple ds) ∧ SeqAt.shaped d = true ∧ SeqAt.shaped (.tuple ds) = true ∧ Q (.bl (!ds.any fun z => PyData.eqv z d)) H
end
section
variable {X : Cx}
theorem op_inT (hu : X.A.units + 65 < cLine) : OpR X (compareOp .In) (rInT X.K) := by
  intro pins s σ H x y v u Q I rx ry h
  obtain ⟨d, ds, hd, hds, s1, s2, q⟩ := h
  obtain ⟨as, r1⟩ := Dp.reads I d x v hd rx
  obtain ⟨bs, r2⟩ := Dp.reads I _ y u hds ry
  exact SeqAt.in_tuple_reads r2 r1 (SeqAt.canLay_of_shaped s2) (SeqAt.canLay_of_shaped s1) (room_in_shaped s1 hu) ⟨.bl _, H, I, rfl, q⟩
theorem op_notInT (hu : X.A.units + 65 < cLine) : OpR X (compareOp .NotIn) (rNotInT X.K) := by
  intro pins s σ H x y v u Q I rx ry h
  obtain ⟨d, ds, hd, hds, s1, s2, q⟩ := h
  obtain ⟨as, r1⟩ := Dp.reads I d x v hd rx
  obtain ⟨bs, r2⟩ := Dp.reads I _ y u hds ry
  exact SeqAt.notIn_tuple_reads r2 r1 (SeqAt.canLay_of_shaped s2) (SeqAt.canLay_of_shaped s1) (room_in_shaped s1 hu) ⟨.bl _, H, I, rfl, q⟩
end
section
variable {K : PySem.W.Frag}
@[simp] def pIn (f : Bool → Bool) : A → A → Sto → Option PyData
  | .d x, .d (.tuple ds), _ => if (SeqAt.shaped x && SeqAt.shaped (.tuple ds)) = true then some (.bool (f (ds.any fun z => PyData.eqv z x))) else none
  | .d x, .d (.list ds), _ => if (SeqAt.shaped x && SeqAt.shaped (.list ds)) = true then some (.bool (f (ds.any fun z => PyData.eqv z x))) else none
  | _, _, _ => none
theorem opl_in : OpL K (fun x y H Q => rInT K x y H Q ∨ rInD K x y H Q) (pIn id) := by
  intro L ρ H st x y a b d Q S ra rb e k
  unfold pIn at e
  split at e
  · split at e
    · rename_i hs
      rw [Bool.and_eq_true] at hs
      cases e
      cases ra with
      | d ra => cases rb with
        | d rb => exact .inl ⟨_, _, ra.dp, rb.dp, hs.1, hs.2, k L ρ H _ .refl S (.bl _)⟩
    · cases e
  · split at e
    · rename_i hs
      rw [Bool.and_eq_true] at hs
      cases e
      cases ra with
      | d ra => cases rb with
        | d rb => exact .inr ⟨_, _, ra.dp, rb.dp, hs.1, hs.2, k L ρ H _ .refl S (.bl _)⟩
    · cases e
  · cases e
theorem opl_notIn : OpL K (fun x y H Q => rNotInT K x y H Q ∨ rNotInD K x y H Q) (pIn not) := by
  intro L ρ H st x y a b d Q S ra rb e k
  unfold pIn at e
  split at e
  · split at e
    · rename_i hs
      rw [Bool.and_eq_true] at hs
      cases e
      cases ra with
      | d ra => cases rb with
        | d rb => exact .inl ⟨_, _, ra.dp, rb.dp, hs.1, hs.2, k L ρ H _ .refl S (.bl _)⟩
    · cases e
  · split at e
    · rename_i hs
      rw [Bool.and_eq_true] at hs
      cases e
      cases ra with
      | d ra => cases rb with
        | d rb => exact .inr ⟨_, _, ra.dp, rb.dp, hs.1, hs.2, k L ρ H _ .refl S (.bl _)⟩
    · cases e
  · cases e
/-! ### unary minus -/
@[simp] def gNeg (g : GE) : GE := fun env st => (g env st).bind fun a st1 => match a with
  | .d (.int i) => .ok (.d (.int (-i))) st1
  | _ => .bad
end
section
variable {X : Cx} {E : L2.St → XK} {a b e : Expr} {es : List Expr} {ga gb g : GE} {pos p : Pos}
theorem le_neg (ha : LE X E a g) : LE X E (.UnaryOp .USub a pos) (gNeg g) := by
  refine (pe_un un_neg ha).imp fun σ H Q h => ?_
  obtain ⟨L, ρ, st, env, S, V, h⟩ := h
  refine ⟨L, ρ, st, env, S, V, Out.bind S h fun a st1 L1 ρ1 H1 x s1 S1 r1 h1 => ?_⟩
  split at h1
  · rename_i i
    rw [r1.int]
    exact ⟨i, rfl, h1 L1 ρ1 H1 _ .refl S1 (.d (.int _))⟩
  · exact h1.elim
/-! ### displays -/
def dsOf : List A → Option (List PyData)
  | [] => some []
  | .d x :: r => (dsOf r).map (x :: ·)
  | _ => none
theorem RpAs.all {K : PySem.W.Frag} {L ρ : List Addr} {H : Hp} : ∀ {vs : List V} {as : List A} {ds : List PyData}, RpAs K L ρ H vs as → dsOf as = some ds → RpAll K L H vs ds
  | _, [], _, .nil, e => by cases e; exact .nil
  | _, .d x :: r, ds, .cons h t, e => by
    cases q : dsOf r with
    | none => simp [dsOf, q] at e
    | some es =>
      simp only [dsOf, q, Option.map_some, Option.some.injEq] at e
      subst e
      cases h with
      | d h => exact .cons h (RpAs.all t q)
  | _, .box _ :: r, ds, .cons h t, e => by simp [dsOf] at e
  | _, .scr _ :: r, ds, .cons h t, e => by simp [dsOf] at e
@[simp] def gTupD (ga : GA) : GE := fun env st => (ga env st).bind fun as st1 => ofO ((dsOf as).map .tuple) st1
@[simp] def gLstD (ga : GA) : GE := fun env st => (ga env st).bind fun as st1 => ofO ((dsOf as).map .list) st1
theorem GLen.ds {as : List A} {ds : List PyData} : dsOf as = some ds → ds.length = as.length := by
  induction as generalizing ds with
  | nil => intro e; cases e; rfl
  | cons a r ih =>
    intro e
    cases a with
    | d x =>
      cases q : dsOf r with
      | none => simp [dsOf, q] at e
      | some es =>
        simp only [dsOf, q, Option.map_some, Option.some.injEq] at e
        subst e
        simp [ih q]
    | box _ => simp [dsOf] at e
    | scr _ => simp [dsOf] at e
theorem le_tupD {x1 n} {gs : GA} (h : LA X E es gs) (hl : GLen gs n) (hn : n ≤ sizeLine := by decide) : LE X E (.Tuple es x1 pos) (gTupD gs) := by
  refine (pe_tup h).imp fun σ H Q h => ?_
  obtain ⟨L, ρ, st, env, S, V, h⟩ := h
  refine ⟨L, ρ, st, env, S, V, OutL.bindN S hl h fun as st1 L1 ρ1 H1 vs s1 S1 r1 hn1 h1 => ?_⟩
  cases q : dsOf as with
  | none => rw [q] at h1; exact h1.elim
  | some ds =>
    rw [q] at h1
    refine ⟨by rw [r1.length, hn1]; exact hn, fun p hp => ?_⟩
    exact h1 L1 ρ1 _ _ (.new hp) (S1.new hp) (.d (.tup (SqT.of upd_same) ((r1.all q).step S1 (.new hp))))
theorem le_lstD {n} {gs : GA} (h : LA X E es gs) (hl : GLen gs n) (hn : n ≤ sizeLine := by decide) : LE X E (.List es pos) (gLstD gs) := by
  refine (pe_lst h).imp fun σ H Q h => ?_
  obtain ⟨L, ρ, st, env, S, V, h⟩ := h
  refine ⟨L, ρ, st, env, S, V, OutL.bindN S hl h fun as st1 L1 ρ1 H1 vs s1 S1 r1 hn1 h1 => ?_⟩
  cases q : dsOf as with
  | none => rw [q] at h1; exact h1.elim
  | some ds =>
    rw [q] at h1
    refine ⟨by rw [r1.length, hn1]; exact hn, fun p hp => ?_⟩
    exact h1 L1 ρ1 _ _ (.new hp) (S1.new hp) (.d (.lst (S1.fresh hp) upd_same ((r1.all q).step S1 (.new hp))))
/-! ### x[i] -/
theorem atI_rp {K : PySem.W.Frag} {L : List Addr} {H : Hp} {xs : List V} {ds : List PyData} {i : Int} {d : PyData} (h : RpAll K L H xs ds) (e : atI ds i = some d) : ∃ v, atI xs i = some v ∧ Rp K L H v d := by
  unfold atI at e ⊢
  rw [h.length]
  cases q : ixN ds.length i with
  | none => rw [q] at e; cases e
  | some j =>
    rw [q] at e
    exact h.get e
@[simp] def pIx : A → A → Sto → Option PyData
  | a, .d (.int i), st => (seqOf a st).bind fun ds => atI ds i
  | _, _, _ => none
theorem opl_ix {K : PySem.W.Frag} : OpL K (rIx K) pIx := by
  intro L ρ H st x y a b d Q S ra rb e k
  unfold pIx at e
  split at e
  · rename_i i
    cases hs : seqOf a st with
    | none => rw [hs] at e; cases e
    | some ds =>
      rw [hs, Option.bind_some] at e
      obtain ⟨p, xs, rfl, hq, hA⟩ := seq_at S ra hs
      obtain ⟨v, e1, r1⟩ := atI_rp hA e
      rw [rb.int]
      rcases hq with hq | hq
      · exact .inl ⟨p, xs, i, v, rfl, rfl, hq, e1, k L ρ H _ .refl S r1⟩
      · exact .inr (.inl ⟨p, xs, i, v, rfl, rfl, hq, e1, k L ρ H _ .refl S r1⟩)
  · cases e
theorem le_ix (ha : LE X E a ga) (hb : LE X E b gb) (hs : PlainIx b := by exact fun _ _ => rfl) : LE X E (.Subscript a b pos) (g2 pIx ga gb) := (pe_ix ix_seq ha hb hs).imp (lift_op opl_ix)
/-! ### x[lo:hi] -/
structure LO (X : Cx) (E : L2.St → XK) (e : Option Expr) (g : Env → Sto → R (Option Int)) : Prop where
  run : PO X e (fun σ H Q => ∃ L ρ st env, StOk X.K L ρ H st ∧ RpE X.K L ρ H env σ ∧ (match g env st with
    | .ok o st' => ∀ L' ρ' H', Stp L ρ H L' ρ' H' → StOk X.K L' ρ' H' st' → Q o H'
    | .exc c fs st' => OutX X.K X.mg (E σ) L ρ H c fs st'
    | .bad => False))
@[simp] def oNone : Env → Sto → R (Option Int) := fun _ st => .ok none st
@[simp] def oSome (g : GE) : Env → Sto → R (Option Int) := fun env st => (g env st).bind fun a st1 => match a with
  | .d (.int i) => .ok (some i) st1
  | _ => .bad
theorem PO.imp' {e : Option Expr} {t t' : TO} (h : PO X e t) (k : ∀ σ H Q, t' σ H Q → t σ H Q) : PO X e t' := ⟨fun pins s σ H Q I q => h.run pins s σ H Q I (k σ H Q q)⟩
theorem lo_none : LO X E none oNone := ⟨PO.imp' po_none fun σ H Q h => by
  obtain ⟨L, ρ, st, env, S, V, h⟩ := h
  exact h L ρ H .refl S⟩
theorem lo_some (ha : LE X E a ga) : LO X E (some a) (oSome ga) := ⟨PO.imp' (po_some ha) fun σ H Q h => by
  obtain ⟨L, ρ, st, env, S, V, h⟩ := h
  refine ⟨L, ρ, st, env, S, V, ?_⟩
  unfold oSome at h
  cases q : ga env st with
  | bad => rw [q] at h; exact h
  | exc c fs st' => rw [q] at h; exact h
  | ok a st1 =>
    rw [q, R.bind_ok] at h
    intro L1 ρ1 H1 v s1 S1 r1
    split at h
    · rename_i o st' e
      split at e
      · rename_i i
        cases e
        rw [r1.int]
        exact ⟨i, rfl, h L1 ρ1 H1 s1 S1⟩
      · cases e
    · rename_i e; split at e <;> cases e
    · exact h.elim⟩
def cutD (xs : List PyData) (lo hi : Option Int) : List PyData := (xs.drop (HT.sIx xs.length 0 lo)).take (HT.sIx xs.length xs.length hi - HT.sIx xs.length 0 lo)
@[simp] def gSl (g : GE) (lo hi : Env → Sto → R (Option Int)) : GE := fun env st => (g env st).bind fun a st1 => (lo env st1).bind fun l st2 => (hi env st2).bind fun h st3 => match a with
  | .d (.tuple ds) => .ok (.d (.tuple (cutD ds l h))) st3
  | .d (.list ds) => .ok (.d (.list (cutD ds l h))) st3
  | _ => .bad
def rSlU (K : PySem.W.Frag) : V → Option Int → Option Int → Hp → VK → Prop := fun x lo hi H Q => rSlA K x lo hi H Q ∨ rSlL K x lo hi H Q
theorem cut_whole {xs : List PyData} {lo hi : Option Int} (h : HT.sIx xs.length 0 lo = 0 ∧ HT.sIx xs.length xs.length hi = xs.length) : cutD xs lo hi = xs := by
  unfold cutD
  rw [h.1, h.2]
  simp
theorem cut_rp {K : PySem.W.Frag} {L : List Addr} {H : Hp} {xs : List V} {ds : List PyData} (h : RpAll K L H xs ds) (lo hi : Option Int) : RpAll K L H (cutV xs lo hi) (cutD ds lo hi) := by
  unfold cutV cutD
  rw [h.length]
  exact (h.drop _).take _
theorem le_sl {lo hi : Option Expr} {gl gh : Env → Sto → R (Option Int)} {p2 : Pos} (ha : LE X E a ga) (hl : LO X E lo gl) (hh : LO X E hi gh) : LE X E (.Subscript a (.Slice lo hi none p2) pos) (gSl ga gl gh) := by
  refine (pe_slice (sl_tupA.or sl_list) ha hl.run hh.run).imp fun σ H Q h => ?_
  obtain ⟨L, ρ, st, env, S, V, h⟩ := h
  refine ⟨L, ρ, st, env, S, V, Out.bind S h fun a st1 L1 ρ1 H1 x s1 S1 r1 h1 => ⟨L1, ρ1, st1, env, S1, V.step S s1, ?_⟩⟩
  cases e1 : gl env st1 with
  | bad => rw [e1] at h1; exact h1
  | exc c fs st' => rw [e1] at h1; exact h1
  | ok l st2 =>
    rw [e1, R.bind_ok] at h1
    intro L2' ρ2 H2 s2 S2
    have V2 := (V.step S s1).step S1 s2
    have r2 := r1.step S1 s2
    have h2 := Out.step S1 s2 S2 h1
    refine ⟨L2', ρ2, st2, env, S2, V2, ?_⟩
    cases e2 : gh env st2 with
    | bad => rw [e2] at h2; exact h2
    | exc c fs st' => rw [e2] at h2; exact h2
    | ok u st3 =>
      rw [e2, R.bind_ok] at h2
      intro L3 ρ3 H3 s3 S3
      have r3 := r2.step S2 s3
      have h3 := Out.step S2 s3 S3 h2
      split at h3
      · rename_i ds
        obtain ⟨p, xs, rfl, hT, hA⟩ := tup_at r3
        refine .inl ⟨p, xs, rfl, hT, fun w => ?_, fun _ l hl => ?_⟩
        · refine h3 L3 ρ3 H3 _ .refl S3 (.d ?_)
          rw [hA.length] at w
          rw [cut_whole w]
          exact .tup hT hA
        · exact h3 L3 ρ3 _ _ (.new hl) (S3.new hl) (.d (.tup (SqT.of upd_same) ((cut_rp hA _ _).step S3 (.new hl))))
      · rename_i ds
        cases r3 with
        | d r3 =>
          obtain ⟨p, xs, rfl, _, hR, hA⟩ := lst_in r3
          exact .inr ⟨p, xs, rfl, SqL.of hR, fun l hl => h3 L3 ρ3 _ _ (.new hl) (S3.new hl) (.d (.lst (S3.fresh hl) upd_same ((cut_rp hA _ _).step S3 (.new hl))))⟩
      · exact h3.elim
/-! ### isinstance(x, T) -/
def tyOf : PyData → String
  | .none => "NoneType"
  | .bool _ => "bool"
  | .int _ => "int"
  | .str _ => "str"
  | .list _ => "list"
  | .tuple _ => "tuple"
  | .dict _ => "dict"
def isTy (T : String) (d : PyData) : Bool := T == tyOf d || (T == "int" && tyOf d == "bool")
def tyKnown (T : String) : Bool := T == "int" || T == "bool" || T == "str" || T == "tuple" || T == "list"
theorem kitB_is {T : String} (h : tyKnown T = true) (d : PyData) : kitB (tyOf d) T = some (isTy T d) := by
  simp only [tyKnown, Bool.or_eq_true, beq_iff_eq] at h
  rcases h with (((h | h) | h) | h) | h <;> subst h <;> cases d <;> simp only [tyOf, isTy] <;> decide +kernel
def gIsi (T : String) (g : GE) : GE := fun env st => (g env st).bind fun a st1 => match a with
  | .d x => if tyKnown T = true then .ok (.d (.bool (isTy T x))) st1 else .bad
  | _ => .bad
theorem le_isi {T : Str} {Tn : String} {tp ip : Pos} (ha : LE X E a ga) (hg : Gl X "isinstance") (hm : X.mg "isinstance" = none) (hgT : Gl X T) (hmT : X.mg T = none) (hvT : bootBuiltins T = some (.type Tn)) (hT1 : T ≠ "__name__" := by decide) (hT2 : (T == ("__debug__" : Str)) = false := by decide)
    (hs : starEach [a, .Name T tp] X.env = (false, eval a X.env) :: starEach [.Name T tp] X.env := by rfl) (hp : (backTo pos (starEach [.Name T tp] X.env)).any (·.1) = false := by rfl) : LE X E (.Call (.Name "isinstance" ip) [a, .Name T tp] [] pos) (gIsi Tn ga) := by
  have hTy : PE X (.Name T tp) (tC (.ty Tn)) := pe_bltn hgT hmT hvT rfl hT1 hT2
  refine (pe_callB call_isi hg hm (by decide +kernel) (pa_cons ha (pa_cons hTy pa_nil) hs) (by decide) (by decide) hs hp).imp fun σ H Q h => ?_
  obtain ⟨L, ρ, st, env, S, V, h⟩ := h
  refine ⟨L, ρ, st, env, S, V, Out.bind S h fun a st1 L1 ρ1 H1 x s1 S1 r1 h1 => ?_⟩
  split at h1
  · rename_i x'
    split at h1
    · rename_i hk
      refine ⟨_, _, .type (tyOf x'), .type Tn, isTy Tn x', rfl, .ty _, ?_, kit_ty (kitB_is hk x'), h1 L1 ρ1 H1 _ .refl S1 (.d (.bl _))⟩
      cases r1 with
      | d r => cases r with
        | non => exact .base .non
        | bl b => exact .base (.bl b)
        | int i => exact .base (.int i)
        | str z => exact .base (.str z)
        | lst _ hR _ => exact .base (.lst hR)
        | tup hT _ =>
          rcases hT with (e | ⟨o, e⟩) | ⟨o, its, n, e, c, _⟩
          · exact .base (.tup e)
          · exact .fTuple e
          · exact .kTuple e c
    · exact h1.elim
  · exact h1.elim
end
@[simp] theorem gIsi_int (g : GE) (env : Env) (st : Sto) : gIsi "int" g env st = (g env st).bind fun a st1 => match a with
  | .d x => .ok (.d (.bool (isTy "int" x))) st1
  | _ => .bad := by unfold gIsi; rfl
@[simp] theorem gIsi_bool (g : GE) (env : Env) (st : Sto) : gIsi "bool" g env st = (g env st).bind fun a st1 => match a with
  | .d x => .ok (.d (.bool (isTy "bool" x))) st1
  | _ => .bad := by unfold gIsi; rfl
@[simp] theorem gIsi_str (g : GE) (env : Env) (st : Sto) : gIsi "str" g env st = (g env st).bind fun a st1 => match a with
  | .d x => .ok (.d (.bool (isTy "str" x))) st1
  | _ => .bad := by unfold gIsi; rfl
@[simp] theorem gIsi_tuple (g : GE) (env : Env) (st : Sto) : gIsi "tuple" g env st = (g env st).bind fun a st1 => match a with
  | .d x => .ok (.d (.bool (isTy "tuple" x))) st1
  | _ => .bad := by unfold gIsi; rfl
@[simp] theorem dsOf_nil : dsOf [] = some [] := rfl
@[simp] theorem dsOf_cons {x : PyData} {r : List A} : dsOf (.d x :: r) = (dsOf r).map (x :: ·) := rfl
@[simp] theorem isNone_n : isNone .none = true := rfl
@[simp] theorem isNone_i {i} : isNone (.int i) = false := rfl
@[simp] theorem isNone_b {i} : isNone (.bool i) = false := rfl
@[simp] theorem isNone_s {i} : isNone (.str i) = false := rfl
@[simp] theorem isNone_t {i} : isNone (.tuple i) = false := rfl
@[simp] theorem isNone_l {i} : isNone (.list i) = false := rfl
@[simp] theorem isTy_int_none : isTy "int" .none = false := by simp [isTy, tyOf]
@[simp] theorem isTy_int_bool {x} : isTy "int" (.bool x) = true := by simp [isTy, tyOf]
@[simp] theorem isTy_int_int {x} : isTy "int" (.int x) = true := by simp [isTy, tyOf]
@[simp] theorem isTy_int_str {x} : isTy "int" (.str x) = false := by simp [isTy, tyOf]
@[simp] theorem isTy_int_list {x} : isTy "int" (.list x) = false := by simp [isTy, tyOf]
@[simp] theorem isTy_int_tuple {x} : isTy "int" (.tuple x) = false := by simp [isTy, tyOf]
@[simp] theorem isTy_int_dict {x} : isTy "int" (.dict x) = false := by simp [isTy, tyOf]
@[simp] theorem isTy_bool_none : isTy "bool" .none = false := by simp [isTy, tyOf]
@[simp] theorem isTy_bool_bool {x} : isTy "bool" (.bool x) = true := by simp [isTy, tyOf]
@[simp] theorem isTy_bool_int {x} : isTy "bool" (.int x) = false := by simp [isTy, tyOf]
@[simp] theorem isTy_bool_str {x} : isTy "bool" (.str x) = false := by simp [isTy, tyOf]
@[simp] theorem isTy_bool_list {x} : isTy "bool" (.list x) = false := by simp [isTy, tyOf]
@[simp] theorem isTy_bool_tuple {x} : isTy "bool" (.tuple x) = false := by simp [isTy, tyOf]
@[simp] theorem isTy_bool_dict {x} : isTy "bool" (.dict x) = false := by simp [isTy, tyOf]
@[simp] theorem isTy_str_none : isTy "str" .none = false := by simp [isTy, tyOf]
@[simp] theorem isTy_str_bool {x} : isTy "str" (.bool x) = false := by simp [isTy, tyOf]
@[simp] theorem isTy_str_int {x} : isTy "str" (.int x) = false := by simp [isTy, tyOf]
@[simp] theorem isTy_str_str {x} : isTy "str" (.str x) = true := by simp [isTy, tyOf]
@[simp] theorem isTy_str_list {x} : isTy "str" (.list x) = false := by simp [isTy, tyOf]
@[simp] theorem isTy_str_tuple {x} : isTy "str" (.tuple x) = false := by simp [isTy, tyOf]
@[simp] theorem isTy_str_dict {x} : isTy "str" (.dict x) = false := by simp [isTy, tyOf]
@[simp] theorem isTy_tuple_none : isTy "tuple" .none = false := by simp [isTy, tyOf]
@[simp] theorem isTy_tuple_bool {x} : isTy "tuple" (.bool x) = false := by simp [isTy, tyOf]
@[simp] theorem isTy_tuple_int {x} : isTy "tuple" (.int x) = false := by simp [isTy, tyOf]
@[simp] theorem isTy_tuple_str {x} : isTy "tuple" (.str x) = false := by simp [isTy, tyOf]
@[simp] theorem isTy_tuple_list {x} : isTy "tuple" (.list x) = false := by simp [isTy, tyOf]
@[simp] theorem isTy_tuple_tuple {x} : isTy "tuple" (.tuple x) = true := by simp [isTy, tyOf]
@[simp] theorem isTy_tuple_dict {x} : isTy "tuple" (.dict x) = false := by simp [isTy, tyOf]
@[simp] theorem isTy_list_none : isTy "list" .none = false := by simp [isTy, tyOf]
@[simp] theorem isTy_list_bool {x} : isTy "list" (.bool x) = false := by simp [isTy, tyOf]
@[simp] theorem isTy_list_int {x} : isTy "list" (.int x) = false := by simp [isTy, tyOf]
@[simp] theorem isTy_list_str {x} : isTy "list" (.str x) = false := by simp [isTy, tyOf]
@[simp] theorem isTy_list_list {x} : isTy "list" (.list x) = true := by simp [isTy, tyOf]
@[simp] theorem isTy_list_tuple {x} : isTy "list" (.tuple x) = false := by simp [isTy, tyOf]
@[simp] theorem isTy_list_dict {x} : isTy "list" (.dict x) = false := by simp [isTy, tyOf]
end LF
set_option Elab.async false
set_option linter.all false
set_option maxRecDepth 100000
set_option maxHeartbeats 2000000
namespace LF
open PySem PySem.Spec PyProof.Rows L2

/-! ### targets -/
abbrev GG := PyData → Env → Option Env
def GOk (K : PySem.W.Frag) (g : TG) (gt : GG) : Prop :=
  ∀ L ρ H st v d env σ env' (Q : L2.St → Hp → Prop), StOk K L ρ H st → RpE K L ρ H env σ → Rp K L H v d → gt d env = some env' → (∀ σ', RpE K L ρ H env' σ' → Q σ' H) → g v σ H Q
@[simp] def ggName (i : Nat) : GG := fun d env => some (env.set i (some (.d d)))
theorem gok_name {K : PySem.W.Frag} {i : Nat} : GOk K (gName i) (ggName i) := by
  intro L ρ H st v d env σ env' Q S V r e k
  cases e
  exact k _ (V.set (.d r))
@[simp] def ggs : List GG → List PyData → Env → Option Env
  | [], [], env => some env
  | g :: gs, d :: ds, env => (g d env).bind (ggs gs ds)
  | _, _, _ => none
@[simp] def ggTup (gs : List GG) : GG := fun d env => match d with
  | .tuple ds => ggs gs ds env
  | _ => none
def GsOk (K : PySem.W.Frag) (g : TGs) (gs : List GG) : Prop :=
  ∀ L ρ H st vs ds env σ env' (Q : L2.St → Hp → Prop), StOk K L ρ H st → RpE K L ρ H env σ → RpAll K L H vs ds → ggs gs ds env = some env' → (∀ σ', RpE K L ρ H env' σ' → Q σ' H) → g vs σ H Q
theorem gsok_nil {K : PySem.W.Frag} : GsOk K L2.gNil [] := by
  intro L ρ H st vs ds env σ env' Q S V r e k
  cases r with
  | nil => cases e; exact ⟨rfl, k _ V⟩
  | cons _ _ => cases e
theorem gsok_cons {K : PySem.W.Frag} {g : TG} {gt : GG} {h : TGs} {gs : List GG} (h1 : GOk K g gt) (h2 : GsOk K h gs) : GsOk K (L2.gCons g h) (gt :: gs) := by
  intro L ρ H st vs ds env σ env' Q S V r e k
  cases r with
  | nil => cases e
  | cons a b =>
    rename_i v vs d ds
    unfold ggs at e
    cases q : gt d env with
    | none => rw [q] at e; cases e
    | some env1 =>
      rw [q, Option.bind_some] at e
      exact ⟨v, vs, rfl, h1 L ρ H st v d env σ env1 _ S V a q fun σ1 V1 => h2 L ρ H st vs ds env1 σ1 env' Q S V1 b e k⟩
theorem ggs_len : ∀ {gs : List GG} {ds : List PyData} {env env' : Env}, ggs gs ds env = some env' → ds.length = gs.length
  | [], [], _, _, _ => rfl
  | [], _ :: _, _, _, e => by cases e
  | _ :: _, [], _, _, e => by cases e
  | g :: gs, d :: ds, env, env', e => by
    unfold ggs at e
    cases q : g d env with
    | none => rw [q] at e; cases e
    | some env1 =>
      rw [q, Option.bind_some] at e
      exact congrArg (· + 1) (ggs_len e)
theorem gok_tup {K : PySem.W.Frag} {n : Nat} {h : TGs} {gs : List GG} (hn : gs.length = n) (h2 : GsOk K h gs) : GOk K (gTup K n h) (ggTup gs) := by
  intro L ρ H st v d env σ env' Q S V r e k
  cases d with
  | tuple ds =>
    obtain ⟨p, xs, rfl, hT, hA⟩ := tup_at (ρ := ρ) (RpA.d r)
    have e' : ggs gs ds env = some env' := e
    refine ⟨p, xs, rfl, hT, ?_, h2 L ρ H st xs ds env σ env' Q S V hA e' k⟩
    rw [hA.length, ← hn]
    exact ggs_len e'
  | _ => cases e

/-! ### what is walked -/
structure Its where
  ds : List PyData
  chk : Sto → Prop
structure ItOk (K : PySem.W.Frag) (J : It) (L ρ : List Addr) (H : Hp) (I : Its) : Prop where
  go : ∀ L' ρ' H' st', Stp L ρ H L' ρ' H' → StOk K L' ρ' H' st' → I.chk st' → ∀ i, i < I.ds.length → J.go i H'
  yld : ∀ L' ρ' H' st', Stp L ρ H L' ρ' H' → StOk K L' ρ' H' st' → I.chk st' → ∀ i d, I.ds[i]? = some d → ∀ x H2, J.yld i H' x H2 → Stp L' ρ' H' L' ρ' H2 ∧ StOk K L' ρ' H2 st' ∧ Rp K L' H2 x d
  stop : ∀ L' ρ' H' st', Stp L ρ H L' ρ' H' → StOk K L' ρ' H' st' → I.chk st' → ∀ i, I.ds.length ≤ i → J.stop i H'
abbrev GI := Env → Sto → R Its
def liftI (K : PySem.W.Frag) (mg : Str → Option Value) (E : L2.St → XK) (g : GI) : TI := fun σ H Rr => ∃ L ρ st env, StOk K L ρ H st ∧ RpE K L ρ H env σ ∧ (match g env st with
  | .ok I st' => ∀ L' ρ' H' J, Stp L ρ H L' ρ' H' → StOk K L' ρ' H' st' → ItOk K J L' ρ' H' I → Rr J H'
  | .exc c fs st' => OutX K mg (E σ) L ρ H c fs st'
  | .bad => False)
abbrev LI (X : Cx) (E : L2.St → XK) (tg iter : Expr) (g : GI) : Prop := PI X tg iter (liftI X.K X.mg E g)
theorem _root_.L2.PI.imp {X : Cx} {tg it : Expr} {t t' : TI} (h : PI X tg it t) (k : ∀ σ H R, t' σ H R → t σ H R) : PI X tg it t' := ⟨fun pins s σ H Q I q => h.run pins s σ H Q I (k σ H Q q)⟩
theorem PI.or {X : Cx} {tg it : Expr} {t t' : TI} (h : PI X tg it t) (h' : PI X tg it t') : PI X tg it (fun σ H R => t σ H R ∨ t' σ H R) := ⟨fun pins s σ H Q I q => q.elim (h.run pins s σ H Q I) (h'.run pins s σ H Q I)⟩
/-- the items of a sequence that is walked -/
@[simp] def itsOf : A → Sto → Option Its
  | .d (.tuple ds), _ => some ⟨ds, fun _ => True⟩
  | .d (.list ds), _ => some ⟨ds, fun _ => True⟩
  | .box i, st => st[i]?.map fun ds => ⟨ds, fun st' => st'[i]? = some ds⟩
  | .scr ds, _ => some ⟨ds, fun _ => True⟩
  | _, _ => none
@[simp] def giSeq (g : GE) : GI := fun env st => (g env st).bind fun a st1 => match itsOf a st1 with
  | some I => .ok I st1
  | none => .bad
section
variable {X : Cx} {E : L2.St → XK} {tg : Expr} {e : Expr} {g : GE}
theorem sqT_step {K : PySem.W.Frag} {L ρ L' ρ' : List Addr} {H H' : Hp} {st : Sto} {p : Addr} {xs : List V} (S : StOk K L ρ H st) (s : Stp L ρ H L' ρ' H') (h : SqT K H p xs) : SqT K H' p xs := by
  rcases h with (e | ⟨o, e⟩) | k
  · exact .inl (.inl (s.keep p _ (fun z => by obtain ⟨ys, q⟩ := S.isLst z; rw [e] at q; cases q) e))
  · exact .inl (.inr ⟨o, s.keep p _ (fun z => by obtain ⟨ys, q⟩ := S.isLst z; rw [e] at q; cases q) e⟩)
  · exact .inr k
theorem itok_seqT {K : PySem.W.Frag} {L ρ : List Addr} {H : Hp} {st : Sto} {p : Addr} {xs : List V} {ds : List PyData} (hT : SqT K H p xs) (hA : RpAll K L H xs ds) (S : StOk K L ρ H st) : ItOk K (Itt K p) L ρ H ⟨ds, fun _ => True⟩ where
  go := fun L' ρ' H' st' s S' _ i hi => by
    have hi2 : i < xs.length := by rw [hA.length]; exact hi
    exact ⟨xs, xs[i], sqT_step S s hT, List.getElem?_eq_getElem hi2⟩
  yld := fun L' ρ' H' st' s S' _ i d hd x H2 hy => by
    obtain ⟨rfl, hy⟩ := hy
    obtain ⟨v, e1, r1⟩ := hA.get hd
    have e2 := hy xs (sqT_step S s hT)
    rw [e1] at e2
    cases e2
    exact ⟨.refl, S', r1.step S s⟩
  stop := fun L' ρ' H' st' s S' _ i hi => ⟨xs, sqT_step S s hT, by rw [hA.length]; exact hi⟩
theorem itok_lst {K : PySem.W.Frag} {L ρ : List Addr} {H : Hp} {st : Sto} {p : Addr} {xs : List V} {ds : List PyData} (hp : p ∉ ρ) (hT : Rd H p (.lst xs)) (hA : RpAll K L H xs ds) (S : StOk K L ρ H st) : ItOk K (Itl K p) L ρ H ⟨ds, fun _ => True⟩ := by
  have key : ∀ L' ρ' H', Stp L ρ H L' ρ' H' → SqL K H' p xs := fun L' ρ' H' s => by
    rcases hT with e | ⟨o, e⟩
    · exact SqL.of (s.keep p _ hp e)
    · exact .inl (.inr ⟨o, s.keep p _ hp e⟩)
  exact {
    go := fun L' ρ' H' st' s S' _ i hi => by
      have hi2 : i < xs.length := by rw [hA.length]; exact hi
      exact ⟨xs, xs[i], key _ _ _ s, List.getElem?_eq_getElem hi2⟩
    yld := fun L' ρ' H' st' s S' _ i d hd x H2 hy => by
      obtain ⟨rfl, hy⟩ := hy
      obtain ⟨v, e1, r1⟩ := hA.get hd
      have e2 := hy xs (key _ _ _ s)
      rw [e1] at e2
      cases e2
      exact ⟨.refl, S', r1.step S s⟩
    stop := fun L' ρ' H' st' s S' _ i hi => ⟨xs, key _ _ _ s, by rw [hA.length]; exact hi⟩ }
theorem itok_frz {K : PySem.W.Frag} {L ρ : List Addr} {H : Hp} {st : Sto} {p : Addr} {xs : List V} {ds : List PyData} (hT : Frz K H p xs) (hA : RpAll K L H xs ds) (S : StOk K L ρ H st) : ItOk K (Itl K p) L ρ H ⟨ds, fun _ => True⟩ := by
  have key : ∀ L' ρ' H', Stp L ρ H L' ρ' H' → SqL K H' p xs := fun L' ρ' H' s => (hT.keep fun o e => s.keep p _ (fun z => by obtain ⟨ys, q⟩ := S.isLst z; rw [e] at q; cases q) e).sql
  exact {
    go := fun L' ρ' H' st' s S' _ i hi => by
      have hi2 : i < xs.length := by rw [hA.length]; exact hi
      exact ⟨xs, xs[i], key _ _ _ s, List.getElem?_eq_getElem hi2⟩
    yld := fun L' ρ' H' st' s S' _ i d hd x H2 hy => by
      obtain ⟨rfl, hy⟩ := hy
      obtain ⟨v, e1, r1⟩ := hA.get hd
      have e2 := hy xs (key _ _ _ s)
      rw [e1] at e2
      cases e2
      exact ⟨.refl, S', r1.step S s⟩
    stop := fun L' ρ' H' st' s S' _ i hi => ⟨xs, key _ _ _ s, by rw [hA.length]; exact hi⟩ }
theorem itok_box {K : PySem.W.Frag} {L ρ : List Addr} {H : Hp} {st : Sto} {p : Addr} {i0 : Nat} {ds : List PyData} (hp : ρ[i0]? = some p) (S : StOk K L ρ H st) : ItOk K (Itl K p) L ρ H ⟨ds, fun st' => st'[i0]? = some ds⟩ := by
  have key : ∀ L' ρ' H' st', Stp L ρ H L' ρ' H' → StOk K L' ρ' H' st' → st'[i0]? = some ds → ∃ xs, H' p = some (.lst xs) ∧ RpAll K L' H' xs ds := fun L' ρ' H' st' s S' e => by
    obtain ⟨suf, er, _⟩ := s.rr
    refine S'.cell i0 p ds ?_ e
    rw [er, List.getElem?_append_left (List.getElem?_eq_some_iff.mp hp).1]
    exact hp
  exact {
    go := fun L' ρ' H' st' s S' hc i hi => by
      obtain ⟨xs, q, hA⟩ := key L' ρ' H' st' s S' hc
      have hi2 : i < xs.length := by rw [hA.length]; exact hi
      exact ⟨xs, xs[i], SqL.of q, List.getElem?_eq_getElem hi2⟩
    yld := fun L' ρ' H' st' s S' hc i d hd x H2 hy => by
      obtain ⟨xs, q, hA⟩ := key L' ρ' H' st' s S' hc
      obtain ⟨rfl, hy⟩ := hy
      obtain ⟨v, e1, r1⟩ := hA.get hd
      have e2 := hy xs (SqL.of q)
      rw [e1] at e2
      cases e2
      exact ⟨.refl, S', r1⟩
    stop := fun L' ρ' H' st' s S' hc i hi => by
      obtain ⟨xs, q, hA⟩ := key L' ρ' H' st' s S' hc
      exact ⟨xs, SqL.of q, by rw [hA.length]; exact hi⟩ }
theorem li_seq (ha : LE X E e g) : LI X E tg e (giSeq g) := by
  refine (PI.or (pi_tup ha) (pi_list ha)).imp fun σ H Rr h => ?_
  obtain ⟨L, ρ, st, env, S, V, h⟩ := h
  unfold giSeq at h
  cases q : g env st with
  | bad => rw [q] at h; exact h.elim
  | exc c fs st' =>
    rw [q] at h
    refine .inl ⟨L, ρ, st, env, S, V, ?_⟩
    rw [q]
    exact h
  | ok a st1 =>
    rw [q, R.bind_ok] at h
    cases qi : itsOf a st1 with
    | none => rw [qi] at h; exact h.elim
    | some I =>
      rw [qi] at h
      cases a with
      | d x =>
        cases x with
        | tuple ds =>
          refine .inl ⟨L, ρ, st, env, S, V, ?_⟩
          rw [q]
          intro L1 ρ1 H1 v s1 S1 r1
          obtain ⟨p, xs, rfl, hT, hA⟩ := tup_at r1
          cases qi
          exact ⟨p, rfl, ⟨xs, hT⟩, h L1 ρ1 H1 _ s1 S1 (itok_seqT hT hA S1)⟩
        | list ds =>
          refine .inr ⟨L, ρ, st, env, S, V, ?_⟩
          rw [q]
          intro L1 ρ1 H1 v s1 S1 r1
          cases r1 with
          | d r1 =>
            obtain ⟨p, xs, rfl, hn, hR, hA⟩ := lst_in r1
            cases qi
            exact ⟨p, rfl, ⟨xs, SqL.of hR⟩, h L1 ρ1 H1 _ s1 S1 (itok_lst (fun z => hn (S1.rl _ z)) (.inl hR) hA S1)⟩
        | none => cases qi
        | bool _ => cases qi
        | int _ => cases qi
        | str _ => cases qi
        | dict _ => cases qi
      | box i =>
        refine .inr ⟨L, ρ, st, env, S, V, ?_⟩
        rw [q]
        intro L1 ρ1 H1 v s1 S1 r1
        cases qd : st1[i]? with
        | none => simp [itsOf, qd] at qi
        | some ds =>
          simp only [itsOf, qd, Option.map_some, Option.some.injEq] at qi
          subst qi
          cases r1 with
          | box e1 =>
            obtain ⟨xs, hx, hA⟩ := S1.cell _ _ _ e1 qd
            exact ⟨_, rfl, ⟨xs, SqL.of hx⟩, h L1 ρ1 H1 _ s1 S1 (itok_box e1 S1)⟩
      | scr ds =>
        refine .inr ⟨L, ρ, st, env, S, V, ?_⟩
        rw [q]
        intro L1 ρ1 H1 v s1 S1 r1
        cases qi
        cases r1 with
        | scr e1 hA =>
          exact ⟨_, rfl, ⟨_, e1.sql⟩, h L1 ρ1 H1 _ s1 S1 (itok_frz e1 hA S1)⟩
/-! #### range -/
def rangeD (lo : Int) (n : Nat) : List PyData := (List.range n).map fun (i : Nat) => .int (lo + (i : Int))
theorem rangeD_length (lo : Int) (n : Nat) : (rangeD lo n).length = n := by simp [rangeD]
theorem itok_range {K : PySem.W.Frag} {L ρ : List Addr} {H : Hp} {lo : Int} {n : Nat} : ItOk K (Itr lo n) L ρ H ⟨rangeD lo n, fun _ => True⟩ where
  go := fun _ _ _ _ _ _ _ i hi => by rw [rangeD_length] at hi; exact hi
  yld := fun L' ρ' H' st' s S' _ i d hd x H2 hy => by
    obtain ⟨rfl, rfl⟩ := hy
    have hi : i < n := by
      have := (List.getElem?_eq_some_iff.mp hd).1
      rwa [rangeD_length] at this
    have e : (rangeD lo n)[i]? = some (.int (lo + (i : Int))) := by
      unfold rangeD
      rw [List.getElem?_map, List.getElem?_range hi]
      rfl
    rw [e] at hd
    cases hd
    exact ⟨.refl, S', .int _⟩
  stop := fun _ _ _ _ _ _ _ i hi => by rw [rangeD_length] at hi; exact hi
def smallI (i : Int) : Bool := decide (-(2 ^ 62) ≤ i) && decide (i < 2 ^ 62)
@[simp] def giR1 (g : GE) : GI := fun env st => (g env st).bind fun a st1 => match a with
  | .d (.int j) => if smallI j = true then .ok ⟨rangeD 0 j.toNat, fun _ => True⟩ st1 else .bad
  | _ => .bad
@[simp] def giR2 (g h : GE) : GI := fun env st => (g env st).bind fun a st1 => (h env st1).bind fun b st2 => match a, b with
  | .d (.int i), .d (.int j) => if (smallI i && smallI j) = true then .ok ⟨rangeD i (j - i).toNat, fun _ => True⟩ st2 else .bad
  | _, _ => .bad
theorem smallI_le {i : Int} (h : smallI i = true) : -(2 ^ 62) ≤ i ∧ i < 2 ^ 62 := by
  unfold smallI at h
  rw [Bool.and_eq_true] at h
  exact ⟨of_decide_eq_true h.1, of_decide_eq_true h.2⟩
theorem li_r1 {p pos : Pos} (hg : Gl X "range") (hm : X.mg "range" = none) (ha : LE X E e g) (hs : starEach [e] X.env = [(false, eval e X.env)] := by rfl) : LI X E tg (.Call (.Name "range" p) [e] [] pos) (giR1 g) := by
  refine (pi_range1 hg hm (la_cons ha la_nil hs) hs).imp fun σ H Rr h => ?_
  obtain ⟨L, ρ, st, env, S, V, h⟩ := h
  refine ⟨L, ρ, st, env, S, V, ?_⟩
  unfold giR1 at h
  show OutL _ _ _ _ _ _ (LF.gCons g LF.gNil env st) _
  unfold LF.gCons
  cases q : g env st with
  | bad => rw [q] at h; exact h.elim
  | exc c fs st' => rw [q] at h; exact h
  | ok a st1 =>
    rw [q, R.bind_ok] at h
    intro L1 ρ1 H1 vs s1 S1 r1
    obtain ⟨v, rfl, ra⟩ := r1.one
    cases a with
    | d x =>
      cases x with
      | int j =>
        dsimp only at h
        cases hj : smallI j with
        | true =>
          rw [hj] at h
          rw [ra.int]
          exact ⟨j, rfl, (smallI_le hj).1, (smallI_le hj).2, h L1 ρ1 H1 _ s1 S1 itok_range⟩
        | false => rw [hj] at h; exact h.elim
      | _ => exact h.elim
    | box _ => exact h.elim
    | scr _ => exact h.elim
end

/-! ### for -/
open Classical in
noncomputable def forD (chk : Sto → Prop) (tg : GG) (body : GS) : List PyData → Env → Sto → O
  | [], env, st => if chk st then .nx env st else .bad
  | d :: r, env, st => if chk st then (match tg d env with
    | none => .bad
    | some env1 => match body env1 st with
      | .nx env2 st2 => forD chk tg body r env2 st2
      | .ct env2 st2 => forD chk tg body r env2 st2
      | .bk env2 st2 => .nx env2 st2
      | .rt a st2 => .rt a st2
      | .exc c fs st2 => .exc c fs st2
      | .bad => .bad) else .bad
@[simp] noncomputable def sFor (gi : GI) (tg : GG) (body : GS) : GS := fun env st => (gi env st).bindO fun I st1 => forD I.chk tg body I.ds env st1
/-- a turn's outcome -/
noncomputable def forK (chk : Sto → Prop) (tg : GG) (body : GS) (r : List PyData) (o : O) : O := match o with
  | .nx env2 st2 => forD chk tg body r env2 st2
  | .ct env2 st2 => forD chk tg body r env2 st2
  | .bk env2 st2 => .nx env2 st2
  | .rt a st2 => .rt a st2
  | .exc c fs st2 => .exc c fs st2
  | .bad => .bad
@[simp] theorem forK_nx {chk tg body r env st} : forK chk tg body r (.nx env st) = forD chk tg body r env st := rfl
@[simp] theorem forK_ct {chk tg body r env st} : forK chk tg body r (.ct env st) = forD chk tg body r env st := rfl
@[simp] theorem forK_bk {chk tg body r env st} : forK chk tg body r (.bk env st) = .nx env st := rfl
@[simp] theorem forK_rt {chk tg body r a st} : forK chk tg body r (.rt a st) = .rt a st := rfl
@[simp] theorem forK_exc {chk tg body r c fs st} : forK chk tg body r (.exc c fs st) = .exc c fs st := rfl
@[simp] theorem forK_bad {chk tg body r} : forK chk tg body r .bad = .bad := rfl
theorem forD_nilT {chk : Sto → Prop} {tg body env st} (h : chk st) : forD chk tg body [] env st = .nx env st := by unfold forD; rw [if_pos h]
theorem forD_consT {chk : Sto → Prop} {tg body d r env env1 st} (h : chk st) (e : tg d env = some env1) : forD chk tg body (d :: r) env st = forK chk tg body r (body env1 st) := by
  unfold forD
  rw [if_pos h, e]
  dsimp only
  cases body env1 st <;> rfl
@[simp] theorem forD_nil' {tg body env st} : forD (fun _ => True) tg body [] env st = .nx env st := forD_nilT trivial
@[simp] theorem forD_cons' {i d body r env st} : forD (fun _ => True) (ggName i) body (d :: r) env st = forK (fun _ => True) (ggName i) body r (body (env.set i (some (.d d))) st) := forD_consT trivial rfl
section
variable {X : Cx} {E : XK} {tg iter : Expr} {gi : GI}
theorem drop_cons {α : Type} {l : List α} {i : Nat} (h : i < l.length) : l.drop i = l[i] :: l.drop (i + 1) := List.drop_eq_getElem_cons h
theorem tFor_lift {K : PySem.W.Frag} {mg : Str → Option Value} {g : TG} {gt : GG} {b : GS} (hg : GOk K g gt) (D : Ends) (σ : L2.St) (H : Hp) (h : liftS K mg E (sFor gi gt b) D σ H) : tFor (liftI K mg (fun _ => E) gi) g (liftS K mg E b) D σ H := by
  obtain ⟨L, ρ, st, env, S, V, h⟩ := h
  refine ⟨L, ρ, st, env, S, V, ?_⟩
  unfold sFor at h
  cases q : gi env st with
  | bad => rw [q] at h; exact h
  | exc c fs st' => rw [q] at h; exact h
  | ok I st1 =>
    rw [q, R.bindO_ok] at h
    intro L1 ρ1 H1 J s1 S1 IO
    have V1 := V.step S s1
    have h1 := OutS.step S s1 S1 h
    refine ⟨fun i m σ H2 => m = I.ds.length - i ∧ i ≤ I.ds.length ∧ ∃ La ρa sta enva, Stp L1 ρ1 H1 La ρa H2 ∧ StOk K La ρa H2 sta ∧ RpE K La ρa H2 enva σ ∧ OutS K mg E La ρa H2 (forD I.chk gt b (I.ds.drop i) enva sta) D,
      ⟨I.ds.length, by simp, Nat.zero_le _, L1, ρ1, st1, env, .refl, S1, V1, by simpa using h1⟩, ?_⟩
    rintro i m σ2 H2 ⟨rfl, hi, La, ρa, sta, enva, sa, Sa, Va, ha⟩
    by_cases hlt : i < I.ds.length
    · rw [drop_cons hlt] at ha
      unfold forD at ha
      split at ha
      · rename_i hchk
        refine .inr ⟨IO.go La ρa H2 sta sa Sa hchk i hlt, fun σ3 H3 => i + 1 ≤ I.ds.length ∧ ∃ La ρa sta enva, Stp L1 ρ1 H1 La ρa H3 ∧ StOk K La ρa H3 sta ∧ RpE K La ρa H3 enva σ3 ∧ OutS K mg E La ρa H3 (forD I.chk gt b (I.ds.drop (i + 1)) enva sta) D, fun σ3 H3 n3 => ⟨I.ds.length - (i + 1), by omega, rfl, n3⟩, fun x H3 hy => ?_⟩
        obtain ⟨sy, Sy, ry⟩ := IO.yld La ρa H2 sta sa Sa hchk i _ (List.getElem?_eq_getElem hlt) x H3 hy
        have ha3 := OutS.step Sa sy Sy ha
        have sa3 := sa.trans S1 Sa sy
        have V3 := Va.step Sa sy
        cases qe : gt I.ds[i] enva with
        | none => rw [qe] at ha3; exact ha3.elim
        | some env1 =>
          rw [qe] at ha3
          refine hg La ρa H3 sta x _ enva σ2 env1 _ Sy V3 ry qe fun σ4 V4 => ⟨La, ρa, sta, env1, Sy, V4, ?_⟩
          dsimp only at ha3
          cases qb : b env1 sta with
          | nx env2 st2 =>
            rw [qb] at ha3
            exact fun L5 ρ5 H5 σ5 s5 S5 V5 => ⟨hlt, L5, ρ5, st2, env2, sa3.trans S1 Sy s5, S5, V5, OutS.step Sy s5 S5 ha3⟩
          | ct env2 st2 =>
            rw [qb] at ha3
            exact fun L5 ρ5 H5 σ5 s5 S5 V5 => ⟨hlt, L5, ρ5, st2, env2, sa3.trans S1 Sy s5, S5, V5, OutS.step Sy s5 S5 ha3⟩
          | bk env2 st2 => rw [qb] at ha3; exact ha3
          | rt a st2 => rw [qb] at ha3; exact ha3
          | exc c fs st2 => rw [qb] at ha3; exact ha3
          | bad => rw [qb] at ha3; exact ha3.elim
      · exact ha.elim
    · have e : i = I.ds.length := by omega
      subst e
      rw [List.drop_length] at ha
      unfold forD at ha
      split at ha
      · rename_i hchk
        exact .inl ⟨IO.stop La ρa H2 sta sa Sa hchk _ (Nat.le_refl _), ha La ρa H2 σ2 .refl Sa Va⟩
      · exact ha.elim
theorem ls_for {body : List Stmt} {g : TG} {gt : GG} {b : GS} {pos : Pos} (hp : PassesOwn (model X.prog X.w) X.A X.env X.xe) (hc : X.calm = true) (hi : LI X (fun _ => E) tg iter gi) (hg : PG X tg g) (hgk : GOk X.K g gt) (hb : LSs X E body b)
    (hs : ∀ x, foldedSetIterable iter X.env x = pure x := by intro _; rfl) : LS X E (.For tg iter body [] pos) (sFor gi gt b) :=
  (ps_for hp hc hi hg hb hs).imp fun D σ H h => tFor_lift hgk D σ H h
end
end LF
set_option Elab.async false
set_option linter.all false
set_option maxRecDepth 100000
set_option maxHeartbeats 2000000
namespace LF
open PySem PySem.Spec PyProof.Rows L2

/-! ### comprehensions -/
open Classical in
noncomputable def compD (chk : Sto → Prop) (tg : GG) (test : GT) (elt : GE) (wenv : Env) : List PyData → Sto → R (List PyData)
  | [], st => if chk st then .ok [] st else .bad
  | d :: r, st => if chk st then (match tg d wenv with
    | none => .bad
    | some env1 => match test env1 st with
      | .ok true st1 => match elt env1 st1 with
        | .ok (.d x) st2 => match compD chk tg test elt wenv r st2 with
          | .ok xs st3 => .ok (x :: xs) st3
          | _ => .bad
        | _ => .bad
      | .ok false st1 => compD chk tg test elt wenv r st1
      | _ => .bad) else .bad
@[simp] noncomputable def gComp (gi : GI) (i : Nat) (test : GT) (elt : GE) : GE := fun env st => (gi env st).bind fun I st1 =>
  if I.ds.length ≤ bigN then (match compD I.chk (ggName i) test elt (env.set i none) I.ds st1 with
    | .ok xs st2 => .ok (.d (.list xs)) st2
    | _ => .bad) else .bad
@[simp] def gYes : GT := fun _ st => .ok true st
section
variable {K : PySem.W.Frag} {L ρ L' ρ' La ρa : List Addr} {H H' Ha : Hp} {st st' : Sto} {D : Addr}
mutual
theorem Rp.updD (hD : D ∈ L) (hx : ∃ xs, H D = some (.lst xs)) {zs : List V} : ∀ {v : V} {d : PyData}, Rp K L H v d → Rp K L (upd H D (.lst zs)) v d
  | _, _, .non => .non
  | _, _, .bl b => .bl b
  | _, _, .int i => .int i
  | _, _, .str x => .str x
  | _, _, .lst (a := a) hL hR hA => .lst hL (by rw [upd_ne (show a ≠ D from fun z => hL (by rw [z]; exact hD))]; exact hR) (RpAll.updD hD hx hA)
  | _, _, .tup (a := a) hT hA => .tup (by
      obtain ⟨xs, hx⟩ := hx
      have key : ∀ o, H a = some o → (∀ ys, o ≠ .lst ys) → upd H D (.lst zs) a = some o := fun o e n => by
        rw [upd_ne (fun z => by rw [z, hx] at e; exact n xs (Option.some.inj e).symm)]; exact e
      rcases hT with (e | ⟨o, e⟩) | k
      · exact .inl (.inl (key _ e (fun ys z => by cases z)))
      · exact .inl (.inr ⟨o, key _ e (fun ys z => by cases z)⟩)
      · exact .inr k) (RpAll.updD hD hx hA)
theorem RpAll.updD (hD : D ∈ L) (hx : ∃ xs, H D = some (.lst xs)) {zs : List V} : ∀ {vs : List V} {ds : List PyData}, RpAll K L H vs ds → RpAll K L (upd H D (.lst zs)) vs ds
  | _, _, .nil => .nil
  | _, _, .cons h t => .cons (Rp.updD hD hx h) (RpAll.updD hD hx t)
end
mutual
/-- fewer are locked -/
theorem Rp.sub (h : ∀ a ∈ L', a ∈ L) : ∀ {v : V} {d : PyData}, Rp K L H v d → Rp K L' H v d
  | _, _, .non => .non
  | _, _, .bl b => .bl b
  | _, _, .int i => .int i
  | _, _, .str x => .str x
  | _, _, .lst hL hR hA => .lst (fun z => hL (h _ z)) hR (RpAll.sub h hA)
  | _, _, .tup hT hA => .tup hT (RpAll.sub h hA)
theorem RpAll.sub (h : ∀ a ∈ L', a ∈ L) : ∀ {vs : List V} {ds : List PyData}, RpAll K L H vs ds → RpAll K L' H vs ds
  | _, _, .nil => .nil
  | _, _, .cons x t => .cons (Rp.sub h x) (RpAll.sub h t)
end
theorem RpA.updD (hD : D ∈ L) (hx : ∃ xs, H D = some (.lst xs)) {zs : List V} {v : V} {a : A} (r : RpA K L ρ H v a) : RpA K L ρ (upd H D (.lst zs)) v a := by
  cases r with
  | d r => exact .d (r.updD hD hx)
  | box e => exact .box e
  | scr e hA => exact .scr (e.keep fun o e => by obtain ⟨xs, hx⟩ := hx; rw [upd_ne (fun z => by rw [z, hx] at e; cases e)]; exact e) (hA.updD hD hx)
theorem RpE.updD (hD : D ∈ L) (hx : ∃ xs, H D = some (.lst xs)) {zs : List V} {env : Env} {σ : L2.St} (V : RpE K L ρ H env σ) : RpE K L ρ (upd H D (.lst zs)) env σ :=
  ⟨V.len, fun i a e => let ⟨v, e1, r⟩ := V.at_ i a e; ⟨v, e1, r.updD hD hx⟩⟩
theorem StOk.updD (S : StOk K L ρ H st) (hD : D ∈ L) (hn : D ∉ ρ) (hx : ∃ xs, H D = some (.lst xs)) {zs : List V} : StOk K L ρ (upd H D (.lst zs)) st := by
  refine ⟨S.len, S.nd, S.rl, fun a h e => ?_, fun i a ds e1 e2 => ?_⟩
  · by_cases h2 : a = D
    · rw [h2, upd_same] at e; cases e
    · rw [upd_ne h2] at e; exact S.there a h e
  · obtain ⟨xs, q, r⟩ := S.cell i a ds e1 e2
    exact ⟨xs, by rw [upd_ne (show a ≠ D from fun z => hn (by rw [← z]; exact List.mem_of_getElem? e1))]; exact q, r.updD hD hx⟩
theorem RpE.wipe {env : Env} {σ : L2.St} (V : RpE K L ρ H env σ) (i : Nat) : RpE K L ρ H (env.set i none) (L2.wipe σ [i]) := by
  refine ⟨by simp [L2.wipe_length, V.len], fun j a e => ?_⟩
  by_cases hj : i = j
  · subst hj
    by_cases hi : i < env.length
    · rw [List.getElem?_set_self hi] at e; cases e
    · rw [List.getElem?_eq_none (by simpa using hi)] at e; cases e
  · rw [List.getElem?_set_ne hj] at e
    obtain ⟨v, e1, r⟩ := V.at_ j a e
    refine ⟨v, ?_, r⟩
    show (σ.set i none)[j]? = _
    rw [List.getElem?_set_ne hj]
    exact e1
end
section
variable {X : Cx} {E : L2.St → XK}
theorem ItOk.step {K : PySem.W.Frag} {J : It} {L ρ L' ρ' : List Addr} {H H' : Hp} {I : Its} {st st' : Sto} (h : ItOk K J L ρ H I) (S : StOk K L ρ H st) (s : Stp L ρ H L' ρ' H') (S' : StOk K L' ρ' H' st') : ItOk K J L' ρ' H' I :=
  ⟨fun La ρa Ha sta t T => h.go La ρa Ha sta (s.trans S S' t) T, fun La ρa Ha sta t T => h.yld La ρa Ha sta (s.trans S S' t) T, fun La ρa Ha sta t T => h.stop La ρa Ha sta (s.trans S S' t) T⟩

theorem compD_cons_inv {chk : Sto → Prop} {tg : GG} {test : GT} {elt : GE} {wenv : Env} {d : PyData} {r : List PyData} {st st' : Sto} {ys : List PyData} (h : compD chk tg test elt wenv (d :: r) st = .ok ys st') :
    chk st ∧ ∃ env1, tg d wenv = some env1 ∧ ((∃ st1 x st2 zs, test env1 st = .ok true st1 ∧ elt env1 st1 = .ok (.d x) st2 ∧ compD chk tg test elt wenv r st2 = .ok zs st' ∧ ys = x :: zs) ∨
      (∃ st1, test env1 st = .ok false st1 ∧ compD chk tg test elt wenv r st1 = .ok ys st')) := by
  unfold compD at h
  by_cases hc : chk st
  · rw [if_pos hc] at h
    refine ⟨hc, ?_⟩
    cases e : tg d wenv with
    | none => rw [e] at h; cases h
    | some env1 =>
      rw [e] at h
      refine ⟨env1, rfl, ?_⟩
      dsimp only at h
      cases et : test env1 st with
      | bad => rw [et] at h; cases h
      | exc _ _ _ => rw [et] at h; cases h
      | ok b st1 =>
        rw [et] at h
        cases b with
        | false => exact .inr ⟨st1, rfl, h⟩
        | true =>
          dsimp only at h
          cases ee : elt env1 st1 with
          | bad => rw [ee] at h; cases h
          | exc _ _ _ => rw [ee] at h; cases h
          | ok a st2 =>
            rw [ee] at h
            cases a with
            | box _ => cases h
            | scr _ => cases h
            | d x =>
              dsimp only at h
              cases er : compD chk tg test elt wenv r st2 with
              | bad => rw [er] at h; cases h
              | exc _ _ _ => rw [er] at h; cases h
              | ok zs st3 =>
                rw [er] at h
                cases h
                exact .inl ⟨st1, x, st2, zs, rfl, ee, er, rfl⟩
  · rw [if_neg hc] at h; cases h
theorem compD_nil_inv {chk : Sto → Prop} {tg : GG} {test : GT} {elt : GE} {wenv : Env} {st st' : Sto} {ys : List PyData} (h : compD chk tg test elt wenv [] st = .ok ys st') : chk st ∧ ys = [] ∧ st' = st := by
  unfold compD at h
  by_cases hc : chk st
  · rw [if_pos hc] at h; cases h; exact ⟨hc, rfl, rfl⟩
  · rw [if_neg hc] at h; cases h
/-- what is known of the new list D when a comprehension ends -/
def EndC (K : PySem.W.Frag) (mg : Str → Option Value) (E : XK) (L ρ : List Addr) (H : Hp) (r : R A) (Q : VK) : Prop := match r with
  | .ok a stf => ∀ ys, a = .d (.list ys) → ∀ La ρa H2 D xs, Stp L ρ H La ρa H2 → StOk K La ρa H2 stf → H2 D = some (.lst xs) → H D = none → D ∈ La → D ∉ ρa → RpAll K La H2 xs ys → Q (.ref D) H2
  | .exc c fs st' => OutX K mg E L ρ H c fs st'
  | .bad => False
theorem tLc_core {K : PySem.W.Frag} {mg : Str → Option Value} {gi : GI} {i : Nat} {test : GT} {elt : GE} {tt : TT} (htt : ∀ σ H Q, liftT K mg (fun _ => E0) test σ H Q → tt σ H Q) (σ : L2.St) (H : Hp) (Q : VK) (h : ∃ L ρ st env, StOk K L ρ H st ∧ RpE K L ρ H env σ ∧ EndC K mg (E σ) L ρ H (gComp gi i test elt env st) Q) :
    tLc (liftI K mg E gi) (gName i) tt (lift K mg (fun _ => E0) elt) [i] σ H Q := by
  obtain ⟨L, ρ, st, env, S, V, h⟩ := h
  refine ⟨L, ρ, st, env, S, V, ?_⟩
  unfold gComp at h
  cases q : gi env st with
  | bad => rw [q] at h; exact h
  | exc c fs st' => rw [q] at h; exact h
  | ok I st1 =>
    rw [q, R.bind_ok] at h
    by_cases hbig : I.ds.length ≤ bigN
    · rw [if_pos hbig] at h
      cases qc : compD I.chk (ggName i) test elt (env.set i none) I.ds st1 with
      | bad => rw [qc] at h; exact h.elim
      | exc _ _ _ => rw [qc] at h; exact h.elim
      | ok ys stf =>
        rw [qc] at h
        intro L1 ρ1 H1 J s1 S1 IO D hD
        have V1 := V.step S s1
        have DL : D ∉ L1 := S1.fresh hD
        have Dρ : D ∉ ρ1 := fun z => DL (S1.rl D z)
        have sD : Stp L1 ρ1 H1 (D :: L1) ρ1 (upd H1 D (.lst [])) := ⟨fun a o _ e => by rw [upd_ne (ne_of_none e hD)]; exact e, fun a ha => by
            rcases List.mem_cons.mp ha with z | z
            · rw [z]; exact .inr hD
            · exact .inl z, fun a ha => List.mem_cons_of_mem _ ha, [], by simp, by simp⟩
        have DH : H D = none := by
          cases e : H D with
          | none => rfl
          | some o =>
            by_cases dr : D ∈ ρ
            · obtain ⟨suf, er, _⟩ := s1.rr
              obtain ⟨zs, qz⟩ := S1.isLst (show D ∈ ρ1 by rw [er]; exact List.mem_append_left _ dr)
              rw [hD] at qz; cases qz
            · have qz := s1.keep D o dr e
              rw [hD] at qz; cases qz
        refine ⟨fun j m H2 => m = I.ds.length - j ∧ j ≤ I.ds.length ∧ ∃ La ρa sta acc xs zs, Stp L1 ρ1 H1 La ρa H2 ∧ StOk K La ρa H2 sta ∧ H2 D = some (.lst xs) ∧ D ∈ La ∧ D ∉ ρa ∧ RpAll K La H2 xs acc ∧ xs.length ≤ j ∧
            compD I.chk (ggName i) test elt (env.set i none) (I.ds.drop j) sta = .ok zs stf ∧ acc ++ zs = ys,
          ⟨I.ds.length, by simp, Nat.zero_le _, D :: L1, ρ1, st1, [], [], ys, ?_, ?_, upd_same, List.mem_cons_self, Dρ, .nil, Nat.zero_le _, by simpa using qc, rfl⟩, ?_⟩
        · exact sD
        · refine ⟨S1.len, S1.nd, fun a ha => List.mem_cons_of_mem _ (S1.rl a ha), fun a ha e => ?_, fun j a ds e1 e2 => ?_⟩
          · rcases List.mem_cons.mp ha with z | z
            · rw [z, upd_same] at e; cases e
            · rw [upd_ne (fun y => DL (by rw [← y]; exact z))] at e; exact S1.there a z e
          · obtain ⟨xs, qx, rx⟩ := S1.cell j a ds e1 e2
            have na : a ≠ D := fun y => Dρ (by rw [← y]; exact List.mem_of_getElem? e1)
            refine ⟨xs, by rw [upd_ne na]; exact qx, ?_⟩
            exact rx.step S1 sD
        · rintro j m H2 ⟨rfl, hj, La, ρa, sta, acc, xs, zs, sd, Sa, hx, hDa, hDr, hA, hlen, hcomp, hacc⟩
          by_cases hlt : j < I.ds.length
          · rw [drop_cons hlt] at hcomp
            obtain ⟨hchk, env1, he1, hcases⟩ := compD_cons_inv hcomp
            cases he1
            refine .inr ⟨IO.go La ρa H2 sta sd Sa hchk j hlt, fun H3 => j + 1 ≤ I.ds.length ∧ ∃ La ρa sta acc xs zs, Stp L1 ρ1 H1 La ρa H3 ∧ StOk K La ρa H3 sta ∧ H3 D = some (.lst xs) ∧ D ∈ La ∧ D ∉ ρa ∧ RpAll K La H3 xs acc ∧ xs.length ≤ j + 1 ∧
              compD I.chk (ggName i) test elt (env.set i none) (I.ds.drop (j + 1)) sta = .ok zs stf ∧ acc ++ zs = ys, fun H3 n3 => ⟨I.ds.length - (j + 1), by omega, rfl, n3⟩, fun x H3 hy => ?_⟩
            obtain ⟨sy, Sy, ry⟩ := IO.yld La ρa H2 sta sd Sa hchk j _ (List.getElem?_eq_getElem hlt) x H3 hy
            have sd3 := sd.trans S1 Sa sy
            have hx3 : H3 D = some (.lst xs) := sy.keep D _ hDr hx
            have hA3 := hA.step Sa sy
            have V3 : RpE K La ρa H3 ((env.set i none).set i (some (.d I.ds[j]))) ((L2.wipe σ [i]).set i (some x)) := ((V1.step S1 sd3).wipe i).set (.d ry)
            refine ⟨by show ((σ.set i none).set i (some x)).set i none = σ.set i none; rw [List.set_set, List.set_set], ?_⟩
            rcases hcases with ⟨st2, x2, st3, ws, ht, he, hr, rfl⟩ | ⟨st2, ht, hr⟩
            · refine htt _ _ _ ⟨La, ρa, sta, _, Sy, V3, ?_⟩
              rw [ht]
              intro L4 ρ4 H4 s4 S4
              refine (if_pos rfl).mpr ⟨L4, ρ4, st2, _, S4, V3.step Sy s4, ?_⟩
              rw [he]
              intro L5 ρ5 H5 y s5 S5 r5
              have s45 := s4.trans Sy S4 s5
              have hx5 : H5 D = some (.lst xs) := s45.keep D _ hDr hx3
              have hDL5 : D ∈ L5 := s45.ll D hDa
              have hDr5 : D ∉ ρ5 := fun z => by
                obtain ⟨suf, er, hs⟩ := s45.rr
                rw [er] at z
                rcases List.mem_append.mp z with z | z
                · exact hDr z
                · have := hs D z; rw [hx3] at this; cases this
              have hA5 := hA3.step Sy s45
              have sd5 := sd3.trans S1 Sy s45
              refine ⟨xs, hx5, ?_, hlt, L5, ρ5, st3, acc ++ [x2], xs ++ [y], ws, ?_, S5.updD hDL5 hDr5 ⟨xs, hx5⟩, upd_same, hDL5, hDr5, ?_, by rw [List.length_append, List.length_singleton]; omega, hr, by rw [List.append_assoc]; exact hacc⟩
              · have hb := big_line
                unfold bigN at hbig hb
                omega
              · exact ⟨fun a o hn e => by rw [upd_ne (ne_of_none e hD)]; exact sd5.keep a o hn e, sd5.lk, sd5.ll, sd5.rr⟩
              · cases r5 with
                | d r5 => exact (hA5.append (.cons r5 .nil)).updD hDL5 ⟨xs, hx5⟩
            · refine htt _ _ _ ⟨La, ρa, sta, _, Sy, V3, ?_⟩
              rw [ht]
              intro L4 ρ4 H4 s4 S4
              refine (if_neg Bool.false_ne_true).mpr ⟨hlt, L4, ρ4, st2, acc, xs, zs, sd3.trans S1 Sy s4, S4, s4.keep D _ hDr hx3, s4.ll D hDa, fun z => ?_, hA3.step Sy s4, by omega, hr, hacc⟩
              obtain ⟨suf, er, hs⟩ := s4.rr
              rw [er] at z
              rcases List.mem_append.mp z with z | z
              · exact hDr z
              · have := hs D z; rw [hx3] at this; cases this
          · have e : j = I.ds.length := by omega
            subst e
            rw [List.drop_length] at hcomp
            obtain ⟨hchk, rfl, rfl⟩ := compD_nil_inv hcomp
            rw [List.append_nil] at hacc
            subst hacc
            refine .inl ⟨IO.stop La ρa H2 _ sd Sa hchk _ (Nat.le_refl _), ?_⟩
            exact h _ rfl La ρa H2 D xs (s1.trans S S1 sd) Sa hx DH hDa hDr hA
    · rw [if_neg hbig] at h; exact h.elim
theorem Stp.filt {L ρ La ρa : List Addr} {H H2 : Hp} {D : Addr} (s : Stp L ρ H La ρa H2) (n : D ∉ L) : Stp L ρ H (La.filter fun a => decide (a ≠ D)) ρa H2 :=
  ⟨s.keep, fun a ha => s.lk a (List.mem_filter.mp ha).1, fun a ha => List.mem_filter.mpr ⟨s.ll a ha, decide_eq_true (fun z => n (by rw [← z]; exact ha))⟩, s.rr⟩
theorem tLc_lift {K : PySem.W.Frag} {mg : Str → Option Value} {gi : GI} {i : Nat} {test : GT} {elt : GE} {tt : TT} (htt : ∀ σ H Q, liftT K mg (fun _ => E0) test σ H Q → tt σ H Q) (σ : L2.St) (H : Hp) (Q : VK) (h : lift K mg E (gComp gi i test elt) σ H Q) :
    tLc (liftI K mg E gi) (gName i) tt (lift K mg (fun _ => E0) elt) [i] σ H Q := by
  obtain ⟨L, ρ, st, env, S, V, h⟩ := h
  refine tLc_core htt σ H Q ⟨L, ρ, st, env, S, V, ?_⟩
  cases q : gComp gi i test elt env st with
  | bad => rw [q] at h; exact h
  | exc c fs st' => rw [q] at h; exact h
  | ok a stf =>
    rw [q] at h
    intro ys ea La ρa H2 D xs sd Sa hx DH hDa hDr hA
    subst ea
    have hsub : ∀ a ∈ La.filter (fun a => decide (a ≠ D)), a ∈ La := fun a ha => (List.mem_filter.mp ha).1
    refine h (La.filter fun a => decide (a ≠ D)) ρa H2 _ (sd.filt (S.fresh DH)) ?_ (.d (.lst (fun z => by simpa using (List.mem_filter.mp z).2) hx (hA.sub hsub)))
    exact ⟨Sa.len, Sa.nd, fun a ha => List.mem_filter.mpr ⟨Sa.rl a ha, decide_eq_true (fun z => hDr (by rw [← z]; exact ha))⟩, fun a ha => Sa.there a (hsub a ha), fun i a ds e1 e2 => by
      obtain ⟨xs, q1, q2⟩ := Sa.cell i a ds e1 e2
      exact ⟨xs, q1, q2.sub hsub⟩⟩
variable {tg iter e : Expr} {ifs : List Expr} {scope : Scope} {x : Str} {i : Nat} {pos : Pos} {gi : GI} {test : GT} {elt : GE}
theorem le_comp (hc : X.calm = true) (hN : X.N.Nodup) (hi : LI X E tg iter gi) (ok : BlkOk X.N X.env.scope scope [(x, i)])
    (hg : ∀ (s : Shared) (H : Hp) (C : Addr) (cl : List (Str × Addr)) (fp : List Addr), PG (X.blk s H scope (compEnvC scope cl C X.env) fp) tg (gName i))
    (ht : ∀ (s : Shared) (H : Hp) (C : Addr) (cl : List (Str × Addr)) (fp : List Addr), PTs (X.blk s H scope (compEnvC scope cl C X.env) fp) ifs (liftT X.K X.mg (fun _ => E0) test))
    (he : ∀ (s : Shared) (H : Hp) (C : Addr) (cl : List (Str × Addr)) (fp : List Addr), LE (X.blk s H scope (compEnvC scope cl C X.env) fp) (fun _ => E0) e elt) (hs : ∀ x, foldedSetIterable iter X.env x = pure x := by intro _; rfl) :
    LE X E (.ListComp e [⟨tg, iter, ifs, 0⟩] scope pos) (gComp gi i test elt) :=
  (pe_lc hc hN hi ok hg ht he hs).imp fun σ H Q h => tLc_lift (fun _ _ _ z => z) σ H Q h
theorem lts_nil : PTs X [] (liftT X.K X.mg (fun _ => E0) gYes) := ⟨fun pins s σ H Q I h => pts_nil.run pins s σ H Q I (by
  obtain ⟨L, ρ, st, env, S, V, h⟩ := h
  exact h L ρ H .refl S)⟩
theorem lts_one {c : Expr} {t : GT} (h : LT X (fun _ => E0) c t) : PTs X [c] (liftT X.K X.mg (fun _ => E0) t) := pts_one h
/-- name = [ .. ] -/
theorem ls_setComp {E : XK} {j : Nat} {y : Str} {py spos : Pos} (hc : X.calm = true) (hN : X.N.Nodup) (hy : X.N[j]? = some y) (hyl : X.env.scope.names.lookup y = some .local)
    (hsw : swapsWith (.ListComp e [⟨tg, iter, ifs, 0⟩] scope pos) (some (.Name y py)) spos.line X.env = pure true) (hi : LI X (fun _ => E) tg iter gi) (ok : BlkOk X.N X.env.scope scope [(x, i)])
    (hg : ∀ (s : Shared) (H : Hp) (C : Addr) (cl : List (Str × Addr)) (fp : List Addr), PG (X.blk s H scope (compEnvC scope cl C X.env) fp) tg (gName i))
    (ht : ∀ (s : Shared) (H : Hp) (C : Addr) (cl : List (Str × Addr)) (fp : List Addr), PTs (X.blk s H scope (compEnvC scope cl C X.env) fp) ifs (liftT X.K X.mg (fun _ => E0) test))
    (he : ∀ (s : Shared) (H : Hp) (C : Addr) (cl : List (Str × Addr)) (fp : List Addr), LE (X.blk s H scope (compEnvC scope cl C X.env) fp) (fun _ => E0) e elt) (hs : ∀ x, foldedSetIterable iter X.env x = pure x := by intro _; rfl) :
    LS X E (.Assign [.Name y py] (.ListComp e [⟨tg, iter, ifs, 0⟩] scope pos) spos) (sSet j (gComp gi i test elt)) := by
  refine (ps_setLc (te := lift X.K X.mg (fun _ => E0) elt) hc hN hy hyl hsw hi ok hg ht he hs).imp fun D σ H h => ?_
  obtain ⟨L, ρ, st, env, S, V, h⟩ := h
  refine tLc_lift (K := X.K) (mg := X.mg) (E := fun _ => E) (fun _ _ _ z => z) σ H _ ⟨L, ρ, st, env, S, V, Out.bindO S h fun a st1 L1 ρ1 H1 x s1 S1 r1 h1 => h1 L1 ρ1 H1 _ .refl S1 ((V.step S s1).set r1)⟩
end
end LF
set_option Elab.async false
set_option linter.all false
set_option maxRecDepth 100000
set_option maxHeartbeats 2000000
namespace LF
open PySem PySem.Spec PyProof.Rows L2

/-! ### a def's store is cut back where it ends; a list that it hands back is nobody else's -/
@[simp] def cut (n : Nat) (r : R A) : R A := match r with
  | .ok (.d x) st => .ok (.d x) (st.take n)
  | .ok (.box k) st => if n ≤ k then (match st[k]? with
    | some ds => .ok (.d (.list ds)) (st.take n)
    | none => .bad) else .bad
  | .ok (.scr _) _ => .bad
  | .exc c fs st => .exc c fs (st.take n)
  | .bad => .bad
section
variable {K : PySem.W.Frag} {mg : Str → Option Value} {E : XK} {L ρ L' ρ' : List Addr} {H H' : Hp} {st st' : Sto}
theorem StOk.take (S : StOk K L ρ H st) (s : Stp L ρ H L' ρ' H') (S' : StOk K L' ρ' H' st') : StOk K L' ρ H' (st'.take st.length) := by
  obtain ⟨suf, er, _⟩ := s.rr
  have hl := S'.len
  rw [er, List.length_append, ← S.len] at hl
  refine ⟨by rw [List.length_take, hl, S.len]; omega, S.nd, fun a h => S'.rl a (by rw [er]; exact List.mem_append_left _ h), S'.there, fun i a ds e1 e2 => ?_⟩
  have hi : i < ρ.length := (List.getElem?_eq_some_iff.mp e1).1
  refine S'.cell i a ds (by rw [er, List.getElem?_append_left hi]; exact e1) ?_
  rw [List.getElem?_take] at e2
  split at e2
  · exact e2
  · cases e2
theorem Stp.cut (s : Stp L ρ H L' ρ' H') : Stp L ρ H L' ρ H' := ⟨s.keep, s.lk, s.ll, [], by simp, by simp⟩
theorem Out.cut {r : R A} {Q : VK} (S : StOk K L ρ H st) (h : Out K mg E L ρ H (LF.cut st.length r) Q) : Out K mg E L ρ H r Q := by
  cases r with
  | bad => exact h
  | exc c fs st1 => exact fun C L1 ρ1 H1 d hc s1 S1 x => h C L1 ρ H1 d hc s1.cut (S.take s1 S1) x
  | ok a st1 =>
    cases a with
    | d x =>
      intro L1 ρ1 H1 v s1 S1 r1
      cases r1 with
      | d r1 => exact h L1 ρ H1 v s1.cut (S.take s1 S1) (.d r1)
    | scr _ => exact h.elim
    | box k =>
      unfold LF.cut at h
      dsimp only at h
      by_cases hk : st.length ≤ k
      · rw [if_pos hk] at h
        intro L1 ρ1 H1 v s1 S1 r1
        cases q : st1[k]? with
        | none => rw [q] at h; exact h.elim
        | some ds =>
          rw [q] at h
          dsimp only at h
          cases r1 with
          | box e1 =>
            rename_i p
            obtain ⟨xs, hx, hA⟩ := S1.cell k p ds e1 q
            obtain ⟨suf, er, hs⟩ := s1.rr
            have hp : p ∉ ρ := fun z => by
              obtain ⟨j, hj, ej⟩ := List.getElem_of_mem z
              have e2 : ρ1[j]? = some p := by rw [er, List.getElem?_append_left hj, List.getElem?_eq_getElem hj, ej]
              have hk1 : k < ρ1.length := (List.getElem?_eq_some_iff.mp e1).1
              have hj1 : j < ρ1.length := (List.getElem?_eq_some_iff.mp e2).1
              have : j = k := (List.getElem_inj S1.nd).mp ((List.getElem?_eq_some_iff.mp e2).2.trans (List.getElem?_eq_some_iff.mp e1).2.symm)
              rw [S.len] at hk
              omega
            have hpn : H p = none := hs p (by
              have z : p ∈ ρ1 := List.mem_of_getElem? e1
              rw [er] at z
              exact (List.mem_append.mp z).resolve_left hp)
            have hsub : ∀ a ∈ L1.filter (fun a => decide (a ≠ p)), a ∈ L1 := fun a ha => (List.mem_filter.mp ha).1
            have St := S.take s1 S1
            have pL : p ∉ L := S.fresh hpn
            refine h (L1.filter fun a => decide (a ≠ p)) ρ H1 _ ⟨s1.keep, fun a ha => s1.lk a (hsub a ha), fun a ha => List.mem_filter.mpr ⟨s1.ll a ha, decide_eq_true (fun z => pL (by rw [← z]; exact ha))⟩, [], by simp, by simp⟩ ?_ (.d (.lst (fun z => by simpa using (List.mem_filter.mp z).2) hx (hA.sub hsub)))
            exact ⟨St.len, St.nd, fun a ha => List.mem_filter.mpr ⟨St.rl a ha, decide_eq_true (fun z => hp (by rw [← z]; exact ha))⟩, fun a ha => St.there a (hsub a ha), fun i a ds e1 e2 => by
              obtain ⟨xs, q1, q2⟩ := St.cell i a ds e1 e2
              exact ⟨xs, q1, q2.sub hsub⟩⟩
      · rw [if_neg hk] at h; exact h.elim
end
/-- a def's function, by its body -/
@[simp] def runC (m : Nat) (b : GS) : List A → Sto → R A := fun as st => cut st.length (runB m b as st)
section
variable {P : Program} {w : World} {K : PySem.W.Frag} {mg : Str → Option Value} {base : Heap}
theorem fnC {x qual : Str} {st : Stmt} {f : Addr} {fd : FuncData} {N ps : List Str} {k : Nat} {b : GS} {g : List A → Sto → R A} (F : Fun K x qual st f fd) (S : FnScope N ps (defScope st)) (n : Nat) (hn : n = ps.length)
    (hg : ∀ as s, as.length = n → g as s = runC N.length b as s)
    (hb : ∀ (cdv : Value) (A : Around) (outer : List PySem.Env) (s : Shared) (H : Hp) (E : XK), Room k (A.deeper (envOfC qual (defScope st) s.heap.objs.size f cdv)) →
      LSs (cxOf CX0 P w K mg base N qual (defScope st) f cdv A outer s H E).nox E0 (defBody st) b) : FnOk P w K mg base CX0 (k + 1) f fd ps (spL0 K mg n g) := by
  subst hn
  refine F.ok S (fun vs H Q E h => ?_) (fun cdv A outer s H vs Q E hr h => ⟨_, hb cdv A outer s H E hr, ?_⟩)
  · obtain ⟨L, ρ, st, as, _, r, e, _⟩ := h
    rw [r.length, e]
  · obtain ⟨L, ρ, st, as, S', r, e, h⟩ := h
    rw [hg as st e] at h
    exact ⟨L, ρ, st, _, S', .start r, OutS.run (Out.cut S' h)⟩
theorem fnCX {x qual : Str} {st : Stmt} {f : Addr} {fd : FuncData} {N ps : List Str} {k : Nat} {b : GS} {g : List A → Sto → R A} (F : Fun K x qual st f fd) (S : FnScope N ps (defScope st)) (n : Nat) (hn : n = ps.length)
    (hg : ∀ as s, as.length = n → g as s = runC N.length b as s)
    (hb : ∀ (cdv : Value) (A : Around) (outer : List PySem.Env) (s : Shared) (H : Hp) (E : XK), Room k (A.deeper (envOfC qual (defScope st) s.heap.objs.size f cdv)) →
      LSs (cxOf (L2.CX P w) P w K mg base N qual (defScope st) f cdv A outer s H E) E (defBody st) b) : FnOk P w K mg base (L2.CX P w) (k + 1) f fd ps (spL K mg n g) := by
  subst hn
  refine F.okX S (fun vs H Q E h => ?_) (fun cdv A outer s H vs Q E hr h => ⟨_, hb cdv A outer s H E hr, ?_⟩)
  · obtain ⟨L, ρ, st, as, _, r, e, _⟩ := h
    rw [r.length, e]
  · obtain ⟨L, ρ, st, as, S', r, e, h⟩ := h
    rw [hg as st e] at h
    exact ⟨L, ρ, st, _, S', .start r, OutS.run (Out.cut S' h)⟩
end

/-! ### __init__ of an error with two fields, and its raise -/
/-- self.f1 = a; self.f2 = b -/
def spIni (K : PySem.W.Frag) (C : Addr) (f1 f2 : Str) : Sp := fun vs H Q _ => ∃ (a : Addr) (v1 v2 : V), vs = [.ref a, v1, v2] ∧ OexC K C ∧ PySem.W.findIn K (.ref C) f1 = some none ∧ PySem.W.findIn K (.ref C) f2 = some none ∧ H a = some (exo a C none) ∧
  ∀ dx, H dx = none → dx ≠ a → Q .non (upd (upd (upd H dx (exd dx [(f1, v1)])) a (exo a C (some dx))) dx (exd dx [(f2, v2), (f1, v1)]))
section
variable {P : Program} {w : World} {K : PySem.W.Frag} {mg : Str → Option Value} {base : Heap} {C : Addr} {f1 f2 : Str}
theorem ini_read {σ : L2.St} {H : Hp} {Q : VK} {a : Addr} {v1 v2 : V} (T : OexC K C) (n1 : PySem.W.findIn K (.ref C) f1 = some none) (n2 : PySem.W.findIn K (.ref C) f2 = some none) (ha : H a = some (exo a C none))
    (q : ∀ dx, H dx = none → dx ≠ a → Q .non (upd (upd (upd H dx (exd dx [(f1, v1)])) a (exo a C (some dx))) dx (exd dx [(f2, v2), (f1, v1)]))) :
    tSeq (tOst K f1 (tVar 0) (tVar 1)) (tOst K f2 (tVar 0) (tVar 2)) { nx := fun _ H' => Q .non H', rt := Q } [some (.ref a), some v1, some v2] H := by
  refine ⟨v1, rfl, .ref a, rfl, a, C, rfl, T, n1, .inl ⟨ha, fun dx hdx ne => ?_⟩⟩
  refine ⟨v2, rfl, .ref a, rfl, a, C, rfl, T, n2, .inr ⟨dx, [(f1, v1)], upd_same, ?_, (by show 1 ≤ 900; decide), q dx hdx ne⟩⟩
  rw [upd_ne ne]
  exact upd_same
end
@[simp] def sRaise (c : Str) (f1 f2 : Str) (ga : GA) : GS := fun env st => (ga env st).bindO fun as st1 => match dsOf as with
  | some [x, y] => .exc c [(f2, y), (f1, x)] st1
  | _ => .bad
section
variable {X : Cx} {E : XK} {CX : CXT} {x : Str} {C fI : Addr} {k : Nat} {fd : FuncData} {ps : List Str} {f1 f2 : Str} {e : Expr} {es : List Expr} {ga : GA} {p pos rpos : Pos}
theorem OutL.bindO {K : PySem.W.Frag} {mg : Str → Option Value} {L ρ : List Addr} {H : Hp} {st : Sto} {r : R (List A)} {f : List A → Sto → O} {D} {Q'} (S : StOk K L ρ H st) (h : OutS K mg E L ρ H (r.bindO f) D)
    (k : ∀ a st' L' ρ' H' v, Stp L ρ H L' ρ' H' → StOk K L' ρ' H' st' → RpAs K L' ρ' H' v a → OutS K mg E L' ρ' H' (f a st') D → Q' v H') : OutL K mg E L ρ H r Q' := by
  cases r with
  | ok a st1 => exact fun L2' ρ2 H2 v t T x => k a st1 L2' ρ2 H2 v t T x (OutS.step S t T h)
  | exc c fs st => exact h
  | bad => exact h
theorem ls_raise (hc : X.calm = true) (tk : Takes X (fun cls d _ H => E cls d H)) (T : OexC X.K C) (n1 : PySem.W.findIn X.K (.ref C) f1 = some none) (n2 : PySem.W.findIn X.K (.ref C) f2 = some none)
    (iC : PySem.W.findIn X.K (.ref C) "__init__" = some (some (.ref fI))) (tI : PySem.W.typeIn X.K (.ref fI) = some (.type "function"))
    (F1 : FnOk X.prog X.w X.K X.mg X.base CX0 k fI fd ps (spIni X.K C f1 f2)) (hr : Room (k + 1) X.A) (hb : Binds X.K fd ps []) (hg : Gl X x) (hm : X.mg x = some (.ref C)) (ha : LA X (fun _ => E) (e :: es) ga) (hl : GLen ga 2)
    (hdb : (x == ("__debug__" : Str)) = false := by decide) (he : starEach (e :: es) X.env = (false, eval e X.env) :: starEach es X.env := by rfl) (hpl : (backTo pos (starEach es X.env)).any (·.1) = false := by rfl) :
    LS X E (.Raise (some (.Call (.Name x p) (e :: es) [] pos)) none rpos) (sRaise x f1 f2 ga) := by
  refine (ps_raise hc tk (pmk_oex T iC tI F1 hr hb .nil pass0 hg hm ha hdb he hpl)).imp fun D σ H h => ?_
  obtain ⟨L, ρ, st, env, S, V, h⟩ := h
  unfold sRaise at h
  refine ⟨L, ρ, st, env, S, V, OutL.bindO S h fun as st1 L1 ρ1 H1 vs s1 S1 r1 h1 => ?_⟩
  cases qd : dsOf as with
  | none => rw [qd] at h1; exact h1.elim
  | some ds =>
    rw [qd] at h1
    match ds, h1 with
    | [], h1 => exact h1.elim
    | [_], h1 => exact h1.elim
    | _ :: _ :: _ :: _, h1 => exact h1.elim
    | [x', y'], h1 =>
      have hA := r1.all qd
      cases hA with
      | cons ax hA =>
        cases hA with
        | cons ay hA =>
          cases hA
          rename_i v1 v2
          refine ⟨by show 2 ≤ 1000; decide, fun a hna => ?_⟩
          refine ⟨a, v1, v2, rfl, T, n1, n2, upd_same, fun dx hdx ne => ⟨rfl, dx, [(f2, v2), (f1, v1)], ?_, upd_same, ?_, ?_⟩⟩
          · rw [upd_ne (Ne.symm ne)]; exact upd_same
          · rw [upd_ne ne] at hdx; exact hdx
          · have hdn : H1 dx = none := by rw [upd_ne ne] at hdx; exact hdx
            have kk : ∀ b o, H1 b = some o → upd (del (upd (upd (upd (upd H1 a (exo a C none)) dx (exd dx [(f1, v1)])) a (exo a C (some dx))) dx (exd dx [(f2, v2), (f1, v1)])) a) dx (.xd [(f2, v2), (f1, v1)]) b = some o := fun b o eb => by
              have na : b ≠ a := ne_of_none eb hna
              have nd : b ≠ dx := ne_of_none eb hdn
              rw [upd_ne nd, del_ne na, upd_ne nd, upd_ne na, upd_ne nd, upd_ne na]
              exact eb
            have sf : Stp L1 ρ1 H1 L1 ρ1 _ := ⟨fun b o _ eb => kk b o eb, fun _ z => .inl z, fun _ z => z, [], by simp, by simp⟩
            refine h1 C L1 ρ1 _ dx hm sf (S1.step0 sf fun b _ o eb => kk b o eb) ⟨_, upd_same, rfl, .cons (ay.step S1 sf) (.cons (ax.step S1 sf) .nil)⟩
end
end LF
set_option Elab.async false
set_option linter.all false
set_option maxRecDepth 100000
set_option maxHeartbeats 2000000
namespace LF
open PySem PySem.Spec PyProof.Rows L2

/-! ### lists that change -/
section
variable {K : PySem.W.Frag} {mg : Str → Option Value} {L ρ L' ρ' : List Addr} {H H' : Hp} {st st' : Sto}
/-- a new list is taken into the store -/
theorem StOk.box (S : StOk K L ρ H st) {p : Addr} {xs : List V} {ds : List PyData} (hp : H p = none) (hA : RpAll K L H xs ds) :
    Stp L ρ H (p :: L) (ρ ++ [p]) (upd H p (.lst xs)) ∧ StOk K (p :: L) (ρ ++ [p]) (upd H p (.lst xs)) (st ++ [ds]) := by
  have pL : p ∉ L := S.fresh hp
  have pρ : p ∉ ρ := fun z => pL (S.rl p z)
  have s : Stp L ρ H (p :: L) (ρ ++ [p]) (upd H p (.lst xs)) := ⟨fun a o _ e => by rw [upd_ne (ne_of_none e hp)]; exact e, fun a ha => by
      rcases List.mem_cons.mp ha with z | z
      · rw [z]; exact .inr hp
      · exact .inl z, fun a ha => List.mem_cons_of_mem _ ha, [p], rfl, fun a ha => by rw [List.mem_singleton.mp ha]; exact hp⟩
  refine ⟨s, by simp [S.len], ?_, fun a ha => ?_, fun a ha e => ?_, fun i a es e1 e2 => ?_⟩
  · rw [List.nodup_append]
    exact ⟨S.nd, by simp, fun a ha b hb z => pρ (by rw [List.mem_singleton.mp hb] at z; rw [← z]; exact ha)⟩
  · rcases List.mem_append.mp ha with z | z
    · exact List.mem_cons_of_mem _ (S.rl a z)
    · rw [List.mem_singleton.mp z]; exact List.mem_cons_self
  · rcases List.mem_cons.mp ha with z | z
    · rw [z, upd_same] at e; cases e
    · rw [upd_ne (fun y => pL (by rw [← y]; exact z))] at e; exact S.there a z e
  · by_cases hi : i < ρ.length
    · rw [List.getElem?_append_left hi] at e1
      rw [List.getElem?_append_left (by rw [S.len]; exact hi)] at e2
      obtain ⟨ys, q, r⟩ := S.cell i a es e1 e2
      have na : a ≠ p := fun z => pρ (by rw [← z]; exact List.mem_of_getElem? e1)
      exact ⟨ys, by rw [upd_ne na]; exact q, r.step S s⟩
    · rw [List.getElem?_append_right (by omega)] at e1
      rw [List.getElem?_append_right (by rw [S.len]; omega)] at e2
      have hz : i - ρ.length = 0 := by
        have := (List.getElem?_eq_some_iff.mp e1).1
        simp at this
        exact this
      rw [hz] at e1
      rw [S.len, hz] at e2
      simp at e1 e2
      subst e1 e2
      exact ⟨xs, upd_same, hA.step S s⟩
/-- a list of the store is changed -/
theorem StOk.put (S : StOk K L ρ H st) {i : Nat} {p : Addr} {xs zs : List V} {es : List PyData} (hi : ρ[i]? = some p) (hx : H p = some (.lst xs)) (hA : RpAll K L H zs es) :
    Stp L ρ H L ρ (upd H p (.lst zs)) ∧ StOk K L ρ (upd H p (.lst zs)) (st.set i es) := by
  have pρ : p ∈ ρ := List.mem_of_getElem? hi
  have pL : p ∈ L := S.rl p pρ
  have s : Stp L ρ H L ρ (upd H p (.lst zs)) := ⟨fun a o hn e => by rw [upd_ne (fun z => hn (by rw [z]; exact pρ))]; exact e, fun a h => .inl h, fun a h => h, [], by simp, by simp⟩
  refine ⟨s, by simp [S.len], S.nd, S.rl, fun a ha e => ?_, fun j a ds e1 e2 => ?_⟩
  · by_cases h2 : a = p
    · rw [h2, upd_same] at e; cases e
    · rw [upd_ne h2] at e; exact S.there a ha e
  · by_cases hj : j = i
    · subst hj
      rw [hi] at e1
      cases e1
      have hlt : j < st.length := by
        have := (List.getElem?_eq_some_iff.mp e2).1
        simpa using this
      rw [List.getElem?_set_self hlt] at e2
      cases e2
      exact ⟨zs, upd_same, hA.updD pL ⟨xs, hx⟩⟩
    · rw [List.getElem?_set_ne (Ne.symm hj)] at e2
      obtain ⟨ys, q, r⟩ := S.cell j a ds e1 e2
      have na : a ≠ p := fun z => hj (by
        subst z
        exact (List.getElem_inj S.nd).mp ((List.getElem?_eq_some_iff.mp e1).2.trans (List.getElem?_eq_some_iff.mp hi).2.symm))
      exact ⟨ys, by rw [upd_ne na]; exact q, r.updD pL ⟨xs, hx⟩⟩
end
/-- x = [..], a list that will change -/
@[simp] def sBox (i : Nat) (ga : GA) : GS := fun env st => (ga env st).bindO fun as st1 => match dsOf as with
  | some ds => .nx (env.set i (some (.box st1.length))) (st1 ++ [ds])
  | none => .bad
/-- x = <a new list>, the list will change -/
@[simp] def sBoxOf (i : Nat) (g : GE) : GS := fun env st => (g env st).bindO fun a st1 => match a with
  | .d (.list ds) => .nx (env.set i (some (.box st1.length))) (st1 ++ [ds])
  | _ => .bad
@[simp] def sApp (gb g : GE) : GS := fun env st => (gb env st).bindO fun b st1 => match b with
  | .box k => (g env st1).bindO fun a st2 => match a with
    | .d x => match st2[k]? with
      | some ds => if ds.length < bigN then .nx env (st2.set k (ds ++ [x])) else .bad
      | none => .bad
    | _ => .bad
  | _ => .bad
@[simp] def sPut (gb gi g : GE) : GS := fun env st => (g env st).bindO fun a st1 => (gb env st1).bindO fun b st2 => (gi env st2).bindO fun c st3 => match b, c, a with
  | .box k, .d (.int i), .d x => match st3[k]? with
    | some ds => match ixN ds.length i with
      | some j => .nx env (st3.set k (ds.set j x))
      | none => .bad
    | none => .bad
  | _, _, _ => .bad
def popD (k : Nat) (i : Int) (st : Sto) : Option (PyData × Sto) :=
  (st[k]?).bind fun ds => if smallI i = true then (seqIndex? i ds.length).bind fun j => (ds[j]?).map fun x => (x, st.set k (ds.eraseIdx j)) else none
@[simp] def gPop (gb g : GE) : GE := fun env st => (gb env st).bind fun b st1 => match b with
  | .box k => (g env st1).bind fun a st2 => match a with
    | .d (.int i) => match popD k i st2 with
      | some (x, st3) => .ok (.d x) st3
      | none => .bad
    | _ => .bad
  | _ => .bad
section
variable {X : Cx} {E : XK} {EE : L2.St → XK} {i : Nat} {x : Str} {e o : Expr} {es : List Expr} {ga : GA} {g gb gi : GE} {pos pos' apos cpos : Pos}
theorem RpAll.set {K : PySem.W.Frag} {L : List Addr} {H : Hp} : ∀ {xs : List V} {ds : List PyData} (j : Nat) {v : V} {d : PyData}, RpAll K L H xs ds → Rp K L H v d → RpAll K L H (xs.set j v) (ds.set j d)
  | _, _, _, _, _, .nil, _ => .nil
  | _, _, 0, _, _, .cons _ t, r => .cons r t
  | _, _, j + 1, _, _, .cons h t, r => .cons h (RpAll.set j t r)
theorem RpAll.erase {K : PySem.W.Frag} {L : List Addr} {H : Hp} : ∀ {xs : List V} {ds : List PyData} (j : Nat), RpAll K L H xs ds → RpAll K L H (xs.eraseIdx j) (ds.eraseIdx j)
  | _, _, _, .nil => .nil
  | _, _, 0, .cons _ t => t
  | _, _, j + 1, .cons h t => .cons h (RpAll.erase j t)
theorem ls_box (hN : X.N.Nodup) (hi : X.N[i]? = some x) (hx : Loc X.env.scope x) (ha : LA X (fun _ => E) es ga) {n : Nat} (hl : GLen ga n) (hn : n ≤ sizeLine := by decide) (hs : swapsWith (.List es pos) (some (.Name x pos')) cpos.line X.env = pure false := by rfl) (hf : X.fn x = true ∨ X.env.scope.names.lookup x = some .local := by first | exact .inl rfl | exact .inr rfl | assumption) :
    LS X E (.Assign [.Name x pos'] (.List es pos) cpos) (sBox i ga) := by
  refine (ps_set hN hi hx (pe_lst ha) hs hf).imp fun D σ H h => ?_
  obtain ⟨L, ρ, st, env, S, V, h⟩ := h
  unfold sBox at h
  refine ⟨L, ρ, st, env, S, V, ?_⟩
  cases e1 : ga env st with
  | bad => rw [e1] at h; exact h
  | exc c fs st' => rw [e1] at h; exact h
  | ok as st1 =>
    rw [e1, R.bindO_ok] at h
    intro L1 ρ1 H1 vs s1 S1 r1
    have h1 := OutS.step S s1 S1 h
    cases q : dsOf as with
    | none => rw [q] at h1; exact h1.elim
    | some ds =>
      rw [q] at h1
      refine ⟨by rw [r1.length, hl _ _ _ _ e1]; exact hn, fun p hp => ?_⟩
      obtain ⟨sb, Sb⟩ := S1.box hp (r1.all q)
      refine h1 _ _ _ _ sb Sb (((V.step S s1).step S1 sb).set (.box ?_))
      rw [List.getElem?_append_right (by rw [S1.len]; exact Nat.le_refl _), S1.len]
      simp
theorem ls_app (hb : LE X (fun _ => E) o gb) (ha : LE X (fun _ => E) e g) (hbase : attributeBase o "append" X.env (eval o X.env) = eval o X.env := by rfl)
    (hfew : ((backTo cpos (starEach [e] X.env)).all (fun x => !x.1) && (backToKw cpos (keywordEach [] X.env)).all (fun x => x.1.isSome)
      && decide ([e].length + ([] : List Keyword).length + (if ([] : List Keyword).isEmpty then 0 else 1) < 30)) = true := by rfl)
    (hline : (apos.endLine == cpos.line) = true := by rfl) (hs : starEach [e] X.env = (false, eval e X.env) :: starEach [] X.env := by rfl) (hplain : (backTo cpos (starEach [] X.env)).any (·.1) = false := by rfl)
    (hsw : swapsWith (.Call (.Attribute o "append" apos) [e] [] cpos) none pos.line X.env = pure false := by rfl) :
    LS X E (.Expr (.Call (.Attribute o "append" apos) [e] [] cpos) pos) (sApp gb g) := by
  refine (ps_expr (pe_bm PySem.F.plainAttrs_list PySem.F.slot_list_append PySem.F.type_list_append mt_append hb (pa_cons ha pa_nil hs) hbase hfew hline hs hplain) hsw).imp fun D σ H h => ?_
  obtain ⟨L, ρ, st, env, S, V, h⟩ := h
  unfold sApp at h
  refine ⟨L, ρ, st, env, S, V, Out.bindO S h fun b st1 L1 ρ1 H1 vb s1 S1 rb h1 => ?_⟩
  cases b with
  | d _ => exact h1.elim
  | scr _ => exact h1.elim
  | box k =>
    cases rb with
    | box ek =>
      rename_i p
      obtain ⟨ds, hds⟩ : ∃ ds, st1[k]? = some ds := ⟨st1[k]'(by rw [S1.len]; exact (List.getElem?_eq_some_iff.mp ek).1), List.getElem?_eq_getElem _⟩
      obtain ⟨xs, hx, hA⟩ := S1.cell k p ds ek hds
      refine ⟨.inl ⟨rfl, xs, SqL.of hx⟩, L1, ρ1, st1, env, S1, V.step S s1, Out.bindO S1 h1 fun a st2 L2' ρ2 H2 va s2 S2 ra h2 => ?_⟩
      cases a with
      | box _ => exact h2.elim
      | scr _ => exact h2.elim
      | d x' =>
        dsimp only at h2
        cases qd : st2[k]? with
        | none => rw [qd] at h2; exact h2.elim
        | some ds2 =>
          rw [qd] at h2
          dsimp only at h2
          by_cases hz : ds2.length < bigN
          · rw [if_pos hz] at h2
            obtain ⟨suf, er, _⟩ := s2.rr
            have ek2 : ρ2[k]? = some p := by rw [er, List.getElem?_append_left (List.getElem?_eq_some_iff.mp ek).1]; exact ek
            obtain ⟨ys, hy, hB⟩ := S2.cell k p ds2 ek2 qd
            cases ra with
            | d ra =>
              obtain ⟨sp, Sp'⟩ := S2.put ek2 hy (hB.append (.cons ra .nil))
              refine ⟨p, ys, va, rfl, rfl, hy, ?_, ?_⟩
              · have := big_line
                rw [hB.length]
                omega
              · exact h2 _ _ _ _ sp Sp' (((V.step S s1).step S1 s2).step S2 sp)
          · rw [if_neg hz] at h2; exact h2.elim
theorem le_pop (hb : LE X EE o gb) (ha : LE X EE e g) (hbase : attributeBase o "pop" X.env (eval o X.env) = eval o X.env := by rfl)
    (hfew : ((backTo cpos (starEach [e] X.env)).all (fun x => !x.1) && (backToKw cpos (keywordEach [] X.env)).all (fun x => x.1.isSome)
      && decide ([e].length + ([] : List Keyword).length + (if ([] : List Keyword).isEmpty then 0 else 1) < 30)) = true := by rfl)
    (hline : (apos.endLine == cpos.line) = true := by rfl) (hs : starEach [e] X.env = (false, eval e X.env) :: starEach [] X.env := by rfl) (hplain : (backTo cpos (starEach [] X.env)).any (·.1) = false := by rfl) :
    LE X EE (.Call (.Attribute o "pop" apos) [e] [] cpos) (gPop gb g) := by
  refine (pe_bm PySem.F.plainAttrs_list PySem.F.slot_list_pop PySem.F.type_list_pop mt_popAt hb (pa_cons ha pa_nil hs) hbase hfew hline hs hplain).imp fun σ H Q h => ?_
  obtain ⟨L, ρ, st, env, S, V, h⟩ := h
  unfold gPop at h
  refine ⟨L, ρ, st, env, S, V, Out.bind S h fun b st1 L1 ρ1 H1 vb s1 S1 rb h1 => ?_⟩
  cases b with
  | d _ => exact h1.elim
  | scr _ => exact h1.elim
  | box k =>
    cases rb with
    | box ek =>
      rename_i p
      obtain ⟨ds, hds⟩ : ∃ ds, st1[k]? = some ds := ⟨st1[k]'(by rw [S1.len]; exact (List.getElem?_eq_some_iff.mp ek).1), List.getElem?_eq_getElem _⟩
      obtain ⟨xs, hx, hA⟩ := S1.cell k p ds ek hds
      refine ⟨.inl ⟨rfl, xs, SqL.of hx⟩, L1, ρ1, st1, env, S1, V.step S s1, Out.bind S1 h1 fun a st2 L2' ρ2 H2 va s2 S2 ra h2 => ?_⟩
      cases a with
      | box _ => exact h2.elim
      | scr _ => exact h2.elim
      | d x' =>
        cases x' with
        | int i =>
          dsimp only at h2
          cases qp : popD k i st2 with
          | none => rw [qp] at h2; exact h2.elim
          | some r =>
            obtain ⟨x3, st3⟩ := r
            rw [qp] at h2
            dsimp only at h2
            unfold popD at qp
            cases qd : st2[k]? with
            | none => rw [qd] at qp; cases qp
            | some ds2 =>
              rw [qd, Option.bind_some] at qp
              cases hsm : smallI i with
              | false => rw [hsm] at qp; cases qp
              | true =>
                rw [hsm, if_pos rfl] at qp
                cases qj : seqIndex? i ds2.length with
                | none => rw [qj] at qp; cases qp
                | some j =>
                  rw [qj, Option.bind_some] at qp
                  cases qx : ds2[j]? with
                  | none => rw [qx] at qp; cases qp
                  | some x4 =>
                    rw [qx] at qp
                    simp only [Option.map_some, Option.some.injEq, Prod.mk.injEq] at qp
                    obtain ⟨rfl, rfl⟩ := qp
                    obtain ⟨suf, er, _⟩ := s2.rr
                    have ek2 : ρ2[k]? = some p := by rw [er, List.getElem?_append_left (List.getElem?_eq_some_iff.mp ek).1]; exact ek
                    obtain ⟨ys, hy, hB⟩ := S2.cell k p ds2 ek2 qd
                    obtain ⟨v4, e4, r4⟩ := hB.get qx
                    obtain ⟨sp, Sp'⟩ := S2.put ek2 hy (hB.erase j)
                    have hb2 := smallI_le hsm
                    refine ⟨p, ys, i, j, v4, rfl, by rw [ra.int], hy, by omega, by omega, by rw [hB.length]; exact qj, e4, ?_⟩
                    exact h2 _ _ _ _ sp Sp' (.d (r4.updD (S2.rl p (List.mem_of_getElem? ek2)) ⟨ys, hy⟩))
        | _ => exact h2.elim
theorem ls_put {oi : Expr} {tpos : Pos} (ha : LE X (fun _ => E) e g) (hb : LE X (fun _ => E) o gb) (hi : LE X (fun _ => E) oi gi)
    (hA : ∀ v, assign (.Subscript o oi tpos) X.env v = (do
      let ov ← holding [v] (eval o X.env)
      let iv ← holding [v, ov] (eval oi X.env)
      standAt tpos
      holding [v, ov, iv] (setItem ov iv v)
      release [v, ov, iv] []) := by intro _; rfl) (hs : swapsWithSole [.Subscript o oi tpos] e pos.line X.env = pure false := by rfl) (hw : swappedStores [.Subscript o oi tpos] e X.env = pure none := by rfl)
    (h1 : (assignEach [.Subscript o oi tpos] X.env).map (·.2) = [assign (.Subscript o oi tpos) X.env] := by rfl) : LS X E (.Assign [.Subscript o oi tpos] e pos) (sPut gb gi g) := by
  refine (ps_asg ha (pg_sub hb hi set_list hA) hs hw h1).imp fun D σ H h => ?_
  obtain ⟨L, ρ, st, env, S, V, h⟩ := h
  unfold sPut at h
  refine ⟨L, ρ, st, env, S, V, Out.bindO S h fun a st1 L1 ρ1 H1 va s1 S1 ra h1 => ⟨L1, ρ1, st1, env, S1, V.step S s1, Out.bindO S1 h1 fun b st2 L2' ρ2 H2 vb s2 S2 rb h2 => ?_⟩⟩
  have V2 := (V.step S s1).step S1 s2
  refine ⟨L2', ρ2, st2, env, S2, V2, Out.bindO S2 h2 fun c st3 L3 ρ3 H3 vc s3 S3 rc h3 => ?_⟩
  have ra3 := (ra.step S1 s2).step S2 s3
  have rb3 := rb.step S2 s3
  have V3 := V2.step S2 s3
  cases b with
  | d _ => exact h3.elim
  | scr _ => exact h3.elim
  | box k =>
    cases c with
    | box _ => exact h3.elim
    | scr _ => exact h3.elim
    | d c =>
      cases c with
      | int i =>
        cases a with
        | box _ => exact h3.elim
        | scr _ => exact h3.elim
        | d x' =>
          dsimp only at h3
          cases qd : st3[k]? with
          | none => rw [qd] at h3; exact h3.elim
          | some ds =>
            rw [qd] at h3
            dsimp only at h3
            cases qj : ixN ds.length i with
            | none => rw [qj] at h3; exact h3.elim
            | some j =>
              rw [qj] at h3
              dsimp only at h3
              cases rb3 with
              | box ek =>
                rename_i p
                obtain ⟨ys, hy, hB⟩ := S3.cell k p ds ek qd
                cases ra3 with
                | d ra3 =>
                  obtain ⟨sp, Sp'⟩ := S3.put ek hy (hB.set j ra3)
                  rw [rc.int]
                  exact ⟨p, ys, i, j, rfl, rfl, hy, by rw [hB.length]; exact qj, h3 _ _ _ _ sp Sp' (V3.step S3 sp)⟩
      | _ => exact h3.elim
/-! ### list(range(..)) -/
@[simp] def gLstR1 (g : GE) : GE := fun env st => (g env st).bind fun a st1 => match a with
  | .d (.int n) => if (smallI n && decide (n ≤ 16777216)) = true then .ok (.d (.list (rangeD 0 n.toNat))) st1 else .bad
  | _ => .bad
theorem rgV_rp {K : PySem.W.Frag} {L : List Addr} {H : Hp} (lo : Int) (n : Nat) : RpAll K L H ((List.range n).map fun (i : Nat) => V.int (lo + (i : Nat))) (rangeD lo n) := by
  unfold rangeD
  induction List.range n with
  | nil => exact .nil
  | cons a l ih => exact .cons (.int _) ih
theorem tLstR1 {K : PySem.W.Frag} {mg : Str → Option Value} (σ : L2.St) (H : Hp) (Q : VK) {Qb : List PyData → Sto → Prop} (h : ∃ L ρ st env, StOk K L ρ H st ∧ RpE K L ρ H env σ ∧ (match g env st with
    | .ok (.d (.int n)) st1 => (smallI n && decide (n ≤ 16777216)) = true ∧ ∀ L' ρ' H' p, Stp L ρ H L' ρ' H' → StOk K L' ρ' H' st1 → RpE K L' ρ' H' env σ → H' p = none → Q (.ref p) (upd H' p (.lst ((List.range n.toNat).map fun (i : Nat) => V.int (0 + (i : Nat)))))
    | .exc c fs st1 => OutX K mg (EE σ) L ρ H c fs st1
    | _ => False)) : tLstRg (tRg1 (lift K mg EE g)) σ H Q := by
  obtain ⟨L, ρ, st, env, S, V, h⟩ := h
  refine ⟨L, ρ, st, env, S, V, ?_⟩
  cases q : g env st with
  | bad => rw [q] at h; exact h.elim
  | exc c fs st1 => rw [q] at h; exact h
  | ok a st1 =>
    rw [q] at h
    intro L1 ρ1 H1 v s1 S1 r1
    cases a with
    | box _ => exact h.elim
    | scr _ => exact h.elim
    | d x =>
      cases x with
      | int n =>
        obtain ⟨hn, h⟩ := h
        rw [Bool.and_eq_true] at hn
        have hb := smallI_le hn.1
        have hc : n ≤ 16777216 := of_decide_eq_true hn.2
        rw [r1.int]
        refine ⟨n, rfl, ⟨by omega, by omega, by omega, by omega, by omega⟩, fun p hp => ?_⟩
        have := h L1 ρ1 H1 p s1 S1 (V.step S s1) hp
        unfold rgV
        rw [show n - 0 = n by omega]
        exact this
      | _ => exact h.elim
theorem le_lstR1 {p p2 : Pos} (hc : X.calm = true) (hg : Gl X "list") (hm : X.mg "list" = none) (hg2 : Gl X "range") (hm2 : X.mg "range" = none) (ha : LE X EE e g) (na : starEach [e] X.env = (false, eval e X.env) :: starEach [] X.env := by rfl)
    (nb : starEach [.Call (.Name "range" p2) [e] [] pos'] X.env = (false, eval (.Call (.Name "range" p2) [e] [] pos') X.env) :: starEach [] X.env := by rfl) :
    LE X EE (.Call (.Name "list" p) [.Call (.Name "range" p2) [e] [] pos'] [] pos) (gLstR1 g) := by
  refine (pe_listRg hc hg hm (prg_1 hg2 hm2 ha na) nb).imp fun σ H Q h => ?_
  obtain ⟨L, ρ, st, env, S, V, h⟩ := h
  refine tLstR1 (K := X.K) (mg := X.mg) (Qb := fun _ _ => True) σ H Q ⟨L, ρ, st, env, S, V, ?_⟩
  unfold gLstR1 at h
  cases q : g env st with
  | bad => rw [q] at h; exact h.elim
  | exc c fs st1 => rw [q] at h; exact h
  | ok a st1 =>
    rw [q, R.bind_ok] at h
    cases a with
    | box _ => exact h.elim
    | scr _ => exact h.elim
    | d x =>
      cases x with
      | int n =>
        dsimp only at h ⊢
        cases hn : (smallI n && decide (n ≤ 16777216)) with
        | false => rw [hn] at h; exact h.elim
        | true =>
          rw [hn] at h
          refine ⟨rfl, fun L1 ρ1 H1 p s1 S1 _ hp => ?_⟩
          exact h L1 ρ1 _ _ (s1.trans S S1 (.new hp)) (S1.new hp) (.d (.lst (S1.fresh hp) upd_same (rgV_rp 0 n.toNat)))
      | _ => exact h.elim
theorem ls_boxR1 {p p2 px ps : Pos} (hN : X.N.Nodup) (hi : X.N[i]? = some x) (hx : Loc X.env.scope x) (hc : X.calm = true) (hg : Gl X "list") (hm : X.mg "list" = none) (hg2 : Gl X "range") (hm2 : X.mg "range" = none) (ha : LE X (fun _ => E) e g)
    (na : starEach [e] X.env = (false, eval e X.env) :: starEach [] X.env := by rfl)
    (nb : starEach [.Call (.Name "range" p2) [e] [] pos'] X.env = (false, eval (.Call (.Name "range" p2) [e] [] pos') X.env) :: starEach [] X.env := by rfl)
    (hs : swapsWith (.Call (.Name "list" p) [.Call (.Name "range" p2) [e] [] pos'] [] pos) (some (.Name x px)) ps.line X.env = pure false := by rfl) (hf : X.fn x = true ∨ X.env.scope.names.lookup x = some .local := by first | exact .inl rfl | exact .inr rfl | assumption) :
    LS X E (.Assign [.Name x px] (.Call (.Name "list" p) [.Call (.Name "range" p2) [e] [] pos'] [] pos) ps) (sBoxOf i (gLstR1 g)) := by
  refine (ps_set hN hi hx (pe_listRg hc hg hm (prg_1 hg2 hm2 ha na) nb) hs hf).imp fun D σ H h => ?_
  obtain ⟨L, ρ, st, env, S, V, h⟩ := h
  refine tLstR1 (K := X.K) (mg := X.mg) (Qb := fun _ _ => True) σ H _ ⟨L, ρ, st, env, S, V, ?_⟩
  unfold sBoxOf gLstR1 at h
  cases q : g env st with
  | bad => rw [q] at h; exact h.elim
  | exc c fs st1 => rw [q] at h; exact h
  | ok a st1 =>
    rw [q, R.bind_ok] at h
    cases a with
    | box _ => exact h.elim
    | scr _ => exact h.elim
    | d x =>
      cases x with
      | int n =>
        dsimp only at h ⊢
        cases hn : (smallI n && decide (n ≤ 16777216)) with
        | false => rw [hn] at h; exact h.elim
        | true =>
          rw [hn] at h
          refine ⟨rfl, fun L1 ρ1 H1 p s1 S1 V1 hp => ?_⟩
          obtain ⟨sb, Sb⟩ := S1.box hp (rgV_rp (K := X.K) (L := L1) (H := H1) 0 n.toNat)
          refine h _ _ _ _ (s1.trans S S1 sb) Sb ((V1.step S1 sb).set (.box ?_))
          rw [List.getElem?_append_right (by rw [S1.len]; exact Nat.le_refl _), S1.len]
          simp
      | _ => exact h.elim
end
end LF
set_option Elab.async false
set_option linter.all false
set_option maxRecDepth 100000
set_option maxHeartbeats 2000000
namespace LF
open PySem PySem.Spec PyProof.Rows L2

/-! ### a, b = x, y and a, b = t -/
@[simp] def sPar (i j : Nat) (ga : GA) : GS := fun env st => (ga env st).bindO fun as st1 => match as with
  | [a, b] => .nx ((env.set i (some a)).set j (some b)) st1
  | _ => .bad
@[simp] def sAsg (gt : GG) (g : GE) : GS := fun env st => (g env st).bindO fun a st1 => match a with
  | .d d => match gt d env with
    | some env' => .nx env' st1
    | none => .bad
  | _ => .bad
section
variable {X : Cx} {E : XK} {i j : Nat} {x y : Str} {a b e tg : Expr} {ga : GA} {g : GE} {pos : Pos}
theorem ls_par {px py pt : Pos} {kt k2 pt2} (hc : X.calm = true) (hN : X.N.Nodup) (hi : X.N[i]? = some x) (hj : X.N[j]? = some y) (hij : i ≠ j)
    (hx : X.env.scope.names.lookup x = some .local) (hy : X.env.scope.names.lookup y = some .local) (ha : LA X (fun _ => E) [a, b] ga)
    (hw : swappedStores [.Tuple [.Name x px, .Name y py] kt pt] (.Tuple [a, b] k2 pt2) X.env = pure (some [x, y]))
    (hs : swapsWithSole [.Tuple [.Name x px, .Name y py] kt pt] (.Tuple [a, b] k2 pt2) pos.line X.env = pure false := by rfl) :
    LS X E (.Assign [.Tuple [.Name x px, .Name y py] kt pt] (.Tuple [a, b] k2 pt2) pos) (sPar i j ga) := by
  refine (ps_par hc hN hi hj hij hx hy ha hw hs).imp fun D σ H h => ?_
  obtain ⟨L, ρ, st, env, S, V, h⟩ := h
  refine ⟨L, ρ, st, env, S, V, OutL.bindO S h fun as st1 L1 ρ1 H1 vs s1 S1 r1 h1 => ?_⟩
  split at h1
  · obtain ⟨v, w, rfl, ra, rb⟩ := r1.two
    exact ⟨v, w, rfl, h1 L1 ρ1 H1 _ .refl S1 (((V.step S s1).set ra).set rb)⟩
  · exact h1.elim
theorem ls_asg {gg : TG} {gt : GG} (ha : LE X (fun _ => E) e g) (hg : PG X tg gg) (hk : GOk X.K gg gt) (hs : swapsWithSole [tg] e pos.line X.env = pure false := by rfl) (hw : swappedStores [tg] e X.env = pure none := by rfl)
    (h1 : (assignEach [tg] X.env).map (·.2) = [assign tg X.env] := by rfl) : LS X E (.Assign [tg] e pos) (sAsg gt g) := by
  refine (ps_asg ha hg hs hw h1).imp fun D σ H h => ?_
  obtain ⟨L, ρ, st, env, S, V, h⟩ := h
  refine ⟨L, ρ, st, env, S, V, Out.bindO S h fun a st1 L1 ρ1 H1 v s1 S1 r1 h1 => ?_⟩
  cases a with
  | box _ => exact h1.elim
  | scr _ => exact h1.elim
  | d d =>
    dsimp only at h1
    cases q : gt d env with
    | none => rw [q] at h1; exact h1.elim
    | some env' =>
      rw [q] at h1
      cases r1 with
      | d r1 => exact hk L1 ρ1 H1 st1 v d env σ env' D.nx S1 (V.step S s1) r1 q fun σ' V' => h1 L1 ρ1 H1 σ' .refl S1 V'
end
/-! ### a name of the module -/
section
variable {X : Cx} {E : L2.St → XK} {x : Str} {pos : Pos}
theorem le_glob {v : V} {u : Value} {d : PyData} (hg : Gl X x) (hm : X.mg x = some u) (r : RelV v u) (hr : ∀ L H, Rp X.K L H v d) (hd : (x == ("__debug__" : Str)) = false := by decide) : LE X E (.Name x pos) (gC d) := by
  refine (pe_glob hg hm r hd).imp fun σ H Q h => ?_
  obtain ⟨L, ρ, st, env, S, V, h⟩ := h
  exact h L ρ H v .refl S (.d (hr _ _))
end
/-! ### keywords -/
def pick {α : Type} (is : List Nat) (xs : List α) : List α := is.filterMap (xs[·]?)
def gK {α : Type} (n1 n2 : Nat) (is : List Nat) (us ws : List α) : List α := if us.length = n1 ∧ ws.length = n2 then pick is (us ++ ws) else []
theorem pick_vals : ∀ (is : List Nat) {vs : List V} {us : List Value}, Vals vs us → Vals (pick is vs) (pick is us)
  | [], _, _, _ => .nil
  | i :: is, vs, us, r => by
    unfold pick
    rw [List.filterMap_cons, List.filterMap_cons]
    cases e : vs[i]? with
    | none => rw [r.none_of e]; exact pick_vals is r
    | some v => obtain ⟨u, eu, ru⟩ := r.get e; rw [eu]; exact .cons ru (pick_vals is r)
theorem RpAs.get' {K : PySem.W.Frag} {L ρ : List Addr} {H : Hp} : ∀ {vs : List V} {as : List A} (i : Nat), RpAs K L ρ H vs as → (vs[i]? = none ∧ as[i]? = none) ∨ ∃ v a, vs[i]? = some v ∧ as[i]? = some a ∧ RpA K L ρ H v a
  | _, _, _, .nil => .inl ⟨by simp, by simp⟩
  | _, _, 0, .cons h _ => .inr ⟨_, _, rfl, rfl, h⟩
  | _, _, i + 1, .cons _ t => by
    rcases RpAs.get' i t with ⟨h1, h2⟩ | ⟨v, a, h1, h2, h3⟩
    · exact .inl ⟨by simpa using h1, by simpa using h2⟩
    · exact .inr ⟨v, a, by simpa using h1, by simpa using h2, h3⟩
theorem pick_rp {K : PySem.W.Frag} {L ρ : List Addr} {H : Hp} : ∀ (is : List Nat) {vs : List V} {as : List A}, RpAs K L ρ H vs as → RpAs K L ρ H (pick is vs) (pick is as)
  | [], _, _, _ => .nil
  | i :: is, vs, as, r => by
    unfold pick
    rw [List.filterMap_cons, List.filterMap_cons]
    rcases RpAs.get' i r with ⟨h1, h2⟩ | ⟨v, a, h1, h2, h3⟩
    · rw [h1, h2]; exact pick_rp is r
    · rw [h1, h2]; exact .cons h3 (pick_rp is r)
theorem RpAs.append {K : PySem.W.Frag} {L ρ : List Addr} {H : Hp} : ∀ {vs ws : List V} {as bs : List A}, RpAs K L ρ H vs as → RpAs K L ρ H ws bs → RpAs K L ρ H (vs ++ ws) (as ++ bs)
  | _, _, _, _, .nil, s => s
  | _, _, _, _, .cons h t, s => .cons h (RpAs.append t s)
theorem gK_vals {n1 n2 : Nat} {is : List Nat} {vs zs : List V} {us ws : List Value} (r : Vals vs us) (q : Vals zs ws) : Vals (gK n1 n2 is vs zs) (gK n1 n2 is us ws) := by
  unfold gK
  rw [r.length, q.length]
  split
  · exact pick_vals is (r.append q)
  · exact .nil
theorem gK_rp {K : PySem.W.Frag} {L ρ : List Addr} {H : Hp} {n1 n2 : Nat} {is : List Nat} {vs zs : List V} {as bs : List A} (r : RpAs K L ρ H vs as) (q : RpAs K L ρ H zs bs) : RpAs K L ρ H (gK n1 n2 is vs zs) (gK n1 n2 is as bs) := by
  unfold gK
  rw [r.length, q.length]
  split
  · exact pick_rp is (r.append q)
  · exact .nil
theorem kbinds_mk {K : PySem.W.Frag} {fd : FuncData} {ps ks : List Str} {n1 n2 : Nat} {is : List Nat} (hp : ps ≠ [])
    (h : ∀ us ws : List Value, us.length = n1 → ws.length = n2 → bindArgs fd ⟨us, ks.zip ws⟩ = pure (ps.zip (pick is (us ++ ws)))) : KBinds K fd ps ks (gK n1 n2 is) (gK n1 n2 is) where
  to := fun s us ws _ hl => by
    unfold gK at hl ⊢
    split at hl
    · rename_i hc
      rw [if_pos hc]
      exact .of_eq (h us ws hc.1 hc.2)
    · rename_i hc
      have e : ps.length = 0 := hl.symm
      exact absurd (List.eq_nil_of_length_eq_zero e) hp
  rel := gK_vals
abbrev LK (X : Cx) (E : L2.St → XK) (kws : List Keyword) (g : GA) : Prop := PK X kws (liftA X.K X.mg E g)
theorem _root_.L2.PK.imp {X : Cx} {e : List Keyword} {t t' : TA} (h : PK X e t) (k : ∀ σ H Q, t' σ H Q → t σ H Q) : PK X e t' := ⟨fun p pins s σ H Q I q => h.run p pins s σ H Q I (k σ H Q q)⟩
@[simp] def gCallK (n : Nat) (f : List A → Sto → R A) (n1 n2 : Nat) (is : List Nat) (ga gk : GA) : GE := fun env st => (ga env st).bind fun as st1 => (gk env st1).bind fun bs st2 => if (gK n1 n2 is as bs).length = n then f (gK n1 n2 is as bs) st2 else .bad
section
variable {X : Cx} {E : L2.St → XK} {CX : CXT} {k : Nat} {fa : Addr} {fd : FuncData} {ps ks : List Str} {x nm : Str} {p pos kpos : Pos} {e : Expr} {es : List Expr} {kws : List Keyword} {g : GE} {ga gk : GA} {f : List A → Sto → R A} {n n1 n2 : Nat} {is : List Nat}
theorem lk_nil : LK X E [] gNil := by
  refine pk_nil.imp fun σ H Q h => ?_
  obtain ⟨L, ρ, st, env, S, V, h⟩ := h
  exact h L ρ H [] .refl S .nil
theorem lk_cons (ha : LE X E e g) (hr : LK X E kws gk) : LK X E (⟨nm, e, kpos⟩ :: kws) (LF.gCons g gk) := by
  refine (pk_cons ha hr).imp fun σ H Q h => ?_
  obtain ⟨L, ρ, st, env, S, V, h⟩ := h
  refine ⟨L, ρ, st, env, S, V, Out.bindL S h fun a st1 L1 ρ1 H1 x s1 S1 r1 h1 => ⟨L1, ρ1, st1, env, S1, V.step S s1, OutL.bindL S1 h1 fun as st2 L2' ρ2 H2 xs s2 S2 r2 h2 => ?_⟩⟩
  exact h2 L2' ρ2 H2 _ .refl S2 (.cons (r1.step S1 s2) r2)
/-- what follows the arguments -/
theorem lift_callK {K : PySem.W.Frag} {mg : Str → Option Value} {sp : Sp} {E' : XK} (hsp : ∀ L ρ H st as vs Q, StOk K L ρ H st → RpAs K L ρ H vs as → as.length = n → Out K mg E' L ρ H (f as st) Q → sp vs H Q E') (σ : L2.St) (H : Hp) (Q : VK) (hE : ∀ L ρ H as st Q, Out K mg (E σ) L ρ H (f as st) Q → Out K mg E' L ρ H (f as st) Q)
    (h : lift K mg E (gCallK n f n1 n2 is ga gk) σ H Q) : tCallK sp (gK n1 n2 is) E' (liftA K mg E ga) (liftA K mg E gk) σ H Q := by
  obtain ⟨L, ρ, st, env, S, V, h⟩ := h
  refine ⟨L, ρ, st, env, S, V, OutL.bind S h fun as st1 L1 ρ1 H1 vs s1 S1 r1 h1 => ⟨L1, ρ1, st1, env, S1, V.step S s1, OutL.bind S1 h1 fun bs st2 L2' ρ2 H2 zs s2 S2 r2 h2 => ?_⟩⟩
  by_cases hn : (gK n1 n2 is as bs).length = n
  · rw [if_pos hn] at h2
    exact hsp L2' ρ2 H2 st2 _ _ Q S2 (gK_rp (r1.step S1 s2) r2) hn (hE _ _ _ _ _ _ h2)
  · rw [if_neg hn] at h2; exact h2.elim
/-- keywords alone -/
theorem pe_callK0 {sp : Sp} {tk : TA} {g : List Value → List Value → List Value} {gV : List V → List V → List V} {Ec : XK} (F : FnOk X.prog X.w X.K X.mg X.base CX k fa fd ps sp) (hr : Room k X.A) (hg : Gl X x) (hm : X.mg x = some (.ref fa)) (hk : PySem.W.keepIn X.K (.ref fa) = true) (hb : KBinds X.K fd ps ks g gV) (hx : Passes CX X Ec)
    (hkw : PK X kws tk) (hall : (backToKw pos (keywordEach kws X.env)).all (·.1.isSome) = true := by rfl) (hks : (backToKw pos (keywordEach kws X.env)).filterMap (·.1) = ks := by rfl)
    (hdb : (x == ("__debug__" : Str)) = false := by decide)
    (hpl : ((backTo pos (starEach [] X.env)).any (·.1) || (backToKw pos (keywordEach kws X.env)).any (·.1.isNone)) = false := by rfl) :
    PE X (.Call (.Name x p) [] kws pos) (tCallK sp gV Ec tNil tk) := by
  refine ⟨fun pins s σ H Q I h => wpAny_Call_Name_kw (ld_glob I hg hm ?_ hdb)⟩
  refine PySem.W.callWith_KW0 (h₀ := X.base) I.ok.mod.kin hk hall (thn (hkw.run pos pins s σ H _ I h) fun ws s2 ⟨zs, H2, I2, rz, q2⟩ => ⟨I2.kIn, ?_⟩) hpl
  rw [hks]
  exact run_fnk F hr hb hx I2 .nil rz q2
/-- in the place of Passes, at the slots -/
theorem run_fnkS {pins : List (Addr × Obj)} {σ : L2.St} {H : Hp} {s : Shared} {Q : VK} {sp : Sp} {us ws : List Value} {vs zs : List V} {g : List Value → List Value → List Value} {gV : List V → List V → List V} {Es : L2.St → XK} (F : FnOk X.prog X.w X.K X.mg X.base CX k fa fd ps sp) (hr : Room k X.A) (hb : KBinds X.K fd ps ks g gV) (hx : PassesAt CX X σ (Es σ))
    (I : Inv X pins σ H s) (r : Vals vs us) (rz : Vals zs ws) (h : sp (gV vs zs) H Q (Es σ)) : wpAny (model X.prog X.w) X.A (call (.ref fa) us (ks.zip ws)) (EP X pins σ Q) X.xe s := by
  have hv := hb.rel r rz
  have hl : (g us ws).length = ps.length := hv.length ▸ F.len _ _ _ _ h
  refine wpAny_call (codeAny_mono (F.run X.A X.stack s H ⟨us, ks.zip ws⟩ _ _ Q (Es σ) hr I.env0 (hb.to s us ws I.kIn hl) hv h) fun r s' hq => ?_)
  match r, hq with
  | .error e, hq => exact hx pins H s e s' I hq
  | .ok (.ret u), hq => exact I.after hq
  | .ok .next, hq => exact False.elim hq
  | .ok .brk, hq => exact False.elim hq
  | .ok .cont, hq => exact False.elim hq
def tCallKS (sp : Sp) (gV : List V → List V → List V) (Es : L2.St → XK) (t tk : TA) : TE := fun σ H Q => t σ H fun vs H1 => tk σ H1 fun zs H2 => sp (gV vs zs) H2 Q (Es σ)
theorem pe_callK0S {sp : Sp} {tk : TA} {g : List Value → List Value → List Value} {gV : List V → List V → List V} {Es : L2.St → XK} (F : FnOk X.prog X.w X.K X.mg X.base CX k fa fd ps sp) (hr : Room k X.A) (hg : Gl X x) (hm : X.mg x = some (.ref fa)) (hk : PySem.W.keepIn X.K (.ref fa) = true) (hb : KBinds X.K fd ps ks g gV) (hx : ∀ σ, PassesAt CX X σ (Es σ))
    (hkw : PK X kws tk) (hall : (backToKw pos (keywordEach kws X.env)).all (·.1.isSome) = true := by rfl) (hks : (backToKw pos (keywordEach kws X.env)).filterMap (·.1) = ks := by rfl)
    (hdb : (x == ("__debug__" : Str)) = false := by decide)
    (hpl : ((backTo pos (starEach [] X.env)).any (·.1) || (backToKw pos (keywordEach kws X.env)).any (·.1.isNone)) = false := by rfl) :
    PE X (.Call (.Name x p) [] kws pos) (tCallKS sp gV Es tNil tk) := by
  refine ⟨fun pins s σ H Q I h => wpAny_Call_Name_kw (ld_glob I hg hm ?_ hdb)⟩
  refine PySem.W.callWith_KW0 (h₀ := X.base) I.ok.mod.kin hk hall (thn (hkw.run pos pins s σ H _ I h) fun ws s2 ⟨zs, H2, I2, rz, q2⟩ => ⟨I2.kIn, ?_⟩) hpl
  rw [hks]
  exact run_fnkS F hr hb (hx σ) I2 .nil rz q2
/-- f(k = v, ..) of a def that lets nothing out -/
theorem le_callK0 (hnx : NoX f) (F : FnOk X.prog X.w X.K X.mg X.base CX0 k fa fd ps (spL0 X.K X.mg n f)) (hr : Room k X.A) (hg : Gl X x) (hm : X.mg x = some (.ref fa)) (hk : PySem.W.keepIn X.K (.ref fa) = true) (hb : KBinds X.K fd ps ks (gK 0 n2 is) (gK 0 n2 is)) (hkw : LK X E kws gk)
    (hall : (backToKw pos (keywordEach kws X.env)).all (·.1.isSome) = true := by rfl) (hks : (backToKw pos (keywordEach kws X.env)).filterMap (·.1) = ks := by rfl) (hdb : (x == ("__debug__" : Str)) = false := by decide)
    (hpl : ((backTo pos (starEach [] X.env)).any (·.1) || (backToKw pos (keywordEach kws X.env)).any (·.1.isNone)) = false := by rfl) :
    LE X E (.Call (.Name x p) [] kws pos) (gCallK n f 0 n2 is gNil gk) := by
  refine (pe_callK0 F hr hg hm hk hb pass0 hkw hall hks hdb hpl).imp fun σ H Q h => ?_
  have q := lift_callK (ga := gNil) (sp := spL0 X.K X.mg n f) (E' := E0) (fun L ρ H st as vs Q S r hn o => ⟨L, ρ, st, as, S, r, hn, o⟩) σ H Q (fun L ρ H as st Q o => hnx.out L ρ H as st Q o) h
  obtain ⟨L, ρ, st, env, S, V, q⟩ := q
  exact q L ρ H [] .refl S .nil
/-- .. of a def that may let something out -/
theorem le_callK0S (F : FnOk X.prog X.w X.K X.mg X.base CX k fa fd ps (spL X.K X.mg n f)) (hr : Room k X.A) (hg : Gl X x) (hm : X.mg x = some (.ref fa)) (hk : PySem.W.keepIn X.K (.ref fa) = true) (hb : KBinds X.K fd ps ks (gK 0 n2 is) (gK 0 n2 is)) (hx : ∀ σ, PassesAt CX X σ (E σ)) (hkw : LK X E kws gk)
    (hall : (backToKw pos (keywordEach kws X.env)).all (·.1.isSome) = true := by rfl) (hks : (backToKw pos (keywordEach kws X.env)).filterMap (·.1) = ks := by rfl) (hdb : (x == ("__debug__" : Str)) = false := by decide)
    (hpl : ((backTo pos (starEach [] X.env)).any (·.1) || (backToKw pos (keywordEach kws X.env)).any (·.1.isNone)) = false := by rfl) :
    LE X E (.Call (.Name x p) [] kws pos) (gCallK n f 0 n2 is gNil gk) := by
  refine (pe_callK0S F hr hg hm hk hb hx hkw hall hks hdb hpl).imp fun σ H Q h => ?_
  have q := lift_callK (ga := gNil) (sp := spL X.K X.mg n f) (E' := E σ) (fun L ρ H st as vs Q S r hn o => ⟨L, ρ, st, as, S, r, hn, o⟩) σ H Q (fun L ρ H as st Q o => o) h
  obtain ⟨L, ρ, st, env, S, V, q⟩ := q
  exact q L ρ H [] .refl S .nil
end
/-! ### x = [..], taken as a list that will change -/
section
variable {X : Cx} {E : XK} {tg iter e : Expr} {ifs : List Expr} {scope : Scope} {x : Str} {i : Nat} {pos : Pos} {gi : GI} {test : GT} {elt : GE}
end
/-! ### try: f(..) except C: suite -/
@[simp] def sTryE (c : Str) (g : GE) (suite : GS) : GS := fun env st => match g env st with
  | .ok _ st1 => .nx env st1
  | .exc c' _ st1 => if c' = c then suite env st1 else .bad
  | .bad => .bad
section
variable {X : Cx} {c : Str} {C : Addr} {e : Expr} {g : GE} {b₀ : Stmt} {suite : List Stmt} {gs : GS} {np pos pos' epos : Pos}
theorem ls_tryE (hs : X.stack = X.env :: X.outer) (hf : X.env.frame = some X.env.locals) (hc : Names X c (.ref C)) (hm : X.mg c = some (.ref C)) (hex : PySem.W.exmOne X.K (.ref C) (.ref C) = some true)
    (hb : ∀ (W : WX) (pn : List (Addr × Obj)) (xe : Value → Shared → Prop), Takes (X.tr pn xe) W → PassesOwn (model X.prog X.w) X.A X.env xe → LE (X.tr pn xe) (WE W) e g)
    (hsu : ∀ (a : Addr) (pn : List (Addr × Obj)), LSs (X.suite a pn) E0 (b₀ :: suite) gs) (hsw : ∀ pn xe, swapsWith e none epos.line (X.tr pn xe).env = pure false := by intros; rfl) :
    LS X E0 (.Try [.Expr e epos] [.ExceptHandler (some (.Name c np)) none (b₀ :: suite) pos'] [] [] pos) (sTryE c g gs) := by
  refine (ps_try_only (ts := fun _ _ _ => liftS X.K X.mg E0 gs) (Wout := fun _ _ _ _ => False) (tb := fun W => tDrop (lift X.K X.mg (WE W) g)) hs hf hc takes0 (fun W pn xe tk po => pss_one (ps_expr (hb W pn xe tk po) (hsw pn xe)))
    (fun a oe cls d pn _ _ => hsu a ((a, oe) :: pn))).imp fun D σ H h => ?_
  obtain ⟨L, ρ, st, env, S, V, h⟩ := h
  unfold sTryE at h
  refine ⟨L, ρ, st, env, S, V, ?_⟩
  cases q : g env st with
  | bad => rw [q] at h; exact h.elim
  | ok a st1 =>
    rw [q] at h
    exact fun L1 ρ1 H1 v s1 S1 r1 => h L1 ρ1 H1 σ s1 S1 (V.step S s1)
  | exc c' fs st1 =>
    rw [q] at h
    dsimp only at h
    by_cases hcc : c' = c
    · rw [if_pos hcc] at h
      subst hcc
      intro C' L1 ρ1 H1 d hC' s1 S1 xd
      rw [hm] at hC'
      cases hC'
      exact ⟨true, hex, fun _ a ha => ⟨L1, ρ1, st1, env, S1, V.step S s1, OutS.step S s1 S1 h⟩, fun z => nomatch z⟩
    · rw [if_neg hcc] at h; exact h.elim
end
end LF
set_option Elab.async false
set_option linter.all false
set_option maxRecDepth 100000
set_option maxHeartbeats 2000000
namespace LF
open PySem PySem.Spec PyProof.Rows L2

@[simp] def noX (r : R A) : R A := match r with
  | .exc _ _ _ => .bad
  | r => r
theorem noX_NoX {f : List A → Sto → R A} : NoX (fun as st => noX (f as st)) := fun as st c fs st' e => by
  have e' : noX (f as st) = .exc c fs st' := e
  unfold noX at e'
  cases q : f as st with
  | ok a s => rw [q] at e'; cases e'
  | exc _ _ _ => rw [q] at e'; cases e'
  | bad => rw [q] at e'; cases e'
theorem Out.noX {K : PySem.W.Frag} {mg : Str → Option Value} {E : XK} {L ρ : List Addr} {H : Hp} {r : R A} {Q : VK} (h : Out K mg E L ρ H (noX r) Q) : Out K mg E L ρ H r Q := by
  cases r with
  | ok a s => exact h
  | exc c fs s => exact h.elim
  | bad => exact h
/-- a def's pure function -/
@[simp] def runN (m : Nat) (b : GS) : List A → Sto → R A := fun as st => noX (runC m b as st)
theorem runN_NoX {m : Nat} {b : GS} : NoX (runN m b) := noX_NoX

/-! ### defs as they are called -/
structure Cal0 (P : Program) (w : World) (K : PySem.W.Frag) (mg : Str → Option Value) (base : Heap) (k : Nat) (x : Str) (n : Nat) (f : List A → Sto → R A) : Prop where
  ex : ∃ (fa : Addr) (fd : FuncData) (ps : List Str), FnOk P w K mg base CX0 k fa fd ps (spL0 K mg n f) ∧ mg x = some (.ref fa) ∧ PySem.W.keepIn K (.ref fa) = true ∧ Binds K fd ps []
  nx : NoX f
structure CalX (P : Program) (w : World) (K : PySem.W.Frag) (mg : Str → Option Value) (base : Heap) (k : Nat) (x : Str) (n : Nat) (f : List A → Sto → R A) : Prop where
  ex : ∃ (fa : Addr) (fd : FuncData) (ps : List Str), FnOk P w K mg base (L2.CX P w) k fa fd ps (spL K mg n f) ∧ mg x = some (.ref fa) ∧ PySem.W.keepIn K (.ref fa) = true ∧ Binds K fd ps []
/-- .. by keywords alone -/
structure Cal0K (P : Program) (w : World) (K : PySem.W.Frag) (mg : Str → Option Value) (base : Heap) (k : Nat) (x : Str) (n : Nat) (f : List A → Sto → R A) (ks : List Str) (is : List Nat) : Prop where
  ex : ∃ (fa : Addr) (fd : FuncData) (ps : List Str), FnOk P w K mg base CX0 k fa fd ps (spL0 K mg n f) ∧ mg x = some (.ref fa) ∧ PySem.W.keepIn K (.ref fa) = true ∧ KBinds K fd ps ks (gK 0 ks.length is) (gK 0 ks.length is)
  nx : NoX f
structure CalXK (P : Program) (w : World) (K : PySem.W.Frag) (mg : Str → Option Value) (base : Heap) (k : Nat) (x : Str) (n : Nat) (f : List A → Sto → R A) (ks : List Str) (is : List Nat) : Prop where
  ex : ∃ (fa : Addr) (fd : FuncData) (ps : List Str), FnOk P w K mg base (L2.CX P w) k fa fd ps (spL K mg n f) ∧ mg x = some (.ref fa) ∧ PySem.W.keepIn K (.ref fa) = true ∧ KBinds K fd ps ks (gK 0 ks.length is) (gK 0 ks.length is)
section
variable {P : Program} {w : World} {K : PySem.W.Frag} {mg : Str → Option Value} {base : Heap}
theorem Cal0.of {x qual : Str} {st : Stmt} {f : Addr} {fd : FuncData} {N ps : List Str} {k : Nat} {b : GS} (F : Fun K x qual st f fd) (m : mg x = some (.ref f)) (S : FnScope N ps (defScope st)) (n : Nat) (hn : n = ps.length)
    (bi : ∀ (kV doc pm : Value) (an : Option Addr) (cdv ct : Value) (us : List Value), us.length = ps.length → bindArgs (PySem.W.fnOf x qual (defArgs st) (defBody st) (defScope st) .none kV doc pm an cdv ct) ⟨us, []⟩ = pure (ps.zip us))
    (hb : ∀ (cdv : Value) (A : Around) (outer : List PySem.Env) (s : Shared) (H : Hp) (E : XK), Room k (A.deeper (envOfC qual (defScope st) s.heap.objs.size f cdv)) →
      LSs (cxOf CX0 P w K mg base N qual (defScope st) f cdv A outer s H E).nox E0 (defBody st) b) : Cal0 P w K mg base (k + 1) x n (runN N.length b) := by
  refine ⟨⟨f, fd, ps, ?_, m, F.kp, F.binds bi⟩, runN_NoX⟩
  subst hn
  refine F.ok S (fun vs H Q E h => ?_) (fun cdv A outer s H vs Q E hr h => ⟨_, hb cdv A outer s H E hr, ?_⟩)
  · obtain ⟨L, ρ, st, as, _, r, e, _⟩ := h
    rw [r.length, e]
  · obtain ⟨L, ρ, st, as, S', r, e, h⟩ := h
    exact ⟨L, ρ, st, _, S', .start r, OutS.run (Out.cut S' (Out.noX h))⟩
theorem CalX.of {x qual : Str} {st : Stmt} {f : Addr} {fd : FuncData} {N ps : List Str} {k : Nat} {b : GS} (F : Fun K x qual st f fd) (m : mg x = some (.ref f)) (S : FnScope N ps (defScope st)) (n : Nat) (hn : n = ps.length)
    (bi : ∀ (kV doc pm : Value) (an : Option Addr) (cdv ct : Value) (us : List Value), us.length = ps.length → bindArgs (PySem.W.fnOf x qual (defArgs st) (defBody st) (defScope st) .none kV doc pm an cdv ct) ⟨us, []⟩ = pure (ps.zip us))
    (hb : ∀ (cdv : Value) (A : Around) (outer : List PySem.Env) (s : Shared) (H : Hp) (E : XK), Room k (A.deeper (envOfC qual (defScope st) s.heap.objs.size f cdv)) →
      LSs (cxOf (L2.CX P w) P w K mg base N qual (defScope st) f cdv A outer s H E) E (defBody st) b) : CalX P w K mg base (k + 1) x n (runC N.length b) := by
  refine ⟨⟨f, fd, ps, ?_, m, F.kp, F.binds bi⟩⟩
  subst hn
  refine F.okX S (fun vs H Q E h => ?_) (fun cdv A outer s H vs Q E hr h => ⟨_, hb cdv A outer s H E hr, ?_⟩)
  · obtain ⟨L, ρ, st, as, _, r, e, _⟩ := h
    rw [r.length, e]
  · obtain ⟨L, ρ, st, as, S', r, e, h⟩ := h
    exact ⟨L, ρ, st, _, S', .start r, OutS.run (Out.cut S' h)⟩
/-- the function that is never asked -/
theorem Cal0.none {x : Str} {fa : Addr} {fd : FuncData} {ps : List Str} {n : Nat} (m : mg x = some (.ref fa)) (hk : PySem.W.keepIn K (.ref fa) = true) (hb : Binds K fd ps []) : Cal0 P w K mg base 0 x n (fun _ _ => .bad) :=
  ⟨⟨fa, fd, ps, ⟨fun vs H Q E h => by obtain ⟨_, _, _, _, _, _, _, h⟩ := h; exact h.elim, fun A outer s H args us vs Q E _ _ _ _ h => by obtain ⟨_, _, _, _, _, _, _, h⟩ := h; exact h.elim⟩, m, hk, hb⟩, fun _ _ _ _ _ e => nomatch e⟩
theorem CalX.none {x : Str} {fa : Addr} {fd : FuncData} {ps : List Str} {n : Nat} (m : mg x = some (.ref fa)) (hk : PySem.W.keepIn K (.ref fa) = true) (hb : Binds K fd ps []) : CalX P w K mg base 0 x n (fun _ _ => .bad) :=
  ⟨⟨fa, fd, ps, ⟨fun vs H Q E h => by obtain ⟨_, _, _, _, _, _, _, h⟩ := h; exact h.elim, fun A outer s H args us vs Q E _ _ _ _ h => by obtain ⟨_, _, _, _, _, _, _, h⟩ := h; exact h.elim⟩, m, hk, hb⟩⟩
end
section
variable {X : Cx} {E : L2.St → XK} {j k : Nat} {x : Str} {p pos : Pos} {a b e : Expr} {es : List Expr} {kws : List Keyword} {ga gk : GA} {g ha hb : GE} {f : List A → Sto → R A} {n : Nat} {ks : List Str} {is : List Nat}
theorem le_pv (i : Nat) {x : Str} {pos : Pos} (hN : X.N[i]? = some x := by rfl) (hv : Vis X.env.scope x := by first | exact Or.inl rfl | exact Or.inr (Or.inl rfl) | exact Or.inr (Or.inr rfl)) (hd : (x == ("__debug__" : Str)) = false := by decide)
    (hcd : (x == ("__classdict__" : Str)) = false := by decide) : LE X E (.Name x pos) (gVar i) := le_var hN hv hd hcd
theorem le_c0 (C : Cal0 X.prog X.w X.K X.mg X.base j x n f) (hr : Room k X.A) (hl : GLen ga n) (ha : LA X E (e :: es) ga) (hjk : j ≤ k := by decide) (hg : Gl X x := by rfl) (hdb : (x == ("__debug__" : Str)) = false := by decide)
    (he : starEach (e :: es) X.env = (false, eval e X.env) :: starEach es X.env := by rfl) (hpl : (backTo pos (starEach es X.env)).any (·.1) = false := by rfl) : LE X E (.Call (.Name x p) (e :: es) [] pos) (gCall f ga) := by
  obtain ⟨fa, fd, ps, F, m, hk, hb⟩ := C.ex
  exact le_call F (hr.mono hjk) hg m hk hb hl ha hdb he hpl fun E L ρ H as st Q o => C.nx.out L ρ H as st Q o
theorem le_cX {Ec : XK} (C : CalX X.prog X.w X.K X.mg X.base j x n f) (hr : Room k X.A) (hl : GLen ga n) (hx : Passes (L2.CX X.prog X.w) X Ec) (ha : LA X (fun _ => Ec) (e :: es) ga) (hjk : j ≤ k := by decide) (hg : Gl X x := by rfl) (hdb : (x == ("__debug__" : Str)) = false := by decide)
    (he : starEach (e :: es) X.env = (false, eval e X.env) :: starEach es X.env := by rfl) (hpl : (backTo pos (starEach es X.env)).any (·.1) = false := by rfl) : LE X (fun _ => Ec) (.Call (.Name x p) (e :: es) [] pos) (gCall f ga) := by
  obtain ⟨fa, fd, ps, F, m, hk, hb⟩ := C.ex
  exact le_callX F (hr.mono hjk) hg m hk hb hl hx ha hdb he hpl
theorem le_cS (C : CalX X.prog X.w X.K X.mg X.base j x n f) (hr : Room k X.A) (hl : GLen ga n) (hx : ∀ σ, PassesAt (L2.CX X.prog X.w) X σ (E σ)) (ha : LA X E (e :: es) ga) (hjk : j ≤ k := by decide) (hg : Gl X x := by rfl) (hdb : (x == ("__debug__" : Str)) = false := by decide)
    (he : starEach (e :: es) X.env = (false, eval e X.env) :: starEach es X.env := by rfl) (hpl : (backTo pos (starEach es X.env)).any (·.1) = false := by rfl) : LE X E (.Call (.Name x p) (e :: es) [] pos) (gCall f ga) := by
  obtain ⟨fa, fd, ps, F, m, hk, hb⟩ := C.ex
  exact le_callS F (hr.mono hjk) hg m hk hb hl hx ha hdb he hpl
theorem le_c0K (C : Cal0K X.prog X.w X.K X.mg X.base j x n f ks is) (hr : Room k X.A) (hkw : LK X E kws gk) (hjk : j ≤ k := by decide) {m : Nat} (hg : Gl X x := by rfl)
    (hall : (backToKw pos (keywordEach kws X.env)).all (·.1.isSome) = true := by rfl) (hks : (backToKw pos (keywordEach kws X.env)).filterMap (·.1) = ks := by rfl) (hdb : (x == ("__debug__" : Str)) = false := by decide)
    (hpl : ((backTo pos (starEach [] X.env)).any (·.1) || (backToKw pos (keywordEach kws X.env)).any (·.1.isNone)) = false := by rfl) (hml : ks.length = m := by rfl) : LE X E (.Call (.Name x p) [] kws pos) (gCallK n f 0 m is gNil gk) := by
  subst hml
  obtain ⟨fa, fd, ps, F, m, hk, hb⟩ := C.ex
  exact le_callK0 C.nx F (hr.mono hjk) hg m hk hb hkw hall hks hdb hpl
theorem le_cSK (C : CalXK X.prog X.w X.K X.mg X.base j x n f ks is) (hr : Room k X.A) (hx : ∀ σ, PassesAt (L2.CX X.prog X.w) X σ (E σ)) (hkw : LK X E kws gk) (hjk : j ≤ k := by decide) {m : Nat} (hg : Gl X x := by rfl)
    (hall : (backToKw pos (keywordEach kws X.env)).all (·.1.isSome) = true := by rfl) (hks : (backToKw pos (keywordEach kws X.env)).filterMap (·.1) = ks := by rfl) (hdb : (x == ("__debug__" : Str)) = false := by decide)
    (hpl : ((backTo pos (starEach [] X.env)).any (·.1) || (backToKw pos (keywordEach kws X.env)).any (·.1.isNone)) = false := by rfl) (hml : ks.length = m := by rfl) : LE X E (.Call (.Name x p) [] kws pos) (gCallK n f 0 m is gNil gk) := by
  subst hml
  obtain ⟨fa, fd, ps, F, m, hk, hb⟩ := C.ex
  exact le_callK0S F (hr.mono hjk) hg m hk hb hx hkw hall hks hdb hpl
/-! ### operators by name -/
@[simp] def pSub := pI0 fun i j => i - j
def cMul (i j : Int) : Bool := (decide (-(2 ^ 64) < i) && decide (i < 2 ^ 64)) || (decide (-(2 ^ 64) < j) && decide (j < 2 ^ 64))
@[simp] def pMul := pI cMul fun i j => i * j
@[simp] def pMod := pI (fun _ j => decide (0 < j)) fun i j => i % j
@[simp] def pFdiv := pI (fun _ j => decide (0 < j) && decide (j < 1073741824)) fun i j => i / j
def cPow (i j : Int) : Bool := decide (0 ≤ j) && (decide (j ≤ 1000000) && decide (i.natAbs < 2 ^ 64))
@[simp] def pPow := pI cPow fun i j => i ^ j.toNat
@[simp] def pShl := pI cPow fun i j => i * 2 ^ j.toNat
@[simp] def pShr := pI (fun _ j => decide (0 ≤ j)) fun i j => i / 2 ^ j.toNat
@[simp] def pBand := pI0 fun i j => Builtin.bitAnd i j
@[simp] def pLt := pB0 fun i j => decide (i < j)
@[simp] def pLe := pB0 fun i j => decide (i ≤ j)
@[simp] def pGt := pB0 fun i j => decide (j < i)
@[simp] def pGe := pB0 fun i j => decide (j ≤ i)
theorem le_Add (hA : LE X E a ha) (hB : LE X E b hb) : LE X E (.BinOp a .Add b pos) (g2 pAdd ha hb) := le_op op_addU opl_add hA hB
theorem le_Sub (hA : LE X E a ha) (hB : LE X E b hb) : LE X E (.BinOp a .Sub b pos) (g2 pSub ha hb) := le_op op_sub opl_I0 hA hB
theorem le_Mult (hA : LE X E a ha) (hB : LE X E b hb) : LE X E (.BinOp a .Mult b pos) (g2 pMul ha hb) := le_op op_mul (opl_I fun i j h => by
  unfold cMul at h
  rw [Bool.or_eq_true, Bool.and_eq_true, Bool.and_eq_true] at h
  exact h.imp (fun z => ⟨of_decide_eq_true z.1, of_decide_eq_true z.2⟩) fun z => ⟨of_decide_eq_true z.1, of_decide_eq_true z.2⟩) hA hB
theorem le_Mod (hA : LE X E a ha) (hB : LE X E b hb) : LE X E (.BinOp a .Mod b pos) (g2 pMod ha hb) := le_op op_mod (opl_I fun i j h => of_decide_eq_true h) hA hB
theorem le_FloorDiv (hA : LE X E a ha) (hB : LE X E b hb) : LE X E (.BinOp a .FloorDiv b pos) (g2 pFdiv ha hb) := le_op op_fdiv (opl_I fun i j h => by
  rw [Bool.and_eq_true] at h
  exact ⟨of_decide_eq_true h.1, of_decide_eq_true h.2⟩) hA hB
theorem cPow_ok {i j : Int} (h : cPow i j = true) : CPow i j := by
  unfold cPow at h
  rw [Bool.and_eq_true, Bool.and_eq_true] at h
  exact ⟨of_decide_eq_true h.1, of_decide_eq_true h.2.1, of_decide_eq_true h.2.2⟩
theorem le_Pow (hA : LE X E a ha) (hB : LE X E b hb) : LE X E (.BinOp a .Pow b pos) (g2 pPow ha hb) := le_op op_pow (opl_I fun i j h => cPow_ok h) hA hB
theorem le_LShift (hA : LE X E a ha) (hB : LE X E b hb) : LE X E (.BinOp a .LShift b pos) (g2 pShl ha hb) := le_op op_shl (opl_I fun i j h => cPow_ok h) hA hB
theorem le_RShift (hA : LE X E a ha) (hB : LE X E b hb) : LE X E (.BinOp a .RShift b pos) (g2 pShr ha hb) := le_op op_shr (opl_I fun i j h => of_decide_eq_true h) hA hB
theorem le_BitAnd (hA : LE X E a ha) (hB : LE X E b hb) : LE X E (.BinOp a .BitAnd b pos) (g2 pBand ha hb) := le_op op_and opl_I0 hA hB
theorem le_Lt (hA : LE X E a ha) (hB : LE X E b hb) : LE X E (.Compare a [.Lt] [b] pos) (g2 pLt ha hb) := le_cmp op_lt opl_B0 hA hB (nomark _)
theorem le_LtE (hA : LE X E a ha) (hB : LE X E b hb) : LE X E (.Compare a [.LtE] [b] pos) (g2 pLe ha hb) := le_cmp op_le opl_B0 hA hB (nomark _)
theorem le_Gt (hA : LE X E a ha) (hB : LE X E b hb) : LE X E (.Compare a [.Gt] [b] pos) (g2 pGt ha hb) := le_cmp op_gt opl_B0 hA hB (nomark _)
theorem le_GtE (hA : LE X E a ha) (hB : LE X E b hb) : LE X E (.Compare a [.GtE] [b] pos) (g2 pGe ha hb) := le_cmp op_ge opl_B0 hA hB (nomark _)
theorem le_Eq (hr : Room k X.A) (hA : LE X E a ha) (hB : LE X E b hb) : LE X E (.Compare a [.Eq] [b] pos) (g2 pEq ha hb) := le_cmp (op_eqD hr.units) opl_eq hA hB (nomark _)
theorem le_NotEq (hr : Room k X.A) (hA : LE X E a ha) (hB : LE X E b hb) : LE X E (.Compare a [.NotEq] [b] pos) (g2 pNe ha hb) := le_cmp (op_neD hr.units) opl_ne hA hB (nomark _)
theorem le_Is (hA : LE X E a ha) (hB : LE X E b hb) : LE X E (.Compare a [.Is] [b] pos) (g2 pIsN ha hb) := le_cmp op_isN opl_isN hA hB (nomark _)
theorem le_IsNot (hA : LE X E a ha) (hB : LE X E b hb) : LE X E (.Compare a [.IsNot] [b] pos) (g2 pNotN ha hb) := le_cmp op_notN opl_notN hA hB (nomark _)
theorem units65 (hr : Room k X.A) : X.A.units + 65 < cLine := by have := hr.un; omega
theorem le_In (hr : Room k X.A) (hA : LE X E a ha) (hB : LE X E b hb) (hm : behindInMarks .In b = false := by rfl) : LE X E (.Compare a [.In] [b] pos) (g2 (pIn id) ha hb) := le_cmp ((op_inT (units65 hr)).or (op_inD (units65 hr))) opl_in hA hB hm
theorem le_NotIn (hr : Room k X.A) (hA : LE X E a ha) (hB : LE X E b hb) (hm : behindInMarks .NotIn b = false := by rfl) : LE X E (.Compare a [.NotIn] [b] pos) (g2 (pIn not) ha hb) := le_cmp ((op_notInT (units65 hr)).or (op_notInD (units65 hr))) opl_notIn hA hB hm
/-- .. as tests -/
theorem lt_Lt (hA : LE X E a ha) (hB : LE X E b hb) : LT X E (.Compare a [.Lt] [b] pos) (gB (g2 pLt ha hb)) := lt_cmp op_lt opl_B0 hA hB (nomark _)
theorem lt_LtE (hA : LE X E a ha) (hB : LE X E b hb) : LT X E (.Compare a [.LtE] [b] pos) (gB (g2 pLe ha hb)) := lt_cmp op_le opl_B0 hA hB (nomark _)
theorem lt_Gt (hA : LE X E a ha) (hB : LE X E b hb) : LT X E (.Compare a [.Gt] [b] pos) (gB (g2 pGt ha hb)) := lt_cmp op_gt opl_B0 hA hB (nomark _)
theorem lt_GtE (hA : LE X E a ha) (hB : LE X E b hb) : LT X E (.Compare a [.GtE] [b] pos) (gB (g2 pGe ha hb)) := lt_cmp op_ge opl_B0 hA hB (nomark _)
theorem lt_Eq (hr : Room k X.A) (hA : LE X E a ha) (hB : LE X E b hb) : LT X E (.Compare a [.Eq] [b] pos) (gB (g2 pEq ha hb)) := lt_cmp (op_eqD hr.units) opl_eq hA hB (nomark _)
theorem lt_NotEq (hr : Room k X.A) (hA : LE X E a ha) (hB : LE X E b hb) : LT X E (.Compare a [.NotEq] [b] pos) (gB (g2 pNe ha hb)) := lt_cmp (op_neD hr.units) opl_ne hA hB (nomark _)
theorem lt_Is (hA : LE X E a ha) (hB : LE X E b hb) : LT X E (.Compare a [.Is] [b] pos) (gB (g2 pIsN ha hb)) := lt_cmp op_isN opl_isN hA hB (nomark _)
theorem lt_IsNot (hA : LE X E a ha) (hB : LE X E b hb) : LT X E (.Compare a [.IsNot] [b] pos) (gB (g2 pNotN ha hb)) := lt_cmp op_notN opl_notN hA hB (nomark _)
theorem lt_In (hr : Room k X.A) (hA : LE X E a ha) (hB : LE X E b hb) (hm : behindInMarks .In b = false := by rfl) : LT X E (.Compare a [.In] [b] pos) (gB (g2 (pIn id) ha hb)) := lt_cmp ((op_inT (units65 hr)).or (op_inD (units65 hr))) opl_in hA hB hm
theorem lt_NotIn (hr : Room k X.A) (hA : LE X E a ha) (hB : LE X E b hb) (hm : behindInMarks .NotIn b = false := by rfl) : LT X E (.Compare a [.NotIn] [b] pos) (gB (g2 (pIn not) ha hb)) := lt_cmp ((op_notInT (units65 hr)).or (op_notInD (units65 hr))) opl_notIn hA hB hm
/-- an int as a test -/
@[simp] def gTru (g : GE) : GT := fun env st => (g env st).bind fun a st1 => match a with
  | .d (.int i) => .ok (i != 0) st1
  | .d (.bool b) => .ok b st1
  | _ => .bad
theorem lt_tru (hA : LE X E a ha) (he : ∀ whole, isTrue a X.env whole = (do let v ← whole; standAt a.pos; holding [v] (truthy v)) := by intro _; rfl) : LT X E a (gTru ha) := by
  refine (pt_truth hA he).imp fun σ H Q h => ?_
  obtain ⟨L, ρ, st, env, S, V, h⟩ := h
  refine ⟨L, ρ, st, env, S, V, Out.bindB S h fun a st1 L1 ρ1 H1 x s1 S1 r1 h1 => ?_⟩
  cases a with
  | box _ => exact h1.elim
  | scr _ => exact h1.elim
  | d x' =>
    cases x' with
    | int i => rw [r1.int]; exact ⟨(i != 0), rfl, h1 L1 ρ1 H1 .refl S1⟩
    | bool b => rw [r1.bl]; exact ⟨b, rfl, h1 L1 ρ1 H1 .refl S1⟩
    | _ => exact h1.elim
/-! ### built-ins by name -/
theorem le_len (hm : X.mg "len" = none) (hA : LE X E a ha) (hg : Gl X "len" := by rfl) (hs : starEach [a] X.env = (false, eval a X.env) :: starEach [] X.env := by rfl) (hp : (backTo pos (starEach [] X.env)).any (·.1) = false := by rfl) : LE X E (.Call (.Name "len" p) [a] [] pos) (gB1 pLen (gCons ha gNil)) := le_cb call_len_seq cal_len hg hm (by decide +kernel) (la_cons hA la_nil hs) (by decide) (by decide) hs hp
theorem le_int1 (hm : X.mg "int" = none) (hA : LE X E a ha) (hg : Gl X "int" := by rfl) (hs : starEach [a] X.env = (false, eval a X.env) :: starEach [] X.env := by rfl) (hp : (backTo pos (starEach [] X.env)).any (·.1) = false := by rfl) : LE X E (.Call (.Name "int" p) [a] [] pos) (gB1 pInt1 (gCons ha gNil)) := le_ct call_int1 cal_int1 hg hm (by decide +kernel) (la_cons hA la_nil hs) (by decide) (by decide) hs hp
theorem le_bool1 (hm : X.mg "bool" = none) (hA : LE X E a ha) (hg : Gl X "bool" := by rfl) (hs : starEach [a] X.env = (false, eval a X.env) :: starEach [] X.env := by rfl) (hp : (backTo pos (starEach [] X.env)).any (·.1) = false := by rfl) : LE X E (.Call (.Name "bool" p) [a] [] pos) (gB1 pBool1 (gCons ha gNil)) := le_ct call_bool1 cal_bool1 hg hm (by decide +kernel) (la_cons hA la_nil hs) (by decide) (by decide) hs hp
theorem le_strI (hm : X.mg "str" = none) (hA : LE X E a ha) (hg : Gl X "str" := by rfl) (hs : starEach [a] X.env = (false, eval a X.env) :: starEach [] X.env := by rfl) (hp : (backTo pos (starEach [] X.env)).any (·.1) = false := by rfl) : LE X E (.Call (.Name "str" p) [a] [] pos) (gB1 pStrI (gCons ha gNil)) := le_ct call_str_int cal_strI hg hm (by decide +kernel) (la_cons hA la_nil hs) (by decide) (by decide) hs hp
theorem le_abs (hm : X.mg "abs" = none) (hA : LE X E a ha) (hg : Gl X "abs" := by rfl) (hs : starEach [a] X.env = (false, eval a X.env) :: starEach [] X.env := by rfl) (hp : (backTo pos (starEach [] X.env)).any (·.1) = false := by rfl) : LE X E (.Call (.Name "abs" p) [a] [] pos) (gB1 pAbs (gCons ha gNil)) := le_cb call_abs cal_abs hg hm (by decide +kernel) (la_cons hA la_nil hs) (by decide) (by decide) hs hp
theorem le_tup1 (hm : X.mg "tuple" = none) (hA : LE X E a ha) (hg : Gl X "tuple" := by rfl) (hs : starEach [a] X.env = (false, eval a X.env) :: starEach [] X.env := by rfl) (hp : (backTo pos (starEach [] X.env)).any (·.1) = false := by rfl) : LE X E (.Call (.Name "tuple" p) [a] [] pos) (gB1 pTup (gCons ha gNil)) := le_ct call_tuple_of cal_tup hg hm (by decide +kernel) (la_cons hA la_nil hs) (by decide) (by decide) hs hp
theorem le_lst1 (hm : X.mg "list" = none) (hA : LE X E a ha) (hg : Gl X "list" := by rfl) (hs : starEach [a] X.env = (false, eval a X.env) :: starEach [] X.env := by rfl) (hp : (backTo pos (starEach [] X.env)).any (·.1) = false := by rfl) : LE X E (.Call (.Name "list" p) [a] [] pos) (gB1 pLst (gCons ha gNil)) := le_ct call_list_of cal_lst hg hm (by decide +kernel) (la_cons hA la_nil hs) (by decide) (by decide) hs hp
theorem le_sum (hc : X.calm = true) (hm : X.mg "sum" = none) (hA : LE X E a ha) (hg : Gl X "sum" := by rfl) (hs : starEach [a] X.env = (false, eval a X.env) :: starEach [] X.env := by rfl) (hp : (backTo pos (starEach [] X.env)).any (·.1) = false := by rfl) : LE X E (.Call (.Name "sum" p) [a] [] pos) (gB1 pSumL (gCons ha gNil)) := le_cb (cr_sum hc) cal_sum hg hm (by decide +kernel) (la_cons hA la_nil hs) (by decide) (by decide) hs hp
theorem le_all (hc : X.calm = true) (hm : X.mg "all" = none) (hA : LE X E a ha) (hg : Gl X "all" := by rfl) (hs : starEach [a] X.env = (false, eval a X.env) :: starEach [] X.env := by rfl) (hp : (backTo pos (starEach [] X.env)).any (·.1) = false := by rfl) : LE X E (.Call (.Name "all" p) [a] [] pos) (gB1 pAllL (gCons ha gNil)) := le_cb (cr_all hc) cal_all hg hm (by decide +kernel) (la_cons hA la_nil hs) (by decide) (by decide) hs hp
theorem le_any (hc : X.calm = true) (hm : X.mg "any" = none) (hA : LE X E a ha) (hg : Gl X "any" := by rfl) (hs : starEach [a] X.env = (false, eval a X.env) :: starEach [] X.env := by rfl) (hp : (backTo pos (starEach [] X.env)).any (·.1) = false := by rfl) : LE X E (.Call (.Name "any" p) [a] [] pos) (gB1 pAnyL (gCons ha gNil)) := le_cb (cr_any hc) cal_any hg hm (by decide +kernel) (la_cons hA la_nil hs) (by decide) (by decide) hs hp
theorem le_max2 (hc : X.calm = true) (hm : X.mg "max" = none) (hA : LE X E a ha) (hB : LE X E b hb) (hg : Gl X "max" := by rfl) (hs : starEach [a, b] X.env = (false, eval a X.env) :: starEach [b] X.env := by rfl) (hs2 : starEach [b] X.env = (false, eval b X.env) :: starEach [] X.env := by rfl) (hp : (backTo pos (starEach [b] X.env)).any (·.1) = false := by rfl) : LE X E (.Call (.Name "max" p) [a, b] [] pos) (gB1 pMax2 (gCons ha (gCons hb gNil))) := le_cb (call_max2 hc) cal_max2 hg hm (by decide +kernel) (la_cons hA (la_cons hB la_nil hs2) hs) (by decide) (by decide) hs hp
theorem le_min2 (hc : X.calm = true) (hm : X.mg "min" = none) (hA : LE X E a ha) (hB : LE X E b hb) (hg : Gl X "min" := by rfl) (hs : starEach [a, b] X.env = (false, eval a X.env) :: starEach [b] X.env := by rfl) (hs2 : starEach [b] X.env = (false, eval b X.env) :: starEach [] X.env := by rfl) (hp : (backTo pos (starEach [b] X.env)).any (·.1) = false := by rfl) : LE X E (.Call (.Name "min" p) [a, b] [] pos) (gB1 pMin2 (gCons ha (gCons hb gNil))) := le_cb (call_min2 hc) cal_min2 hg hm (by decide +kernel) (la_cons hA (la_cons hB la_nil hs2) hs) (by decide) (by decide) hs hp
theorem le_gcd (hm : X.mg "gcd" = some (.builtin "math.gcd")) (hA : LE X E a ha) (hB : LE X E b hb) (hg : Gl X "gcd" := by rfl) (hs : starEach [a, b] X.env = (false, eval a X.env) :: starEach [b] X.env := by rfl) (hs2 : starEach [b] X.env = (false, eval b X.env) :: starEach [] X.env := by rfl) (hp : (backTo pos (starEach [b] X.env)).any (·.1) = false := by rfl) : LE X E (.Call (.Name "gcd" p) [a, b] [] pos) (gB1 pGcd (gCons ha (gCons hb gNil))) := le_cfun cr_gcd cal_gcd hg hm (la_cons hA (la_cons hB la_nil hs2) hs) (by decide) hs hp
/-- n.bit_length() -/
@[simp] def gBits (g : GE) : GE := fun env st => (g env st).bind fun a st1 => match a with
  | .d (.int i) => .ok (.d (.int (Builtin.Int.intBits i : Nat))) st1
  | _ => .bad
theorem le_bits {apos : Pos} (hA : LE X E a ha) (hbase : attributeBase a "bit_length" X.env (eval a X.env) = eval a X.env := by rfl) (hline : (apos.endLine == pos.line) = true := by rfl) : LE X E (.Call (.Attribute a "bit_length" apos) [] [] pos) (gBits ha) := by
  refine (pe_bits hA hbase hline).imp fun σ H Q h => ?_
  obtain ⟨L, ρ, st, env, S, V, h⟩ := h
  refine ⟨L, ρ, st, env, S, V, Out.bind S h fun a st1 L1 ρ1 H1 x s1 S1 r1 h1 => ?_⟩
  cases a with
  | box _ => exact h1.elim
  | scr _ => exact h1.elim
  | d x' =>
    cases x' with
    | int i => rw [r1.int]; exact ⟨i, rfl, h1 L1 ρ1 H1 _ .refl S1 (.d (.int _))⟩
    | _ => exact h1.elim
theorem le_isT {T : Str} (Tn : String) {tp ip : Pos} (hm : X.mg "isinstance" = none) (hmT : X.mg T = none) (hA : LE X E a ha) (hvT : bootBuiltins T = some (.type Tn) := by decide +kernel) (hg : Gl X "isinstance" := by rfl) (hgT : Gl X T := by rfl) (hT1 : T ≠ "__name__" := by decide) (hT2 : (T == ("__debug__" : Str)) = false := by decide)
    (hs : starEach [a, .Name T tp] X.env = (false, eval a X.env) :: starEach [.Name T tp] X.env := by rfl) (hp : (backTo pos (starEach [.Name T tp] X.env)).any (·.1) = false := by rfl) : LE X E (.Call (.Name "isinstance" ip) [a, .Name T tp] [] pos) (gIsi Tn ha) := le_isi hA hg hm hgT hmT hvT hT1 hT2 hs hp
end
/-! ### an error of the program's own, with two fields -/
structure ErrC (P : Program) (w : World) (K : PySem.W.Frag) (mg : Str → Option Value) (base : Heap) (x f1 f2 : Str) : Prop where
  ex : ∃ (C fI : Addr) (fd : FuncData) (ps : List Str), OexC K C ∧ PySem.W.findIn K (.ref C) f1 = some none ∧ PySem.W.findIn K (.ref C) f2 = some none ∧ PySem.W.findIn K (.ref C) "__init__" = some (some (.ref fI)) ∧ PySem.W.typeIn K (.ref fI) = some (.type "function") ∧
    FnOk P w K mg base CX0 1 fI fd ps (spIni K C f1 f2) ∧ Binds K fd ps [] ∧ mg x = some (.ref C)
section
variable {X : Cx} {E : XK} {x f1 f2 : Str} {k : Nat} {e : Expr} {es : List Expr} {ga : GA} {p pos rpos : Pos}
theorem ls_raiseE (Er : ErrC X.prog X.w X.K X.mg X.base x f1 f2) (hr : Room k X.A) (hc : X.calm = true) (tk : Takes X (fun cls d _ H => E cls d H)) (ha : LA X (fun _ => E) (e :: es) ga) (hl : GLen ga 2) (hk : 2 ≤ k := by decide) (hg : Gl X x := by rfl)
    (hdb : (x == ("__debug__" : Str)) = false := by decide) (he : starEach (e :: es) X.env = (false, eval e X.env) :: starEach es X.env := by rfl) (hpl : (backTo pos (starEach es X.env)).any (·.1) = false := by rfl) :
    LS X E (.Raise (some (.Call (.Name x p) (e :: es) [] pos)) none rpos) (sRaise x f1 f2 ga) := by
  obtain ⟨C, fI, fd, ps, T, n1, n2, iC, tI, F1, hb, hm⟩ := Er.ex
  exact ls_raise hc tk T n1 n2 iC tI F1 (hr.mono hk) hb hg hm ha hl hdb he hpl
end
end LF
set_option Elab.async false
set_option linter.all false
set_option maxRecDepth 100000
set_option maxHeartbeats 2000000
namespace LF
open PySem PySem.Spec PyProof.Rows L2
open PySem.AutoSeq1 (wpAny_loadPart')

/-! ### enumerate of a tuple -/
theorem draws_tup {P : Program} {w : World} {A : Around} (hA : A.handled = none) (j a : Addr) (hn : a ≠ j) (us : Array Value) :
    Draws P w A j [j, a] us.size (fun i v => us[i]? = some v) (fun i h => h.IsTupleIter j a i ∧ h.IsTuple a us) where
  live := fun _ _ z => by
    obtain ⟨⟨o, ho, _⟩, _⟩ := z
    exact ⟨o, ho⟩
  frame := fun _ _ _ z k => by
    obtain ⟨⟨o, ho, r⟩, ⟨o2, ho2, r2⟩⟩ := z
    exact ⟨⟨o, k j (by simp) o ho, r⟩, ⟨o2, k a (by simp) o2 ho2, r2⟩⟩
  item := fun i s Q E hi z hQ => RZ.nextOf_tuple_item z.1 z.2 (x := us[i]) (by simp [hi]) fun h' z' sb => hQ _ h' s.toks (by simp [hi]) ⟨z', z.2.extBut sb.extBut hn⟩ sb
  done := fun s Q E z hE => RZ.nextOf_tuple_end hA z.1 z.2 (by simp) hE
theorem draws_end {P : Program} {w : World} {A : Around} (hA : A.handled = none) (j a : Addr) (hn : a ≠ j) (us : Array Value) {n : Nat} (hs : us.size ≤ n) :
    Draws P w A j [j, a] n (fun _ _ => True) (fun i h => i = n ∧ h.IsTupleIter j a i ∧ h.IsTuple a us) where
  live := fun _ _ z => by
    obtain ⟨_, ⟨o, ho, _⟩, _⟩ := z
    exact ⟨o, ho⟩
  frame := fun _ _ _ z k => by
    obtain ⟨e, ⟨o, ho, r⟩, ⟨o2, ho2, r2⟩⟩ := z
    exact ⟨e, ⟨o, k j (by simp) o ho, r⟩, ⟨o2, k a (by simp) o2 ho2, r2⟩⟩
  item := fun i s Q E hi z hQ => absurd hi (by rw [z.1]; exact Nat.lt_irrefl _)
  done := fun s Q E z hE => RZ.nextOf_tuple_end hA z.2.1 z.2.2 (Array.getElem?_eq_none hs) hE

abbrev tItO (a : Addr) : Obj := { cls := .type "tuple_iterator", data := .fields #[.ref a, .int 0 0] }
abbrev enO (j : Addr) : Obj := { cls := .type "enumerate", data := .fields #[.none, .bool false, .ref j, rawInt 0, .none, .none] }
theorem meets_enumT (a : Addr) (us : Array Value) :
    Meets (Builtin.«enumerate.__new__» ⟨[.type "enumerate", .ref a], []⟩) (fun _ R s => s.heap.IsTuple a us ∧
      R (.ok (.ret (.ref (s.heap.push (tItO a)).objs.size))) { s with heap := (s.heap.push (tItO a)).push (enO s.heap.objs.size) }) :=
  .of_wp fun P w A R s z => by
    obtain ⟨hp, g, d, tk, os⟩ := s
    obtain ⟨hT, z⟩ := z
    have hs := sub_enumerate
    have hl := hT.choose_spec.1
    wp_walk using wpAny_loadPart' hl
    refine wpAny_stack_any fun st => wpAny_pure ?_
    split
    · rename_i c _ _ _ _ _
      cases (c == Value.type "enumerate") <;> (wp_walk using wpAny_loadPart' hl, wpAny_pyIter_tuple hT; exact ⟨_, rfl, z⟩)
    · wp_walk using wpAny_loadPart' hl, wpAny_pyIter_tuple hT
      exact ⟨_, rfl, z⟩
theorem call_enumT {P : Program} {w : World} {A : Around} {E : Value → Shared → Prop} {s : Shared} {a : Addr} {us : Array Value} {Q : Value → Shared → Prop} (hT : s.heap.IsTuple a us)
    (h : ∀ h', IsEnum h' (s.heap.objs.size + 1) s.heap.objs.size 0 .none → h'.IsTupleIter s.heap.objs.size a 0 → (∀ b o, s.heap.get? b = some o → h'.get? b = some o) → Q (.ref (s.heap.objs.size + 1)) { s with heap := h' }) :
    wpAny (model P w) A (call (.type "enumerate") [.ref a]) Q E s := by
  refine callType_new F.called_enumerate (by decide) (F.typeCall_enumerate_1 _) (F.newCall_enumerate_1 _) (fun obj => F.args_object_init_2 obj _) F.entry_enumerate_new (meets_enumT a us) ⟨hT, ?_⟩
  have e1 : (s.heap.push (tItO a)).objs.size = s.heap.objs.size + 1 := Heap.size_push ..
  have e2 : IsEnum ((s.heap.push (tItO a)).push (enO s.heap.objs.size)) (s.heap.objs.size + 1) s.heap.objs.size 0 .none := by
    have q := Heap.get?_push_size (s.heap.push (tItO a)) (o := enO s.heap.objs.size) rfl
    rw [e1] at q
    exact q
  rw [e1]
  exact ⟨⟨_, e2, rfl⟩, h _ e2 ⟨_, Heap.get?_push_of_some _ (Heap.get?_push_size _ rfl), rfl, rfl⟩ fun b o x => Heap.get?_push_of_some _ (Heap.get?_push_of_some _ x)⟩

def Itte (K : PySem.W.Frag) (a : Addr) : It where
  go := fun i H => ∃ (xs : List V) (x : V), SqT K H a xs ∧ xs[i]? = some x
  yld := fun i H v H' => ∃ (T : Addr) (x : V), v = .ref T ∧ H T = none ∧ H' = upd H T (.tup [.int (i : Nat), x]) ∧ ∀ xs, SqT K H a xs → xs[i]? = some x
  stop := fun i H => ∃ xs : List V, SqT K H a xs ∧ xs.length ≤ i
theorem cls_ne {h : Heap} {a b : Addr} {o1 o2 : Obj} (h1 : h.get? a = some o1) (h2 : h.get? b = some o2) (hc : o1.cls ≠ o2.cls) : a ≠ b := fun z => by
  subst z
  rw [h1] at h2
  cases h2
  exact hc rfl
theorem turn_enumT {P : Program} {w : World} {K : PySem.W.Frag} {elts : List Expr} {kk : Nat} {tpos : Pos} (a e j : Addr) :
    Turn P w K (.Tuple elts kk tpos) (Itte K a) [e, j] e (fun i h => (∃ old, IsEnum h e j ((i : Nat) : Int) old) ∧ h.IsTupleIter j a i) where
  mem := by simp
  obj := fun i h z b hb => by
    obtain ⟨⟨old, he⟩, ⟨o, ho, hc, hd⟩⟩ := z
    rcases List.mem_cons.mp hb with q | q
    · subst q
      exact ⟨_, he, fun v q => nomatch q⟩
    · rw [List.mem_singleton] at q
      subst q
      exact ⟨o, ho, fun v q => by rw [hd] at q; cases q⟩
  keep := fun i h h' z k => by
    obtain ⟨⟨old, he⟩, ⟨o, ho, r⟩⟩ := z
    exact ⟨⟨old, k e (by simp) _ he⟩, o, k j (by simp) o ho, r⟩
  item := by
    intro X hP hw hK hc i pins s σ H E I hf st hg
    subst hP hw hK
    obtain ⟨⟨old, he⟩, hj⟩ := st
    obtain ⟨xs, x, hq, hx⟩ := hg
    obtain ⟨its, rv, p, hz⟩ := I.tuple hq
    obtain ⟨u, hu, ru⟩ := rv.get hx
    have hT : s.heap.IsTuple a its.toArray := p
    obtain ⟨ot, hot, hct, _⟩ := id hT
    obtain ⟨oj, hoj, hcj, _⟩ := id hj
    have n1 : a ≠ j := cls_ne hot hoj (by rw [hct, hcj]; decide)
    have n2 : e ≠ j := cls_ne he hoj (by rw [hcj]; show Value.type "enumerate" ≠ _; decide)
    have n3 : e ≠ a := cls_ne he hot (by rw [hct]; show Value.type "enumerate" ≠ _; decide)
    have le : e < s.heap.objs.size := Heap.lt_size he
    have lj : j < s.heap.objs.size := Heap.lt_size hoj
    have li : i < its.toArray.size := by
      have q := (List.getElem?_eq_some_iff.mp hu).1
      simpa using q
    refine wpAny_pyNext_enum_itemD (draws_tup (A := X.A.in1) (show X.A.in1.handled = none from I.ok.hd hc) j a n1 its.toArray) he ⟨hj, hT⟩ li n2 (by simp [n2, n3]) fun y h' tk hy ho hj' hP hs hk => ?_
    have hyu : y = u := by
      have q : its[i]? = some y := by simpa using hy
      rw [hu] at q
      cases q
      rfl
    subst hyu
    refine ⟨_, rfl, wpAny_letOwnedTupleGo_enum (s := { s with heap := h', toks := tk + 1 }) ho fun h'' he' sb => ?_⟩
    have hP2 : h''.get? s.heap.objs.size = some { cls := .type "tuple", data := .seq #[.int i tk, y] } := by
      rw [sb.2 _ (Nat.ne_of_gt le)]
      exact hP
    have ob : ObjOk X.prog X.w (upd H s.heap.objs.size (.tup [.int (i : Nat), x])) h'' s.heap.objs.size (.tup [.int (i : Nat), x]) := by
      refine ⟨?_, [.int i tk, y], .cons ⟨_, rfl⟩ (.cons ru .nil), ⟨_, hP2, rfl, _, rfl⟩⟩
      show 2 ≤ sizeLine
      decide
    have I1 : Inv X pins σ (upd H s.heap.objs.size (.tup [.int (i : Nat), x])) { s with heap := h'', toks := tk + 1 } := by
      refine I.turnedNew (ch := [e, j]) (fun b o hb q => ?_) hf (Nat.le_refl _) ob
      have b1 : b ≠ e := fun z => hb (by rw [z]; simp)
      have b2 : b ≠ j := fun z => hb (by rw [z]; simp)
      rw [sb.2 b b1]
      exact hk b o b1 b2 q
    refine ⟨.ref s.heap.objs.size, _, I1, rfl, ⟨_, x, rfl, I.hok.fresh (Nat.le_refl _), rfl, fun ys hy => ?_⟩, ⟨⟨y, ?_⟩, ?_⟩, fun b hb => ?_⟩
    · rw [I.tuple_inj hy hq]
      exact hx
    · rw [show ((i + 1 : Nat) : Int) = (i : Int) + 1 from by omega]
      exact he'
    · obtain ⟨⟨o, ho2, r⟩, _⟩ := hj'
      exact ⟨o, (sb.2 j (Ne.symm n2)).trans ho2, r⟩
    · have lb : b < s.heap.objs.size := by
        rcases List.mem_cons.mp hb with q | q
        · rw [q]; exact le
        · rw [List.mem_singleton] at q
          rw [q]; exact lj
      rw [upd_ne (Nat.ne_of_lt lb)]
      exact (hf b hb).1
  done := by
    intro X hP hw hK hc i pins s σ H E I hf st hg
    subst hP hw hK
    obtain ⟨⟨old, he⟩, hj⟩ := st
    obtain ⟨xs, hq, hx⟩ := hg
    obtain ⟨its, rv, p, hz⟩ := I.tuple hq
    have hT : s.heap.IsTuple a its.toArray := p
    obtain ⟨ot, hot, hct, _⟩ := id hT
    obtain ⟨oj, hoj, hcj, _⟩ := id hj
    have n1 : a ≠ j := cls_ne hot hoj (by rw [hct, hcj]; decide)
    obtain ⟨f0, f1, f2, f3, f4, f5⟩ := hf j (by simp)
    have hl := rv.length
    exact wpAny_pyNext_enum_endD (draws_end (A := X.A.in1) (show X.A.in1.handled = none from I.ok.hd hc) j a n1 its.toArray (n := i) (by simp; omega)) he ⟨rfl, hj, hT⟩ fun h' eb =>
      ⟨rfl, I.turned (t' := s.toks) (fun b o hb q => eb b o hb q) f0 f1 f3 f4 f5⟩
  self := fun A i s Q E st h => by
    obtain ⟨⟨_, he⟩, _⟩ := st
    exact wpAny_pyIter_enum he h
def iEnumT (K : PySem.W.Frag) (ta : TA) : TI := fun σ H R => ta σ H fun vs H1 => ∃ (a : Addr) (xs : List V), vs = [.ref a] ∧ SqT K H1 a xs ∧ R (Itte K a) H1
theorem pi_enumT {X : Cx} {e : Expr} {ta : TA} {p pos tpos : Pos} {elts : List Expr} {kk : Nat} (hg : Gl X "enumerate") (hm : X.mg "enumerate" = none) (ha : PA X [e] ta) (hs : starEach [e] X.env = [(false, eval e X.env)] := by rfl) :
    PI X (.Tuple elts kk tpos) (.Call (.Name "enumerate" p) [e] [] pos) (iEnumT X.K ta) := by
  constructor
  intro pins s σ H R I h
  refine Call_ (ld_blt I hg hm boot_enumerate (callWith_type1 (thn (ha.run pos pins s σ H _ I h) fun us s1 z => ?_) hs rfl))
  obtain ⟨vs, H1, I1, r1, a, xs, rfl, hq, q⟩ := z
  obtain ⟨its, rv, hT, hz⟩ := I1.tuple hq
  cases r1 with
  | cons r rr =>
    cases rr
    cases r
    refine call_enumT (us := its.toArray) hT fun h' he hj hk => wpAny_pyIter_enum he ?_
    have I2 : Inv X pins σ H1 { s1 with heap := h' } := I1.kept (t' := s1.toks) hk
    refine ⟨s1.heap.objs.size + 1, [s1.heap.objs.size + 1, s1.heap.objs.size], _, Itte X.K a, H1, rfl, I2, turn_enumT a (s1.heap.objs.size + 1) s1.heap.objs.size, ⟨⟨.none, he⟩, hj⟩, fun b hb => ?_, q⟩
    have hle : s1.heap.objs.size ≤ b := by
      rcases List.mem_cons.mp hb with z | z
      · rw [z]; exact Nat.le_succ _
      · rw [List.mem_singleton] at z
        rw [z]; exact Nat.le_refl _
    exact I1.fpOk hle (I1.hok.fresh hle)
/-! ### enumerate -/
def enumD : Nat → List PyData → List PyData
  | _, [] => []
  | n, d :: r => .tuple [.int n, d] :: enumD (n + 1) r
@[simp] def giEnum (g : GE) : GI := fun env st => (g env st).bind fun a st1 => match a with
  | .d (.list ds) => .ok ⟨enumD 0 ds, fun _ => True⟩ st1
  | .d (.tuple ds) => .ok ⟨enumD 0 ds, fun _ => True⟩ st1
  | _ => .bad
theorem enumD_get : ∀ (ds : List PyData) (n i : Nat), (enumD n ds)[i]? = (ds[i]?).map fun d => .tuple [.int ((n + i : Nat) : Int), d]
  | [], _, _ => by simp [enumD]
  | d :: r, n, 0 => by simp [enumD]
  | d :: r, n, i + 1 => by
    simp only [enumD, List.getElem?_cons_succ]
    rw [enumD_get r (n + 1) i]
    have : n + 1 + i = n + (i + 1) := by omega
    rw [this]
theorem enumD_length : ∀ (ds : List PyData) (n : Nat), (enumD n ds).length = ds.length
  | [], _ => rfl
  | _ :: r, n => by simp [enumD, enumD_length r]
theorem itok_enum {K : PySem.W.Frag} {L ρ : List Addr} {H : Hp} {st : Sto} {p : Addr} {xs : List V} {ds : List PyData} (hp : p ∉ ρ) (hT : H p = some (.lst xs)) (hA : RpAll K L H xs ds) (S : StOk K L ρ H st) : ItOk K (Ite K p) L ρ H ⟨enumD 0 ds, fun _ => True⟩ where
  go := fun L' ρ' H' st' s S' _ i hi => by
    have hi2 : i < xs.length := by rw [hA.length, ← enumD_length ds 0]; exact hi
    exact ⟨xs, xs[i], SqL.of (s.keep p _ hp hT), List.getElem?_eq_getElem hi2⟩
  yld := fun L' ρ' H' st' s S' _ i d hd x H2 hy => by
    obtain ⟨T, y, rfl, hTn, rfl, hy⟩ := hy
    rw [enumD_get] at hd
    cases q : ds[i]? with
    | none => rw [q] at hd; cases hd
    | some e =>
      rw [q] at hd
      cases hd
      obtain ⟨v, e1, r1⟩ := hA.get q
      have e2 := hy xs (SqL.of (s.keep p _ hp hT))
      rw [e1] at e2
      cases e2
      have r2 := (r1.step S s).step S' (Stp.new (o := .tup [.int ((i : Nat) : Int), y]) hTn)
      refine ⟨.new hTn, S'.new hTn, .tup (SqT.of upd_same) (.cons (v := .int ((i : Nat) : Int)) ?_ (.cons r2 .nil))⟩
      rw [Nat.zero_add]
      exact .int _
  stop := fun L' ρ' H' st' s S' _ i hi => ⟨xs, SqL.of (s.keep p _ hp hT), by rw [hA.length, ← enumD_length ds 0]; exact hi⟩


theorem itok_enumT {K : PySem.W.Frag} {L ρ : List Addr} {H : Hp} {st : Sto} {p : Addr} {xs : List V} {ds : List PyData} (hT : SqT K H p xs) (hA : RpAll K L H xs ds) (S : StOk K L ρ H st) : ItOk K (Itte K p) L ρ H ⟨enumD 0 ds, fun _ => True⟩ where
  go := fun L' ρ' H' st' s S' _ i hi => by
    have hi2 : i < xs.length := by rw [hA.length, ← enumD_length ds 0]; exact hi
    exact ⟨xs, xs[i], sqT_step S s hT, List.getElem?_eq_getElem hi2⟩
  yld := fun L' ρ' H' st' s S' _ i d hd x H2 hy => by
    obtain ⟨T, y, rfl, hTn, rfl, hy⟩ := hy
    rw [enumD_get] at hd
    cases q : ds[i]? with
    | none => rw [q] at hd; cases hd
    | some e =>
      rw [q] at hd
      cases hd
      obtain ⟨v, e1, r1⟩ := hA.get q
      have e2 := hy xs (sqT_step S s hT)
      rw [e1] at e2
      cases e2
      have r2 := (r1.step S s).step S' (Stp.new (o := .tup [.int ((i : Nat) : Int), y]) hTn)
      refine ⟨.new hTn, S'.new hTn, .tup (SqT.of upd_same) (.cons (v := .int ((i : Nat) : Int)) ?_ (.cons r2 .nil))⟩
      rw [Nat.zero_add]
      exact .int _
  stop := fun L' ρ' H' st' s S' _ i hi => ⟨xs, sqT_step S s hT, by rw [hA.length, ← enumD_length ds 0]; exact hi⟩
theorem li_enum {X : Cx} {E : L2.St → XK} {a : Expr} {g : GE} {elts : List Expr} {kk : Nat} {p pos tpos : Pos} (hm : X.mg "enumerate" = none) (ha : LE X E a g) (hg : Gl X "enumerate" := by rfl) (hs : starEach [a] X.env = [(false, eval a X.env)] := by rfl) : LI X E (.Tuple elts kk tpos) (.Call (.Name "enumerate" p) [a] [] pos) (giEnum g) := by
  refine (PI.or (pi_enumT hg hm (la_cons ha la_nil hs) hs) (pi_enum hg hm (la_cons ha la_nil hs) hs)).imp fun σ H Rr h => ?_
  obtain ⟨L, ρ, st, env, S, V, h⟩ := h
  unfold giEnum at h
  cases q : g env st with
  | bad => rw [q] at h; exact h.elim
  | exc c fs st' =>
    rw [q] at h
    refine .inl ⟨L, ρ, st, env, S, V, ?_⟩
    show OutL _ _ _ _ _ _ (LF.gCons g LF.gNil env st) _
    unfold LF.gCons
    rw [q]
    exact h
  | ok a st1 =>
    rw [q, R.bind_ok] at h
    cases a with
    | box i => exact h.elim
    | scr ds => exact h.elim
    | d x =>
      cases x with
      | tuple ds =>
        refine .inl ⟨L, ρ, st, env, S, V, ?_⟩
        show OutL _ _ _ _ _ _ (LF.gCons g LF.gNil env st) _
        unfold LF.gCons
        rw [q]
        intro L1 ρ1 H1 vs s1 S1 r1
        obtain ⟨v, rfl, ra⟩ := r1.one
        obtain ⟨p, xs, rfl, hT, hA⟩ := tup_at ra
        exact ⟨p, xs, rfl, hT, h L1 ρ1 H1 _ s1 S1 (itok_enumT hT hA S1)⟩
      | list ds =>
        refine .inr ⟨L, ρ, st, env, S, V, ?_⟩
        show OutL _ _ _ _ _ _ (LF.gCons g LF.gNil env st) _
        unfold LF.gCons
        rw [q]
        intro L1 ρ1 H1 vs s1 S1 r1
        obtain ⟨v, rfl, ra⟩ := r1.one
        cases ra with
        | d ra =>
          obtain ⟨p, xs, rfl, hn, hR, hA⟩ := lst_in ra
          exact ⟨p, xs, rfl, SqL.of hR, h L1 ρ1 H1 _ s1 S1 (itok_enum (fun z => hn (S1.rl _ z)) hR hA S1)⟩
      | none => exact h.elim
      | bool _ => exact h.elim
      | int _ => exact h.elim
      | str _ => exact h.elim
      | dict _ => exact h.elim
end LF
set_option Elab.async false
set_option linter.all false
set_option maxRecDepth 100000
set_option maxHeartbeats 2000000
namespace LF
open PySem PySem.Spec PyProof.Rows L2

/-! ### t[::-1] -/
theorem back_adjust (n : Nat) : Builtin.Slice.sliceAdjust none none (-1) (n : Int) = ((n : Int) - 1, -1) := rfl
theorem back_places (n : Nat) : Builtin.Slice.slicePlaces ((n : Int) - 1) (-1) (-1) = n := by
  unfold Builtin.Slice.slicePlaces
  rw [if_neg (by decide), show (- (-1 : Int)) = 1 from rfl, Int.ediv_one]
  split <;> omega
theorem back_pick (xs : List Value) : ((List.range xs.length).filterMap fun (k : Nat) => xs.toArray[((xs.length : Int) - 1 + (k : Int) * (-1)).toNat]?) = xs.reverse := by
  refine List.ext_getElem? fun i => ?_
  have e : ((List.range xs.length).filterMap fun (k : Nat) => xs.toArray[((xs.length : Int) - 1 + (k : Int) * (-1)).toNat]?) = (List.range xs.length).map fun k => xs.getD (xs.length - 1 - k) .none := by
    have key : ∀ l : List Nat, (∀ k ∈ l, k < xs.length) → (l.filterMap fun (k : Nat) => xs.toArray[((xs.length : Int) - 1 + (k : Int) * (-1)).toNat]?) = l.map fun k => xs.getD (xs.length - 1 - k) .none := by
      intro l
      induction l with
      | nil => intro _; rfl
      | cons k l ih =>
        intro hk
        have hk' := hk k (by simp)
        have e1 : ((xs.length : Int) - 1 + (k : Int) * (-1)).toNat = xs.length - 1 - k := by omega
        have h2 : xs.length - 1 - k < xs.length := by omega
        rw [List.map_cons, ← ih fun m hm => hk m (by simp [hm]), List.filterMap_cons, e1]
        simp [List.getD_eq_getElem?_getD, h2]
    exact key _ fun k hk => List.mem_range.mp hk
  rw [e]
  by_cases h : i < xs.length
  · rw [List.getElem?_map, List.getElem?_range h, List.getElem?_reverse h]
    have h2 : xs.length - 1 - i < xs.length := by omega
    simp [List.getD_eq_getElem?_getD, h2]
  · rw [List.getElem?_eq_none (by simp; omega), List.getElem?_eq_none (by simp; omega)]
section
variable {P : Program} {w : World} {A : Around} {E : Value → Shared → Prop} {s : Shared}
theorem back_applied {sl : Addr} {n : Nat} {u : Tok} {Q : Int × Int × Nat → Shared → Prop} (hs : s.heap.IsSliceOf sl .none .none (.int (-1) u)) (h : Q ((n : Int) - 1, -1, n) s) :
    wpAny (model P w) A (Builtin.Slice.sliceApplied (.ref sl) (pure (n : Int))) Q E s := by
  obtain ⟨o, ho, _, hd⟩ := id hs
  unfold Builtin.Slice.sliceApplied Builtin.Slice.sliceFields
  refine wpAny_bind (wpAny_bind (wpAny_field (x := .none) ho hd rfl (wpAny_bind (wpAny_field (x := .none) ho hd rfl (wpAny_bind (wpAny_field (x := .int (-1) u) ho hd rfl (wpAny_pure ?_)))))))
  refine wpAny_bind (slicePart_int (wpAny_bind (slicePart_none (wpAny_bind (slicePart_none (wpAny_bind (wpAny_pure ?_)))))))
  have e : Builtin.Slice.slicePlaces (Builtin.Slice.sliceAdjust none none (-1) (n : Int)).1 (Builtin.Slice.sliceAdjust none none (-1) (n : Int)).2 (-1) = n := by
    rw [back_adjust]
    exact back_places n
  show wpAny _ _ (pure ((n : Int) - 1, (-1 : Int), Builtin.Slice.slicePlaces (Builtin.Slice.sliceAdjust none none (-1) (n : Int)).1 (Builtin.Slice.sliceAdjust none none (-1) (n : Int)).2 (-1))) _ _ s
  rw [e]
  exact wpAny_pure h
theorem back_item {t sl : Addr} {us : List Value} {u : Tok} {Q : Value → Shared → Prop} (ht : IsTup s.heap t us.toArray) (hs : s.heap.IsSliceOf sl .none .none (.int (-1) u)) (hz : us.length ≤ sizeLine)
    (h : Q (.ref s.heap.objs.size) { s with heap := s.heap.push { cls := .type "tuple", data := .seq us.reverse.toArray } }) : wpAny (model P w) A (getItem (.ref t) (.ref sl)) Q E s := by
  obtain ⟨o, ho, hc, _⟩ := id hs
  have hT : s.TypeIs (.ref sl) "slice" := ⟨o, ho, hc⟩
  have hok : sizeOk (.seq us.reverse.toArray) := by
    show us.reverse.toArray.size ≤ sizeLine
    simpa using hz
  unfold getItem
  try with_reducible refine wpAny_holding ?_
  first | refine wpAny_bind (wpAny_pure ?_) | skip
  refine wpAny_bind (wpAny_sequenceKey ht.typeIs (by decide) ?_)
  refine wpAny_bind (wpAny_callSpecial?_slot (name := Str.ofString "__getitem__") ht.typeIs PyProof.Rows.slot_tuple_getitem (wpAny_call_entry PyProof.Rows.slot_tuple_getitem ht.typeIs entry_tuple_getitem ?_ (args_tuple_getitem _ _)))
  show wpAny _ _ (Builtin.Tuple.tupleItemsOf (.ref t) >>= _) _ _ s
  refine wpAny_bind (tupleItemsOf_ ht (wpAny_bind (wpAny_typeOf hT ?_)))
  rw [if_pos (by decide)]
  refine wpAny_bind (back_applied (n := us.toArray.size) hs ?_)
  have hno : ¬ (((us.toArray.size : Int) - 1 == 0 && (-1 : Int) == 1 && us.toArray.size == us.toArray.size) = true) := by
    intro q
    rw [Bool.and_eq_true, Bool.and_eq_true] at q
    exact absurd q.1.2 (by decide)
  show wpAny _ _ (if ((us.toArray.size : Int) - 1 == 0 && (-1 : Int) == 1 && us.toArray.size == us.toArray.size) = true then _ else _) _ _ s
  rw [if_neg hno]
  have e : ((List.range us.toArray.size).filterMap fun (k : Nat) => us.toArray[((us.toArray.size : Int) - 1 + (k : Int) * (-1)).toNat]?) = us.reverse := by
    rw [List.size_toArray]
    exact back_pick us
  rw [e]
  first
    | exact wpAny_bind (m := Builtin.Tuple.tupleExact _) (wpAny_newObj_type (wpAny_pure ⟨_, rfl, wpAny_pure h⟩) hok)
    | exact wpAny_bind (wpAny_bind (m := Builtin.Tuple.tupleExact _) (wpAny_newObj_type (wpAny_pure ⟨_, rfl, wpAny_pure h⟩) hok))
end
theorem vals_rev : ∀ {xs : List V} {us : List Value}, Vals xs us → Vals xs.reverse us.reverse
  | _, _, .nil => .nil
  | _, _, .cons r t => by
    rw [List.reverse_cons, List.reverse_cons]
    exact (vals_rev t).append (.cons r .nil)
theorem rpAll_rev {K : PySem.W.Frag} {L : List Addr} {H : Hp} : ∀ {xs : List V} {ds : List PyData}, RpAll K L H xs ds → RpAll K L H xs.reverse ds.reverse
  | _, _, .nil => .nil
  | _, _, .cons r t => by
    rw [List.reverse_cons, List.reverse_cons]
    exact (rpAll_rev t).append (.cons r .nil)
@[simp] def gRev (g : GE) : GE := fun env st => (g env st).bind fun a st1 => match a with
  | .d (.tuple ds) => .ok (.d (.tuple ds.reverse)) st1
  | _ => .bad
section
variable {X : Cx} {E : L2.St → XK} {a : Expr} {g : GE} {p2 p3 p4 pos : Pos} {j : Nat}
def tRev (K : PySem.W.Frag) (ta : TE) : TE := fun σ H Q => ta σ H fun x H1 => ∃ (t : Addr) (xs : List V), x = .ref t ∧ SqT K H1 t xs ∧ ∀ p, H1 p = none → Q (.ref p) (upd H1 p (.tup xs.reverse))
theorem pe_rev {ta : TE} (ha : PE X a ta) : PE X (.Subscript a (.Slice none none (some (.UnaryOp .USub (.Constant (.int 1) j p3) p4)) p2) pos) (tRev X.K ta) := by
  constructor
  intro pins s σ H Q I h
  refine Subscript_ (thn (ha.run pins s σ H _ I h) fun v s1 z => ?_)
  obtain ⟨x, H1, I1, r1, t, xs, rfl, hT, q⟩ := z
  cases r1
  refine wpAny_Slice ?_
  rw [evalPart_none]
  refine wpAny_pure (wpAny_pure ?_)
  rw [evalPart_some]
  refine thn ((pe_un un_neg pe_int).run pins s1 σ H1 (fun y H2 => y = .int (-1) ∧ H2 = H1) I1 ⟨1, rfl, rfl, rfl⟩) fun u s2 z => ?_
  obtain ⟨y, H2, I2, r2, rfl, rfl⟩ := z
  obtain ⟨k, rfl⟩ := r2
  obtain ⟨its, r, ht, hz⟩ := I2.tuple hT
  have I3 : Inv X pins σ H2 { s2 with heap := s2.heap.push { cls := .type "slice", data := .fields #[.none, .none, .int (-1) k] } } := I2.kept (t' := s2.toks) fun b ob q => Heap.get?_push_of_some _ q
  obtain ⟨its3, r3, ht3, hz3⟩ := I3.tuple hT
  show wpAny (model X.prog X.w) X.A (subscriptTail a (.Slice none none (some (.UnaryOp .USub (.Constant (.int 1) j p3) p4)) p2) (.ref t) (.ref s2.heap.objs.size)) (EP X pins σ Q) X.xe { s2 with heap := s2.heap.push { cls := .type "slice", data := .fields #[.none, .none, .int (-1) k] } }
  refine tail_any (T := "tuple") (ops := [.ref t, .ref s2.heap.objs.size]) ht3.typeIs PyProof.Rows.slot_tuple_getitem.lookup ?_ (by with_unfolding_all rfl)
  refine back_item ht3 (Heap.IsSliceOf.new ..) (by rw [← r3.length]; exact hz3) ⟨.ref _, _, I3.laid (t' := s2.toks) (o := .tup xs.reverse) (fun b ob q => Heap.get?_push_of_some _ q) (Nat.le_refl _) ?_, rfl, q _ (I3.hok.fresh (Nat.le_refl _))⟩
  exact ⟨by rw [List.length_reverse]; exact hz3, _, vals_rev r3, IsTup.new _ _⟩
theorem le_rev (ha : LE X E a g) : LE X E (.Subscript a (.Slice none none (some (.UnaryOp .USub (.Constant (.int 1) j p3) p4)) p2) pos) (gRev g) := by
  refine (pe_rev ha).imp fun σ H Q h => ?_
  obtain ⟨L, ρ, st, env, S, V, h⟩ := h
  refine ⟨L, ρ, st, env, S, V, Out.bind S h fun a st1 L1 ρ1 H1 x s1 S1 r1 h1 => ?_⟩
  split at h1
  · rename_i ds
    obtain ⟨p, xs, rfl, hT, hA⟩ := tup_at r1
    exact ⟨p, xs, rfl, hT, fun l hl => h1 L1 ρ1 _ _ (.new hl) (S1.new hl) (.d (.tup (SqT.of upd_same) ((rpAll_rev hA).step S1 (.new hl))))⟩
  · exact h1.elim
end
/-! ### x = [.. for ..], the list will change -/
theorem StOk.join {K : PySem.W.Frag} {L ρ La ρa : List Addr} {H H2 : Hp} {st : Sto} {D : Addr} {xs : List V} {ys : List PyData} (s : Stp L ρ H La ρa H2) (S : StOk K La ρa H2 st) (hx : H2 D = some (.lst xs)) (h0 : H D = none) (hL : D ∈ La) (hr : D ∉ ρa) (hA : RpAll K La H2 xs ys) :
    Stp L ρ H La (ρa ++ [D]) H2 ∧ StOk K La (ρa ++ [D]) H2 (st ++ [ys]) := by
  obtain ⟨suf, er, hs⟩ := s.rr
  refine ⟨⟨s.keep, s.lk, s.ll, suf ++ [D], by rw [er, List.append_assoc], fun a ha => ?_⟩, by simp [S.len], ?_, fun a ha => ?_, fun a ha e => ?_, fun i a es e1 e2 => ?_⟩
  · rcases List.mem_append.mp ha with z | z
    · exact hs a z
    · rw [List.mem_singleton.mp z]; exact h0
  · rw [List.nodup_append]
    exact ⟨S.nd, by simp, fun a ha b hb z => hr (by rw [List.mem_singleton.mp hb] at z; rw [← z]; exact ha)⟩
  · rcases List.mem_append.mp ha with z | z
    · exact S.rl a z
    · rw [List.mem_singleton.mp z]; exact hL
  · exact S.there a ha e
  · by_cases hi : i < ρa.length
    · rw [List.getElem?_append_left hi] at e1
      rw [List.getElem?_append_left (by rw [S.len]; exact hi)] at e2
      exact S.cell i a es e1 e2
    · rw [List.getElem?_append_right (by omega)] at e1
      rw [List.getElem?_append_right (by rw [S.len]; omega)] at e2
      have hz : i - ρa.length = 0 := by
        have := (List.getElem?_eq_some_iff.mp e1).1
        simp at this
        exact this
      rw [hz] at e1
      rw [S.len, hz] at e2
      simp at e1 e2
      subst e1 e2
      exact ⟨xs, hx, hA⟩
section
variable {X : Cx} {E : XK} {tg iter e : Expr} {ifs : List Expr} {scope : Scope} {x : Str} {i : Nat} {pos : Pos} {gi : GI} {test : GT} {elt : GE}
theorem ls_boxComp {j : Nat} {y : Str} {py spos : Pos} (hc : X.calm = true) (hN : X.N.Nodup) (hy : X.N[j]? = some y) (hyl : X.env.scope.names.lookup y = some .local)
    (hsw : swapsWith (.ListComp e [⟨tg, iter, ifs, 0⟩] scope pos) (some (.Name y py)) spos.line X.env = pure true) (hi : LI X (fun _ => E) tg iter gi) (ok : BlkOk X.N X.env.scope scope [(x, i)])
    (hg : ∀ (s : Shared) (H : Hp) (C : Addr) (cl : List (Str × Addr)) (fp : List Addr), PG (X.blk s H scope (compEnvC scope cl C X.env) fp) tg (gName i))
    (ht : ∀ (s : Shared) (H : Hp) (C : Addr) (cl : List (Str × Addr)) (fp : List Addr), PTs (X.blk s H scope (compEnvC scope cl C X.env) fp) ifs (liftT X.K X.mg (fun _ => E0) test))
    (he : ∀ (s : Shared) (H : Hp) (C : Addr) (cl : List (Str × Addr)) (fp : List Addr), LE (X.blk s H scope (compEnvC scope cl C X.env) fp) (fun _ => E0) e elt) (hs : ∀ x, foldedSetIterable iter X.env x = pure x := by intro _; rfl) :
    LS X E (.Assign [.Name y py] (.ListComp e [⟨tg, iter, ifs, 0⟩] scope pos) spos) (sBoxOf j (gComp gi i test elt)) := by
  refine (ps_setLc (te := lift X.K X.mg (fun _ => E0) elt) hc hN hy hyl hsw hi ok hg ht he hs).imp fun D σ H h => ?_
  obtain ⟨L, ρ, st, env, S, V, h⟩ := h
  refine tLc_core (K := X.K) (mg := X.mg) (E := fun _ => E) (fun _ _ _ z => z) σ H _ ⟨L, ρ, st, env, S, V, ?_⟩
  unfold sBoxOf at h
  cases q : gComp gi i test elt env st with
  | bad => rw [q] at h; exact h
  | exc c fs st' => rw [q] at h; exact h
  | ok a stf =>
    rw [q, R.bindO_ok] at h
    intro ys ea La ρa H2 D xs sd Sa hx DH hDa hDr hA
    subst ea
    obtain ⟨sj, Sj⟩ := Sa.join sd hx DH hDa hDr hA
    refine h La (ρa ++ [D]) H2 _ sj Sj ((V.step S sj).set (.box ?_))
    rw [List.getElem?_append_right (by rw [Sa.len]; exact Nat.le_refl _), Sa.len]
    simp
end
end LF
set_option Elab.async false
set_option linter.all false
set_option maxRecDepth 100000
set_option maxHeartbeats 2000000
namespace LF
open PySem PySem.Spec PyProof.Rows L2

/-! ### sets of ints that are counted -/
theorem dups_nodup : ∀ (n : Nat) (l : List Int), l.length ≤ n → l.eraseDups.Nodup
  | _, [], _ => by simp
  | n + 1, a :: l, h => by
    rw [List.eraseDups_cons]
    have hl : (l.filter fun b => !b == a).length ≤ n := Nat.le_trans (List.length_filter_le ..) (by simpa using h)
    refine List.nodup_cons.mpr ⟨fun z => ?_, dups_nodup n _ hl⟩
    have q := (List.mem_filter.mp (List.mem_eraseDups.mp z)).2
    simp at q
theorem dups_len {l ns : List Int} (hl : l.Nodup) (h : ∀ k, k ∈ l ↔ k ∈ ns) : l.length = ns.eraseDups.length :=
  ((List.perm_ext_iff_of_nodup hl (dups_nodup _ ns (Nat.le_refl _))).mpr fun k => (h k).trans List.mem_eraseDups.symm).length_eq
theorem caps_len {l ns ms : List Int} (hl : l.Nodup) (h : ∀ k, k ∈ l ↔ k ∈ ns ∧ k ∈ ms) : l.length = (ns.eraseDups.filter fun n => decide (n ∈ ms)).length :=
  ((List.perm_ext_iff_of_nodup hl ((dups_nodup _ ns (Nat.le_refl _)).filter _)).mpr fun k => (h k).trans (by rw [List.mem_filter, List.mem_eraseDups, decide_eq_true_eq])).length_eq
@[simp] def gLenSet (g : GE) : GE := fun env st => (g env st).bind fun a st1 => match a with
  | .d (.tuple ds) => match intsOf ds with
    | some ns => if ns.length ≤ 1000 then .ok (.d (.int (ns.eraseDups.length : Nat))) st1 else .bad
    | none => .bad
  | _ => .bad
section
variable {X : Cx} {E : L2.St → XK} {a b : Expr} {g h : GE} {p p2 p3 p4 p5 pos tpos : Pos}
def tLenSetU (K : PySem.W.Frag) (ta : TE) : TE := fun σ H Q => ta σ H fun x H1 => ∃ (l : Addr) (ns : List Int), x = .ref l ∧ SqT K H1 l (ns.map V.int) ∧ ns.length ≤ 1000 ∧ Q (.int (ns.eraseDups.length : Nat)) H1
theorem pe_lenSetU {ta : TE} (hc : X.calm = true) (hg : Gl X "len") (hm : X.mg "len" = none) (hg2 : Gl X "set") (hm2 : X.mg "set" = none) (ha : PE X a ta)
    (na : starEach [a] X.env = (false, eval a X.env) :: starEach [] X.env := by rfl) : PE X (.Call (.Name "len" p) [.Call (.Name "set" p2) [a] [] pos] [] p3) (tLenSetU X.K ta) := by
  constructor
  intro pins s σ H Q I z
  refine Call_ (ld_blt I hg hm boot_len (callWith_builtin1 (args_cons ?_ rfl) rfl rfl))
  refine Call_ (ld_blt I hg2 hm2 boot_set (callWith_type1 (args_cons (thn (ha.run pins s σ H _ I z) fun v s1 y => args_nil ?_) na) na rfl))
  obtain ⟨x, H1, I1, r1, l, ns, rfl, hT, hlen, q⟩ := y
  cases r1
  obtain ⟨its, r, pT, hz⟩ := I1.tuple hT
  refine call_set_tupI ns (I1.ok.hd hc) (items := its.toArray) pT (by simpa using ints_of_vals r) (by unfold scanBound; omega) fun h' tk c hS hcn hk => args_nil ?_
  obtain ⟨o, es, ep, t, ho, hex, hd, _, nd, hmem, hb, hf, hn, _⟩ := hS
  have I2 : Inv X pins σ H1 { s1 with heap := h', toks := tk } := I1.kept hk
  have e : es.size = ns.eraseDups.length := by
    rw [← dups_len nd fun k => (hmem k).symm.trans (by simp), List.length_map, Array.length_toList]
  exact call_len_set ho hex hd hf (by unfold scanBound at hb; omega) ⟨.int (es.size : Nat), H1, I2.tok _, ⟨_, rfl⟩, by rw [e]; exact q⟩
theorem le_lenSet (hc : X.calm = true) (hm : X.mg "len" = none) (hm2 : X.mg "set" = none) (ha : LE X E a g) (hg : Gl X "len" := by rfl) (hg2 : Gl X "set" := by rfl) (na : starEach [a] X.env = (false, eval a X.env) :: starEach [] X.env := by rfl) :
    LE X E (.Call (.Name "len" p) [.Call (.Name "set" p2) [a] [] pos] [] p3) (gLenSet g) := by
  refine (pe_lenSetU hc hg hm hg2 hm2 ha na).imp fun σ H Q h => ?_
  obtain ⟨L, ρ, st, env, S, V, h⟩ := h
  refine ⟨L, ρ, st, env, S, V, Out.bind S h fun a st1 L1 ρ1 H1 x s1 S1 r1 h1 => ?_⟩
  split at h1
  · rename_i ds
    obtain ⟨t, xs, rfl, hT, hA⟩ := tup_at r1
    cases e : intsOf ds with
    | none => rw [e] at h1; exact h1.elim
    | some ns =>
      rw [e] at h1
      dsimp only at h1
      by_cases hz : ns.length ≤ 1000
      · rw [if_pos hz] at h1
        exact ⟨t, ns, rfl, by rw [← hA.ints e]; exact hT, hz, h1 L1 ρ1 H1 _ .refl S1 (.d (.int _))⟩
      · rw [if_neg hz] at h1; exact h1.elim
  · exact h1.elim
end
end LF
set_option Elab.async false
set_option linter.all false
set_option maxRecDepth 100000
set_option maxHeartbeats 2000000
namespace LF
open PySem PySem.Spec PyProof.Rows L2

/-! ### s & t of sets of ints -/
section
variable {P : Program} {w : World} {A : Around} {E : Value → Shared → Prop} {s : Shared}
theorem setsQuiet_int {l : List Addr} {Q : Bool → Shared → Prop} (h : ∀ a ∈ l, ∃ S n, SetR w s.heap a S n) (q : Q true s) : wpAny (model P w) A (setsQuiet l) Q E s := by
  unfold setsQuiet
  refine wpAny_bind ?_
  refine wpAny_forIn_list _ (fun rest b s' => s' = s ∧ b = ⟨none, ⟨⟩⟩ ∧ ∀ a ∈ rest, ∃ S n, SetR w s.heap a S n) _ ?_ ?_ _ _ ⟨rfl, rfl, h⟩
  · rintro a rest b s' ⟨rfl, rfl, hr⟩
    obtain ⟨S, n, o, es, ep, t, ho, hex, hd, hg, nd, hmem, hb, hf, hn, _⟩ := hr a (by simp)
    refine wpAny_bind (wpAny_setEntries_of ho hd hf ?_)
    refine wpAny_bind ?_
    refine wpAny_forIn_array' _ (fun rest' b' s'' => s'' = s' ∧ b' = ⟨none, ⟨⟩⟩ ∧ ∀ e ∈ rest', GoodE e) _ ?_ ?_ _ _ ⟨rfl, rfl, hg⟩
    · rintro ⟨e1, e2⟩ rest' b' s'' ⟨rfl, rfl, hg'⟩
      obtain ⟨k, tk, h1, _⟩ := hg' (e1, e2) (by simp)
      subst h1
      refine wpAny_pure ⟨rfl, rfl, fun e he => hg' e (by simp [he])⟩
    · rintro b' s'' ⟨rfl, rfl, _⟩
      exact wpAny_pure ⟨rfl, rfl, fun a ha => hr a (by simp [ha])⟩
  · rintro b s' ⟨rfl, rfl, _⟩
    exact wpAny_pure q
theorem setWalk_led {a : Addr} {o : Obj} {es : Array (Int × Value)} {ep : Nat} {t : SetTable} {Q : Array (Int × Value) → Shared → Prop} (ho : s.heap.get? a = some o) (hd : o.data = .set es ep t) (hf : t.fits es.size = true)
    (hl : w.params.followText "set-order" = true ∨ t.led = true) (hp : w.params.followText "set-order" = true ∨ (!t.plain && decide (es.size > 1)) = false) (q : ∀ xs : Array (Int × Value), xs.toList.Perm es.toList → Q xs s) : wpAny (model P w) A (setWalk a) Q E s := by
  unfold setWalk
  refine wpAny_bind (wpAny_setState_of ho hd hf ?_)
  dsimp only
  refine wpAny_bind (wpAny_byText ?_)
  cases hb : w.params.followText "set-order" with
  | true =>
    refine wp_if_pos rfl ?_
    exact wpAny_bind (wpAny_askSetting (wpAny_pure (q _ (pick_perm _ es))))
  | false =>
    rw [hb] at hl hp
    have hl' : t.led = true := hl.resolve_left Bool.false_ne_true
    have hp' := hp.resolve_left Bool.false_ne_true
    refine wp_if_neg Bool.false_ne_true ?_
    try refine wpAny_bind (wpAny_pure ?_)
    refine wp_if_neg (by show ¬ ((!t.plain && decide (es.size > 1)) = true); rw [hp']; exact Bool.false_ne_true) ?_
    try refine wpAny_bind (wpAny_pure ?_)
    refine wpAny_bind (wpAny_of_eq (a := ()) ?_ (wpAny_pure (q es (List.Perm.refl _))))
    show (if (!t.led && decide (es.size > 1)) = true then unsupported "set:maker-not-led" else pure ()) = pure ()
    rw [hl'] <;> rfl
theorem walkUnseen {a b r : Addr} {S Sb : Int → Bool} {n nb : Nat} {Q : Array (Int × Value) → Shared → Prop} (ha : SetR w s.heap a S n) (hb : SetR w s.heap b Sb nb) (hr : SetR w s.heap r (fun _ => false) 0)
    (q : ∀ (xs : Array (Int × Value)) (h' : Heap), Heap.SameBut r s.heap h' → SetR w h' r (fun _ => false) 0 → (∀ e ∈ xs.toList, GoodE e) → (∀ k, S k = true ↔ k ∈ xs.toList.map keyOf) → xs.size = n → Q xs { s with heap := h' }) :
    wpAny (model P w) A (setWalkUnseen a [b, r] (some r)) Q E s := by
  have ha' := ha
  obtain ⟨o, es, ep, t, ho, hex, hd, hg, nd, hmem, hbd, hf, hn, hri, hl⟩ := ha'
  have fin : ∀ (xs : Array (Int × Value)), xs.toList.Perm es.toList → Q xs s := fun xs p =>
    q xs s.heap (Heap.SameBut.refl ..) hr (fun e he => hg e (p.mem_iff.mp he)) (fun k => (hmem k).trans (p.map keyOf).mem_iff.symm) (by rw [← Array.length_toList, p.length_eq, Array.length_toList]; exact hn)
  unfold setWalkUnseen
  refine wpAny_bind (wpAny_setState_of ho hd hf ?_)
  dsimp only
  refine wpAny_bind (wpAny_byText ?_)
  by_cases hc : (w.params.followText "set-order" || (t.led && t.plain) || decide (es.size ≤ 1)) = true
  · refine wp_if_pos hc ?_
    refine setWalk_led ho hd hf hl ?_ fin
    rw [Bool.or_eq_true, Bool.or_eq_true, Bool.and_eq_true, decide_eq_true_eq] at hc
    rcases hc with (hc | hc) | hc
    · exact .inl hc
    · exact .inr (by rw [hc.2]; rfl)
    · exact .inr (by rw [show decide (es.size > 1) = false from decide_eq_false (by omega)]; exact Bool.and_false _)
  · refine wp_if_neg hc ?_
    try refine wpAny_bind (wpAny_pure ?_)
    refine wpAny_bind (setsQuiet_int (fun x hx => ?_) ?_)
    · rcases List.mem_cons.mp hx with z | hx
      · rw [z]; exact ⟨_, _, ha⟩
      rcases List.mem_cons.mp hx with z | hx
      · rw [z]; exact ⟨_, _, hb⟩
      · rw [List.mem_singleton.mp hx]; exact ⟨_, _, hr⟩
    refine wp_if_neg (by decide) ?_
    try refine wpAny_bind (wpAny_pure ?_)
    refine wpAny_bind (wpAny_rule ?_)
    obtain ⟨or_, er, pr, tr, hor, hxr, hdr, hgr, ndr, hmr, hbr, hfr, hnr, hrr, hlr⟩ := hr
    refine wpAny_bind (m := setState r) (wpAny_setState_of hor hdr hfr ?_)
    dsimp only
    by_cases hm : ((tr.led && !t.led) || (tr.plain && !t.plain)) = true
    · refine wp_if_pos hm ?_
      refine wpAny_bind (wpAny_storeSet_of hor hdr (wpAny_pure ?_) (fits_of_scanBound hbr))
      have e1 := store_at (es' := er) (t' := { tr with led := tr.led && t.led, plain := tr.plain && t.plain }) hor hdr
      refine q es _ (Heap.SameBut.update _ r _) ⟨_, er, pr + 1, { tr with led := tr.led && t.led, plain := tr.plain && t.plain }, e1, hxr, rfl, hgr, ndr, hmr, hbr, ?_, hnr, hrr, ?_⟩ hg hmem hn
      · exact hfr
      · cases hbt : w.params.followText "set-order" with
        | true => exact .inl rfl
        | false =>
          rw [hbt] at hl hlr
          refine .inr ?_
          show (tr.led && t.led) = true
          rw [hl.resolve_left Bool.false_ne_true, hlr.resolve_left Bool.false_ne_true]
          rfl
    · refine wp_if_neg hm ?_
      exact wpAny_pure (q es s.heap (Heap.SameBut.refl ..) ⟨or_, er, pr, tr, hor, hxr, hdr, hgr, ndr, hmr, hbr, hfr, hnr, hrr, hlr⟩ hg hmem hn)
theorem baseOf_set {a : Addr} {Q : Value → Shared → Prop} (hT : s.TypeIs (.ref a) "set") (q : Q (.type "set") s) : wpAny (model P w) A (Builtin.Frozenset.baseOf a) Q E s := by
  unfold Builtin.Frozenset.baseOf
  exact wpAny_bind (wpAny_isInstance hT sub_set_self (wpAny_pure q))
theorem anySet_set {a : Addr} {Q : Bool → Shared → Prop} (hT : s.TypeIs (.ref a) "set") (q : Q true s) : wpAny (model P w) A (Builtin.Frozenset.isAnySet (.ref a)) Q E s := by
  unfold Builtin.Frozenset.isAnySet
  exact wpAny_bind (wpAny_isInstance hT sub_set_self (wpAny_pure q))
theorem sizeOf_set {a : Addr} {S : Int → Bool} {n : Nat} {Q : Nat → Shared → Prop} (hS : SetR w s.heap a S n) (q : Q n s) : wpAny (model P w) A (Builtin.Frozenset.sizeOf a) Q E s := by
  obtain ⟨o, es, ep, t, ho, hex, hd, hg, nd, hmem, hbd, hf, hn, _⟩ := hS
  unfold Builtin.Frozenset.sizeOf
  exact wpAny_bind (wpAny_setEntries_of ho hd hf (wpAny_pure (by rw [hn]; exact q)))
theorem setR_typ {a : Addr} {S : Int → Bool} {n : Nat} (hS : SetR w s.heap a S n) : s.TypeIs (.ref a) "set" := by
  obtain ⟨o, es, ep, t, ho, hex, _⟩ := hS
  exact ⟨o, ho, hex.1⟩
theorem newSet_set {Q : Value → Shared → Prop} (q : ∀ h', s.heap.objs.size < h'.objs.size → (∀ x o, s.heap.get? x = some o → h'.get? x = some o) → SetR w h' s.heap.objs.size (fun _ => false) 0 → Q (.ref s.heap.objs.size) { s with heap := h' }) :
    wpAny (model P w) A (newSet (.type "set")) Q E s := by
  unfold newSet
  refine wpAny_bind (wpAny_byText ?_)
  refine wpAny_newObj_type ?_
  exact q _ (by rw [Heap.size_push]; exact Nat.lt_succ_self _) (fun x o e => Heap.get?_push_of_some _ e) (setR_fresh w)
theorem cap_sets {a b : Addr} {S Sb : Int → Bool} {n nb : Nat} {Q : Value → Shared → Prop} {id : String} (hne : b ≠ a) (ha : SetR w s.heap a S n) (hb : SetR w s.heap b Sb nb) (hn : n ≤ 1000) (hnb : nb ≤ 1000)
    (q : ∀ h' c, (∀ x o, s.heap.get? x = some o → h'.get? x = some o) → SetR w h' s.heap.objs.size (fun k => S k && Sb k) c → Q (.ref s.heap.objs.size) { s with heap := h' }) :
    wpAny (model P w) A (Builtin.Frozenset.intersection id a (.ref b)) Q E s := by
  have hla : a < s.heap.objs.size := ha.lt
  have hlb : b < s.heap.objs.size := hb.lt
  unfold Builtin.Frozenset.intersection
  refine wp_if_neg (fun z => hne (by have := eq_of_beq z; injection this)) ?_
  try refine wpAny_bind (wpAny_pure ?_)
  refine wpAny_bind (baseOf_set (setR_typ ha) (wpAny_bind (newSet_set fun h1 hz k1 R1 => ?_)))
  refine wpAny_bind (m := Builtin.Frozenset.addrOf _) (wpAny_pure ?_)
  have ha1 : SetR w h1 a S n := ha.at (k1 a)
  have hb1 : SetR w h1 b Sb nb := hb.at (k1 b)
  refine wpAny_bind (wpAny_holding (wpAny_bind (anySet_set (s := { s with heap := h1 }) (setR_typ (s := { s with heap := h1 }) hb1) ?_)))
  refine wp_if_pos rfl ?_
  refine wpAny_bind (m := Builtin.Frozenset.addrOf _) (wpAny_pure ?_)
  refine wpAny_bind (sizeOf_set (s := { s with heap := h1 }) hb1 (wpAny_bind (sizeOf_set (s := { s with heap := h1 }) ha1 ?_)))
  have key : ∀ (asked wk : Addr) (Sa Sw : Int → Bool) (na nw : Nat), asked ≠ s.heap.objs.size → wk ≠ s.heap.objs.size → SetR w h1 asked Sa na → SetR w h1 wk Sw nw → nw ≤ 1000 → (∀ k, (Sw k && Sa k) = (S k && Sb k)) →
      wpAny (model P w) A (do
        let was ← setEpoch wk
        for (h, x) in ← setWalkUnseen wk [asked, s.heap.objs.size] (some s.heap.objs.size) do
          holding [x] do
            if (← setFind asked x h).isSome then
              let _ ← setAddHashed s.heap.objs.size x h
          Builtin.Frozenset.unchanged id wk was) (fun _ s' => wpAny (model P w) A (pure (Value.ref s.heap.objs.size)) Q E s') E { s with heap := h1 } := by
    intro asked wk Sa Sw na nw hra hrw Ra Rw hnw hk
    have Rw' := Rw
    obtain ⟨o, es, ep, t, ho, hex, hd, hg, nd, hmem, hbd, hf, hnn, _⟩ := Rw'
    refine wpAny_bind (wpAny_setEpoch_of (s := { s with heap := h1 }) ho hd hf ?_)
    refine wpAny_bind (walkUnseen (s := { s with heap := h1 }) Rw Ra R1 fun xs h2 sb R2 hgx hmx hsz => ?_)
    refine wpAny_bind ?_
    refine wpAny_forIn_array' _ (fun rest _ s' => ∃ (h' : Heap) (c : Nat) (done : List Int), s' = { s with heap := h' } ∧ Heap.SameBut s.heap.objs.size h1 h' ∧ SetR w h' s.heap.objs.size (fun j => decide (j ∈ done) && Sa j) c ∧ c ≤ done.length ∧ done.length + rest.length = nw ∧
      (∀ e ∈ rest, GoodE e) ∧ ∀ k, Sw k = true ↔ k ∈ done ∨ k ∈ rest.map keyOf) _ ?_ ?_ _ _ ⟨h2, 0, [], rfl, sb, R2, Nat.le_refl _, by rw [List.length_nil, Nat.zero_add, Array.length_toList]; exact hsz, hgx, fun k => by rw [hmx k]; simp⟩
    · rintro ⟨e1, e2⟩ rest u s' ⟨h', c, done, rfl, sb', R', hc, hcount, hgr, hmr⟩
      obtain ⟨k, tk, z1, z2⟩ := hgr (e1, e2) (by simp)
      replace z1 : e2 = Value.int k tk := z1
      replace z2 : e1 = hashInt k := z2
      subst z1 z2
      have eRa : SetR w h' asked Sa na := Ra.at fun o e => (sb'.2 asked hra).trans e
      have hgr' : ∀ e ∈ rest, GoodE e := fun e he => hgr e (by simp [he])
      have hlen : (done ++ [k]).length + rest.length = nw := by
        simp only [List.length_append, List.length_cons, List.length_nil] at hcount ⊢
        omega
      have hmr' : ∀ j, Sw j = true ↔ j ∈ done ++ [k] ∨ j ∈ rest.map keyOf := fun j => by
        rw [hmr j]
        show (j ∈ done ∨ j ∈ k :: rest.map keyOf) ↔ _
        simp only [List.mem_cons, List.mem_append, List.not_mem_nil, or_false, or_assoc]
      have done_ : ∀ (h3 : Heap) (c3 : Nat), Heap.SameBut s.heap.objs.size h1 h3 → SetR w h3 s.heap.objs.size (fun j => decide (j ∈ done ++ [k]) && Sa j) c3 → c3 ≤ (done ++ [k]).length →
          wpAny (model P w) A (Builtin.Frozenset.unchanged id wk ep) (fun _ s'' => ∃ (h' : Heap) (c : Nat) (done : List Int), s'' = { s with heap := h' } ∧ Heap.SameBut s.heap.objs.size h1 h' ∧ SetR w h' s.heap.objs.size (fun j => decide (j ∈ done) && Sa j) c ∧ c ≤ done.length ∧ done.length + rest.length = nw ∧
      (∀ e ∈ rest, GoodE e) ∧ ∀ k, Sw k = true ↔ k ∈ done ∨ k ∈ rest.map keyOf) E { s with heap := h3 } := fun h3 c3 sb3 R3 hc3 => by
        unfold Builtin.Frozenset.unchanged
        have ho3 : h3.get? wk = some o := (sb3.2 wk hrw).trans ho
        refine wpAny_bind (wpAny_setEpoch_of (s := { s with heap := h3 }) ho3 hd hf ?_)
        refine wp_if_neg (by simp) ?_
        exact wpAny_pure ⟨h3, c3, _, rfl, sb3, R3, hc3, hlen, hgr', hmr'⟩
      refine wpAny_bind (wpAny_holding (wpAny_bind (wpAny_setFind_of (knd := intKind P w) (s := { s with heap := h' }) (intKind_is P w k tk) rfl eRa.setOf fun rr hrr => ?_)))
      cases hk : Sa k with
      | true =>
        rw [hk] at hrr
        refine wp_if_pos hrr ?_
        refine wpAny_bind (setR_add_hashed (s := { s with heap := h' }) (k := k) (tk := tk) R' (by unfold scanBound; omega) fun h3 sb3 R3 => wpAny_pure ?_)
        refine wpAny_bind ?_
        refine wpAny_mono (done_ h3 _ (sb'.trans sb3) (R3.congr fun j => ?_) ?_) (fun _ s'' z => ?_) fun _ _ z => z
        · by_cases hj : j = k
          · subst hj; simp [hk]
          · simp [hj]
        · rw [List.length_append]
          split <;> simp <;> omega
        · exact wpAny_pure z
      | false =>
        rw [hk] at hrr
        refine wp_if_neg (by rw [hrr]; exact Bool.false_ne_true) ?_
        refine wpAny_pure ?_
        refine wpAny_bind ?_
        refine wpAny_mono (done_ h' c sb' (R'.congr fun j => ?_) ?_) (fun _ s'' z => ?_) fun _ _ z => z
        · by_cases hj : j = k
          · subst hj; simp [hk]
          · simp [hj]
        · rw [List.length_append]; omega
        · exact wpAny_pure z
    · rintro u s' ⟨h', c, done, rfl, sb', R', hc, hcount, _, hmr⟩
      refine wpAny_pure (wpAny_pure (q h' c (fun x o e => ?_) (R'.congr fun j => ?_)))
      · have hx : x < s.heap.objs.size := Heap.lt_size e
        exact (sb'.2 x (Nat.ne_of_lt hx)).trans (k1 x o e)
      · rw [← hk j]
        have z := hmr j
        simp only [List.map_nil, List.not_mem_nil, or_false] at z
        cases hsw : Sw j with
        | true => simp [z.1 hsw]
        | false =>
          have nz : j ∉ done := fun y => by
            have := z.2 y
            rw [hsw] at this; cases this
          simp [nz]
  by_cases hgt : nb > n
  · have q1 := key b a Sb S nb n (Nat.ne_of_lt hlb) (Nat.ne_of_lt hla) hb1 ha1 hn (fun k => rfl)
    rw [if_pos hgt]
    exact q1
  · have q1 := key a b S Sb n nb (Nat.ne_of_lt hla) (Nat.ne_of_lt hlb) ha1 hb1 hnb (fun k => Bool.and_comm ..)
    rw [if_neg hgt]
    exact q1
theorem entry_cap : entryFor table "set.__and__" = some Builtin.«frozenset.__and__» :=
  entryFor_alias (id' := "frozenset.__and__") (by kernel_rfl) (by first | rfl | decide +kernel | (unfold String.splitOn; simp +decide [String.splitOnAux])) (by decide +kernel) (by kernel_rfl)
theorem cap_op {a b : Addr} {S Sb : Int → Bool} {n nb : Nat} {Q : Value → Shared → Prop} (hne : b ≠ a) (ha : SetR w s.heap a S n) (hb : SetR w s.heap b Sb nb) (hn : n ≤ 1000) (hnb : nb ≤ 1000)
    (q : ∀ h' c, (∀ x o, s.heap.get? x = some o → h'.get? x = some o) → SetR w h' s.heap.objs.size (fun k => S k && Sb k) c → Q (.ref s.heap.objs.size) { s with heap := h' }) :
    wpAny (model P w) A (binaryOp .BitAnd (.ref a) (.ref b)) Q E s := by
  refine wpAny_binaryOp_same (op := .BitAnd) (T := "set") (setR_typ ha) (setR_typ hb) PySem.F.fills_set_and PySem.F.slot_set_and ?_
  refine wpAny_call_entry PySem.F.slot_set_and (setR_typ ha) entry_cap ?_ (PySem.F.args_set_and_2 _ _)
  unfold Builtin.«frozenset.__and__»
  show wpAny _ _ (Builtin.Frozenset.slot1 "__and__" ⟨[.ref a, .ref b], []⟩ >>= _) _ _ s
  refine wpAny_bind (wpAny_of_eq (a := (Value.ref a, Value.ref b)) rfl ?_)
  refine wpAny_bind ?_
  refine wpAny_bind (anySet_set (setR_typ ha) ?_)
  refine anySet_set (setR_typ hb) ?_
  refine wp_if_neg (by decide) ?_
  refine wpAny_bind (m := Builtin.Frozenset.addrOf _) (wpAny_of_eq (a := a) rfl ?_)
  refine wpAny_bind (cap_sets hne ha hb hn hnb fun h' c k R => wpAny_pure ⟨_, rfl, (fun z => by cases z), q h' c k R⟩)
end
section
variable {X : Cx} {E : L2.St → XK} {a b : Expr} {g h : GE} {p p2 p3 p4 p5 pos tpos : Pos}
@[simp] def tupInts : A → Option (List Int)
  | .d (.tuple ds) => (intsOf ds).bind fun ns => if ns.length ≤ 1000 then some ns else none
  | _ => none
theorem tupInts_at {K : PySem.W.Frag} {L ρ : List Addr} {H : Hp} {v : V} {a : A} {ns : List Int} (r : RpA K L ρ H v a) (e : tupInts a = some ns) : ∃ l, v = .ref l ∧ SqT K H l (ns.map V.int) ∧ ns.length ≤ 1000 := by
  cases a with
  | box _ => cases e
  | scr _ => cases e
  | d x =>
    cases x with
    | tuple ds =>
      obtain ⟨t, xs, rfl, hT, hA⟩ := tup_at r
      cases q : intsOf ds with
      | none => rw [tupInts, q] at e; cases e
      | some ms =>
        rw [tupInts, q, Option.bind_some] at e
        by_cases hz : ms.length ≤ 1000
        · rw [if_pos hz] at e
          cases e
          exact ⟨t, rfl, by rw [← hA.ints q]; exact hT, hz⟩
        · rw [if_neg hz] at e; cases e
    | _ => cases e
@[simp] def gLenCap (g h : GE) : GE := fun env st => (g env st).bind fun a st1 => match tupInts a with
  | some ns => (h env st1).bind fun b st2 => match tupInts b with
    | some ms => .ok (.d (.int ((ns.eraseDups.filter fun n => decide (n ∈ ms)).length : Nat))) st2
    | none => .bad
  | none => .bad
def tLenCap (K : PySem.W.Frag) (ta tb : TE) : TE := fun σ H Q => ta σ H fun x H1 => ∃ (l : Addr) (ns : List Int), x = .ref l ∧ SqT K H1 l (ns.map V.int) ∧ ns.length ≤ 1000 ∧
  tb σ H1 fun y H2 => ∃ (m : Addr) (ms : List Int), y = .ref m ∧ SqT K H2 m (ms.map V.int) ∧ ms.length ≤ 1000 ∧ Q (.int ((ns.eraseDups.filter fun n => decide (n ∈ ms)).length : Nat)) H2
theorem SetR.le {w : World} {h : Heap} {a : Addr} {ns : List Int} {c : Nat} (R : SetR w h a (fun j => decide (j ∈ ns)) c) : c ≤ ns.length := by
  obtain ⟨o, es, ep, t, ho, hex, hd, _, nd, hmem, hb, hf, hn, _⟩ := R
  rw [← hn, ← Array.length_toList, ← List.length_map (f := keyOf)]
  exact nd.length_le_of_subset fun k hk => by simpa using (hmem k).2 hk
theorem pe_lenCap {ta tb : TE} (hc : X.calm = true) (hg : Gl X "len") (hm : X.mg "len" = none) (hg2 : Gl X "set") (hm2 : X.mg "set" = none) (ha : PE X a ta) (hb : PE X b tb)
    (na : starEach [a] X.env = (false, eval a X.env) :: starEach [] X.env := by rfl) (nb : starEach [b] X.env = (false, eval b X.env) :: starEach [] X.env := by rfl) :
    PE X (.Call (.Name "len" p) [.BinOp (.Call (.Name "set" p2) [a] [] pos) .BitAnd (.Call (.Name "set" p4) [b] [] p5) tpos] [] p3) (tLenCap X.K ta tb) := by
  constructor
  intro pins s σ H Q I z
  refine Call_ (ld_blt I hg hm boot_len (callWith_builtin1 (args_cons ?_ rfl) rfl rfl))
  refine wpAny_BinOp ?_
  refine Call_ (ld_blt I hg2 hm2 boot_set (callWith_type1 (args_cons (thn (ha.run pins s σ H _ I z) fun v s1 y => args_nil ?_) na) na rfl))
  obtain ⟨x, H1, I1, r1, l, ns, rfl, hT, hlen, y⟩ := y
  cases r1
  obtain ⟨its, r, pT, hz⟩ := I1.tuple hT
  refine call_set_tupI ns (I1.ok.hd hc) (items := its.toArray) pT (by simpa using ints_of_vals r) (by unfold scanBound; omega) fun h2 tk c hS hcn hk => ?_
  have R1 := hS
  obtain ⟨o1, e1, p1, t1, ho1, hx1, hd1, _⟩ := R1
  have I2 : Inv X ((s1.heap.objs.size, o1) :: pins) σ H1 { s1 with heap := h2, toks := tk } := by
    refine (I1.kept (t' := tk) hk).pins_of fun q hq => ?_
    rcases List.mem_cons.mp hq with e | e
    · subst e
      exact ⟨ho1, I1.hok.fresh (Nat.le_refl _), fun e => absurd I1.lt (by rw [← e]; exact Nat.lt_irrefl _), I1.nofs (Nat.le_refl _), fun v e => by rw [hd1] at e; cases e⟩
    · exact (I1.kept (t' := tk) hk).pin q (List.mem_append_right _ e)
  refine Call_ (ld_blt I2 hg2 hm2 boot_set (callWith_type1 (args_cons (thn (hb.run _ _ σ H1 _ I2 y) fun v s3 y => args_nil ?_) nb) nb rfl))
  obtain ⟨x, H3, I3, r3, m, ms, rfl, hT3, hlen3, y⟩ := y
  cases r3
  obtain ⟨its3, r3, pT3, hz3⟩ := I3.tuple hT3
  refine call_set_tupI ms (I3.ok.hd hc) (items := its3.toArray) pT3 (by simpa using ints_of_vals r3) (by unfold scanBound; omega) fun h4 tk4 c4 hS4 hcn4 hk4 => ?_
  have pin3 : s3.heap.get? s1.heap.objs.size = some o1 := (I3.pin (s1.heap.objs.size, o1) (List.mem_append_right _ List.mem_cons_self)).1
  have S1 : SetR X.w h4 s1.heap.objs.size (fun j => decide (j ∈ ns)) c := hS.at fun o e => by
    rw [ho1] at e
    cases e
    exact hk4 _ _ pin3
  have hne : s3.heap.objs.size ≠ s1.heap.objs.size := Nat.ne_of_gt (Heap.lt_size pin3)
  refine cap_op (s := { s3 with heap := h4, toks := tk4 }) hne S1 hS4 (Nat.le_trans (SetR.le S1) hlen) (Nat.le_trans (SetR.le hS4) hlen3) fun h5 c5 hk5 R5 => args_nil ?_
  obtain ⟨o, es, ep, t, ho, hex, hd, _, nd, hmem, hbd, hf, hn, _⟩ := R5
  have e : es.size = (ns.eraseDups.filter fun n => decide (n ∈ ms)).length := by
    rw [← caps_len nd fun k => (hmem k).symm.trans (by simp), List.length_map, Array.length_toList]
  have I5 : Inv X pins σ H3 { s3 with heap := h5, toks := tk4 } := (I3.kept (t' := tk4) fun b u e => hk5 b u (hk4 b u e)).pins_of fun q hq => (I3.kept (t' := tk4) fun b u e => hk5 b u (hk4 b u e)).pin q (List.mem_append_right _ (List.mem_cons_of_mem _ hq))
  exact call_len_set ho hex hd hf (by unfold scanBound at hbd; omega) ⟨.int (es.size : Nat), H3, I5.tok _, ⟨_, rfl⟩, by rw [e]; exact y⟩
theorem le_lenCap (hc : X.calm = true) (hm : X.mg "len" = none) (hm2 : X.mg "set" = none) (ha : LE X E a g) (hb : LE X E b h) (hg : Gl X "len" := by rfl) (hg2 : Gl X "set" := by rfl)
    (na : starEach [a] X.env = (false, eval a X.env) :: starEach [] X.env := by rfl) (nb : starEach [b] X.env = (false, eval b X.env) :: starEach [] X.env := by rfl) :
    LE X E (.Call (.Name "len" p) [.BinOp (.Call (.Name "set" p2) [a] [] pos) .BitAnd (.Call (.Name "set" p4) [b] [] p5) tpos] [] p3) (gLenCap g h) := by
  refine (pe_lenCap hc hg hm hg2 hm2 ha hb na nb).imp fun σ H Q z => ?_
  obtain ⟨L, ρ, st, env, S, V, z⟩ := z
  refine ⟨L, ρ, st, env, S, V, Out.bind S z fun a st1 L1 ρ1 H1 x s1 S1 r1 z1 => ?_⟩
  cases e : tupInts a with
  | none => rw [e] at z1; exact z1.elim
  | some ns =>
    rw [e] at z1
    obtain ⟨l, rfl, hT, hz⟩ := tupInts_at r1 e
    refine ⟨l, ns, rfl, hT, hz, L1, ρ1, st1, env, S1, V.step S s1, Out.bind S1 z1 fun b st2 L2' ρ2 H2 y s2 S2 r2 z2 => ?_⟩
    cases e2 : tupInts b with
    | none => rw [e2] at z2; exact z2.elim
    | some ms =>
      rw [e2] at z2
      obtain ⟨m, rfl, hT2, hz2⟩ := tupInts_at r2 e2
      exact ⟨m, ms, rfl, hT2, hz2, z2 L2' ρ2 H2 _ .refl S2 (.d (.int _))⟩
end
end LF
set_option Elab.async false
set_option linter.all false
set_option maxRecDepth 100000
set_option maxHeartbeats 2000000
namespace LF
open PySem PySem.Spec PyProof.Rows L2

structure GlobC (K : PySem.W.Frag) (mg : Str → Option Value) (x : Str) (d : PyData) : Prop where
  ex : ∃ (v : V) (u : Value), mg x = some u ∧ RelV v u ∧ ∀ L H, Rp K L H v d
theorem le_globC {X : Cx} {E : L2.St → XK} {x : Str} {pos : Pos} {d : PyData} (h : GlobC X.K X.mg x d) (hg : Gl X x := by rfl) (hd : (x == ("__debug__" : Str)) = false := by decide) : LE X E (.Name x pos) (gC d) := by
  obtain ⟨v, u, m, r, q⟩ := h.ex
  exact le_glob hg m r q hd
/-- a tuple of texts or ints that the top has written -/
theorem GlobC.tup {K : PySem.W.Frag} {mg : Str → Option Value} {x : Str} {a : Addr} {o : Obj} {its : Array Value} {n : Nat} {xs : List V} {ds : List PyData} (m : mg x = some (.ref a)) (h : K.lookup a = some o) (hc : o.cls = .type "tuple") (hd : o.data = .seq its n) (hz : its.size ≤ sizeLine) (hv : Vals xs its.toList)
    (hr : ∀ L H, RpAll K L H xs ds) : GlobC K mg x (.tuple ds) := ⟨.ref a, .ref a, m, rfl, fun L H => .tup (.inr ⟨o, its, n, h, hc, hd, hz, hv⟩) (hr L H)⟩
theorem GlobC.scalar {K : PySem.W.Frag} {mg : Str → Option Value} {x : Str} {i : Int} {t : Tok} (m : mg x = some (.int i t)) : GlobC K mg x (.int i) := ⟨.int i, .int i t, m, ⟨t, rfl⟩, fun _ _ => .int i⟩

/-! ### try, an error by its name -/
structure ExcN (K : PySem.W.Frag) (mg : Str → Option Value) (x : Str) : Prop where
  ex : ∃ C, mg x = some (.ref C) ∧ PySem.W.exmOne K (.ref C) (.ref C) = some true
section
variable {X : Cx} {c : Str} {e : Expr} {g : GE} {b₀ : Stmt} {suite : List Stmt} {gs : GS} {np pos pos' epos : Pos}
theorem ls_tryN (hs : X.stack = X.env :: X.outer) (hf : X.env.frame = some X.env.locals) (hN : ExcN X.K X.mg c)
    (hb : ∀ (W : WX) (pn : List (Addr × Obj)) (xe : Value → Shared → Prop), Takes (X.tr pn xe) W → PassesOwn (model X.prog X.w) X.A X.env xe → LE (X.tr pn xe) (WE W) e g)
    (hsu : ∀ (a : Addr) (pn : List (Addr × Obj)), LSs (X.suite a pn) E0 (b₀ :: suite) gs) (hg : Gl X c := by rfl) (hdb : (c == ("__debug__" : Str)) = false := by decide) (hsw : ∀ pn xe, swapsWith e none epos.line (X.tr pn xe).env = pure false := by intros; rfl) :
    LS X E0 (.Try [.Expr e epos] [.ExceptHandler (some (.Name c np)) none (b₀ :: suite) pos'] [] [] pos) (sTryE c g gs) := by
  obtain ⟨C, m, x⟩ := hN.ex
  exact ls_tryE hs hf ⟨hg, hdb, .inl m⟩ m x hb hsu hsw
end
end LF
set_option Elab.async false
set_option linter.all false
set_option maxRecDepth 100000
set_option maxHeartbeats 4000000
namespace LF
open PySem PySem.Spec PyProof.Rows L2 PySem.W PySem.Calls

/-! ### isinstance of a caught error that has fields -/
section
variable {P : Program} {w : World} {A : Around} {E : Value → Shared → Prop} {s : Shared} {K : PySem.W.Frag} {e D : Addr} {oe : Obj} {od : Option Obj}
theorem excD_cls {Q : Option Value → Shared → Prop} (Z : ExcC K D) (X : K.In s.heap) (I : InstAt s.heap e oe D od) (q : Q (some (.ref D)) { s with toks := s.toks + 1 }) : wpAny (model P w) A (getAttr? (.ref e) "__class__") Q E s := by
  have found : findObj K D od "__class__" = some (.bind (.builtin "getset_descriptor.__get__") (.builtin "object.__class__")) := by
    obtain ⟨cd, hcd, _⟩ := any_some Z.hd
    unfold findObj
    rw [hcd, Option.bind_some, Z.ha, Option.bind_some]
    simp [Z.hn, Z.ht]
  obtain ⟨hp, g, dr, tk, os⟩ := s
  have ty := I.type (M := model P w)
  have k1 := looks_findIn (M := model P w) X Z.hg
  have k2 := looks_findIn (M := model P w) X Z.hk
  have k3 := looks_find (M := model P w) X I found
  have ne1 : (Value.builtin "BaseException.__getattribute__" == Value.builtin "object.__getattribute__") = false := by decide +kernel
  have ne2 : (onTheHeap (Value.ref D) && Value.builtin "BaseException.__getattribute__" == Value.builtin "object.__getattribute__") = false := by rw [ne1] <;> rfl
  unfold getAttr? getAttrBy? getAttrBy
  refine wpAny_bind (wpAny_mkText (wpAny_bind (wpAny_attempt (wpAny_holding (wpAny_bind (ty.at (wpAny_bind (k1.at ?_))))))))
  refine L2.wp_if_neg (show ¬ ((onTheHeap (Value.ref D) && Value.builtin "BaseException.__getattribute__" == Value.builtin "object.__getattribute__") = true) from by rw [ne2]; exact Bool.false_ne_true) ?_
  unfold getAttrByItsOwn hookBefore
  refine wpAny_bind (L2.wp_if_pos (show onTheHeap (Value.ref D) = true from rfl) (k2.at (wpAny_bind (wpAny_attempt (wpAny_holding ?_)))))
  unfold callGetattribute
  refine L2.wp_if_neg (show ¬ ((false && onTheHeap (Value.builtin "BaseException.__getattribute__")) = true) from Bool.false_ne_true) ?_
  unfold boundAndCalled
  rw [PySem.F.excAttr_ValueError.ga.bind (.ref e)]
  refine wpAny_bind (wpAny_pure (wpAny_call (codeAny_call_builtin PySem.F.excAttr_ValueError.ga.plain PySem.F.entry_bexc_ga ?_)))
  have inst : Looks (model P w) hp (isInstance (.ref e) (.type "BaseException")) true := ty.andThen (looks_subIn X Z.hs)
  refine @check_slot (model P w) _ _ ⟨hp, g, dr, tk + 1, os⟩ "BaseException.__getattribute__" "BaseException" "__getattribute__" (.ref e) [.str "__class__" tk] [] _ (by decide +kernel) (by decide +kernel) inst (PySem.F.args_bexc_ga _ _) ?_
  unfold Builtin.«object.__getattribute__»
  refine wpAny_bind (wpAny_of_eq (a := ((Value.ref e : Value), [Value.str "__class__" tk])) (by first | rfl | (simp only [slotArgs]; rfl)) (wpAny_bind (wpAny_pure (wpAny_bind (ty.at (wpAny_bind (k3.at ?_)))))))
  show wpAny _ _ (holding [Value.builtin "object.__class__"] (call (.builtin "getset_descriptor.__get__") [.builtin "object.__class__", .ref e, .ref D]) >>= ret) _ _ _
  refine wpAny_bind (wpAny_holding (wpAny_call (class_get (s := ⟨hp, g, dr, tk + 1, os⟩) (ox := oe) (od := od) X I Z.hm (wpAny_pure ?_))))
  show wpAny _ _ (handedOut (.ref D)) _ _ _
  rw [handedOut_of (v := .ref D) rfl]
  first
    | exact wpAny_pure q
    | exact wpAny_pure (wpAny_pure q)
theorem kitx_excD (Z : ExcC K D) : KitX K (.ref e) (.ref D) (fun h => InstAt h e oe D od) where
  ty := fun _ _ _ I => I.type
  ca := fun X I k => excD_cls Z X I k
  it := fun M h X I => by
    obtain ⟨cd, hcd, _⟩ := any_some Z.hd
    unfold clsIn at hcd
    split at hcd
    · rename_i c1 d1 cd1 sl1 ho
      intro A' E' Q' s' k q
      unfold isType loadHead
      exact wpAny_bind (wpAny_loadPart (k _ _ (X _ _ ho)) (wpAny_pure q))
    · cases hcd
  ne := fun h tp dd its n sl X htp => by
    obtain ⟨cd, hcd, _⟩ := any_some Z.hd
    refine Bool.eq_false_iff.mpr fun z => ?_
    obtain rfl : D = tp := Value.ref.inj (beq_iff_eq.mp z)
    unfold clsIn at hcd
    split at hcd
    · rename_i c1 d1 cd1 sl1 ho
      rw [X _ _ ho] at htp
      cases htp
    · cases hcd
end
/-! ### the suite of an except clause that looks at the error only -/
/-- what the suite knows: slot i holds the error, dd is its dict -/
def Held (a dd : Addr) (i : Nat) (σ : L2.St) (H : Hp) : Prop := σ[i]? = some (some (.ref a)) ∧ ∃ fs, H dd = some (.xd fs)
def tKnown (a dd : Addr) (i : Nat) (b : Bool) : TT := fun σ H Q => Held a dd i σ H ∧ Q b H
def tTold (a dd : Addr) (i : Nat) (w f1 f2 : Str) : TS := fun D σ H => σ[i]? = some (some (.ref a)) ∧ ∃ fs v1 v2, H dd = some (.xd fs) ∧ fs.lookup f1 = some v1 ∧ fs.lookup f2 = some v2 ∧ ∀ p, H p = none → D.rt (.ref p) (upd H p (.tup [.str w, v1, v2]))
/-- the class of a name in isinstance -/
structure IsEx (K : PySem.W.Frag) (mg : Str → Option Value) (D : Addr) (x : Str) (b : Bool) : Prop where
  ex : ∃ (v : V) (cv : Value), (∀ u, RelV v u → u = cv) ∧ RelV v cv ∧ (mg x = some cv ∨ (mg x = none ∧ bootBuiltins x = some cv ∧ x ≠ "__name__")) ∧ kitOne K (.ref D) cv = some b
section
variable {X : Cx} {a D dd : Addr} {oe : Obj} {pn : List (Addr × Obj)} {i : Nat} {n : Str} {t e : Expr} {rest : List Stmt} {b : Bool} {p p2 p3 pos : Pos}
theorem pt_isEx {x : Str} (Z : ExcC X.K D) (hz : Zc (.ref D) (some dd) oe) (hf : ∃ vs, oe.data = .fields vs) (C : IsEx X.K X.mg D x b) (hm : X.mg "isinstance" = none) (hi : X.N[i]? = some n) (hg : Gl X "isinstance" := by rfl) (hgx : Gl X x := by rfl) (hdx : (x == ("__debug__" : Str)) = false := by decide)
    (hv : Vis X.env.scope n := by first | exact Or.inl rfl | exact Or.inr (Or.inl rfl) | exact Or.inr (Or.inr rfl)) (hd : (n == ("__debug__" : Str)) = false := by decide) (hcd : (n == ("__classdict__" : Str)) = false := by decide)
    (hs : starEach [.Name n p2, .Name x p3] X.env = (false, eval (.Name n p2) X.env) :: starEach [.Name x p3] X.env := by rfl) (hs2 : starEach [.Name x p3] X.env = (false, eval (.Name x p3) X.env) :: starEach [] X.env := by rfl) (hp : (backTo pos (starEach [.Name x p3] X.env)).any (·.1) = false := by rfl)
    (hpl : ∀ whole, isTrue (.Call (.Name "isinstance" p) [.Name n p2, .Name x p3] [] pos) X.env whole = (do let v ← whole; standAt (Expr.Call (.Name "isinstance" p) [.Name n p2, .Name x p3] [] pos).pos; holding [v] (truthy v)) := by intro _; rfl) :
    PT (X.suite a ((a, oe) :: pn)) (.Call (.Name "isinstance" p) [.Name n p2, .Name x p3] [] pos) (tKnown a dd i b) := by
  obtain ⟨v, cv, hvc, rvc, hname, hk⟩ := C.ex
  have hx : PE (X.suite a ((a, oe) :: pn)) (.Name x p3) (tC v) := by
    rcases hname with h | ⟨h, h2, h3⟩
    · exact pe_glob hgx h rvc hdx
    · exact pe_bltn hgx h h2 rvc h3 hdx
  have hc : CallR (X.suite a ((a, oe) :: pn)) (.builtin "isinstance") (fun xs H Q => xs = [.ref a, v] ∧ (∃ fs, H dd = some (.xd fs)) ∧ Q (.bl b) H) := by
    intro pins s σ H xs us Q I r h
    obtain ⟨rfl, ⟨fs, hfs⟩, q⟩ := h
    cases r with
    | cons rx rr =>
      cases rr with
      | cons rt rr =>
        cases rr
        cases rx
        obtain rfl := hvc _ rt
        obtain ⟨get, _⟩ := I.pin (a, oe) (List.mem_append_left _ List.mem_cons_self)
        obtain ⟨vs, hvs⟩ := hf
        have hx : ObjOk X.prog X.w H s.heap dd (.xd fs) := I.hok dd _ hfs
        obtain ⟨mA, hns, hr⟩ := hx
        obtain ⟨od, ho, hl⟩ := lookIn_ns hns
        have J : PySem.W.InstAt s.heap a oe D (some od) := ⟨get, hz.1, by unfold PySem.W.notCls; rw [hvs] <;> rfl, by rw [hz.2]; exact ho⟩
        exact PySem.W.kia_one (kitx_excD Z) I.kIn J hk (fun z => nomatch z) fun tk => ⟨.bl b, H, I.kept (t' := tk) fun _ _ z => z, rfl, q⟩
  refine (pt_val (pe_callB hc hg hm (by decide +kernel) (pa_cons (pe_var hi hv hd hcd) (pa_cons hx pa_nil hs2) hs) (by decide) (by decide) hs hp) hpl).imp fun σ H Q h => ?_
  obtain ⟨⟨h1, h2⟩, q⟩ := h
  exact ⟨.ref a, h1, rfl, h2, b, rfl, q⟩
theorem pt_kNot (h : PT (X.suite a ((a, oe) :: pn)) t (tKnown a dd i b)) : PT (X.suite a ((a, oe) :: pn)) (.UnaryOp .Not t pos) (tKnown a dd i (!b)) := (pt_not h).imp fun σ H Q z => z
theorem pw_kOr1 (h : PT (X.suite a ((a, oe) :: pn)) t (tKnown a dd i b)) : PW (X.suite a ((a, oe) :: pn)) (.BoolOp .Or [t] pos) (tKnown a dd i b) := pw_or1 h
theorem pw_kOr {t2 : Expr} {ts : List Expr} {b2 : Bool} (h : PT (X.suite a ((a, oe) :: pn)) t (tKnown a dd i false)) (h2 : PW (X.suite a ((a, oe) :: pn)) (.BoolOp .Or (t2 :: ts) pos) (tKnown a dd i b2)) :
    PW (X.suite a ((a, oe) :: pn)) (.BoolOp .Or (t :: t2 :: ts) pos) (tKnown a dd i b2) := (pw_or h h2).imp fun σ H Q z => ⟨z.1, z⟩
theorem pss_kIf {body : List Stmt} {w f1 f2 : Str} (h : PT (X.suite a ((a, oe) :: pn)) t (tKnown a dd i false)) (h2 : PSs (X.suite a ((a, oe) :: pn)) rest (tTold a dd i w f1 f2)) : PSs (X.suite a ((a, oe) :: pn)) (.If t body [] pos :: rest) (tTold a dd i w f1 f2) := by
  have none : PSs (X.suite a ((a, oe) :: pn)) body (fun _ _ _ => False) := ⟨fun _ _ _ _ _ _ z => z.elim⟩
  refine (pss_cons (ps_if h none pss_nil) h2).imp fun D σ H z => ?_
  obtain ⟨h1, fs, v1, v2, h3, r⟩ := z
  exact ⟨⟨h1, fs, h3⟩, h1, fs, v1, v2, h3, r⟩
theorem pss_kRet {w f1 f2 : Str} {kk j : Nat} {q1 q2 q3 q4 q5 : Pos} (Z : XfC X.K D) (n1 : PySem.W.findIn X.K (.ref D) f1 = some none) (n2 : PySem.W.findIn X.K (.ref D) f2 = some none) (hz : Zc (.ref D) (some dd) oe) (hf : ∃ vs, oe.data = .fields vs) (hi : X.N[i]? = some n)
    (hv : Vis X.env.scope n := by first | exact Or.inl rfl | exact Or.inr (Or.inl rfl) | exact Or.inr (Or.inr rfl)) (hd : (n == ("__debug__" : Str)) = false := by decide) (hcd : (n == ("__classdict__" : Str)) = false := by decide)
    (b1 : attributeBase (.Name n p) f1 X.env (eval (.Name n p) X.env) = eval (.Name n p) X.env := by rfl) (b2 : attributeBase (.Name n p2) f2 X.env (eval (.Name n p2) X.env) = eval (.Name n p2) X.env := by rfl)
    (hs : starEach [.Constant (.str w) j q1, .Attribute (.Name n p) f1 q2, .Attribute (.Name n p2) f2 q3] X.env = (false, eval (.Constant (.str w) j q1) X.env) :: starEach [.Attribute (.Name n p) f1 q2, .Attribute (.Name n p2) f2 q3] X.env := by rfl)
    (hs2 : starEach [.Attribute (.Name n p) f1 q2, .Attribute (.Name n p2) f2 q3] X.env = (false, eval (.Attribute (.Name n p) f1 q2) X.env) :: starEach [.Attribute (.Name n p2) f2 q3] X.env := by rfl)
    (hs3 : starEach [.Attribute (.Name n p2) f2 q3] X.env = (false, eval (.Attribute (.Name n p2) f2 q3) X.env) :: starEach [] X.env := by rfl) :
    PSs (X.suite a ((a, oe) :: pn)) [.Return (some (.Tuple [.Constant (.str w) j q1, .Attribute (.Name n p) f1 q2, .Attribute (.Name n p2) f2 q3] kk q4)) q5] (tTold a dd i w f1 f2) := by
  have v1 : PE (X.suite a ((a, oe) :: pn)) (.Name n p) (tVar i) := pe_var hi hv hd hcd
  have v2 : PE (X.suite a ((a, oe) :: pn)) (.Name n p2) (tVar i) := pe_var hi hv hd hcd
  refine (pss_one (ps_ret (pe_tup (pa_cons pe_str (pa_cons (pe_xf Z n1 hz hf v1 b1) (pa_cons (pe_xf Z n2 hz hf v2 b2) pa_nil hs3) hs2) hs)))).imp fun D σ H z => ?_
  obtain ⟨h1, fs, x1, x2, h3, l1, l2, q⟩ := z
  exact ⟨.ref a, h1, rfl, rfl, dd, fs, x1, rfl, h3, l1, .ref a, h1, rfl, rfl, dd, fs, x2, rfl, h3, l2, (show 3 ≤ sizeLine by decide), q⟩
end
/-- a class whose errors are caught and looked at: two fields -/
structure ExcAs (K : PySem.W.Frag) (mg : Str → Option Value) (c f1 f2 : Str) (C : Addr) : Prop where
  m : mg c = some (.ref C)
  ex : PySem.W.exmOne K (.ref C) (.ref C) = some true
  is : ExcC K C
  xf : XfC K C
  n1 : PySem.W.findIn K (.ref C) f1 = some none
  n2 : PySem.W.findIn K (.ref C) f2 = some none
@[simp] def sTryA (c : Str) (i : Nat) (w f1 f2 : Str) (g : GE) : GS := fun env st => match g env st with
  | .ok a st1 => .rt a st1
  | .exc c' fs st1 => if c' = c then (match fs with
    | [(k2, x2), (k1, x1)] => if (k1 = f1 ∧ k2 = f2 ∧ f1 ≠ f2) ∧ i < env.length then .rt (.d (.tuple [.str w, x1, x2])) st1 else .bad
    | _ => .bad) else .bad
  | .bad => .bad
section
variable {X : Cx} {c w f1 f2 n : Str} {C : Addr} {e : Expr} {g : GE} {i : Nat} {b₀ : Stmt} {suite : List Stmt} {np pos pos' rpos : Pos}
theorem ls_tryA (hs : X.stack = X.env :: X.outer) (hf : X.env.frame = some X.env.locals) (hN : X.N.Nodup) (hi : X.N[i]? = some n) (hln : X.env.kindOf n = some .local) (Z : ExcAs X.K X.mg c f1 f2 C)
    (hb : ∀ (W : WX) (pn : List (Addr × Obj)) (xe : Value → Shared → Prop), Takes (X.tr pn xe) W → PassesOwn (model X.prog X.w) X.A X.env xe → LE (X.tr pn xe) (WE W) e g)
    (hsu : ∀ (a dd : Addr) (oe : Obj) (pn : List (Addr × Obj)), Zc (.ref C) (some dd) oe → (∃ vs, oe.data = .fields vs) → PSs (X.suite a ((a, oe) :: pn)) (b₀ :: suite) (tTold a dd i w f1 f2)) (hg : Gl X c := by rfl) (hdb : (c == ("__debug__" : Str)) = false := by decide) :
    LS X E0 (.Try [.Return (some e) rpos] [.ExceptHandler (some (.Name c np)) (some n) (b₀ :: suite) pos'] [] [] pos) (sTryA c i w f1 f2 g) := by
  refine (ps_try_as (c := .ref C) (ts := fun a cls d D σ H => cls = .ref C ∧ ∃ dd, d = some dd ∧ tTold a dd i w f1 f2 D σ H) (Wout := fun _ _ _ _ => False) (tb := fun W => tRet (lift X.K X.mg (WE W) g)) hs hf hN hi hln ⟨hg, hdb, .inl Z.m⟩ takes0 (fun W pn xe tk po => pss_one (ps_ret (hb W pn xe tk po))) (fun a oe cls d pn hz hv => ?_)).imp fun D σ H h => ?_
  · refine ⟨fun pins s σ H D I h => ?_⟩
    obtain ⟨rfl, dd, rfl, h⟩ := h
    exact (hsu a dd oe pn hz hv).run pins s σ H D I h
  obtain ⟨L, ρ, st, env, S, V, h⟩ := h
  unfold sTryA at h
  refine ⟨L, ρ, st, env, S, V, ?_⟩
  cases q : g env st with
  | bad => rw [q] at h; exact h.elim
  | ok a st1 =>
    rw [q] at h
    exact h
  | exc c' fs st1 =>
    rw [q] at h
    dsimp only at h
    by_cases hcc : c' = c
    · rw [if_pos hcc] at h
      subst hcc
      split at h
      · rename_i fs' k2 x2 k1 x1
        by_cases hk : (k1 = f1 ∧ k2 = f2 ∧ f1 ≠ f2) ∧ i < env.length
        · rw [if_pos hk] at h
          obtain ⟨⟨rfl, rfl, hne⟩, hi2⟩ := hk
          intro C' L1 ρ1 H1 d hC' s1 S1 xd
          rw [Z.m] at hC'
          cases hC'
          refine ⟨true, Z.ex, fun _ a ha => ⟨rfl, d, rfl, ?_⟩, fun z => nomatch z⟩
          obtain ⟨vs, hd, hks, hA⟩ := xd.ex
          match vs, hks, hA with
          | [(k2, v2), (k1, v1)], hks, .cons r2 (.cons r1 .nil) =>
            simp only [List.map_cons, List.map_nil, List.cons.injEq, and_true] at hks
            obtain ⟨rfl, rfl⟩ := hks
            rw [V.len] at hi2
            have hb : (k1 == k2) = false := beq_eq_false_iff_ne.mpr hne
            refine ⟨List.getElem?_set_self hi2, _, v1, v2, hd, ?_, ?_, fun p hp => ?_⟩
            · rw [List.lookup_cons, hb]
              show List.lookup k1 [(k1, v1)] = some v1
              rw [List.lookup_cons, beq_self_eq_true]
            · rw [List.lookup_cons, beq_self_eq_true]
            have sp := Stp.new (L := L1) (ρ := ρ1) (o := .tup [.str w, v1, v2]) hp
            exact h L1 ρ1 _ _ (s1.trans S S1 sp) (S1.new hp) (.d (.tup (SqT.of upd_same) (.cons (.str w) (.cons (r1.step S1 sp) (.cons (r2.step S1 sp) .nil)))))
        · rw [if_neg hk] at h; exact h.elim
      · exact h.elim
    · rw [if_neg hcc] at h; exact h.elim
end
end LF
set_option Elab.async false
set_option linter.all false
set_option maxRecDepth 100000
set_option maxHeartbeats 2000000
namespace LF
open PySem PySem.Spec PyProof.Rows L2

/-! ### defs that may ask for a text (repr): nobody is being written while they run -/
structure FnG (P : Program) (w : World) (K : PySem.W.Frag) (mg : Str → Option Value) (base : Heap) (CX : CXT) (k : Nat) (f : Addr) (fd : FuncData) (ps : List Str) (sp : Sp) : Prop where
  len : ∀ vs H Q E, sp vs H Q E → vs.length = ps.length
  run : ∀ (A : Around) (outer : List PySem.Env) (s : Shared) (H : Hp) (args : Args) (us : List Value) (vs : List V) (Q : VK) (E : XK), Room k A → A.guards = some [] → Env0 P w K mg base A outer s H → BindsTo s fd args (ps.zip us) → Vals vs us → sp vs H Q E →
    codeAny (model P w) A (.call (.ref f) args) (CR CX outer P w H s Q E) s
theorem FnG.mono {P : Program} {w : World} {K : PySem.W.Frag} {mg : Str → Option Value} {base : Heap} {CX : CXT} {j k : Nat} {f : Addr} {fd : FuncData} {ps : List Str} {sp : Sp} (F : FnG P w K mg base CX j f fd ps sp) (h : j ≤ k) : FnG P w K mg base CX k f fd ps sp :=
  ⟨F.len, fun A outer s H args us vs Q E hr => F.run A outer s H args us vs Q E (hr.mono h)⟩
section
variable {P : Program} {w : World} {K : PySem.W.Frag} {mg : Str → Option Value} {base : Heap} {CX : CXT}
theorem fnG_of {k : Nat} {f : Addr} {x qual : Str} {st : Stmt} {fd : FuncData} {N ps : List Str} {sp : Sp} (F : Fun K x qual st f fd) (S : FnScope N ps (defScope st)) (len : ∀ vs H Q E, sp vs H Q E → vs.length = ps.length)
    (hbody : ∀ (cdv : Value) (A : Around) (outer : List PySem.Env) (s : Shared) (H : Hp) (vs : List V) (Q : VK) (E : XK), Room k (A.deeper (envOfC qual (defScope st) s.heap.objs.size f cdv)) → A.guards = some [] → sp vs H Q E →
      ∃ t, PSs (cxOf CX P w K mg base N qual (defScope st) f cdv A outer s H E) (defBody st) t ∧ t { nx := fun _ H' => Q .non H', rt := Q } (start N vs) H) : FnG P w K mg base CX (k + 1) f fd ps sp := by
  obtain ⟨oc, od, kV, doc, pm, an, cdv, ct, osl, rfl, lk, hcd⟩ := F.ex
  refine ⟨len, fun A outer s H args us vs Q E room gd e0 bi rv ask => ?_⟩
  have keepK : K.In s.heap := e0.mod.kin.keeps fun b o e => (e0.bs b o e).1
  have noLim : s.heap.NoLimit := e0.mod.nolimit.keeps fun b o e => (e0.bs b o e).1
  obtain ⟨t, ht, hq⟩ := hbody cdv A outer s H vs Q E (room.deeper _) gd ask
  refine codeAny_call_function room.depth (keepK _ _ lk) rfl S.co S.gen rfl (PySem.W.codeRec_of keepK hcd) (bi _ _ _ _ ?_)
  refine wpAny_newFunctionEnv_cells S.kind (fun y hy => ?_) fun env he s1 z => ?_
  · obtain ⟨n, v⟩ := y
    cases S.par n (List.of_mem_zip hy).1 with
    | inl q => exact .inl q
    | inr q => exact .inr ⟨q, PySem.W.cellsFrom_some _ _ _ (.inl q)⟩
  · subst he
    refine ⟨noLim.keeps z.toInCall.keep, codeAny_func ?_⟩
    have I := inv_start (N := N) (CX := CX) (qual := qual) (E := E) S room.hd e0 (len _ _ _ _ ask) rv z
    refine wpAny_mono (ht.run [] s1 (start N vs) H _ I hq) (fun fl s' hs => ?_) fun e s' hs => hs
    cases fl with
    | next =>
      obtain ⟨σ', H', J, q⟩ := hs
      exact ⟨V.non, H', J.os, J.bare, J.base, J.hok, rfl, q⟩
    | ret u =>
      obtain ⟨v, σ', H', J, rv, q⟩ := hs
      exact ⟨v, H', J.os, J.bare, J.base, J.hok, rv, q⟩
    | brk => exact hs.elim fun _ z => z.elim fun _ z => z.2.elim
    | cont => exact hs.elim fun _ z => z.elim fun _ z => z.2.elim
end
section
variable {X : Cx} {E : L2.St → XK} {j k n : Nat} {x : Str} {p pos : Pos} {e : Expr} {es : List Expr} {ga : GA} {g : GE} {f : List A → Sto → R A} {fa : Addr} {fd : FuncData} {ps : List Str}
theorem pe_callG {sp : Sp} {Ec : XK} {CX : CXT} {t : TA} (F : FnG X.prog X.w X.K X.mg X.base CX k fa fd ps sp) (hr : Room k X.A) (gd : X.A.guards = some []) (hg : Gl X x) (hm : X.mg x = some (.ref fa)) (hk : PySem.W.keepIn X.K (.ref fa) = true) (hb : Binds X.K fd ps []) (hx : Passes CX X Ec)
    (ha : PA X (e :: es) t) (hdb : (x == ("__debug__" : Str)) = false := by decide) (he : starEach (e :: es) X.env = (false, eval e X.env) :: starEach es X.env := by rfl) (hpl : (backTo pos (starEach es X.env)).any (·.1) = false := by rfl) : PE X (.Call (.Name x p) (e :: es) [] pos) (tCall sp [] Ec t) := by
  constructor
  intro pins s σ H Q I h
  refine wpAny_Call_Name_kw (ld_glob I hg hm ?_ hdb)
  refine PySem.W.callWith_K (h₀ := X.base) I.ok.mod.kin hk (thn (ha.run pos pins s σ H _ I h) fun us s1 z => ?_) he hpl
  obtain ⟨vs, H1, I1, r, q⟩ := z
  have r2 : Vals (vs ++ []) (us ++ []) := r.append .nil
  have hl : (us ++ []).length = ps.length := by rw [← r2.length]; exact F.len _ _ _ _ q
  refine ⟨I1.kIn, wpAny_call (codeAny_mono (F.run X.A X.stack s1 H1 ⟨us, []⟩ (us ++ []) (vs ++ []) Q Ec hr gd I1.env0 (hb s1 us I1.kIn hl) r2 q) fun res s' hq => ?_)⟩
  cases res with
  | error y => exact hx pins σ H1 s1 y s' I1 hq
  | ok fl =>
    cases fl with
    | ret u => exact I1.after hq
    | next => exact hq.elim
    | brk => exact hq.elim
    | cont => exact hq.elim
structure CalG (P : Program) (w : World) (K : PySem.W.Frag) (mg : Str → Option Value) (base : Heap) (k : Nat) (x : Str) (n : Nat) (f : List A → Sto → R A) : Prop where
  ex : ∃ (fa : Addr) (fd : FuncData) (ps : List Str), FnG P w K mg base CX0 k fa fd ps (spL0 K mg n f) ∧ mg x = some (.ref fa) ∧ PySem.W.keepIn K (.ref fa) = true ∧ Binds K fd ps []
  nx : NoX f
theorem le_cG (C : CalG X.prog X.w X.K X.mg X.base j x n f) (hr : Room k X.A) (gd : X.A.guards = some []) (hl : GLen ga n) (ha : LA X E (e :: es) ga) (hjk : j ≤ k := by decide) (hg : Gl X x := by rfl) (hdb : (x == ("__debug__" : Str)) = false := by decide)
    (he : starEach (e :: es) X.env = (false, eval e X.env) :: starEach es X.env := by rfl) (hpl : (backTo pos (starEach es X.env)).any (·.1) = false := by rfl) : LE X E (.Call (.Name x p) (e :: es) [] pos) (gCall f ga) := by
  obtain ⟨fa, fd, ps, F, m, hk, hb⟩ := C.ex
  refine (pe_callG (F.mono hjk) hr gd hg m hk hb pass0 ha hdb he hpl).imp fun σ H Q h => ?_
  obtain ⟨L, ρ, st, env, S, V, h⟩ := h
  refine ⟨L, ρ, st, env, S, V, OutL.bindN S hl h fun as st1 L1 ρ1 H1 vs s1 S1 r1 hn h1 => ?_⟩
  rw [List.append_nil]
  exact ⟨L1, ρ1, st1, as, S1, r1, hn, C.nx.out _ _ _ _ _ _ h1⟩
end
section
variable {P : Program} {w : World} {K : PySem.W.Frag} {mg : Str → Option Value} {base : Heap}
theorem CalG.of {x qual : Str} {st : Stmt} {f : Addr} {fd : FuncData} {N ps : List Str} {k : Nat} {b : GS} (F : Fun K x qual st f fd) (m : mg x = some (.ref f)) (S : FnScope N ps (defScope st)) (n : Nat) (hn : n = ps.length)
    (bi : ∀ (kV doc pm : Value) (an : Option Addr) (cdv ct : Value) (us : List Value), us.length = ps.length → bindArgs (PySem.W.fnOf x qual (defArgs st) (defBody st) (defScope st) .none kV doc pm an cdv ct) ⟨us, []⟩ = pure (ps.zip us))
    (hb : ∀ (cdv : Value) (A : Around) (outer : List PySem.Env) (s : Shared) (H : Hp) (E : XK), Room k (A.deeper (envOfC qual (defScope st) s.heap.objs.size f cdv)) → A.guards = some [] →
      LSs (cxOf CX0 P w K mg base N qual (defScope st) f cdv A outer s H E).nox E0 (defBody st) b) : CalG P w K mg base (k + 1) x n (runN N.length b) := by
  refine ⟨⟨f, fd, ps, ?_, m, F.kp, F.binds bi⟩, runN_NoX⟩
  subst hn
  refine fnG_of F S (fun vs H Q E h => ?_) (fun cdv A outer s H vs Q E hr gd h => ⟨_, (hb cdv A outer s H E hr gd).nox, ?_⟩)
  · obtain ⟨L, ρ, st, as, _, r, e, _⟩ := h
    rw [r.length, e]
  · obtain ⟨L, ρ, st, as, S', r, e, h⟩ := h
    exact ⟨L, ρ, st, _, S', .start r, OutS.run (Out.cut S' (Out.noX h))⟩
end
/-! ### repr(x) -/
/-- what may be written out -/
def canShow (d : PyData) : Bool := d.showable && !d.hasDict && decide (d.depth ≤ 64) && decide (d.shown.length ≤ sizeLine)
@[simp] def pRepr : A → Option PyData
  | .d x => if canShow x = true then some (.str x.shown) else none
  | _ => none
@[simp] def gRepr (g : GE) : GE := fun env st => (g env st).bind fun a st1 => match pRepr a with
  | some d => .ok (.d d) st1
  | none => .bad
section
variable {X : Cx} {E : L2.St → XK} {g : GE} {e : Expr} {p pos : Pos}
theorem canShow_of {d : PyData} (h : canShow d = true) : d.showable = true ∧ d.hasDict = false ∧ d.depth ≤ 64 ∧ d.shown.length ≤ sizeLine := by
  unfold canShow at h
  rw [Bool.and_eq_true, Bool.and_eq_true, Bool.and_eq_true, decide_eq_true_eq, decide_eq_true_eq, Bool.not_eq_true'] at h
  exact ⟨h.1.1.1, h.1.1.2, h.1.2, h.2⟩
theorem call_repr {k : Nat} (hr : Room k X.A) (gd : X.A.guards = some []) : CallR X (.builtin "repr") (fun xs H Q => ∃ (v : V) (d : PyData), xs = [v] ∧ Dp X.K H v d ∧ canShow d = true ∧ Q (.str d.shown) H) := by
  intro pins s σ H xs us Q I r h
  obtain ⟨v, d, rfl, hv, hs, q⟩ := h
  obtain ⟨h1, h2, h3, h4⟩ := canShow_of hs
  cases r with
  | cons rv rr =>
    cases rr
    rename_i u
    obtain ⟨as, rd⟩ := hv.reads I d v u rv
    have hu : X.A.units + (d.depth + 1) < cLine := by
      have := hr.un
      omega
    have fin : ∀ (h' : Heap) (k' : Tok) (tk : Nat), (∀ b o, s.heap.get? b = some o → h'.get? b = some o) → EP X pins σ Q (.str d.shown k') { s with heap := h', toks := tk } := fun h' k' tk hk => ⟨.str d.shown, H, I.kept hk, ⟨k', rfl⟩, q⟩
    have id' : ∀ b o, s.heap.get? b = some o → s.heap.get? b = some o := fun _ _ z => z
    cases d with
    | none =>
      cases rd
      exact PySem.P.repr_of_none (fin s.heap _ _ id')
    | bool b =>
      cases rd
      exact PySem.P.repr_of_bool (by cases b <;> exact fin s.heap _ _ id')
    | int i =>
      cases rd
      exact PySem.P.repr_of_int (of_decide_eq_true h1) (fin s.heap _ _ id')
    | str x =>
      cases rd
      exact PySem.P.repr_of_str (fin s.heap _ _ id') h4
    | list ds =>
      cases rd with
      | list e1 e2 e3 e4 => exact repr_of_reads' (.list e1 e2 e3 e4) h1 (PyData.noDict_hsm h2) gd hu id' (fun h' k' tk hk => fin h' k' tk hk) h4
    | tuple ds =>
      cases rd with
      | tuple e1 e2 e3 e4 => exact repr_of_reads' (.tuple e1 e2 e3 e4) h1 (PyData.noDict_hsm h2) gd hu id' (fun h' k' tk hk => fin h' k' tk hk) h4
    | dict kvs => cases hv
theorem le_repr {k : Nat} (hm : X.mg "repr" = none) (hr : Room k X.A) (gd : X.A.guards = some []) (ha : LE X E e g) (hg : Gl X "repr" := by rfl) (hs : starEach [e] X.env = (false, eval e X.env) :: starEach [] X.env := by rfl) (hpl : (backTo pos (starEach [] X.env)).any (·.1) = false := by rfl) : LE X E (.Call (.Name "repr" p) [e] [] pos) (gRepr g) := by
  refine (pe_callB (call_repr hr gd) hg hm (by decide +kernel) (pa_cons ha pa_nil hs) (by decide) (by decide) hs hpl).imp fun σ H Q h => ?_
  obtain ⟨L, ρ, st, env, S, V, h⟩ := h
  refine ⟨L, ρ, st, env, S, V, Out.bind S h fun a st1 L1 ρ1 H1 x s1 S1 r1 h1 => ?_⟩
  cases a with
  | box _ => exact h1.elim
  | scr _ => exact h1.elim
  | d y =>
    by_cases hc : canShow y = true
    · simp only [pRepr, hc, if_true] at h1
      cases r1 with
      | d r => exact ⟨x, y, rfl, r.dp, hc, h1 L1 ρ1 H1 _ .refl S1 (.d (.str _))⟩
    · simp only [pRepr, hc, if_false] at h1
      exact h1.elim
end
/-! ### the law itself, called with its script -/
theorem lawG {P : Program} {w : World} {K : PySem.W.Frag} {mg mb : Str → Option Value} {CX : CXT} {k : Nat} {fa a : Addr} {fd : FuncData} {x : Str} {sp : Sp} {s₁ : Shared} {vs : List Value} {ns : List Int}
    (inK : K.In s₁.heap) (nsG : s₁.heap.Ns mainGlobals mg) (nsB : s₁.heap.Ns builtinsNs mb) (bb : ∀ x : Str, x ≠ "__name__" → mb x = bootBuiltins x) (lim : s₁.heap.NoLimit) (gens0 : s₁.gens = #[])
    (obj : s₁.heap.get? a = some { cls := .type "list", data := .seq vs.toArray }) (iA : IntsAre vs ns) (small : ns.length ≤ sizeLine) (hr : Room k callerA)
    (F : ∀ base : Heap, K.In base → base.Ns mainGlobals mg → FnG P w K mg base CX k fa fd [x] sp) (bi : ∀ (s : Shared) (u : Value), BindsTo s fd ⟨[u], []⟩ [(x, u)])
    (ask : ∀ H : Hp, Only H → SqL K H a (ns.map V.int) → sp [.ref a] H (fun v _ => v = .bl true) fun _ _ _ => False) (noX : ∀ H e s', CX [] H s₁ (fun _ _ _ => False) e s' → False) :
    codeAny (model P w) callerA (.call (.ref fa) ⟨[.ref a], []⟩) (fun r s' => r = .ok (.ret (.bool true)) ∧ OldK s₁.heap s'.heap ∧ s'.os = s₁.os ∧ AllBare s'.gens) s₁ := by
  have rv : Vals (ns.map V.int) vs := vals_ints iA
  have lv : vs.length = ns.length := iA.length
  -- what is tracked: the script, where it is no object of the module
  generalize hH : (fun b => if b = a ∧ K.lookup a = none then some (HO.frz { cls := .type "list", data := .seq vs.toArray } (.lst (ns.map V.int))) else none : Hp) = H
  have at_ : ∀ b u, H b = some u → (b = a ∧ K.lookup a = none) ∧ u = .frz { cls := .type "list", data := .seq vs.toArray } (.lst (ns.map V.int)) := fun b u e => by
    rw [← hH] at e
    dsimp only at e
    split at e
    · rename_i c
      cases e
      exact ⟨c, rfl⟩
    · cases e
  have untr : ∀ b, ¬ (b = a ∧ K.lookup a = none) → H b = none := fun b c => by
    rw [← hH]
    exact if_neg c
  have only : Only H := fun b => by
    by_cases c : b = a ∧ K.lookup a = none
    · exact .inr ⟨_, _, by rw [← hH]; exact if_pos c⟩
    · exact .inl (untr b c)
  have hok : HOk P w H s₁.heap := fun b u e => by
    obtain ⟨⟨rfl, _⟩, rfl⟩ := at_ b u e
    exact ⟨obj, by rw [List.length_map]; exact small, vs, _, rv, obj⟩
  have seq : SqL K H a (ns.map V.int) := by
    cases c : K.lookup a with
    | none => exact .inl (.inr ⟨_, by rw [← hH]; exact if_pos ⟨rfl, c⟩⟩)
    | some o =>
      have e := inK a o c
      rw [obj] at e
      cases e
      exact .inr ⟨_, vs.toArray, _, c, rfl, rfl, rfl, by rw [List.size_toArray, lv]; exact small, by simpa using rv⟩
  have dictN : ∀ {b : Addr} {m : Str → Option Value}, s₁.heap.Ns b m → (hidT s₁.heap H).Ns b m := fun {b m} z => by
    obtain ⟨o, es, ep, e, d, r⟩ := z
    refine ⟨o, es, ep, hidT_get e ?_, d, r⟩
    refine untr b fun c => ?_
    rw [c.1, obj] at e
    cases e
    have d' : Data.seq vs.toArray _ = Data.dict es ep := d
    cases d'
  have inB : K.In (hidT s₁.heap H) := fun b o e => hidT_get (inK b o e) (untr b fun c => by rw [c.1, c.2] at e; cases e)
  have md : Mod K mg (hidT s₁.heap H) := by
    obtain ⟨mc, h1, h2⟩ := lim
    exact ⟨inB, dictN nsG, ⟨mb, dictN nsB, bb⟩, ⟨mc, dictN h1, h2⟩⟩
  have e0 : Env0 P w K mg (hidT s₁.heap H) callerA [] s₁ H :=
    ⟨rfl, md, fun b o e => of_hidT e, Nat.le_of_eq (hidT_size _ _), trivial, fun b hb => absurd (show b ∈ ([] : List Addr) from hb) List.not_mem_nil, hok, .of_eq gens0⟩
  refine codeAny_mono ((F _ inB (dictN nsG)).run callerA [] s₁ H ⟨[.ref a], []⟩ [.ref a] [.ref a] _ _ hr rfl e0 (bi s₁ (.ref a)) (.cons rfl .nil) (ask H only seq)) fun r s' h => ?_
  cases r with
  | error e => exact (noX H e s' h).elim
  | ok fl =>
    cases fl with
    | next => exact h.elim
    | brk => exact h.elim
    | cont => exact h.elim
    | ret u =>
      obtain ⟨v, H', os, bare, un, hok', rv', rfl⟩ := h
      cases (show u = Value.bool true from rv')
      refine ⟨rfl, OldK.of_keep fun b o e => ?_, os, bare⟩
      cases q : H b with
      | none => exact un.keep b o e q (fun z => absurd (show b ∈ ([] : List Addr) from z) List.not_mem_nil) (by simp)
      | some u =>
        obtain ⟨_, rfl⟩ := at_ b u q
        obtain ⟨e1, _⟩ := hok b _ q
        obtain ⟨e2, _⟩ := hok' b _ (un.frzs b _ _ q)
        rw [e1] at e
        cases e
        exact e2
theorem walkG {l : PySem.W.OpenLaw} {n k : Nat} {q : Program} {loose : List Str} {XP : (Str → Option Value) → Heap → Prop} {YP : World → Heap → Prop} {d : DefRec} {K : Params → PySem.W.Frag} {CX : CXT} {sp : PySem.W.Frag → Sp} {x : Str}
    (most : l.most = some n) (hn2 : n ≤ sizeLine) (nodf : d.params.defaults = []) (hr : Room k callerA) (hY : ∀ (w : World) (h : Heap), YP w h → (K w.params).In h)
    (F : ∀ (w : World) (mg : Str → Option Value) (fa : Addr) (h : Heap), (K w.params).In h → h.Ns mainGlobals mg → mg d.name = some (.ref fa) →
      ∃ fd : FuncData, (∀ (s : Shared) (u : Value), BindsTo s fd ⟨[u], []⟩ [(x, u)]) ∧ ∀ base : Heap, (K w.params).In base → base.Ns mainGlobals mg → FnG l.prog w (K w.params) mg base CX k fa fd [x] (sp (K w.params)))
    (ask : ∀ (K : PySem.W.Frag) (H : Hp) (a : Addr) (ns : List Int), ns.length ≤ n → Only H → SqL K H a (ns.map V.int) → sp K [.ref a] H (fun v _ => v = .bl true) fun _ _ _ => False)
    (noX : ∀ (H : Hp) (s : Shared) (e : Value) (s' : Shared), CX [] H s (fun _ _ _ => False) e s' → False) : PySem.W.WalkO q loose XP YP l.row.toRowW d [] (fun f vs => PySem.call f vs) := by
  refine Att.attach_call most nodf fun w s₀ s₁ mg mb fa o pm cd doc a vs ns G Y _ _ _ hmg obj iA len gens0 => ?_
  have KX := hY w _ Y
  obtain ⟨fd, bi, hF⟩ := F w mg fa _ KX G.T.g hmg
  exact lawG KX G.T.g G.T.b G.T.builtins G.T.nolimit gens0 obj iA (Nat.le_trans len hn2) hr hF bi (fun H hO hS => ask _ H a ns len hO hS) fun H e s' => noX H s₁ e s'
end LF
set_option Elab.async false
set_option linter.all false
set_option maxRecDepth 100000
set_option maxHeartbeats 2000000
namespace LF
open PySem PySem.Spec PyProof.Rows L2 He

/-! ### facts of the top, as tests -/
def oexB (K : PySem.W.Frag) (C : Addr) : Bool := (match K.lookup C with
  | some ⟨.type "type", _, .cls cd, sl⟩ => (match cd.mro, sl.toList with
    | .ref D :: bm, [_, _, _, _, some (.builtin n), _] => D == C && (n == "ValueError.__new__" && (!cd.hasDel && (cd.hasDict && PySem.HandSPX.refsVE bm)))
    | _, _ => false)
  | _ => false) && (eqO (PySem.W.findIn K (.ref C) "__setattr__") (some (some (.builtin "object.__setattr__"))) && (decide (PySem.W.subIn K (.ref C) (.type "BaseException") = some true) && (decide (PySem.W.typeIn K (.ref C) = some (.type "type")) && PySem.W.keepIn K (.ref C))))
theorem oexB_ok {K : PySem.W.Frag} {C : Addr} (h : oexB K C = true) : OexC K C := by
  obtain ⟨h1, h⟩ := ba h
  obtain ⟨h2, h⟩ := ba h
  obtain ⟨h3, h⟩ := ba h
  obtain ⟨h4, h5⟩ := ba h
  refine ⟨?_, eqO_ok h2, of_decide_eq_true h3, of_decide_eq_true h4, h5⟩
  split at h1
  · rename_i dd cd sl ho
    split at h1
    · rename_i D bm k0 k1 k2 k3 n k5 hm hs
      obtain ⟨e1, h1⟩ := ba h1
      obtain ⟨e2, h1⟩ := ba h1
      obtain ⟨e3, h1⟩ := ba h1
      obtain ⟨e4, e5⟩ := ba h1
      obtain rfl := eq_of_beq e1
      obtain rfl := eq_of_beq e2
      obtain ⟨nm, bs, mro, ns, qn, hd, sn, sub, ab, col, del⟩ := cd
      dsimp only at hm e3 e4
      subst hm e4
      obtain rfl : del = false := by cases del <;> first | rfl | cases e3
      obtain ⟨l⟩ := sl
      dsimp only at hs
      subst hs
      exact ⟨nm, qn, ns, bs, bm, sn, sub, ab, col, dd, k0, k1, k2, k3, k5, ho, e5⟩
    · cases h1
  · cases h1
def exaB (K : PySem.W.Frag) (C : Addr) (f1 f2 : Str) : Bool :=
  decide (PySem.W.exmOne K (.ref C) (.ref C) = some true) && (PySem.W.hasDictIn K C && (eqO (PySem.W.findIn K (.ref C) "__getattribute__") (some (some (.builtin "BaseException.__getattribute__"))) && (eqO (PySem.W.findIn K (.ref C) "__getattr__") (some none) &&
  (decide (PySem.W.subIn K (.ref C) (.type "BaseException") = some true) && (eqO (PySem.W.findIn K (.ref C) "__class__") (some (some (.builtin "object.__class__"))) && (eqO (PySem.W.specialIn K (.builtin "object.__class__") "__get__") (some (some (.builtin "getset_descriptor.__get__"))) &&
  (decide (PySem.W.takesIn K (.builtin "object.__class__") = some true) && (decide (PySem.W.mroIn K C (.type "object") = some true) && (eqO (PySem.W.findIn K (.ref C) f1) (some none) && eqO (PySem.W.findIn K (.ref C) f2) (some none))))))))))
theorem exaB_ok {K : PySem.W.Frag} {mg : Str → Option Value} {C : Addr} {c f1 f2 : Str} (m : mg c = some (.ref C)) (h : exaB K C f1 f2 = true) : ExcAs K mg c f1 f2 C := by
  obtain ⟨h1, h⟩ := ba h
  obtain ⟨h2, h⟩ := ba h
  obtain ⟨h3, h⟩ := ba h
  obtain ⟨h4, h⟩ := ba h
  obtain ⟨h5, h⟩ := ba h
  obtain ⟨h6, h⟩ := ba h
  obtain ⟨h7, h⟩ := ba h
  obtain ⟨h8, h⟩ := ba h
  obtain ⟨h9, h⟩ := ba h
  obtain ⟨h10, h11⟩ := ba h
  exact ⟨m, of_decide_eq_true h1, ⟨eqO_ok h3, eqO_ok h4, of_decide_eq_true h5, h2, eqO_ok h6, eqO_ok h7, of_decide_eq_true h8, of_decide_eq_true h9⟩, ⟨eqO_ok h3, eqO_ok h4, of_decide_eq_true h5, h2⟩, eqO_ok h10, eqO_ok h11⟩
/-- further facts of the top -/
inductive Fb where
  | err (c f1 f2 : Str)
  | exa (c f1 f2 : Str)
  | isg (c x : Str) (b : Bool)
  | ist (c x : Str) (T : String) (b : Bool)
  | blt (x : Str) (id : String)
  | tup (x : Str) (vs : List Dv)
  | exn (c : Str)
def Fb.ok (K : PySem.W.Frag) : Fb → Bool
  | .err c f1 f2 => oexB K (ga K c) && (eqO (PySem.W.findIn K (.ref (ga K c)) f1) (some none) && (eqO (PySem.W.findIn K (.ref (ga K c)) f2) (some none) && (eqO (PySem.W.findIn K (.ref (ga K c)) "__init__") (some (some (.ref (ma K (ga K c) "__init__")))) &&
      decide (PySem.W.typeIn K (.ref (ma K (ga K c) "__init__")) = some (.type "function")))))
  | .exa c f1 f2 => exaB K (ga K c) f1 f2
  | .isg c x b => decide (PySem.W.kitOne K (.ref (ga K c)) (.ref (ga K x)) = some b)
  | .ist c x T b => eqO (PySem.W.nsIn K mainGlobals x) (some none) && decide (PySem.W.kitOne K (.ref (ga K c)) (.type T) = some b)
  | .blt x id => eqO (PySem.W.nsIn K mainGlobals x) (some (some (.builtin id)))
  | .tup x vs => tupB K x vs
  | .exn c => decide (PySem.W.exmOne K (.ref (ga K c)) (.ref (ga K c)) = some true)
section
variable {K : PySem.W.Frag} {h : Heap} {mg : Str → Option Value}
theorem fb_blt (X : K.In h) (G : h.Ns mainGlobals mg) {x : Str} {id : String} (c : (Fb.blt x id).ok K = true) : mg x = some (.builtin id) := PySem.W.mg_of X G (eqO_ok c)
theorem fb_exn {c : Str} (m : mg c = some (.ref (ga K c))) (h : (Fb.exn c).ok K = true) : ExcN K mg c := ⟨_, m, of_decide_eq_true h⟩
theorem fb_isg {c x : Str} {b : Bool} (m : mg x = some (.ref (ga K x))) (h : (Fb.isg c x b).ok K = true) : IsEx K mg (ga K c) x b := ⟨.ref (ga K x), .ref (ga K x), fun _ r => r, rfl, .inl m, of_decide_eq_true h⟩
theorem fb_ist (X : K.In h) (G : h.Ns mainGlobals mg) {c x : Str} {T : String} {b : Bool} (e : (Fb.ist c x T b).ok K = true) (hb : bootBuiltins x = some (.type T)) (hn : x ≠ "__name__") : IsEx K mg (ga K c) x b := by
  obtain ⟨h1, h2⟩ := ba e
  exact ⟨.ty T, .type T, fun _ r => r, rfl, .inr ⟨PySem.W.mg_none_of X G (eqO_ok h1), hb, hn⟩, of_decide_eq_true h2⟩
theorem fb_tup {x : Str} {vs : List Dv} {ds : List PyData} (m : mg x = some (.ref (ga K x))) (h : (Fb.tup x vs).ok K = true) (hr : ∀ L H, RpAll K L H (vs.map (Dv.v K)) ds) : GlobC K mg x (.tuple ds) :=
  ⟨.ref (ga K x), .ref (ga K x), m, rfl, fun L H => .tup (tupB_ok h H) (hr L H)⟩
theorem fb_int {x : Str} {i : Int} (h : ∃ t, mg x = some (.int i t)) : GlobC K mg x (.int i) := by
  obtain ⟨t, m⟩ := h
  exact .scalar m
/-- a def without defaults -/
theorem fun_of {x qual : Str} {st : Stmt} {f : Addr} {fd : FuncData} (F : FunD K x qual (defArgs st) (defBody st) (defScope st) [] [] f fd) : Fun K x qual st f fd := by
  obtain ⟨oc, od, dV, kV, doc, pm, an, cdv, ct, osl, e, l, c, d, _⟩ := F.ex
  have hd : dV = .none := d.elim (fun z => z.2) fun z => absurd rfl z.1
  subst hd
  exact ⟨⟨oc, od, kV, doc, pm, an, cdv, ct, osl, e, l, c⟩, F.kp⟩
end
section
variable {P : Program} {w : World} {K : PySem.W.Frag} {mg : Str → Option Value} {base : Heap} {j k n : Nat} {x : Str} {f : List A → Sto → R A} {ks : List Str} {is : List Nat}
theorem Cal0.mono (C : Cal0 P w K mg base j x n f) (h : j ≤ k) : Cal0 P w K mg base k x n f := by
  obtain ⟨fa, fd, ps, F, r⟩ := C.ex
  exact ⟨⟨fa, fd, ps, F.mono h, r⟩, C.nx⟩
theorem CalX.mono (C : CalX P w K mg base j x n f) (h : j ≤ k) : CalX P w K mg base k x n f := by
  obtain ⟨fa, fd, ps, F, r⟩ := C.ex
  exact ⟨⟨fa, fd, ps, F.mono h, r⟩⟩
/-- a def at its place: mg knows it, how its arguments bind -/
structure DefAt (K : PySem.W.Frag) (mg : Str → Option Value) (x qual : Str) (st : Stmt) (ps : List Str) (fa : Addr) (fd : FuncData) : Prop where
  F : Fun K x qual st fa fd
  m : mg x = some (.ref fa)
  b : Binds K fd ps []
theorem okD0 {qual : Str} {st : Stmt} {fa : Addr} {fd : FuncData} {N ps : List Str} {b : GS} (D : DefAt K mg x qual st ps fa fd) (S : FnScope N ps (defScope st)) (n : Nat) (hn : n = ps.length)
    (hb : ∀ (cdv : Value) (A : Around) (outer : List PySem.Env) (s : Shared) (H : Hp) (E : XK), Room k (A.deeper (envOfC qual (defScope st) s.heap.objs.size fa cdv)) →
      LSs (cxOf CX0 P w K mg base N qual (defScope st) fa cdv A outer s H E).nox E0 (defBody st) b) : FnOk P w K mg base CX0 (k + 1) fa fd ps (spL0 K mg n (runN N.length b)) := by
  subst hn
  refine D.F.ok S (fun vs H Q E h => ?_) (fun cdv A outer s H vs Q E hr h => ⟨_, hb cdv A outer s H E hr, ?_⟩)
  · obtain ⟨L, ρ, st, as, _, r, e, _⟩ := h
    rw [r.length, e]
  · obtain ⟨L, ρ, st, as, S', r, e, h⟩ := h
    exact ⟨L, ρ, st, _, S', .start r, OutS.run (Out.cut S' (Out.noX h))⟩
theorem okDX {qual : Str} {st : Stmt} {fa : Addr} {fd : FuncData} {N ps : List Str} {b : GS} (D : DefAt K mg x qual st ps fa fd) (S : FnScope N ps (defScope st)) (n : Nat) (hn : n = ps.length)
    (hb : ∀ (cdv : Value) (A : Around) (outer : List PySem.Env) (s : Shared) (H : Hp) (E : XK), Room k (A.deeper (envOfC qual (defScope st) s.heap.objs.size fa cdv)) →
      LSs (cxOf (L2.CX P w) P w K mg base N qual (defScope st) fa cdv A outer s H E) E (defBody st) b) : FnOk P w K mg base (L2.CX P w) (k + 1) fa fd ps (spL K mg n (runC N.length b)) := by
  subst hn
  refine D.F.okX S (fun vs H Q E h => ?_) (fun cdv A outer s H vs Q E hr h => ⟨_, hb cdv A outer s H E hr, ?_⟩)
  · obtain ⟨L, ρ, st, as, _, r, e, _⟩ := h
    rw [r.length, e]
  · obtain ⟨L, ρ, st, as, S', r, e, h⟩ := h
    exact ⟨L, ρ, st, _, S', .start r, OutS.run (Out.cut S' h)⟩
theorem okDG {qual : Str} {st : Stmt} {fa : Addr} {fd : FuncData} {N ps : List Str} {b : GS} (D : DefAt K mg x qual st ps fa fd) (S : FnScope N ps (defScope st)) (n : Nat) (hn : n = ps.length)
    (hb : ∀ (cdv : Value) (A : Around) (outer : List PySem.Env) (s : Shared) (H : Hp) (E : XK), A.guards = some [] → Room k (A.deeper (envOfC qual (defScope st) s.heap.objs.size fa cdv)) →
      LSs (cxOf CX0 P w K mg base N qual (defScope st) fa cdv A outer s H E).nox E0 (defBody st) b) : FnG P w K mg base CX0 (k + 1) fa fd ps (spL0 K mg n (runN N.length b)) := by
  subst hn
  refine fnG_of D.F S (fun vs H Q E h => ?_) (fun cdv A outer s H vs Q E hr gd h => ⟨_, (hb cdv A outer s H E gd hr).nox, ?_⟩)
  · obtain ⟨L, ρ, st, as, _, r, e, _⟩ := h
    rw [r.length, e]
  · obtain ⟨L, ρ, st, as, S', r, e, h⟩ := h
    exact ⟨L, ρ, st, _, S', .start r, OutS.run (Out.cut S' (Out.noX h))⟩
theorem ok00 {fa : Addr} {fd : FuncData} {ps : List Str} {n : Nat} : FnOk P w K mg base CX0 k fa fd ps (spL0 K mg n fun _ _ => .bad) :=
  ⟨fun vs H Q E h => by obtain ⟨_, _, _, _, _, _, _, h⟩ := h; exact h.elim, fun A outer s H args us vs Q E _ _ _ _ h => by obtain ⟨_, _, _, _, _, _, _, h⟩ := h; exact h.elim⟩
theorem okX0 {CX : CXT} {fa : Addr} {fd : FuncData} {ps : List Str} {n : Nat} : FnOk P w K mg base CX k fa fd ps (spL K mg n fun _ _ => .bad) :=
  ⟨fun vs H Q E h => by obtain ⟨_, _, _, _, _, _, _, h⟩ := h; exact h.elim, fun A outer s H args us vs Q E _ _ _ _ h => by obtain ⟨_, _, _, _, _, _, _, h⟩ := h; exact h.elim⟩
section
variable {qual : Str} {st : Stmt} {fa : Addr} {fd : FuncData} {ps : List Str}
theorem DefAt.c0 (D : DefAt K mg x qual st ps fa fd) (g : FnOk P w K mg base CX0 k fa fd ps (spL0 K mg n f)) (nx : NoX f) : Cal0 P w K mg base k x n f := ⟨⟨fa, fd, ps, g, D.m, D.F.kp, D.b⟩, nx⟩
theorem DefAt.cX (D : DefAt K mg x qual st ps fa fd) (g : FnOk P w K mg base (L2.CX P w) k fa fd ps (spL K mg n f)) : CalX P w K mg base k x n f := ⟨⟨fa, fd, ps, g, D.m, D.F.kp, D.b⟩⟩
theorem DefAt.cG (D : DefAt K mg x qual st ps fa fd) (g : FnG P w K mg base CX0 k fa fd ps (spL0 K mg n f)) (nx : NoX f) : CalG P w K mg base k x n f := ⟨⟨fa, fd, ps, g, D.m, D.F.kp, D.b⟩, nx⟩
theorem DefAt.kb (D : DefAt K mg x qual st ps fa fd) (hp : ps ≠ []) (h : ∀ (kV doc pm : Value) (an : Option Addr) (cdv ct : Value) (ws : List Value), ws.length = ks.length →
    bindArgs (PySem.W.fnOf x qual (defArgs st) (defBody st) (defScope st) .none kV doc pm an cdv ct) ⟨[], ks.zip ws⟩ = pure (ps.zip (pick is ws))) : KBinds K fd ps ks (gK 0 ks.length is) (gK 0 ks.length is) := by
  obtain ⟨oc, od, kV, doc, pm, an, cdv, ct, osl, e, _⟩ := D.F.ex
  subst e
  refine kbinds_mk hp fun us ws h0 h1 => ?_
  obtain rfl := List.eq_nil_of_length_eq_zero h0
  exact h kV doc pm an cdv ct ws h1
theorem DefAt.k0 (D : DefAt K mg x qual st ps fa fd) (g : FnOk P w K mg base CX0 k fa fd ps (spL0 K mg n f)) (nx : NoX f) (b : KBinds K fd ps ks (gK 0 ks.length is) (gK 0 ks.length is)) : Cal0K P w K mg base k x n f ks is := ⟨⟨fa, fd, ps, g, D.m, D.F.kp, b⟩, nx⟩
theorem DefAt.kX (D : DefAt K mg x qual st ps fa fd) (g : FnOk P w K mg base (L2.CX P w) k fa fd ps (spL K mg n f)) (b : KBinds K fd ps ks (gK 0 ks.length is) (gK 0 ks.length is)) : CalXK P w K mg base k x n f ks is := ⟨⟨fa, fd, ps, g, D.m, D.F.kp, b⟩⟩
end
theorem DefAt.bt {qual : Str} {st : Stmt} {fa : Addr} {fd : FuncData} {ps : List Str} (D : DefAt K mg x qual st ps fa fd)
    (bi : ∀ (kV doc pm : Value) (an : Option Addr) (cdv ct : Value) (us : List Value), us.length = ps.length → bindArgs (PySem.W.fnOf x qual (defArgs st) (defBody st) (defScope st) .none kV doc pm an cdv ct) ⟨us, []⟩ = pure (ps.zip us)) (s : Shared) (us : List Value) (hl : us.length = ps.length) : BindsTo s fd ⟨us, []⟩ (ps.zip us) := by
  obtain ⟨oc, od, kV, doc, pm, an, cdv, ct, osl, e, _⟩ := D.F.ex
  subst e
  exact .of_eq (bi kV doc pm an cdv ct us hl)
/-- .. found among the head's facts -/
theorem defAt_of {h : Heap} {fl : List Fa} {fn : List DefD} {st : Stmt} {ps : List Str} (X : K.In h) (G : h.Ns mainGlobals mg) (c : SaysD fl fn K) (i j : Nat) (hd : fn[i]? = some ⟨(x, none), x, x, defArgs st, defBody st, defScope st, [], []⟩) (hf : fl[j]? = some (.glo x))
    (bi : ∀ (kV doc pm : Value) (an : Option Addr) (cdv ct : Value) (us : List Value), us.length = ps.length → bindArgs (PySem.W.fnOf x x (defArgs st) (defBody st) (defScope st) .none kV doc pm an cdv ct) ⟨us, []⟩ = pure (ps.zip us)) : ∃ fd, DefAt K mg x x st ps (ga K x) fd := by
  obtain ⟨fd, F⟩ := c.def_ i hd
  have F2 : Fun K x x st (ga K x) fd := fun_of F
  exact ⟨fd, F2, glo_ok X G (c.fact j hf), F2.binds bi⟩
/-- an error's class, its own maker -/
theorem errC_of {h : Heap} {fl : List Fa} {fn : List DefD} {c f1 f2 q : Str} {st : Stmt} {ps : List Str} (X : K.In h) (G : h.Ns mainGlobals mg) (C : SaysD fl fn K) (i j : Nat) (hd : fn[i]? = some ⟨(c, some "__init__"), "__init__", q, defArgs st, defBody st, defScope st, [], []⟩) (hf : fl[j]? = some (.glo c))
    (S : FnScope ps ps (defScope st)) (hps : ps.length = 3) (e : (Fb.err c f1 f2).ok K = true)
    (bi : ∀ (kV doc pm : Value) (an : Option Addr) (cdv ct : Value) (us : List Value), us.length = ps.length → bindArgs (PySem.W.fnOf "__init__" q (defArgs st) (defBody st) (defScope st) .none kV doc pm an cdv ct) ⟨us, []⟩ = pure (ps.zip us))
    (hb : ∀ (f : Addr) (cdv : Value) (A : Around) (outer : List PySem.Env) (s : Shared) (H : Hp) (E : XK), PSs (cxOf CX0 P w K mg base ps q (defScope st) f cdv A outer s H E).nox (defBody st) (tSeq (tOst K f1 (tVar 0) (tVar 1)) (tOst K f2 (tVar 0) (tVar 2)))) : ErrC P w K mg base c f1 f2 := by
  obtain ⟨fd, F⟩ := C.def_ i hd
  have F2 : Fun K "__init__" q st (ma K (ga K c) "__init__") fd := fun_of F
  obtain ⟨h1, e⟩ := ba e
  obtain ⟨h2, e⟩ := ba e
  obtain ⟨h3, e⟩ := ba e
  obtain ⟨h4, h5⟩ := ba e
  have T := oexB_ok h1
  refine ⟨ga K c, ma K (ga K c) "__init__", fd, ps, T, eqO_ok h2, eqO_ok h3, eqO_ok h4, of_decide_eq_true h5, ?_, F2.binds bi, glo_ok X G (C.fact j hf)⟩
  refine F2.ok (k := 0) S (fun vs H Q E z => ?_) (fun cdv A outer s H vs Q E hr z => ⟨_, hb _ cdv A outer s H E, ?_⟩)
  · obtain ⟨a, v1, v2, rfl, _⟩ := z
    exact hps.symm
  · obtain ⟨a, v1, v2, rfl, _, n1, n2, ha, z⟩ := z
    match ps, hps with
    | [p0, p1, p2], _ => exact ini_read (σ := []) T n1 n2 ha z
end
/-! ### the head's hook -/
abbrev AlL : Type := AlD × Bool
def obsL (fl : List Fa) (fn : List DefD) (fb : List Fb) (K : PySem.W.Frag) : AlL := (obsD fl fn K, fb.all fun f => f.ok K)
def valL (fn : List DefD) : AlL := (valD fn, true)
def SaysL (fl : List Fa) (fn : List DefD) (fb : List Fb) (K : PySem.W.Frag) : Prop := obsL fl fn fb K = valL fn
def obsLG (n : Nat) (fl : List Fa) (fn : List DefD) (fb : List Fb) (g : Addr → Option Obj) : AlL := obsL fl fn fb (frG g (asD g n))
def hookL (n : Nat) (fl : List Fa) (fn : List DefD) (fb : List Fb) : PySem.W.Hook where
  α := AlL
  obs := fun s => obsLG n fl fn fb s.heap.get?
  val := fun _ => valL fn
  says := fun _ h => ∃ K : PySem.W.Frag, K.In h ∧ SaysL fl fn fb K
  of := fun _ _ e => ⟨_, frG_in, e⟩
  keeps := fun _ _ _ z k => by
    obtain ⟨K, hK, c⟩ := z
    exact ⟨K, PySem.W.Frag.In.keeps hK k, c⟩
theorem obsLG_eq {n : Nat} {fl : List Fa} {fn : List DefD} {fb : List Fb} {g : Addr → Option Obj} {s : Shared} (h : ∀ a, g a = s.heap.get? a) : obsLG n fl fn fb g = (hookL n fl fn fb).obs s := by
  rw [show g = s.heap.get? from funext h] <;> rfl
theorem SaysL.d {fl : List Fa} {fn : List DefD} {fb : List Fb} {K : PySem.W.Frag} (c : SaysL fl fn fb K) : SaysD fl fn K := congrArg (fun z : AlL => z.1) c
theorem SaysL.fb {fl : List Fa} {fn : List DefD} {fb : List Fb} {K : PySem.W.Frag} (c : SaysL fl fn fb K) (i : Nat) {f : Fb} (h : fb[i]? = some f := by rfl) : f.ok K = true :=
  List.all_eq_true.mp (show (fb.all fun f => f.ok K) = true from congrArg (fun z : AlL => z.2) c) f (List.mem_of_getElem? h)
theorem walkGE {l : PySem.W.OpenLaw} {n k : Nat} {q : Program} {loose : List Str} {XP : (Str → Option Value) → Heap → Prop} {YP : World → Heap → Prop} {d : DefRec} {x : Str}
    (most : l.most = some n) (hn2 : n ≤ sizeLine) (nodf : d.params.defaults = []) (hr : Room k callerA)
    (F : ∀ (w : World) (mg : Str → Option Value) (fa : Addr) (h : Heap), YP w h → h.Ns mainGlobals mg → mg d.name = some (.ref fa) →
      ∃ (K : PySem.W.Frag) (fd : FuncData) (sp : Sp), K.In h ∧ (∀ (s : Shared) (u : Value), BindsTo s fd ⟨[u], []⟩ [(x, u)]) ∧
        (∀ (H : Hp) (a : Addr) (ns : List Int), ns.length ≤ n → Only H → SqL K H a (ns.map V.int) → sp [.ref a] H (fun v _ => v = .bl true) fun _ _ _ => False) ∧
        ∀ base : Heap, K.In base → base.Ns mainGlobals mg → FnG l.prog w K mg base CX0 k fa fd [x] sp) : PySem.W.WalkO q loose XP YP l.row.toRowW d [] (fun f vs => PySem.call f vs) := by
  refine Att.attach_call most nodf fun w s₀ s₁ mg mb fa o pm cd doc a vs ns G Y _ _ _ hmg obj iA len gens0 => ?_
  obtain ⟨K, fd, sp, KX, bi, ask, hF⟩ := F w mg fa _ Y G.T.g hmg
  exact lawG KX G.T.g G.T.b G.T.builtins G.T.nolimit gens0 obj iA (Nat.le_trans len hn2) hr hF bi (fun H hO hS => ask H a ns len hO hS) fun H e s' z => z
/-- what the pure law must say -/
theorem ask_of {K : PySem.W.Frag} {mg : Str → Option Value} {f : List A → Sto → R A} {n : Nat} (h : ∀ ns : List Int, ns.length ≤ n → ∃ st, f [.scr (ns.map .int)] [] = .ok (.d (.bool true)) st) (H : Hp) (a : Addr) (ns : List Int) (hl : ns.length ≤ n) (hO : Only H) (hS : SqL K H a (ns.map V.int)) :
    spL0 K mg 1 f [.ref a] H (fun v _ => v = .bl true) fun _ _ _ => False := by
  obtain ⟨st, e⟩ := h ns hl
  have frz : Frz K H a (ns.map V.int) := by
    rcases hS with (z | z) | z
    · rcases hO a with y | ⟨o, xs, y⟩
      · rw [y] at z; cases z
      · rw [y] at z; cases z
    · exact .inl z
    · exact .inr (.inr z)
  have rows : ∀ l : List Int, RpAll K [] H (l.map V.int) (l.map .int) := fun l => by
    induction l with
    | nil => exact .nil
    | cons i l ih => exact .cons (.int i) ih
  refine ⟨[], [], [], [.scr (ns.map .int)], ⟨rfl, List.nodup_nil, fun a z => (List.not_mem_nil z).elim, fun a z _ => (List.not_mem_nil z).elim, fun i a ds z _ => by simp at z⟩, .cons (.scr frz (rows ns)) .nil, rfl, ?_⟩
  rw [e]
  intro L1 ρ1 H1 v s1 S1 r
  cases r with
  | d r => cases r; rfl
end LF
set_option Elab.async false
set_option linter.all false
set_option maxRecDepth 100000
set_option maxHeartbeats 2000000
namespace G
open PySem PySem.Spec PyProof.Rows L2 LF
abbrev prog : Program := PySem.Challenge.pw_someoneout_k00_kinds_and_checker
def top (i : Nat) : Stmt := PySem.Challenge.pw_someoneout_k00_kinds_and_checker.main.body.getD i (.Pass ⟨0, 0, 0, 0⟩)
def d_WORDS : PyData := (.tuple [(.str "limits"), (.str "slots"), (.str "web"), (.str "rows"), (.str "table"), (.str "beside")])
def d_PRIMES : PyData := (.tuple [(.int 2), (.int 3), (.int 5), (.int 7)])
def d_GREATEST_TABLE : PyData := (.int 12)
abbrev s_need : Stmt := top 8
theorem sc_need : FnScope ["holds", "word"] ["holds", "word"] (defScope s_need) := ⟨rfl, rfl, rfl, by decide +kernel, rfl, by decide +kernel, by decide +kernel⟩
noncomputable def b_need : GS :=
  (sIf (gNot (gB (gVar 0))) (sRaise "NotUsable" "word" "at" (LF.gCons (gVar 1) (LF.gCons (gNeg (gC (.int 1))) LF.gNil))) sNil)
theorem t_need {P : Program} {w : World} {K : PySem.W.Frag} {mg : Str → Option Value} {base : Heap} {f : Addr} {k : Nat} (e_NotUsable : ErrC P w K mg base "NotUsable" "word" "at") (hk : 2 ≤ k) (cdv : Value) (A : Around) (outer : List PySem.Env) (s : Shared) (H : Hp) (E : XK) (hr : Room k (A.deeper (envOfC "need" (defScope s_need) s.heap.objs.size f cdv))) :
    LSs (cxOf (L2.CX P w) P w K mg base ["holds", "word"] "need" (defScope s_need) f cdv A outer s H E) E (defBody s_need) (b_need) :=
  (ls_one (ls_if (lt_not (lt_val (le_pv 0))) (ls_one (ls_raiseE e_NotUsable hr rfl (takes_of rfl rfl rfl rfl) (la_cons (le_pv 1) (la_cons (le_neg le_int) la_nil)) (gl_cons (gl_cons gl_nil)) (by omega))) ls_nil))
noncomputable def p_need : List A → Sto → R A := runC 2 b_need
abbrev s_demand : Stmt := top 9
theorem sc_demand : FnScope ["holds", "word", "at"] ["holds", "word", "at"] (defScope s_demand) := ⟨rfl, rfl, rfl, by decide +kernel, rfl, by decide +kernel, by decide +kernel⟩
noncomputable def b_demand : GS :=
  (sIf (gNot (gB (gVar 0))) (sRaise "InvalidPaper" "word" "at" (LF.gCons (gVar 1) (LF.gCons (gVar 2) LF.gNil))) sNil)
theorem t_demand {P : Program} {w : World} {K : PySem.W.Frag} {mg : Str → Option Value} {base : Heap} {f : Addr} {k : Nat} (e_InvalidPaper : ErrC P w K mg base "InvalidPaper" "word" "at") (hk : 2 ≤ k) (cdv : Value) (A : Around) (outer : List PySem.Env) (s : Shared) (H : Hp) (E : XK) (hr : Room k (A.deeper (envOfC "demand" (defScope s_demand) s.heap.objs.size f cdv))) :
    LSs (cxOf (L2.CX P w) P w K mg base ["holds", "word", "at"] "demand" (defScope s_demand) f cdv A outer s H E) E (defBody s_demand) (b_demand) :=
  (ls_one (ls_if (lt_not (lt_val (le_pv 0))) (ls_one (ls_raiseE e_InvalidPaper hr rfl (takes_of rfl rfl rfl rfl) (la_cons (le_pv 1) (la_cons (le_pv 2) la_nil)) (gl_cons (gl_cons gl_nil)) (by omega))) ls_nil))
noncomputable def p_demand : List A → Sto → R A := runC 3 b_demand
abbrev s_is_integer : Stmt := top 11
theorem sc_is_integer : FnScope ["thing"] ["thing"] (defScope s_is_integer) := ⟨rfl, rfl, rfl, by decide +kernel, rfl, by decide +kernel, by decide +kernel⟩
noncomputable def b_is_integer : GS :=
  (sRet (gAndV (gIsi "int" (gVar 0)) (gNotV (gIsi "bool" (gVar 0)))))
theorem t_is_integer {P : Program} {w : World} {K : PySem.W.Frag} {mg : Str → Option Value} {base : Heap} {f : Addr} {k : Nat} (z_isinstance : mg "isinstance" = none) (z_bool : mg "bool" = none) (z_int : mg "int" = none) (hk : 0 ≤ k) (cdv : Value) (A : Around) (outer : List PySem.Env) (s : Shared) (H : Hp) (E : XK) (hr : Room k (A.deeper (envOfC "is_integer" (defScope s_is_integer) s.heap.objs.size f cdv))) :
    LSs (cxOf CX0 P w K mg base ["thing"] "is_integer" (defScope s_is_integer) f cdv A outer s H E).nox E0 (defBody s_is_integer) (b_is_integer) :=
  (ls_one (ls_ret (le_and (le_isT "int" z_isinstance z_int (le_pv 0)) (le_one (le_not (le_isT "bool" z_isinstance z_bool (le_pv 0)))))))
noncomputable def p_is_integer : List A → Sto → R A := runN 1 b_is_integer
abbrev s_is_number : Stmt := top 12
theorem sc_is_number : FnScope ["thing"] ["thing"] (defScope s_is_number) := ⟨rfl, rfl, rfl, by decide +kernel, rfl, by decide +kernel, by decide +kernel⟩
noncomputable def b_is_number : GS :=
  (sRet (gAndV (gCall p_is_integer (LF.gCons (gVar 0) LF.gNil)) (g2 pGe (gVar 0) (gC (.int 0)))))
theorem t_is_number {P : Program} {w : World} {K : PySem.W.Frag} {mg : Str → Option Value} {base : Heap} {f : Addr} {k : Nat} (c_is_integer : Cal0 P w K mg base 1 "is_integer" 1 p_is_integer) (hk : 1 ≤ k) (cdv : Value) (A : Around) (outer : List PySem.Env) (s : Shared) (H : Hp) (E : XK) (hr : Room k (A.deeper (envOfC "is_number" (defScope s_is_number) s.heap.objs.size f cdv))) :
    LSs (cxOf CX0 P w K mg base ["thing"] "is_number" (defScope s_is_number) f cdv A outer s H E).nox E0 (defBody s_is_number) (b_is_number) :=
  (ls_one (ls_ret (le_and (le_c0 c_is_integer hr (gl_cons gl_nil) (la_cons (le_pv 0) la_nil) (by omega)) (le_one (le_GtE (le_pv 0) le_int)))))
noncomputable def p_is_number : List A → Sto → R A := runN 1 b_is_number
abbrev s_is_below : Stmt := top 13
theorem sc_is_below : FnScope ["bound", "thing"] ["bound", "thing"] (defScope s_is_below) := ⟨rfl, rfl, rfl, by decide +kernel, rfl, by decide +kernel, by decide +kernel⟩
noncomputable def b_is_below : GS :=
  (sRet (gAndV (gCall p_is_number (LF.gCons (gVar 1) LF.gNil)) (g2 pLt (gVar 1) (gVar 0))))
theorem t_is_below {P : Program} {w : World} {K : PySem.W.Frag} {mg : Str → Option Value} {base : Heap} {f : Addr} {k : Nat} (c_is_number : Cal0 P w K mg base 2 "is_number" 1 p_is_number) (hk : 2 ≤ k) (cdv : Value) (A : Around) (outer : List PySem.Env) (s : Shared) (H : Hp) (E : XK) (hr : Room k (A.deeper (envOfC "is_below" (defScope s_is_below) s.heap.objs.size f cdv))) :
    LSs (cxOf CX0 P w K mg base ["bound", "thing"] "is_below" (defScope s_is_below) f cdv A outer s H E).nox E0 (defBody s_is_below) (b_is_below) :=
  (ls_one (ls_ret (le_and (le_c0 c_is_number hr (gl_cons gl_nil) (la_cons (le_pv 1) la_nil) (by omega)) (le_one (le_Lt (le_pv 1) (le_pv 0))))))
noncomputable def p_is_below : List A → Sto → R A := runN 2 b_is_below
abbrev s_is_tuple_of : Stmt := top 14
theorem sc_is_tuple_of : FnScope ["many", "thing"] ["many", "thing"] (defScope s_is_tuple_of) := ⟨rfl, rfl, rfl, by decide +kernel, rfl, by decide +kernel, by decide +kernel⟩
noncomputable def b_is_tuple_of : GS :=
  (sRet (gAndV (gIsi "tuple" (gVar 1)) (g2 pEq (gB1 pLen (LF.gCons (gVar 1) LF.gNil)) (gVar 0))))
theorem t_is_tuple_of {P : Program} {w : World} {K : PySem.W.Frag} {mg : Str → Option Value} {base : Heap} {f : Addr} {k : Nat} (z_len : mg "len" = none) (z_isinstance : mg "isinstance" = none) (z_tuple : mg "tuple" = none) (hk : 0 ≤ k) (cdv : Value) (A : Around) (outer : List PySem.Env) (s : Shared) (H : Hp) (E : XK) (hr : Room k (A.deeper (envOfC "is_tuple_of" (defScope s_is_tuple_of) s.heap.objs.size f cdv))) :
    LSs (cxOf CX0 P w K mg base ["many", "thing"] "is_tuple_of" (defScope s_is_tuple_of) f cdv A outer s H E).nox E0 (defBody s_is_tuple_of) (b_is_tuple_of) :=
  (ls_one (ls_ret (le_and (le_isT "tuple" z_isinstance z_tuple (le_pv 1)) (le_one (le_Eq hr (le_len z_len (le_pv 1)) (le_pv 0))))))
noncomputable def p_is_tuple_of : List A → Sto → R A := runN 2 b_is_tuple_of
abbrev s_is_quotient : Stmt := top 15
theorem sc_is_quotient : FnScope ["thing", "top", "bottom"] ["thing"] (defScope s_is_quotient) := ⟨rfl, rfl, rfl, by decide +kernel, rfl, by decide +kernel, by decide +kernel⟩
noncomputable def b_is_quotient : GS :=
  (sSeq (sIf (gNot (gB (gCall p_is_tuple_of (LF.gCons (gC (.int 2)) (LF.gCons (gVar 0) LF.gNil))))) (sRet (gC (.bool false))) sNil) (sSeq (sAsg (ggTup [(ggName 1), (ggName 2)]) (gVar 0)) (sSeq (sIf (gOr (gNot (gB (gCall p_is_integer (LF.gCons (gVar 1) LF.gNil)))) (gNot (gB (gCall p_is_integer (LF.gCons (gVar 2) LF.gNil))))) (sRet (gC (.bool false))) sNil) (sRet (gAndV (g2 pGe (gVar 2) (gC (.int 1))) (g2 pEq (gB1 pGcd (LF.gCons (gVar 1) (LF.gCons (gVar 2) LF.gNil))) (gC (.int 1))))))))
theorem t_is_quotient {P : Program} {w : World} {K : PySem.W.Frag} {mg : Str → Option Value} {base : Heap} {f : Addr} {k : Nat} (z_gcd : mg "gcd" = some (.builtin "math.gcd")) (c_is_integer : Cal0 P w K mg base 1 "is_integer" 1 p_is_integer) (c_is_tuple_of : Cal0 P w K mg base 1 "is_tuple_of" 2 p_is_tuple_of) (hk : 1 ≤ k) (cdv : Value) (A : Around) (outer : List PySem.Env) (s : Shared) (H : Hp) (E : XK) (hr : Room k (A.deeper (envOfC "is_quotient" (defScope s_is_quotient) s.heap.objs.size f cdv))) :
    LSs (cxOf CX0 P w K mg base ["thing", "top", "bottom"] "is_quotient" (defScope s_is_quotient) f cdv A outer s H E).nox E0 (defBody s_is_quotient) (b_is_quotient) :=
  (ls_cons (ls_if (lt_not (lt_val (le_c0 c_is_tuple_of hr (gl_cons (gl_cons gl_nil)) (la_cons le_int (la_cons (le_pv 0) la_nil)) (by omega)))) (ls_one (ls_ret le_bl)) ls_nil) (ls_cons (ls_asg (le_pv 0) (pg_tup rfl (pgs_cons (pg_name (i := 1) sc_is_quotient.nd rfl (by first | exact Or.inl rfl | exact Or.inr rfl)) (pgs_cons (pg_name (i := 2) sc_is_quotient.nd rfl (by first | exact Or.inl rfl | exact Or.inr rfl)) pgs_nil))) (gok_tup rfl (gsok_cons gok_name (gsok_cons gok_name gsok_nil)))) (ls_cons (ls_if (lt_w (lw_or (lt_not (lt_val (le_c0 c_is_integer hr (gl_cons gl_nil) (la_cons (le_pv 1) la_nil) (by omega)))) (lw_or1 (lt_not (lt_val (le_c0 c_is_integer hr (gl_cons gl_nil) (la_cons (le_pv 2) la_nil) (by omega))))))) (ls_one (ls_ret le_bl)) ls_nil) (ls_one (ls_ret (le_and (le_GtE (le_pv 2) le_int) (le_one (le_Eq hr (le_gcd z_gcd (le_pv 1) (le_pv 2)) le_int))))))))
noncomputable def p_is_quotient : List A → Sto → R A := runN 3 b_is_quotient
abbrev s_is_lot : Stmt := top 16
theorem sc_is_lot : FnScope ["size", "thing", "last", "wish"] ["size", "thing"] (defScope s_is_lot) := ⟨rfl, rfl, rfl, by decide +kernel, rfl, by decide +kernel, by decide +kernel⟩
noncomputable def b_is_lot : GS :=
  (sSeq (sIf (gNot (gB (gIsi "tuple" (gVar 1)))) (sRet (gC (.bool false))) sNil) (sSeq (sSet 2 (gNeg (gC (.int 1)))) (sSeq (sFor (giSeq (gVar 1)) (ggName 3) (sSeq (sIf (gOr (gNot (gB (gCall p_is_below (LF.gCons (gVar 0) (LF.gCons (gVar 3) LF.gNil))))) (gB (g2 pLe (gVar 3) (gVar 2)))) (sRet (gC (.bool false))) sNil) (sSet 2 (gVar 3)))) (sRet (gC (.bool true))))))
theorem t_is_lot {P : Program} {w : World} {K : PySem.W.Frag} {mg : Str → Option Value} {base : Heap} {f : Addr} {k : Nat} (c_is_below : Cal0 P w K mg base 3 "is_below" 2 p_is_below) (z_isinstance : mg "isinstance" = none) (z_tuple : mg "tuple" = none) (hk : 3 ≤ k) (cdv : Value) (A : Around) (outer : List PySem.Env) (s : Shared) (H : Hp) (E : XK) (hr : Room k (A.deeper (envOfC "is_lot" (defScope s_is_lot) s.heap.objs.size f cdv))) :
    LSs (cxOf CX0 P w K mg base ["size", "thing", "last", "wish"] "is_lot" (defScope s_is_lot) f cdv A outer s H E).nox E0 (defBody s_is_lot) (b_is_lot) :=
  (ls_cons (ls_if (lt_not (lt_val (le_isT "tuple" z_isinstance z_tuple (le_pv 1)))) (ls_one (ls_ret le_bl)) ls_nil) (ls_cons (ls_set (i := 2) sc_is_lot.nd rfl (by first | exact Or.inl rfl | exact Or.inr rfl) (le_neg le_int)) (ls_cons (ls_for PassesOwn.never rfl (li_seq (le_pv 1)) (pg_name (i := 3) sc_is_lot.nd rfl (by first | exact Or.inl rfl | exact Or.inr rfl)) gok_name (ls_cons (ls_if (lt_w (lw_or (lt_not (lt_val (le_c0 c_is_below hr (gl_cons (gl_cons gl_nil)) (la_cons (le_pv 0) (la_cons (le_pv 3) la_nil)) (by omega)))) (lw_or1 (lt_LtE (le_pv 3) (le_pv 2))))) (ls_one (ls_ret le_bl)) ls_nil) (ls_one (ls_set (i := 2) sc_is_lot.nd rfl (by first | exact Or.inl rfl | exact Or.inr rfl) (le_pv 3))))) (ls_one (ls_ret le_bl)))))
noncomputable def p_is_lot : List A → Sto → R A := runN 4 b_is_lot
abbrev s_is_order : Stmt := top 17
theorem sc_is_order : FnScope ["size", "thing", "wish"] ["size", "thing"] (defScope s_is_order) := ⟨rfl, rfl, rfl, by decide +kernel, rfl, by decide +kernel, by decide +kernel⟩
noncomputable def b_is_order : GS :=
  (sSeq (sIf (gNot (gB (gCall p_is_tuple_of (LF.gCons (gVar 0) (LF.gCons (gVar 1) LF.gNil))))) (sRet (gC (.bool false))) sNil) (sSeq (sIf (gNot (gB (gB1 pAllL (LF.gCons (gComp (giSeq (gVar 1)) 2 gYes (gCall p_is_below (LF.gCons (gVar 0) (LF.gCons (gVar 2) LF.gNil)))) LF.gNil)))) (sRet (gC (.bool false))) sNil) (sRet (g2 pEq (gLenSet (gVar 1)) (gVar 0)))))
theorem t_is_order {P : Program} {w : World} {K : PySem.W.Frag} {mg : Str → Option Value} {base : Heap} {f : Addr} {k : Nat} (z_len : mg "len" = none) (z_set : mg "set" = none) (c_is_below : Cal0 P w K mg base 3 "is_below" 2 p_is_below) (z_all : mg "all" = none) (c_is_tuple_of : Cal0 P w K mg base 1 "is_tuple_of" 2 p_is_tuple_of) (hk : 3 ≤ k) (cdv : Value) (A : Around) (outer : List PySem.Env) (s : Shared) (H : Hp) (E : XK) (hr : Room k (A.deeper (envOfC "is_order" (defScope s_is_order) s.heap.objs.size f cdv))) :
    LSs (cxOf CX0 P w K mg base ["size", "thing", "wish"] "is_order" (defScope s_is_order) f cdv A outer s H E).nox E0 (defBody s_is_order) (b_is_order) :=
  (ls_cons (ls_if (lt_not (lt_val (le_c0 c_is_tuple_of hr (gl_cons (gl_cons gl_nil)) (la_cons (le_pv 0) (la_cons (le_pv 1) la_nil)) (by omega)))) (ls_one (ls_ret le_bl)) ls_nil) (ls_cons (ls_if (lt_not (lt_val (le_all rfl z_all (le_comp rfl sc_is_order.nd (li_seq (le_pv 1)) (blkOk_by (own := [("wish", 2)]) (by first | decide +kernel | rfl)) (fun _ _ _ _ _ => pg_name (i := 2) sc_is_order.nd rfl (by first | exact Or.inl rfl | exact Or.inr rfl)) (fun _ _ _ _ _ => lts_nil) (fun _ _ _ _ _ => (le_c0 c_is_below hr (gl_cons (gl_cons gl_nil)) (la_cons (le_pv 0) (la_cons (le_pv 2) la_nil)) (by omega))))))) (ls_one (ls_ret le_bl)) ls_nil) (ls_one (ls_ret (le_Eq hr (le_lenSet rfl z_len z_set (le_pv 1)) (le_pv 0))))))
noncomputable def p_is_order : List A → Sto → R A := runN 3 b_is_order
abbrev s_lot_number : Stmt := top 18
theorem sc_lot_number : FnScope ["lot", "wish"] ["lot"] (defScope s_lot_number) := ⟨rfl, rfl, rfl, by decide +kernel, rfl, by decide +kernel, by decide +kernel⟩
noncomputable def b_lot_number : GS :=
  (sRet (gB1 pSumL (LF.gCons (gComp (giSeq (gVar 0)) 1 gYes (g2 pShl (gC (.int 1)) (gVar 1))) LF.gNil)))
theorem t_lot_number {P : Program} {w : World} {K : PySem.W.Frag} {mg : Str → Option Value} {base : Heap} {f : Addr} {k : Nat} (z_sum : mg "sum" = none) (hk : 0 ≤ k) (cdv : Value) (A : Around) (outer : List PySem.Env) (s : Shared) (H : Hp) (E : XK) (hr : Room k (A.deeper (envOfC "lot_number" (defScope s_lot_number) s.heap.objs.size f cdv))) :
    LSs (cxOf CX0 P w K mg base ["lot", "wish"] "lot_number" (defScope s_lot_number) f cdv A outer s H E).nox E0 (defBody s_lot_number) (b_lot_number) :=
  (ls_one (ls_ret (le_sum rfl z_sum (le_comp rfl sc_lot_number.nd (li_seq (le_pv 0)) (blkOk_by (own := [("wish", 1)]) (by first | decide +kernel | rfl)) (fun _ _ _ _ _ => pg_name (i := 1) sc_lot_number.nd rfl (by first | exact Or.inl rfl | exact Or.inr rfl)) (fun _ _ _ _ _ => lts_nil) (fun _ _ _ _ _ => (le_LShift le_int (le_pv 1)))))))
noncomputable def p_lot_number : List A → Sto → R A := runN 2 b_lot_number
abbrev s_lot_by : Stmt := top 19
theorem sc_lot_by : FnScope ["number", "wish"] ["number"] (defScope s_lot_by) := ⟨rfl, rfl, rfl, by decide +kernel, rfl, by decide +kernel, by decide +kernel⟩
noncomputable def b_lot_by : GS :=
  (sSeq (sExpr (gCall p_need (LF.gCons (gCall p_is_number (LF.gCons (gVar 0) LF.gNil)) (LF.gCons (gC (.str "number")) LF.gNil)))) (sRet (gB1 pTup (LF.gCons (gComp (giR1 (gBits (gVar 0))) 1 (gTru (g2 pBand (g2 pShr (gVar 0) (gVar 1)) (gC (.int 1)))) (gVar 1)) LF.gNil))))
theorem t_lot_by {P : Program} {w : World} {K : PySem.W.Frag} {mg : Str → Option Value} {base : Heap} {f : Addr} {k : Nat} (z_range : mg "range" = none) (z_tuple : mg "tuple" = none) (c_need : CalX P w K mg base 3 "need" 2 p_need) (c_is_number : Cal0 P w K mg base 2 "is_number" 1 p_is_number) (hk : 3 ≤ k) (cdv : Value) (A : Around) (outer : List PySem.Env) (s : Shared) (H : Hp) (E : XK) (hr : Room k (A.deeper (envOfC "lot_by" (defScope s_lot_by) s.heap.objs.size f cdv))) :
    LSs (cxOf (L2.CX P w) P w K mg base ["number", "wish"] "lot_by" (defScope s_lot_by) f cdv A outer s H E) E (defBody s_lot_by) (b_lot_by) :=
  (ls_cons (ls_expr (le_cX c_need hr (gl_cons (gl_cons gl_nil)) (passes_call (takes_of rfl rfl rfl rfl) fun _ _ _ _ h => h) (la_cons (le_c0 c_is_number hr (gl_cons gl_nil) (la_cons (le_pv 0) la_nil) (by omega)) (la_cons le_str la_nil)) (by omega))) (ls_one (ls_ret (le_tup1 z_tuple (le_comp rfl sc_lot_by.nd (li_r1 rfl z_range (le_bits (le_pv 0))) (blkOk_by (own := [("wish", 1)]) (by first | decide +kernel | rfl)) (fun _ _ _ _ _ => pg_name (i := 1) sc_lot_by.nd rfl (by first | exact Or.inl rfl | exact Or.inr rfl)) (fun _ _ _ _ _ => (lts_one (lt_tru (le_BitAnd (le_RShift (le_pv 0) (le_pv 1)) le_int)))) (fun _ _ _ _ _ => (le_pv 1)))))))
noncomputable def p_lot_by : List A → Sto → R A := runC 2 b_lot_by
abbrev s_lots_within : Stmt := top 20
theorem sc_lots_within : FnScope ["lot", "lots", "wish", "part"] ["lot"] (defScope s_lots_within) := ⟨rfl, rfl, rfl, by decide +kernel, rfl, by decide +kernel, by decide +kernel⟩
noncomputable def b_lots_within : GS :=
  (sSeq (sSet 1 (gLstD (LF.gCons (gTupD LF.gNil) LF.gNil))) (sSeq (sFor (giSeq (gVar 0)) (ggName 2) (sSet 1 (g2 pAdd (gVar 1) (gComp (giSeq (gVar 1)) 3 gYes (g2 pAdd (gVar 3) (gTupD (LF.gCons (gVar 2) LF.gNil))))))) (sRet (gB1 pTup (LF.gCons (gVar 1) LF.gNil)))))
theorem t_lots_within {P : Program} {w : World} {K : PySem.W.Frag} {mg : Str → Option Value} {base : Heap} {f : Addr} {k : Nat} (z_tuple : mg "tuple" = none) (hk : 0 ≤ k) (cdv : Value) (A : Around) (outer : List PySem.Env) (s : Shared) (H : Hp) (E : XK) (hr : Room k (A.deeper (envOfC "lots_within" (defScope s_lots_within) s.heap.objs.size f cdv))) :
    LSs (cxOf CX0 P w K mg base ["lot", "lots", "wish", "part"] "lots_within" (defScope s_lots_within) f cdv A outer s H E).nox E0 (defBody s_lots_within) (b_lots_within) :=
  (ls_cons (ls_set (i := 1) sc_lots_within.nd rfl (by first | exact Or.inl rfl | exact Or.inr rfl) (le_lstD (la_cons (le_tupD la_nil gl_nil) la_nil) (gl_cons gl_nil))) (ls_cons (ls_for PassesOwn.never rfl (li_seq (le_pv 0)) (pg_name (i := 2) sc_lots_within.nd rfl (by first | exact Or.inl rfl | exact Or.inr rfl)) gok_name (ls_one (ls_set (i := 1) sc_lots_within.nd rfl (by first | exact Or.inl rfl | exact Or.inr rfl) (le_Add (le_pv 1) (le_comp rfl sc_lots_within.nd (li_seq (le_pv 1)) (blkOk_by (own := [("part", 3)]) (by first | decide +kernel | rfl)) (fun _ _ _ _ _ => pg_name (i := 3) sc_lots_within.nd rfl (by first | exact Or.inl rfl | exact Or.inr rfl)) (fun _ _ _ _ _ => lts_nil) (fun _ _ _ _ _ => (le_Add (le_pv 3) (le_tupD (la_cons (le_pv 2) la_nil) (gl_cons gl_nil))))))))) (ls_one (ls_ret (le_tup1 z_tuple (le_pv 1))))))
noncomputable def p_lots_within : List A → Sto → R A := runN 4 b_lots_within
abbrev s_are_rows : Stmt := top 30
theorem sc_are_rows : FnScope ["word", "size", "thing"] ["word", "size", "thing"] (defScope s_are_rows) := ⟨rfl, rfl, rfl, by decide +kernel, rfl, by decide +kernel, by decide +kernel⟩
noncomputable def b_are_rows : GS :=
  (sSeq (sIf (gB (g2 pEq (gVar 0) (gC (.str "table")))) (sRet (gCall p_is_tuple_of (LF.gCons (g2 pShl (gC (.int 1)) (gVar 1)) (LF.gCons (gVar 2) LF.gNil)))) sNil) (sRet (gIsi "tuple" (gVar 2))))
theorem t_are_rows {P : Program} {w : World} {K : PySem.W.Frag} {mg : Str → Option Value} {base : Heap} {f : Addr} {k : Nat} (z_isinstance : mg "isinstance" = none) (z_tuple : mg "tuple" = none) (c_is_tuple_of : Cal0 P w K mg base 1 "is_tuple_of" 2 p_is_tuple_of) (hk : 1 ≤ k) (cdv : Value) (A : Around) (outer : List PySem.Env) (s : Shared) (H : Hp) (E : XK) (hr : Room k (A.deeper (envOfC "are_rows" (defScope s_are_rows) s.heap.objs.size f cdv))) :
    LSs (cxOf CX0 P w K mg base ["word", "size", "thing"] "are_rows" (defScope s_are_rows) f cdv A outer s H E).nox E0 (defBody s_are_rows) (b_are_rows) :=
  (ls_cons (ls_if (lt_Eq hr (le_pv 0) le_str) (ls_one (ls_ret (le_c0 c_is_tuple_of hr (gl_cons (gl_cons gl_nil)) (la_cons (le_LShift le_int (le_pv 1)) (la_cons (le_pv 2) la_nil)) (by omega)))) ls_nil) (ls_one (ls_ret (le_isT "tuple" z_isinstance z_tuple (le_pv 2)))))
noncomputable def p_are_rows : List A → Sto → R A := runN 3 b_are_rows
abbrev s_is_limit : Stmt := top 34
theorem sc_is_limit : FnScope ["size", "row"] ["size", "row"] (defScope s_is_limit) := ⟨rfl, rfl, rfl, by decide +kernel, rfl, by decide +kernel, by decide +kernel⟩
noncomputable def b_is_limit : GS :=
  (sSeq (sIf (gNot (gB (gCall p_is_tuple_of (LF.gCons (gC (.int 2)) (LF.gCons (gVar 1) LF.gNil))))) (sRet (gC (.bool false))) sNil) (sRet (gAndV (gCall p_is_lot (LF.gCons (gVar 0) (LF.gCons (g2 pIx (gVar 1) (gC (.int 0))) LF.gNil))) (gAndV (g2 pGt (gB1 pLen (LF.gCons (g2 pIx (gVar 1) (gC (.int 0))) LF.gNil)) (gC (.int 0))) (gCall p_is_number (LF.gCons (g2 pIx (gVar 1) (gC (.int 1))) LF.gNil))))))
theorem t_is_limit {P : Program} {w : World} {K : PySem.W.Frag} {mg : Str → Option Value} {base : Heap} {f : Addr} {k : Nat} (c_is_number : Cal0 P w K mg base 2 "is_number" 1 p_is_number) (z_len : mg "len" = none) (c_is_lot : Cal0 P w K mg base 4 "is_lot" 2 p_is_lot) (c_is_tuple_of : Cal0 P w K mg base 1 "is_tuple_of" 2 p_is_tuple_of) (hk : 4 ≤ k) (cdv : Value) (A : Around) (outer : List PySem.Env) (s : Shared) (H : Hp) (E : XK) (hr : Room k (A.deeper (envOfC "is_limit" (defScope s_is_limit) s.heap.objs.size f cdv))) :
    LSs (cxOf CX0 P w K mg base ["size", "row"] "is_limit" (defScope s_is_limit) f cdv A outer s H E).nox E0 (defBody s_is_limit) (b_is_limit) :=
  (ls_cons (ls_if (lt_not (lt_val (le_c0 c_is_tuple_of hr (gl_cons (gl_cons gl_nil)) (la_cons le_int (la_cons (le_pv 1) la_nil)) (by omega)))) (ls_one (ls_ret le_bl)) ls_nil) (ls_one (ls_ret (le_and (le_c0 c_is_lot hr (gl_cons (gl_cons gl_nil)) (la_cons (le_pv 0) (la_cons (le_ix (le_pv 1) le_int) la_nil)) (by omega)) (le_and (le_Gt (le_len z_len (le_ix (le_pv 1) le_int)) le_int) (le_one (le_c0 c_is_number hr (gl_cons gl_nil) (la_cons (le_ix (le_pv 1) le_int) la_nil) (by omega))))))))
noncomputable def p_is_limit : List A → Sto → R A := runN 2 b_is_limit
abbrev s_is_line : Stmt := top 37
theorem sc_is_line : FnScope ["prime", "rows", "at", "row", "number"] ["prime", "rows", "at"] (defScope s_is_line) := ⟨rfl, rfl, rfl, by decide +kernel, rfl, by decide +kernel, by decide +kernel⟩
noncomputable def b_is_line : GS :=
  (sSeq (sSet 3 (g2 pIx (gVar 1) (gVar 2))) (sSeq (sIf (gOr (gNot (gB (gIsi "tuple" (gVar 3)))) (gB (g2 pNe (gB1 pLen (LF.gCons (gVar 3) LF.gNil)) (gB1 pLen (LF.gCons (g2 pIx (gVar 1) (gC (.int 0))) LF.gNil))))) (sRet (gC (.bool false))) sNil) (sRet (gB1 pAllL (LF.gCons (gComp (giSeq (gVar 3)) 4 gYes (gCall p_is_below (LF.gCons (gVar 0) (LF.gCons (gVar 4) LF.gNil)))) LF.gNil)))))
theorem t_is_line {P : Program} {w : World} {K : PySem.W.Frag} {mg : Str → Option Value} {base : Heap} {f : Addr} {k : Nat} (c_is_below : Cal0 P w K mg base 3 "is_below" 2 p_is_below) (z_all : mg "all" = none) (z_len : mg "len" = none) (z_isinstance : mg "isinstance" = none) (z_tuple : mg "tuple" = none) (hk : 3 ≤ k) (cdv : Value) (A : Around) (outer : List PySem.Env) (s : Shared) (H : Hp) (E : XK) (hr : Room k (A.deeper (envOfC "is_line" (defScope s_is_line) s.heap.objs.size f cdv))) :
    LSs (cxOf CX0 P w K mg base ["prime", "rows", "at", "row", "number"] "is_line" (defScope s_is_line) f cdv A outer s H E).nox E0 (defBody s_is_line) (b_is_line) :=
  (ls_cons (ls_set (i := 3) sc_is_line.nd rfl (by first | exact Or.inl rfl | exact Or.inr rfl) (le_ix (le_pv 1) (le_pv 2))) (ls_cons (ls_if (lt_w (lw_or (lt_not (lt_val (le_isT "tuple" z_isinstance z_tuple (le_pv 3)))) (lw_or1 (lt_NotEq hr (le_len z_len (le_pv 3)) (le_len z_len (le_ix (le_pv 1) le_int)))))) (ls_one (ls_ret le_bl)) ls_nil) (ls_one (ls_ret (le_all rfl z_all (le_comp rfl sc_is_line.nd (li_seq (le_pv 3)) (blkOk_by (own := [("number", 4)]) (by first | decide +kernel | rfl)) (fun _ _ _ _ _ => pg_name (i := 4) sc_is_line.nd rfl (by first | exact Or.inl rfl | exact Or.inr rfl)) (fun _ _ _ _ _ => lts_nil) (fun _ _ _ _ _ => (le_c0 c_is_below hr (gl_cons (gl_cons gl_nil)) (la_cons (le_pv 0) (la_cons (le_pv 4) la_nil)) (by omega)))))))))
noncomputable def p_is_line : List A → Sto → R A := runN 5 b_is_line
abbrev s_is_link : Stmt := top 36
theorem sc_is_link : FnScope ["points", "row"] ["points", "row"] (defScope s_is_link) := ⟨rfl, rfl, rfl, by decide +kernel, rfl, by decide +kernel, by decide +kernel⟩
noncomputable def b_is_link : GS :=
  (sSeq (sIf (gNot (gB (gCall p_is_tuple_of (LF.gCons (gC (.int 2)) (LF.gCons (gVar 1) LF.gNil))))) (sRet (gC (.bool false))) sNil) (sRet (gAndV (gCall p_is_below (LF.gCons (gVar 0) (LF.gCons (g2 pIx (gVar 1) (gC (.int 0))) LF.gNil))) (gAndV (gCall p_is_below (LF.gCons (gVar 0) (LF.gCons (g2 pIx (gVar 1) (gC (.int 1))) LF.gNil))) (g2 pLe (g2 pIx (gVar 1) (gC (.int 0))) (g2 pIx (gVar 1) (gC (.int 1))))))))
theorem t_is_link {P : Program} {w : World} {K : PySem.W.Frag} {mg : Str → Option Value} {base : Heap} {f : Addr} {k : Nat} (c_is_below : Cal0 P w K mg base 3 "is_below" 2 p_is_below) (c_is_tuple_of : Cal0 P w K mg base 1 "is_tuple_of" 2 p_is_tuple_of) (hk : 3 ≤ k) (cdv : Value) (A : Around) (outer : List PySem.Env) (s : Shared) (H : Hp) (E : XK) (hr : Room k (A.deeper (envOfC "is_link" (defScope s_is_link) s.heap.objs.size f cdv))) :
    LSs (cxOf CX0 P w K mg base ["points", "row"] "is_link" (defScope s_is_link) f cdv A outer s H E).nox E0 (defBody s_is_link) (b_is_link) :=
  (ls_cons (ls_if (lt_not (lt_val (le_c0 c_is_tuple_of hr (gl_cons (gl_cons gl_nil)) (la_cons le_int (la_cons (le_pv 1) la_nil)) (by omega)))) (ls_one (ls_ret le_bl)) ls_nil) (ls_one (ls_ret (le_and (le_c0 c_is_below hr (gl_cons (gl_cons gl_nil)) (la_cons (le_pv 0) (la_cons (le_ix (le_pv 1) le_int) la_nil)) (by omega)) (le_and (le_c0 c_is_below hr (gl_cons (gl_cons gl_nil)) (la_cons (le_pv 0) (la_cons (le_ix (le_pv 1) le_int) la_nil)) (by omega)) (le_one (le_LtE (le_ix (le_pv 1) le_int) (le_ix (le_pv 1) le_int))))))))
noncomputable def p_is_link : List A → Sto → R A := runN 2 b_is_link
abbrev s_adds_late : Stmt := top 39
theorem sc_adds_late : FnScope ["ranks", "number", "one", "other", "rest"] ["ranks", "number", "one", "other"] (defScope s_adds_late) := ⟨rfl, rfl, rfl, by decide +kernel, rfl, by decide +kernel, by decide +kernel⟩
noncomputable def b_adds_late : GS :=
  (sSeq (sSet 4 (g2 pIx (gVar 0) (g2 pSub (g2 pSub (gVar 1) (gVar 2)) (gVar 3)))) (sRet (gAndV (g2 pEq (g2 pIx (gVar 0) (g2 pSub (gVar 1) (gVar 2))) (gVar 4)) (gAndV (g2 pEq (g2 pIx (gVar 0) (g2 pSub (gVar 1) (gVar 3))) (gVar 4)) (g2 pNe (g2 pIx (gVar 0) (gVar 1)) (gVar 4))))))
theorem t_adds_late {P : Program} {w : World} {K : PySem.W.Frag} {mg : Str → Option Value} {base : Heap} {f : Addr} {k : Nat} (hk : 0 ≤ k) (cdv : Value) (A : Around) (outer : List PySem.Env) (s : Shared) (H : Hp) (E : XK) (hr : Room k (A.deeper (envOfC "adds_late" (defScope s_adds_late) s.heap.objs.size f cdv))) :
    LSs (cxOf CX0 P w K mg base ["ranks", "number", "one", "other", "rest"] "adds_late" (defScope s_adds_late) f cdv A outer s H E).nox E0 (defBody s_adds_late) (b_adds_late) :=
  (ls_cons (ls_set (i := 4) sc_adds_late.nd rfl (by first | exact Or.inl rfl | exact Or.inr rfl) (le_ix (le_pv 0) (le_Sub (le_Sub (le_pv 1) (le_pv 2)) (le_pv 3)))) (ls_one (ls_ret (le_and (le_Eq hr (le_ix (le_pv 0) (le_Sub (le_pv 1) (le_pv 2))) (le_pv 4)) (le_and (le_Eq hr (le_ix (le_pv 0) (le_Sub (le_pv 1) (le_pv 3))) (le_pv 4)) (le_one (le_NotEq hr (le_ix (le_pv 0) (le_pv 1)) (le_pv 4))))))))
noncomputable def p_adds_late : List A → Sto → R A := runN 5 b_adds_late
abbrev s_is_rank : Stmt := top 38
theorem sc_is_rank : FnScope ["ranks", "number", "rank", "bits", "one", "other", "wish"] ["ranks", "number"] (defScope s_is_rank) := ⟨rfl, rfl, rfl, by decide +kernel, rfl, by decide +kernel, by decide +kernel⟩
noncomputable def b_is_rank : GS :=
  (sSeq (sSet 2 (g2 pIx (gVar 0) (gVar 1))) (sSeq (sIf (gNot (gB (gCall p_is_number (LF.gCons (gVar 2) LF.gNil)))) (sRet (gC (.bool false))) sNil) (sSeq (sIf (gB (g2 pEq (gVar 1) (gC (.int 0)))) (sRet (g2 pEq (gVar 2) (gC (.int 0)))) sNil) (sSeq (sSet 3 (gComp (giSeq (gCall p_lot_by (LF.gCons (gVar 1) LF.gNil))) 6 gYes (g2 pShl (gC (.int 1)) (gVar 6)))) (sSeq (sFor (giSeq (gVar 3)) (ggName 4) (sSeq (sIf (gB (g2 (pIn not) (g2 pSub (gVar 2) (g2 pIx (gVar 0) (g2 pSub (gVar 1) (gVar 4)))) (gTupD (LF.gCons (gC (.int 0)) (LF.gCons (gC (.int 1)) LF.gNil))))) (sRet (gC (.bool false))) sNil) (sFor (giSeq (gVar 3)) (ggName 5) (sIf (gAnd (gB (g2 pLt (gVar 5) (gVar 4))) (gB (gCall p_adds_late (LF.gCons (gVar 0) (LF.gCons (gVar 1) (LF.gCons (gVar 4) (LF.gCons (gVar 5) LF.gNil))))))) (sRet (gC (.bool false))) sNil)))) (sRet (gC (.bool true))))))))
theorem t_is_rank {P : Program} {w : World} {K : PySem.W.Frag} {mg : Str → Option Value} {base : Heap} {f : Addr} {k : Nat} (c_adds_late : Cal0 P w K mg base 1 "adds_late" 4 p_adds_late) (c_lot_by : CalX P w K mg base 4 "lot_by" 1 p_lot_by) (c_is_number : Cal0 P w K mg base 2 "is_number" 1 p_is_number) (hk : 4 ≤ k) (cdv : Value) (A : Around) (outer : List PySem.Env) (s : Shared) (H : Hp) (E : XK) (hr : Room k (A.deeper (envOfC "is_rank" (defScope s_is_rank) s.heap.objs.size f cdv))) :
    LSs (cxOf (L2.CX P w) P w K mg base ["ranks", "number", "rank", "bits", "one", "other", "wish"] "is_rank" (defScope s_is_rank) f cdv A outer s H E) E (defBody s_is_rank) (b_is_rank) :=
  (ls_cons (ls_set (i := 2) sc_is_rank.nd rfl (by first | exact Or.inl rfl | exact Or.inr rfl) (le_ix (le_pv 0) (le_pv 1))) (ls_cons (ls_if (lt_not (lt_val (le_c0 c_is_number hr (gl_cons gl_nil) (la_cons (le_pv 2) la_nil) (by omega)))) (ls_one (ls_ret le_bl)) ls_nil) (ls_cons (ls_if (lt_Eq hr (le_pv 1) le_int) (ls_one (ls_ret (le_Eq hr (le_pv 2) le_int))) ls_nil) (ls_cons (ls_setComp (j := 3) rfl sc_is_rank.nd rfl rfl (sw_true rfl rfl rfl (by decide +kernel)) (li_seq (le_cX c_lot_by hr (gl_cons gl_nil) (passes_call (takes_of rfl rfl rfl rfl) fun _ _ _ _ h => h) (la_cons (le_pv 1) la_nil) (by omega))) (blkOk_by (own := [("wish", 6)]) (by first | decide +kernel | rfl)) (fun _ _ _ _ _ => pg_name (i := 6) sc_is_rank.nd rfl (by first | exact Or.inl rfl | exact Or.inr rfl)) (fun _ _ _ _ _ => lts_nil) (fun _ _ _ _ _ => (le_LShift le_int (le_pv 6)))) (ls_cons (ls_for (passes_of rfl) rfl (li_seq (le_pv 3)) (pg_name (i := 4) sc_is_rank.nd rfl (by first | exact Or.inl rfl | exact Or.inr rfl)) gok_name (ls_cons (ls_if (lt_NotIn hr (le_Sub (le_pv 2) (le_ix (le_pv 0) (le_Sub (le_pv 1) (le_pv 4)))) (le_tupD (la_cons le_int (la_cons le_int la_nil)) (gl_cons (gl_cons gl_nil)))) (ls_one (ls_ret le_bl)) ls_nil) (ls_one (ls_for (passes_of rfl) rfl (li_seq (le_pv 3)) (pg_name (i := 5) sc_is_rank.nd rfl (by first | exact Or.inl rfl | exact Or.inr rfl)) gok_name (ls_one (ls_if (lt_w (lw_and (lt_Lt (le_pv 5) (le_pv 4)) (lw_and1 (lt_val (le_c0 c_adds_late hr (gl_cons (gl_cons (gl_cons (gl_cons gl_nil)))) (la_cons (le_pv 0) (la_cons (le_pv 1) (la_cons (le_pv 4) (la_cons (le_pv 5) la_nil)))) (by omega)))))) (ls_one (ls_ret le_bl)) ls_nil)))))) (ls_one (ls_ret le_bl)))))))
noncomputable def p_is_rank : List A → Sto → R A := runC 7 b_is_rank
abbrev s_is_row : Stmt := top 33
theorem sc_is_row : FnScope ["word", "size", "rows", "at"] ["word", "size", "rows", "at"] (defScope s_is_row) := ⟨rfl, rfl, rfl, by decide +kernel, rfl, by decide +kernel, by decide +kernel⟩
noncomputable def b_is_row : GS :=
  (sSeq (sIf (gB (g2 pEq (gVar 0) (gC (.str "limits")))) (sRet (gCall p_is_limit (LF.gCons (gVar 1) (LF.gCons (g2 pIx (gVar 2) (gVar 3)) LF.gNil)))) sNil) (sSeq (sIf (gB (g2 pEq (gVar 0) (gC (.str "slots")))) (sRet (gCall p_is_lot (LF.gCons (gVar 1) (LF.gCons (g2 pIx (gVar 2) (gVar 3)) LF.gNil)))) sNil) (sSeq (sIf (gB (g2 pEq (gVar 0) (gC (.str "web")))) (sRet (gCall p_is_link (LF.gCons (gVar 1) (LF.gCons (g2 pIx (gVar 2) (gVar 3)) LF.gNil)))) sNil) (sSeq (sIf (gB (g2 pEq (gVar 0) (gC (.str "rows")))) (sRet (gCall p_is_line (LF.gCons (gVar 1) (LF.gCons (gVar 2) (LF.gCons (gVar 3) LF.gNil))))) sNil) (sRet (gCall p_is_rank (LF.gCons (gVar 2) (LF.gCons (gVar 3) LF.gNil))))))))
theorem t_is_row {P : Program} {w : World} {K : PySem.W.Frag} {mg : Str → Option Value} {base : Heap} {f : Addr} {k : Nat} (c_is_rank : CalX P w K mg base 5 "is_rank" 2 p_is_rank) (c_is_line : Cal0 P w K mg base 4 "is_line" 3 p_is_line) (c_is_link : Cal0 P w K mg base 4 "is_link" 2 p_is_link) (c_is_lot : Cal0 P w K mg base 4 "is_lot" 2 p_is_lot) (c_is_limit : Cal0 P w K mg base 5 "is_limit" 2 p_is_limit) (hk : 5 ≤ k) (cdv : Value) (A : Around) (outer : List PySem.Env) (s : Shared) (H : Hp) (E : XK) (hr : Room k (A.deeper (envOfC "is_row" (defScope s_is_row) s.heap.objs.size f cdv))) :
    LSs (cxOf (L2.CX P w) P w K mg base ["word", "size", "rows", "at"] "is_row" (defScope s_is_row) f cdv A outer s H E) E (defBody s_is_row) (b_is_row) :=
  (ls_cons (ls_if (lt_Eq hr (le_pv 0) le_str) (ls_one (ls_ret (le_c0 c_is_limit hr (gl_cons (gl_cons gl_nil)) (la_cons (le_pv 1) (la_cons (le_ix (le_pv 2) (le_pv 3)) la_nil)) (by omega)))) ls_nil) (ls_cons (ls_if (lt_Eq hr (le_pv 0) le_str) (ls_one (ls_ret (le_c0 c_is_lot hr (gl_cons (gl_cons gl_nil)) (la_cons (le_pv 1) (la_cons (le_ix (le_pv 2) (le_pv 3)) la_nil)) (by omega)))) ls_nil) (ls_cons (ls_if (lt_Eq hr (le_pv 0) le_str) (ls_one (ls_ret (le_c0 c_is_link hr (gl_cons (gl_cons gl_nil)) (la_cons (le_pv 1) (la_cons (le_ix (le_pv 2) (le_pv 3)) la_nil)) (by omega)))) ls_nil) (ls_cons (ls_if (lt_Eq hr (le_pv 0) le_str) (ls_one (ls_ret (le_c0 c_is_line hr (gl_cons (gl_cons (gl_cons gl_nil))) (la_cons (le_pv 1) (la_cons (le_pv 2) (la_cons (le_pv 3) la_nil))) (by omega)))) ls_nil) (ls_one (ls_ret (le_cX c_is_rank hr (gl_cons (gl_cons gl_nil)) (passes_call (takes_of rfl rfl rfl rfl) fun _ _ _ _ h => h) (la_cons (le_pv 2) (la_cons (le_pv 3) la_nil)) (by omega))))))))
noncomputable def p_is_row : List A → Sto → R A := runC 4 b_is_row
abbrev s_is_uncrossed : Stmt := top 35
theorem sc_is_uncrossed : FnScope ["rows", "at", "lot", "other", "_", "common"] ["rows", "at"] (defScope s_is_uncrossed) := ⟨rfl, rfl, rfl, by decide +kernel, rfl, by decide +kernel, by decide +kernel⟩
noncomputable def b_is_uncrossed : GS :=
  (sSeq (sSet 2 (g2 pIx (g2 pIx (gVar 0) (gVar 1)) (gC (.int 0)))) (sSeq (sFor (giSeq (gSl (gVar 0) oNone (oSome (gVar 1)))) (ggTup [(ggName 3), (ggName 4)]) (sSeq (sSet 5 (gLenCap (gVar 2) (gVar 3))) (sSeq (sIf (gAnd (gB (g2 pNe (gVar 5) (gC (.int 0)))) (gAnd (gB (g2 pNe (gVar 5) (gB1 pLen (LF.gCons (gVar 2) LF.gNil)))) (gB (g2 pNe (gVar 5) (gB1 pLen (LF.gCons (gVar 3) LF.gNil)))))) (sRet (gC (.bool false))) sNil) (sIf (gB (g2 pEq (gVar 2) (gVar 3))) (sRet (gC (.bool false))) sNil)))) (sRet (gC (.bool true)))))
theorem t_is_uncrossed {P : Program} {w : World} {K : PySem.W.Frag} {mg : Str → Option Value} {base : Heap} {f : Addr} {k : Nat} (z_len : mg "len" = none) (z_set : mg "set" = none) (hk : 0 ≤ k) (cdv : Value) (A : Around) (outer : List PySem.Env) (s : Shared) (H : Hp) (E : XK) (hr : Room k (A.deeper (envOfC "is_uncrossed" (defScope s_is_uncrossed) s.heap.objs.size f cdv))) :
    LSs (cxOf CX0 P w K mg base ["rows", "at", "lot", "other", "_", "common"] "is_uncrossed" (defScope s_is_uncrossed) f cdv A outer s H E).nox E0 (defBody s_is_uncrossed) (b_is_uncrossed) :=
  (ls_cons (ls_set (i := 2) sc_is_uncrossed.nd rfl (by first | exact Or.inl rfl | exact Or.inr rfl) (le_ix (le_ix (le_pv 0) (le_pv 1)) le_int)) (ls_cons (ls_for PassesOwn.never rfl (li_seq (le_sl (le_pv 0) lo_none (lo_some (le_pv 1)))) (pg_tup rfl (pgs_cons (pg_name (i := 3) sc_is_uncrossed.nd rfl (by first | exact Or.inl rfl | exact Or.inr rfl)) (pgs_cons (pg_name (i := 4) sc_is_uncrossed.nd rfl (by first | exact Or.inl rfl | exact Or.inr rfl)) pgs_nil))) (gok_tup rfl (gsok_cons gok_name (gsok_cons gok_name gsok_nil))) (ls_cons (ls_set (i := 5) sc_is_uncrossed.nd rfl (by first | exact Or.inl rfl | exact Or.inr rfl) (le_lenCap rfl z_len z_set (le_pv 2) (le_pv 3))) (ls_cons (ls_if (lt_w (lw_and (lt_NotEq hr (le_pv 5) le_int) (lw_and (lt_NotEq hr (le_pv 5) (le_len z_len (le_pv 2))) (lw_and1 (lt_NotEq hr (le_pv 5) (le_len z_len (le_pv 3))))))) (ls_one (ls_ret le_bl)) ls_nil) (ls_one (ls_if (lt_Eq hr (le_pv 2) (le_pv 3)) (ls_one (ls_ret le_bl)) ls_nil))))) (ls_one (ls_ret le_bl))))
noncomputable def p_is_uncrossed : List A → Sto → R A := runN 6 b_is_uncrossed
abbrev s_check_rows : Stmt := top 32
theorem sc_check_rows : FnScope ["word", "size", "rows", "at"] ["word", "size", "rows"] (defScope s_check_rows) := ⟨rfl, rfl, rfl, by decide +kernel, rfl, by decide +kernel, by decide +kernel⟩
noncomputable def b_check_rows : GS :=
  (sFor (giR1 (gB1 pLen (LF.gCons (gVar 2) LF.gNil))) (ggName 3) (sSeq (sExpr (gCall p_demand (LF.gCons (gCall p_is_row (LF.gCons (gVar 0) (LF.gCons (gVar 1) (LF.gCons (gVar 2) (LF.gCons (gVar 3) LF.gNil))))) (LF.gCons (gC (.str "row")) (LF.gCons (gVar 3) LF.gNil))))) (sIf (gB (g2 pEq (gVar 0) (gC (.str "limits")))) (sExpr (gCall p_demand (LF.gCons (gCall p_is_uncrossed (LF.gCons (gVar 2) (LF.gCons (gVar 3) LF.gNil))) (LF.gCons (gC (.str "cross")) (LF.gCons (gVar 3) LF.gNil))))) sNil)))
theorem t_check_rows {P : Program} {w : World} {K : PySem.W.Frag} {mg : Str → Option Value} {base : Heap} {f : Addr} {k : Nat} (z_len : mg "len" = none) (z_range : mg "range" = none) (c_demand : CalX P w K mg base 3 "demand" 3 p_demand) (c_is_uncrossed : Cal0 P w K mg base 1 "is_uncrossed" 2 p_is_uncrossed) (c_is_row : CalX P w K mg base 6 "is_row" 4 p_is_row) (hk : 6 ≤ k) (cdv : Value) (A : Around) (outer : List PySem.Env) (s : Shared) (H : Hp) (E : XK) (hr : Room k (A.deeper (envOfC "check_rows" (defScope s_check_rows) s.heap.objs.size f cdv))) :
    LSs (cxOf (L2.CX P w) P w K mg base ["word", "size", "rows", "at"] "check_rows" (defScope s_check_rows) f cdv A outer s H E) E (defBody s_check_rows) (b_check_rows) :=
  (ls_one (ls_for (passes_of rfl) rfl (li_r1 rfl z_range (le_len z_len (le_pv 2))) (pg_name (i := 3) sc_check_rows.nd rfl (by first | exact Or.inl rfl | exact Or.inr rfl)) gok_name (ls_cons (ls_expr (le_cX c_demand hr (gl_cons (gl_cons (gl_cons gl_nil))) (passes_call (takes_of rfl rfl rfl rfl) fun _ _ _ _ h => h) (la_cons (le_cX c_is_row hr (gl_cons (gl_cons (gl_cons (gl_cons gl_nil)))) (passes_call (takes_of rfl rfl rfl rfl) fun _ _ _ _ h => h) (la_cons (le_pv 0) (la_cons (le_pv 1) (la_cons (le_pv 2) (la_cons (le_pv 3) la_nil)))) (by omega)) (la_cons le_str (la_cons (le_pv 3) la_nil))) (by omega))) (ls_one (ls_if (lt_Eq hr (le_pv 0) le_str) (ls_one (ls_expr (le_cX c_demand hr (gl_cons (gl_cons (gl_cons gl_nil))) (passes_call (takes_of rfl rfl rfl rfl) fun _ _ _ _ h => h) (la_cons (le_c0 c_is_uncrossed hr (gl_cons (gl_cons gl_nil)) (la_cons (le_pv 2) (la_cons (le_pv 3) la_nil)) (by omega)) (la_cons le_str (la_cons (le_pv 3) la_nil))) (by omega)))) ls_nil)))))
noncomputable def p_check_rows : List A → Sto → R A := runC 4 b_check_rows
abbrev s_has_shape : Stmt := top 28
theorem sc_has_shape : FnScope ["thing"] ["thing"] (defScope s_has_shape) := ⟨rfl, rfl, rfl, by decide +kernel, rfl, by decide +kernel, by decide +kernel⟩
noncomputable def b_has_shape : GS :=
  (sSeq (sIf (gOr (gNot (gB (gIsi "tuple" (gVar 0)))) (gB (g2 pEq (gB1 pLen (LF.gCons (gVar 0) LF.gNil)) (gC (.int 0))))) (sRet (gC (.bool false))) sNil) (sSeq (sIf (gB (g2 (pIn not) (g2 pIx (gVar 0) (gC (.int 0))) (gC d_WORDS))) (sRet (gC (.bool false))) sNil) (sRet (g2 pEq (gB1 pLen (LF.gCons (gVar 0) LF.gNil)) (gIf (gB (g2 pEq (g2 pIx (gVar 0) (gC (.int 0))) (gC (.str "beside")))) (gC (.int 2)) (gC (.int 3)))))))
theorem t_has_shape {P : Program} {w : World} {K : PySem.W.Frag} {mg : Str → Option Value} {base : Heap} {f : Addr} {k : Nat} (z_len : mg "len" = none) (gl_WORDS : GlobC K mg "WORDS" d_WORDS) (z_isinstance : mg "isinstance" = none) (z_tuple : mg "tuple" = none) (hk : 0 ≤ k) (cdv : Value) (A : Around) (outer : List PySem.Env) (s : Shared) (H : Hp) (E : XK) (hr : Room k (A.deeper (envOfC "has_shape" (defScope s_has_shape) s.heap.objs.size f cdv))) :
    LSs (cxOf CX0 P w K mg base ["thing"] "has_shape" (defScope s_has_shape) f cdv A outer s H E).nox E0 (defBody s_has_shape) (b_has_shape) :=
  (ls_cons (ls_if (lt_w (lw_or (lt_not (lt_val (le_isT "tuple" z_isinstance z_tuple (le_pv 0)))) (lw_or1 (lt_Eq hr (le_len z_len (le_pv 0)) le_int)))) (ls_one (ls_ret le_bl)) ls_nil) (ls_cons (ls_if (lt_NotIn hr (le_ix (le_pv 0) le_int) (le_globC gl_WORDS)) (ls_one (ls_ret le_bl)) ls_nil) (ls_one (ls_ret (le_Eq hr (le_len z_len (le_pv 0)) (le_if (lt_Eq hr (le_ix (le_pv 0) le_int) le_str) le_int le_int))))))
noncomputable def p_has_shape : List A → Sto → R A := runN 1 b_has_shape
abbrev s_is_second : Stmt := top 29
theorem sc_is_second : FnScope ["word", "thing"] ["word", "thing"] (defScope s_is_second) := ⟨rfl, rfl, rfl, by decide +kernel, rfl, by decide +kernel, by decide +kernel⟩
noncomputable def b_is_second : GS :=
  (sSeq (sIf (gNot (gB (gCall p_is_number (LF.gCons (gVar 1) LF.gNil)))) (sRet (gC (.bool false))) sNil) (sSeq (sIf (gB (g2 pEq (gVar 0) (gC (.str "rows")))) (sRet (g2 (pIn id) (gVar 1) (gC d_PRIMES))) sNil) (sRet (gOrV (g2 pNe (gVar 0) (gC (.str "table"))) (g2 pLe (gVar 1) (gC d_GREATEST_TABLE))))))
theorem t_is_second {P : Program} {w : World} {K : PySem.W.Frag} {mg : Str → Option Value} {base : Heap} {f : Addr} {k : Nat} (gl_GREATEST_TABLE : GlobC K mg "GREATEST_TABLE" d_GREATEST_TABLE) (gl_PRIMES : GlobC K mg "PRIMES" d_PRIMES) (c_is_number : Cal0 P w K mg base 2 "is_number" 1 p_is_number) (hk : 2 ≤ k) (cdv : Value) (A : Around) (outer : List PySem.Env) (s : Shared) (H : Hp) (E : XK) (hr : Room k (A.deeper (envOfC "is_second" (defScope s_is_second) s.heap.objs.size f cdv))) :
    LSs (cxOf CX0 P w K mg base ["word", "thing"] "is_second" (defScope s_is_second) f cdv A outer s H E).nox E0 (defBody s_is_second) (b_is_second) :=
  (ls_cons (ls_if (lt_not (lt_val (le_c0 c_is_number hr (gl_cons gl_nil) (la_cons (le_pv 1) la_nil) (by omega)))) (ls_one (ls_ret le_bl)) ls_nil) (ls_cons (ls_if (lt_Eq hr (le_pv 0) le_str) (ls_one (ls_ret (le_In hr (le_pv 1) (le_globC gl_PRIMES)))) ls_nil) (ls_one (ls_ret (le_or (le_NotEq hr (le_pv 0) le_str) (le_one (le_LtE (le_pv 1) (le_globC gl_GREATEST_TABLE))))))))
noncomputable def p_is_second : List A → Sto → R A := runN 2 b_is_second
abbrev s_wish_count : Stmt := top 27
theorem sc_wish_count : FnScope ["house", "part"] ["house"] (defScope s_wish_count) := ⟨rfl, rfl, rfl, by decide +kernel, rfl, by decide +kernel, by decide +kernel⟩
noncomputable def b_wish_count (f_wish_count : List A → Sto → R A) : GS :=
  (sSeq (sIf (gB (g2 pEq (g2 pIx (gVar 0) (gC (.int 0))) (gC (.str "beside")))) (sRet (gB1 pSumL (LF.gCons (gComp (giSeq (g2 pIx (gVar 0) (gC (.int 1)))) 1 gYes (gCall f_wish_count (LF.gCons (gVar 1) LF.gNil))) LF.gNil))) sNil) (sSeq (sIf (gOr (gB (g2 pEq (g2 pIx (gVar 0) (gC (.int 0))) (gC (.str "limits")))) (gB (g2 pEq (g2 pIx (gVar 0) (gC (.int 0))) (gC (.str "table"))))) (sRet (g2 pIx (gVar 0) (gC (.int 1)))) sNil) (sRet (gB1 pLen (LF.gCons (g2 pIx (gVar 0) (gC (.int 2))) LF.gNil)))))
theorem t_wish_count {P : Program} {w : World} {K : PySem.W.Frag} {mg : Str → Option Value} {base : Heap} {f : Addr} {k : Nat} {j : Nat} (f_wish_count : List A → Sto → R A) (z_len : mg "len" = none) (c_wish_count : Cal0 P w K mg base j "wish_count" 1 f_wish_count) (z_sum : mg "sum" = none) (hk : 0 ≤ k) (hj : j ≤ k) (cdv : Value) (A : Around) (outer : List PySem.Env) (s : Shared) (H : Hp) (E : XK) (hr : Room k (A.deeper (envOfC "wish_count" (defScope s_wish_count) s.heap.objs.size f cdv))) :
    LSs (cxOf CX0 P w K mg base ["house", "part"] "wish_count" (defScope s_wish_count) f cdv A outer s H E).nox E0 (defBody s_wish_count) (b_wish_count f_wish_count) :=
  (ls_cons (ls_if (lt_Eq hr (le_ix (le_pv 0) le_int) le_str) (ls_one (ls_ret (le_sum rfl z_sum (le_comp rfl sc_wish_count.nd (li_seq (le_ix (le_pv 0) le_int)) (blkOk_by (own := [("part", 1)]) (by first | decide +kernel | rfl)) (fun _ _ _ _ _ => pg_name (i := 1) sc_wish_count.nd rfl (by first | exact Or.inl rfl | exact Or.inr rfl)) (fun _ _ _ _ _ => lts_nil) (fun _ _ _ _ _ => (le_c0 c_wish_count hr (gl_cons gl_nil) (la_cons (le_pv 1) la_nil) (by omega))))))) ls_nil) (ls_cons (ls_if (lt_w (lw_or (lt_Eq hr (le_ix (le_pv 0) le_int) le_str) (lw_or1 (lt_Eq hr (le_ix (le_pv 0) le_int) le_str)))) (ls_one (ls_ret (le_ix (le_pv 0) le_int))) ls_nil) (ls_one (ls_ret (le_len z_len (le_ix (le_pv 0) le_int))))))
mutual
noncomputable def p_wish_count : Nat → List A → Sto → R A
  | 0 => fun _ _ => .bad
  | n + 1 => runN 2 (b_wish_count (p_wish_count n))
end
abbrev s_is_house : Stmt := top 25
theorem sc_is_house : FnScope ["thing"] ["thing"] (defScope s_is_house) := ⟨rfl, rfl, rfl, by decide +kernel, rfl, by decide +kernel, by decide +kernel⟩
noncomputable def b_is_house (f_lets_house : List A → Sto → R A) : GS :=
  (sSeq (sTryE "InvalidPaper" (gCall f_lets_house (LF.gCons (gVar 0) LF.gNil)) (sRet (gC (.bool false)))) (sRet (gC (.bool true))))
theorem t_is_house {P : Program} {w : World} {K : PySem.W.Frag} {mg : Str → Option Value} {base : Heap} {f : Addr} {k : Nat} {j : Nat} (f_lets_house : List A → Sto → R A) (c_lets_house : CalX P w K mg base j "lets_house" 1 f_lets_house) (x_InvalidPaper : ExcN K mg "InvalidPaper") (hk : 0 ≤ k) (hj : j ≤ k) (cdv : Value) (A : Around) (outer : List PySem.Env) (s : Shared) (H : Hp) (E : XK) (hr : Room k (A.deeper (envOfC "is_house" (defScope s_is_house) s.heap.objs.size f cdv))) :
    LSs (cxOf CX0 P w K mg base ["thing"] "is_house" (defScope s_is_house) f cdv A outer s H E).nox E0 (defBody s_is_house) (b_is_house f_lets_house) :=
  (ls_cons (ls_tryN rfl rfl x_InvalidPaper (fun W pn xe tk po => (le_cS c_lets_house hr (gl_cons gl_nil) (fun σ => passAt tk σ) (la_cons (le_pv 0) la_nil) (by omega))) (fun a pn => (ls_one (ls_ret le_bl)))) (ls_one (ls_ret le_bl)))
abbrev s_lets_house : Stmt := top 26
theorem sc_lets_house : FnScope ["thing"] ["thing"] (defScope s_lets_house) := ⟨rfl, rfl, rfl, by decide +kernel, rfl, by decide +kernel, by decide +kernel⟩
noncomputable def b_lets_house (f_check_beside : List A → Sto → R A) : GS :=
  (sSeq (sExpr (gCall p_demand (LF.gCons (gCall p_has_shape (LF.gCons (gVar 0) LF.gNil)) (LF.gCons (gC (.str "shape")) (LF.gCons (gNeg (gC (.int 1))) LF.gNil))))) (sSeq (sIf (gB (g2 pEq (g2 pIx (gVar 0) (gC (.int 0))) (gC (.str "beside")))) (sExpr (gCall f_check_beside (LF.gCons (g2 pIx (gVar 0) (gC (.int 1))) LF.gNil))) (sSeq (sExpr (gCall p_demand (LF.gCons (gCall p_is_second (LF.gCons (g2 pIx (gVar 0) (gC (.int 0))) (LF.gCons (g2 pIx (gVar 0) (gC (.int 1))) LF.gNil))) (LF.gCons (gC (.str "size")) (LF.gCons (gNeg (gC (.int 1))) LF.gNil))))) (sSeq (sExpr (gCall p_demand (LF.gCons (gCall p_are_rows (LF.gCons (g2 pIx (gVar 0) (gC (.int 0))) (LF.gCons (g2 pIx (gVar 0) (gC (.int 1))) (LF.gCons (g2 pIx (gVar 0) (gC (.int 2))) LF.gNil)))) (LF.gCons (gC (.str "rows")) (LF.gCons (gNeg (gC (.int 1))) LF.gNil))))) (sExpr (gCall p_check_rows (LF.gCons (g2 pIx (gVar 0) (gC (.int 0))) (LF.gCons (g2 pIx (gVar 0) (gC (.int 1))) (LF.gCons (g2 pIx (gVar 0) (gC (.int 2))) LF.gNil)))))))) (sRet (gCall (p_wish_count (16)) (LF.gCons (gVar 0) LF.gNil)))))
theorem t_lets_house {P : Program} {w : World} {K : PySem.W.Frag} {mg : Str → Option Value} {base : Heap} {f : Addr} {k : Nat} {j : Nat} (f_check_beside : List A → Sto → R A) (c_wish_count : Cal0 P w K mg base 17 "wish_count" 1 (p_wish_count (16))) (c_check_beside : CalX P w K mg base j "check_beside" 1 f_check_beside) (c_check_rows : CalX P w K mg base 7 "check_rows" 3 p_check_rows) (c_demand : CalX P w K mg base 3 "demand" 3 p_demand) (c_are_rows : Cal0 P w K mg base 2 "are_rows" 3 p_are_rows) (c_is_second : Cal0 P w K mg base 3 "is_second" 2 p_is_second) (c_has_shape : Cal0 P w K mg base 1 "has_shape" 1 p_has_shape) (hk : 17 ≤ k) (hj : j ≤ k) (cdv : Value) (A : Around) (outer : List PySem.Env) (s : Shared) (H : Hp) (E : XK) (hr : Room k (A.deeper (envOfC "lets_house" (defScope s_lets_house) s.heap.objs.size f cdv))) :
    LSs (cxOf (L2.CX P w) P w K mg base ["thing"] "lets_house" (defScope s_lets_house) f cdv A outer s H E) E (defBody s_lets_house) (b_lets_house f_check_beside) :=
  (ls_cons (ls_expr (le_cX c_demand hr (gl_cons (gl_cons (gl_cons gl_nil))) (passes_call (takes_of rfl rfl rfl rfl) fun _ _ _ _ h => h) (la_cons (le_c0 c_has_shape hr (gl_cons gl_nil) (la_cons (le_pv 0) la_nil) (by omega)) (la_cons le_str (la_cons (le_neg le_int) la_nil))) (by omega))) (ls_cons (ls_if (lt_Eq hr (le_ix (le_pv 0) le_int) le_str) (ls_one (ls_expr (le_cX c_check_beside hr (gl_cons gl_nil) (passes_call (takes_of rfl rfl rfl rfl) fun _ _ _ _ h => h) (la_cons (le_ix (le_pv 0) le_int) la_nil) (by omega)))) (ls_cons (ls_expr (le_cX c_demand hr (gl_cons (gl_cons (gl_cons gl_nil))) (passes_call (takes_of rfl rfl rfl rfl) fun _ _ _ _ h => h) (la_cons (le_c0 c_is_second hr (gl_cons (gl_cons gl_nil)) (la_cons (le_ix (le_pv 0) le_int) (la_cons (le_ix (le_pv 0) le_int) la_nil)) (by omega)) (la_cons le_str (la_cons (le_neg le_int) la_nil))) (by omega))) (ls_cons (ls_expr (le_cX c_demand hr (gl_cons (gl_cons (gl_cons gl_nil))) (passes_call (takes_of rfl rfl rfl rfl) fun _ _ _ _ h => h) (la_cons (le_c0 c_are_rows hr (gl_cons (gl_cons (gl_cons gl_nil))) (la_cons (le_ix (le_pv 0) le_int) (la_cons (le_ix (le_pv 0) le_int) (la_cons (le_ix (le_pv 0) le_int) la_nil))) (by omega)) (la_cons le_str (la_cons (le_neg le_int) la_nil))) (by omega))) (ls_one (ls_expr (le_cX c_check_rows hr (gl_cons (gl_cons (gl_cons gl_nil))) (passes_call (takes_of rfl rfl rfl rfl) fun _ _ _ _ h => h) (la_cons (le_ix (le_pv 0) le_int) (la_cons (le_ix (le_pv 0) le_int) (la_cons (le_ix (le_pv 0) le_int) la_nil))) (by omega))))))) (ls_one (ls_ret (le_c0 c_wish_count hr (gl_cons gl_nil) (la_cons (le_pv 0) la_nil) (by omega))))))
abbrev s_check_beside : Stmt := top 31
theorem sc_check_beside : FnScope ["houses", "at", "house", "plain"] ["houses"] (defScope s_check_beside) := ⟨rfl, rfl, rfl, by decide +kernel, rfl, by decide +kernel, by decide +kernel⟩
noncomputable def b_check_beside (f_is_house : List A → Sto → R A) : GS :=
  (sSeq (sExpr (gCall p_demand (LF.gCons (gAndV (gIsi "tuple" (gVar 0)) (g2 pGe (gB1 pLen (LF.gCons (gVar 0) LF.gNil)) (gC (.int 2)))) (LF.gCons (gC (.str "rows")) (LF.gCons (gNeg (gC (.int 1))) LF.gNil))))) (sFor (giEnum (gVar 0)) (ggTup [(ggName 1), (ggName 2)]) (sSeq (sSet 3 (gAndV (gCall p_has_shape (LF.gCons (gVar 2) LF.gNil)) (g2 pNe (g2 pIx (gVar 2) (gC (.int 0))) (gC (.str "beside"))))) (sExpr (gCall p_demand (LF.gCons (gAndV (gVar 3) (gCall f_is_house (LF.gCons (gVar 2) LF.gNil))) (LF.gCons (gC (.str "row")) (LF.gCons (gVar 1) LF.gNil))))))))
theorem t_check_beside {P : Program} {w : World} {K : PySem.W.Frag} {mg : Str → Option Value} {base : Heap} {f : Addr} {k : Nat} {j : Nat} (f_is_house : List A → Sto → R A) (z_enumerate : mg "enumerate" = none) (c_demand : CalX P w K mg base 3 "demand" 3 p_demand) (c_is_house : Cal0 P w K mg base j "is_house" 1 f_is_house) (c_has_shape : Cal0 P w K mg base 1 "has_shape" 1 p_has_shape) (z_len : mg "len" = none) (z_isinstance : mg "isinstance" = none) (z_tuple : mg "tuple" = none) (hk : 3 ≤ k) (hj : j ≤ k) (cdv : Value) (A : Around) (outer : List PySem.Env) (s : Shared) (H : Hp) (E : XK) (hr : Room k (A.deeper (envOfC "check_beside" (defScope s_check_beside) s.heap.objs.size f cdv))) :
    LSs (cxOf (L2.CX P w) P w K mg base ["houses", "at", "house", "plain"] "check_beside" (defScope s_check_beside) f cdv A outer s H E) E (defBody s_check_beside) (b_check_beside f_is_house) :=
  (ls_cons (ls_expr (le_cX c_demand hr (gl_cons (gl_cons (gl_cons gl_nil))) (passes_call (takes_of rfl rfl rfl rfl) fun _ _ _ _ h => h) (la_cons (le_and (le_isT "tuple" z_isinstance z_tuple (le_pv 0)) (le_one (le_GtE (le_len z_len (le_pv 0)) le_int))) (la_cons le_str (la_cons (le_neg le_int) la_nil))) (by omega))) (ls_one (ls_for (passes_of rfl) rfl (li_enum z_enumerate (le_pv 0)) (pg_tup rfl (pgs_cons (pg_name (i := 1) sc_check_beside.nd rfl (by first | exact Or.inl rfl | exact Or.inr rfl)) (pgs_cons (pg_name (i := 2) sc_check_beside.nd rfl (by first | exact Or.inl rfl | exact Or.inr rfl)) pgs_nil))) (gok_tup rfl (gsok_cons gok_name (gsok_cons gok_name gsok_nil))) (ls_cons (ls_set (i := 3) sc_check_beside.nd rfl (by first | exact Or.inl rfl | exact Or.inr rfl) (le_and (le_c0 c_has_shape hr (gl_cons gl_nil) (la_cons (le_pv 2) la_nil) (by omega)) (le_one (le_NotEq hr (le_ix (le_pv 2) le_int) le_str)))) (ls_one (ls_expr (le_cX c_demand hr (gl_cons (gl_cons (gl_cons gl_nil))) (passes_call (takes_of rfl rfl rfl rfl) fun _ _ _ _ h => h) (la_cons (le_and (le_pv 3) (le_one (le_c0 c_is_house hr (gl_cons gl_nil) (la_cons (le_pv 2) la_nil) (by omega)))) (la_cons le_str (la_cons (le_pv 1) la_nil))) (by omega))))))))
mutual
noncomputable def p_is_house : Nat → List A → Sto → R A
  | 0 => fun _ _ => .bad
  | n + 1 => runN 1 (b_is_house (p_lets_house n))
noncomputable def p_lets_house : Nat → List A → Sto → R A
  | 0 => fun _ _ => .bad
  | n + 1 => runC 1 (b_lets_house (p_check_beside n))
noncomputable def p_check_beside : Nat → List A → Sto → R A
  | 0 => fun _ _ => .bad
  | n + 1 => runC 4 (b_check_beside (p_is_house n))
end
abbrev s__law_pick : Stmt := top 41
theorem sc__law_pick : FnScope ["_law_box", "_law_upto", "_law_digit", "_law_cell", "_law_mixed"] ["_law_box", "_law_upto"] (defScope s__law_pick) := ⟨rfl, rfl, rfl, by decide +kernel, rfl, by decide +kernel, by decide +kernel⟩
noncomputable def b__law_pick : GS :=
  (sSeq (sPut (gVar 0) (gC (.int 3)) (g2 pAdd (g2 pIx (gVar 0) (gC (.int 3))) (gC (.int 1)))) (sSeq (sIf (gB (g2 pEq (g2 pIx (gVar 0) (gC (.int 2))) (gC (.int 0)))) (sSeq (sSet 3 (gC (.int 0))) (sSeq (sIf (gB (g2 pGt (gB1 pLen (LF.gCons (g2 pIx (gVar 0) (gC (.int 0))) LF.gNil)) (gC (.int 0)))) (sSet 3 (g2 pIx (g2 pIx (gVar 0) (gC (.int 0))) (g2 pMod (g2 pIx (gVar 0) (gC (.int 1))) (gB1 pLen (LF.gCons (g2 pIx (gVar 0) (gC (.int 0))) LF.gNil))))) sNil) (sSeq (sPut (gVar 0) (gC (.int 1)) (g2 pAdd (g2 pIx (gVar 0) (gC (.int 1))) (gC (.int 1)))) (sSeq (sIf (gOr (gB (g2 pLt (gB1 pAbs (LF.gCons (gVar 3) LF.gNil)) (g2 pPow (gC (.int 10)) (gC (.int 18))))) (gB (g2 pGt (g2 pIx (gVar 0) (gC (.int 1))) (gB1 pLen (LF.gCons (g2 pIx (gVar 0) (gC (.int 0))) LF.gNil))))) (sSeq (sSet 4 (g2 pMod (gB1 pInt1 (LF.gCons (g2 pAdd (g2 pAdd (g2 pMul (gVar 3) (gC (.int 30203))) (g2 pMul (g2 pIx (gVar 0) (gC (.int 3))) (gC (.int 4547)))) (gC (.int 611))) LF.gNil)) (gC (.int 1299709)))) (sSeq (sSet 4 (g2 pMod (gB1 pInt1 (LF.gCons (g2 pAdd (g2 pAdd (g2 pMul (gVar 4) (gVar 4)) (g2 pMul (gVar 3) (gC (.int 17)))) (g2 pMul (g2 pIx (gVar 0) (gC (.int 3))) (gC (.int 90001)))) LF.gNil)) (gC (.int 15485863)))) (sRet (g2 pMod (g2 pFdiv (gVar 4) (gC (.int 11))) (gVar 1))))) sNil) (sPut (gVar 0) (gC (.int 2)) (gB1 pAbs (LF.gCons (gVar 3) LF.gNil))))))) sNil) (sSeq (sSet 2 (g2 pMod (gB1 pInt1 (LF.gCons (g2 pIx (gVar 0) (gC (.int 2))) LF.gNil)) (gVar 1))) (sSeq (sPut (gVar 0) (gC (.int 2)) (g2 pFdiv (g2 pIx (gVar 0) (gC (.int 2))) (gVar 1))) (sRet (gVar 2))))))
theorem t__law_pick {P : Program} {w : World} {K : PySem.W.Frag} {mg : Str → Option Value} {base : Heap} {f : Addr} {k : Nat} (z_int : mg "int" = none) (z_abs : mg "abs" = none) (z_len : mg "len" = none) (hk : 0 ≤ k) (cdv : Value) (A : Around) (outer : List PySem.Env) (s : Shared) (H : Hp) (E : XK) (hr : Room k (A.deeper (envOfC "_law_pick" (defScope s__law_pick) s.heap.objs.size f cdv))) :
    LSs (cxOf CX0 P w K mg base ["_law_box", "_law_upto", "_law_digit", "_law_cell", "_law_mixed"] "_law_pick" (defScope s__law_pick) f cdv A outer s H E).nox E0 (defBody s__law_pick) (b__law_pick) :=
  (ls_cons (ls_put (le_Add (le_ix (le_pv 0) le_int) le_int) (le_pv 0) le_int) (ls_cons (ls_if (lt_Eq hr (le_ix (le_pv 0) le_int) le_int) (ls_cons (ls_set (i := 3) sc__law_pick.nd rfl (by first | exact Or.inl rfl | exact Or.inr rfl) le_int) (ls_cons (ls_if (lt_Gt (le_len z_len (le_ix (le_pv 0) le_int)) le_int) (ls_one (ls_set (i := 3) sc__law_pick.nd rfl (by first | exact Or.inl rfl | exact Or.inr rfl) (le_ix (le_ix (le_pv 0) le_int) (le_Mod (le_ix (le_pv 0) le_int) (le_len z_len (le_ix (le_pv 0) le_int)))))) ls_nil) (ls_cons (ls_put (le_Add (le_ix (le_pv 0) le_int) le_int) (le_pv 0) le_int) (ls_cons (ls_if (lt_w (lw_or (lt_Lt (le_abs z_abs (le_pv 3)) (le_Pow le_int le_int)) (lw_or1 (lt_Gt (le_ix (le_pv 0) le_int) (le_len z_len (le_ix (le_pv 0) le_int)))))) (ls_cons (ls_set (i := 4) sc__law_pick.nd rfl (by first | exact Or.inl rfl | exact Or.inr rfl) (le_Mod (le_int1 z_int (le_Add (le_Add (le_Mult (le_pv 3) le_int) (le_Mult (le_ix (le_pv 0) le_int) le_int)) le_int)) le_int)) (ls_cons (ls_set (i := 4) sc__law_pick.nd rfl (by first | exact Or.inl rfl | exact Or.inr rfl) (le_Mod (le_int1 z_int (le_Add (le_Add (le_Mult (le_pv 4) (le_pv 4)) (le_Mult (le_pv 3) le_int)) (le_Mult (le_ix (le_pv 0) le_int) le_int))) le_int)) (ls_one (ls_ret (le_Mod (le_FloorDiv (le_pv 4) le_int) (le_pv 1)))))) ls_nil) (ls_one (ls_put (le_abs z_abs (le_pv 3)) (le_pv 0) le_int)))))) ls_nil) (ls_cons (ls_set (i := 2) sc__law_pick.nd rfl (by first | exact Or.inl rfl | exact Or.inr rfl) (le_Mod (le_int1 z_int (le_ix (le_pv 0) le_int)) (le_pv 1))) (ls_cons (ls_put (le_FloorDiv (le_ix (le_pv 0) le_int) (le_pv 1)) (le_pv 0) le_int) (ls_one (ls_ret (le_pv 2)))))))
noncomputable def p__law_pick : List A → Sto → R A := runN 5 b__law_pick
abbrev s__law_whole : Stmt := top 42
theorem sc__law_whole : FnScope ["_law_value_here"] ["_law_value_here"] (defScope s__law_whole) := ⟨rfl, rfl, rfl, by decide +kernel, rfl, by decide +kernel, by decide +kernel⟩
noncomputable def b__law_whole : GS :=
  (sRet (gAndV (gIsi "int" (gVar 0)) (gNotV (gIsi "bool" (gVar 0)))))
theorem t__law_whole {P : Program} {w : World} {K : PySem.W.Frag} {mg : Str → Option Value} {base : Heap} {f : Addr} {k : Nat} (z_isinstance : mg "isinstance" = none) (z_bool : mg "bool" = none) (z_int : mg "int" = none) (hk : 0 ≤ k) (cdv : Value) (A : Around) (outer : List PySem.Env) (s : Shared) (H : Hp) (E : XK) (hr : Room k (A.deeper (envOfC "_law_whole" (defScope s__law_whole) s.heap.objs.size f cdv))) :
    LSs (cxOf CX0 P w K mg base ["_law_value_here"] "_law_whole" (defScope s__law_whole) f cdv A outer s H E).nox E0 (defBody s__law_whole) (b__law_whole) :=
  (ls_one (ls_ret (le_and (le_isT "int" z_isinstance z_int (le_pv 0)) (le_one (le_not (le_isT "bool" z_isinstance z_bool (le_pv 0)))))))
noncomputable def p__law_whole : List A → Sto → R A := runN 1 b__law_whole
abbrev s__law_count : Stmt := top 43
theorem sc__law_count : FnScope ["_law_value_here"] ["_law_value_here"] (defScope s__law_count) := ⟨rfl, rfl, rfl, by decide +kernel, rfl, by decide +kernel, by decide +kernel⟩
noncomputable def b__law_count : GS :=
  (sRet (gAndV (gCall p__law_whole (LF.gCons (gVar 0) LF.gNil)) (g2 pGe (gVar 0) (gC (.int 0)))))
theorem t__law_count {P : Program} {w : World} {K : PySem.W.Frag} {mg : Str → Option Value} {base : Heap} {f : Addr} {k : Nat} (c__law_whole : Cal0 P w K mg base 1 "_law_whole" 1 p__law_whole) (hk : 1 ≤ k) (cdv : Value) (A : Around) (outer : List PySem.Env) (s : Shared) (H : Hp) (E : XK) (hr : Room k (A.deeper (envOfC "_law_count" (defScope s__law_count) s.heap.objs.size f cdv))) :
    LSs (cxOf CX0 P w K mg base ["_law_value_here"] "_law_count" (defScope s__law_count) f cdv A outer s H E).nox E0 (defBody s__law_count) (b__law_count) :=
  (ls_one (ls_ret (le_and (le_c0 c__law_whole hr (gl_cons gl_nil) (la_cons (le_pv 0) la_nil) (by omega)) (le_one (le_GtE (le_pv 0) le_int)))))
noncomputable def p__law_count : List A → Sto → R A := runN 1 b__law_count
abbrev s__law_same : Stmt := top 44
theorem sc__law_same : FnScope ["_law_found", "_law_due", "_law_k"] ["_law_found", "_law_due"] (defScope s__law_same) := ⟨rfl, rfl, rfl, by decide +kernel, rfl, by decide +kernel, by decide +kernel⟩
noncomputable def b__law_same (f__law_same : List A → Sto → R A) : GS :=
  (sSeq (sIf (gB (g2 pIsN (gVar 1) (gC .none))) (sRet (g2 pIsN (gVar 0) (gC .none))) sNil) (sSeq (sIf (gB (gIsi "bool" (gVar 1))) (sRet (gAndV (gIsi "bool" (gVar 0)) (g2 pEq (gVar 0) (gVar 1)))) sNil) (sSeq (sIf (gB (gIsi "int" (gVar 1))) (sRet (gAndV (gCall p__law_whole (LF.gCons (gVar 0) LF.gNil)) (g2 pEq (gVar 0) (gVar 1)))) sNil) (sSeq (sIf (gB (gIsi "str" (gVar 1))) (sRet (gAndV (gIsi "str" (gVar 0)) (g2 pEq (gVar 0) (gVar 1)))) sNil) (sSeq (sIf (gOr (gNot (gB (gIsi "tuple" (gVar 0)))) (gB (g2 pNe (gB1 pLen (LF.gCons (gVar 0) LF.gNil)) (gB1 pLen (LF.gCons (gVar 1) LF.gNil))))) (sRet (gC (.bool false))) sNil) (sSeq (sFor (giR1 (gB1 pLen (LF.gCons (gVar 1) LF.gNil))) (ggName 2) (sIf (gNot (gB (gCall f__law_same (LF.gCons (g2 pIx (gVar 0) (gVar 2)) (LF.gCons (g2 pIx (gVar 1) (gVar 2)) LF.gNil))))) (sRet (gC (.bool false))) sNil)) (sRet (gC (.bool true)))))))))
theorem t__law_same {P : Program} {w : World} {K : PySem.W.Frag} {mg : Str → Option Value} {base : Heap} {f : Addr} {k : Nat} {j : Nat} (f__law_same : List A → Sto → R A) (z_len : mg "len" = none) (z_range : mg "range" = none) (c__law_same : Cal0 P w K mg base j "_law_same" 2 f__law_same) (z_isinstance : mg "isinstance" = none) (z_tuple : mg "tuple" = none) (z_str : mg "str" = none) (z_int : mg "int" = none) (c__law_whole : Cal0 P w K mg base 1 "_law_whole" 1 p__law_whole) (z_bool : mg "bool" = none) (hk : 1 ≤ k) (hj : j ≤ k) (cdv : Value) (A : Around) (outer : List PySem.Env) (s : Shared) (H : Hp) (E : XK) (hr : Room k (A.deeper (envOfC "_law_same" (defScope s__law_same) s.heap.objs.size f cdv))) :
    LSs (cxOf CX0 P w K mg base ["_law_found", "_law_due", "_law_k"] "_law_same" (defScope s__law_same) f cdv A outer s H E).nox E0 (defBody s__law_same) (b__law_same f__law_same) :=
  (ls_cons (ls_if (lt_Is (le_pv 1) le_non) (ls_one (ls_ret (le_Is (le_pv 0) le_non))) ls_nil) (ls_cons (ls_if (lt_val (le_isT "bool" z_isinstance z_bool (le_pv 1))) (ls_one (ls_ret (le_and (le_isT "bool" z_isinstance z_bool (le_pv 0)) (le_one (le_Eq hr (le_pv 0) (le_pv 1)))))) ls_nil) (ls_cons (ls_if (lt_val (le_isT "int" z_isinstance z_int (le_pv 1))) (ls_one (ls_ret (le_and (le_c0 c__law_whole hr (gl_cons gl_nil) (la_cons (le_pv 0) la_nil) (by omega)) (le_one (le_Eq hr (le_pv 0) (le_pv 1)))))) ls_nil) (ls_cons (ls_if (lt_val (le_isT "str" z_isinstance z_str (le_pv 1))) (ls_one (ls_ret (le_and (le_isT "str" z_isinstance z_str (le_pv 0)) (le_one (le_Eq hr (le_pv 0) (le_pv 1)))))) ls_nil) (ls_cons (ls_if (lt_w (lw_or (lt_not (lt_val (le_isT "tuple" z_isinstance z_tuple (le_pv 0)))) (lw_or1 (lt_NotEq hr (le_len z_len (le_pv 0)) (le_len z_len (le_pv 1)))))) (ls_one (ls_ret le_bl)) ls_nil) (ls_cons (ls_for PassesOwn.never rfl (li_r1 rfl z_range (le_len z_len (le_pv 1))) (pg_name (i := 2) sc__law_same.nd rfl (by first | exact Or.inl rfl | exact Or.inr rfl)) gok_name (ls_one (ls_if (lt_not (lt_val (le_c0 c__law_same hr (gl_cons (gl_cons gl_nil)) (la_cons (le_ix (le_pv 0) (le_pv 2)) (la_cons (le_ix (le_pv 1) (le_pv 2)) la_nil)) (by omega)))) (ls_one (ls_ret le_bl)) ls_nil))) (ls_one (ls_ret le_bl))))))))
mutual
noncomputable def p__law_same : Nat → List A → Sto → R A
  | 0 => fun _ _ => .bad
  | n + 1 => runN 3 (b__law_same (p__law_same n))
end
abbrev s__law_fraction : Stmt := top 45
theorem sc__law_fraction : FnScope ["_law_value_here", "_law_left", "_law_right", "_law_k"] ["_law_value_here"] (defScope s__law_fraction) := ⟨rfl, rfl, rfl, by decide +kernel, rfl, by decide +kernel, by decide +kernel⟩
noncomputable def b__law_fraction : GS :=
  (sSeq (sIf (gOr (gNot (gB (gIsi "tuple" (gVar 0)))) (gB (g2 pNe (gB1 pLen (LF.gCons (gVar 0) LF.gNil)) (gC (.int 2))))) (sRet (gC (.bool false))) sNil) (sSeq (sIf (gOr (gNot (gB (gCall p__law_whole (LF.gCons (g2 pIx (gVar 0) (gC (.int 0))) LF.gNil)))) (gOr (gNot (gB (gCall p__law_whole (LF.gCons (g2 pIx (gVar 0) (gC (.int 1))) LF.gNil)))) (gB (g2 pLt (g2 pIx (gVar 0) (gC (.int 1))) (gC (.int 1)))))) (sRet (gC (.bool false))) sNil) (sSeq (sSet 1 (gB1 pAbs (LF.gCons (g2 pIx (gVar 0) (gC (.int 0))) LF.gNil))) (sSeq (sSet 2 (g2 pIx (gVar 0) (gC (.int 1)))) (sSeq (sFor (giR1 (gC (.int 700))) (ggName 3) (sSeq (sIf (gB (g2 pEq (gVar 1) (gC (.int 0)))) sBreak sNil) (sPar 1 2 (LF.gCons (g2 pMod (gB1 pInt1 (LF.gCons (gVar 2) LF.gNil)) (gVar 1)) (LF.gCons (gVar 1) LF.gNil))))) (sRet (g2 pEq (gVar 2) (gC (.int 1)))))))))
theorem t__law_fraction {P : Program} {w : World} {K : PySem.W.Frag} {mg : Str → Option Value} {base : Heap} {f : Addr} {k : Nat} (z_range : mg "range" = none) (z_int : mg "int" = none) (z_abs : mg "abs" = none) (c__law_whole : Cal0 P w K mg base 1 "_law_whole" 1 p__law_whole) (z_len : mg "len" = none) (z_isinstance : mg "isinstance" = none) (z_tuple : mg "tuple" = none) (hk : 1 ≤ k) (cdv : Value) (A : Around) (outer : List PySem.Env) (s : Shared) (H : Hp) (E : XK) (hr : Room k (A.deeper (envOfC "_law_fraction" (defScope s__law_fraction) s.heap.objs.size f cdv))) :
    LSs (cxOf CX0 P w K mg base ["_law_value_here", "_law_left", "_law_right", "_law_k"] "_law_fraction" (defScope s__law_fraction) f cdv A outer s H E).nox E0 (defBody s__law_fraction) (b__law_fraction) :=
  (ls_cons (ls_if (lt_w (lw_or (lt_not (lt_val (le_isT "tuple" z_isinstance z_tuple (le_pv 0)))) (lw_or1 (lt_NotEq hr (le_len z_len (le_pv 0)) le_int)))) (ls_one (ls_ret le_bl)) ls_nil) (ls_cons (ls_if (lt_w (lw_or (lt_not (lt_val (le_c0 c__law_whole hr (gl_cons gl_nil) (la_cons (le_ix (le_pv 0) le_int) la_nil) (by omega)))) (lw_or (lt_not (lt_val (le_c0 c__law_whole hr (gl_cons gl_nil) (la_cons (le_ix (le_pv 0) le_int) la_nil) (by omega)))) (lw_or1 (lt_Lt (le_ix (le_pv 0) le_int) le_int))))) (ls_one (ls_ret le_bl)) ls_nil) (ls_cons (ls_set (i := 1) sc__law_fraction.nd rfl (by first | exact Or.inl rfl | exact Or.inr rfl) (le_abs z_abs (le_ix (le_pv 0) le_int))) (ls_cons (ls_set (i := 2) sc__law_fraction.nd rfl (by first | exact Or.inl rfl | exact Or.inr rfl) (le_ix (le_pv 0) le_int)) (ls_cons (ls_for PassesOwn.never rfl (li_r1 rfl z_range le_int) (pg_name (i := 3) sc__law_fraction.nd rfl (by first | exact Or.inl rfl | exact Or.inr rfl)) gok_name (ls_cons (ls_if (lt_Eq hr (le_pv 1) le_int) (ls_one ls_break) ls_nil) (ls_one (ls_par rfl sc__law_fraction.nd (i := 1) (j := 2) rfl rfl (by decide) rfl rfl (la_cons (le_Mod (le_int1 z_int (le_pv 2)) (le_pv 1)) (la_cons (le_pv 1) la_nil)) rfl)))) (ls_one (ls_ret (le_Eq hr (le_pv 2) le_int))))))))
noncomputable def p__law_fraction : List A → Sto → R A := runN 4 b__law_fraction
abbrev s__law_bundle : Stmt := top 46
theorem sc__law_bundle : FnScope ["_law_upto", "_law_value_here", "_law_last", "_law_part_here"] ["_law_upto", "_law_value_here"] (defScope s__law_bundle) := ⟨rfl, rfl, rfl, by decide +kernel, rfl, by decide +kernel, by decide +kernel⟩
noncomputable def b__law_bundle : GS :=
  (sSeq (sIf (gNot (gB (gIsi "tuple" (gVar 1)))) (sRet (gC (.bool false))) sNil) (sSeq (sSet 2 (gNeg (gC (.int 1)))) (sSeq (sFor (giSeq (gVar 1)) (ggName 3) (sSeq (sIf (gOr (gNot (gB (gCall p__law_whole (LF.gCons (gVar 3) LF.gNil)))) (gOr (gB (g2 pLe (gVar 3) (gVar 2))) (gB (g2 pGe (gVar 3) (gVar 0))))) (sRet (gC (.bool false))) sNil) (sSet 2 (gVar 3)))) (sRet (gC (.bool true))))))
theorem t__law_bundle {P : Program} {w : World} {K : PySem.W.Frag} {mg : Str → Option Value} {base : Heap} {f : Addr} {k : Nat} (c__law_whole : Cal0 P w K mg base 1 "_law_whole" 1 p__law_whole) (z_isinstance : mg "isinstance" = none) (z_tuple : mg "tuple" = none) (hk : 1 ≤ k) (cdv : Value) (A : Around) (outer : List PySem.Env) (s : Shared) (H : Hp) (E : XK) (hr : Room k (A.deeper (envOfC "_law_bundle" (defScope s__law_bundle) s.heap.objs.size f cdv))) :
    LSs (cxOf CX0 P w K mg base ["_law_upto", "_law_value_here", "_law_last", "_law_part_here"] "_law_bundle" (defScope s__law_bundle) f cdv A outer s H E).nox E0 (defBody s__law_bundle) (b__law_bundle) :=
  (ls_cons (ls_if (lt_not (lt_val (le_isT "tuple" z_isinstance z_tuple (le_pv 1)))) (ls_one (ls_ret le_bl)) ls_nil) (ls_cons (ls_set (i := 2) sc__law_bundle.nd rfl (by first | exact Or.inl rfl | exact Or.inr rfl) (le_neg le_int)) (ls_cons (ls_for PassesOwn.never rfl (li_seq (le_pv 1)) (pg_name (i := 3) sc__law_bundle.nd rfl (by first | exact Or.inl rfl | exact Or.inr rfl)) gok_name (ls_cons (ls_if (lt_w (lw_or (lt_not (lt_val (le_c0 c__law_whole hr (gl_cons gl_nil) (la_cons (le_pv 3) la_nil) (by omega)))) (lw_or (lt_LtE (le_pv 3) (le_pv 2)) (lw_or1 (lt_GtE (le_pv 3) (le_pv 0)))))) (ls_one (ls_ret le_bl)) ls_nil) (ls_one (ls_set (i := 2) sc__law_bundle.nd rfl (by first | exact Or.inl rfl | exact Or.inr rfl) (le_pv 3))))) (ls_one (ls_ret le_bl)))))
noncomputable def p__law_bundle : List A → Sto → R A := runN 4 b__law_bundle
abbrev s__law_each_once : Stmt := top 47
theorem sc__law_each_once : FnScope ["_law_upto", "_law_value_here", "_law_part_here", "_law_k"] ["_law_upto", "_law_value_here"] (defScope s__law_each_once) := ⟨rfl, rfl, rfl, by decide +kernel, rfl, by decide +kernel, by decide +kernel⟩
noncomputable def b__law_each_once : GS :=
  (sSeq (sIf (gOr (gNot (gB (gIsi "tuple" (gVar 1)))) (gB (g2 pNe (gB1 pLen (LF.gCons (gVar 1) LF.gNil)) (gVar 0)))) (sRet (gC (.bool false))) sNil) (sSeq (sIf (gB (g2 pGt (gB1 pLen (LF.gCons (gComp (giSeq (gVar 1)) 2 (gNot (gB (gCall p__law_whole (LF.gCons (gVar 2) LF.gNil)))) (gVar 2)) LF.gNil)) (gC (.int 0)))) (sRet (gC (.bool false))) sNil) (sRet (g2 pEq (gB1 pLen (LF.gCons (gComp (giR1 (gVar 0)) 3 (gB (g2 (pIn not) (gVar 3) (gVar 1))) (gVar 3)) LF.gNil)) (gC (.int 0))))))
theorem t__law_each_once {P : Program} {w : World} {K : PySem.W.Frag} {mg : Str → Option Value} {base : Heap} {f : Addr} {k : Nat} (z_range : mg "range" = none) (z_len : mg "len" = none) (c__law_whole : Cal0 P w K mg base 1 "_law_whole" 1 p__law_whole) (z_isinstance : mg "isinstance" = none) (z_tuple : mg "tuple" = none) (hk : 1 ≤ k) (cdv : Value) (A : Around) (outer : List PySem.Env) (s : Shared) (H : Hp) (E : XK) (hr : Room k (A.deeper (envOfC "_law_each_once" (defScope s__law_each_once) s.heap.objs.size f cdv))) :
    LSs (cxOf CX0 P w K mg base ["_law_upto", "_law_value_here", "_law_part_here", "_law_k"] "_law_each_once" (defScope s__law_each_once) f cdv A outer s H E).nox E0 (defBody s__law_each_once) (b__law_each_once) :=
  (ls_cons (ls_if (lt_w (lw_or (lt_not (lt_val (le_isT "tuple" z_isinstance z_tuple (le_pv 1)))) (lw_or1 (lt_NotEq hr (le_len z_len (le_pv 1)) (le_pv 0))))) (ls_one (ls_ret le_bl)) ls_nil) (ls_cons (ls_if (lt_Gt (le_len z_len (le_comp rfl sc__law_each_once.nd (li_seq (le_pv 1)) (blkOk_by (own := [("_law_part_here", 2)]) (by first | decide +kernel | rfl)) (fun _ _ _ _ _ => pg_name (i := 2) sc__law_each_once.nd rfl (by first | exact Or.inl rfl | exact Or.inr rfl)) (fun _ _ _ _ _ => (lts_one (lt_not (lt_val (le_c0 c__law_whole hr (gl_cons gl_nil) (la_cons (le_pv 2) la_nil) (by omega)))))) (fun _ _ _ _ _ => (le_pv 2)))) le_int) (ls_one (ls_ret le_bl)) ls_nil) (ls_one (ls_ret (le_Eq hr (le_len z_len (le_comp rfl sc__law_each_once.nd (li_r1 rfl z_range (le_pv 0)) (blkOk_by (own := [("_law_k", 3)]) (by first | decide +kernel | rfl)) (fun _ _ _ _ _ => pg_name (i := 3) sc__law_each_once.nd rfl (by first | exact Or.inl rfl | exact Or.inr rfl)) (fun _ _ _ _ _ => (lts_one (lt_NotIn hr (le_pv 3) (le_pv 1)))) (fun _ _ _ _ _ => (le_pv 3)))) le_int)))))
noncomputable def p__law_each_once : List A → Sto → R A := runN 4 b__law_each_once
abbrev s__law_leaf : Stmt := top 48
theorem sc__law_leaf : FnScope ["_law_box", "_law_menu"] ["_law_box"] (defScope s__law_leaf) := ⟨rfl, rfl, rfl, by decide +kernel, rfl, by decide +kernel, by decide +kernel⟩
noncomputable def b__law_leaf : GS :=
  (sSeq (sSet 1 (gCall p__law_pick (LF.gCons (gVar 0) (LF.gCons (gC (.int 9)) LF.gNil)))) (sSeq (sIf (gB (g2 pLt (gVar 1) (gC (.int 5)))) (sRet (g2 pSub (gCall p__law_pick (LF.gCons (gVar 0) (LF.gCons (gC (.int 9)) LF.gNil))) (gC (.int 2)))) sNil) (sSeq (sIf (gB (g2 pEq (gVar 1) (gC (.int 5)))) (sRet (g2 pMul (g2 pAdd (g2 pPow (gC (.int 10)) (gC (.int 50))) (gCall p__law_pick (LF.gCons (gVar 0) (LF.gCons (g2 pPow (gC (.int 10)) (gC (.int 6))) LF.gNil)))) (g2 pSub (gC (.int 1)) (g2 pMul (gC (.int 2)) (gCall p__law_pick (LF.gCons (gVar 0) (LF.gCons (gC (.int 2)) LF.gNil))))))) sNil) (sRet (g2 pIx (gLstD (LF.gCons (gC (.bool true)) (LF.gCons (gC (.bool false)) (LF.gCons (gC .none) (LF.gCons (gC (.str "")) (LF.gCons (gC (.str "0")) (LF.gCons (gC (.str "limits")) LF.gNil))))))) (gCall p__law_pick (LF.gCons (gVar 0) (LF.gCons (gC (.int 6)) LF.gNil))))))))
theorem t__law_leaf {P : Program} {w : World} {K : PySem.W.Frag} {mg : Str → Option Value} {base : Heap} {f : Addr} {k : Nat} (c__law_pick : Cal0 P w K mg base 1 "_law_pick" 2 p__law_pick) (hk : 1 ≤ k) (cdv : Value) (A : Around) (outer : List PySem.Env) (s : Shared) (H : Hp) (E : XK) (hr : Room k (A.deeper (envOfC "_law_leaf" (defScope s__law_leaf) s.heap.objs.size f cdv))) :
    LSs (cxOf CX0 P w K mg base ["_law_box", "_law_menu"] "_law_leaf" (defScope s__law_leaf) f cdv A outer s H E).nox E0 (defBody s__law_leaf) (b__law_leaf) :=
  (ls_cons (ls_set (i := 1) sc__law_leaf.nd rfl (by first | exact Or.inl rfl | exact Or.inr rfl) (le_c0 c__law_pick hr (gl_cons (gl_cons gl_nil)) (la_cons (le_pv 0) (la_cons le_int la_nil)) (by omega))) (ls_cons (ls_if (lt_Lt (le_pv 1) le_int) (ls_one (ls_ret (le_Sub (le_c0 c__law_pick hr (gl_cons (gl_cons gl_nil)) (la_cons (le_pv 0) (la_cons le_int la_nil)) (by omega)) le_int))) ls_nil) (ls_cons (ls_if (lt_Eq hr (le_pv 1) le_int) (ls_one (ls_ret (le_Mult (le_Add (le_Pow le_int le_int) (le_c0 c__law_pick hr (gl_cons (gl_cons gl_nil)) (la_cons (le_pv 0) (la_cons (le_Pow le_int le_int) la_nil)) (by omega))) (le_Sub le_int (le_Mult le_int (le_c0 c__law_pick hr (gl_cons (gl_cons gl_nil)) (la_cons (le_pv 0) (la_cons le_int la_nil)) (by omega))))))) ls_nil) (ls_one (ls_ret (le_ix (le_lstD (la_cons le_bl (la_cons le_bl (la_cons le_non (la_cons le_str (la_cons le_str (la_cons le_str la_nil)))))) (gl_cons (gl_cons (gl_cons (gl_cons (gl_cons (gl_cons gl_nil))))))) (le_c0 c__law_pick hr (gl_cons (gl_cons gl_nil)) (la_cons (le_pv 0) (la_cons le_int la_nil)) (by omega))))))))
noncomputable def p__law_leaf : List A → Sto → R A := runN 2 b__law_leaf
abbrev s__law_part : Stmt := top 49
theorem sc__law_part : FnScope ["_law_box", "_law_upto", "_law_mask", "_law_k"] ["_law_box", "_law_upto"] (defScope s__law_part) := ⟨rfl, rfl, rfl, by decide +kernel, rfl, by decide +kernel, by decide +kernel⟩
noncomputable def b__law_part : GS :=
  (sSeq (sSet 2 (gCall p__law_pick (LF.gCons (gVar 0) (LF.gCons (g2 pShl (gC (.int 1)) (gVar 1)) LF.gNil)))) (sRet (gB1 pTup (LF.gCons (gComp (giR1 (gVar 1)) 3 (gTru (g2 pBand (g2 pShr (gVar 2) (gVar 3)) (gC (.int 1)))) (gVar 3)) LF.gNil))))
theorem t__law_part {P : Program} {w : World} {K : PySem.W.Frag} {mg : Str → Option Value} {base : Heap} {f : Addr} {k : Nat} (z_range : mg "range" = none) (z_tuple : mg "tuple" = none) (c__law_pick : Cal0 P w K mg base 1 "_law_pick" 2 p__law_pick) (hk : 1 ≤ k) (cdv : Value) (A : Around) (outer : List PySem.Env) (s : Shared) (H : Hp) (E : XK) (hr : Room k (A.deeper (envOfC "_law_part" (defScope s__law_part) s.heap.objs.size f cdv))) :
    LSs (cxOf CX0 P w K mg base ["_law_box", "_law_upto", "_law_mask", "_law_k"] "_law_part" (defScope s__law_part) f cdv A outer s H E).nox E0 (defBody s__law_part) (b__law_part) :=
  (ls_cons (ls_set (i := 2) sc__law_part.nd rfl (by first | exact Or.inl rfl | exact Or.inr rfl) (le_c0 c__law_pick hr (gl_cons (gl_cons gl_nil)) (la_cons (le_pv 0) (la_cons (le_LShift le_int (le_pv 1)) la_nil)) (by omega))) (ls_one (ls_ret (le_tup1 z_tuple (le_comp rfl sc__law_part.nd (li_r1 rfl z_range (le_pv 1)) (blkOk_by (own := [("_law_k", 3)]) (by first | decide +kernel | rfl)) (fun _ _ _ _ _ => pg_name (i := 3) sc__law_part.nd rfl (by first | exact Or.inl rfl | exact Or.inr rfl)) (fun _ _ _ _ _ => (lts_one (lt_tru (le_BitAnd (le_RShift (le_pv 2) (le_pv 3)) le_int)))) (fun _ _ _ _ _ => (le_pv 3)))))))
noncomputable def p__law_part : List A → Sto → R A := runN 4 b__law_part
abbrev s__law_shuffled : Stmt := top 50
theorem sc__law_shuffled : FnScope ["_law_box", "_law_upto", "_law_left", "_law_row", "_law_k"] ["_law_box", "_law_upto"] (defScope s__law_shuffled) := ⟨rfl, rfl, rfl, by decide +kernel, rfl, by decide +kernel, by decide +kernel⟩
noncomputable def b__law_shuffled : GS :=
  (sSeq (sBoxOf 2 (gLstR1 (gVar 1))) (sSeq (sBox 3 LF.gNil) (sSeq (sFor (giR1 (gVar 1)) (ggName 4) (sApp (gVar 3) (gPop (gVar 2) (gCall p__law_pick (LF.gCons (gVar 0) (LF.gCons (gB1 pLen (LF.gCons (gVar 2) LF.gNil)) LF.gNil)))))) (sRet (gB1 pTup (LF.gCons (gVar 3) LF.gNil))))))
theorem t__law_shuffled {P : Program} {w : World} {K : PySem.W.Frag} {mg : Str → Option Value} {base : Heap} {f : Addr} {k : Nat} (z_tuple : mg "tuple" = none) (z_range : mg "range" = none) (c__law_pick : Cal0 P w K mg base 1 "_law_pick" 2 p__law_pick) (z_len : mg "len" = none) (z_list : mg "list" = none) (hk : 1 ≤ k) (cdv : Value) (A : Around) (outer : List PySem.Env) (s : Shared) (H : Hp) (E : XK) (hr : Room k (A.deeper (envOfC "_law_shuffled" (defScope s__law_shuffled) s.heap.objs.size f cdv))) :
    LSs (cxOf CX0 P w K mg base ["_law_box", "_law_upto", "_law_left", "_law_row", "_law_k"] "_law_shuffled" (defScope s__law_shuffled) f cdv A outer s H E).nox E0 (defBody s__law_shuffled) (b__law_shuffled) :=
  (ls_cons (ls_boxR1 (i := 2) sc__law_shuffled.nd rfl (by first | exact Or.inl rfl | exact Or.inr rfl) rfl rfl z_list rfl z_range (le_pv 1)) (ls_cons (ls_box (i := 3) sc__law_shuffled.nd rfl (by first | exact Or.inl rfl | exact Or.inr rfl) la_nil gl_nil) (ls_cons (ls_for PassesOwn.never rfl (li_r1 rfl z_range (le_pv 1)) (pg_name (i := 4) sc__law_shuffled.nd rfl (by first | exact Or.inl rfl | exact Or.inr rfl)) gok_name (ls_one (ls_app (le_pv 3) (le_pop (le_pv 2) (le_c0 c__law_pick hr (gl_cons (gl_cons gl_nil)) (la_cons (le_pv 0) (la_cons (le_len z_len (le_pv 2)) la_nil)) (by omega)))))) (ls_one (ls_ret (le_tup1 z_tuple (le_pv 3)))))))
noncomputable def p__law_shuffled : List A → Sto → R A := runN 5 b__law_shuffled
abbrev s__law_bent : Stmt := top 51
theorem sc__law_bent : FnScope ["_law_box", "_law_row", "_law_upto", "_law_menu", "_law_part_here"] ["_law_box", "_law_row", "_law_upto"] (defScope s__law_bent) := ⟨rfl, rfl, rfl, by decide +kernel, rfl, by decide +kernel, by decide +kernel⟩
noncomputable def b__law_bent : GS :=
  (sSeq (sSet 3 (gCall p__law_pick (LF.gCons (gVar 0) (LF.gCons (gC (.int 12)) LF.gNil)))) (sSeq (sIf (gB (g2 pEq (gVar 3) (gC (.int 0)))) (sRet (gRev (gVar 1))) sNil) (sSeq (sIf (gB (g2 pEq (gVar 3) (gC (.int 1)))) (sRet (g2 pAdd (gVar 1) (gSl (gVar 1) (oSome (gNeg (gC (.int 1)))) oNone))) sNil) (sSeq (sIf (gB (g2 pEq (gVar 3) (gC (.int 2)))) (sRet (gB1 pTup (LF.gCons (gComp (giSeq (gVar 1)) 4 gYes (gIf (gB (g2 pLt (gVar 4) (gC (.int 2)))) (gB1 pBool1 (LF.gCons (gVar 4) LF.gNil)) (gVar 4))) LF.gNil))) sNil) (sSeq (sIf (gB (g2 pEq (gVar 3) (gC (.int 3)))) (sRet (gB1 pLst (LF.gCons (gVar 1) LF.gNil))) sNil) (sSeq (sIf (gB (g2 pEq (gVar 3) (gC (.int 4)))) (sRet (g2 pAdd (gVar 1) (gTupD (LF.gCons (gVar 2) LF.gNil)))) sNil) (sSeq (sIf (gB (g2 pEq (gVar 3) (gC (.int 5)))) (sRet (g2 pAdd (gTupD (LF.gCons (gNeg (gC (.int 1))) LF.gNil)) (gVar 1))) sNil) (sRet (gVar 1)))))))))
theorem t__law_bent {P : Program} {w : World} {K : PySem.W.Frag} {mg : Str → Option Value} {base : Heap} {f : Addr} {k : Nat} (z_list : mg "list" = none) (z_bool : mg "bool" = none) (z_tuple : mg "tuple" = none) (c__law_pick : Cal0 P w K mg base 1 "_law_pick" 2 p__law_pick) (hk : 1 ≤ k) (cdv : Value) (A : Around) (outer : List PySem.Env) (s : Shared) (H : Hp) (E : XK) (hr : Room k (A.deeper (envOfC "_law_bent" (defScope s__law_bent) s.heap.objs.size f cdv))) :
    LSs (cxOf CX0 P w K mg base ["_law_box", "_law_row", "_law_upto", "_law_menu", "_law_part_here"] "_law_bent" (defScope s__law_bent) f cdv A outer s H E).nox E0 (defBody s__law_bent) (b__law_bent) :=
  (ls_cons (ls_set (i := 3) sc__law_bent.nd rfl (by first | exact Or.inl rfl | exact Or.inr rfl) (le_c0 c__law_pick hr (gl_cons (gl_cons gl_nil)) (la_cons (le_pv 0) (la_cons le_int la_nil)) (by omega))) (ls_cons (ls_if (lt_Eq hr (le_pv 3) le_int) (ls_one (ls_ret (le_rev (le_pv 1)))) ls_nil) (ls_cons (ls_if (lt_Eq hr (le_pv 3) le_int) (ls_one (ls_ret (le_Add (le_pv 1) (le_sl (le_pv 1) (lo_some (le_neg le_int)) lo_none)))) ls_nil) (ls_cons (ls_if (lt_Eq hr (le_pv 3) le_int) (ls_one (ls_ret (le_tup1 z_tuple (le_comp rfl sc__law_bent.nd (li_seq (le_pv 1)) (blkOk_by (own := [("_law_part_here", 4)]) (by first | decide +kernel | rfl)) (fun _ _ _ _ _ => pg_name (i := 4) sc__law_bent.nd rfl (by first | exact Or.inl rfl | exact Or.inr rfl)) (fun _ _ _ _ _ => lts_nil) (fun _ _ _ _ _ => (le_if (lt_Lt (le_pv 4) le_int) (le_bool1 z_bool (le_pv 4)) (le_pv 4))))))) ls_nil) (ls_cons (ls_if (lt_Eq hr (le_pv 3) le_int) (ls_one (ls_ret (le_lst1 z_list (le_pv 1)))) ls_nil) (ls_cons (ls_if (lt_Eq hr (le_pv 3) le_int) (ls_one (ls_ret (le_Add (le_pv 1) (le_tupD (la_cons (le_pv 2) la_nil) (gl_cons gl_nil))))) ls_nil) (ls_cons (ls_if (lt_Eq hr (le_pv 3) le_int) (ls_one (ls_ret (le_Add (le_tupD (la_cons (le_neg le_int) la_nil) (gl_cons gl_nil)) (le_pv 1)))) ls_nil) (ls_one (ls_ret (le_pv 1))))))))))
noncomputable def p__law_bent : List A → Sto → R A := runN 5 b__law_bent
abbrev s__law_value : Stmt := top 52
theorem sc__law_value : FnScope ["_law_box", "_law_upto", "_law_menu", "_law_bottom", "_law_top", "_law_scale", "_law_row", "_law_k"] ["_law_box", "_law_upto"] (defScope s__law_value) := ⟨rfl, rfl, rfl, by decide +kernel, rfl, by decide +kernel, by decide +kernel⟩
noncomputable def b__law_value : GS :=
  (sSeq (sSet 2 (gCall p__law_pick (LF.gCons (gVar 0) (LF.gCons (gC (.int 8)) LF.gNil)))) (sSeq (sIf (gB (g2 pEq (gVar 2) (gC (.int 0)))) (sRet (gCall p__law_leaf (LF.gCons (gVar 0) LF.gNil))) sNil) (sSeq (sIf (gB (g2 pLt (gVar 2) (gC (.int 3)))) (sSeq (sSet 3 (g2 pIx (gLstD (LF.gCons (gC (.int 1)) (LF.gCons (gC (.int 2)) (LF.gCons (gC (.int 3)) (LF.gCons (gC (.int 12)) (LF.gCons (g2 pPow (gC (.int 10)) (gC (.int 20))) LF.gNil)))))) (gCall p__law_pick (LF.gCons (gVar 0) (LF.gCons (gC (.int 5)) LF.gNil))))) (sSeq (sSet 4 (g2 pSub (g2 pAdd (g2 pMul (gVar 3) (g2 pSub (gCall p__law_pick (LF.gCons (gVar 0) (LF.gCons (gC (.int 7)) LF.gNil))) (gC (.int 3)))) (gCall p__law_pick (LF.gCons (gVar 0) (LF.gCons (gC (.int 5)) LF.gNil)))) (gC (.int 2)))) (sSeq (sSet 5 (g2 pIx (gLstD (LF.gCons (gC (.int 1)) (LF.gCons (gC (.int 1)) (LF.gCons (gC (.int 1)) (LF.gCons (gC (.int 2)) (LF.gCons (gNeg (gC (.int 1))) (LF.gCons (gC (.int 0)) LF.gNil))))))) (gCall p__law_pick (LF.gCons (gVar 0) (LF.gCons (gC (.int 6)) LF.gNil))))) (sRet (gTupD (LF.gCons (g2 pMul (gVar 4) (gVar 5)) (LF.gCons (g2 pMul (gVar 3) (gVar 5)) LF.gNil))))))) sNil) (sSeq (sIf (gB (g2 pLt (gVar 2) (gC (.int 5)))) (sSeq (sSet 6 (gComp (giR1 (gCall p__law_pick (LF.gCons (gVar 0) (LF.gCons (gC (.int 5)) LF.gNil)))) 7 gYes (gCall p__law_leaf (LF.gCons (gVar 0) LF.gNil)))) (sRet (g2 pIx (gLstD (LF.gCons (gB1 pTup (LF.gCons (gVar 6) LF.gNil)) (LF.gCons (gVar 6) LF.gNil))) (g2 pFdiv (gCall p__law_pick (LF.gCons (gVar 0) (LF.gCons (gC (.int 3)) LF.gNil))) (gC (.int 2)))))) sNil) (sSeq (sIf (gB (g2 pEq (gVar 2) (gC (.int 5)))) (sRet (gCall p__law_bent (LF.gCons (gVar 0) (LF.gCons (gCall p__law_part (LF.gCons (gVar 0) (LF.gCons (gVar 1) LF.gNil))) (LF.gCons (gVar 1) LF.gNil))))) sNil) (sRet (gCall p__law_bent (LF.gCons (gVar 0) (LF.gCons (gCall p__law_shuffled (LF.gCons (gVar 0) (LF.gCons (gVar 1) LF.gNil))) (LF.gCons (gVar 1) LF.gNil))))))))))
theorem t__law_value {P : Program} {w : World} {K : PySem.W.Frag} {mg : Str → Option Value} {base : Heap} {f : Addr} {k : Nat} (c__law_bent : Cal0 P w K mg base 2 "_law_bent" 3 p__law_bent) (c__law_shuffled : Cal0 P w K mg base 2 "_law_shuffled" 2 p__law_shuffled) (c__law_part : Cal0 P w K mg base 2 "_law_part" 2 p__law_part) (z_tuple : mg "tuple" = none) (c__law_pick : Cal0 P w K mg base 1 "_law_pick" 2 p__law_pick) (z_range : mg "range" = none) (c__law_leaf : Cal0 P w K mg base 2 "_law_leaf" 1 p__law_leaf) (hk : 2 ≤ k) (cdv : Value) (A : Around) (outer : List PySem.Env) (s : Shared) (H : Hp) (E : XK) (hr : Room k (A.deeper (envOfC "_law_value" (defScope s__law_value) s.heap.objs.size f cdv))) :
    LSs (cxOf CX0 P w K mg base ["_law_box", "_law_upto", "_law_menu", "_law_bottom", "_law_top", "_law_scale", "_law_row", "_law_k"] "_law_value" (defScope s__law_value) f cdv A outer s H E).nox E0 (defBody s__law_value) (b__law_value) :=
  (ls_cons (ls_set (i := 2) sc__law_value.nd rfl (by first | exact Or.inl rfl | exact Or.inr rfl) (le_c0 c__law_pick hr (gl_cons (gl_cons gl_nil)) (la_cons (le_pv 0) (la_cons le_int la_nil)) (by omega))) (ls_cons (ls_if (lt_Eq hr (le_pv 2) le_int) (ls_one (ls_ret (le_c0 c__law_leaf hr (gl_cons gl_nil) (la_cons (le_pv 0) la_nil) (by omega)))) ls_nil) (ls_cons (ls_if (lt_Lt (le_pv 2) le_int) (ls_cons (ls_set (i := 3) sc__law_value.nd rfl (by first | exact Or.inl rfl | exact Or.inr rfl) (le_ix (le_lstD (la_cons le_int (la_cons le_int (la_cons le_int (la_cons le_int (la_cons (le_Pow le_int le_int) la_nil))))) (gl_cons (gl_cons (gl_cons (gl_cons (gl_cons gl_nil)))))) (le_c0 c__law_pick hr (gl_cons (gl_cons gl_nil)) (la_cons (le_pv 0) (la_cons le_int la_nil)) (by omega)))) (ls_cons (ls_set (i := 4) sc__law_value.nd rfl (by first | exact Or.inl rfl | exact Or.inr rfl) (le_Sub (le_Add (le_Mult (le_pv 3) (le_Sub (le_c0 c__law_pick hr (gl_cons (gl_cons gl_nil)) (la_cons (le_pv 0) (la_cons le_int la_nil)) (by omega)) le_int)) (le_c0 c__law_pick hr (gl_cons (gl_cons gl_nil)) (la_cons (le_pv 0) (la_cons le_int la_nil)) (by omega))) le_int)) (ls_cons (ls_set (i := 5) sc__law_value.nd rfl (by first | exact Or.inl rfl | exact Or.inr rfl) (le_ix (le_lstD (la_cons le_int (la_cons le_int (la_cons le_int (la_cons le_int (la_cons (le_neg le_int) (la_cons le_int la_nil)))))) (gl_cons (gl_cons (gl_cons (gl_cons (gl_cons (gl_cons gl_nil))))))) (le_c0 c__law_pick hr (gl_cons (gl_cons gl_nil)) (la_cons (le_pv 0) (la_cons le_int la_nil)) (by omega)))) (ls_one (ls_ret (le_tupD (la_cons (le_Mult (le_pv 4) (le_pv 5)) (la_cons (le_Mult (le_pv 3) (le_pv 5)) la_nil)) (gl_cons (gl_cons gl_nil)))))))) ls_nil) (ls_cons (ls_if (lt_Lt (le_pv 2) le_int) (ls_cons (ls_setComp (j := 6) rfl sc__law_value.nd rfl rfl (sw_true rfl rfl rfl (by decide +kernel)) (li_r1 rfl z_range (le_c0 c__law_pick hr (gl_cons (gl_cons gl_nil)) (la_cons (le_pv 0) (la_cons le_int la_nil)) (by omega))) (blkOk_by (own := [("_law_k", 7)]) (by first | decide +kernel | rfl)) (fun _ _ _ _ _ => pg_name (i := 7) sc__law_value.nd rfl (by first | exact Or.inl rfl | exact Or.inr rfl)) (fun _ _ _ _ _ => lts_nil) (fun _ _ _ _ _ => (le_c0 c__law_leaf hr (gl_cons gl_nil) (la_cons (le_pv 0) la_nil) (by omega)))) (ls_one (ls_ret (le_ix (le_lstD (la_cons (le_tup1 z_tuple (le_pv 6)) (la_cons (le_pv 6) la_nil)) (gl_cons (gl_cons gl_nil))) (le_FloorDiv (le_c0 c__law_pick hr (gl_cons (gl_cons gl_nil)) (la_cons (le_pv 0) (la_cons le_int la_nil)) (by omega)) le_int))))) ls_nil) (ls_cons (ls_if (lt_Eq hr (le_pv 2) le_int) (ls_one (ls_ret (le_c0 c__law_bent hr (gl_cons (gl_cons (gl_cons gl_nil))) (la_cons (le_pv 0) (la_cons (le_c0 c__law_part hr (gl_cons (gl_cons gl_nil)) (la_cons (le_pv 0) (la_cons (le_pv 1) la_nil)) (by omega)) (la_cons (le_pv 1) la_nil))) (by omega)))) ls_nil) (ls_one (ls_ret (le_c0 c__law_bent hr (gl_cons (gl_cons (gl_cons gl_nil))) (la_cons (le_pv 0) (la_cons (le_c0 c__law_shuffled hr (gl_cons (gl_cons gl_nil)) (la_cons (le_pv 0) (la_cons (le_pv 1) la_nil)) (by omega)) (la_cons (le_pv 1) la_nil))) (by omega)))))))))
noncomputable def p__law_value : List A → Sto → R A := runN 8 b__law_value
abbrev s__law_kinds_hold : Stmt := top 53
theorem sc__law_kinds_hold : FnScope ["_law_box", "_law_k", "_law_upto", "_law_value_here", "_law_was", "_law_told", "_law_due", "_law_wide"] ["_law_box"] (defScope s__law_kinds_hold) := ⟨rfl, rfl, rfl, by decide +kernel, rfl, by decide +kernel, by decide +kernel⟩
noncomputable def b__law_kinds_hold : GS :=
  (sSeq (sFor (giR1 (gC (.int 3))) (ggName 1) (sSeq (sSet 2 (gCall p__law_pick (LF.gCons (gVar 0) (LF.gCons (gC (.int 7)) LF.gNil)))) (sSeq (sSet 3 (gCall p__law_value (LF.gCons (gVar 0) (LF.gCons (gVar 2) LF.gNil)))) (sSeq (sSet 4 (gRepr (gVar 3))) (sSeq (sSet 5 (gTupD (LF.gCons (gCall p_is_integer (LF.gCons (gVar 3) LF.gNil)) (LF.gCons (gCallK 1 p_is_number 0 1 [0] LF.gNil (LF.gCons (gVar 3) LF.gNil)) (LF.gCons (gCall p_is_quotient (LF.gCons (gVar 3) LF.gNil)) (LF.gCons (gCall p_is_order (LF.gCons (gVar 2) (LF.gCons (gVar 3) LF.gNil))) LF.gNil)))))) (sSeq (sSet 6 (gTupD (LF.gCons (gCall p__law_whole (LF.gCons (gVar 3) LF.gNil)) (LF.gCons (gCall p__law_count (LF.gCons (gVar 3) LF.gNil)) (LF.gCons (gCall p__law_fraction (LF.gCons (gVar 3) LF.gNil)) (LF.gCons (gCall p__law_each_once (LF.gCons (gVar 2) (LF.gCons (gVar 3) LF.gNil))) LF.gNil)))))) (sSeq (sIf (gOr (gNot (gB (gCall (p__law_same (16)) (LF.gCons (gVar 5) (LF.gCons (gVar 6) LF.gNil))))) (gB (g2 pNe (gRepr (gVar 3)) (gVar 4)))) (sRet (gC (.bool false))) sNil) (sFor (giSeq (gTupD (LF.gCons (gVar 2) (LF.gCons (g2 pAdd (gVar 2) (gC (.int 1))) (LF.gCons (g2 pPow (gC (.int 10)) (gC (.int 30))) LF.gNil))))) (ggName 7) (sSeq (sSet 6 (gCall p__law_bundle (LF.gCons (gVar 7) (LF.gCons (gVar 3) LF.gNil)))) (sIf (gNot (gB (gCall (p__law_same (16)) (LF.gCons (gTupD (LF.gCons (gCallK 2 p_is_lot 0 2 [1, 0] LF.gNil (LF.gCons (gVar 3) (LF.gCons (gVar 7) LF.gNil))) (LF.gCons (gCall p_is_lot (LF.gCons (gVar 7) (LF.gCons (gVar 3) LF.gNil))) LF.gNil))) (LF.gCons (gTupD (LF.gCons (gVar 6) (LF.gCons (gVar 6) LF.gNil))) LF.gNil))))) (sRet (gC (.bool false))) sNil)))))))))) (sRet (gC (.bool true))))
theorem t__law_kinds_hold {P : Program} {w : World} {K : PySem.W.Frag} {mg : Str → Option Value} {base : Heap} {f : Addr} {k : Nat} (z_range : mg "range" = none) (c__law_same : Cal0 P w K mg base 18 "_law_same" 2 (p__law_same (16))) (c_is_lot : Cal0 P w K mg base 4 "is_lot" 2 p_is_lot) (k_is_lot_thing_size : Cal0K P w K mg base 4 "is_lot" 2 p_is_lot ["thing", "size"] [1, 0]) (c__law_bundle : Cal0 P w K mg base 2 "_law_bundle" 2 p__law_bundle) (z_repr : mg "repr" = none) (c__law_each_once : Cal0 P w K mg base 2 "_law_each_once" 2 p__law_each_once) (c__law_fraction : Cal0 P w K mg base 2 "_law_fraction" 1 p__law_fraction) (c__law_count : Cal0 P w K mg base 2 "_law_count" 1 p__law_count) (c__law_whole : Cal0 P w K mg base 1 "_law_whole" 1 p__law_whole) (c_is_order : Cal0 P w K mg base 4 "is_order" 2 p_is_order) (c_is_quotient : Cal0 P w K mg base 2 "is_quotient" 1 p_is_quotient) (k_is_number_thing : Cal0K P w K mg base 2 "is_number" 1 p_is_number ["thing"] [0]) (c_is_integer : Cal0 P w K mg base 1 "is_integer" 1 p_is_integer) (c__law_value : Cal0 P w K mg base 3 "_law_value" 2 p__law_value) (c__law_pick : Cal0 P w K mg base 1 "_law_pick" 2 p__law_pick) (hk : 18 ≤ k) (cdv : Value) (A : Around) (outer : List PySem.Env) (s : Shared) (H : Hp) (E : XK) (gd : A.guards = some []) (hr : Room k (A.deeper (envOfC "_law_kinds_hold" (defScope s__law_kinds_hold) s.heap.objs.size f cdv))) :
    LSs (cxOf CX0 P w K mg base ["_law_box", "_law_k", "_law_upto", "_law_value_here", "_law_was", "_law_told", "_law_due", "_law_wide"] "_law_kinds_hold" (defScope s__law_kinds_hold) f cdv A outer s H E).nox E0 (defBody s__law_kinds_hold) (b__law_kinds_hold) :=
  (ls_cons (ls_for PassesOwn.never rfl (li_r1 rfl z_range le_int) (pg_name (i := 1) sc__law_kinds_hold.nd rfl (by first | exact Or.inl rfl | exact Or.inr rfl)) gok_name (ls_cons (ls_set (i := 2) sc__law_kinds_hold.nd rfl (by first | exact Or.inl rfl | exact Or.inr rfl) (le_c0 c__law_pick hr (gl_cons (gl_cons gl_nil)) (la_cons (le_pv 0) (la_cons le_int la_nil)) (by omega))) (ls_cons (ls_set (i := 3) sc__law_kinds_hold.nd rfl (by first | exact Or.inl rfl | exact Or.inr rfl) (le_c0 c__law_value hr (gl_cons (gl_cons gl_nil)) (la_cons (le_pv 0) (la_cons (le_pv 2) la_nil)) (by omega))) (ls_cons (ls_set (i := 4) sc__law_kinds_hold.nd rfl (by first | exact Or.inl rfl | exact Or.inr rfl) (le_repr z_repr hr gd (le_pv 3))) (ls_cons (ls_set (i := 5) sc__law_kinds_hold.nd rfl (by first | exact Or.inl rfl | exact Or.inr rfl) (le_tupD (la_cons (le_c0 c_is_integer hr (gl_cons gl_nil) (la_cons (le_pv 3) la_nil) (by omega)) (la_cons (le_c0K k_is_number_thing hr (lk_cons (le_pv 3) lk_nil) (by omega)) (la_cons (le_c0 c_is_quotient hr (gl_cons gl_nil) (la_cons (le_pv 3) la_nil) (by omega)) (la_cons (le_c0 c_is_order hr (gl_cons (gl_cons gl_nil)) (la_cons (le_pv 2) (la_cons (le_pv 3) la_nil)) (by omega)) la_nil)))) (gl_cons (gl_cons (gl_cons (gl_cons gl_nil)))))) (ls_cons (ls_set (i := 6) sc__law_kinds_hold.nd rfl (by first | exact Or.inl rfl | exact Or.inr rfl) (le_tupD (la_cons (le_c0 c__law_whole hr (gl_cons gl_nil) (la_cons (le_pv 3) la_nil) (by omega)) (la_cons (le_c0 c__law_count hr (gl_cons gl_nil) (la_cons (le_pv 3) la_nil) (by omega)) (la_cons (le_c0 c__law_fraction hr (gl_cons gl_nil) (la_cons (le_pv 3) la_nil) (by omega)) (la_cons (le_c0 c__law_each_once hr (gl_cons (gl_cons gl_nil)) (la_cons (le_pv 2) (la_cons (le_pv 3) la_nil)) (by omega)) la_nil)))) (gl_cons (gl_cons (gl_cons (gl_cons gl_nil)))))) (ls_cons (ls_if (lt_w (lw_or (lt_not (lt_val (le_c0 c__law_same hr (gl_cons (gl_cons gl_nil)) (la_cons (le_pv 5) (la_cons (le_pv 6) la_nil)) (by omega)))) (lw_or1 (lt_NotEq hr (le_repr z_repr hr gd (le_pv 3)) (le_pv 4))))) (ls_one (ls_ret le_bl)) ls_nil) (ls_one (ls_for PassesOwn.never rfl (li_seq (le_tupD (la_cons (le_pv 2) (la_cons (le_Add (le_pv 2) le_int) (la_cons (le_Pow le_int le_int) la_nil))) (gl_cons (gl_cons (gl_cons gl_nil))))) (pg_name (i := 7) sc__law_kinds_hold.nd rfl (by first | exact Or.inl rfl | exact Or.inr rfl)) gok_name (ls_cons (ls_set (i := 6) sc__law_kinds_hold.nd rfl (by first | exact Or.inl rfl | exact Or.inr rfl) (le_c0 c__law_bundle hr (gl_cons (gl_cons gl_nil)) (la_cons (le_pv 7) (la_cons (le_pv 3) la_nil)) (by omega))) (ls_one (ls_if (lt_not (lt_val (le_c0 c__law_same hr (gl_cons (gl_cons gl_nil)) (la_cons (le_tupD (la_cons (le_c0K k_is_lot_thing_size hr (lk_cons (le_pv 3) (lk_cons (le_pv 7) lk_nil)) (by omega)) (la_cons (le_c0 c_is_lot hr (gl_cons (gl_cons gl_nil)) (la_cons (le_pv 7) (la_cons (le_pv 3) la_nil)) (by omega)) la_nil)) (gl_cons (gl_cons gl_nil))) (la_cons (le_tupD (la_cons (le_pv 6) (la_cons (le_pv 6) la_nil)) (gl_cons (gl_cons gl_nil))) la_nil)) (by omega)))) (ls_one (ls_ret le_bl)) ls_nil)))))))))))) (ls_one (ls_ret le_bl)))
noncomputable def p__law_kinds_hold : List A → Sto → R A := runN 8 b__law_kinds_hold
abbrev s__law_by : Stmt := top 54
theorem sc__law_by : FnScope ["_law_value_here", "_law_e"] ["_law_value_here"] (defScope s__law_by) := ⟨rfl, rfl, rfl, by decide +kernel, rfl, by decide +kernel, by decide +kernel⟩
noncomputable def b__law_by : GS :=
  (sTryA "NotUsable" 1 "no" "word" "at" (gTupD (LF.gCons (gC (.str "let")) (LF.gCons (gCallK 1 p_lot_by 0 1 [0] LF.gNil (LF.gCons (gVar 0) LF.gNil)) LF.gNil))))
theorem t__law_by {P : Program} {w : World} {K : PySem.W.Frag} {mg : Str → Option Value} {base : Heap} {f : Addr} {k : Nat} (C_NotUsable : Addr) (k_lot_by_number : CalXK P w K mg base 4 "lot_by" 1 p_lot_by ["number"] [0]) (xa_NotUsable : ExcAs K mg "NotUsable" "word" "at" C_NotUsable) (ie_NotUsable_PaperError : IsEx K mg C_NotUsable "PaperError" false) (z_isinstance : mg "isinstance" = none) (ie_NotUsable_HouseError : IsEx K mg C_NotUsable "HouseError" true) (hk : 4 ≤ k) (cdv : Value) (A : Around) (outer : List PySem.Env) (s : Shared) (H : Hp) (E : XK) (hr : Room k (A.deeper (envOfC "_law_by" (defScope s__law_by) s.heap.objs.size f cdv))) :
    LSs (cxOf CX0 P w K mg base ["_law_value_here", "_law_e"] "_law_by" (defScope s__law_by) f cdv A outer s H E).nox E0 (defBody s__law_by) (b__law_by) :=
  (ls_one (ls_tryA (i := 1) rfl rfl sc__law_by.nd rfl rfl xa_NotUsable (fun W pn xe tk po => (le_tupD (la_cons le_str (la_cons (le_cSK k_lot_by_number hr (fun σ => passAt tk σ) (lk_cons (le_pv 0) lk_nil) (by omega)) la_nil)) (gl_cons (gl_cons gl_nil)))) (fun a dd oe pn hz hv => (pss_kIf (PW.pt (pw_kOr (pt_kNot (pt_isEx (X := (cxOf CX0 P w K mg base ["_law_value_here", "_law_e"] "_law_by" (defScope s__law_by) f cdv A outer s H E).nox) (n := "_law_e") xa_NotUsable.is hz hv ie_NotUsable_HouseError z_isinstance rfl)) (pw_kOr1 (pt_isEx (X := (cxOf CX0 P w K mg base ["_law_value_here", "_law_e"] "_law_by" (defScope s__law_by) f cdv A outer s H E).nox) (n := "_law_e") xa_NotUsable.is hz hv ie_NotUsable_PaperError z_isinstance rfl)))) (pss_kRet (X := (cxOf CX0 P w K mg base ["_law_value_here", "_law_e"] "_law_by" (defScope s__law_by) f cdv A outer s H E).nox) xa_NotUsable.xf xa_NotUsable.n1 xa_NotUsable.n2 hz hv rfl)))))
noncomputable def p__law_by : List A → Sto → R A := runN 2 b__law_by
abbrev s__law_lots_hold : Stmt := top 55
theorem sc__law_lots_hold : FnScope ["_law_box", "_law_upto", "_law_row", "_law_total", "_law_part_here", "_law_within", "_law_mask", "_law_due", "_law_bad", "_law_k"] ["_law_box"] (defScope s__law_lots_hold) := ⟨rfl, rfl, rfl, by decide +kernel, rfl, by decide +kernel, by decide +kernel⟩
noncomputable def b__law_lots_hold : GS :=
  (sSeq (sSet 1 (gC (.int 13))) (sSeq (sSet 2 (gSl (gCall p__law_part (LF.gCons (gVar 0) (LF.gCons (gC (.int 13)) LF.gNil))) oNone (oSome (g2 pAdd (gC (.int 5)) (g2 pMul (gC (.int 3)) (g2 pFdiv (gCall p__law_pick (LF.gCons (gVar 0) (LF.gCons (gC (.int 8)) LF.gNil))) (gC (.int 7)))))))) (sSeq (sSet 3 (gC (.int 0))) (sSeq (sFor (giSeq (gVar 2)) (ggName 4) (sSet 3 (g2 pAdd (gVar 3) (g2 pShl (gC (.int 1)) (gVar 4))))) (sSeq (sIf (gOr (gNot (gB (gCall (p__law_same (16)) (LF.gCons (gCall p_lot_number (LF.gCons (gVar 2) LF.gNil)) (LF.gCons (gVar 3) LF.gNil))))) (gNot (gB (gCall (p__law_same (16)) (LF.gCons (gCall p__law_by (LF.gCons (gVar 3) LF.gNil)) (LF.gCons (gTupD (LF.gCons (gC (.str "let")) (LF.gCons (gVar 2) LF.gNil))) LF.gNil)))))) (sRet (gC (.bool false))) sNil) (sSeq (sSet 5 (gComp (giR1 (g2 pShl (gC (.int 1)) (gB1 pLen (LF.gCons (gVar 2) LF.gNil)))) 6 gYes (gB1 pTup (LF.gCons (gComp (giR1 (gB1 pLen (LF.gCons (gVar 2) LF.gNil))) 9 (gTru (g2 pBand (g2 pShr (gVar 6) (gVar 9)) (gC (.int 1)))) (g2 pIx (gVar 2) (gVar 9))) LF.gNil)))) (sSeq (sIf (gNot (gB (gCall (p__law_same (16)) (LF.gCons (gCallK 1 p_lots_within 0 1 [0] LF.gNil (LF.gCons (gVar 2) LF.gNil)) (LF.gCons (gB1 pTup (LF.gCons (gVar 5) LF.gNil)) LF.gNil))))) (sRet (gC (.bool false))) sNil) (sSeq (sSet 6 (g2 pIx (gLstD (LF.gCons (gC (.int 0)) (LF.gCons (gC (.int 8191)) (LF.gCons (gCall p__law_pick (LF.gCons (gVar 0) (LF.gCons (gC (.int 8192)) LF.gNil))) (LF.gCons (gCall p__law_pick (LF.gCons (gVar 0) (LF.gCons (gC (.int 64)) LF.gNil))) LF.gNil))))) (gCall p__law_pick (LF.gCons (gVar 0) (LF.gCons (gC (.int 4)) LF.gNil))))) (sSeq (sSet 7 (gB1 pTup (LF.gCons (gComp (giR1 (gVar 1)) 9 (gTru (g2 pBand (g2 pShr (gVar 6) (gVar 9)) (gC (.int 1)))) (gVar 9)) LF.gNil))) (sSeq (sIf (gOr (gNot (gB (gCall (p__law_same (16)) (LF.gCons (gCall p__law_by (LF.gCons (gVar 6) LF.gNil)) (LF.gCons (gTupD (LF.gCons (gC (.str "let")) (LF.gCons (gVar 7) LF.gNil))) LF.gNil))))) (gNot (gB (gCall (p__law_same (16)) (LF.gCons (gCallK 1 p_lot_number 0 1 [0] LF.gNil (LF.gCons (gVar 7) LF.gNil)) (LF.gCons (gVar 6) LF.gNil)))))) (sRet (gC (.bool false))) sNil) (sSeq (sSet 8 (g2 pIx (gLstD (LF.gCons (gC (.bool true)) (LF.gCons (gC (.bool false)) (LF.gCons (gNeg (gC (.int 1))) (LF.gCons (gC .none) (LF.gCons (gC (.str "3")) (LF.gCons (gTupD (LF.gCons (gC (.int 3)) LF.gNil)) (LF.gCons (gLstD (LF.gCons (gC (.int 3)) LF.gNil)) (LF.gCons (gNeg (g2 pPow (gC (.int 10)) (gC (.int 50)))) LF.gNil))))))))) (gCall p__law_pick (LF.gCons (gVar 0) (LF.gCons (gC (.int 8)) LF.gNil))))) (sRet (gCall (p__law_same (16)) (LF.gCons (gCall p__law_by (LF.gCons (gVar 8) LF.gNil)) (LF.gCons (gTupD (LF.gCons (gC (.str "no")) (LF.gCons (gC (.str "number")) (LF.gCons (gNeg (gC (.int 1))) LF.gNil)))) LF.gNil)))))))))))))))
theorem t__law_lots_hold {P : Program} {w : World} {K : PySem.W.Frag} {mg : Str → Option Value} {base : Heap} {f : Addr} {k : Nat} (c__law_same : Cal0 P w K mg base 18 "_law_same" 2 (p__law_same (16))) (c__law_by : Cal0 P w K mg base 5 "_law_by" 1 p__law_by) (c__law_pick : Cal0 P w K mg base 1 "_law_pick" 2 p__law_pick) (k_lot_number_lot : Cal0K P w K mg base 1 "lot_number" 1 p_lot_number ["lot"] [0]) (z_range : mg "range" = none) (z_tuple : mg "tuple" = none) (k_lots_within_lot : Cal0K P w K mg base 1 "lots_within" 1 p_lots_within ["lot"] [0]) (z_len : mg "len" = none) (c_lot_number : Cal0 P w K mg base 1 "lot_number" 1 p_lot_number) (c__law_part : Cal0 P w K mg base 2 "_law_part" 2 p__law_part) (hk : 18 ≤ k) (cdv : Value) (A : Around) (outer : List PySem.Env) (s : Shared) (H : Hp) (E : XK) (hr : Room k (A.deeper (envOfC "_law_lots_hold" (defScope s__law_lots_hold) s.heap.objs.size f cdv))) :
    LSs (cxOf CX0 P w K mg base ["_law_box", "_law_upto", "_law_row", "_law_total", "_law_part_here", "_law_within", "_law_mask", "_law_due", "_law_bad", "_law_k"] "_law_lots_hold" (defScope s__law_lots_hold) f cdv A outer s H E).nox E0 (defBody s__law_lots_hold) (b__law_lots_hold) :=
  (ls_cons (ls_set (i := 1) sc__law_lots_hold.nd rfl (by first | exact Or.inl rfl | exact Or.inr rfl) le_int) (ls_cons (ls_set (i := 2) sc__law_lots_hold.nd rfl (by first | exact Or.inl rfl | exact Or.inr rfl) (le_sl (le_c0 c__law_part hr (gl_cons (gl_cons gl_nil)) (la_cons (le_pv 0) (la_cons le_int la_nil)) (by omega)) lo_none (lo_some (le_Add le_int (le_Mult le_int (le_FloorDiv (le_c0 c__law_pick hr (gl_cons (gl_cons gl_nil)) (la_cons (le_pv 0) (la_cons le_int la_nil)) (by omega)) le_int)))))) (ls_cons (ls_set (i := 3) sc__law_lots_hold.nd rfl (by first | exact Or.inl rfl | exact Or.inr rfl) le_int) (ls_cons (ls_for PassesOwn.never rfl (li_seq (le_pv 2)) (pg_name (i := 4) sc__law_lots_hold.nd rfl (by first | exact Or.inl rfl | exact Or.inr rfl)) gok_name (ls_one (ls_set (i := 3) sc__law_lots_hold.nd rfl (by first | exact Or.inl rfl | exact Or.inr rfl) (le_Add (le_pv 3) (le_LShift le_int (le_pv 4)))))) (ls_cons (ls_if (lt_w (lw_or (lt_not (lt_val (le_c0 c__law_same hr (gl_cons (gl_cons gl_nil)) (la_cons (le_c0 c_lot_number hr (gl_cons gl_nil) (la_cons (le_pv 2) la_nil) (by omega)) (la_cons (le_pv 3) la_nil)) (by omega)))) (lw_or1 (lt_not (lt_val (le_c0 c__law_same hr (gl_cons (gl_cons gl_nil)) (la_cons (le_c0 c__law_by hr (gl_cons gl_nil) (la_cons (le_pv 3) la_nil) (by omega)) (la_cons (le_tupD (la_cons le_str (la_cons (le_pv 2) la_nil)) (gl_cons (gl_cons gl_nil))) la_nil)) (by omega))))))) (ls_one (ls_ret le_bl)) ls_nil) (ls_cons (ls_setComp (j := 5) rfl sc__law_lots_hold.nd rfl rfl (sw_true rfl rfl rfl (by decide +kernel)) (li_r1 rfl z_range (le_LShift le_int (le_len z_len (le_pv 2)))) (blkOk_by (own := [("_law_mask", 6)]) (by first | decide +kernel | rfl)) (fun _ _ _ _ _ => pg_name (i := 6) sc__law_lots_hold.nd rfl (by first | exact Or.inl rfl | exact Or.inr rfl)) (fun _ _ _ _ _ => lts_nil) (fun _ _ _ _ _ => (le_tup1 z_tuple (le_comp rfl sc__law_lots_hold.nd (li_r1 rfl z_range (le_len z_len (le_pv 2))) (blkOk_by (own := [("_law_k", 9)]) (by first | decide +kernel | rfl)) (fun _ _ _ _ _ => pg_name (i := 9) sc__law_lots_hold.nd rfl (by first | exact Or.inl rfl | exact Or.inr rfl)) (fun _ _ _ _ _ => (lts_one (lt_tru (le_BitAnd (le_RShift (le_pv 6) (le_pv 9)) le_int)))) (fun _ _ _ _ _ => (le_ix (le_pv 2) (le_pv 9))))))) (ls_cons (ls_if (lt_not (lt_val (le_c0 c__law_same hr (gl_cons (gl_cons gl_nil)) (la_cons (le_c0K k_lots_within_lot hr (lk_cons (le_pv 2) lk_nil) (by omega)) (la_cons (le_tup1 z_tuple (le_pv 5)) la_nil)) (by omega)))) (ls_one (ls_ret le_bl)) ls_nil) (ls_cons (ls_set (i := 6) sc__law_lots_hold.nd rfl (by first | exact Or.inl rfl | exact Or.inr rfl) (le_ix (le_lstD (la_cons le_int (la_cons le_int (la_cons (le_c0 c__law_pick hr (gl_cons (gl_cons gl_nil)) (la_cons (le_pv 0) (la_cons le_int la_nil)) (by omega)) (la_cons (le_c0 c__law_pick hr (gl_cons (gl_cons gl_nil)) (la_cons (le_pv 0) (la_cons le_int la_nil)) (by omega)) la_nil)))) (gl_cons (gl_cons (gl_cons (gl_cons gl_nil))))) (le_c0 c__law_pick hr (gl_cons (gl_cons gl_nil)) (la_cons (le_pv 0) (la_cons le_int la_nil)) (by omega)))) (ls_cons (ls_set (i := 7) sc__law_lots_hold.nd rfl (by first | exact Or.inl rfl | exact Or.inr rfl) (le_tup1 z_tuple (le_comp rfl sc__law_lots_hold.nd (li_r1 rfl z_range (le_pv 1)) (blkOk_by (own := [("_law_k", 9)]) (by first | decide +kernel | rfl)) (fun _ _ _ _ _ => pg_name (i := 9) sc__law_lots_hold.nd rfl (by first | exact Or.inl rfl | exact Or.inr rfl)) (fun _ _ _ _ _ => (lts_one (lt_tru (le_BitAnd (le_RShift (le_pv 6) (le_pv 9)) le_int)))) (fun _ _ _ _ _ => (le_pv 9))))) (ls_cons (ls_if (lt_w (lw_or (lt_not (lt_val (le_c0 c__law_same hr (gl_cons (gl_cons gl_nil)) (la_cons (le_c0 c__law_by hr (gl_cons gl_nil) (la_cons (le_pv 6) la_nil) (by omega)) (la_cons (le_tupD (la_cons le_str (la_cons (le_pv 7) la_nil)) (gl_cons (gl_cons gl_nil))) la_nil)) (by omega)))) (lw_or1 (lt_not (lt_val (le_c0 c__law_same hr (gl_cons (gl_cons gl_nil)) (la_cons (le_c0K k_lot_number_lot hr (lk_cons (le_pv 7) lk_nil) (by omega)) (la_cons (le_pv 6) la_nil)) (by omega))))))) (ls_one (ls_ret le_bl)) ls_nil) (ls_cons (ls_set (i := 8) sc__law_lots_hold.nd rfl (by first | exact Or.inl rfl | exact Or.inr rfl) (le_ix (le_lstD (la_cons le_bl (la_cons le_bl (la_cons (le_neg le_int) (la_cons le_non (la_cons le_str (la_cons (le_tupD (la_cons le_int la_nil) (gl_cons gl_nil)) (la_cons (le_lstD (la_cons le_int la_nil) (gl_cons gl_nil)) (la_cons (le_neg (le_Pow le_int le_int)) la_nil)))))))) (gl_cons (gl_cons (gl_cons (gl_cons (gl_cons (gl_cons (gl_cons (gl_cons gl_nil))))))))) (le_c0 c__law_pick hr (gl_cons (gl_cons gl_nil)) (la_cons (le_pv 0) (la_cons le_int la_nil)) (by omega)))) (ls_one (ls_ret (le_c0 c__law_same hr (gl_cons (gl_cons gl_nil)) (la_cons (le_c0 c__law_by hr (gl_cons gl_nil) (la_cons (le_pv 8) la_nil) (by omega)) (la_cons (le_tupD (la_cons le_str (la_cons le_str (la_cons (le_neg le_int) la_nil))) (gl_cons (gl_cons (gl_cons gl_nil)))) la_nil)) (by omega)))))))))))))))
noncomputable def p__law_lots_hold : List A → Sto → R A := runN 10 b__law_lots_hold
abbrev s__law_apart : Stmt := top 56
theorem sc__law_apart : FnScope ["_law_here", "_law_there", "_law_both", "_law_part_here"] ["_law_here", "_law_there"] (defScope s__law_apart) := ⟨rfl, rfl, rfl, by decide +kernel, rfl, by decide +kernel, by decide +kernel⟩
noncomputable def b__law_apart : GS :=
  (sSeq (sSet 2 (gComp (giSeq (gVar 0)) 3 (gB (g2 (pIn id) (gVar 3) (gVar 1))) (gVar 3))) (sRet (gAndV (g2 pNe (gVar 0) (gVar 1)) (gOrV (g2 pEq (gB1 pLen (LF.gCons (gVar 2) LF.gNil)) (gC (.int 0))) (gOrV (g2 pEq (gB1 pLen (LF.gCons (gVar 2) LF.gNil)) (gB1 pLen (LF.gCons (gVar 0) LF.gNil))) (g2 pEq (gB1 pLen (LF.gCons (gVar 2) LF.gNil)) (gB1 pLen (LF.gCons (gVar 1) LF.gNil))))))))
theorem t__law_apart {P : Program} {w : World} {K : PySem.W.Frag} {mg : Str → Option Value} {base : Heap} {f : Addr} {k : Nat} (z_len : mg "len" = none) (hk : 0 ≤ k) (cdv : Value) (A : Around) (outer : List PySem.Env) (s : Shared) (H : Hp) (E : XK) (hr : Room k (A.deeper (envOfC "_law_apart" (defScope s__law_apart) s.heap.objs.size f cdv))) :
    LSs (cxOf CX0 P w K mg base ["_law_here", "_law_there", "_law_both", "_law_part_here"] "_law_apart" (defScope s__law_apart) f cdv A outer s H E).nox E0 (defBody s__law_apart) (b__law_apart) :=
  (ls_cons (ls_setComp (j := 2) rfl sc__law_apart.nd rfl rfl (sw_true rfl rfl rfl (by decide +kernel)) (li_seq (le_pv 0)) (blkOk_by (own := [("_law_part_here", 3)]) (by first | decide +kernel | rfl)) (fun _ _ _ _ _ => pg_name (i := 3) sc__law_apart.nd rfl (by first | exact Or.inl rfl | exact Or.inr rfl)) (fun _ _ _ _ _ => (lts_one (lt_In hr (le_pv 3) (le_pv 1)))) (fun _ _ _ _ _ => (le_pv 3))) (ls_one (ls_ret (le_and (le_NotEq hr (le_pv 0) (le_pv 1)) (le_one (le_or (le_Eq hr (le_len z_len (le_pv 2)) le_int) (le_or (le_Eq hr (le_len z_len (le_pv 2)) (le_len z_len (le_pv 0))) (le_one (le_Eq hr (le_len z_len (le_pv 2)) (le_len z_len (le_pv 1)))))))))))
noncomputable def p__law_apart : List A → Sto → R A := runN 4 b__law_apart
abbrev s__law_limits : Stmt := top 57
theorem sc__law_limits : FnScope ["_law_box", "_law_upto", "_law_rows", "_law_wild", "_law_k", "_law_row", "_law_near", "_law_other"] ["_law_box", "_law_upto"] (defScope s__law_limits) := ⟨rfl, rfl, rfl, by decide +kernel, rfl, by decide +kernel, by decide +kernel⟩
noncomputable def b__law_limits : GS :=
  (sSeq (sBox 2 LF.gNil) (sSeq (sSet 3 (g2 pGt (gCall p__law_pick (LF.gCons (gVar 0) (LF.gCons (gC (.int 6)) LF.gNil))) (gC (.int 1)))) (sSeq (sFor (giR1 (g2 pIx (gLstD (LF.gCons (gC (.int 3)) (LF.gCons (gC (.int 2)) (LF.gCons (gC (.int 4)) (LF.gCons (gC (.int 5)) (LF.gCons (gC (.int 0)) LF.gNil)))))) (gCall p__law_pick (LF.gCons (gVar 0) (LF.gCons (gC (.int 5)) LF.gNil))))) (ggName 4) (sSeq (sSet 5 (gTupD (LF.gCons (gCall p__law_part (LF.gCons (gVar 0) (LF.gCons (gVar 1) LF.gNil))) (LF.gCons (g2 pIx (gLstD (LF.gCons (gC (.int 0)) (LF.gCons (gC (.int 1)) (LF.gCons (gC (.int 2)) (LF.gCons (gC (.int 3)) (LF.gCons (g2 pPow (gC (.int 10)) (gC (.int 30))) LF.gNil)))))) (gCall p__law_pick (LF.gCons (gVar 0) (LF.gCons (gC (.int 5)) LF.gNil)))) LF.gNil)))) (sSeq (sSet 6 (gComp (giSeq (gVar 2)) 7 (gNot (gB (gCall p__law_apart (LF.gCons (g2 pIx (gVar 7) (gC (.int 0))) (LF.gCons (g2 pIx (gVar 5) (gC (.int 0))) LF.gNil))))) (gVar 7))) (sIf (gOr (gAnd (gB (g2 pGt (gB1 pLen (LF.gCons (g2 pIx (gVar 5) (gC (.int 0))) LF.gNil)) (gC (.int 0)))) (gOr (gB (gVar 3)) (gB (g2 pEq (gB1 pLen (LF.gCons (gVar 6) LF.gNil)) (gC (.int 0)))))) (gB (g2 pEq (gCall p__law_pick (LF.gCons (gVar 0) (LF.gCons (gC (.int 16)) LF.gNil))) (gC (.int 15))))) (sApp (gVar 2) (gVar 5)) sNil)))) (sRet (gTupD (LF.gCons (gC (.str "limits")) (LF.gCons (gVar 1) (LF.gCons (gB1 pTup (LF.gCons (gVar 2) LF.gNil)) LF.gNil))))))))
theorem t__law_limits {P : Program} {w : World} {K : PySem.W.Frag} {mg : Str → Option Value} {base : Heap} {f : Addr} {k : Nat} (z_tuple : mg "tuple" = none) (c__law_pick : Cal0 P w K mg base 1 "_law_pick" 2 p__law_pick) (z_range : mg "range" = none) (z_len : mg "len" = none) (c__law_apart : Cal0 P w K mg base 1 "_law_apart" 2 p__law_apart) (c__law_part : Cal0 P w K mg base 2 "_law_part" 2 p__law_part) (hk : 2 ≤ k) (cdv : Value) (A : Around) (outer : List PySem.Env) (s : Shared) (H : Hp) (E : XK) (hr : Room k (A.deeper (envOfC "_law_limits" (defScope s__law_limits) s.heap.objs.size f cdv))) :
    LSs (cxOf CX0 P w K mg base ["_law_box", "_law_upto", "_law_rows", "_law_wild", "_law_k", "_law_row", "_law_near", "_law_other"] "_law_limits" (defScope s__law_limits) f cdv A outer s H E).nox E0 (defBody s__law_limits) (b__law_limits) :=
  (ls_cons (ls_box (i := 2) sc__law_limits.nd rfl (by first | exact Or.inl rfl | exact Or.inr rfl) la_nil gl_nil) (ls_cons (ls_set (i := 3) sc__law_limits.nd rfl (by first | exact Or.inl rfl | exact Or.inr rfl) (le_Gt (le_c0 c__law_pick hr (gl_cons (gl_cons gl_nil)) (la_cons (le_pv 0) (la_cons le_int la_nil)) (by omega)) le_int)) (ls_cons (ls_for PassesOwn.never rfl (li_r1 rfl z_range (le_ix (le_lstD (la_cons le_int (la_cons le_int (la_cons le_int (la_cons le_int (la_cons le_int la_nil))))) (gl_cons (gl_cons (gl_cons (gl_cons (gl_cons gl_nil)))))) (le_c0 c__law_pick hr (gl_cons (gl_cons gl_nil)) (la_cons (le_pv 0) (la_cons le_int la_nil)) (by omega)))) (pg_name (i := 4) sc__law_limits.nd rfl (by first | exact Or.inl rfl | exact Or.inr rfl)) gok_name (ls_cons (ls_set (i := 5) sc__law_limits.nd rfl (by first | exact Or.inl rfl | exact Or.inr rfl) (le_tupD (la_cons (le_c0 c__law_part hr (gl_cons (gl_cons gl_nil)) (la_cons (le_pv 0) (la_cons (le_pv 1) la_nil)) (by omega)) (la_cons (le_ix (le_lstD (la_cons le_int (la_cons le_int (la_cons le_int (la_cons le_int (la_cons (le_Pow le_int le_int) la_nil))))) (gl_cons (gl_cons (gl_cons (gl_cons (gl_cons gl_nil)))))) (le_c0 c__law_pick hr (gl_cons (gl_cons gl_nil)) (la_cons (le_pv 0) (la_cons le_int la_nil)) (by omega))) la_nil)) (gl_cons (gl_cons gl_nil)))) (ls_cons (ls_setComp (j := 6) rfl sc__law_limits.nd rfl rfl (sw_true rfl rfl rfl (by decide +kernel)) (li_seq (le_pv 2)) (blkOk_by (own := [("_law_other", 7)]) (by first | decide +kernel | rfl)) (fun _ _ _ _ _ => pg_name (i := 7) sc__law_limits.nd rfl (by first | exact Or.inl rfl | exact Or.inr rfl)) (fun _ _ _ _ _ => (lts_one (lt_not (lt_val (le_c0 c__law_apart hr (gl_cons (gl_cons gl_nil)) (la_cons (le_ix (le_pv 7) le_int) (la_cons (le_ix (le_pv 5) le_int) la_nil)) (by omega)))))) (fun _ _ _ _ _ => (le_pv 7))) (ls_one (ls_if (lt_w (lw_or (lt_w (lw_and (lt_Gt (le_len z_len (le_ix (le_pv 5) le_int)) le_int) (lw_and1 (lt_w (lw_or (lt_val (le_pv 3)) (lw_or1 (lt_Eq hr (le_len z_len (le_pv 6)) le_int))))))) (lw_or1 (lt_Eq hr (le_c0 c__law_pick hr (gl_cons (gl_cons gl_nil)) (la_cons (le_pv 0) (la_cons le_int la_nil)) (by omega)) le_int)))) (ls_one (ls_app (le_pv 2) (le_pv 5))) ls_nil))))) (ls_one (ls_ret (le_tupD (la_cons le_str (la_cons (le_pv 1) (la_cons (le_tup1 z_tuple (le_pv 2)) la_nil))) (gl_cons (gl_cons (gl_cons gl_nil)))))))))
noncomputable def p__law_limits : List A → Sto → R A := runN 8 b__law_limits
abbrev s__law_table : Stmt := top 58
theorem sc__law_table : FnScope ["_law_box", "_law_upto", "_law_first", "_law_second", "_law_caps", "_law_ranks", "_law_mask", "_law_masks", "_law_here", "_law_there", "_law_k"] ["_law_box", "_law_upto"] (defScope s__law_table) := ⟨rfl, rfl, rfl, by decide +kernel, rfl, by decide +kernel, by decide +kernel⟩
noncomputable def b__law_table : GS :=
  (sSeq (sSet 2 (gCall p__law_pick (LF.gCons (gVar 0) (LF.gCons (g2 pShl (gC (.int 1)) (gVar 1)) LF.gNil)))) (sSeq (sSet 3 (gCall p__law_pick (LF.gCons (gVar 0) (LF.gCons (g2 pShl (gC (.int 1)) (gVar 1)) LF.gNil)))) (sSeq (sSet 4 (gTupD (LF.gCons (gCall p__law_pick (LF.gCons (gVar 0) (LF.gCons (gC (.int 4)) LF.gNil))) (LF.gCons (gCall p__law_pick (LF.gCons (gVar 0) (LF.gCons (gC (.int 4)) LF.gNil))) LF.gNil)))) (sSeq (sBox 5 LF.gNil) (sSeq (sFor (giR1 (g2 pShl (gC (.int 1)) (gVar 1))) (ggName 6) (sSeq (sSet 8 (gB1 pLen (LF.gCons (gComp (giR1 (gVar 1)) 10 (gTru (g2 pBand (g2 pShr (g2 pBand (gVar 6) (gVar 2)) (gVar 10)) (gC (.int 1)))) (gVar 10)) LF.gNil))) (sSeq (sSet 9 (gB1 pLen (LF.gCons (gComp (giR1 (gVar 1)) 10 (gTru (g2 pBand (g2 pShr (g2 pSub (g2 pBand (gVar 6) (gVar 3)) (g2 pBand (g2 pBand (gVar 6) (gVar 3)) (gVar 2))) (gVar 10)) (gC (.int 1)))) (gVar 10)) LF.gNil))) (sApp (gVar 5) (g2 pAdd (gB1 pMin2 (LF.gCons (gVar 8) (LF.gCons (g2 pIx (gVar 4) (gC (.int 0))) LF.gNil))) (gB1 pMin2 (LF.gCons (gVar 9) (LF.gCons (g2 pIx (gVar 4) (gC (.int 1))) LF.gNil)))))))) (sSeq (sSet 7 (gComp (giR1 (g2 pShl (gC (.int 1)) (gVar 1))) 6 (gB (g2 pGt (g2 pBand (gVar 6) (g2 pSub (gVar 6) (gC (.int 1)))) (gC (.int 0)))) (gVar 6))) (sSeq (sSet 7 (gComp (giSeq (gVar 7)) 6 (gB (g2 pEq (g2 pIx (gVar 5) (g2 pBand (g2 pBand (gVar 6) (g2 pSub (gVar 6) (gC (.int 1)))) (g2 pSub (g2 pBand (gVar 6) (g2 pSub (gVar 6) (gC (.int 1)))) (gC (.int 1))))) (g2 pIx (gVar 5) (gVar 6)))) (gVar 6))) (sSeq (sIf (gAnd (gB (g2 pGt (gB1 pLen (LF.gCons (gVar 7) LF.gNil)) (gC (.int 0)))) (gB (g2 pEq (gCall p__law_pick (LF.gCons (gVar 0) (LF.gCons (gC (.int 2)) LF.gNil))) (gC (.int 0))))) (sSeq (sSet 6 (g2 pIx (gVar 7) (gCall p__law_pick (LF.gCons (gVar 0) (LF.gCons (gB1 pLen (LF.gCons (gVar 7) LF.gNil)) LF.gNil))))) (sPut (gVar 5) (gVar 6) (g2 pAdd (g2 pIx (gVar 5) (gVar 6)) (gC (.int 1))))) sNil) (sRet (gTupD (LF.gCons (gC (.str "table")) (LF.gCons (gVar 1) (LF.gCons (gB1 pTup (LF.gCons (gVar 5) LF.gNil)) LF.gNil)))))))))))))
theorem t__law_table {P : Program} {w : World} {K : PySem.W.Frag} {mg : Str → Option Value} {base : Heap} {f : Addr} {k : Nat} (z_tuple : mg "tuple" = none) (c__law_pick : Cal0 P w K mg base 1 "_law_pick" 2 p__law_pick) (z_len : mg "len" = none) (z_range : mg "range" = none) (z_min : mg "min" = none) (hk : 1 ≤ k) (cdv : Value) (A : Around) (outer : List PySem.Env) (s : Shared) (H : Hp) (E : XK) (hr : Room k (A.deeper (envOfC "_law_table" (defScope s__law_table) s.heap.objs.size f cdv))) :
    LSs (cxOf CX0 P w K mg base ["_law_box", "_law_upto", "_law_first", "_law_second", "_law_caps", "_law_ranks", "_law_mask", "_law_masks", "_law_here", "_law_there", "_law_k"] "_law_table" (defScope s__law_table) f cdv A outer s H E).nox E0 (defBody s__law_table) (b__law_table) :=
  (ls_cons (ls_set (i := 2) sc__law_table.nd rfl (by first | exact Or.inl rfl | exact Or.inr rfl) (le_c0 c__law_pick hr (gl_cons (gl_cons gl_nil)) (la_cons (le_pv 0) (la_cons (le_LShift le_int (le_pv 1)) la_nil)) (by omega))) (ls_cons (ls_set (i := 3) sc__law_table.nd rfl (by first | exact Or.inl rfl | exact Or.inr rfl) (le_c0 c__law_pick hr (gl_cons (gl_cons gl_nil)) (la_cons (le_pv 0) (la_cons (le_LShift le_int (le_pv 1)) la_nil)) (by omega))) (ls_cons (ls_set (i := 4) sc__law_table.nd rfl (by first | exact Or.inl rfl | exact Or.inr rfl) (le_tupD (la_cons (le_c0 c__law_pick hr (gl_cons (gl_cons gl_nil)) (la_cons (le_pv 0) (la_cons le_int la_nil)) (by omega)) (la_cons (le_c0 c__law_pick hr (gl_cons (gl_cons gl_nil)) (la_cons (le_pv 0) (la_cons le_int la_nil)) (by omega)) la_nil)) (gl_cons (gl_cons gl_nil)))) (ls_cons (ls_box (i := 5) sc__law_table.nd rfl (by first | exact Or.inl rfl | exact Or.inr rfl) la_nil gl_nil) (ls_cons (ls_for PassesOwn.never rfl (li_r1 rfl z_range (le_LShift le_int (le_pv 1))) (pg_name (i := 6) sc__law_table.nd rfl (by first | exact Or.inl rfl | exact Or.inr rfl)) gok_name (ls_cons (ls_set (i := 8) sc__law_table.nd rfl (by first | exact Or.inl rfl | exact Or.inr rfl) (le_len z_len (le_comp rfl sc__law_table.nd (li_r1 rfl z_range (le_pv 1)) (blkOk_by (own := [("_law_k", 10)]) (by first | decide +kernel | rfl)) (fun _ _ _ _ _ => pg_name (i := 10) sc__law_table.nd rfl (by first | exact Or.inl rfl | exact Or.inr rfl)) (fun _ _ _ _ _ => (lts_one (lt_tru (le_BitAnd (le_RShift (le_BitAnd (le_pv 6) (le_pv 2)) (le_pv 10)) le_int)))) (fun _ _ _ _ _ => (le_pv 10))))) (ls_cons (ls_set (i := 9) sc__law_table.nd rfl (by first | exact Or.inl rfl | exact Or.inr rfl) (le_len z_len (le_comp rfl sc__law_table.nd (li_r1 rfl z_range (le_pv 1)) (blkOk_by (own := [("_law_k", 10)]) (by first | decide +kernel | rfl)) (fun _ _ _ _ _ => pg_name (i := 10) sc__law_table.nd rfl (by first | exact Or.inl rfl | exact Or.inr rfl)) (fun _ _ _ _ _ => (lts_one (lt_tru (le_BitAnd (le_RShift (le_Sub (le_BitAnd (le_pv 6) (le_pv 3)) (le_BitAnd (le_BitAnd (le_pv 6) (le_pv 3)) (le_pv 2))) (le_pv 10)) le_int)))) (fun _ _ _ _ _ => (le_pv 10))))) (ls_one (ls_app (le_pv 5) (le_Add (le_min2 rfl z_min (le_pv 8) (le_ix (le_pv 4) le_int)) (le_min2 rfl z_min (le_pv 9) (le_ix (le_pv 4) le_int)))))))) (ls_cons (ls_setComp (j := 7) rfl sc__law_table.nd rfl rfl (sw_true rfl rfl rfl (by decide +kernel)) (li_r1 rfl z_range (le_LShift le_int (le_pv 1))) (blkOk_by (own := [("_law_mask", 6)]) (by first | decide +kernel | rfl)) (fun _ _ _ _ _ => pg_name (i := 6) sc__law_table.nd rfl (by first | exact Or.inl rfl | exact Or.inr rfl)) (fun _ _ _ _ _ => (lts_one (lt_Gt (le_BitAnd (le_pv 6) (le_Sub (le_pv 6) le_int)) le_int))) (fun _ _ _ _ _ => (le_pv 6))) (ls_cons (ls_setComp (j := 7) rfl sc__law_table.nd rfl rfl (sw_true rfl rfl rfl (by decide +kernel)) (li_seq (le_pv 7)) (blkOk_by (own := [("_law_mask", 6)]) (by first | decide +kernel | rfl)) (fun _ _ _ _ _ => pg_name (i := 6) sc__law_table.nd rfl (by first | exact Or.inl rfl | exact Or.inr rfl)) (fun _ _ _ _ _ => (lts_one (lt_Eq hr (le_ix (le_pv 5) (le_BitAnd (le_BitAnd (le_pv 6) (le_Sub (le_pv 6) le_int)) (le_Sub (le_BitAnd (le_pv 6) (le_Sub (le_pv 6) le_int)) le_int))) (le_ix (le_pv 5) (le_pv 6))))) (fun _ _ _ _ _ => (le_pv 6))) (ls_cons (ls_if (lt_w (lw_and (lt_Gt (le_len z_len (le_pv 7)) le_int) (lw_and1 (lt_Eq hr (le_c0 c__law_pick hr (gl_cons (gl_cons gl_nil)) (la_cons (le_pv 0) (la_cons le_int la_nil)) (by omega)) le_int)))) (ls_cons (ls_set (i := 6) sc__law_table.nd rfl (by first | exact Or.inl rfl | exact Or.inr rfl) (le_ix (le_pv 7) (le_c0 c__law_pick hr (gl_cons (gl_cons gl_nil)) (la_cons (le_pv 0) (la_cons (le_len z_len (le_pv 7)) la_nil)) (by omega)))) (ls_one (ls_put (le_Add (le_ix (le_pv 5) (le_pv 6)) le_int) (le_pv 5) (le_pv 6)))) ls_nil) (ls_one (ls_ret (le_tupD (la_cons le_str (la_cons (le_pv 1) (la_cons (le_tup1 z_tuple (le_pv 5)) la_nil))) (gl_cons (gl_cons (gl_cons gl_nil))))))))))))))
noncomputable def p__law_table : List A → Sto → R A := runN 11 b__law_table
abbrev s__law_line : Stmt := top 59
theorem sc__law_line : FnScope ["_law_box", "_law_prime", "_law_wide", "_law_k"] ["_law_box", "_law_prime", "_law_wide"] (defScope s__law_line) := ⟨rfl, rfl, rfl, by decide +kernel, rfl, by decide +kernel, by decide +kernel⟩
noncomputable def b__law_line : GS :=
  (sRet (gB1 pTup (LF.gCons (gComp (giR1 (gVar 2)) 3 gYes (gCall p__law_pick (LF.gCons (gVar 0) (LF.gCons (gVar 1) LF.gNil)))) LF.gNil)))
theorem t__law_line {P : Program} {w : World} {K : PySem.W.Frag} {mg : Str → Option Value} {base : Heap} {f : Addr} {k : Nat} (z_range : mg "range" = none) (c__law_pick : Cal0 P w K mg base 1 "_law_pick" 2 p__law_pick) (z_tuple : mg "tuple" = none) (hk : 1 ≤ k) (cdv : Value) (A : Around) (outer : List PySem.Env) (s : Shared) (H : Hp) (E : XK) (hr : Room k (A.deeper (envOfC "_law_line" (defScope s__law_line) s.heap.objs.size f cdv))) :
    LSs (cxOf CX0 P w K mg base ["_law_box", "_law_prime", "_law_wide", "_law_k"] "_law_line" (defScope s__law_line) f cdv A outer s H E).nox E0 (defBody s__law_line) (b__law_line) :=
  (ls_one (ls_ret (le_tup1 z_tuple (le_comp rfl sc__law_line.nd (li_r1 rfl z_range (le_pv 2)) (blkOk_by (own := [("_law_k", 3)]) (by first | decide +kernel | rfl)) (fun _ _ _ _ _ => pg_name (i := 3) sc__law_line.nd rfl (by first | exact Or.inl rfl | exact Or.inr rfl)) (fun _ _ _ _ _ => lts_nil) (fun _ _ _ _ _ => (le_c0 c__law_pick hr (gl_cons (gl_cons gl_nil)) (la_cons (le_pv 0) (la_cons (le_pv 1) la_nil)) (by omega)))))))
noncomputable def p__law_line : List A → Sto → R A := runN 4 b__law_line
abbrev s__law_home : Stmt := top 60
theorem sc__law_home : FnScope ["_law_box", "_law_menu", "_law_upto", "_law_rows", "_law_wide", "_law_prime", "_law_k", "_law_point"] ["_law_box", "_law_menu"] (defScope s__law_home) := ⟨rfl, rfl, rfl, by decide +kernel, rfl, by decide +kernel, by decide +kernel⟩
noncomputable def b__law_home : GS :=
  (sSeq (sSet 2 (g2 pIx (gLstD (LF.gCons (gC (.int 4)) (LF.gCons (gC (.int 3)) (LF.gCons (gC (.int 2)) (LF.gCons (gC (.int 3)) (LF.gCons (gC (.int 4)) (LF.gCons (gC (.int 1)) (LF.gCons (gC (.int 0)) LF.gNil)))))))) (gCall p__law_pick (LF.gCons (gVar 0) (LF.gCons (gC (.int 7)) LF.gNil))))) (sSeq (sIf (gB (g2 pEq (gVar 1) (gC (.int 0)))) (sRet (gCall p__law_limits (LF.gCons (gVar 0) (LF.gCons (gB1 pMax2 (LF.gCons (gVar 2) (LF.gCons (gCall p__law_pick (LF.gCons (gVar 0) (LF.gCons (gC (.int 5)) LF.gNil))) LF.gNil))) LF.gNil)))) sNil) (sSeq (sIf (gB (g2 pEq (gVar 1) (gC (.int 1)))) (sRet (gCall p__law_table (LF.gCons (gVar 0) (LF.gCons (gVar 2) LF.gNil)))) sNil) (sSeq (sBox 3 LF.gNil) (sSeq (sIf (gB (g2 pEq (gVar 1) (gC (.int 2)))) (sSeq (sSet 4 (gCall p__law_pick (LF.gCons (gVar 0) (LF.gCons (gC (.int 5)) LF.gNil)))) (sRet (gTupD (LF.gCons (gC (.str "slots")) (LF.gCons (gVar 4) (LF.gCons (gB1 pTup (LF.gCons (gComp (giR1 (gVar 2)) 6 gYes (gCall p__law_part (LF.gCons (gVar 0) (LF.gCons (gVar 4) LF.gNil)))) LF.gNil)) LF.gNil)))))) sNil) (sSeq (sIf (gB (g2 pEq (gVar 1) (gC (.int 3)))) (sSeq (sSet 4 (g2 pAdd (gC (.int 1)) (gCall p__law_pick (LF.gCons (gVar 0) (LF.gCons (gC (.int 4)) LF.gNil))))) (sSeq (sFor (giR1 (gVar 2)) (ggName 6) (sSeq (sSet 7 (gCall p__law_pick (LF.gCons (gVar 0) (LF.gCons (gVar 4) LF.gNil)))) (sApp (gVar 3) (gTupD (LF.gCons (gVar 7) (LF.gCons (g2 pAdd (gVar 7) (gCall p__law_pick (LF.gCons (gVar 0) (LF.gCons (g2 pSub (gVar 4) (gVar 7)) LF.gNil)))) LF.gNil)))))) (sRet (gTupD (LF.gCons (gC (.str "web")) (LF.gCons (gVar 4) (LF.gCons (gB1 pTup (LF.gCons (gVar 3) LF.gNil)) LF.gNil))))))) sNil) (sSeq (sSet 4 (gCall p__law_pick (LF.gCons (gVar 0) (LF.gCons (gC (.int 4)) LF.gNil)))) (sSeq (sSet 5 (g2 pIx (gLstD (LF.gCons (gC (.int 2)) (LF.gCons (gC (.int 3)) (LF.gCons (gC (.int 5)) (LF.gCons (gC (.int 7)) LF.gNil))))) (gCall p__law_pick (LF.gCons (gVar 0) (LF.gCons (gC (.int 4)) LF.gNil))))) (sRet (gTupD (LF.gCons (gC (.str "rows")) (LF.gCons (gVar 5) (LF.gCons (gB1 pTup (LF.gCons (gComp (giR1 (gVar 2)) 6 gYes (gCall p__law_line (LF.gCons (gVar 0) (LF.gCons (gVar 5) (LF.gCons (gVar 4) LF.gNil))))) LF.gNil)) LF.gNil)))))))))))))
theorem t__law_home {P : Program} {w : World} {K : PySem.W.Frag} {mg : Str → Option Value} {base : Heap} {f : Addr} {k : Nat} (z_range : mg "range" = none) (c__law_line : Cal0 P w K mg base 2 "_law_line" 3 p__law_line) (z_tuple : mg "tuple" = none) (c__law_pick : Cal0 P w K mg base 1 "_law_pick" 2 p__law_pick) (c__law_part : Cal0 P w K mg base 2 "_law_part" 2 p__law_part) (c__law_table : Cal0 P w K mg base 2 "_law_table" 2 p__law_table) (c__law_limits : Cal0 P w K mg base 3 "_law_limits" 2 p__law_limits) (z_max : mg "max" = none) (hk : 3 ≤ k) (cdv : Value) (A : Around) (outer : List PySem.Env) (s : Shared) (H : Hp) (E : XK) (hr : Room k (A.deeper (envOfC "_law_home" (defScope s__law_home) s.heap.objs.size f cdv))) :
    LSs (cxOf CX0 P w K mg base ["_law_box", "_law_menu", "_law_upto", "_law_rows", "_law_wide", "_law_prime", "_law_k", "_law_point"] "_law_home" (defScope s__law_home) f cdv A outer s H E).nox E0 (defBody s__law_home) (b__law_home) :=
  (ls_cons (ls_set (i := 2) sc__law_home.nd rfl (by first | exact Or.inl rfl | exact Or.inr rfl) (le_ix (le_lstD (la_cons le_int (la_cons le_int (la_cons le_int (la_cons le_int (la_cons le_int (la_cons le_int (la_cons le_int la_nil))))))) (gl_cons (gl_cons (gl_cons (gl_cons (gl_cons (gl_cons (gl_cons gl_nil)))))))) (le_c0 c__law_pick hr (gl_cons (gl_cons gl_nil)) (la_cons (le_pv 0) (la_cons le_int la_nil)) (by omega)))) (ls_cons (ls_if (lt_Eq hr (le_pv 1) le_int) (ls_one (ls_ret (le_c0 c__law_limits hr (gl_cons (gl_cons gl_nil)) (la_cons (le_pv 0) (la_cons (le_max2 rfl z_max (le_pv 2) (le_c0 c__law_pick hr (gl_cons (gl_cons gl_nil)) (la_cons (le_pv 0) (la_cons le_int la_nil)) (by omega))) la_nil)) (by omega)))) ls_nil) (ls_cons (ls_if (lt_Eq hr (le_pv 1) le_int) (ls_one (ls_ret (le_c0 c__law_table hr (gl_cons (gl_cons gl_nil)) (la_cons (le_pv 0) (la_cons (le_pv 2) la_nil)) (by omega)))) ls_nil) (ls_cons (ls_box (i := 3) sc__law_home.nd rfl (by first | exact Or.inl rfl | exact Or.inr rfl) la_nil gl_nil) (ls_cons (ls_if (lt_Eq hr (le_pv 1) le_int) (ls_cons (ls_set (i := 4) sc__law_home.nd rfl (by first | exact Or.inl rfl | exact Or.inr rfl) (le_c0 c__law_pick hr (gl_cons (gl_cons gl_nil)) (la_cons (le_pv 0) (la_cons le_int la_nil)) (by omega))) (ls_one (ls_ret (le_tupD (la_cons le_str (la_cons (le_pv 4) (la_cons (le_tup1 z_tuple (le_comp rfl sc__law_home.nd (li_r1 rfl z_range (le_pv 2)) (blkOk_by (own := [("_law_k", 6)]) (by first | decide +kernel | rfl)) (fun _ _ _ _ _ => pg_name (i := 6) sc__law_home.nd rfl (by first | exact Or.inl rfl | exact Or.inr rfl)) (fun _ _ _ _ _ => lts_nil) (fun _ _ _ _ _ => (le_c0 c__law_part hr (gl_cons (gl_cons gl_nil)) (la_cons (le_pv 0) (la_cons (le_pv 4) la_nil)) (by omega))))) la_nil))) (gl_cons (gl_cons (gl_cons gl_nil))))))) ls_nil) (ls_cons (ls_if (lt_Eq hr (le_pv 1) le_int) (ls_cons (ls_set (i := 4) sc__law_home.nd rfl (by first | exact Or.inl rfl | exact Or.inr rfl) (le_Add le_int (le_c0 c__law_pick hr (gl_cons (gl_cons gl_nil)) (la_cons (le_pv 0) (la_cons le_int la_nil)) (by omega)))) (ls_cons (ls_for PassesOwn.never rfl (li_r1 rfl z_range (le_pv 2)) (pg_name (i := 6) sc__law_home.nd rfl (by first | exact Or.inl rfl | exact Or.inr rfl)) gok_name (ls_cons (ls_set (i := 7) sc__law_home.nd rfl (by first | exact Or.inl rfl | exact Or.inr rfl) (le_c0 c__law_pick hr (gl_cons (gl_cons gl_nil)) (la_cons (le_pv 0) (la_cons (le_pv 4) la_nil)) (by omega))) (ls_one (ls_app (le_pv 3) (le_tupD (la_cons (le_pv 7) (la_cons (le_Add (le_pv 7) (le_c0 c__law_pick hr (gl_cons (gl_cons gl_nil)) (la_cons (le_pv 0) (la_cons (le_Sub (le_pv 4) (le_pv 7)) la_nil)) (by omega))) la_nil)) (gl_cons (gl_cons gl_nil))))))) (ls_one (ls_ret (le_tupD (la_cons le_str (la_cons (le_pv 4) (la_cons (le_tup1 z_tuple (le_pv 3)) la_nil))) (gl_cons (gl_cons (gl_cons gl_nil)))))))) ls_nil) (ls_cons (ls_set (i := 4) sc__law_home.nd rfl (by first | exact Or.inl rfl | exact Or.inr rfl) (le_c0 c__law_pick hr (gl_cons (gl_cons gl_nil)) (la_cons (le_pv 0) (la_cons le_int la_nil)) (by omega))) (ls_cons (ls_set (i := 5) sc__law_home.nd rfl (by first | exact Or.inl rfl | exact Or.inr rfl) (le_ix (le_lstD (la_cons le_int (la_cons le_int (la_cons le_int (la_cons le_int la_nil)))) (gl_cons (gl_cons (gl_cons (gl_cons gl_nil))))) (le_c0 c__law_pick hr (gl_cons (gl_cons gl_nil)) (la_cons (le_pv 0) (la_cons le_int la_nil)) (by omega)))) (ls_one (ls_ret (le_tupD (la_cons le_str (la_cons (le_pv 5) (la_cons (le_tup1 z_tuple (le_comp rfl sc__law_home.nd (li_r1 rfl z_range (le_pv 2)) (blkOk_by (own := [("_law_k", 6)]) (by first | decide +kernel | rfl)) (fun _ _ _ _ _ => pg_name (i := 6) sc__law_home.nd rfl (by first | exact Or.inl rfl | exact Or.inr rfl)) (fun _ _ _ _ _ => lts_nil) (fun _ _ _ _ _ => (le_c0 c__law_line hr (gl_cons (gl_cons (gl_cons gl_nil))) (la_cons (le_pv 0) (la_cons (le_pv 5) (la_cons (le_pv 4) la_nil))) (by omega))))) la_nil))) (gl_cons (gl_cons (gl_cons gl_nil))))))))))))))
noncomputable def p__law_home : List A → Sto → R A := runN 8 b__law_home
abbrev s__law_odd : Stmt := top 61
theorem sc__law_odd : FnScope ["_law_box", "_law_value_here", "_law_menu"] ["_law_box", "_law_value_here"] (defScope s__law_odd) := ⟨rfl, rfl, rfl, by decide +kernel, rfl, by decide +kernel, by decide +kernel⟩
noncomputable def b__law_odd : GS :=
  (sSeq (sSet 2 (gCall p__law_pick (LF.gCons (gVar 0) (LF.gCons (gC (.int 7)) LF.gNil)))) (sSeq (sIf (gB (gCall p__law_whole (LF.gCons (gVar 1) LF.gNil))) (sRet (g2 pIx (gLstD (LF.gCons (g2 pAdd (gVar 1) (gC (.int 1))) (LF.gCons (g2 pSub (gVar 1) (gC (.int 1))) (LF.gCons (gB1 pBool1 (LF.gCons (gVar 1) LF.gNil)) (LF.gCons (gC .none) (LF.gCons (gB1 pStrI (LF.gCons (gVar 1) LF.gNil)) (LF.gCons (g2 pPow (gC (.int 10)) (gC (.int 40))) (LF.gCons (gTupD (LF.gCons (gVar 1) LF.gNil)) LF.gNil)))))))) (gVar 2))) sNil) (sSeq (sIf (gB (gIsi "tuple" (gVar 1))) (sRet (g2 pIx (gLstD (LF.gCons (gB1 pLst (LF.gCons (gVar 1) LF.gNil)) (LF.gCons (gSl (gVar 1) oNone (oSome (gNeg (gC (.int 1))))) (LF.gCons (g2 pAdd (gVar 1) (gTupD (LF.gCons (gC (.int 0)) LF.gNil))) (LF.gCons (g2 pAdd (gVar 1) (gSl (gVar 1) (oSome (gNeg (gC (.int 1)))) oNone)) (LF.gCons (gRev (gVar 1)) (LF.gCons (gC .none) (LF.gCons (gTupD LF.gNil) LF.gNil)))))))) (gVar 2))) sNil) (sRet (g2 pIx (gLstD (LF.gCons (gC (.str "table")) (LF.gCons (gC (.str "rows")) (LF.gCons (gC (.str "limits")) (LF.gCons (gC (.str "slots")) (LF.gCons (gC (.str "beside")) (LF.gCons (gC .none) (LF.gCons (gC (.int 0)) LF.gNil)))))))) (gVar 2))))))
theorem t__law_odd {P : Program} {w : World} {K : PySem.W.Frag} {mg : Str → Option Value} {base : Heap} {f : Addr} {k : Nat} (z_isinstance : mg "isinstance" = none) (z_tuple : mg "tuple" = none) (z_list : mg "list" = none) (c__law_whole : Cal0 P w K mg base 1 "_law_whole" 1 p__law_whole) (z_str : mg "str" = none) (z_bool : mg "bool" = none) (c__law_pick : Cal0 P w K mg base 1 "_law_pick" 2 p__law_pick) (hk : 1 ≤ k) (cdv : Value) (A : Around) (outer : List PySem.Env) (s : Shared) (H : Hp) (E : XK) (hr : Room k (A.deeper (envOfC "_law_odd" (defScope s__law_odd) s.heap.objs.size f cdv))) :
    LSs (cxOf CX0 P w K mg base ["_law_box", "_law_value_here", "_law_menu"] "_law_odd" (defScope s__law_odd) f cdv A outer s H E).nox E0 (defBody s__law_odd) (b__law_odd) :=
  (ls_cons (ls_set (i := 2) sc__law_odd.nd rfl (by first | exact Or.inl rfl | exact Or.inr rfl) (le_c0 c__law_pick hr (gl_cons (gl_cons gl_nil)) (la_cons (le_pv 0) (la_cons le_int la_nil)) (by omega))) (ls_cons (ls_if (lt_val (le_c0 c__law_whole hr (gl_cons gl_nil) (la_cons (le_pv 1) la_nil) (by omega))) (ls_one (ls_ret (le_ix (le_lstD (la_cons (le_Add (le_pv 1) le_int) (la_cons (le_Sub (le_pv 1) le_int) (la_cons (le_bool1 z_bool (le_pv 1)) (la_cons le_non (la_cons (le_strI z_str (le_pv 1)) (la_cons (le_Pow le_int le_int) (la_cons (le_tupD (la_cons (le_pv 1) la_nil) (gl_cons gl_nil)) la_nil))))))) (gl_cons (gl_cons (gl_cons (gl_cons (gl_cons (gl_cons (gl_cons gl_nil)))))))) (le_pv 2)))) ls_nil) (ls_cons (ls_if (lt_val (le_isT "tuple" z_isinstance z_tuple (le_pv 1))) (ls_one (ls_ret (le_ix (le_lstD (la_cons (le_lst1 z_list (le_pv 1)) (la_cons (le_sl (le_pv 1) lo_none (lo_some (le_neg le_int))) (la_cons (le_Add (le_pv 1) (le_tupD (la_cons le_int la_nil) (gl_cons gl_nil))) (la_cons (le_Add (le_pv 1) (le_sl (le_pv 1) (lo_some (le_neg le_int)) lo_none)) (la_cons (le_rev (le_pv 1)) (la_cons le_non (la_cons (le_tupD la_nil gl_nil) la_nil))))))) (gl_cons (gl_cons (gl_cons (gl_cons (gl_cons (gl_cons (gl_cons gl_nil)))))))) (le_pv 2)))) ls_nil) (ls_one (ls_ret (le_ix (le_lstD (la_cons le_str (la_cons le_str (la_cons le_str (la_cons le_str (la_cons le_str (la_cons le_non (la_cons le_int la_nil))))))) (gl_cons (gl_cons (gl_cons (gl_cons (gl_cons (gl_cons (gl_cons gl_nil)))))))) (le_pv 2)))))))
noncomputable def p__law_odd : List A → Sto → R A := runN 3 b__law_odd
abbrev s__law_spoilt : Stmt := top 62
theorem sc__law_spoilt : FnScope ["_law_box", "_law_value_here", "_law_depth", "_law_k"] ["_law_box", "_law_value_here", "_law_depth"] (defScope s__law_spoilt) := ⟨rfl, rfl, rfl, by decide +kernel, rfl, by decide +kernel, by decide +kernel⟩
noncomputable def b__law_spoilt (f__law_spoilt : List A → Sto → R A) : GS :=
  (sSeq (sIf (gAnd (gB (gIsi "tuple" (gVar 1))) (gAnd (gB (g2 pGt (gB1 pLen (LF.gCons (gVar 1) LF.gNil)) (gC (.int 0)))) (gB (g2 pGt (gCall p__law_pick (LF.gCons (gVar 0) (LF.gCons (gB1 pMax2 (LF.gCons (gC (.int 2)) (LF.gCons (g2 pSub (gC (.int 7)) (gVar 2)) LF.gNil))) LF.gNil))) (gC (.int 0)))))) (sSeq (sSet 3 (gCall p__law_pick (LF.gCons (gVar 0) (LF.gCons (gB1 pLen (LF.gCons (gVar 1) LF.gNil)) LF.gNil)))) (sSeq (sIf (gAnd (gB (g2 pEq (gVar 2) (gC (.int 0)))) (gB (g2 pGt (gCall p__law_pick (LF.gCons (gVar 0) (LF.gCons (gC (.int 5)) LF.gNil))) (gC (.int 0))))) (sSet 3 (g2 pSub (gB1 pLen (LF.gCons (gVar 1) LF.gNil)) (gC (.int 1)))) sNil) (sRet (g2 pAdd (g2 pAdd (gSl (gVar 1) oNone (oSome (gVar 3))) (gTupD (LF.gCons (gCall f__law_spoilt (LF.gCons (gVar 0) (LF.gCons (g2 pIx (gVar 1) (gVar 3)) (LF.gCons (g2 pAdd (gVar 2) (gC (.int 1))) LF.gNil)))) LF.gNil))) (gSl (gVar 1) (oSome (g2 pAdd (gVar 3) (gC (.int 1)))) oNone))))) sNil) (sRet (gCall p__law_odd (LF.gCons (gVar 0) (LF.gCons (gVar 1) LF.gNil)))))
theorem t__law_spoilt {P : Program} {w : World} {K : PySem.W.Frag} {mg : Str → Option Value} {base : Heap} {f : Addr} {k : Nat} {j : Nat} (f__law_spoilt : List A → Sto → R A) (c__law_odd : Cal0 P w K mg base 2 "_law_odd" 2 p__law_odd) (c__law_pick : Cal0 P w K mg base 1 "_law_pick" 2 p__law_pick) (z_max : mg "max" = none) (z_len : mg "len" = none) (z_isinstance : mg "isinstance" = none) (z_tuple : mg "tuple" = none) (c__law_spoilt : Cal0 P w K mg base j "_law_spoilt" 3 f__law_spoilt) (hk : 2 ≤ k) (hj : j ≤ k) (cdv : Value) (A : Around) (outer : List PySem.Env) (s : Shared) (H : Hp) (E : XK) (hr : Room k (A.deeper (envOfC "_law_spoilt" (defScope s__law_spoilt) s.heap.objs.size f cdv))) :
    LSs (cxOf CX0 P w K mg base ["_law_box", "_law_value_here", "_law_depth", "_law_k"] "_law_spoilt" (defScope s__law_spoilt) f cdv A outer s H E).nox E0 (defBody s__law_spoilt) (b__law_spoilt f__law_spoilt) :=
  (ls_cons (ls_if (lt_w (lw_and (lt_val (le_isT "tuple" z_isinstance z_tuple (le_pv 1))) (lw_and (lt_Gt (le_len z_len (le_pv 1)) le_int) (lw_and1 (lt_Gt (le_c0 c__law_pick hr (gl_cons (gl_cons gl_nil)) (la_cons (le_pv 0) (la_cons (le_max2 rfl z_max le_int (le_Sub le_int (le_pv 2))) la_nil)) (by omega)) le_int))))) (ls_cons (ls_set (i := 3) sc__law_spoilt.nd rfl (by first | exact Or.inl rfl | exact Or.inr rfl) (le_c0 c__law_pick hr (gl_cons (gl_cons gl_nil)) (la_cons (le_pv 0) (la_cons (le_len z_len (le_pv 1)) la_nil)) (by omega))) (ls_cons (ls_if (lt_w (lw_and (lt_Eq hr (le_pv 2) le_int) (lw_and1 (lt_Gt (le_c0 c__law_pick hr (gl_cons (gl_cons gl_nil)) (la_cons (le_pv 0) (la_cons le_int la_nil)) (by omega)) le_int)))) (ls_one (ls_set (i := 3) sc__law_spoilt.nd rfl (by first | exact Or.inl rfl | exact Or.inr rfl) (le_Sub (le_len z_len (le_pv 1)) le_int))) ls_nil) (ls_one (ls_ret (le_Add (le_Add (le_sl (le_pv 1) lo_none (lo_some (le_pv 3))) (le_tupD (la_cons (le_c0 c__law_spoilt hr (gl_cons (gl_cons (gl_cons gl_nil))) (la_cons (le_pv 0) (la_cons (le_ix (le_pv 1) (le_pv 3)) (la_cons (le_Add (le_pv 2) le_int) la_nil))) (by omega)) la_nil) (gl_cons gl_nil))) (le_sl (le_pv 1) (lo_some (le_Add (le_pv 3) le_int)) lo_none)))))) ls_nil) (ls_one (ls_ret (le_c0 c__law_odd hr (gl_cons (gl_cons gl_nil)) (la_cons (le_pv 0) (la_cons (le_pv 1) la_nil)) (by omega)))))
mutual
noncomputable def p__law_spoilt : Nat → List A → Sto → R A
  | 0 => fun _ _ => .bad
  | n + 1 => runN 4 (b__law_spoilt (p__law_spoilt n))
end
abbrev s__law_rank_fault : Stmt := top 63
theorem sc__law_rank_fault : FnScope ["_law_ranks", "_law_k", "_law_less", "_law_one", "_law_other", "_law_e", "_law_both"] ["_law_ranks", "_law_k"] (defScope s__law_rank_fault) := ⟨rfl, rfl, rfl, by decide +kernel, rfl, by decide +kernel, by decide +kernel⟩
noncomputable def b__law_rank_fault : GS :=
  (sSeq (sIf (gOr (gNot (gB (gCall p__law_count (LF.gCons (g2 pIx (gVar 0) (gVar 1)) LF.gNil)))) (gAnd (gB (g2 pEq (gVar 1) (gC (.int 0)))) (gB (g2 pNe (g2 pIx (gVar 0) (gVar 1)) (gC (.int 0)))))) (sRet (gC (.bool true))) sNil) (sSeq (sSet 2 (gComp (giR1 (gC (.int 12))) 5 (gTru (g2 pBand (g2 pShr (gVar 1) (gVar 5)) (gC (.int 1)))) (g2 pSub (gVar 1) (g2 pShl (gC (.int 1)) (gVar 5))))) (sSeq (sFor (giSeq (gVar 2)) (ggName 3) (sSeq (sIf (gB (g2 (pIn not) (g2 pSub (g2 pIx (gVar 0) (gVar 1)) (g2 pIx (gVar 0) (gVar 3))) (gTupD (LF.gCons (gC (.int 0)) (LF.gCons (gC (.int 1)) LF.gNil))))) (sRet (gC (.bool true))) sNil) (sFor (giSeq (gVar 2)) (ggName 4) (sSeq (sSet 6 (g2 pSub (g2 pAdd (gVar 3) (gVar 4)) (gVar 1))) (sIf (gAnd (gB (g2 pNe (gVar 3) (gVar 4))) (gAnd (gB (g2 pEq (g2 pIx (gVar 0) (gVar 3)) (g2 pIx (gVar 0) (gVar 6)))) (gAnd (gB (g2 pEq (g2 pIx (gVar 0) (gVar 4)) (g2 pIx (gVar 0) (gVar 6)))) (gB (g2 pNe (g2 pIx (gVar 0) (gVar 1)) (g2 pIx (gVar 0) (gVar 6))))))) (sRet (gC (.bool true))) sNil))))) (sRet (gC (.bool false))))))
theorem t__law_rank_fault {P : Program} {w : World} {K : PySem.W.Frag} {mg : Str → Option Value} {base : Heap} {f : Addr} {k : Nat} (z_range : mg "range" = none) (c__law_count : Cal0 P w K mg base 2 "_law_count" 1 p__law_count) (hk : 2 ≤ k) (cdv : Value) (A : Around) (outer : List PySem.Env) (s : Shared) (H : Hp) (E : XK) (hr : Room k (A.deeper (envOfC "_law_rank_fault" (defScope s__law_rank_fault) s.heap.objs.size f cdv))) :
    LSs (cxOf CX0 P w K mg base ["_law_ranks", "_law_k", "_law_less", "_law_one", "_law_other", "_law_e", "_law_both"] "_law_rank_fault" (defScope s__law_rank_fault) f cdv A outer s H E).nox E0 (defBody s__law_rank_fault) (b__law_rank_fault) :=
  (ls_cons (ls_if (lt_w (lw_or (lt_not (lt_val (le_c0 c__law_count hr (gl_cons gl_nil) (la_cons (le_ix (le_pv 0) (le_pv 1)) la_nil) (by omega)))) (lw_or1 (lt_w (lw_and (lt_Eq hr (le_pv 1) le_int) (lw_and1 (lt_NotEq hr (le_ix (le_pv 0) (le_pv 1)) le_int))))))) (ls_one (ls_ret le_bl)) ls_nil) (ls_cons (ls_setComp (j := 2) rfl sc__law_rank_fault.nd rfl rfl (sw_true rfl rfl rfl (by decide +kernel)) (li_r1 rfl z_range le_int) (blkOk_by (own := [("_law_e", 5)]) (by first | decide +kernel | rfl)) (fun _ _ _ _ _ => pg_name (i := 5) sc__law_rank_fault.nd rfl (by first | exact Or.inl rfl | exact Or.inr rfl)) (fun _ _ _ _ _ => (lts_one (lt_tru (le_BitAnd (le_RShift (le_pv 1) (le_pv 5)) le_int)))) (fun _ _ _ _ _ => (le_Sub (le_pv 1) (le_LShift le_int (le_pv 5))))) (ls_cons (ls_for PassesOwn.never rfl (li_seq (le_pv 2)) (pg_name (i := 3) sc__law_rank_fault.nd rfl (by first | exact Or.inl rfl | exact Or.inr rfl)) gok_name (ls_cons (ls_if (lt_NotIn hr (le_Sub (le_ix (le_pv 0) (le_pv 1)) (le_ix (le_pv 0) (le_pv 3))) (le_tupD (la_cons le_int (la_cons le_int la_nil)) (gl_cons (gl_cons gl_nil)))) (ls_one (ls_ret le_bl)) ls_nil) (ls_one (ls_for PassesOwn.never rfl (li_seq (le_pv 2)) (pg_name (i := 4) sc__law_rank_fault.nd rfl (by first | exact Or.inl rfl | exact Or.inr rfl)) gok_name (ls_cons (ls_set (i := 6) sc__law_rank_fault.nd rfl (by first | exact Or.inl rfl | exact Or.inr rfl) (le_Sub (le_Add (le_pv 3) (le_pv 4)) (le_pv 1))) (ls_one (ls_if (lt_w (lw_and (lt_NotEq hr (le_pv 3) (le_pv 4)) (lw_and (lt_Eq hr (le_ix (le_pv 0) (le_pv 3)) (le_ix (le_pv 0) (le_pv 6))) (lw_and (lt_Eq hr (le_ix (le_pv 0) (le_pv 4)) (le_ix (le_pv 0) (le_pv 6))) (lw_and1 (lt_NotEq hr (le_ix (le_pv 0) (le_pv 1)) (le_ix (le_pv 0) (le_pv 6)))))))) (ls_one (ls_ret le_bl)) ls_nil))))))) (ls_one (ls_ret le_bl)))))
noncomputable def p__law_rank_fault : List A → Sto → R A := runN 7 b__law_rank_fault
abbrev s__law_row_fault : Stmt := top 64
theorem sc__law_row_fault : FnScope ["_law_word", "_law_second", "_law_rows", "_law_k", "_law_row", "_law_part_here", "_law_j"] ["_law_word", "_law_second", "_law_rows", "_law_k"] (defScope s__law_row_fault) := ⟨rfl, rfl, rfl, by decide +kernel, rfl, by decide +kernel, by decide +kernel⟩
noncomputable def b__law_row_fault : GS :=
  (sSeq (sSet 4 (g2 pIx (gVar 2) (gVar 3))) (sSeq (sIf (gB (g2 pEq (gVar 0) (gC (.str "table")))) (sRet (g2 pIx (gLstD (LF.gCons (gC (.str "")) (LF.gCons (gC (.str "row")) LF.gNil))) (gB1 pInt1 (LF.gCons (gCall p__law_rank_fault (LF.gCons (gVar 2) (LF.gCons (gVar 3) LF.gNil))) LF.gNil)))) sNil) (sSeq (sIf (gB (g2 pEq (gVar 0) (gC (.str "slots")))) (sRet (g2 pIx (gLstD (LF.gCons (gC (.str "row")) (LF.gCons (gC (.str "")) LF.gNil))) (gB1 pInt1 (LF.gCons (gCall p__law_bundle (LF.gCons (gVar 1) (LF.gCons (gVar 4) LF.gNil))) LF.gNil)))) sNil) (sSeq (sIf (gNot (gB (gIsi "tuple" (gVar 4)))) (sRet (gC (.str "row"))) sNil) (sSeq (sIf (gB (g2 pEq (gVar 0) (gC (.str "limits")))) (sSeq (sIf (gOr (gB (g2 pNe (gB1 pLen (LF.gCons (gVar 4) LF.gNil)) (gC (.int 2)))) (gOr (gNot (gB (gCall p__law_bundle (LF.gCons (gVar 1) (LF.gCons (g2 pIx (gVar 4) (gC (.int 0))) LF.gNil))))) (gOr (gB (g2 pEq (gB1 pLen (LF.gCons (g2 pIx (gVar 4) (gC (.int 0))) LF.gNil)) (gC (.int 0)))) (gNot (gB (gCall p__law_count (LF.gCons (g2 pIx (gVar 4) (gC (.int 1))) LF.gNil))))))) (sRet (gC (.str "row"))) sNil) (sSeq (sFor (giR1 (gVar 3)) (ggName 6) (sIf (gNot (gB (gCall p__law_apart (LF.gCons (g2 pIx (g2 pIx (gVar 2) (gVar 6)) (gC (.int 0))) (LF.gCons (g2 pIx (gVar 4) (gC (.int 0))) LF.gNil))))) (sRet (gC (.str "cross"))) sNil)) (sRet (gC (.str ""))))) sNil) (sSeq (sIf (gOr (gAnd (gB (g2 pEq (gVar 0) (gC (.str "web")))) (gB (g2 pNe (gB1 pLen (LF.gCons (gVar 4) LF.gNil)) (gC (.int 2))))) (gAnd (gB (g2 pEq (gVar 0) (gC (.str "rows")))) (gB (g2 pNe (gB1 pLen (LF.gCons (gVar 4) LF.gNil)) (gB1 pLen (LF.gCons (g2 pIx (gVar 2) (gC (.int 0))) LF.gNil)))))) (sRet (gC (.str "row"))) sNil) (sSeq (sFor (giSeq (gVar 4)) (ggName 5) (sIf (gOr (gNot (gB (gCall p__law_count (LF.gCons (gVar 5) LF.gNil)))) (gB (g2 pGe (gVar 5) (gVar 1)))) (sRet (gC (.str "row"))) sNil)) (sSeq (sIf (gAnd (gB (g2 pEq (gVar 0) (gC (.str "web")))) (gB (g2 pGt (g2 pIx (gVar 4) (gC (.int 0))) (g2 pIx (gVar 4) (gC (.int 1)))))) (sRet (gC (.str "row"))) sNil) (sRet (gC (.str "")))))))))))
theorem t__law_row_fault {P : Program} {w : World} {K : PySem.W.Frag} {mg : Str → Option Value} {base : Heap} {f : Addr} {k : Nat} (c__law_count : Cal0 P w K mg base 2 "_law_count" 1 p__law_count) (z_len : mg "len" = none) (z_range : mg "range" = none) (c__law_apart : Cal0 P w K mg base 1 "_law_apart" 2 p__law_apart) (c__law_bundle : Cal0 P w K mg base 2 "_law_bundle" 2 p__law_bundle) (z_isinstance : mg "isinstance" = none) (z_tuple : mg "tuple" = none) (z_int : mg "int" = none) (c__law_rank_fault : Cal0 P w K mg base 3 "_law_rank_fault" 2 p__law_rank_fault) (hk : 3 ≤ k) (cdv : Value) (A : Around) (outer : List PySem.Env) (s : Shared) (H : Hp) (E : XK) (hr : Room k (A.deeper (envOfC "_law_row_fault" (defScope s__law_row_fault) s.heap.objs.size f cdv))) :
    LSs (cxOf CX0 P w K mg base ["_law_word", "_law_second", "_law_rows", "_law_k", "_law_row", "_law_part_here", "_law_j"] "_law_row_fault" (defScope s__law_row_fault) f cdv A outer s H E).nox E0 (defBody s__law_row_fault) (b__law_row_fault) :=
  (ls_cons (ls_set (i := 4) sc__law_row_fault.nd rfl (by first | exact Or.inl rfl | exact Or.inr rfl) (le_ix (le_pv 2) (le_pv 3))) (ls_cons (ls_if (lt_Eq hr (le_pv 0) le_str) (ls_one (ls_ret (le_ix (le_lstD (la_cons le_str (la_cons le_str la_nil)) (gl_cons (gl_cons gl_nil))) (le_int1 z_int (le_c0 c__law_rank_fault hr (gl_cons (gl_cons gl_nil)) (la_cons (le_pv 2) (la_cons (le_pv 3) la_nil)) (by omega)))))) ls_nil) (ls_cons (ls_if (lt_Eq hr (le_pv 0) le_str) (ls_one (ls_ret (le_ix (le_lstD (la_cons le_str (la_cons le_str la_nil)) (gl_cons (gl_cons gl_nil))) (le_int1 z_int (le_c0 c__law_bundle hr (gl_cons (gl_cons gl_nil)) (la_cons (le_pv 1) (la_cons (le_pv 4) la_nil)) (by omega)))))) ls_nil) (ls_cons (ls_if (lt_not (lt_val (le_isT "tuple" z_isinstance z_tuple (le_pv 4)))) (ls_one (ls_ret le_str)) ls_nil) (ls_cons (ls_if (lt_Eq hr (le_pv 0) le_str) (ls_cons (ls_if (lt_w (lw_or (lt_NotEq hr (le_len z_len (le_pv 4)) le_int) (lw_or (lt_not (lt_val (le_c0 c__law_bundle hr (gl_cons (gl_cons gl_nil)) (la_cons (le_pv 1) (la_cons (le_ix (le_pv 4) le_int) la_nil)) (by omega)))) (lw_or (lt_Eq hr (le_len z_len (le_ix (le_pv 4) le_int)) le_int) (lw_or1 (lt_not (lt_val (le_c0 c__law_count hr (gl_cons gl_nil) (la_cons (le_ix (le_pv 4) le_int) la_nil) (by omega))))))))) (ls_one (ls_ret le_str)) ls_nil) (ls_cons (ls_for PassesOwn.never rfl (li_r1 rfl z_range (le_pv 3)) (pg_name (i := 6) sc__law_row_fault.nd rfl (by first | exact Or.inl rfl | exact Or.inr rfl)) gok_name (ls_one (ls_if (lt_not (lt_val (le_c0 c__law_apart hr (gl_cons (gl_cons gl_nil)) (la_cons (le_ix (le_ix (le_pv 2) (le_pv 6)) le_int) (la_cons (le_ix (le_pv 4) le_int) la_nil)) (by omega)))) (ls_one (ls_ret le_str)) ls_nil))) (ls_one (ls_ret le_str)))) ls_nil) (ls_cons (ls_if (lt_w (lw_or (lt_w (lw_and (lt_Eq hr (le_pv 0) le_str) (lw_and1 (lt_NotEq hr (le_len z_len (le_pv 4)) le_int)))) (lw_or1 (lt_w (lw_and (lt_Eq hr (le_pv 0) le_str) (lw_and1 (lt_NotEq hr (le_len z_len (le_pv 4)) (le_len z_len (le_ix (le_pv 2) le_int))))))))) (ls_one (ls_ret le_str)) ls_nil) (ls_cons (ls_for PassesOwn.never rfl (li_seq (le_pv 4)) (pg_name (i := 5) sc__law_row_fault.nd rfl (by first | exact Or.inl rfl | exact Or.inr rfl)) gok_name (ls_one (ls_if (lt_w (lw_or (lt_not (lt_val (le_c0 c__law_count hr (gl_cons gl_nil) (la_cons (le_pv 5) la_nil) (by omega)))) (lw_or1 (lt_GtE (le_pv 5) (le_pv 1))))) (ls_one (ls_ret le_str)) ls_nil))) (ls_cons (ls_if (lt_w (lw_and (lt_Eq hr (le_pv 0) le_str) (lw_and1 (lt_Gt (le_ix (le_pv 4) le_int) (le_ix (le_pv 4) le_int))))) (ls_one (ls_ret le_str)) ls_nil) (ls_one (ls_ret le_str))))))))))
noncomputable def p__law_row_fault : List A → Sto → R A := runN 7 b__law_row_fault
abbrev s__law_verdict : Stmt := top 65
theorem sc__law_verdict : FnScope ["_law_value_here", "_law_word", "_law_rows", "_law_second", "_law_k", "_law_fault"] ["_law_value_here"] (defScope s__law_verdict) := ⟨rfl, rfl, rfl, by decide +kernel, rfl, by decide +kernel, by decide +kernel⟩
noncomputable def b__law_verdict (f__law_verdict_beside : List A → Sto → R A) : GS :=
  (sSeq (sIf (gOr (gNot (gB (gIsi "tuple" (gVar 0)))) (gOr (gB (g2 pEq (gB1 pLen (LF.gCons (gVar 0) LF.gNil)) (gC (.int 0)))) (gNot (gB (gIsi "str" (g2 pIx (gVar 0) (gC (.int 0)))))))) (sRet (gTupD (LF.gCons (gC (.str "no")) (LF.gCons (gC (.str "shape")) (LF.gCons (gNeg (gC (.int 1))) LF.gNil))))) sNil) (sSeq (sSet 1 (g2 pIx (gVar 0) (gC (.int 0)))) (sSeq (sIf (gOr (gB (g2 (pIn not) (gVar 1) (gTupD (LF.gCons (gC (.str "limits")) (LF.gCons (gC (.str "slots")) (LF.gCons (gC (.str "web")) (LF.gCons (gC (.str "rows")) (LF.gCons (gC (.str "table")) (LF.gCons (gC (.str "beside")) LF.gNil))))))))) (gB (g2 pNe (gB1 pLen (LF.gCons (gVar 0) LF.gNil)) (g2 pSub (gC (.int 3)) (gB1 pInt1 (LF.gCons (g2 pEq (gVar 1) (gC (.str "beside"))) LF.gNil)))))) (sRet (gTupD (LF.gCons (gC (.str "no")) (LF.gCons (gC (.str "shape")) (LF.gCons (gNeg (gC (.int 1))) LF.gNil))))) sNil) (sSeq (sSet 2 (g2 pIx (gVar 0) (gNeg (gC (.int 1))))) (sSeq (sIf (gB (g2 pEq (gVar 1) (gC (.str "beside")))) (sRet (gCall f__law_verdict_beside (LF.gCons (gVar 2) LF.gNil))) sNil) (sSeq (sSet 3 (g2 pIx (gVar 0) (gC (.int 1)))) (sSeq (sIf (gOr (gNot (gB (gCall p__law_count (LF.gCons (gVar 3) LF.gNil)))) (gOr (gAnd (gB (g2 pEq (gVar 1) (gC (.str "rows")))) (gB (g2 (pIn not) (gVar 3) (gTupD (LF.gCons (gC (.int 2)) (LF.gCons (gC (.int 3)) (LF.gCons (gC (.int 5)) (LF.gCons (gC (.int 7)) LF.gNil)))))))) (gAnd (gB (g2 pEq (gVar 1) (gC (.str "table")))) (gB (g2 pGt (gVar 3) (gC (.int 12))))))) (sRet (gTupD (LF.gCons (gC (.str "no")) (LF.gCons (gC (.str "size")) (LF.gCons (gNeg (gC (.int 1))) LF.gNil))))) sNil) (sSeq (sIf (gOr (gNot (gB (gIsi "tuple" (gVar 2)))) (gAnd (gB (g2 pEq (gVar 1) (gC (.str "table")))) (gB (g2 pNe (gB1 pLen (LF.gCons (gVar 2) LF.gNil)) (g2 pShl (gC (.int 1)) (gVar 3)))))) (sRet (gTupD (LF.gCons (gC (.str "no")) (LF.gCons (gC (.str "rows")) (LF.gCons (gNeg (gC (.int 1))) LF.gNil))))) sNil) (sSeq (sFor (giR1 (gB1 pLen (LF.gCons (gVar 2) LF.gNil))) (ggName 4) (sSeq (sSet 5 (gCall p__law_row_fault (LF.gCons (gVar 1) (LF.gCons (gVar 3) (LF.gCons (gVar 2) (LF.gCons (gVar 4) LF.gNil)))))) (sIf (gB (g2 pNe (gVar 5) (gC (.str "")))) (sRet (gTupD (LF.gCons (gC (.str "no")) (LF.gCons (gVar 5) (LF.gCons (gVar 4) LF.gNil))))) sNil))) (sSeq (sIf (gOr (gB (g2 pEq (gVar 1) (gC (.str "limits")))) (gB (g2 pEq (gVar 1) (gC (.str "table"))))) (sRet (gTupD (LF.gCons (gC (.str "let")) (LF.gCons (gVar 3) LF.gNil)))) sNil) (sRet (gTupD (LF.gCons (gC (.str "let")) (LF.gCons (gB1 pLen (LF.gCons (gVar 2) LF.gNil)) LF.gNil))))))))))))))
theorem t__law_verdict {P : Program} {w : World} {K : PySem.W.Frag} {mg : Str → Option Value} {base : Heap} {f : Addr} {k : Nat} {j : Nat} (f__law_verdict_beside : List A → Sto → R A) (z_len : mg "len" = none) (z_range : mg "range" = none) (c__law_row_fault : Cal0 P w K mg base 4 "_law_row_fault" 4 p__law_row_fault) (z_isinstance : mg "isinstance" = none) (z_tuple : mg "tuple" = none) (c__law_count : Cal0 P w K mg base 2 "_law_count" 1 p__law_count) (c__law_verdict_beside : Cal0 P w K mg base j "_law_verdict_beside" 1 f__law_verdict_beside) (z_int : mg "int" = none) (z_str : mg "str" = none) (hk : 4 ≤ k) (hj : j ≤ k) (cdv : Value) (A : Around) (outer : List PySem.Env) (s : Shared) (H : Hp) (E : XK) (hr : Room k (A.deeper (envOfC "_law_verdict" (defScope s__law_verdict) s.heap.objs.size f cdv))) :
    LSs (cxOf CX0 P w K mg base ["_law_value_here", "_law_word", "_law_rows", "_law_second", "_law_k", "_law_fault"] "_law_verdict" (defScope s__law_verdict) f cdv A outer s H E).nox E0 (defBody s__law_verdict) (b__law_verdict f__law_verdict_beside) :=
  (ls_cons (ls_if (lt_w (lw_or (lt_not (lt_val (le_isT "tuple" z_isinstance z_tuple (le_pv 0)))) (lw_or (lt_Eq hr (le_len z_len (le_pv 0)) le_int) (lw_or1 (lt_not (lt_val (le_isT "str" z_isinstance z_str (le_ix (le_pv 0) le_int)))))))) (ls_one (ls_ret (le_tupD (la_cons le_str (la_cons le_str (la_cons (le_neg le_int) la_nil))) (gl_cons (gl_cons (gl_cons gl_nil)))))) ls_nil) (ls_cons (ls_set (i := 1) sc__law_verdict.nd rfl (by first | exact Or.inl rfl | exact Or.inr rfl) (le_ix (le_pv 0) le_int)) (ls_cons (ls_if (lt_w (lw_or (lt_NotIn hr (le_pv 1) (le_tupD (la_cons le_str (la_cons le_str (la_cons le_str (la_cons le_str (la_cons le_str (la_cons le_str la_nil)))))) (gl_cons (gl_cons (gl_cons (gl_cons (gl_cons (gl_cons gl_nil)))))))) (lw_or1 (lt_NotEq hr (le_len z_len (le_pv 0)) (le_Sub le_int (le_int1 z_int (le_Eq hr (le_pv 1) le_str))))))) (ls_one (ls_ret (le_tupD (la_cons le_str (la_cons le_str (la_cons (le_neg le_int) la_nil))) (gl_cons (gl_cons (gl_cons gl_nil)))))) ls_nil) (ls_cons (ls_set (i := 2) sc__law_verdict.nd rfl (by first | exact Or.inl rfl | exact Or.inr rfl) (le_ix (le_pv 0) (le_neg le_int))) (ls_cons (ls_if (lt_Eq hr (le_pv 1) le_str) (ls_one (ls_ret (le_c0 c__law_verdict_beside hr (gl_cons gl_nil) (la_cons (le_pv 2) la_nil) (by omega)))) ls_nil) (ls_cons (ls_set (i := 3) sc__law_verdict.nd rfl (by first | exact Or.inl rfl | exact Or.inr rfl) (le_ix (le_pv 0) le_int)) (ls_cons (ls_if (lt_w (lw_or (lt_not (lt_val (le_c0 c__law_count hr (gl_cons gl_nil) (la_cons (le_pv 3) la_nil) (by omega)))) (lw_or (lt_w (lw_and (lt_Eq hr (le_pv 1) le_str) (lw_and1 (lt_NotIn hr (le_pv 3) (le_tupD (la_cons le_int (la_cons le_int (la_cons le_int (la_cons le_int la_nil)))) (gl_cons (gl_cons (gl_cons (gl_cons gl_nil))))))))) (lw_or1 (lt_w (lw_and (lt_Eq hr (le_pv 1) le_str) (lw_and1 (lt_Gt (le_pv 3) le_int)))))))) (ls_one (ls_ret (le_tupD (la_cons le_str (la_cons le_str (la_cons (le_neg le_int) la_nil))) (gl_cons (gl_cons (gl_cons gl_nil)))))) ls_nil) (ls_cons (ls_if (lt_w (lw_or (lt_not (lt_val (le_isT "tuple" z_isinstance z_tuple (le_pv 2)))) (lw_or1 (lt_w (lw_and (lt_Eq hr (le_pv 1) le_str) (lw_and1 (lt_NotEq hr (le_len z_len (le_pv 2)) (le_LShift le_int (le_pv 3))))))))) (ls_one (ls_ret (le_tupD (la_cons le_str (la_cons le_str (la_cons (le_neg le_int) la_nil))) (gl_cons (gl_cons (gl_cons gl_nil)))))) ls_nil) (ls_cons (ls_for PassesOwn.never rfl (li_r1 rfl z_range (le_len z_len (le_pv 2))) (pg_name (i := 4) sc__law_verdict.nd rfl (by first | exact Or.inl rfl | exact Or.inr rfl)) gok_name (ls_cons (ls_set (i := 5) sc__law_verdict.nd rfl (by first | exact Or.inl rfl | exact Or.inr rfl) (le_c0 c__law_row_fault hr (gl_cons (gl_cons (gl_cons (gl_cons gl_nil)))) (la_cons (le_pv 1) (la_cons (le_pv 3) (la_cons (le_pv 2) (la_cons (le_pv 4) la_nil)))) (by omega))) (ls_one (ls_if (lt_NotEq hr (le_pv 5) le_str) (ls_one (ls_ret (le_tupD (la_cons le_str (la_cons (le_pv 5) (la_cons (le_pv 4) la_nil))) (gl_cons (gl_cons (gl_cons gl_nil)))))) ls_nil)))) (ls_cons (ls_if (lt_w (lw_or (lt_Eq hr (le_pv 1) le_str) (lw_or1 (lt_Eq hr (le_pv 1) le_str)))) (ls_one (ls_ret (le_tupD (la_cons le_str (la_cons (le_pv 3) la_nil)) (gl_cons (gl_cons gl_nil))))) ls_nil) (ls_one (ls_ret (le_tupD (la_cons le_str (la_cons (le_len z_len (le_pv 2)) la_nil)) (gl_cons (gl_cons gl_nil)))))))))))))))
abbrev s__law_verdict_beside : Stmt := top 66
theorem sc__law_verdict_beside : FnScope ["_law_parts", "_law_total", "_law_k", "_law_inner"] ["_law_parts"] (defScope s__law_verdict_beside) := ⟨rfl, rfl, rfl, by decide +kernel, rfl, by decide +kernel, by decide +kernel⟩
noncomputable def b__law_verdict_beside (f__law_verdict : List A → Sto → R A) : GS :=
  (sSeq (sIf (gOr (gNot (gB (gIsi "tuple" (gVar 0)))) (gB (g2 pLt (gB1 pLen (LF.gCons (gVar 0) LF.gNil)) (gC (.int 2))))) (sRet (gTupD (LF.gCons (gC (.str "no")) (LF.gCons (gC (.str "rows")) (LF.gCons (gNeg (gC (.int 1))) LF.gNil))))) sNil) (sSeq (sSet 1 (gC (.int 0))) (sSeq (sFor (giR1 (gB1 pLen (LF.gCons (gVar 0) LF.gNil))) (ggName 2) (sSeq (sSet 3 (gCall f__law_verdict (LF.gCons (g2 pIx (gVar 0) (gVar 2)) LF.gNil))) (sSeq (sIf (gOr (gB (g2 pEq (g2 pIx (gVar 3) (gC (.int 0))) (gC (.str "no")))) (gB (g2 pEq (g2 pIx (g2 pIx (gVar 0) (gVar 2)) (gC (.int 0))) (gC (.str "beside"))))) (sRet (gTupD (LF.gCons (gC (.str "no")) (LF.gCons (gC (.str "row")) (LF.gCons (gVar 2) LF.gNil))))) sNil) (sSet 1 (g2 pAdd (gVar 1) (g2 pIx (gVar 3) (gC (.int 1)))))))) (sRet (gTupD (LF.gCons (gC (.str "let")) (LF.gCons (gVar 1) LF.gNil)))))))
theorem t__law_verdict_beside {P : Program} {w : World} {K : PySem.W.Frag} {mg : Str → Option Value} {base : Heap} {f : Addr} {k : Nat} {j : Nat} (f__law_verdict : List A → Sto → R A) (z_len : mg "len" = none) (z_range : mg "range" = none) (c__law_verdict : Cal0 P w K mg base j "_law_verdict" 1 f__law_verdict) (z_isinstance : mg "isinstance" = none) (z_tuple : mg "tuple" = none) (hk : 0 ≤ k) (hj : j ≤ k) (cdv : Value) (A : Around) (outer : List PySem.Env) (s : Shared) (H : Hp) (E : XK) (hr : Room k (A.deeper (envOfC "_law_verdict_beside" (defScope s__law_verdict_beside) s.heap.objs.size f cdv))) :
    LSs (cxOf CX0 P w K mg base ["_law_parts", "_law_total", "_law_k", "_law_inner"] "_law_verdict_beside" (defScope s__law_verdict_beside) f cdv A outer s H E).nox E0 (defBody s__law_verdict_beside) (b__law_verdict_beside f__law_verdict) :=
  (ls_cons (ls_if (lt_w (lw_or (lt_not (lt_val (le_isT "tuple" z_isinstance z_tuple (le_pv 0)))) (lw_or1 (lt_Lt (le_len z_len (le_pv 0)) le_int)))) (ls_one (ls_ret (le_tupD (la_cons le_str (la_cons le_str (la_cons (le_neg le_int) la_nil))) (gl_cons (gl_cons (gl_cons gl_nil)))))) ls_nil) (ls_cons (ls_set (i := 1) sc__law_verdict_beside.nd rfl (by first | exact Or.inl rfl | exact Or.inr rfl) le_int) (ls_cons (ls_for PassesOwn.never rfl (li_r1 rfl z_range (le_len z_len (le_pv 0))) (pg_name (i := 2) sc__law_verdict_beside.nd rfl (by first | exact Or.inl rfl | exact Or.inr rfl)) gok_name (ls_cons (ls_set (i := 3) sc__law_verdict_beside.nd rfl (by first | exact Or.inl rfl | exact Or.inr rfl) (le_c0 c__law_verdict hr (gl_cons gl_nil) (la_cons (le_ix (le_pv 0) (le_pv 2)) la_nil) (by omega))) (ls_cons (ls_if (lt_w (lw_or (lt_Eq hr (le_ix (le_pv 3) le_int) le_str) (lw_or1 (lt_Eq hr (le_ix (le_ix (le_pv 0) (le_pv 2)) le_int) le_str)))) (ls_one (ls_ret (le_tupD (la_cons le_str (la_cons le_str (la_cons (le_pv 2) la_nil))) (gl_cons (gl_cons (gl_cons gl_nil)))))) ls_nil) (ls_one (ls_set (i := 1) sc__law_verdict_beside.nd rfl (by first | exact Or.inl rfl | exact Or.inr rfl) (le_Add (le_pv 1) (le_ix (le_pv 3) le_int))))))) (ls_one (ls_ret (le_tupD (la_cons le_str (la_cons (le_pv 1) la_nil)) (gl_cons (gl_cons gl_nil))))))))
mutual
noncomputable def p__law_verdict : Nat → List A → Sto → R A
  | 0 => fun _ _ => .bad
  | n + 1 => runN 6 (b__law_verdict (p__law_verdict_beside n))
noncomputable def p__law_verdict_beside : Nat → List A → Sto → R A
  | 0 => fun _ _ => .bad
  | n + 1 => runN 4 (b__law_verdict_beside (p__law_verdict n))
end
abbrev s__law_lets : Stmt := top 67
theorem sc__law_lets : FnScope ["_law_value_here", "_law_e"] ["_law_value_here"] (defScope s__law_lets) := ⟨rfl, rfl, rfl, by decide +kernel, rfl, by decide +kernel, by decide +kernel⟩
noncomputable def b__law_lets : GS :=
  (sTryA "InvalidPaper" 1 "no" "word" "at" (gTupD (LF.gCons (gC (.str "let")) (LF.gCons (gCallK 1 (p_lets_house (16)) 0 1 [0] LF.gNil (LF.gCons (gVar 0) LF.gNil)) LF.gNil))))
theorem t__law_lets {P : Program} {w : World} {K : PySem.W.Frag} {mg : Str → Option Value} {base : Heap} {f : Addr} {k : Nat} (C_InvalidPaper : Addr) (k_lets_house_thing : CalXK P w K mg base 34 "lets_house" 1 (p_lets_house (16)) ["thing"] [0]) (xa_InvalidPaper : ExcAs K mg "InvalidPaper" "word" "at" C_InvalidPaper) (ie_InvalidPaper_HouseError : IsEx K mg C_InvalidPaper "HouseError" false) (z_isinstance : mg "isinstance" = none) (ie_InvalidPaper_ValueError : IsEx K mg C_InvalidPaper "ValueError" true) (ie_InvalidPaper_OutError : IsEx K mg C_InvalidPaper "OutError" true) (ie_InvalidPaper_PaperError : IsEx K mg C_InvalidPaper "PaperError" true) (hk : 34 ≤ k) (cdv : Value) (A : Around) (outer : List PySem.Env) (s : Shared) (H : Hp) (E : XK) (hr : Room k (A.deeper (envOfC "_law_lets" (defScope s__law_lets) s.heap.objs.size f cdv))) :
    LSs (cxOf CX0 P w K mg base ["_law_value_here", "_law_e"] "_law_lets" (defScope s__law_lets) f cdv A outer s H E).nox E0 (defBody s__law_lets) (b__law_lets) :=
  (ls_one (ls_tryA (i := 1) rfl rfl sc__law_lets.nd rfl rfl xa_InvalidPaper (fun W pn xe tk po => (le_tupD (la_cons le_str (la_cons (le_cSK k_lets_house_thing hr (fun σ => passAt tk σ) (lk_cons (le_pv 0) lk_nil) (by omega)) la_nil)) (gl_cons (gl_cons gl_nil)))) (fun a dd oe pn hz hv => (pss_kIf (PW.pt (pw_kOr (pt_kNot (pt_isEx (X := (cxOf CX0 P w K mg base ["_law_value_here", "_law_e"] "_law_lets" (defScope s__law_lets) f cdv A outer s H E).nox) (n := "_law_e") xa_InvalidPaper.is hz hv ie_InvalidPaper_PaperError z_isinstance rfl)) (pw_kOr (pt_kNot (pt_isEx (X := (cxOf CX0 P w K mg base ["_law_value_here", "_law_e"] "_law_lets" (defScope s__law_lets) f cdv A outer s H E).nox) (n := "_law_e") xa_InvalidPaper.is hz hv ie_InvalidPaper_OutError z_isinstance rfl)) (pw_kOr1 (pt_kNot (pt_isEx (X := (cxOf CX0 P w K mg base ["_law_value_here", "_law_e"] "_law_lets" (defScope s__law_lets) f cdv A outer s H E).nox) (n := "_law_e") xa_InvalidPaper.is hz hv ie_InvalidPaper_ValueError z_isinstance rfl)))))) (pss_kIf (pt_isEx (X := (cxOf CX0 P w K mg base ["_law_value_here", "_law_e"] "_law_lets" (defScope s__law_lets) f cdv A outer s H E).nox) (n := "_law_e") xa_InvalidPaper.is hz hv ie_InvalidPaper_HouseError z_isinstance rfl) (pss_kRet (X := (cxOf CX0 P w K mg base ["_law_value_here", "_law_e"] "_law_lets" (defScope s__law_lets) f cdv A outer s H E).nox) xa_InvalidPaper.xf xa_InvalidPaper.n1 xa_InvalidPaper.n2 hz hv rfl))))))
noncomputable def p__law_lets : List A → Sto → R A := runN 2 b__law_lets
abbrev s_law : Stmt := top 68
theorem sc_law : FnScope ["_law_script", "_law_box", "_law_menu", "_law_bends", "_law_k", "_law_told", "_law_due", "_law_was", "_law_parts", "_law_home_here"] ["_law_script"] (defScope s_law) := ⟨rfl, rfl, rfl, by decide +kernel, rfl, by decide +kernel, by decide +kernel⟩
noncomputable def b_law : GS :=
  (sSeq (sBox 1 (LF.gCons (gB1 pLst (LF.gCons (gVar 0) LF.gNil)) (LF.gCons (gC (.int 0)) (LF.gCons (gC (.int 0)) (LF.gCons (gC (.int 0)) LF.gNil))))) (sSeq (sSet 2 (g2 pIx (gLstD (LF.gCons (gC (.int 0)) (LF.gCons (gC (.int 1)) (LF.gCons (gC (.int 0)) (LF.gCons (gC (.int 1)) (LF.gCons (gC (.int 0)) (LF.gCons (gC (.int 1)) (LF.gCons (gC (.int 0)) (LF.gCons (gC (.int 1)) (LF.gCons (gC (.int 2)) (LF.gCons (gC (.int 3)) (LF.gCons (gC (.int 4)) (LF.gCons (gC (.int 5)) LF.gNil))))))))))))) (gCall p__law_pick (LF.gCons (gVar 1) (LF.gCons (gC (.int 12)) LF.gNil))))) (sSeq (sIf (gB (g2 pEq (gVar 2) (gC (.int 5)))) (sSeq (sBoxOf 8 (gComp (giR1 (g2 pAdd (gC (.int 2)) (gCall p__law_pick (LF.gCons (gVar 1) (LF.gCons (gC (.int 2)) LF.gNil))))) 4 gYes (gCall p__law_home (LF.gCons (gVar 1) (LF.gCons (gCall p__law_pick (LF.gCons (gVar 1) (LF.gCons (gC (.int 5)) LF.gNil))) LF.gNil))))) (sSeq (sIf (gB (g2 pEq (gCall p__law_pick (LF.gCons (gVar 1) (LF.gCons (gC (.int 3)) LF.gNil))) (gC (.int 0)))) (sPut (gVar 8) (gCall p__law_pick (LF.gCons (gVar 1) (LF.gCons (gB1 pLen (LF.gCons (gVar 8) LF.gNil)) LF.gNil))) (gTupD (LF.gCons (gC (.str "beside")) (LF.gCons (gTupD (LF.gCons (g2 pIx (gVar 8) (gC (.int 0))) (LF.gCons (g2 pIx (gVar 8) (gC (.int 1))) LF.gNil))) LF.gNil)))) sNil) (sSet 9 (gTupD (LF.gCons (gC (.str "beside")) (LF.gCons (gB1 pTup (LF.gCons (gVar 8) LF.gNil)) LF.gNil)))))) (sSet 9 (gCall p__law_home (LF.gCons (gVar 1) (LF.gCons (gVar 2) LF.gNil))))) (sSeq (sSet 3 (g2 pIx (gLstD (LF.gCons (gLstD (LF.gCons (gC (.int 0)) (LF.gCons (gC (.int 1)) (LF.gCons (gC (.int 1)) (LF.gCons (gC (.int 2)) LF.gNil))))) (LF.gCons (gLstD (LF.gCons (gC (.int 0)) (LF.gCons (gC (.int 0)) (LF.gCons (gC (.int 0)) (LF.gCons (gC (.int 1)) LF.gNil))))) LF.gNil))) (gB1 pInt1 (LF.gCons (g2 pEq (g2 pIx (gCall (p__law_verdict (16)) (LF.gCons (gVar 9) LF.gNil)) (gC (.int 0))) (gC (.str "no"))) LF.gNil)))) (sSeq (sFor (giR1 (g2 pIx (gVar 3) (gCall p__law_pick (LF.gCons (gVar 1) (LF.gCons (gC (.int 4)) LF.gNil))))) (ggName 4) (sSet 9 (gCall (p__law_spoilt (16)) (LF.gCons (gVar 1) (LF.gCons (gVar 9) (LF.gCons (gC (.int 0)) LF.gNil)))))) (sSeq (sIf (gOr (gNot (gB (gCall p__law_kinds_hold (LF.gCons (gVar 1) LF.gNil)))) (gNot (gB (gCall p__law_lots_hold (LF.gCons (gVar 1) LF.gNil))))) (sRet (gC (.bool false))) sNil) (sSeq (sSet 5 (gTupD (LF.gCons (gCall p__law_lets (LF.gCons (gTupD (LF.gCons (gC (.str "table")) (LF.gCons (gC (.int 12)) (LF.gCons (gTupD LF.gNil) LF.gNil)))) LF.gNil)) (LF.gCons (gCall p__law_lets (LF.gCons (gTupD (LF.gCons (gC (.str "table")) (LF.gCons (gC (.int 13)) (LF.gCons (gTupD LF.gNil) LF.gNil)))) LF.gNil)) LF.gNil)))) (sSeq (sIf (gNot (gB (gCall (p__law_same (16)) (LF.gCons (gVar 5) (LF.gCons (gTupD (LF.gCons (gTupD (LF.gCons (gC (.str "no")) (LF.gCons (gC (.str "rows")) (LF.gCons (gNeg (gC (.int 1))) LF.gNil)))) (LF.gCons (gTupD (LF.gCons (gC (.str "no")) (LF.gCons (gC (.str "size")) (LF.gCons (gNeg (gC (.int 1))) LF.gNil)))) LF.gNil))) LF.gNil))))) (sRet (gC (.bool false))) sNil) (sSeq (sSet 6 (gCall (p__law_verdict (16)) (LF.gCons (gVar 9) LF.gNil))) (sSeq (sSet 7 (gRepr (gVar 9))) (sSeq (sSet 5 (gCall p__law_lets (LF.gCons (gVar 9) LF.gNil))) (sSeq (sIf (gOr (gNot (gB (gCall (p__law_same (16)) (LF.gCons (gVar 5) (LF.gCons (gVar 6) LF.gNil))))) (gNot (gB (gCall (p__law_same (16)) (LF.gCons (gCall (p_is_house (16)) (LF.gCons (gVar 9) LF.gNil)) (LF.gCons (g2 pEq (g2 pIx (gVar 6) (gC (.int 0))) (gC (.str "let"))) LF.gNil)))))) (sRet (gC (.bool false))) sNil) (sSeq (sIf (gOr (gNot (gB (gCall (p__law_same (16)) (LF.gCons (gCall p__law_lets (LF.gCons (gVar 9) LF.gNil)) (LF.gCons (gVar 6) LF.gNil))))) (gNot (gB (gCall (p__law_same (16)) (LF.gCons (gCallK 1 (p_is_house (16)) 0 1 [0] LF.gNil (LF.gCons (gVar 9) LF.gNil)) (LF.gCons (g2 pEq (g2 pIx (gVar 6) (gC (.int 0))) (gC (.str "let"))) LF.gNil)))))) (sRet (gC (.bool false))) sNil) (sRet (g2 pEq (gRepr (gVar 9)) (gVar 7))))))))))))))))
theorem t_law {P : Program} {w : World} {K : PySem.W.Frag} {mg : Str → Option Value} {base : Heap} {f : Addr} {k : Nat} (z_repr : mg "repr" = none) (c__law_same : Cal0 P w K mg base 18 "_law_same" 2 (p__law_same (16))) (k_is_house_thing : Cal0K P w K mg base 34 "is_house" 1 (p_is_house (16)) ["thing"] [0]) (c__law_lets : Cal0 P w K mg base 35 "_law_lets" 1 p__law_lets) (c_is_house : Cal0 P w K mg base 34 "is_house" 1 (p_is_house (16))) (c__law_verdict : Cal0 P w K mg base 21 "_law_verdict" 1 (p__law_verdict (16))) (c__law_lots_hold : Cal0 P w K mg base 19 "_law_lots_hold" 1 p__law_lots_hold) (c__law_kinds_hold : CalG P w K mg base 19 "_law_kinds_hold" 1 p__law_kinds_hold) (c__law_pick : Cal0 P w K mg base 1 "_law_pick" 2 p__law_pick) (z_range : mg "range" = none) (c__law_spoilt : Cal0 P w K mg base 19 "_law_spoilt" 3 (p__law_spoilt (16))) (z_int : mg "int" = none) (z_tuple : mg "tuple" = none) (z_len : mg "len" = none) (c__law_home : Cal0 P w K mg base 4 "_law_home" 2 p__law_home) (z_list : mg "list" = none) (hk : 35 ≤ k) (cdv : Value) (A : Around) (outer : List PySem.Env) (s : Shared) (H : Hp) (E : XK) (gd : A.guards = some []) (hr : Room k (A.deeper (envOfC "law" (defScope s_law) s.heap.objs.size f cdv))) :
    LSs (cxOf CX0 P w K mg base ["_law_script", "_law_box", "_law_menu", "_law_bends", "_law_k", "_law_told", "_law_due", "_law_was", "_law_parts", "_law_home_here"] "law" (defScope s_law) f cdv A outer s H E).nox E0 (defBody s_law) (b_law) :=
  (ls_cons (ls_box (i := 1) sc_law.nd rfl (by first | exact Or.inl rfl | exact Or.inr rfl) (la_cons (le_lst1 z_list (le_pv 0)) (la_cons le_int (la_cons le_int (la_cons le_int la_nil)))) (gl_cons (gl_cons (gl_cons (gl_cons gl_nil))))) (ls_cons (ls_set (i := 2) sc_law.nd rfl (by first | exact Or.inl rfl | exact Or.inr rfl) (le_ix (le_lstD (la_cons le_int (la_cons le_int (la_cons le_int (la_cons le_int (la_cons le_int (la_cons le_int (la_cons le_int (la_cons le_int (la_cons le_int (la_cons le_int (la_cons le_int (la_cons le_int la_nil)))))))))))) (gl_cons (gl_cons (gl_cons (gl_cons (gl_cons (gl_cons (gl_cons (gl_cons (gl_cons (gl_cons (gl_cons (gl_cons gl_nil))))))))))))) (le_c0 c__law_pick hr (gl_cons (gl_cons gl_nil)) (la_cons (le_pv 1) (la_cons le_int la_nil)) (by omega)))) (ls_cons (ls_if (lt_Eq hr (le_pv 2) le_int) (ls_cons (ls_boxComp (j := 8) rfl sc_law.nd rfl rfl (sw_true rfl rfl rfl (by decide +kernel)) (li_r1 rfl z_range (le_Add le_int (le_c0 c__law_pick hr (gl_cons (gl_cons gl_nil)) (la_cons (le_pv 1) (la_cons le_int la_nil)) (by omega)))) (blkOk_by (own := [("_law_k", 4)]) (by first | decide +kernel | rfl)) (fun _ _ _ _ _ => pg_name (i := 4) sc_law.nd rfl (by first | exact Or.inl rfl | exact Or.inr rfl)) (fun _ _ _ _ _ => lts_nil) (fun _ _ _ _ _ => (le_c0 c__law_home hr (gl_cons (gl_cons gl_nil)) (la_cons (le_pv 1) (la_cons (le_c0 c__law_pick hr (gl_cons (gl_cons gl_nil)) (la_cons (le_pv 1) (la_cons le_int la_nil)) (by omega)) la_nil)) (by omega)))) (ls_cons (ls_if (lt_Eq hr (le_c0 c__law_pick hr (gl_cons (gl_cons gl_nil)) (la_cons (le_pv 1) (la_cons le_int la_nil)) (by omega)) le_int) (ls_one (ls_put (le_tupD (la_cons le_str (la_cons (le_tupD (la_cons (le_ix (le_pv 8) le_int) (la_cons (le_ix (le_pv 8) le_int) la_nil)) (gl_cons (gl_cons gl_nil))) la_nil)) (gl_cons (gl_cons gl_nil))) (le_pv 8) (le_c0 c__law_pick hr (gl_cons (gl_cons gl_nil)) (la_cons (le_pv 1) (la_cons (le_len z_len (le_pv 8)) la_nil)) (by omega)))) ls_nil) (ls_one (ls_set (i := 9) sc_law.nd rfl (by first | exact Or.inl rfl | exact Or.inr rfl) (le_tupD (la_cons le_str (la_cons (le_tup1 z_tuple (le_pv 8)) la_nil)) (gl_cons (gl_cons gl_nil))))))) (ls_one (ls_set (i := 9) sc_law.nd rfl (by first | exact Or.inl rfl | exact Or.inr rfl) (le_c0 c__law_home hr (gl_cons (gl_cons gl_nil)) (la_cons (le_pv 1) (la_cons (le_pv 2) la_nil)) (by omega))))) (ls_cons (ls_set (i := 3) sc_law.nd rfl (by first | exact Or.inl rfl | exact Or.inr rfl) (le_ix (le_lstD (la_cons (le_lstD (la_cons le_int (la_cons le_int (la_cons le_int (la_cons le_int la_nil)))) (gl_cons (gl_cons (gl_cons (gl_cons gl_nil))))) (la_cons (le_lstD (la_cons le_int (la_cons le_int (la_cons le_int (la_cons le_int la_nil)))) (gl_cons (gl_cons (gl_cons (gl_cons gl_nil))))) la_nil)) (gl_cons (gl_cons gl_nil))) (le_int1 z_int (le_Eq hr (le_ix (le_c0 c__law_verdict hr (gl_cons gl_nil) (la_cons (le_pv 9) la_nil) (by omega)) le_int) le_str)))) (ls_cons (ls_for PassesOwn.never rfl (li_r1 rfl z_range (le_ix (le_pv 3) (le_c0 c__law_pick hr (gl_cons (gl_cons gl_nil)) (la_cons (le_pv 1) (la_cons le_int la_nil)) (by omega)))) (pg_name (i := 4) sc_law.nd rfl (by first | exact Or.inl rfl | exact Or.inr rfl)) gok_name (ls_one (ls_set (i := 9) sc_law.nd rfl (by first | exact Or.inl rfl | exact Or.inr rfl) (le_c0 c__law_spoilt hr (gl_cons (gl_cons (gl_cons gl_nil))) (la_cons (le_pv 1) (la_cons (le_pv 9) (la_cons le_int la_nil))) (by omega))))) (ls_cons (ls_if (lt_w (lw_or (lt_not (lt_val (le_cG c__law_kinds_hold hr gd (gl_cons gl_nil) (la_cons (le_pv 1) la_nil) (by omega)))) (lw_or1 (lt_not (lt_val (le_c0 c__law_lots_hold hr (gl_cons gl_nil) (la_cons (le_pv 1) la_nil) (by omega))))))) (ls_one (ls_ret le_bl)) ls_nil) (ls_cons (ls_set (i := 5) sc_law.nd rfl (by first | exact Or.inl rfl | exact Or.inr rfl) (le_tupD (la_cons (le_c0 c__law_lets hr (gl_cons gl_nil) (la_cons (le_tupD (la_cons le_str (la_cons le_int (la_cons (le_tupD la_nil gl_nil) la_nil))) (gl_cons (gl_cons (gl_cons gl_nil)))) la_nil) (by omega)) (la_cons (le_c0 c__law_lets hr (gl_cons gl_nil) (la_cons (le_tupD (la_cons le_str (la_cons le_int (la_cons (le_tupD la_nil gl_nil) la_nil))) (gl_cons (gl_cons (gl_cons gl_nil)))) la_nil) (by omega)) la_nil)) (gl_cons (gl_cons gl_nil)))) (ls_cons (ls_if (lt_not (lt_val (le_c0 c__law_same hr (gl_cons (gl_cons gl_nil)) (la_cons (le_pv 5) (la_cons (le_tupD (la_cons (le_tupD (la_cons le_str (la_cons le_str (la_cons (le_neg le_int) la_nil))) (gl_cons (gl_cons (gl_cons gl_nil)))) (la_cons (le_tupD (la_cons le_str (la_cons le_str (la_cons (le_neg le_int) la_nil))) (gl_cons (gl_cons (gl_cons gl_nil)))) la_nil)) (gl_cons (gl_cons gl_nil))) la_nil)) (by omega)))) (ls_one (ls_ret le_bl)) ls_nil) (ls_cons (ls_set (i := 6) sc_law.nd rfl (by first | exact Or.inl rfl | exact Or.inr rfl) (le_c0 c__law_verdict hr (gl_cons gl_nil) (la_cons (le_pv 9) la_nil) (by omega))) (ls_cons (ls_set (i := 7) sc_law.nd rfl (by first | exact Or.inl rfl | exact Or.inr rfl) (le_repr z_repr hr gd (le_pv 9))) (ls_cons (ls_set (i := 5) sc_law.nd rfl (by first | exact Or.inl rfl | exact Or.inr rfl) (le_c0 c__law_lets hr (gl_cons gl_nil) (la_cons (le_pv 9) la_nil) (by omega))) (ls_cons (ls_if (lt_w (lw_or (lt_not (lt_val (le_c0 c__law_same hr (gl_cons (gl_cons gl_nil)) (la_cons (le_pv 5) (la_cons (le_pv 6) la_nil)) (by omega)))) (lw_or1 (lt_not (lt_val (le_c0 c__law_same hr (gl_cons (gl_cons gl_nil)) (la_cons (le_c0 c_is_house hr (gl_cons gl_nil) (la_cons (le_pv 9) la_nil) (by omega)) (la_cons (le_Eq hr (le_ix (le_pv 6) le_int) le_str) la_nil)) (by omega))))))) (ls_one (ls_ret le_bl)) ls_nil) (ls_cons (ls_if (lt_w (lw_or (lt_not (lt_val (le_c0 c__law_same hr (gl_cons (gl_cons gl_nil)) (la_cons (le_c0 c__law_lets hr (gl_cons gl_nil) (la_cons (le_pv 9) la_nil) (by omega)) (la_cons (le_pv 6) la_nil)) (by omega)))) (lw_or1 (lt_not (lt_val (le_c0 c__law_same hr (gl_cons (gl_cons gl_nil)) (la_cons (le_c0K k_is_house_thing hr (lk_cons (le_pv 9) lk_nil) (by omega)) (la_cons (le_Eq hr (le_ix (le_pv 6) le_int) le_str) la_nil)) (by omega))))))) (ls_one (ls_ret le_bl)) ls_nil) (ls_one (ls_ret (le_Eq hr (le_repr z_repr hr gd (le_pv 9)) (le_pv 7)))))))))))))))))
noncomputable def p_law : List A → Sto → R A := runN 10 b_law
end G
set_option Elab.async false
set_option linter.all false
set_option maxRecDepth 100000
set_option maxHeartbeats 0
namespace G
open PySem PySem.Spec PyProof.Rows L2 LF He
def clsBody : Stmt → List Stmt
  | .ClassDef _ _ _ b .. => b
  | _ => []
abbrev si_InvalidPaper : Stmt := (clsBody (top 5)).getD 0 (.Pass ⟨0, 0, 0, 0⟩)
theorem sci_InvalidPaper : FnScope ["self", "word", "at"] ["self", "word", "at"] (defScope si_InvalidPaper) := ⟨rfl, rfl, rfl, by decide +kernel, rfl, by decide +kernel, by decide +kernel⟩
abbrev si_NotUsable : Stmt := (clsBody (top 6)).getD 0 (.Pass ⟨0, 0, 0, 0⟩)
theorem sci_NotUsable : FnScope ["self", "word", "at"] ["self", "word", "at"] (defScope si_NotUsable) := ⟨rfl, rfl, rfl, by decide +kernel, rfl, by decide +kernel, by decide +kernel⟩
theorem pe_wish_count (n : Nat) : p_wish_count (n + 1) = runN 2 (b_wish_count (p_wish_count n)) := by rw [p_wish_count]
theorem nx_wish_count : ∀ n, NoX (p_wish_count n)
  | 0 => by rw [p_wish_count]; exact fun _ _ _ _ _ e => nomatch e
  | n + 1 => by rw [pe_wish_count]; exact runN_NoX
theorem pe_is_house (n : Nat) : p_is_house (n + 1) = runN 1 (b_is_house (p_lets_house n)) := by rw [p_is_house]
theorem nx_is_house : ∀ n, NoX (p_is_house n)
  | 0 => by rw [p_is_house]; exact fun _ _ _ _ _ e => nomatch e
  | n + 1 => by rw [pe_is_house]; exact runN_NoX
theorem pe_lets_house (n : Nat) : p_lets_house (n + 1) = runC 1 (b_lets_house (p_check_beside n)) := by rw [p_lets_house]
theorem pe_check_beside (n : Nat) : p_check_beside (n + 1) = runC 4 (b_check_beside (p_is_house n)) := by rw [p_check_beside]
theorem pe__law_same (n : Nat) : p__law_same (n + 1) = runN 3 (b__law_same (p__law_same n)) := by rw [p__law_same]
theorem nx__law_same : ∀ n, NoX (p__law_same n)
  | 0 => by rw [p__law_same]; exact fun _ _ _ _ _ e => nomatch e
  | n + 1 => by rw [pe__law_same]; exact runN_NoX
theorem pe__law_spoilt (n : Nat) : p__law_spoilt (n + 1) = runN 4 (b__law_spoilt (p__law_spoilt n)) := by rw [p__law_spoilt]
theorem nx__law_spoilt : ∀ n, NoX (p__law_spoilt n)
  | 0 => by rw [p__law_spoilt]; exact fun _ _ _ _ _ e => nomatch e
  | n + 1 => by rw [pe__law_spoilt]; exact runN_NoX
theorem pe__law_verdict (n : Nat) : p__law_verdict (n + 1) = runN 6 (b__law_verdict (p__law_verdict_beside n)) := by rw [p__law_verdict]
theorem nx__law_verdict : ∀ n, NoX (p__law_verdict n)
  | 0 => by rw [p__law_verdict]; exact fun _ _ _ _ _ e => nomatch e
  | n + 1 => by rw [pe__law_verdict]; exact runN_NoX
theorem pe__law_verdict_beside (n : Nat) : p__law_verdict_beside (n + 1) = runN 4 (b__law_verdict_beside (p__law_verdict n)) := by rw [p__law_verdict_beside]
theorem nx__law_verdict_beside : ∀ n, NoX (p__law_verdict_beside n)
  | 0 => by rw [p__law_verdict_beside]; exact fun _ _ _ _ _ e => nomatch e
  | n + 1 => by rw [pe__law_verdict_beside]; exact runN_NoX
def fl0 : List Fa := [.glo "need",
  .glo "demand",
  .glo "is_integer",
  .glo "is_number",
  .glo "is_below",
  .glo "is_tuple_of",
  .glo "is_quotient",
  .glo "is_lot",
  .glo "is_order",
  .glo "lot_number",
  .glo "lot_by",
  .glo "lots_within",
  .glo "is_house",
  .glo "lets_house",
  .glo "wish_count",
  .glo "has_shape",
  .glo "is_second",
  .glo "are_rows",
  .glo "check_beside",
  .glo "check_rows",
  .glo "is_row",
  .glo "is_limit",
  .glo "is_uncrossed",
  .glo "is_link",
  .glo "is_line",
  .glo "is_rank",
  .glo "adds_late",
  .glo "_law_pick",
  .glo "_law_whole",
  .glo "_law_count"]
def fl1 : List Fa := [.glo "_law_same",
  .glo "_law_fraction",
  .glo "_law_bundle",
  .glo "_law_each_once",
  .glo "_law_leaf",
  .glo "_law_part",
  .glo "_law_shuffled",
  .glo "_law_bent",
  .glo "_law_value",
  .glo "_law_kinds_hold",
  .glo "_law_by",
  .glo "_law_lots_hold",
  .glo "_law_apart",
  .glo "_law_limits",
  .glo "_law_table",
  .glo "_law_line",
  .glo "_law_home",
  .glo "_law_odd",
  .glo "_law_spoilt",
  .glo "_law_rank_fault",
  .glo "_law_row_fault",
  .glo "_law_verdict",
  .glo "_law_verdict_beside",
  .glo "_law_lets",
  .glo "law",
  .glo "NotUsable",
  .glo "InvalidPaper",
  .free "isinstance",
  .free "bool",
  .free "int"]
def fl2 : List Fa := [.free "len",
  .free "tuple",
  .free "set",
  .free "all",
  .free "sum",
  .free "range",
  .glo "WORDS",
  .int "GREATEST_TABLE" 12,
  .glo "PRIMES",
  .free "enumerate",
  .free "abs",
  .free "str",
  .free "list",
  .free "repr",
  .glo "PaperError",
  .glo "HouseError",
  .free "min",
  .free "max",
  .glo "OutError"]
def fl : List Fa := fl0 ++ fl1 ++ fl2
def fn0 : List DefD := [⟨("need", none), "need", "need", defArgs s_need, defBody s_need, defScope s_need, [], []⟩,
  ⟨("demand", none), "demand", "demand", defArgs s_demand, defBody s_demand, defScope s_demand, [], []⟩,
  ⟨("is_integer", none), "is_integer", "is_integer", defArgs s_is_integer, defBody s_is_integer, defScope s_is_integer, [], []⟩,
  ⟨("is_number", none), "is_number", "is_number", defArgs s_is_number, defBody s_is_number, defScope s_is_number, [], []⟩,
  ⟨("is_below", none), "is_below", "is_below", defArgs s_is_below, defBody s_is_below, defScope s_is_below, [], []⟩,
  ⟨("is_tuple_of", none), "is_tuple_of", "is_tuple_of", defArgs s_is_tuple_of, defBody s_is_tuple_of, defScope s_is_tuple_of, [], []⟩,
  ⟨("is_quotient", none), "is_quotient", "is_quotient", defArgs s_is_quotient, defBody s_is_quotient, defScope s_is_quotient, [], []⟩,
  ⟨("is_lot", none), "is_lot", "is_lot", defArgs s_is_lot, defBody s_is_lot, defScope s_is_lot, [], []⟩,
  ⟨("is_order", none), "is_order", "is_order", defArgs s_is_order, defBody s_is_order, defScope s_is_order, [], []⟩,
  ⟨("lot_number", none), "lot_number", "lot_number", defArgs s_lot_number, defBody s_lot_number, defScope s_lot_number, [], []⟩,
  ⟨("lot_by", none), "lot_by", "lot_by", defArgs s_lot_by, defBody s_lot_by, defScope s_lot_by, [], []⟩,
  ⟨("lots_within", none), "lots_within", "lots_within", defArgs s_lots_within, defBody s_lots_within, defScope s_lots_within, [], []⟩,
  ⟨("is_house", none), "is_house", "is_house", defArgs s_is_house, defBody s_is_house, defScope s_is_house, [], []⟩,
  ⟨("lets_house", none), "lets_house", "lets_house", defArgs s_lets_house, defBody s_lets_house, defScope s_lets_house, [], []⟩,
  ⟨("wish_count", none), "wish_count", "wish_count", defArgs s_wish_count, defBody s_wish_count, defScope s_wish_count, [], []⟩,
  ⟨("has_shape", none), "has_shape", "has_shape", defArgs s_has_shape, defBody s_has_shape, defScope s_has_shape, [], []⟩,
  ⟨("is_second", none), "is_second", "is_second", defArgs s_is_second, defBody s_is_second, defScope s_is_second, [], []⟩,
  ⟨("are_rows", none), "are_rows", "are_rows", defArgs s_are_rows, defBody s_are_rows, defScope s_are_rows, [], []⟩,
  ⟨("check_beside", none), "check_beside", "check_beside", defArgs s_check_beside, defBody s_check_beside, defScope s_check_beside, [], []⟩,
  ⟨("check_rows", none), "check_rows", "check_rows", defArgs s_check_rows, defBody s_check_rows, defScope s_check_rows, [], []⟩,
  ⟨("is_row", none), "is_row", "is_row", defArgs s_is_row, defBody s_is_row, defScope s_is_row, [], []⟩,
  ⟨("is_limit", none), "is_limit", "is_limit", defArgs s_is_limit, defBody s_is_limit, defScope s_is_limit, [], []⟩,
  ⟨("is_uncrossed", none), "is_uncrossed", "is_uncrossed", defArgs s_is_uncrossed, defBody s_is_uncrossed, defScope s_is_uncrossed, [], []⟩,
  ⟨("is_link", none), "is_link", "is_link", defArgs s_is_link, defBody s_is_link, defScope s_is_link, [], []⟩,
  ⟨("is_line", none), "is_line", "is_line", defArgs s_is_line, defBody s_is_line, defScope s_is_line, [], []⟩,
  ⟨("is_rank", none), "is_rank", "is_rank", defArgs s_is_rank, defBody s_is_rank, defScope s_is_rank, [], []⟩,
  ⟨("adds_late", none), "adds_late", "adds_late", defArgs s_adds_late, defBody s_adds_late, defScope s_adds_late, [], []⟩,
  ⟨("_law_pick", none), "_law_pick", "_law_pick", defArgs s__law_pick, defBody s__law_pick, defScope s__law_pick, [], []⟩,
  ⟨("_law_whole", none), "_law_whole", "_law_whole", defArgs s__law_whole, defBody s__law_whole, defScope s__law_whole, [], []⟩,
  ⟨("_law_count", none), "_law_count", "_law_count", defArgs s__law_count, defBody s__law_count, defScope s__law_count, [], []⟩]
def fn1 : List DefD := [⟨("_law_same", none), "_law_same", "_law_same", defArgs s__law_same, defBody s__law_same, defScope s__law_same, [], []⟩,
  ⟨("_law_fraction", none), "_law_fraction", "_law_fraction", defArgs s__law_fraction, defBody s__law_fraction, defScope s__law_fraction, [], []⟩,
  ⟨("_law_bundle", none), "_law_bundle", "_law_bundle", defArgs s__law_bundle, defBody s__law_bundle, defScope s__law_bundle, [], []⟩,
  ⟨("_law_each_once", none), "_law_each_once", "_law_each_once", defArgs s__law_each_once, defBody s__law_each_once, defScope s__law_each_once, [], []⟩,
  ⟨("_law_leaf", none), "_law_leaf", "_law_leaf", defArgs s__law_leaf, defBody s__law_leaf, defScope s__law_leaf, [], []⟩,
  ⟨("_law_part", none), "_law_part", "_law_part", defArgs s__law_part, defBody s__law_part, defScope s__law_part, [], []⟩,
  ⟨("_law_shuffled", none), "_law_shuffled", "_law_shuffled", defArgs s__law_shuffled, defBody s__law_shuffled, defScope s__law_shuffled, [], []⟩,
  ⟨("_law_bent", none), "_law_bent", "_law_bent", defArgs s__law_bent, defBody s__law_bent, defScope s__law_bent, [], []⟩,
  ⟨("_law_value", none), "_law_value", "_law_value", defArgs s__law_value, defBody s__law_value, defScope s__law_value, [], []⟩,
  ⟨("_law_kinds_hold", none), "_law_kinds_hold", "_law_kinds_hold", defArgs s__law_kinds_hold, defBody s__law_kinds_hold, defScope s__law_kinds_hold, [], []⟩,
  ⟨("_law_by", none), "_law_by", "_law_by", defArgs s__law_by, defBody s__law_by, defScope s__law_by, [], []⟩,
  ⟨("_law_lots_hold", none), "_law_lots_hold", "_law_lots_hold", defArgs s__law_lots_hold, defBody s__law_lots_hold, defScope s__law_lots_hold, [], []⟩,
  ⟨("_law_apart", none), "_law_apart", "_law_apart", defArgs s__law_apart, defBody s__law_apart, defScope s__law_apart, [], []⟩,
  ⟨("_law_limits", none), "_law_limits", "_law_limits", defArgs s__law_limits, defBody s__law_limits, defScope s__law_limits, [], []⟩,
  ⟨("_law_table", none), "_law_table", "_law_table", defArgs s__law_table, defBody s__law_table, defScope s__law_table, [], []⟩,
  ⟨("_law_line", none), "_law_line", "_law_line", defArgs s__law_line, defBody s__law_line, defScope s__law_line, [], []⟩,
  ⟨("_law_home", none), "_law_home", "_law_home", defArgs s__law_home, defBody s__law_home, defScope s__law_home, [], []⟩,
  ⟨("_law_odd", none), "_law_odd", "_law_odd", defArgs s__law_odd, defBody s__law_odd, defScope s__law_odd, [], []⟩,
  ⟨("_law_spoilt", none), "_law_spoilt", "_law_spoilt", defArgs s__law_spoilt, defBody s__law_spoilt, defScope s__law_spoilt, [], []⟩,
  ⟨("_law_rank_fault", none), "_law_rank_fault", "_law_rank_fault", defArgs s__law_rank_fault, defBody s__law_rank_fault, defScope s__law_rank_fault, [], []⟩,
  ⟨("_law_row_fault", none), "_law_row_fault", "_law_row_fault", defArgs s__law_row_fault, defBody s__law_row_fault, defScope s__law_row_fault, [], []⟩,
  ⟨("_law_verdict", none), "_law_verdict", "_law_verdict", defArgs s__law_verdict, defBody s__law_verdict, defScope s__law_verdict, [], []⟩,
  ⟨("_law_verdict_beside", none), "_law_verdict_beside", "_law_verdict_beside", defArgs s__law_verdict_beside, defBody s__law_verdict_beside, defScope s__law_verdict_beside, [], []⟩,
  ⟨("_law_lets", none), "_law_lets", "_law_lets", defArgs s__law_lets, defBody s__law_lets, defScope s__law_lets, [], []⟩,
  ⟨("law", none), "law", "law", defArgs s_law, defBody s_law, defScope s_law, [], []⟩,
  ⟨("InvalidPaper", some "__init__"), "__init__", "InvalidPaper.__init__", defArgs si_InvalidPaper, defBody si_InvalidPaper, defScope si_InvalidPaper, [], []⟩,
  ⟨("NotUsable", some "__init__"), "__init__", "NotUsable.__init__", defArgs si_NotUsable, defBody si_NotUsable, defScope si_NotUsable, [], []⟩]
def fn : List DefD := fn0 ++ fn1
def fb0 : List Fb := [.err "NotUsable" "word" "at",
  .err "InvalidPaper" "word" "at",
  .blt "gcd" "math.gcd",
  .tup "WORDS" [.str "limits", .str "slots", .str "web", .str "rows", .str "table", .str "beside"],
  .tup "PRIMES" [.int 2, .int 3, .int 5, .int 7],
  .exn "InvalidPaper",
  .exa "NotUsable" "word" "at",
  .isg "NotUsable" "PaperError" false,
  .isg "NotUsable" "HouseError" true,
  .exa "InvalidPaper" "word" "at",
  .isg "InvalidPaper" "HouseError" false,
  .ist "InvalidPaper" "ValueError" "ValueError" true,
  .isg "InvalidPaper" "OutError" true,
  .isg "InvalidPaper" "PaperError" true]
def fb : List Fb := fb0
def names0 : List PySem.Str := ["OutError",
  "PaperError",
  "HouseError",
  "InvalidPaper",
  "NotUsable",
  "need",
  "demand",
  "is_integer",
  "is_number",
  "is_below",
  "is_tuple_of",
  "is_quotient",
  "is_lot",
  "is_order",
  "lot_number",
  "lot_by",
  "lots_within",
  "WORDS",
  "PRIMES",
  "GREATEST_TABLE",
  "is_house",
  "lets_house",
  "wish_count",
  "has_shape",
  "is_second",
  "are_rows",
  "check_beside",
  "check_rows",
  "is_row",
  "is_limit"]
def names1 : List PySem.Str := ["is_uncrossed",
  "is_link",
  "is_line",
  "is_rank",
  "adds_late",
  "_law_pick",
  "_law_whole",
  "_law_count",
  "_law_same",
  "_law_fraction",
  "_law_bundle",
  "_law_each_once",
  "_law_leaf",
  "_law_part",
  "_law_shuffled",
  "_law_bent",
  "_law_value",
  "_law_kinds_hold",
  "_law_by",
  "_law_lots_hold",
  "_law_apart",
  "_law_limits",
  "_law_table",
  "_law_line",
  "_law_home",
  "_law_odd",
  "_law_spoilt",
  "_law_rank_fault",
  "_law_row_fault",
  "_law_verdict"]
def names2 : List PySem.Str := ["_law_verdict_beside",
  "_law_lets"]
def names : List PySem.Str := names0 ++ names1 ++ names2
abbrev Rw : PySem.W.OpenRow := PySem.W.OpenLaw.row PySem.Challenge.rw_someoneout_k00_kinds_and_checker
abbrev hk : PySem.W.Hook := hookL 5 fl fn fb
def ob (s : PySem.W.SharedT) : AlL := obsLG 5 fl fn fb (HandSHeadRun.getT s)
theorem ob_eq (s : PySem.W.SharedT) : ob s = hk.obs s.abs := obsLG_eq (HandSHeadRun.getT_eq s)
end G
set_option Elab.async false
set_option linter.all false
set_option maxRecDepth 100000
set_option maxHeartbeats 0
namespace G
open PySem PySem.Spec PyProof.Rows L2 LF He
theorem run (w : World) : HandSHeadRun.RunEqI Rw (PySem.W.view Rw.prog [0, 68]) hk ob 9000 names w := by
  unfold HandSHeadRun.RunEqI
  kernel_rfl
end G
set_option Elab.async false
set_option linter.all false
set_option maxRecDepth 100000
set_option maxHeartbeats 0
namespace G
open PySem PySem.Spec PyProof.Rows L2 LF He
theorem facts {P : Program} {w : World} {K : PySem.W.Frag} {h : Heap} {mg : Str → Option Value} {fa : Addr} (X : K.In h) (G : h.Ns mainGlobals mg) (hfa : mg ("law" : Str) = some (.ref fa)) (c : SaysL fl fn fb K) :
    ∃ fd : FuncData, (∀ (s : Shared) (v : Value), BindsTo s fd ⟨[v], []⟩ [("_law_script", v)]) ∧ ∀ base : Heap, K.In base → base.Ns mainGlobals mg → FnG P w K mg base CX0 36 fa fd ["_law_script"] (spL0 K mg 1 p_law) := by
  obtain ⟨fd_need, D_need⟩ := defAt_of (x := "need") (st := s_need) (ps := ["holds", "word"]) X G c.d 0 0 rfl rfl (fun _ _ _ _ _ _ us hl => match us, hl with | [_, _], _ => rfl)
  obtain ⟨fd_demand, D_demand⟩ := defAt_of (x := "demand") (st := s_demand) (ps := ["holds", "word", "at"]) X G c.d 1 1 rfl rfl (fun _ _ _ _ _ _ us hl => match us, hl with | [_, _, _], _ => rfl)
  obtain ⟨fd_is_integer, D_is_integer⟩ := defAt_of (x := "is_integer") (st := s_is_integer) (ps := ["thing"]) X G c.d 2 2 rfl rfl (fun _ _ _ _ _ _ us hl => match us, hl with | [_], _ => rfl)
  obtain ⟨fd_is_number, D_is_number⟩ := defAt_of (x := "is_number") (st := s_is_number) (ps := ["thing"]) X G c.d 3 3 rfl rfl (fun _ _ _ _ _ _ us hl => match us, hl with | [_], _ => rfl)
  obtain ⟨fd_is_below, D_is_below⟩ := defAt_of (x := "is_below") (st := s_is_below) (ps := ["bound", "thing"]) X G c.d 4 4 rfl rfl (fun _ _ _ _ _ _ us hl => match us, hl with | [_, _], _ => rfl)
  obtain ⟨fd_is_tuple_of, D_is_tuple_of⟩ := defAt_of (x := "is_tuple_of") (st := s_is_tuple_of) (ps := ["many", "thing"]) X G c.d 5 5 rfl rfl (fun _ _ _ _ _ _ us hl => match us, hl with | [_, _], _ => rfl)
  obtain ⟨fd_is_quotient, D_is_quotient⟩ := defAt_of (x := "is_quotient") (st := s_is_quotient) (ps := ["thing"]) X G c.d 6 6 rfl rfl (fun _ _ _ _ _ _ us hl => match us, hl with | [_], _ => rfl)
  obtain ⟨fd_is_lot, D_is_lot⟩ := defAt_of (x := "is_lot") (st := s_is_lot) (ps := ["size", "thing"]) X G c.d 7 7 rfl rfl (fun _ _ _ _ _ _ us hl => match us, hl with | [_, _], _ => rfl)
  obtain ⟨fd_is_order, D_is_order⟩ := defAt_of (x := "is_order") (st := s_is_order) (ps := ["size", "thing"]) X G c.d 8 8 rfl rfl (fun _ _ _ _ _ _ us hl => match us, hl with | [_, _], _ => rfl)
  obtain ⟨fd_lot_number, D_lot_number⟩ := defAt_of (x := "lot_number") (st := s_lot_number) (ps := ["lot"]) X G c.d 9 9 rfl rfl (fun _ _ _ _ _ _ us hl => match us, hl with | [_], _ => rfl)
  obtain ⟨fd_lot_by, D_lot_by⟩ := defAt_of (x := "lot_by") (st := s_lot_by) (ps := ["number"]) X G c.d 10 10 rfl rfl (fun _ _ _ _ _ _ us hl => match us, hl with | [_], _ => rfl)
  obtain ⟨fd_lots_within, D_lots_within⟩ := defAt_of (x := "lots_within") (st := s_lots_within) (ps := ["lot"]) X G c.d 11 11 rfl rfl (fun _ _ _ _ _ _ us hl => match us, hl with | [_], _ => rfl)
  obtain ⟨fd_is_house, D_is_house⟩ := defAt_of (x := "is_house") (st := s_is_house) (ps := ["thing"]) X G c.d 12 12 rfl rfl (fun _ _ _ _ _ _ us hl => match us, hl with | [_], _ => rfl)
  obtain ⟨fd_lets_house, D_lets_house⟩ := defAt_of (x := "lets_house") (st := s_lets_house) (ps := ["thing"]) X G c.d 13 13 rfl rfl (fun _ _ _ _ _ _ us hl => match us, hl with | [_], _ => rfl)
  obtain ⟨fd_wish_count, D_wish_count⟩ := defAt_of (x := "wish_count") (st := s_wish_count) (ps := ["house"]) X G c.d 14 14 rfl rfl (fun _ _ _ _ _ _ us hl => match us, hl with | [_], _ => rfl)
  obtain ⟨fd_has_shape, D_has_shape⟩ := defAt_of (x := "has_shape") (st := s_has_shape) (ps := ["thing"]) X G c.d 15 15 rfl rfl (fun _ _ _ _ _ _ us hl => match us, hl with | [_], _ => rfl)
  obtain ⟨fd_is_second, D_is_second⟩ := defAt_of (x := "is_second") (st := s_is_second) (ps := ["word", "thing"]) X G c.d 16 16 rfl rfl (fun _ _ _ _ _ _ us hl => match us, hl with | [_, _], _ => rfl)
  obtain ⟨fd_are_rows, D_are_rows⟩ := defAt_of (x := "are_rows") (st := s_are_rows) (ps := ["word", "size", "thing"]) X G c.d 17 17 rfl rfl (fun _ _ _ _ _ _ us hl => match us, hl with | [_, _, _], _ => rfl)
  obtain ⟨fd_check_beside, D_check_beside⟩ := defAt_of (x := "check_beside") (st := s_check_beside) (ps := ["houses"]) X G c.d 18 18 rfl rfl (fun _ _ _ _ _ _ us hl => match us, hl with | [_], _ => rfl)
  obtain ⟨fd_check_rows, D_check_rows⟩ := defAt_of (x := "check_rows") (st := s_check_rows) (ps := ["word", "size", "rows"]) X G c.d 19 19 rfl rfl (fun _ _ _ _ _ _ us hl => match us, hl with | [_, _, _], _ => rfl)
  obtain ⟨fd_is_row, D_is_row⟩ := defAt_of (x := "is_row") (st := s_is_row) (ps := ["word", "size", "rows", "at"]) X G c.d 20 20 rfl rfl (fun _ _ _ _ _ _ us hl => match us, hl with | [_, _, _, _], _ => rfl)
  obtain ⟨fd_is_limit, D_is_limit⟩ := defAt_of (x := "is_limit") (st := s_is_limit) (ps := ["size", "row"]) X G c.d 21 21 rfl rfl (fun _ _ _ _ _ _ us hl => match us, hl with | [_, _], _ => rfl)
  obtain ⟨fd_is_uncrossed, D_is_uncrossed⟩ := defAt_of (x := "is_uncrossed") (st := s_is_uncrossed) (ps := ["rows", "at"]) X G c.d 22 22 rfl rfl (fun _ _ _ _ _ _ us hl => match us, hl with | [_, _], _ => rfl)
  obtain ⟨fd_is_link, D_is_link⟩ := defAt_of (x := "is_link") (st := s_is_link) (ps := ["points", "row"]) X G c.d 23 23 rfl rfl (fun _ _ _ _ _ _ us hl => match us, hl with | [_, _], _ => rfl)
  obtain ⟨fd_is_line, D_is_line⟩ := defAt_of (x := "is_line") (st := s_is_line) (ps := ["prime", "rows", "at"]) X G c.d 24 24 rfl rfl (fun _ _ _ _ _ _ us hl => match us, hl with | [_, _, _], _ => rfl)
  obtain ⟨fd_is_rank, D_is_rank⟩ := defAt_of (x := "is_rank") (st := s_is_rank) (ps := ["ranks", "number"]) X G c.d 25 25 rfl rfl (fun _ _ _ _ _ _ us hl => match us, hl with | [_, _], _ => rfl)
  obtain ⟨fd_adds_late, D_adds_late⟩ := defAt_of (x := "adds_late") (st := s_adds_late) (ps := ["ranks", "number", "one", "other"]) X G c.d 26 26 rfl rfl (fun _ _ _ _ _ _ us hl => match us, hl with | [_, _, _, _], _ => rfl)
  obtain ⟨fd__law_pick, D__law_pick⟩ := defAt_of (x := "_law_pick") (st := s__law_pick) (ps := ["_law_box", "_law_upto"]) X G c.d 27 27 rfl rfl (fun _ _ _ _ _ _ us hl => match us, hl with | [_, _], _ => rfl)
  obtain ⟨fd__law_whole, D__law_whole⟩ := defAt_of (x := "_law_whole") (st := s__law_whole) (ps := ["_law_value_here"]) X G c.d 28 28 rfl rfl (fun _ _ _ _ _ _ us hl => match us, hl with | [_], _ => rfl)
  obtain ⟨fd__law_count, D__law_count⟩ := defAt_of (x := "_law_count") (st := s__law_count) (ps := ["_law_value_here"]) X G c.d 29 29 rfl rfl (fun _ _ _ _ _ _ us hl => match us, hl with | [_], _ => rfl)
  obtain ⟨fd__law_same, D__law_same⟩ := defAt_of (x := "_law_same") (st := s__law_same) (ps := ["_law_found", "_law_due"]) X G c.d 30 30 rfl rfl (fun _ _ _ _ _ _ us hl => match us, hl with | [_, _], _ => rfl)
  obtain ⟨fd__law_fraction, D__law_fraction⟩ := defAt_of (x := "_law_fraction") (st := s__law_fraction) (ps := ["_law_value_here"]) X G c.d 31 31 rfl rfl (fun _ _ _ _ _ _ us hl => match us, hl with | [_], _ => rfl)
  obtain ⟨fd__law_bundle, D__law_bundle⟩ := defAt_of (x := "_law_bundle") (st := s__law_bundle) (ps := ["_law_upto", "_law_value_here"]) X G c.d 32 32 rfl rfl (fun _ _ _ _ _ _ us hl => match us, hl with | [_, _], _ => rfl)
  obtain ⟨fd__law_each_once, D__law_each_once⟩ := defAt_of (x := "_law_each_once") (st := s__law_each_once) (ps := ["_law_upto", "_law_value_here"]) X G c.d 33 33 rfl rfl (fun _ _ _ _ _ _ us hl => match us, hl with | [_, _], _ => rfl)
  obtain ⟨fd__law_leaf, D__law_leaf⟩ := defAt_of (x := "_law_leaf") (st := s__law_leaf) (ps := ["_law_box"]) X G c.d 34 34 rfl rfl (fun _ _ _ _ _ _ us hl => match us, hl with | [_], _ => rfl)
  obtain ⟨fd__law_part, D__law_part⟩ := defAt_of (x := "_law_part") (st := s__law_part) (ps := ["_law_box", "_law_upto"]) X G c.d 35 35 rfl rfl (fun _ _ _ _ _ _ us hl => match us, hl with | [_, _], _ => rfl)
  obtain ⟨fd__law_shuffled, D__law_shuffled⟩ := defAt_of (x := "_law_shuffled") (st := s__law_shuffled) (ps := ["_law_box", "_law_upto"]) X G c.d 36 36 rfl rfl (fun _ _ _ _ _ _ us hl => match us, hl with | [_, _], _ => rfl)
  obtain ⟨fd__law_bent, D__law_bent⟩ := defAt_of (x := "_law_bent") (st := s__law_bent) (ps := ["_law_box", "_law_row", "_law_upto"]) X G c.d 37 37 rfl rfl (fun _ _ _ _ _ _ us hl => match us, hl with | [_, _, _], _ => rfl)
  obtain ⟨fd__law_value, D__law_value⟩ := defAt_of (x := "_law_value") (st := s__law_value) (ps := ["_law_box", "_law_upto"]) X G c.d 38 38 rfl rfl (fun _ _ _ _ _ _ us hl => match us, hl with | [_, _], _ => rfl)
  obtain ⟨fd__law_kinds_hold, D__law_kinds_hold⟩ := defAt_of (x := "_law_kinds_hold") (st := s__law_kinds_hold) (ps := ["_law_box"]) X G c.d 39 39 rfl rfl (fun _ _ _ _ _ _ us hl => match us, hl with | [_], _ => rfl)
  obtain ⟨fd__law_by, D__law_by⟩ := defAt_of (x := "_law_by") (st := s__law_by) (ps := ["_law_value_here"]) X G c.d 40 40 rfl rfl (fun _ _ _ _ _ _ us hl => match us, hl with | [_], _ => rfl)
  obtain ⟨fd__law_lots_hold, D__law_lots_hold⟩ := defAt_of (x := "_law_lots_hold") (st := s__law_lots_hold) (ps := ["_law_box"]) X G c.d 41 41 rfl rfl (fun _ _ _ _ _ _ us hl => match us, hl with | [_], _ => rfl)
  obtain ⟨fd__law_apart, D__law_apart⟩ := defAt_of (x := "_law_apart") (st := s__law_apart) (ps := ["_law_here", "_law_there"]) X G c.d 42 42 rfl rfl (fun _ _ _ _ _ _ us hl => match us, hl with | [_, _], _ => rfl)
  obtain ⟨fd__law_limits, D__law_limits⟩ := defAt_of (x := "_law_limits") (st := s__law_limits) (ps := ["_law_box", "_law_upto"]) X G c.d 43 43 rfl rfl (fun _ _ _ _ _ _ us hl => match us, hl with | [_, _], _ => rfl)
  obtain ⟨fd__law_table, D__law_table⟩ := defAt_of (x := "_law_table") (st := s__law_table) (ps := ["_law_box", "_law_upto"]) X G c.d 44 44 rfl rfl (fun _ _ _ _ _ _ us hl => match us, hl with | [_, _], _ => rfl)
  obtain ⟨fd__law_line, D__law_line⟩ := defAt_of (x := "_law_line") (st := s__law_line) (ps := ["_law_box", "_law_prime", "_law_wide"]) X G c.d 45 45 rfl rfl (fun _ _ _ _ _ _ us hl => match us, hl with | [_, _, _], _ => rfl)
  obtain ⟨fd__law_home, D__law_home⟩ := defAt_of (x := "_law_home") (st := s__law_home) (ps := ["_law_box", "_law_menu"]) X G c.d 46 46 rfl rfl (fun _ _ _ _ _ _ us hl => match us, hl with | [_, _], _ => rfl)
  obtain ⟨fd__law_odd, D__law_odd⟩ := defAt_of (x := "_law_odd") (st := s__law_odd) (ps := ["_law_box", "_law_value_here"]) X G c.d 47 47 rfl rfl (fun _ _ _ _ _ _ us hl => match us, hl with | [_, _], _ => rfl)
  obtain ⟨fd__law_spoilt, D__law_spoilt⟩ := defAt_of (x := "_law_spoilt") (st := s__law_spoilt) (ps := ["_law_box", "_law_value_here", "_law_depth"]) X G c.d 48 48 rfl rfl (fun _ _ _ _ _ _ us hl => match us, hl with | [_, _, _], _ => rfl)
  obtain ⟨fd__law_rank_fault, D__law_rank_fault⟩ := defAt_of (x := "_law_rank_fault") (st := s__law_rank_fault) (ps := ["_law_ranks", "_law_k"]) X G c.d 49 49 rfl rfl (fun _ _ _ _ _ _ us hl => match us, hl with | [_, _], _ => rfl)
  obtain ⟨fd__law_row_fault, D__law_row_fault⟩ := defAt_of (x := "_law_row_fault") (st := s__law_row_fault) (ps := ["_law_word", "_law_second", "_law_rows", "_law_k"]) X G c.d 50 50 rfl rfl (fun _ _ _ _ _ _ us hl => match us, hl with | [_, _, _, _], _ => rfl)
  obtain ⟨fd__law_verdict, D__law_verdict⟩ := defAt_of (x := "_law_verdict") (st := s__law_verdict) (ps := ["_law_value_here"]) X G c.d 51 51 rfl rfl (fun _ _ _ _ _ _ us hl => match us, hl with | [_], _ => rfl)
  obtain ⟨fd__law_verdict_beside, D__law_verdict_beside⟩ := defAt_of (x := "_law_verdict_beside") (st := s__law_verdict_beside) (ps := ["_law_parts"]) X G c.d 52 52 rfl rfl (fun _ _ _ _ _ _ us hl => match us, hl with | [_], _ => rfl)
  obtain ⟨fd__law_lets, D__law_lets⟩ := defAt_of (x := "_law_lets") (st := s__law_lets) (ps := ["_law_value_here"]) X G c.d 53 53 rfl rfl (fun _ _ _ _ _ _ us hl => match us, hl with | [_], _ => rfl)
  obtain ⟨fd_law, D_law⟩ := defAt_of (x := "law") (st := s_law) (ps := ["_law_script"]) X G c.d 54 54 rfl rfl (fun _ _ _ _ _ _ us hl => match us, hl with | [_], _ => rfl)
  have e := hfa.symm.trans D_law.m
  cases e
  refine ⟨fd_law, fun s v => D_law.bt (fun _ _ _ _ _ _ us hl => match us, hl with | [_], _ => rfl) s [v] rfl, fun base _ _ => ?_⟩
  have e_NotUsable : ErrC P w K mg base "NotUsable" "word" "at" := errC_of X G c.d 56 55 rfl rfl sci_NotUsable rfl (c.fb 0 rfl) (fun _ _ _ _ _ _ us hl => match us, hl with | [_, _, _], _ => rfl) (fun f cdv A outer s H E => pss_cons (ps_ost (pv 0) (pv 1)) (pss_one (ps_ost (pv 0) (pv 2))))
  have g_need : FnOk P w K mg base (L2.CX P w) 3 (ga K "need") fd_need ["holds", "word"] (spL K mg 2 p_need) := okDX D_need sc_need 2 rfl (fun cdv A outer s H E hr => t_need (e_NotUsable := e_NotUsable) (by decide) cdv A outer s H E hr)
  have c_need := D_need.cX g_need
  have e_InvalidPaper : ErrC P w K mg base "InvalidPaper" "word" "at" := errC_of X G c.d 55 56 rfl rfl sci_InvalidPaper rfl (c.fb 1 rfl) (fun _ _ _ _ _ _ us hl => match us, hl with | [_, _, _], _ => rfl) (fun f cdv A outer s H E => pss_cons (ps_ost (pv 0) (pv 1)) (pss_one (ps_ost (pv 0) (pv 2))))
  have g_demand : FnOk P w K mg base (L2.CX P w) 3 (ga K "demand") fd_demand ["holds", "word", "at"] (spL K mg 3 p_demand) := okDX D_demand sc_demand 3 rfl (fun cdv A outer s H E hr => t_demand (e_InvalidPaper := e_InvalidPaper) (by decide) cdv A outer s H E hr)
  have c_demand := D_demand.cX g_demand
  have z_isinstance : mg "isinstance" = none := free_ok X G (c.d.fact 57 (f := .free "isinstance") rfl)
  have z_bool : mg "bool" = none := free_ok X G (c.d.fact 58 (f := .free "bool") rfl)
  have z_int : mg "int" = none := free_ok X G (c.d.fact 59 (f := .free "int") rfl)
  have g_is_integer : FnOk P w K mg base CX0 1 (ga K "is_integer") fd_is_integer ["thing"] (spL0 K mg 1 p_is_integer) := okD0 D_is_integer sc_is_integer 1 rfl (fun cdv A outer s H E hr => t_is_integer (z_isinstance := z_isinstance) (z_bool := z_bool) (z_int := z_int) (by decide) cdv A outer s H E hr)
  have c_is_integer := D_is_integer.c0 g_is_integer runN_NoX
  have g_is_number : FnOk P w K mg base CX0 2 (ga K "is_number") fd_is_number ["thing"] (spL0 K mg 1 p_is_number) := okD0 D_is_number sc_is_number 1 rfl (fun cdv A outer s H E hr => t_is_number (c_is_integer := c_is_integer) (by decide) cdv A outer s H E hr)
  have c_is_number := D_is_number.c0 g_is_number runN_NoX
  have k_is_number_thing := D_is_number.k0 g_is_number runN_NoX (D_is_number.kb (ks := ["thing"]) (is := [0]) (by decide) (fun _ _ _ _ _ _ ws hl => match ws, hl with | [_], _ => rfl))
  have g_is_below : FnOk P w K mg base CX0 3 (ga K "is_below") fd_is_below ["bound", "thing"] (spL0 K mg 2 p_is_below) := okD0 D_is_below sc_is_below 2 rfl (fun cdv A outer s H E hr => t_is_below (c_is_number := c_is_number) (by decide) cdv A outer s H E hr)
  have c_is_below := D_is_below.c0 g_is_below runN_NoX
  have z_len : mg "len" = none := free_ok X G (c.d.fact 60 (f := .free "len") rfl)
  have z_tuple : mg "tuple" = none := free_ok X G (c.d.fact 61 (f := .free "tuple") rfl)
  have g_is_tuple_of : FnOk P w K mg base CX0 1 (ga K "is_tuple_of") fd_is_tuple_of ["many", "thing"] (spL0 K mg 2 p_is_tuple_of) := okD0 D_is_tuple_of sc_is_tuple_of 2 rfl (fun cdv A outer s H E hr => t_is_tuple_of (z_len := z_len) (z_isinstance := z_isinstance) (z_tuple := z_tuple) (by decide) cdv A outer s H E hr)
  have c_is_tuple_of := D_is_tuple_of.c0 g_is_tuple_of runN_NoX
  have z_gcd : mg "gcd" = some (.builtin "math.gcd") := fb_blt X G (c.fb 2 rfl)
  have g_is_quotient : FnOk P w K mg base CX0 2 (ga K "is_quotient") fd_is_quotient ["thing"] (spL0 K mg 1 p_is_quotient) := okD0 D_is_quotient sc_is_quotient 1 rfl (fun cdv A outer s H E hr => t_is_quotient (z_gcd := z_gcd) (c_is_integer := c_is_integer) (c_is_tuple_of := c_is_tuple_of) (by decide) cdv A outer s H E hr)
  have c_is_quotient := D_is_quotient.c0 g_is_quotient runN_NoX
  have g_is_lot : FnOk P w K mg base CX0 4 (ga K "is_lot") fd_is_lot ["size", "thing"] (spL0 K mg 2 p_is_lot) := okD0 D_is_lot sc_is_lot 2 rfl (fun cdv A outer s H E hr => t_is_lot (c_is_below := c_is_below) (z_isinstance := z_isinstance) (z_tuple := z_tuple) (by decide) cdv A outer s H E hr)
  have c_is_lot := D_is_lot.c0 g_is_lot runN_NoX
  have k_is_lot_thing_size := D_is_lot.k0 g_is_lot runN_NoX (D_is_lot.kb (ks := ["thing", "size"]) (is := [1, 0]) (by decide) (fun _ _ _ _ _ _ ws hl => match ws, hl with | [_, _], _ => rfl))
  have z_set : mg "set" = none := free_ok X G (c.d.fact 62 (f := .free "set") rfl)
  have z_all : mg "all" = none := free_ok X G (c.d.fact 63 (f := .free "all") rfl)
  have g_is_order : FnOk P w K mg base CX0 4 (ga K "is_order") fd_is_order ["size", "thing"] (spL0 K mg 2 p_is_order) := okD0 D_is_order sc_is_order 2 rfl (fun cdv A outer s H E hr => t_is_order (z_len := z_len) (z_set := z_set) (c_is_below := c_is_below) (z_all := z_all) (c_is_tuple_of := c_is_tuple_of) (by decide) cdv A outer s H E hr)
  have c_is_order := D_is_order.c0 g_is_order runN_NoX
  have z_sum : mg "sum" = none := free_ok X G (c.d.fact 64 (f := .free "sum") rfl)
  have g_lot_number : FnOk P w K mg base CX0 1 (ga K "lot_number") fd_lot_number ["lot"] (spL0 K mg 1 p_lot_number) := okD0 D_lot_number sc_lot_number 1 rfl (fun cdv A outer s H E hr => t_lot_number (z_sum := z_sum) (by decide) cdv A outer s H E hr)
  have c_lot_number := D_lot_number.c0 g_lot_number runN_NoX
  have k_lot_number_lot := D_lot_number.k0 g_lot_number runN_NoX (D_lot_number.kb (ks := ["lot"]) (is := [0]) (by decide) (fun _ _ _ _ _ _ ws hl => match ws, hl with | [_], _ => rfl))
  have z_range : mg "range" = none := free_ok X G (c.d.fact 65 (f := .free "range") rfl)
  have g_lot_by : FnOk P w K mg base (L2.CX P w) 4 (ga K "lot_by") fd_lot_by ["number"] (spL K mg 1 p_lot_by) := okDX D_lot_by sc_lot_by 1 rfl (fun cdv A outer s H E hr => t_lot_by (z_range := z_range) (z_tuple := z_tuple) (c_need := c_need) (c_is_number := c_is_number) (by decide) cdv A outer s H E hr)
  have c_lot_by := D_lot_by.cX g_lot_by
  have k_lot_by_number := D_lot_by.kX g_lot_by (D_lot_by.kb (ks := ["number"]) (is := [0]) (by decide) (fun _ _ _ _ _ _ ws hl => match ws, hl with | [_], _ => rfl))
  have g_lots_within : FnOk P w K mg base CX0 1 (ga K "lots_within") fd_lots_within ["lot"] (spL0 K mg 1 p_lots_within) := okD0 D_lots_within sc_lots_within 1 rfl (fun cdv A outer s H E hr => t_lots_within (z_tuple := z_tuple) (by decide) cdv A outer s H E hr)
  have c_lots_within := D_lots_within.c0 g_lots_within runN_NoX
  have k_lots_within_lot := D_lots_within.k0 g_lots_within runN_NoX (D_lots_within.kb (ks := ["lot"]) (is := [0]) (by decide) (fun _ _ _ _ _ _ ws hl => match ws, hl with | [_], _ => rfl))
  have g_are_rows : FnOk P w K mg base CX0 2 (ga K "are_rows") fd_are_rows ["word", "size", "thing"] (spL0 K mg 3 p_are_rows) := okD0 D_are_rows sc_are_rows 3 rfl (fun cdv A outer s H E hr => t_are_rows (z_isinstance := z_isinstance) (z_tuple := z_tuple) (c_is_tuple_of := c_is_tuple_of) (by decide) cdv A outer s H E hr)
  have c_are_rows := D_are_rows.c0 g_are_rows runN_NoX
  have g_is_limit : FnOk P w K mg base CX0 5 (ga K "is_limit") fd_is_limit ["size", "row"] (spL0 K mg 2 p_is_limit) := okD0 D_is_limit sc_is_limit 2 rfl (fun cdv A outer s H E hr => t_is_limit (c_is_number := c_is_number) (z_len := z_len) (c_is_lot := c_is_lot) (c_is_tuple_of := c_is_tuple_of) (by decide) cdv A outer s H E hr)
  have c_is_limit := D_is_limit.c0 g_is_limit runN_NoX
  have g_is_line : FnOk P w K mg base CX0 4 (ga K "is_line") fd_is_line ["prime", "rows", "at"] (spL0 K mg 3 p_is_line) := okD0 D_is_line sc_is_line 3 rfl (fun cdv A outer s H E hr => t_is_line (c_is_below := c_is_below) (z_all := z_all) (z_len := z_len) (z_isinstance := z_isinstance) (z_tuple := z_tuple) (by decide) cdv A outer s H E hr)
  have c_is_line := D_is_line.c0 g_is_line runN_NoX
  have g_is_link : FnOk P w K mg base CX0 4 (ga K "is_link") fd_is_link ["points", "row"] (spL0 K mg 2 p_is_link) := okD0 D_is_link sc_is_link 2 rfl (fun cdv A outer s H E hr => t_is_link (c_is_below := c_is_below) (c_is_tuple_of := c_is_tuple_of) (by decide) cdv A outer s H E hr)
  have c_is_link := D_is_link.c0 g_is_link runN_NoX
  have g_adds_late : FnOk P w K mg base CX0 1 (ga K "adds_late") fd_adds_late ["ranks", "number", "one", "other"] (spL0 K mg 4 p_adds_late) := okD0 D_adds_late sc_adds_late 4 rfl (fun cdv A outer s H E hr => t_adds_late (by decide) cdv A outer s H E hr)
  have c_adds_late := D_adds_late.c0 g_adds_late runN_NoX
  have g_is_rank : FnOk P w K mg base (L2.CX P w) 5 (ga K "is_rank") fd_is_rank ["ranks", "number"] (spL K mg 2 p_is_rank) := okDX D_is_rank sc_is_rank 2 rfl (fun cdv A outer s H E hr => t_is_rank (c_adds_late := c_adds_late) (c_lot_by := c_lot_by) (c_is_number := c_is_number) (by decide) cdv A outer s H E hr)
  have c_is_rank := D_is_rank.cX g_is_rank
  have g_is_row : FnOk P w K mg base (L2.CX P w) 6 (ga K "is_row") fd_is_row ["word", "size", "rows", "at"] (spL K mg 4 p_is_row) := okDX D_is_row sc_is_row 4 rfl (fun cdv A outer s H E hr => t_is_row (c_is_rank := c_is_rank) (c_is_line := c_is_line) (c_is_link := c_is_link) (c_is_lot := c_is_lot) (c_is_limit := c_is_limit) (by decide) cdv A outer s H E hr)
  have c_is_row := D_is_row.cX g_is_row
  have g_is_uncrossed : FnOk P w K mg base CX0 1 (ga K "is_uncrossed") fd_is_uncrossed ["rows", "at"] (spL0 K mg 2 p_is_uncrossed) := okD0 D_is_uncrossed sc_is_uncrossed 2 rfl (fun cdv A outer s H E hr => t_is_uncrossed (z_len := z_len) (z_set := z_set) (by decide) cdv A outer s H E hr)
  have c_is_uncrossed := D_is_uncrossed.c0 g_is_uncrossed runN_NoX
  have g_check_rows : FnOk P w K mg base (L2.CX P w) 7 (ga K "check_rows") fd_check_rows ["word", "size", "rows"] (spL K mg 3 p_check_rows) := okDX D_check_rows sc_check_rows 3 rfl (fun cdv A outer s H E hr => t_check_rows (z_len := z_len) (z_range := z_range) (c_demand := c_demand) (c_is_uncrossed := c_is_uncrossed) (c_is_row := c_is_row) (by decide) cdv A outer s H E hr)
  have c_check_rows := D_check_rows.cX g_check_rows
  have gl_WORDS : GlobC K mg "WORDS" d_WORDS := fb_tup (glo_ok X G (c.d.fact 66 (f := .glo "WORDS") rfl)) (c.fb 3 (f := .tup "WORDS" [.str "limits", .str "slots", .str "web", .str "rows", .str "table", .str "beside"]) rfl) (fun _ _ => (.cons (.str _) (.cons (.str _) (.cons (.str _) (.cons (.str _) (.cons (.str _) (.cons (.str _) .nil)))))))
  have g_has_shape : FnOk P w K mg base CX0 1 (ga K "has_shape") fd_has_shape ["thing"] (spL0 K mg 1 p_has_shape) := okD0 D_has_shape sc_has_shape 1 rfl (fun cdv A outer s H E hr => t_has_shape (z_len := z_len) (gl_WORDS := gl_WORDS) (z_isinstance := z_isinstance) (z_tuple := z_tuple) (by decide) cdv A outer s H E hr)
  have c_has_shape := D_has_shape.c0 g_has_shape runN_NoX
  have gl_GREATEST_TABLE : GlobC K mg "GREATEST_TABLE" d_GREATEST_TABLE := fb_int (int_ok X G (c.d.fact 67 (f := .int "GREATEST_TABLE" 12) rfl))
  have gl_PRIMES : GlobC K mg "PRIMES" d_PRIMES := fb_tup (glo_ok X G (c.d.fact 68 (f := .glo "PRIMES") rfl)) (c.fb 4 (f := .tup "PRIMES" [.int 2, .int 3, .int 5, .int 7]) rfl) (fun _ _ => (.cons (.int _) (.cons (.int _) (.cons (.int _) (.cons (.int _) .nil)))))
  have g_is_second : FnOk P w K mg base CX0 3 (ga K "is_second") fd_is_second ["word", "thing"] (spL0 K mg 2 p_is_second) := okD0 D_is_second sc_is_second 2 rfl (fun cdv A outer s H E hr => t_is_second (gl_GREATEST_TABLE := gl_GREATEST_TABLE) (gl_PRIMES := gl_PRIMES) (c_is_number := c_is_number) (by decide) cdv A outer s H E hr)
  have c_is_second := D_is_second.c0 g_is_second runN_NoX
  have R_wish_count : ∀ n : Nat, FnOk P w K mg base CX0 (1 + n) (ga K "wish_count") fd_wish_count ["house"] (spL0 K mg 1 (p_wish_count n)) := by
    intro n
    induction n with
    | zero => rw [p_wish_count]; exact ok00
    | succ n ih =>
      have h_wish_count := ih
      have c_wish_count := D_wish_count.c0 h_wish_count (nx_wish_count n)
      exact (by rw [pe_wish_count]; exact okD0 (k := 1 + n) D_wish_count sc_wish_count 1 rfl (fun cdv A outer s H E hr => t_wish_count (f_wish_count := p_wish_count n) (z_len := z_len) (c_wish_count := c_wish_count) (z_sum := z_sum) (by omega) (Nat.le_refl _) cdv A outer s H E hr))
  have c_wish_count := D_wish_count.c0 (R_wish_count 16) (nx_wish_count 16)
  have x_InvalidPaper : ExcN K mg "InvalidPaper" := fb_exn (glo_ok X G (c.d.fact 56 (f := .glo "InvalidPaper") rfl)) (c.fb 5 rfl)
  have z_enumerate : mg "enumerate" = none := free_ok X G (c.d.fact 69 (f := .free "enumerate") rfl)
  have R_is_house : ∀ n : Nat, FnOk P w K mg base CX0 (18 + n) (ga K "is_house") fd_is_house ["thing"] (spL0 K mg 1 (p_is_house n)) ∧ FnOk P w K mg base (L2.CX P w) (18 + n) (ga K "lets_house") fd_lets_house ["thing"] (spL K mg 1 (p_lets_house n)) ∧ FnOk P w K mg base (L2.CX P w) (18 + n) (ga K "check_beside") fd_check_beside ["houses"] (spL K mg 1 (p_check_beside n)) := by
    intro n
    induction n with
    | zero => rw [p_is_house, p_lets_house, p_check_beside]; exact ⟨ok00, okX0, okX0⟩
    | succ n ih =>
      obtain ⟨h_is_house, h_lets_house, h_check_beside⟩ := ih
      have c_check_beside := D_check_beside.cX h_check_beside
      have c_is_house := D_is_house.c0 h_is_house (nx_is_house n)
      have c_lets_house := D_lets_house.cX h_lets_house
      exact ⟨(by rw [pe_is_house]; exact okD0 (k := 18 + n) D_is_house sc_is_house 1 rfl (fun cdv A outer s H E hr => t_is_house (f_lets_house := p_lets_house n) (c_lets_house := c_lets_house) (x_InvalidPaper := x_InvalidPaper) (by omega) (Nat.le_refl _) cdv A outer s H E hr)), (by rw [pe_lets_house]; exact okDX (k := 18 + n) D_lets_house sc_lets_house 1 rfl (fun cdv A outer s H E hr => t_lets_house (f_check_beside := p_check_beside n) (c_wish_count := c_wish_count) (c_check_beside := c_check_beside) (c_check_rows := c_check_rows) (c_demand := c_demand) (c_are_rows := c_are_rows) (c_is_second := c_is_second) (c_has_shape := c_has_shape) (by omega) (Nat.le_refl _) cdv A outer s H E hr)), (by rw [pe_check_beside]; exact okDX (k := 18 + n) D_check_beside sc_check_beside 1 rfl (fun cdv A outer s H E hr => t_check_beside (f_is_house := p_is_house n) (z_enumerate := z_enumerate) (c_demand := c_demand) (c_is_house := c_is_house) (c_has_shape := c_has_shape) (z_len := z_len) (z_isinstance := z_isinstance) (z_tuple := z_tuple) (by omega) (Nat.le_refl _) cdv A outer s H E hr))⟩
  have c_is_house := D_is_house.c0 (R_is_house 16).1 (nx_is_house 16)
  have k_is_house_thing := D_is_house.k0 (R_is_house 16).1 (nx_is_house 16) (D_is_house.kb (ks := ["thing"]) (is := [0]) (by decide) (fun _ _ _ _ _ _ ws hl => match ws, hl with | [_], _ => rfl))
  have c_lets_house := D_lets_house.cX (R_is_house 16).2.1
  have k_lets_house_thing := D_lets_house.kX (R_is_house 16).2.1 (D_lets_house.kb (ks := ["thing"]) (is := [0]) (by decide) (fun _ _ _ _ _ _ ws hl => match ws, hl with | [_], _ => rfl))
  have c_check_beside := D_check_beside.cX (R_is_house 16).2.2
  have z_abs : mg "abs" = none := free_ok X G (c.d.fact 70 (f := .free "abs") rfl)
  have g__law_pick : FnOk P w K mg base CX0 1 (ga K "_law_pick") fd__law_pick ["_law_box", "_law_upto"] (spL0 K mg 2 p__law_pick) := okD0 D__law_pick sc__law_pick 2 rfl (fun cdv A outer s H E hr => t__law_pick (z_int := z_int) (z_abs := z_abs) (z_len := z_len) (by decide) cdv A outer s H E hr)
  have c__law_pick := D__law_pick.c0 g__law_pick runN_NoX
  have g__law_whole : FnOk P w K mg base CX0 1 (ga K "_law_whole") fd__law_whole ["_law_value_here"] (spL0 K mg 1 p__law_whole) := okD0 D__law_whole sc__law_whole 1 rfl (fun cdv A outer s H E hr => t__law_whole (z_isinstance := z_isinstance) (z_bool := z_bool) (z_int := z_int) (by decide) cdv A outer s H E hr)
  have c__law_whole := D__law_whole.c0 g__law_whole runN_NoX
  have g__law_count : FnOk P w K mg base CX0 2 (ga K "_law_count") fd__law_count ["_law_value_here"] (spL0 K mg 1 p__law_count) := okD0 D__law_count sc__law_count 1 rfl (fun cdv A outer s H E hr => t__law_count (c__law_whole := c__law_whole) (by decide) cdv A outer s H E hr)
  have c__law_count := D__law_count.c0 g__law_count runN_NoX
  have z_str : mg "str" = none := free_ok X G (c.d.fact 71 (f := .free "str") rfl)
  have R__law_same : ∀ n : Nat, FnOk P w K mg base CX0 (2 + n) (ga K "_law_same") fd__law_same ["_law_found", "_law_due"] (spL0 K mg 2 (p__law_same n)) := by
    intro n
    induction n with
    | zero => rw [p__law_same]; exact ok00
    | succ n ih =>
      have h__law_same := ih
      have c__law_same := D__law_same.c0 h__law_same (nx__law_same n)
      exact (by rw [pe__law_same]; exact okD0 (k := 2 + n) D__law_same sc__law_same 2 rfl (fun cdv A outer s H E hr => t__law_same (f__law_same := p__law_same n) (z_len := z_len) (z_range := z_range) (c__law_same := c__law_same) (z_isinstance := z_isinstance) (z_tuple := z_tuple) (z_str := z_str) (z_int := z_int) (c__law_whole := c__law_whole) (z_bool := z_bool) (by omega) (Nat.le_refl _) cdv A outer s H E hr))
  have c__law_same := D__law_same.c0 (R__law_same 16) (nx__law_same 16)
  have g__law_fraction : FnOk P w K mg base CX0 2 (ga K "_law_fraction") fd__law_fraction ["_law_value_here"] (spL0 K mg 1 p__law_fraction) := okD0 D__law_fraction sc__law_fraction 1 rfl (fun cdv A outer s H E hr => t__law_fraction (z_range := z_range) (z_int := z_int) (z_abs := z_abs) (c__law_whole := c__law_whole) (z_len := z_len) (z_isinstance := z_isinstance) (z_tuple := z_tuple) (by decide) cdv A outer s H E hr)
  have c__law_fraction := D__law_fraction.c0 g__law_fraction runN_NoX
  have g__law_bundle : FnOk P w K mg base CX0 2 (ga K "_law_bundle") fd__law_bundle ["_law_upto", "_law_value_here"] (spL0 K mg 2 p__law_bundle) := okD0 D__law_bundle sc__law_bundle 2 rfl (fun cdv A outer s H E hr => t__law_bundle (c__law_whole := c__law_whole) (z_isinstance := z_isinstance) (z_tuple := z_tuple) (by decide) cdv A outer s H E hr)
  have c__law_bundle := D__law_bundle.c0 g__law_bundle runN_NoX
  have g__law_each_once : FnOk P w K mg base CX0 2 (ga K "_law_each_once") fd__law_each_once ["_law_upto", "_law_value_here"] (spL0 K mg 2 p__law_each_once) := okD0 D__law_each_once sc__law_each_once 2 rfl (fun cdv A outer s H E hr => t__law_each_once (z_range := z_range) (z_len := z_len) (c__law_whole := c__law_whole) (z_isinstance := z_isinstance) (z_tuple := z_tuple) (by decide) cdv A outer s H E hr)
  have c__law_each_once := D__law_each_once.c0 g__law_each_once runN_NoX
  have g__law_leaf : FnOk P w K mg base CX0 2 (ga K "_law_leaf") fd__law_leaf ["_law_box"] (spL0 K mg 1 p__law_leaf) := okD0 D__law_leaf sc__law_leaf 1 rfl (fun cdv A outer s H E hr => t__law_leaf (c__law_pick := c__law_pick) (by decide) cdv A outer s H E hr)
  have c__law_leaf := D__law_leaf.c0 g__law_leaf runN_NoX
  have g__law_part : FnOk P w K mg base CX0 2 (ga K "_law_part") fd__law_part ["_law_box", "_law_upto"] (spL0 K mg 2 p__law_part) := okD0 D__law_part sc__law_part 2 rfl (fun cdv A outer s H E hr => t__law_part (z_range := z_range) (z_tuple := z_tuple) (c__law_pick := c__law_pick) (by decide) cdv A outer s H E hr)
  have c__law_part := D__law_part.c0 g__law_part runN_NoX
  have z_list : mg "list" = none := free_ok X G (c.d.fact 72 (f := .free "list") rfl)
  have g__law_shuffled : FnOk P w K mg base CX0 2 (ga K "_law_shuffled") fd__law_shuffled ["_law_box", "_law_upto"] (spL0 K mg 2 p__law_shuffled) := okD0 D__law_shuffled sc__law_shuffled 2 rfl (fun cdv A outer s H E hr => t__law_shuffled (z_tuple := z_tuple) (z_range := z_range) (c__law_pick := c__law_pick) (z_len := z_len) (z_list := z_list) (by decide) cdv A outer s H E hr)
  have c__law_shuffled := D__law_shuffled.c0 g__law_shuffled runN_NoX
  have g__law_bent : FnOk P w K mg base CX0 2 (ga K "_law_bent") fd__law_bent ["_law_box", "_law_row", "_law_upto"] (spL0 K mg 3 p__law_bent) := okD0 D__law_bent sc__law_bent 3 rfl (fun cdv A outer s H E hr => t__law_bent (z_list := z_list) (z_bool := z_bool) (z_tuple := z_tuple) (c__law_pick := c__law_pick) (by decide) cdv A outer s H E hr)
  have c__law_bent := D__law_bent.c0 g__law_bent runN_NoX
  have g__law_value : FnOk P w K mg base CX0 3 (ga K "_law_value") fd__law_value ["_law_box", "_law_upto"] (spL0 K mg 2 p__law_value) := okD0 D__law_value sc__law_value 2 rfl (fun cdv A outer s H E hr => t__law_value (c__law_bent := c__law_bent) (c__law_shuffled := c__law_shuffled) (c__law_part := c__law_part) (z_tuple := z_tuple) (c__law_pick := c__law_pick) (z_range := z_range) (c__law_leaf := c__law_leaf) (by decide) cdv A outer s H E hr)
  have c__law_value := D__law_value.c0 g__law_value runN_NoX
  have z_repr : mg "repr" = none := free_ok X G (c.d.fact 73 (f := .free "repr") rfl)
  have g__law_kinds_hold : FnG P w K mg base CX0 19 (ga K "_law_kinds_hold") fd__law_kinds_hold ["_law_box"] (spL0 K mg 1 p__law_kinds_hold) := okDG D__law_kinds_hold sc__law_kinds_hold 1 rfl (fun cdv A outer s H E gd hr => t__law_kinds_hold (z_range := z_range) (c__law_same := c__law_same) (c_is_lot := c_is_lot) (k_is_lot_thing_size := k_is_lot_thing_size) (c__law_bundle := c__law_bundle) (z_repr := z_repr) (c__law_each_once := c__law_each_once) (c__law_fraction := c__law_fraction) (c__law_count := c__law_count) (c__law_whole := c__law_whole) (c_is_order := c_is_order) (c_is_quotient := c_is_quotient) (k_is_number_thing := k_is_number_thing) (c_is_integer := c_is_integer) (c__law_value := c__law_value) (c__law_pick := c__law_pick) (by decide) cdv A outer s H E gd hr)
  have c__law_kinds_hold := D__law_kinds_hold.cG g__law_kinds_hold runN_NoX
  have xa_NotUsable : ExcAs K mg "NotUsable" "word" "at" (ga K "NotUsable") := exaB_ok (glo_ok X G (c.d.fact 55 (f := .glo "NotUsable") rfl)) (c.fb 6 (f := .exa "NotUsable" "word" "at") rfl)
  have ie_NotUsable_PaperError : IsEx K mg (ga K "NotUsable") "PaperError" false := fb_isg (glo_ok X G (c.d.fact 74 (f := .glo "PaperError") rfl)) (c.fb 7 (f := .isg "NotUsable" "PaperError" false) rfl)
  have ie_NotUsable_HouseError : IsEx K mg (ga K "NotUsable") "HouseError" true := fb_isg (glo_ok X G (c.d.fact 75 (f := .glo "HouseError") rfl)) (c.fb 8 (f := .isg "NotUsable" "HouseError" true) rfl)
  have g__law_by : FnOk P w K mg base CX0 5 (ga K "_law_by") fd__law_by ["_law_value_here"] (spL0 K mg 1 p__law_by) := okD0 D__law_by sc__law_by 1 rfl (fun cdv A outer s H E hr => t__law_by (C_NotUsable := ga K "NotUsable") (k_lot_by_number := k_lot_by_number) (xa_NotUsable := xa_NotUsable) (ie_NotUsable_PaperError := ie_NotUsable_PaperError) (z_isinstance := z_isinstance) (ie_NotUsable_HouseError := ie_NotUsable_HouseError) (by decide) cdv A outer s H E hr)
  have c__law_by := D__law_by.c0 g__law_by runN_NoX
  have g__law_lots_hold : FnOk P w K mg base CX0 19 (ga K "_law_lots_hold") fd__law_lots_hold ["_law_box"] (spL0 K mg 1 p__law_lots_hold) := okD0 D__law_lots_hold sc__law_lots_hold 1 rfl (fun cdv A outer s H E hr => t__law_lots_hold (c__law_same := c__law_same) (c__law_by := c__law_by) (c__law_pick := c__law_pick) (k_lot_number_lot := k_lot_number_lot) (z_range := z_range) (z_tuple := z_tuple) (k_lots_within_lot := k_lots_within_lot) (z_len := z_len) (c_lot_number := c_lot_number) (c__law_part := c__law_part) (by decide) cdv A outer s H E hr)
  have c__law_lots_hold := D__law_lots_hold.c0 g__law_lots_hold runN_NoX
  have g__law_apart : FnOk P w K mg base CX0 1 (ga K "_law_apart") fd__law_apart ["_law_here", "_law_there"] (spL0 K mg 2 p__law_apart) := okD0 D__law_apart sc__law_apart 2 rfl (fun cdv A outer s H E hr => t__law_apart (z_len := z_len) (by decide) cdv A outer s H E hr)
  have c__law_apart := D__law_apart.c0 g__law_apart runN_NoX
  have g__law_limits : FnOk P w K mg base CX0 3 (ga K "_law_limits") fd__law_limits ["_law_box", "_law_upto"] (spL0 K mg 2 p__law_limits) := okD0 D__law_limits sc__law_limits 2 rfl (fun cdv A outer s H E hr => t__law_limits (z_tuple := z_tuple) (c__law_pick := c__law_pick) (z_range := z_range) (z_len := z_len) (c__law_apart := c__law_apart) (c__law_part := c__law_part) (by decide) cdv A outer s H E hr)
  have c__law_limits := D__law_limits.c0 g__law_limits runN_NoX
  have z_min : mg "min" = none := free_ok X G (c.d.fact 76 (f := .free "min") rfl)
  have g__law_table : FnOk P w K mg base CX0 2 (ga K "_law_table") fd__law_table ["_law_box", "_law_upto"] (spL0 K mg 2 p__law_table) := okD0 D__law_table sc__law_table 2 rfl (fun cdv A outer s H E hr => t__law_table (z_tuple := z_tuple) (c__law_pick := c__law_pick) (z_len := z_len) (z_range := z_range) (z_min := z_min) (by decide) cdv A outer s H E hr)
  have c__law_table := D__law_table.c0 g__law_table runN_NoX
  have g__law_line : FnOk P w K mg base CX0 2 (ga K "_law_line") fd__law_line ["_law_box", "_law_prime", "_law_wide"] (spL0 K mg 3 p__law_line) := okD0 D__law_line sc__law_line 3 rfl (fun cdv A outer s H E hr => t__law_line (z_range := z_range) (c__law_pick := c__law_pick) (z_tuple := z_tuple) (by decide) cdv A outer s H E hr)
  have c__law_line := D__law_line.c0 g__law_line runN_NoX
  have z_max : mg "max" = none := free_ok X G (c.d.fact 77 (f := .free "max") rfl)
  have g__law_home : FnOk P w K mg base CX0 4 (ga K "_law_home") fd__law_home ["_law_box", "_law_menu"] (spL0 K mg 2 p__law_home) := okD0 D__law_home sc__law_home 2 rfl (fun cdv A outer s H E hr => t__law_home (z_range := z_range) (c__law_line := c__law_line) (z_tuple := z_tuple) (c__law_pick := c__law_pick) (c__law_part := c__law_part) (c__law_table := c__law_table) (c__law_limits := c__law_limits) (z_max := z_max) (by decide) cdv A outer s H E hr)
  have c__law_home := D__law_home.c0 g__law_home runN_NoX
  have g__law_odd : FnOk P w K mg base CX0 2 (ga K "_law_odd") fd__law_odd ["_law_box", "_law_value_here"] (spL0 K mg 2 p__law_odd) := okD0 D__law_odd sc__law_odd 2 rfl (fun cdv A outer s H E hr => t__law_odd (z_isinstance := z_isinstance) (z_tuple := z_tuple) (z_list := z_list) (c__law_whole := c__law_whole) (z_str := z_str) (z_bool := z_bool) (c__law_pick := c__law_pick) (by decide) cdv A outer s H E hr)
  have c__law_odd := D__law_odd.c0 g__law_odd runN_NoX
  have R__law_spoilt : ∀ n : Nat, FnOk P w K mg base CX0 (3 + n) (ga K "_law_spoilt") fd__law_spoilt ["_law_box", "_law_value_here", "_law_depth"] (spL0 K mg 3 (p__law_spoilt n)) := by
    intro n
    induction n with
    | zero => rw [p__law_spoilt]; exact ok00
    | succ n ih =>
      have h__law_spoilt := ih
      have c__law_spoilt := D__law_spoilt.c0 h__law_spoilt (nx__law_spoilt n)
      exact (by rw [pe__law_spoilt]; exact okD0 (k := 3 + n) D__law_spoilt sc__law_spoilt 3 rfl (fun cdv A outer s H E hr => t__law_spoilt (f__law_spoilt := p__law_spoilt n) (c__law_odd := c__law_odd) (c__law_pick := c__law_pick) (z_max := z_max) (z_len := z_len) (z_isinstance := z_isinstance) (z_tuple := z_tuple) (c__law_spoilt := c__law_spoilt) (by omega) (Nat.le_refl _) cdv A outer s H E hr))
  have c__law_spoilt := D__law_spoilt.c0 (R__law_spoilt 16) (nx__law_spoilt 16)
  have g__law_rank_fault : FnOk P w K mg base CX0 3 (ga K "_law_rank_fault") fd__law_rank_fault ["_law_ranks", "_law_k"] (spL0 K mg 2 p__law_rank_fault) := okD0 D__law_rank_fault sc__law_rank_fault 2 rfl (fun cdv A outer s H E hr => t__law_rank_fault (z_range := z_range) (c__law_count := c__law_count) (by decide) cdv A outer s H E hr)
  have c__law_rank_fault := D__law_rank_fault.c0 g__law_rank_fault runN_NoX
  have g__law_row_fault : FnOk P w K mg base CX0 4 (ga K "_law_row_fault") fd__law_row_fault ["_law_word", "_law_second", "_law_rows", "_law_k"] (spL0 K mg 4 p__law_row_fault) := okD0 D__law_row_fault sc__law_row_fault 4 rfl (fun cdv A outer s H E hr => t__law_row_fault (c__law_count := c__law_count) (z_len := z_len) (z_range := z_range) (c__law_apart := c__law_apart) (c__law_bundle := c__law_bundle) (z_isinstance := z_isinstance) (z_tuple := z_tuple) (z_int := z_int) (c__law_rank_fault := c__law_rank_fault) (by decide) cdv A outer s H E hr)
  have c__law_row_fault := D__law_row_fault.c0 g__law_row_fault runN_NoX
  have R__law_verdict : ∀ n : Nat, FnOk P w K mg base CX0 (5 + n) (ga K "_law_verdict") fd__law_verdict ["_law_value_here"] (spL0 K mg 1 (p__law_verdict n)) ∧ FnOk P w K mg base CX0 (5 + n) (ga K "_law_verdict_beside") fd__law_verdict_beside ["_law_parts"] (spL0 K mg 1 (p__law_verdict_beside n)) := by
    intro n
    induction n with
    | zero => rw [p__law_verdict, p__law_verdict_beside]; exact ⟨ok00, ok00⟩
    | succ n ih =>
      obtain ⟨h__law_verdict, h__law_verdict_beside⟩ := ih
      have c__law_verdict := D__law_verdict.c0 h__law_verdict (nx__law_verdict n)
      have c__law_verdict_beside := D__law_verdict_beside.c0 h__law_verdict_beside (nx__law_verdict_beside n)
      exact ⟨(by rw [pe__law_verdict]; exact okD0 (k := 5 + n) D__law_verdict sc__law_verdict 1 rfl (fun cdv A outer s H E hr => t__law_verdict (f__law_verdict_beside := p__law_verdict_beside n) (z_len := z_len) (z_range := z_range) (c__law_row_fault := c__law_row_fault) (z_isinstance := z_isinstance) (z_tuple := z_tuple) (c__law_count := c__law_count) (c__law_verdict_beside := c__law_verdict_beside) (z_int := z_int) (z_str := z_str) (by omega) (Nat.le_refl _) cdv A outer s H E hr)), (by rw [pe__law_verdict_beside]; exact okD0 (k := 5 + n) D__law_verdict_beside sc__law_verdict_beside 1 rfl (fun cdv A outer s H E hr => t__law_verdict_beside (f__law_verdict := p__law_verdict n) (z_len := z_len) (z_range := z_range) (c__law_verdict := c__law_verdict) (z_isinstance := z_isinstance) (z_tuple := z_tuple) (by omega) (Nat.le_refl _) cdv A outer s H E hr))⟩
  have c__law_verdict := D__law_verdict.c0 (R__law_verdict 16).1 (nx__law_verdict 16)
  have c__law_verdict_beside := D__law_verdict_beside.c0 (R__law_verdict 16).2 (nx__law_verdict_beside 16)
  have xa_InvalidPaper : ExcAs K mg "InvalidPaper" "word" "at" (ga K "InvalidPaper") := exaB_ok (glo_ok X G (c.d.fact 56 (f := .glo "InvalidPaper") rfl)) (c.fb 9 (f := .exa "InvalidPaper" "word" "at") rfl)
  have ie_InvalidPaper_HouseError : IsEx K mg (ga K "InvalidPaper") "HouseError" false := fb_isg (glo_ok X G (c.d.fact 75 (f := .glo "HouseError") rfl)) (c.fb 10 (f := .isg "InvalidPaper" "HouseError" false) rfl)
  have ie_InvalidPaper_ValueError : IsEx K mg (ga K "InvalidPaper") "ValueError" true := fb_ist X G (c.fb 11 (f := .ist "InvalidPaper" "ValueError" "ValueError" true) rfl) (by decide +kernel) (by decide)
  have ie_InvalidPaper_OutError : IsEx K mg (ga K "InvalidPaper") "OutError" true := fb_isg (glo_ok X G (c.d.fact 78 (f := .glo "OutError") rfl)) (c.fb 12 (f := .isg "InvalidPaper" "OutError" true) rfl)
  have ie_InvalidPaper_PaperError : IsEx K mg (ga K "InvalidPaper") "PaperError" true := fb_isg (glo_ok X G (c.d.fact 74 (f := .glo "PaperError") rfl)) (c.fb 13 (f := .isg "InvalidPaper" "PaperError" true) rfl)
  have g__law_lets : FnOk P w K mg base CX0 35 (ga K "_law_lets") fd__law_lets ["_law_value_here"] (spL0 K mg 1 p__law_lets) := okD0 D__law_lets sc__law_lets 1 rfl (fun cdv A outer s H E hr => t__law_lets (C_InvalidPaper := ga K "InvalidPaper") (k_lets_house_thing := k_lets_house_thing) (xa_InvalidPaper := xa_InvalidPaper) (ie_InvalidPaper_HouseError := ie_InvalidPaper_HouseError) (z_isinstance := z_isinstance) (ie_InvalidPaper_ValueError := ie_InvalidPaper_ValueError) (ie_InvalidPaper_OutError := ie_InvalidPaper_OutError) (ie_InvalidPaper_PaperError := ie_InvalidPaper_PaperError) (by decide) cdv A outer s H E hr)
  have c__law_lets := D__law_lets.c0 g__law_lets runN_NoX
  have g_law : FnG P w K mg base CX0 36 (ga K "law") fd_law ["_law_script"] (spL0 K mg 1 p_law) := okDG D_law sc_law 1 rfl (fun cdv A outer s H E gd hr => t_law (z_repr := z_repr) (c__law_same := c__law_same) (k_is_house_thing := k_is_house_thing) (c__law_lets := c__law_lets) (c_is_house := c_is_house) (c__law_verdict := c__law_verdict) (c__law_lots_hold := c__law_lots_hold) (c__law_kinds_hold := c__law_kinds_hold) (c__law_pick := c__law_pick) (z_range := z_range) (c__law_spoilt := c__law_spoilt) (z_int := z_int) (z_tuple := z_tuple) (z_len := z_len) (c__law_home := c__law_home) (z_list := z_list) (by decide) cdv A outer s H E gd hr)
  have c_law := D_law.cG g_law runN_NoX
  exact g_law
end G
set_option Elab.async false
set_option linter.all false
set_option maxRecDepth 100000
set_option maxHeartbeats 2000000
namespace G
open PySem LF
def isIntD : PyData → Bool
  | .int _ => true
  | _ => false
theorem q_is_integer (d : PyData) (st : Sto) : p_is_integer [.d d] st = .ok (.d (.bool (isIntD d))) st := by
  cases d <;> simp [p_is_integer, b_is_integer, isIntD]
def isNumD : PyData → Bool
  | .int i => decide (0 ≤ i)
  | _ => false
theorem q_is_number (d : PyData) (st : Sto) : p_is_number [.d d] st = .ok (.d (.bool (isNumD d))) st := by
  cases d <;> simp [p_is_number, b_is_number, q_is_integer, isIntD, isNumD]
def isBelowD (n : Int) : PyData → Bool
  | .int i => decide (0 ≤ i) && decide (i < n)
  | _ => false
theorem q_is_below (n : Int) (d : PyData) (st : Sto) : p_is_below [.d (.int n), .d d] st = .ok (.d (.bool (isBelowD n d))) st := by
  cases d with
  | int i => by_cases h : 0 ≤ i <;> simp [p_is_below, b_is_below, q_is_number, isNumD, isBelowD, h]
  | _ => simp [p_is_below, b_is_below, q_is_number, isNumD, isBelowD]
theorem q_is_tuple_of (n : Int) (d : PyData) (st : Sto) : p_is_tuple_of [.d (.int n), .d d] st = .ok (.d (.bool (match d with | .tuple ds => decide ((ds.length : Int) = n) | _ => false))) st := by
  cases d with
  | tuple ds => simp [p_is_tuple_of, b_is_tuple_of, SeqAt.shaped, PyData.canLay0, PyData.depth, PyData.eqv, Bool.beq_eq_decide_eq]
  | _ => simp [p_is_tuple_of, b_is_tuple_of]
def lotFrom (n : Int) : Int → List PyData → Bool
  | _, [] => true
  | l, d :: r => match d with
    | .int i => decide (0 ≤ i) && decide (i < n) && decide (l < i) && lotFrom n i r
    | _ => false
def isLotD (n : Int) : PyData → Bool
  | .tuple ds => lotFrom n (-1) ds
  | _ => false
theorem q_is_lot (n : Int) (d : PyData) (st : Sto) : p_is_lot [.d (.int n), .d d] st = .ok (.d (.bool (isLotD n d))) st := by
  cases d with
  | tuple ds =>
    have key : ∀ (ds : List PyData) (l : Int) (a b x : Option A), ∃ env, forD (fun _ => True) (ggName 3) (sSeq (sIf (gOr (gNot (gB (gCall p_is_below (LF.gCons (gVar 0) (LF.gCons (gVar 3) LF.gNil))))) (gB (g2 pLe (gVar 3) (gVar 2)))) (sRet (gC (.bool false))) sNil) (sSet 2 (gVar 3))) ds [some (.d (.int n)), b, some (.d (.int l)), x] st =
        if lotFrom n l ds then .nx env st else .rt (.d (.bool false)) st := by
      intro ds
      induction ds with
      | nil => intro l a b x; exact ⟨_, by simp [lotFrom]; rfl⟩
      | cons d r ih =>
        intro l a b x
        cases d with
        | int i =>
          by_cases h1 : 0 ≤ i
          · by_cases h2 : i < n
            · by_cases h3 : l < i
              · obtain ⟨env, he⟩ := ih i a b (some (.d (.int i)))
                refine ⟨env, ?_⟩
                have h3' : ¬ i ≤ l := by omega
                simp [q_is_below, isBelowD, lotFrom, h1, h2, h3, h3'] at he ⊢
                exact he
              · refine ⟨[], ?_⟩
                have h3' : i ≤ l := by omega
                simp [q_is_below, isBelowD, lotFrom, h1, h2, h3, h3']
            · exact ⟨[], by simp [q_is_below, isBelowD, lotFrom, h1, h2]⟩
          · exact ⟨[], by simp [q_is_below, isBelowD, lotFrom, h1]⟩
        | _ => exact ⟨[], by simp [q_is_below, isBelowD, lotFrom]⟩
    obtain ⟨env, he⟩ := key ds (-1) none (some (.d (.tuple ds))) none
    simp [p_is_lot, b_is_lot, isLotD] at he ⊢
    rw [he]
    by_cases h : lotFrom n (-1) ds = true <;> simp [h]
  | _ => simp [p_is_lot, b_is_lot, isLotD]
end G
set_option Elab.async false
set_option maxRecDepth 100000
set_option maxHeartbeats 2000000
namespace G
open PySem LF
theorem comp_pure {i : Nat} {test : GT} {elt : GE} {wenv : LF.Env} {st : Sto} (c : PyData → Bool) (e : PyData → PyData) : ∀ (ds : List PyData) (_ : ∀ d ∈ ds, test (wenv.set i (some (.d d))) st = .ok (c d) st) (_ : ∀ d ∈ ds, c d = true → elt (wenv.set i (some (.d d))) st = .ok (.d (e d)) st),
    compD (fun _ => True) (ggName i) test elt wenv ds st = .ok ((ds.filter c).map e) st
  | [], _, _ => by simp [compD]
  | d :: r, ht, he => by
    have h1 := ht d (by simp)
    have ih := comp_pure c e r (fun x hx => ht x (by simp [hx])) (fun x hx => he x (by simp [hx]))
    cases q : c d with
    | true =>
      have h2 := he d (by simp) q
      simp [compD, h1, h2, q, ih]
    | false => simp [compD, h1, q, ih]
@[simp] theorem sh_int (i : Int) : SeqAt.shaped (.int i) = true := rfl
@[simp] theorem sh_bool (b : Bool) : SeqAt.shaped (.bool b) = true := rfl
@[simp] theorem sh_none : SeqAt.shaped .none = true := rfl
theorem q_need (b : Bool) (w : Str) (st : Sto) : p_need [.d (.bool b), .d (.str w)] st = if b then .ok (.d .none) st else .exc "NotUsable" [("at", .int (-1)), ("word", .str w)] st := by
  cases b <;> simp [p_need, b_need]
theorem q_demand (b : Bool) (w : Str) (k : Int) (st : Sto) : p_demand [.d (.bool b), .d (.str w), .d (.int k)] st = if b then .ok (.d .none) st else .exc "InvalidPaper" [("at", .int k), ("word", .str w)] st := by
  cases b <;> simp [p_demand, b_demand]
def isQuoD : PyData → Bool
  | .tuple [.int t, .int b] => decide (1 ≤ b) && decide (Nat.gcd t.natAbs b.natAbs = 1)
  | _ => false
theorem q_is_quotient (d : PyData) (st : Sto) : p_is_quotient [.d d] st = .ok (.d (.bool (isQuoD d))) st := by
  cases d with
  | tuple ds =>
    match ds with
    | [x, y] =>
      cases x <;> cases y <;> simp [p_is_quotient, b_is_quotient, q_is_tuple_of, q_is_integer, isIntD, isQuoD]
      rename_i t b
      have hh : (((t.natAbs.gcd b.natAbs : Nat) : Int) == 1) = decide (t.natAbs.gcd b.natAbs = 1) := by
        rw [Bool.eq_iff_iff, beq_iff_eq, decide_eq_true_eq]
        omega
      by_cases h : 1 ≤ b <;> simp [h, PyData.eqv, hh]
    | [] => simp [p_is_quotient, b_is_quotient, q_is_tuple_of, isQuoD]
    | [x] => simp [p_is_quotient, b_is_quotient, q_is_tuple_of, isQuoD]
    | x :: y :: z :: r =>
      have h : ¬ ((r.length : Int) + 1 + 1 + 1 = 2) := by omega
      simp [p_is_quotient, b_is_quotient, q_is_tuple_of, isQuoD, h]
  | _ => simp [p_is_quotient, b_is_quotient, q_is_tuple_of, isQuoD]
/-- all items below n -/
def allBelow (n : Int) (ds : List PyData) : Bool := ds.all (isBelowD n)
theorem q_allb (n : Int) (ds : List PyData) (st : Sto) (i j : Nat) (env : LF.Env) (hi : env[j]? = some (some (.d (.int n)))) (hij : j ≠ i) (hl : i < env.length) :
    compD (fun _ => True) (ggName i) gYes (gCall p_is_below (LF.gCons (gVar j) (LF.gCons (gVar i) LF.gNil))) env ds st = .ok (ds.map fun d => .bool (isBelowD n d)) st := by
  have e := comp_pure (i := i) (test := gYes) (elt := gCall p_is_below (LF.gCons (gVar j) (LF.gCons (gVar i) LF.gNil))) (wenv := env) (st := st) (fun _ => true) (fun d => .bool (isBelowD n d)) ds (fun d _ => rfl) (fun d _ _ => by
    have h1 : (env.set i (some (.d d)))[j]? = some (some (.d (.int n))) := by rw [List.getElem?_set_ne (Ne.symm hij)]; exact hi
    have h2 : (env.set i (some (.d d)))[i]? = some (some (.d d)) := List.getElem?_set_self hl
    simp [q_is_below, h1, h2])
  rw [e, List.filter_eq_self.mpr (fun _ _ => rfl)]
theorem boolsOf_map (f : PyData → Bool) : ∀ ds : List PyData, boolsOf (ds.map fun d => .bool (f d)) = some (ds.map f)
  | [] => rfl
  | d :: r => by simp [boolsOf, boolsOf_map f r]
def intsB : List PyData → List Int
  | [] => []
  | .int i :: r => i :: intsB r
  | _ :: r => intsB r
theorem intsOf_below {n : Int} : ∀ {ds : List PyData}, allBelow n ds = true → intsOf ds = some (intsB ds) ∧ (intsB ds).length = ds.length ∧ ∀ i ∈ intsB ds, 0 ≤ i ∧ i < n
  | [], _ => ⟨rfl, rfl, by simp [intsB]⟩
  | d :: r, h => by
    unfold allBelow at h
    rw [List.all_cons, Bool.and_eq_true] at h
    obtain ⟨h1, h2, h3⟩ := intsOf_below (ds := r) h.2
    cases d with
    | int i =>
      have hb := h.1
      simp [isBelowD] at hb
      refine ⟨by simp [intsOf, h1, intsB], by simp [intsB, h2], ?_⟩
      intro j hj
      simp only [intsB, List.mem_cons] at hj
      rcases hj with rfl | hj
      · exact hb
      · exact h3 j hj
    | _ => simp [isBelowD] at h
def isOrdD (n : Int) : PyData → Bool
  | .tuple ds => decide ((ds.length : Int) = n) && allBelow n ds && decide (((intsB ds).eraseDups.length : Int) = n)
  | _ => false
theorem q_is_order (n : Int) (hn : n ≤ 1000) (d : PyData) (st : Sto) : p_is_order [.d (.int n), .d d] st = .ok (.d (.bool (isOrdD n d))) st := by
  cases d with
  | tuple ds =>
    by_cases h1 : (ds.length : Int) = n
    · have hz : ds.length ≤ 1000 := by omega
      have hz2 : ds.length ≤ bigN := by unfold bigN; omega
      have e := q_allb n ds st 2 0 [some (.d (.int n)), some (.d (.tuple ds)), none] rfl (by decide) (show 2 < 3 by decide)
      cases hb : allBelow n ds with
      | false =>
        have hx : ∃ x, x ∈ ds ∧ isBelowD n x = false := by
          unfold allBelow at hb
          simpa using List.all_eq_false.mp hb
        simp [p_is_order, b_is_order, q_is_tuple_of, isOrdD, h1, hz2, e, boolsOf_map, hx, hb]
      | true =>
        have hx : ¬ ∃ x, x ∈ ds ∧ isBelowD n x = false := by
          rintro ⟨x, hx, hx2⟩
          have := List.all_eq_true.mp hb x hx
          rw [hx2] at this
          cases this
        obtain ⟨i1, i2, _⟩ := intsOf_below hb
        have i3 : (intsB ds).length ≤ 1000 := by omega
        simp [p_is_order, b_is_order, q_is_tuple_of, isOrdD, h1, hz2, e, boolsOf_map, hx, hb, i1, i3, PyData.eqv, Bool.beq_eq_decide_eq]
    · simp [p_is_order, b_is_order, q_is_tuple_of, isOrdD, h1]
  | _ => simp [p_is_order, b_is_order, q_is_tuple_of, isOrdD]
/-! lots -/
theorem intsOf_ints (ns : List Int) : intsOf (ns.map .int) = some ns := by
  induction ns with
  | nil => rfl
  | cons n r ih => simp [intsOf, ih]
theorem comp_ints {i : Nat} {test : GT} {elt : GE} {wenv : LF.Env} {st : Sto} (c : Int → Bool) (f : Int → PyData) : ∀ (ns : List Int) (_ : ∀ n ∈ ns, test (wenv.set i (some (.d (.int n)))) st = .ok (c n) st) (_ : ∀ n ∈ ns, c n = true → elt (wenv.set i (some (.d (.int n)))) st = .ok (.d (f n)) st),
    compD (fun _ => True) (ggName i) test elt wenv (ns.map .int) st = .ok ((ns.filter c).map f) st
  | [], _, _ => by simp [compD]
  | d :: r, ht, he => by
    have h1 := ht d (by simp)
    have ih := comp_ints c f r (fun x hx => ht x (by simp [hx])) (fun x hx => he x (by simp [hx]))
    cases q : c d with
    | true =>
      have h2 := he d (by simp) q
      simp [compD, h1, h2, q, ih]
    | false => simp [compD, h1, q, ih]
theorem filter_all (ns : List Int) : ns.filter (fun _ => true) = ns := List.filter_eq_self.mpr fun _ _ => rfl
def lotNum (ns : List Int) : Int := (ns.map fun i => (2 : Int) ^ i.toNat).sum
theorem q_lot_number (ns : List Int) (hl : ns.length ≤ 1000) (hb : ∀ i ∈ ns, 0 ≤ i ∧ i ≤ 1000) (st : Sto) : p_lot_number [.d (.tuple (ns.map .int))] st = .ok (.d (.int (lotNum ns))) st := by
  have hz : ns.length ≤ bigN := by unfold bigN; omega
  have e := comp_ints (i := 1) (test := gYes) (elt := g2 pShl (gC (.int 1)) (gVar 1)) (wenv := [some (.d (.tuple (ns.map .int))), none]) (st := st) (fun _ => true) (fun i => .int (2 ^ i.toNat)) ns (fun d _ => rfl) (fun i hi _ => by
    obtain ⟨h1, h2⟩ := hb i hi
    have h3 : cPow 1 i = true := by unfold cPow; simp; omega
    simp [h3])
  rw [filter_all] at e
  have e2 : (ns.map fun i => PyData.int (2 ^ i.toNat)) = (ns.map fun i => (2 : Int) ^ i.toNat).map .int := by simp
  rw [e2] at e
  simp [p_lot_number, b_lot_number, hz] at e ⊢
  have e3 := intsOf_ints (ns.map fun i => (2 : Int) ^ i.toNat)
  simp at e3
  simp [e, e3, lotNum]
theorem and_one {x : Int} (hx : 0 ≤ x) : Builtin.bitAnd x 1 = x % 2 := by
  have e := Bits.bitAnd_mask (x := x) 1 hx
  simpa using e
def rangeI (n : Nat) : List Int := (List.range n).map fun (k : Nat) => (k : Int)
theorem rangeD_eq (n : Nat) : rangeD 0 n = (rangeI n).map .int := by
  unfold rangeD rangeI
  rw [List.map_map]
  exact List.map_congr_left fun k _ => by simp
theorem rangeI_length (n : Nat) : (rangeI n).length = n := by simp [rangeI]
theorem mem_rangeI {n : Nat} {i : Int} : i ∈ rangeI n ↔ 0 ≤ i ∧ i < n := by
  unfold rangeI
  rw [List.mem_map]
  constructor
  · rintro ⟨k, hk, rfl⟩
    have := List.mem_range.mp hk
    omega
  · rintro ⟨h1, h2⟩
    exact ⟨i.toNat, List.mem_range.mpr (by omega), by omega⟩
/-- the places below m at which n has a bit -/
def hasBit (n k : Int) : Bool := n / 2 ^ k.toNat % 2 != 0
def lotOf (m : Nat) (n : Int) : List Int := (rangeI m).filter (hasBit n)
theorem gBit {i j : Nat} {env : LF.Env} {st : Sto} {n k : Int} (hj : env[j]? = some (some (.d (.int n)))) (hi : env[i]? = some (some (.d (.int k)))) (hn : 0 ≤ n) (hk : 0 ≤ k) :
    gTru (g2 pBand (g2 pShr (gVar j) (gVar i)) (gC (.int 1))) env st = .ok (hasBit n k) st := by
  have h1 : 0 ≤ n / 2 ^ k.toNat := Int.ediv_nonneg hn (Int.le_of_lt (Int.pow_pos (by decide)))
  simp [hj, hi, hk, and_one h1, hasBit]
theorem small_nat (n : Nat) (h : n ≤ 1000000) : smallI (n : Int) = true := by
  unfold smallI
  rw [Bool.and_eq_true, decide_eq_true_eq, decide_eq_true_eq]
  omega
theorem ra (m : Nat) (h : m ≤ 1000000) (env : LF.Env) (st : Sto) (g : GE) (he : g env st = .ok (.d (.int (m : Nat))) st) : giR1 g env st = .ok ⟨(rangeI m).map .int, fun _ => True⟩ st := by
  have key : ∀ j : Int, smallI j = true → g env st = .ok (.d (.int j)) st → giR1 g env st = .ok ⟨rangeD 0 j.toNat, fun _ => True⟩ st := fun j hj e => by
    unfold giR1
    rw [e, R.bind_ok]
    dsimp only
    rw [if_pos hj]
  rw [key m (small_nat m h) he, Int.toNat_natCast, rangeD_eq]
theorem comp_range {i : Nat} {test : GT} {elt : GE} {env : LF.Env} {st : Sto} {g : GE} (m : Nat) (h : m ≤ 1000000) (he : g env st = .ok (.d (.int (m : Nat))) st) (c : Int → Bool) (f : Int → PyData)
    (h1 : ∀ n ∈ rangeI m, test ((env.set i none).set i (some (.d (.int n)))) st = .ok (c n) st) (h2 : ∀ n ∈ rangeI m, c n = true → elt ((env.set i none).set i (some (.d (.int n)))) st = .ok (.d (f n)) st) :
    gComp (giR1 g) i test elt env st = .ok (.d (.list (((rangeI m).filter c).map f))) st := by
  have e := comp_ints c f (rangeI m) h1 h2
  have hz : ((rangeI m).map PyData.int).length ≤ bigN := by
    rw [List.length_map, rangeI_length]
    exact h
  simp only [gComp, ra m h env st g he, R.bind_ok, hz, if_true, e]
theorem q_lot_by (n : Int) (hn : 0 ≤ n) (hb : Builtin.Int.intBits n ≤ 1000) (st : Sto) : p_lot_by [.d (.int n)] st = .ok (.d (.tuple ((lotOf (Builtin.Int.intBits n) n).map .int))) st := by
  have e := comp_range (i := 1) (test := gTru (g2 pBand (g2 pShr (gVar 0) (gVar 1)) (gC (.int 1)))) (elt := gVar 1) (env := [some (.d (.int n)), none]) (st := st) (g := gBits (gVar 0)) (Builtin.Int.intBits n) (by omega) rfl (hasBit n) (fun i => .int i) (fun k hk => gBit rfl rfl hn (mem_rangeI.mp hk).1) (fun k _ _ => rfl)
  have e1 : sExpr (gCall p_need (LF.gCons (gCall p_is_number (LF.gCons (gVar 0) LF.gNil)) (LF.gCons (gC (.str "number")) LF.gNil))) [some (.d (.int n)), none] st = .nx [some (.d (.int n)), none] st := by
    simp [q_is_number, q_need, isNumD, hn]
  show runC 2 b_lot_by [.d (.int n)] st = _
  simp only [b_lot_by, runC, runB, List.map_cons, List.map_nil, List.length_cons, List.length_nil, List.replicate, List.cons_append, List.nil_append, sSeq, sRet, gB1, LF.gCons, LF.gNil, e1, e  , R.bind_ok]
  simp [lotOf]
theorem q_lot_by_no (d : PyData) (h : isNumD d = false) (st : Sto) : p_lot_by [.d d] st = .exc "NotUsable" [("at", .int (-1)), ("word", .str "number")] st := by
  simp [p_lot_by, b_lot_by, q_is_number, q_need, h]
end G
set_option Elab.async false
set_option linter.all false
set_option maxRecDepth 100000
set_option maxHeartbeats 2000000
namespace G
open PySem LF
/-- box 0 as the draws keep it -/
def boxOf (ns : List Int) (a b c : Int) : List PyData := [.list (ns.map .int), .int a, .int b, .int c]
theorem ix4 : L2.ixN 4 0 = some 0 ∧ L2.ixN 4 1 = some 1 ∧ L2.ixN 4 2 = some 2 ∧ L2.ixN 4 3 = some 3 := ⟨rfl, rfl, rfl, rfl⟩
section
variable {env : LF.Env} {st : Sto} {ns : List Int} {a b c z : Int} {g : GE}
theorem put1 (h : st[0]? = some (boxOf ns a b c)) (he : env[0]? = some (some (.box 0))) (hg : g env st = .ok (.d (.int z)) st) : sPut (gVar 0) (gC (.int 1)) g env st = .nx env (st.set 0 (boxOf ns z b c)) := by
  simp [boxOf] at h
  simp [hg, he, h, boxOf, ix4]
theorem put2 (h : st[0]? = some (boxOf ns a b c)) (he : env[0]? = some (some (.box 0))) (hg : g env st = .ok (.d (.int z)) st) : sPut (gVar 0) (gC (.int 2)) g env st = .nx env (st.set 0 (boxOf ns a z c)) := by
  simp [boxOf] at h
  simp [hg, he, h, boxOf, ix4]
theorem put3 (h : st[0]? = some (boxOf ns a b c)) (he : env[0]? = some (some (.box 0))) (hg : g env st = .ok (.d (.int z)) st) : sPut (gVar 0) (gC (.int 3)) g env st = .nx env (st.set 0 (boxOf ns a b z)) := by
  simp [boxOf] at h
  simp [hg, he, h, boxOf, ix4]
theorem at4 (x y z w : PyData) : L2.atI [x, y, z, w] 0 = some x ∧ L2.atI [x, y, z, w] 1 = some y ∧ L2.atI [x, y, z, w] 2 = some z ∧ L2.atI [x, y, z, w] 3 = some w := ⟨rfl, rfl, rfl, rfl⟩
theorem get0 (h : st[0]? = some (boxOf ns a b c)) (he : env[0]? = some (some (.box 0))) : g2 pIx (gVar 0) (gC (.int 0)) env st = .ok (.d (.list (ns.map .int))) st := by
  simp [boxOf] at h
  simp [he, h, at4]
theorem get1 (h : st[0]? = some (boxOf ns a b c)) (he : env[0]? = some (some (.box 0))) : g2 pIx (gVar 0) (gC (.int 1)) env st = .ok (.d (.int a)) st := by
  simp [boxOf] at h
  simp [he, h, at4]
theorem get2 (h : st[0]? = some (boxOf ns a b c)) (he : env[0]? = some (some (.box 0))) : g2 pIx (gVar 0) (gC (.int 2)) env st = .ok (.d (.int b)) st := by
  simp [boxOf] at h
  simp [he, h, at4]
theorem get3 (h : st[0]? = some (boxOf ns a b c)) (he : env[0]? = some (some (.box 0))) : g2 pIx (gVar 0) (gC (.int 3)) env st = .ok (.d (.int c)) st := by
  simp [boxOf] at h
  simp [he, h, at4]
theorem set0 (h : st[0]? = some (boxOf ns a b c)) (x : List PyData) : (st.set 0 x)[0]? = some x := by
  have hl : 0 < st.length := by
    rw [List.getElem?_eq_some_iff] at h
    exact h.1
  rw [List.getElem?_set_self hl]
/-- the draw's first steps: the number of the turn, the cell -/
theorem cell_at (ns : List Int) (a : Int) (ha : 0 ≤ a) (hn : ns ≠ []) : ∃ x, L2.atI (ns.map PyData.int) (a % (ns.length : Int)) = some (.int x) := by
  have hl : 0 < ns.length := List.length_pos_iff.mpr hn
  have h1 : 0 ≤ a % (ns.length : Int) := Int.emod_nonneg _ (by omega)
  have h2 : a % (ns.length : Int) < ns.length := Int.emod_lt_of_pos _ (by omega)
  unfold L2.atI L2.ixN
  rw [List.length_map, if_pos h1, if_pos h2, Option.bind_some]
  have h3 : (a % (ns.length : Int)).toNat < ns.length := by omega
  exact ⟨ns[(a % (ns.length : Int)).toNat], by simp [h3]⟩
end
theorem pick_hi (up : Int) (h1 : 0 < up) (h2 : up < 1073741824) (ns : List Int) (a b c : Int) (hz : ¬ b = 0) (rest : Sto) :
    p__law_pick [.box 0, .d (.int up)] (boxOf ns a b c :: rest) = .ok (.d (.int (b % up))) (boxOf ns a (b / up) (c + 1) :: rest) := by
  have hq : ((PyData.int b).eqv (.int 0)) = decide (b = 0) := by simp [PyData.eqv, Bool.beq_eq_decide_eq]
  simp [p__law_pick, b__law_pick, at4, ix4, hq, hz, boxOf, h1, h2]
def mix (x c : Int) : Int := ((((x * 30203 + c * 4547 + 611) % 1299709) * ((x * 30203 + c * 4547 + 611) % 1299709) + x * 17 + c * 90001) % 15485863) / 11
theorem m_lo (x : Int) : -18446744073709551616 < x % 1299709 := by omega
theorem m_hi (x : Int) : x % 1299709 < 18446744073709551616 := by omega
theorem pick_nil (up : Int) (h1 : 0 < up) (h2 : up < 1073741824) (a c : Int) (ha : 0 ≤ a) (rest : Sto) :
    p__law_pick [.box 0, .d (.int up)] (boxOf [] a 0 c :: rest) = .ok (.d (.int (mix 0 (c + 1) % up))) (boxOf [] (a + 1) 0 (c + 1) :: rest) := by
  have hq : ((PyData.int 0).eqv (.int 0)) = true := by simp [PyData.eqv]
  simp [p__law_pick, b__law_pick, at4, ix4, hq, boxOf, h1, h2, mix, cMul, cPow, m_lo, m_hi]
theorem pick_lo (up : Int) (h1 : 0 < up) (h2 : up < 1073741824) (ns : List Int) (a c x : Int) (ha : 0 ≤ a) (hx : L2.atI (ns.map PyData.int) (a % (ns.length : Int)) = some (.int x)) (hn : 0 < ns.length)
    (hs : (if x < 0 then -x else x) < 1000000000000000000 ∨ (ns.length : Int) < a + 1) (rest : Sto) :
    p__law_pick [.box 0, .d (.int up)] (boxOf ns a 0 c :: rest) = .ok (.d (.int (mix x (c + 1) % up))) (boxOf ns (a + 1) 0 (c + 1) :: rest) := by
  have hq : ((PyData.int 0).eqv (.int 0)) = true := by simp [PyData.eqv]
  have hl : (0 : Int) < (ns.length : Int) := by omega
  by_cases h3 : (if x < 0 then -x else x) < 1000000000000000000
  · simp [p__law_pick, b__law_pick, at4, ix4, hq, boxOf, h1, h2, mix, cMul, cPow, m_lo, m_hi, hn, hx, h3]
  · have h4 : (ns.length : Int) < a + 1 := hs.resolve_left h3
    simp [p__law_pick, b__law_pick, at4, ix4, hq, boxOf, h1, h2, mix, cMul, cPow, m_lo, m_hi, hn, hx, h3, h4]
theorem pick_up (up : Int) (h1 : 0 < up) (h2 : up < 1073741824) (ns : List Int) (a c x : Int) (ha : 0 ≤ a) (hx : L2.atI (ns.map PyData.int) (a % (ns.length : Int)) = some (.int x)) (hn : 0 < ns.length)
    (hs : ¬ ((if x < 0 then -x else x) < 1000000000000000000)) (h4 : ¬ ((ns.length : Int) < a + 1)) (rest : Sto) :
    p__law_pick [.box 0, .d (.int up)] (boxOf ns a 0 c :: rest) = .ok (.d (.int ((if x < 0 then -x else x) % up))) (boxOf ns (a + 1) ((if x < 0 then -x else x) / up) (c + 1) :: rest) := by
  have hq : ((PyData.int 0).eqv (.int 0)) = true := by simp [PyData.eqv]
  simp [p__law_pick, b__law_pick, at4, ix4, hq, boxOf, h1, h2, mix, cMul, cPow, m_lo, m_hi, hn, hx, hs, h4]
/-- a store whose first list is the draws' -/
def Bx (rest st : Sto) : Prop := ∃ (ns : List Int) (a b c : Int), st = boxOf ns a b c :: rest ∧ 0 ≤ a ∧ 0 ≤ b
theorem q_pick (up : Int) (h1 : 0 < up) (h2 : up < 1073741824) {rest st : Sto} (hb : Bx rest st) : ∃ r st', p__law_pick [.box 0, .d (.int up)] st = .ok (.d (.int r)) st' ∧ 0 ≤ r ∧ r < up ∧ Bx rest st' := by
  obtain ⟨ns, a, b, c, rfl, ha, hb⟩ := hb
  have md : ∀ x : Int, 0 ≤ x % up ∧ x % up < up := fun x => ⟨Int.emod_nonneg _ (by omega), Int.emod_lt_of_pos _ h1⟩
  by_cases hz : b = 0
  · subst hz
    by_cases hn : ns = []
    · subst hn
      exact ⟨_, _, pick_nil up h1 h2 a c ha rest, (md _).1, (md _).2, _, _, _, _, rfl, by omega, by omega⟩
    · obtain ⟨x, hx⟩ := cell_at ns a ha hn
      have hl : 0 < ns.length := List.length_pos_iff.mpr hn
      by_cases hs : (if x < 0 then -x else x) < 1000000000000000000 ∨ (ns.length : Int) < a + 1
      · exact ⟨_, _, pick_lo up h1 h2 ns a c x ha hx hl hs rest, (md _).1, (md _).2, _, _, _, _, rfl, by omega, by omega⟩
      · have h3 : ¬ ((if x < 0 then -x else x) < 1000000000000000000) := fun z => hs (.inl z)
        have h4 : ¬ ((ns.length : Int) < a + 1) := fun z => hs (.inr z)
        refine ⟨_, _, pick_up up h1 h2 ns a c x ha hx hl h3 h4 rest, (md _).1, (md _).2, _, _, _, _, rfl, by omega, Int.ediv_nonneg ?_ (by omega)⟩
        split <;> omega
  · exact ⟨_, _, pick_hi up h1 h2 ns a b c hz rest, (md _).1, (md _).2, _, _, _, _, rfl, ha, Int.ediv_nonneg hb (by omega)⟩
end G
set_option Elab.async false
set_option linter.all false
set_option maxRecDepth 100000
set_option maxHeartbeats 2000000
namespace G
open PySem LF
theorem Bx.len {rest st : Sto} (h : Bx rest st) : st.length = rest.length + 1 := by
  obtain ⟨ns, a, b, c, rfl, _⟩ := h
  simp
theorem Bx.take {rest st : Sto} (h : Bx rest st) : st.take (rest.length + 1) = st := by
  rw [← h.len]
  exact List.take_length
/-- the leaves that are drawn -/
def Lf : PyData → Prop
  | .int i => -10 ^ 52 < i ∧ i < 10 ^ 52
  | .bool _ => True
  | .none => True
  | .str x => x = "" ∨ x = "0" ∨ x = "limits"
  | _ => False
theorem q_leaf {rest st : Sto} (hb : Bx rest st) : ∃ d st', p__law_leaf [.box 0] st = .ok (.d d) st' ∧ Lf d ∧ Bx rest st' := by
  obtain ⟨r1, s1, e1, l1, u1, b1⟩ := q_pick 9 (by decide) (by decide) hb
  by_cases h1 : r1 < 5
  · obtain ⟨r2, s2, e2, l2, u2, b2⟩ := q_pick 9 (by decide) (by decide) b1
    refine ⟨.int (r2 - 2), s2, ?_, ⟨by omega, by omega⟩, b2⟩
    simp [p__law_leaf, b__law_leaf, e1, e2, h1, hb.len, b2.take]
  · by_cases h5 : r1 = 5
    · subst h5
      obtain ⟨r2, s2, e2, l2, u2, b2⟩ := q_pick 1000000 (by decide) (by decide) b1
      obtain ⟨r3, s3, e3, l3, u3, b3⟩ := q_pick 2 (by decide) (by decide) b2
      have h3 : r3 = 0 ∨ r3 = 1 := by omega
      have hq : ((PyData.int 5).eqv (.int 5)) = true := by simp [PyData.eqv]
      rcases h3 with rfl | rfl
      · refine ⟨.int ((10 ^ 50 + r2) * 1), s3, ?_, ⟨by omega, by omega⟩, b3⟩
        simp [p__law_leaf, b__law_leaf, e1, e2, e3, hb.len, b3.take, cPow, cMul, hq]
      · refine ⟨.int ((10 ^ 50 + r2) * -1), s3, ?_, ⟨by omega, by omega⟩, b3⟩
        simp [p__law_leaf, b__law_leaf, e1, e2, e3, hb.len, b3.take, cPow, cMul, hq]
    · obtain ⟨r2, s2, e2, l2, u2, b2⟩ := q_pick 6 (by decide) (by decide) b1
      have hq : ((PyData.int r1).eqv (.int 5)) = false := by simp [PyData.eqv, h5]
      have h6 : r2 = 0 ∨ r2 = 1 ∨ r2 = 2 ∨ r2 = 3 ∨ r2 = 4 ∨ r2 = 5 := by omega
      have fin : ∀ d, L2.atI [.bool true, .bool false, .none, .str "", .str "0", .str "limits"] r2 = some d → p__law_leaf [.box 0] st = .ok (.d d) s2 := fun d hd => by
        simp [p__law_leaf, b__law_leaf, e1, e2, h1, hb.len, b2.take, hq, hd]
      rcases h6 with rfl | rfl | rfl | rfl | rfl | rfl
      · exact ⟨_, s2, fin _ rfl, trivial, b2⟩
      · exact ⟨_, s2, fin _ rfl, trivial, b2⟩
      · exact ⟨_, s2, fin _ rfl, trivial, b2⟩
      · exact ⟨_, s2, fin _ rfl, .inl rfl, b2⟩
      · exact ⟨_, s2, fin _ rfl, .inr (.inl rfl), b2⟩
      · exact ⟨_, s2, fin _ rfl, .inr (.inr rfl), b2⟩
theorem comp_draws {rest : Sto} {P : PyData → Prop} {i : Nat} {elt : GE} {wenv : LF.Env} : ∀ (ks : List Int) (st : Sto) (_ : Bx rest st)
    (_ : ∀ k ∈ ks, ∀ st, Bx rest st → ∃ d st', elt (wenv.set i (some (.d (.int k)))) st = .ok (.d d) st' ∧ P d ∧ Bx rest st'),
    ∃ ds st', compD (fun _ => True) (ggName i) gYes elt wenv (ks.map .int) st = .ok ds st' ∧ ds.length = ks.length ∧ (∀ d ∈ ds, P d) ∧ Bx rest st'
  | [], st, hb, _ => ⟨[], st, by simp [compD], rfl, by simp, hb⟩
  | k :: r, st, hb, he => by
    obtain ⟨d, s1, e1, p1, b1⟩ := he k (by simp) st hb
    obtain ⟨ds, s2, e2, l2, p2, b2⟩ := comp_draws r s1 b1 (fun k hk => he k (by simp [hk]))
    refine ⟨d :: ds, s2, by simp [compD, e1, e2], by simp [l2], ?_, b2⟩
    intro x hx
    rcases List.mem_cons.mp hx with rfl | hx
    · exact p1
    · exact p2 x hx
theorem comp_rdraws {rest : Sto} {P : PyData → Prop} {i : Nat} {elt : GE} {env : LF.Env} {g : GE} (m : Nat) (h : m ≤ 1000000) {st : Sto} (hb : Bx rest st) (he : g env st = .ok (.d (.int (m : Nat))) st)
    (hp : ∀ k ∈ rangeI m, ∀ st, Bx rest st → ∃ d st', elt ((env.set i none).set i (some (.d (.int k)))) st = .ok (.d d) st' ∧ P d ∧ Bx rest st') :
    ∃ ds st', gComp (giR1 g) i gYes elt env st = .ok (.d (.list ds)) st' ∧ ds.length = m ∧ (∀ d ∈ ds, P d) ∧ Bx rest st' := by
  obtain ⟨ds, s1, e, l, p, b⟩ := comp_draws (rangeI m) st hb hp
  have hz : ((rangeI m).map PyData.int).length ≤ bigN := by
    rw [List.length_map, rangeI_length]
    exact h
  refine ⟨ds, s1, ?_, by rw [l, rangeI_length], p, b⟩
  simp only [gComp, ra m h env st g he, R.bind_ok, hz, if_true, e]
theorem gB1_one (p : List A → Sto → Option PyData) (g : GE) (env : LF.Env) (st : Sto) : gB1 p (LF.gCons g LF.gNil) env st = (g env st).bind fun a st1 => ofO (p [a] st1) st1 := by
  unfold gB1 LF.gCons LF.gNil
  cases g env st <;> rfl
/-- a number below n, as data -/
def Nb (n : Int) : PyData → Prop
  | .int i => 0 ≤ i ∧ i < n
  | _ => False
/-- a def's end, without unfolding what it does -/
theorem run_rt {m : Nat} {b : GS} {as : List A} {st st' : Sto} {x : PyData} (h : b (as.map some ++ List.replicate (m - as.length) none) st = .rt (.d x) st') : LF.runN m b as st = .ok (.d x) (st'.take st.length) := by
  unfold LF.runN noX runC runB
  rw [h]
  rfl
theorem q_line (prime : Int) (m : Nat) (h1 : 0 < prime) (h2 : prime < 1000) (hm : m ≤ 1000) {rest st : Sto} (hb : Bx rest st) :
    ∃ ds st', p__law_line [.box 0, .d (.int prime), .d (.int (m : Nat))] st = .ok (.d (.tuple ds)) st' ∧ ds.length = m ∧ (∀ d ∈ ds, Nb prime d) ∧ Bx rest st' := by
  obtain ⟨ds, s1, e, l, p, b⟩ := comp_rdraws (i := 3) (P := Nb prime) (elt := gCall p__law_pick (LF.gCons (gVar 0) (LF.gCons (gVar 1) LF.gNil))) (env := [some (.box 0), some (.d (.int prime)), some (.d (.int (m : Nat))), none]) (g := gVar 2) m (by omega) hb rfl (fun k hk st hb => by
    obtain ⟨r, s1, e1, l1, u1, b1⟩ := q_pick prime h1 (by omega) hb
    exact ⟨.int r, s1, by simp [e1], ⟨l1, u1⟩, b1⟩)
  refine ⟨ds, s1, ?_, l, p, b⟩
  have k : sRet (gB1 pTup (LF.gCons (gComp (giR1 (gVar 2)) 3 gYes (gCall p__law_pick (LF.gCons (gVar 0) (LF.gCons (gVar 1) LF.gNil)))) LF.gNil)) [some (.box 0), some (.d (.int prime)), some (.d (.int (m : Nat))), none] st = .rt (.d (.tuple ds)) s1 := by
    unfold sRet
    rw [gB1_one, e]
    rfl
  have z : LF.runN 4 b__law_line [.box 0, .d (.int prime), .d (.int (m : Nat))] st = .ok (.d (.tuple ds)) (s1.take st.length) := run_rt (by unfold b__law_line; exact k)
  rw [hb.len, b.take] at z
  exact z
/-- a drawn part of the first numbers -/
theorem q_part (m : Nat) (hm : m ≤ 13) {rest st : Sto} (hb : Bx rest st) :
    ∃ n st', p__law_part [.box 0, .d (.int (m : Nat))] st = .ok (.d (.tuple ((lotOf m n).map .int))) st' ∧ 0 ≤ n ∧ n < 2 ^ m ∧ Bx rest st' := by
  have hp : (2 : Int) ^ m ≤ 2 ^ 13 := by
    have := Nat.pow_le_pow_right (n := 2) (by decide) hm
    exact_mod_cast this
  have h0 : (0 : Int) < 2 ^ m := Int.pow_pos (by decide)
  obtain ⟨n, s1, e1, l1, u1, b1⟩ := q_pick (2 ^ m) h0 (by omega) hb
  have hc : cPow 1 (m : Int) = true := by unfold cPow; simp; omega
  have e2 : sSet 2 (gCall p__law_pick (LF.gCons (gVar 0) (LF.gCons (g2 pShl (gC (.int 1)) (gVar 1)) LF.gNil))) [some (.box 0), some (.d (.int (m : Nat))), none, none] st = .nx [some (.box 0), some (.d (.int (m : Nat))), some (.d (.int n)), none] s1 := by
    simp [hc, e1]
  have e := comp_range (i := 3) (test := gTru (g2 pBand (g2 pShr (gVar 2) (gVar 3)) (gC (.int 1)))) (elt := gVar 3) (env := [some (.box 0), some (.d (.int (m : Nat))), some (.d (.int n)), none]) (st := s1) (g := gVar 1) m (by omega) rfl (hasBit n) (fun i => .int i) (fun k hk => gBit rfl rfl l1 (mem_rangeI.mp hk).1) (fun k _ _ => rfl)
  refine ⟨n, s1, ?_, l1, u1, b1⟩
  show LF.runN 4 b__law_part _ _ = _
  simp only [b__law_part, LF.runN, noX, runC, runB, List.map_cons, List.map_nil, List.length_cons, List.length_nil, List.replicate, List.cons_append, List.nil_append, sSeq, sRet, gB1, LF.gCons, LF.gNil] at e2 ⊢
  simp only [e2, e, R.bind_ok]
  simp [hb.len, b1.take, lotOf]
end G
set_option Elab.async false
set_option linter.all false
set_option maxRecDepth 100000
set_option maxHeartbeats 2000000
namespace G
open PySem LF
/-! what the law asks of single values -/
theorem q_whole (d : PyData) (st : Sto) : p__law_whole [.d d] st = .ok (.d (.bool (isIntD d))) st := by
  cases d <;> simp [p__law_whole, b__law_whole, isIntD]
theorem q_count (d : PyData) (st : Sto) : p__law_count [.d d] st = .ok (.d (.bool (isNumD d))) st := by
  cases d <;> simp [p__law_count, b__law_count, q_whole, isIntD, isNumD]
theorem q_bundle (n : Int) (d : PyData) (st : Sto) : p__law_bundle [.d (.int n), .d d] st = .ok (.d (.bool (isLotD n d))) st := by
  cases d with
  | tuple ds =>
    have key : ∀ (ds : List PyData) (l : Int) (_ : -1 ≤ l) (b x : Option A), ∃ env, forD (fun _ => True) (ggName 3) (sSeq (sIf (gOr (gNot (gB (gCall p__law_whole (LF.gCons (gVar 3) LF.gNil)))) (gOr (gB (g2 pLe (gVar 3) (gVar 2))) (gB (g2 pGe (gVar 3) (gVar 0))))) (sRet (gC (.bool false))) sNil) (sSet 2 (gVar 3))) ds [some (.d (.int n)), b, some (.d (.int l)), x] st =
        if lotFrom n l ds then .nx env st else .rt (.d (.bool false)) st := by
      intro ds
      induction ds with
      | nil => intro l hl b x; exact ⟨_, by simp [lotFrom]; rfl⟩
      | cons d r ih =>
        intro l hl b x
        cases d with
        | int i =>
          by_cases h3 : l < i
          · have h1 : 0 ≤ i := by omega
            have h3' : ¬ i ≤ l := by omega
            by_cases h2 : i < n
            · obtain ⟨env, he⟩ := ih i (by omega) b (some (.d (.int i)))
              refine ⟨env, ?_⟩
              have h2' : ¬ n ≤ i := by omega
              simp [q_whole, isIntD, lotFrom, h1, h2, h2', h3, h3'] at he ⊢
              exact he
            · have h2' : n ≤ i := by omega
              exact ⟨[], by simp [q_whole, isIntD, lotFrom, h2, h2', h3, h3']⟩
          · have h3' : i ≤ l := by omega
            exact ⟨[], by simp [q_whole, isIntD, lotFrom, h3, h3']⟩
        | _ => exact ⟨[], by simp [q_whole, isIntD, lotFrom]⟩
    obtain ⟨env, he⟩ := key ds (-1) (by omega) (some (.d (.tuple ds))) none
    simp [p__law_bundle, b__law_bundle, isLotD] at he ⊢
    rw [he]
    by_cases h : lotFrom n (-1) ds = true <;> simp [h]
  | _ => simp [p__law_bundle, b__law_bundle, isLotD]
end G
set_option Elab.async false
set_option linter.all false
set_option maxRecDepth 100000
set_option maxHeartbeats 2000000
namespace G
open PySem LF
abbrev eucB : GS := sSeq (sIf (gB (g2 pEq (gVar 1) (gC (.int 0)))) sBreak sNil) (sPar 1 2 (LF.gCons (g2 pMod (gB1 pInt1 (LF.gCons (gVar 2) LF.gNil)) (gVar 1)) (LF.gCons (gVar 1) LF.gNil)))
theorem euc_step {t : Option A} {l r : Int} {x : Option A} {st : Sto} (hl : l ≠ 0) (hp : 0 < l) : eucB [t, some (.d (.int l)), some (.d (.int r)), x] st = .nx [t, some (.d (.int (r % l))), some (.d (.int l)), x] st := by
  have hq : ((PyData.int l).eqv (.int 0)) = false := by simp [PyData.eqv, hl]
  simp [eucB, hq, hp]
theorem euc_end {t : Option A} {r : Int} {x : Option A} {st : Sto} : eucB [t, some (.d (.int 0)), some (.d (.int r)), x] st = .bk [t, some (.d (.int 0)), some (.d (.int r)), x] st := by
  have hq : ((PyData.int 0).eqv (.int 0)) = true := by simp [PyData.eqv]
  simp [eucB, hq]
theorem euc (st : Sto) (t : Option A) : ∀ (n : Nat) (ds : List PyData) (l r : Nat) (x : Option A), n ≤ ds.length → l < r → l * r < 2 ^ n →
    ∃ env, forD (fun _ => True) (ggName 3) eucB ds [t, some (.d (.int (l : Nat))), some (.d (.int (r : Nat))), x] st = .nx env st ∧ env[2]? = some (some (.d (.int ((Nat.gcd l r : Nat) : Int))))
  | n, [], l, r, x, hn, hlr, hp => by
    have h0 : n = 0 := by simpa using hn
    subst h0
    have hl : l = 0 := by
      have : l * r = 0 := by omega
      rcases Nat.mul_eq_zero.mp this with h | h <;> omega
    subst hl
    exact ⟨_, forD_nil', by simp⟩
  | n, d :: ds, l, r, x, hn, hlr, hp => by
    by_cases hl : l = 0
    · subst hl
      refine ⟨[t, some (.d (.int 0)), some (.d (.int (r : Nat))), some (.d d)], ?_, by simp⟩
      rw [forD_cons']
      have e := euc_end (t := t) (r := (r : Int)) (x := some (.d d)) (st := st)
      simp at e ⊢
      rw [e]
      rfl
    · have hpos : 0 < l := Nat.pos_of_ne_zero hl
      cases n with
      | zero =>
        have : 0 < l * r := Nat.mul_pos hpos (by omega)
        omega
      | succ n =>
        have hm : r % l < l := Nat.mod_lt _ hpos
        have hh : 2 * ((r % l) * l) ≤ l * r := by
          have h1 : r % l + l ≤ r := by
            have := Nat.mod_add_div r l
            have hd : 1 ≤ r / l := Nat.div_pos (Nat.le_of_lt hlr) hpos
            have : l * 1 ≤ l * (r / l) := Nat.mul_le_mul_left l hd
            omega
          have h2 : 2 * (r % l) ≤ r := by omega
          calc 2 * ((r % l) * l) = (2 * (r % l)) * l := by rw [Nat.mul_assoc]
            _ ≤ r * l := Nat.mul_le_mul_right l h2
            _ = l * r := Nat.mul_comm ..
        have hp2 : (r % l) * l < 2 ^ n := by
          rw [Nat.pow_succ] at hp
          omega
        obtain ⟨env, e1, e2⟩ := euc st t n ds (r % l) l (some (.d d)) (by simpa using hn) hm hp2
        refine ⟨env, ?_, by rw [e2, ← Nat.gcd_rec]⟩
        rw [forD_cons']
        have e := euc_step (t := t) (l := (l : Int)) (r := (r : Int)) (x := some (.d d)) (st := st) (by omega) (by omega)
        have hmod : ((r : Int) % (l : Int)) = ((r % l : Nat) : Int) := by omega
        rw [hmod] at e
        simp only [List.set] at e1 ⊢
        rw [e]
        exact e1
end G
set_option Elab.async false
set_option linter.all false
set_option maxRecDepth 100000
set_option maxHeartbeats 2000000
namespace G
open PySem LF
theorem euc_all (st : Sto) (t : Option A) (ds : List PyData) (hd : ds.length = 700) (l r : Nat) (x : Option A) (hr : 0 < r) (hl2 : l < 10 ^ 60) (hr2 : r < 10 ^ 60) :
    ∃ env, forD (fun _ => True) (ggName 3) eucB ds [t, some (.d (.int (l : Nat))), some (.d (.int (r : Nat))), x] st = .nx env st ∧ env[2]? = some (some (.d (.int ((Nat.gcd l r : Nat) : Int)))) := by
  have big : (10 ^ 60 * 10 ^ 60 : Nat) ≤ 2 ^ 699 := by decide
  have pr : l * r < 2 ^ 699 := Nat.lt_of_lt_of_le (Nat.mul_lt_mul'' hl2 hr2) big
  by_cases h : l < r
  · exact euc st t 699 ds l r x (by omega) h pr
  · match ds, hd with
    | d :: ds, hd =>
      have hl : l ≠ 0 := by omega
      have hmod : ((r : Int) % (l : Int)) = ((r % l : Nat) : Int) := by omega
      have e := euc_step (t := t) (l := (l : Int)) (r := (r : Int)) (x := some (.d d)) (st := st) (by omega) (by omega)
      rw [hmod] at e
      have hm : r % l < l := Nat.mod_lt _ (by omega)
      have pr2 : (r % l) * l < 2 ^ 699 := by
        have h1 : r % l ≤ r := Nat.mod_le ..
        have h2 : (r % l) * l ≤ r * l := Nat.mul_le_mul_right l h1
        rw [Nat.mul_comm r l] at h2
        omega
      obtain ⟨env, e1, e2⟩ := euc st t 699 ds (r % l) l (some (.d d)) (by simp at hd; omega) hm pr2
      refine ⟨env, ?_, by rw [e2, ← Nat.gcd_rec]⟩
      rw [forD_cons']
      simp only [List.set] at e1 ⊢
      rw [e]
      exact e1
theorem seq_nx {a b : GS} {env env' : LF.Env} {st st' : Sto} (h : a env st = .nx env' st') : sSeq a b env st = b env' st' := by
  unfold sSeq
  rw [h]
theorem at2 (x y : PyData) : L2.atI [x, y] 0 = some x ∧ L2.atI [x, y] 1 = some y := ⟨rfl, rfl⟩
def Small (d : PyData) : Prop := ∀ t b, d = .tuple [.int t, .int b] → t.natAbs < 10 ^ 60 ∧ b.natAbs < 10 ^ 60
theorem q_fraction (d : PyData) (hd : Small d) (st : Sto) : p__law_fraction [.d d] st = .ok (.d (.bool (isQuoD d))) st := by
  cases d with
  | tuple ds =>
    match ds with
    | [x, y] =>
      cases x with
      | int t =>
        cases y with
        | int b =>
          by_cases hb : 1 ≤ b
          · obtain ⟨s1, s2⟩ := hd t b rfl
            have hlen : ((rangeI 700).map PyData.int).length = 700 := by rw [List.length_map, rangeI_length]
            obtain ⟨env, e1, e2⟩ := euc_all st (some (.d (.tuple [.int t, .int b]))) ((rangeI 700).map .int) hlen t.natAbs b.toNat none (by omega) s1 (by omega)
            have er : giR1 (gC (.int 700)) [some (.d (.tuple [.int t, .int b])), some (.d (.int (t.natAbs : Nat))), some (.d (.int (b.toNat : Nat))), none] st = .ok ⟨(rangeI 700).map .int, fun _ => True⟩ st := ra 700 (by decide) _ st _ rfl
            have hab : (if t < 0 then -t else t) = ((t.natAbs : Nat) : Int) := by split <;> omega
            have hbb : b = ((b.toNat : Nat) : Int) := by omega
            have hnb : ¬ b < 1 := by omega
            have hg : Nat.gcd t.natAbs b.toNat = Nat.gcd t.natAbs b.natAbs := by rw [show b.toNat = b.natAbs from by omega]
            have hf : sFor (giR1 (gC (.int 700))) (ggName 3) eucB [some (.d (.tuple [.int t, .int b])), some (.d (.int (t.natAbs : Nat))), some (.d (.int b)), none] st = .nx env st := by
              rw [← hbb] at e1 er
              unfold sFor
              rw [er]
              exact e1
            have z : b__law_fraction [some (.d (.tuple [.int t, .int b])), none, none, none] st = .rt (.d (.bool (isQuoD (.tuple [.int t, .int b])))) st := by
              unfold b__law_fraction
              rw [seq_nx (env' := [some (.d (.tuple [.int t, .int b])), none, none, none]) (st' := st) (by simp [PyData.eqv])]
              rw [seq_nx (env' := [some (.d (.tuple [.int t, .int b])), none, none, none]) (st' := st) (by simp [q_whole, isIntD, at2, hnb])]
              rw [seq_nx (env' := [some (.d (.tuple [.int t, .int b])), some (.d (.int (t.natAbs : Nat))), none, none]) (st' := st) (by simp [at2, hab])]
              rw [seq_nx (env' := [some (.d (.tuple [.int t, .int b])), some (.d (.int (t.natAbs : Nat))), some (.d (.int b)), none]) (st' := st) (by simp [at2])]
              rw [seq_nx hf]
              have hq : ((PyData.int ((Nat.gcd t.natAbs b.toNat : Nat) : Int)).eqv (.int 1)) = decide (Nat.gcd t.natAbs b.natAbs = 1) := by
                rw [hg]
                simp only [PyData.eqv]
                rw [Bool.eq_iff_iff, beq_iff_eq, decide_eq_true_eq]
                omega
              simp [e2, hq, isQuoD, hb]
            have w := run_rt (m := 4) (b := b__law_fraction) (as := [.d (.tuple [.int t, .int b])]) z
            rw [List.take_length] at w
            exact w
          · simp [p__law_fraction, b__law_fraction, q_whole, isIntD, isQuoD, hb, at2, PyData.eqv, show b < 1 from by omega]
        | _ => simp [p__law_fraction, b__law_fraction, q_whole, isIntD, isQuoD, at2, PyData.eqv]
      | _ => cases y <;> simp [p__law_fraction, b__law_fraction, q_whole, isIntD, isQuoD, at2, PyData.eqv]
    | [] => simp [p__law_fraction, b__law_fraction, isQuoD, PyData.eqv]
    | [x] => simp [p__law_fraction, b__law_fraction, isQuoD, PyData.eqv]
    | x :: y :: z :: r =>
      have h : ¬ ((r.length : Int) + 1 + 1 + 1 = 2) := by omega
      simp [p__law_fraction, b__law_fraction, isQuoD, h, PyData.eqv]
  | _ => simp [p__law_fraction, b__law_fraction, isQuoD]
end G
set_option Elab.async false
set_option linter.all false
set_option maxRecDepth 100000
set_option maxHeartbeats 2000000
namespace G
open PySem LF
/-! bounded data -/
mutual
def fine (B : Nat) : PyData → Bool
  | .int i => decide (i.natAbs < B)
  | .list xs => fineAll B xs
  | .tuple xs => fineAll B xs
  | .dict _ => false
  | .str x => PyData.strOk x && decide (x.cps.size ≤ 100)
  | .none => true
  | .bool _ => true
def fineAll (B : Nat) : List PyData → Bool
  | [] => true
  | x :: xs => fine B x && fineAll B xs
end
theorem fineAll_iff {B : Nat} : ∀ {xs : List PyData}, fineAll B xs = true ↔ ∀ x ∈ xs, fine B x = true
  | [] => by simp [fineAll]
  | x :: xs => by simp [fineAll, fineAll_iff (xs := xs)]
mutual
theorem fine_lay {B : Nat} : ∀ d : PyData, fine B d = true → d.canLay0 = true
  | .int i, _ => by simp [PyData.canLay0]
  | .list xs, h => by simpa [PyData.canLay0] using fine_layAll xs (by simpa [fine] using h)
  | .tuple xs, h => by simpa [PyData.canLay0] using fine_layAll xs (by simpa [fine] using h)
  | .dict _, h => by simp [fine] at h
  | .str x, h => by
    have h1 : PyData.strOk x = true ∧ x.cps.size ≤ 100 := by simpa [fine] using h
    simpa [PyData.canLay0] using h1.1
  | .none, _ => by simp [PyData.canLay0]
  | .bool _, _ => by simp [PyData.canLay0]
theorem fine_layAll {B : Nat} : ∀ xs : List PyData, fineAll B xs = true → PyData.canLayAll0 xs = true
  | [], _ => by simp [PyData.canLayAll0]
  | x :: xs, h => by
    have h' : fine B x = true ∧ fineAll B xs = true := by simpa [fineAll] using h
    simp [PyData.canLayAll0, fine_lay x h'.1, fine_layAll xs h'.2]
end
theorem log2_of {n : Nat} (h : n < 2 ^ 1900) : n.log2 < 1920 := by
  by_cases h0 : n = 0
  · subst h0
    decide
  · have := (Nat.log2_lt h0).2 h
    omega
mutual
theorem fine_show {B : Nat} (hB : B ≤ 2 ^ 1900) : ∀ d : PyData, fine B d = true → d.showable = true
  | .int i, h => by
    have h1 : i.natAbs < B := by simpa [fine] using h
    have := log2_of (Nat.lt_of_lt_of_le h1 hB)
    simpa [PyData.showable] using this
  | .list xs, h => by simpa [PyData.showable] using fine_showAll hB xs (by simpa [fine] using h)
  | .tuple xs, h => by simpa [PyData.showable] using fine_showAll hB xs (by simpa [fine] using h)
  | .dict _, h => by simp [fine] at h
  | .str x, h => by simp [PyData.showable]
  | .none, _ => by simp [PyData.showable]
  | .bool _, _ => by simp [PyData.showable]
theorem fine_showAll {B : Nat} (hB : B ≤ 2 ^ 1900) : ∀ xs : List PyData, fineAll B xs = true → PyData.showableAll xs = true
  | [], _ => by simp [PyData.showableAll]
  | x :: xs, h => by
    have h' : fine B x = true ∧ fineAll B xs = true := by simpa [fineAll] using h
    simp [PyData.showableAll, fine_show hB x h'.1, fine_showAll hB xs h'.2]
end
mutual
theorem fine_mono {B C : Nat} (hB : B ≤ C) : ∀ d : PyData, fine B d = true → fine C d = true
  | .int i, h => by
    have h1 : i.natAbs < B := by simpa [fine] using h
    simpa [fine] using Nat.lt_of_lt_of_le h1 hB
  | .list xs, h => by simpa [fine] using fineAll_mono hB xs (by simpa [fine] using h)
  | .tuple xs, h => by simpa [fine] using fineAll_mono hB xs (by simpa [fine] using h)
  | .dict _, h => by simp [fine] at h
  | .str x, h => by simpa [fine] using h
  | .none, _ => by simp [fine]
  | .bool _, _ => by simp [fine]
theorem fineAll_mono {B C : Nat} (hB : B ≤ C) : ∀ xs : List PyData, fineAll B xs = true → fineAll C xs = true
  | [], _ => by simp [fineAll]
  | x :: xs, h => by
    have h' : fine B x = true ∧ fineAll B xs = true := by simpa [fineAll] using h
    simp [fineAll, fine_mono hB x h'.1, fineAll_mono hB xs h'.2]
end
/-! how many values there are -/
mutual
def cnt : PyData → Nat
  | .list xs => cntAll xs + 1
  | .tuple xs => cntAll xs + 1
  | _ => 1
def cntAll : List PyData → Nat
  | [] => 0
  | x :: xs => cnt x + cntAll xs
end
theorem cnt_pos (d : PyData) : 1 ≤ cnt d := by
  cases d <;> simp [cnt]
structure Gd (B k W : Nat) (d : PyData) : Prop where
  f : fine B d = true
  dp : d.depth ≤ k
  ct : cnt d ≤ W
theorem Gd.mono {B k W C l V : Nat} {d : PyData} (h : Gd B k W d) (h1 : B ≤ C) (h2 : k ≤ l) (h3 : W ≤ V) : Gd C l V d :=
  ⟨fine_mono h1 d h.f, Nat.le_trans h.dp h2, Nat.le_trans h.ct h3⟩
theorem Gd.sh {B k W : Nat} {d : PyData} (h : Gd B k W d) (hk : k ≤ 64 := by omega) : SeqAt.shaped d = true := by
  unfold SeqAt.shaped
  rw [Bool.and_eq_true, decide_eq_true_eq]
  exact ⟨fine_lay d h.f, Nat.le_trans h.dp hk⟩
theorem depthAll_mem : ∀ {xs : List PyData} {x : PyData}, x ∈ xs → x.depth ≤ PyData.depthAll xs
  | y :: ys, x, h => by
    rcases List.mem_cons.mp h with rfl | h
    · simp [PyData.depthAll]; omega
    · have := depthAll_mem h
      simp [PyData.depthAll]; omega
theorem cntAll_len : ∀ zs : List PyData, zs.length ≤ cntAll zs := fun zs => by
  induction zs with
  | nil => simp
  | cons z zs ih =>
    have := cnt_pos z
    simp [cntAll]; omega
theorem cntAll_mem : ∀ {xs : List PyData} {x : PyData}, x ∈ xs → cnt x ≤ cntAll xs
  | y :: ys, x, h => by
    rcases List.mem_cons.mp h with rfl | h
    · simp [cntAll]
    · have := cntAll_mem h
      simp [cntAll]; omega
theorem cntAll_append (xs ys : List PyData) : cntAll (xs ++ ys) = cntAll xs + cntAll ys := by
  induction xs with
  | nil => simp [cntAll]
  | cons x xs ih => simp [cntAll, ih]; omega
theorem Gd.tup_el {B k W : Nat} {ds : List PyData} (h : Gd B k W (.tuple ds)) : ∀ x ∈ ds, Gd B (k - 1) (W - 1) x := fun x hx => by
  obtain ⟨f, dp, ct⟩ := h
  simp only [fine, PyData.depth, cnt] at f dp ct
  have h1 := depthAll_mem hx
  have h2 := cntAll_mem hx
  exact ⟨fineAll_iff.mp f x hx, by omega, by omega⟩
theorem Gd.tup_k {B k W : Nat} {ds : List PyData} (h : Gd B k W (.tuple ds)) : 1 ≤ k := by
  have := h.dp
  simp only [PyData.depth] at this
  omega
theorem Gd.tup_len {B k W : Nat} {ds : List PyData} (h : Gd B k W (.tuple ds)) : ds.length < W := by
  have := h.ct
  simp only [cnt] at this
  have := cntAll_len ds
  omega
theorem Gd.lst_len {B k W : Nat} {ds : List PyData} (h : Gd B k W (.list ds)) : ds.length < W := by
  have := h.ct
  simp only [cnt] at this
  have := cntAll_len ds
  omega
theorem depthAll_le {xs : List PyData} {n : Nat} (h : ∀ x ∈ xs, x.depth ≤ n) : PyData.depthAll xs ≤ n := by
  induction xs with
  | nil => simp [PyData.depthAll]
  | cons x xs ih =>
    have h1 := h x (by simp)
    have h2 := ih fun y hy => h y (by simp [hy])
    simp [PyData.depthAll]; omega
theorem cntAll_le {xs : List PyData} {n : Nat} (h : ∀ x ∈ xs, cnt x ≤ n) : cntAll xs ≤ n * xs.length := by
  induction xs with
  | nil => simp [cntAll]
  | cons x xs ih =>
    have h1 := h x (by simp)
    have h2 := ih fun y hy => h y (by simp [hy])
    simp only [cntAll, List.length_cons]
    rw [Nat.mul_succ]
    omega
theorem Gd.mk_tup {B k W : Nat} {ds : List PyData} (h : ∀ x ∈ ds, Gd B k W x) : Gd B (k + 1) (W * ds.length + 1) (.tuple ds) := by
  have h1 := depthAll_le fun x hx => (h x hx).dp
  have h2 := cntAll_le fun x hx => (h x hx).ct
  exact ⟨by simp only [fine]; exact fineAll_iff.mpr fun x hx => (h x hx).f, by simp only [PyData.depth]; omega, by simp only [cnt]; omega⟩
theorem Gd.mk_lst {B k W : Nat} {ds : List PyData} (h : ∀ x ∈ ds, Gd B k W x) : Gd B (k + 1) (W * ds.length + 1) (.list ds) := by
  have h1 := depthAll_le fun x hx => (h x hx).dp
  have h2 := cntAll_le fun x hx => (h x hx).ct
  exact ⟨by simp only [fine]; exact fineAll_iff.mpr fun x hx => (h x hx).f, by simp only [PyData.depth]; omega, by simp only [cnt]; omega⟩
/-- a tuple, told by its parts -/
theorem Gd.tup {B k W : Nat} {ds : List PyData} (h : ∀ x ∈ ds, fine B x = true ∧ x.depth ≤ k) (hc : cntAll ds + 1 ≤ W) : Gd B (k + 1) W (.tuple ds) := by
  have h1 := depthAll_le fun x hx => (h x hx).2
  exact ⟨by simp only [fine]; exact fineAll_iff.mpr fun x hx => (h x hx).1, by simp only [PyData.depth]; omega, by simpa only [cnt] using hc⟩
theorem Gd.lst {B k W : Nat} {ds : List PyData} (h : ∀ x ∈ ds, fine B x = true ∧ x.depth ≤ k) (hc : cntAll ds + 1 ≤ W) : Gd B (k + 1) W (.list ds) := by
  have h1 := depthAll_le fun x hx => (h x hx).2
  exact ⟨by simp only [fine]; exact fineAll_iff.mpr fun x hx => (h x hx).1, by simp only [PyData.depth]; omega, by simpa only [cnt] using hc⟩
/-! what may be written out -/
theorem log2_lt_of {n m : Nat} (h : n < 2 ^ m) (hm : 0 < m) : n.log2 < m := by
  by_cases h0 : n = 0
  · subst h0
    simpa using hm
  · exact (Nat.log2_lt h0).2 h
mutual
theorem fine_weight {B : Nat} (hB : B ≤ 10 ^ 60) : ∀ d : PyData, fine B d = true → d.weight ≤ 201 * cnt d - 1
  | .int i, h => by
    have h1 : i.natAbs < B := by simpa [fine] using h
    have := log2_lt_of (m := 200) (Nat.lt_of_lt_of_le h1 (Nat.le_trans hB (by decide))) (by decide)
    simp only [PyData.weight, cnt]
    split <;> omega
  | .list xs, h => by
    have := fine_weightAll hB xs (by simpa [fine] using h)
    simp only [PyData.weight, cnt]; omega
  | .tuple xs, h => by
    have := fine_weightAll hB xs (by simpa [fine] using h)
    simp only [PyData.weight, cnt]; omega
  | .dict _, h => by simp [fine] at h
  | .str x, h => by
    have h1 : PyData.strOk x = true ∧ x.cps.size ≤ 100 := by simpa [fine] using h
    simp only [PyData.weight, cnt]; omega
  | .none, _ => by simp [PyData.weight, cnt]
  | .bool _, _ => by simp [PyData.weight, cnt]
theorem fine_weightAll {B : Nat} (hB : B ≤ 10 ^ 60) : ∀ xs : List PyData, fineAll B xs = true → PyData.weightAll xs ≤ 201 * cntAll xs
  | [], _ => by simp [PyData.weightAll]
  | x :: xs, h => by
    have h' : fine B x = true ∧ fineAll B xs = true := by simpa [fineAll] using h
    have h1 := fine_weight hB x h'.1
    have h2 := fine_weightAll hB xs h'.2
    have h3 := cnt_pos x
    simp only [PyData.weightAll, cntAll]; omega
end
mutual
theorem fine_short {B : Nat} (hB : B ≤ 10 ^ 60) : ∀ d : PyData, fine B d = true → d.intsShort 80 = true
  | .int i, h => by
    have h1 : i.natAbs < B := by simpa [fine] using h
    have e := int_text_length_le10 (k := 60) (by decide) (Nat.lt_of_lt_of_le h1 hB)
    have e2 : (PyData.shown (.int i)).length ≤ 61 := by
      show (Str.ofString (toString i)).length ≤ 61
      rw [ofString_length]; exact e
    simp only [PyData.intsShort, decide_eq_true_eq]; omega
  | .list xs, h => by simpa [PyData.intsShort] using fine_shortAll hB xs (by simpa [fine] using h)
  | .tuple xs, h => by simpa [PyData.intsShort] using fine_shortAll hB xs (by simpa [fine] using h)
  | .dict _, h => by simp [fine] at h
  | .str x, h => by simp [PyData.intsShort]
  | .none, _ => by simp [PyData.intsShort]
  | .bool _, _ => by simp [PyData.intsShort]
theorem fine_shortAll {B : Nat} (hB : B ≤ 10 ^ 60) : ∀ xs : List PyData, fineAll B xs = true → PyData.intsShortAll 80 xs = true
  | [], _ => by simp [PyData.intsShortAll]
  | x :: xs, h => by
    have h' : fine B x = true ∧ fineAll B xs = true := by simpa [fineAll] using h
    simp [PyData.intsShortAll, fine_short hB x h'.1, fine_shortAll hB xs h'.2]
end
theorem Gd.shows {B k W : Nat} {d : PyData} (h : Gd B k W d) (hB : B ≤ 10 ^ 60) (hk : k ≤ 64) (hW : W ≤ 1000) : canShow d = true := by
  have h1 := fine_show (Nat.le_trans hB (by decide)) d h.f
  have h2 := PyData.hasDict_of_canLay d (fine_lay d h.f)
  have h3 := PyData.shown_le 80 (by decide) d (PyData.leavesShort_of_canLay0 80 d (fine_lay d h.f) (fine_short hB d h.f))
  have h4 := fine_weight hB d h.f
  have h5 := h.ct
  have h6 := h.dp
  unfold canShow
  rw [Bool.and_eq_true, Bool.and_eq_true, Bool.and_eq_true, decide_eq_true_eq, decide_eq_true_eq, Bool.not_eq_true', sizeLine_eq]
  exact ⟨⟨⟨h1, h2⟩, by omega⟩, by omega⟩
/-! checks of one value -/
def isLimD (n : Int) : PyData → Bool
  | .tuple [.tuple l, c] => lotFrom n (-1) l && decide (l ≠ []) && isNumD c
  | _ => false
theorem q_is_limit (n : Int) (d : PyData) (st : Sto) : p_is_limit [.d (.int n), .d d] st = .ok (.d (.bool (isLimD n d))) st := by
  cases d with
  | tuple ds =>
    match ds with
    | [] => simp [p_is_limit, b_is_limit, q_is_tuple_of, isLimD]
    | [x] => simp [p_is_limit, b_is_limit, q_is_tuple_of, isLimD]
    | [x, y] =>
      cases x with
      | tuple l =>
        by_cases h : lotFrom n (-1) l = true
        · cases l with
          | nil => simp [p_is_limit, b_is_limit, q_is_tuple_of, isLimD, at2, q_is_lot, isLotD, lotFrom]
          | cons a r =>
            have hp : (0 : Int) < (r.length : Int) + 1 := by omega
            simp [p_is_limit, b_is_limit, q_is_tuple_of, isLimD, at2, q_is_lot, isLotD, h, q_is_number, hp]
        · simp [p_is_limit, b_is_limit, q_is_tuple_of, isLimD, at2, q_is_lot, isLotD, h]
      | _ => simp [p_is_limit, b_is_limit, q_is_tuple_of, isLimD, at2, q_is_lot, isLotD]
    | x :: y :: z :: r =>
      have h : ¬ ((r.length : Int) + 1 + 1 + 1 = 2) := by omega
      simp [p_is_limit, b_is_limit, q_is_tuple_of, isLimD, h]
  | _ => simp [p_is_limit, b_is_limit, q_is_tuple_of, isLimD]
def isLinkD (n : Int) : PyData → Bool
  | .tuple [.int a, .int b] => decide (0 ≤ a) && decide (a < n) && (decide (0 ≤ b) && decide (b < n)) && decide (a ≤ b)
  | _ => false
theorem q_is_link (n : Int) (d : PyData) (st : Sto) : p_is_link [.d (.int n), .d d] st = .ok (.d (.bool (isLinkD n d))) st := by
  cases d with
  | tuple ds =>
    match ds with
    | [] => simp [p_is_link, b_is_link, q_is_tuple_of, isLinkD]
    | [x] => simp [p_is_link, b_is_link, q_is_tuple_of, isLinkD]
    | [x, y] =>
      cases x with
      | int a =>
        by_cases h : (decide (0 ≤ a) && decide (a < n)) = true
        · cases y with
          | int b =>
            by_cases h2 : (decide (0 ≤ b) && decide (b < n)) = true
            · simp [p_is_link, b_is_link, q_is_tuple_of, isLinkD, at2, q_is_below, isBelowD, h, h2]
            · simp [p_is_link, b_is_link, q_is_tuple_of, isLinkD, at2, q_is_below, isBelowD, h, h2]
          | _ => simp [p_is_link, b_is_link, q_is_tuple_of, isLinkD, at2, q_is_below, isBelowD, h]
        · cases y <;> simp [p_is_link, b_is_link, q_is_tuple_of, isLinkD, at2, q_is_below, isBelowD, h]
      | _ => simp [p_is_link, b_is_link, q_is_tuple_of, isLinkD, at2, q_is_below, isBelowD]
    | x :: y :: z :: r =>
      have h : ¬ ((r.length : Int) + 1 + 1 + 1 = 2) := by omega
      simp [p_is_link, b_is_link, q_is_tuple_of, isLinkD, h]
  | _ => simp [p_is_link, b_is_link, q_is_tuple_of, isLinkD]
end G
set_option Elab.async false
set_option linter.all false
set_option maxRecDepth 100000
set_option maxHeartbeats 2000000
namespace G
open PySem LF
/-! the words -/
@[simp] theorem at0 (x : PyData) (r : List PyData) : L2.atI (x :: r) 0 = some x := by simp [L2.atI, L2.ixN]
theorem eqv_str (a b : Str) : PyData.eqv (.str a) (.str b) = decide (a = b) := by
  simp [PyData.eqv, Bool.beq_eq_decide_eq]
@[simp] theorem ne0 : ((("limits" : Str)) = "slots") = False := eq_false (by decide)
@[simp] theorem ne1 : ((("limits" : Str)) = "web") = False := eq_false (by decide)
@[simp] theorem ne2 : ((("limits" : Str)) = "rows") = False := eq_false (by decide)
@[simp] theorem ne3 : ((("limits" : Str)) = "table") = False := eq_false (by decide)
@[simp] theorem ne4 : ((("limits" : Str)) = "beside") = False := eq_false (by decide)
@[simp] theorem ne5 : ((("limits" : Str)) = "no") = False := eq_false (by decide)
@[simp] theorem ne6 : ((("limits" : Str)) = "let") = False := eq_false (by decide)
@[simp] theorem ne7 : ((("limits" : Str)) = "") = False := eq_false (by decide)
@[simp] theorem ne8 : ((("limits" : Str)) = "row") = False := eq_false (by decide)
@[simp] theorem ne9 : ((("limits" : Str)) = "cross") = False := eq_false (by decide)
@[simp] theorem ne10 : ((("limits" : Str)) = "shape") = False := eq_false (by decide)
@[simp] theorem ne11 : ((("limits" : Str)) = "size") = False := eq_false (by decide)
@[simp] theorem ne12 : ((("limits" : Str)) = "number") = False := eq_false (by decide)
@[simp] theorem ne13 : ((("limits" : Str)) = "0") = False := eq_false (by decide)
@[simp] theorem ne14 : ((("slots" : Str)) = "limits") = False := eq_false (by decide)
@[simp] theorem ne15 : ((("slots" : Str)) = "web") = False := eq_false (by decide)
@[simp] theorem ne16 : ((("slots" : Str)) = "rows") = False := eq_false (by decide)
@[simp] theorem ne17 : ((("slots" : Str)) = "table") = False := eq_false (by decide)
@[simp] theorem ne18 : ((("slots" : Str)) = "beside") = False := eq_false (by decide)
@[simp] theorem ne19 : ((("slots" : Str)) = "no") = False := eq_false (by decide)
@[simp] theorem ne20 : ((("slots" : Str)) = "let") = False := eq_false (by decide)
@[simp] theorem ne21 : ((("slots" : Str)) = "") = False := eq_false (by decide)
@[simp] theorem ne22 : ((("slots" : Str)) = "row") = False := eq_false (by decide)
@[simp] theorem ne23 : ((("slots" : Str)) = "cross") = False := eq_false (by decide)
@[simp] theorem ne24 : ((("slots" : Str)) = "shape") = False := eq_false (by decide)
@[simp] theorem ne25 : ((("slots" : Str)) = "size") = False := eq_false (by decide)
@[simp] theorem ne26 : ((("slots" : Str)) = "number") = False := eq_false (by decide)
@[simp] theorem ne27 : ((("slots" : Str)) = "0") = False := eq_false (by decide)
@[simp] theorem ne28 : ((("web" : Str)) = "limits") = False := eq_false (by decide)
@[simp] theorem ne29 : ((("web" : Str)) = "slots") = False := eq_false (by decide)
@[simp] theorem ne30 : ((("web" : Str)) = "rows") = False := eq_false (by decide)
@[simp] theorem ne31 : ((("web" : Str)) = "table") = False := eq_false (by decide)
@[simp] theorem ne32 : ((("web" : Str)) = "beside") = False := eq_false (by decide)
@[simp] theorem ne33 : ((("web" : Str)) = "no") = False := eq_false (by decide)
@[simp] theorem ne34 : ((("web" : Str)) = "let") = False := eq_false (by decide)
@[simp] theorem ne35 : ((("web" : Str)) = "") = False := eq_false (by decide)
@[simp] theorem ne36 : ((("web" : Str)) = "row") = False := eq_false (by decide)
@[simp] theorem ne37 : ((("web" : Str)) = "cross") = False := eq_false (by decide)
@[simp] theorem ne38 : ((("web" : Str)) = "shape") = False := eq_false (by decide)
@[simp] theorem ne39 : ((("web" : Str)) = "size") = False := eq_false (by decide)
@[simp] theorem ne40 : ((("web" : Str)) = "number") = False := eq_false (by decide)
@[simp] theorem ne41 : ((("web" : Str)) = "0") = False := eq_false (by decide)
@[simp] theorem ne42 : ((("rows" : Str)) = "limits") = False := eq_false (by decide)
@[simp] theorem ne43 : ((("rows" : Str)) = "slots") = False := eq_false (by decide)
@[simp] theorem ne44 : ((("rows" : Str)) = "web") = False := eq_false (by decide)
@[simp] theorem ne45 : ((("rows" : Str)) = "table") = False := eq_false (by decide)
@[simp] theorem ne46 : ((("rows" : Str)) = "beside") = False := eq_false (by decide)
@[simp] theorem ne47 : ((("rows" : Str)) = "no") = False := eq_false (by decide)
@[simp] theorem ne48 : ((("rows" : Str)) = "let") = False := eq_false (by decide)
@[simp] theorem ne49 : ((("rows" : Str)) = "") = False := eq_false (by decide)
@[simp] theorem ne50 : ((("rows" : Str)) = "row") = False := eq_false (by decide)
@[simp] theorem ne51 : ((("rows" : Str)) = "cross") = False := eq_false (by decide)
@[simp] theorem ne52 : ((("rows" : Str)) = "shape") = False := eq_false (by decide)
@[simp] theorem ne53 : ((("rows" : Str)) = "size") = False := eq_false (by decide)
@[simp] theorem ne54 : ((("rows" : Str)) = "number") = False := eq_false (by decide)
@[simp] theorem ne55 : ((("rows" : Str)) = "0") = False := eq_false (by decide)
@[simp] theorem ne56 : ((("table" : Str)) = "limits") = False := eq_false (by decide)
@[simp] theorem ne57 : ((("table" : Str)) = "slots") = False := eq_false (by decide)
@[simp] theorem ne58 : ((("table" : Str)) = "web") = False := eq_false (by decide)
@[simp] theorem ne59 : ((("table" : Str)) = "rows") = False := eq_false (by decide)
@[simp] theorem ne60 : ((("table" : Str)) = "beside") = False := eq_false (by decide)
@[simp] theorem ne61 : ((("table" : Str)) = "no") = False := eq_false (by decide)
@[simp] theorem ne62 : ((("table" : Str)) = "let") = False := eq_false (by decide)
@[simp] theorem ne63 : ((("table" : Str)) = "") = False := eq_false (by decide)
@[simp] theorem ne64 : ((("table" : Str)) = "row") = False := eq_false (by decide)
@[simp] theorem ne65 : ((("table" : Str)) = "cross") = False := eq_false (by decide)
@[simp] theorem ne66 : ((("table" : Str)) = "shape") = False := eq_false (by decide)
@[simp] theorem ne67 : ((("table" : Str)) = "size") = False := eq_false (by decide)
@[simp] theorem ne68 : ((("table" : Str)) = "number") = False := eq_false (by decide)
@[simp] theorem ne69 : ((("table" : Str)) = "0") = False := eq_false (by decide)
@[simp] theorem ne70 : ((("beside" : Str)) = "limits") = False := eq_false (by decide)
@[simp] theorem ne71 : ((("beside" : Str)) = "slots") = False := eq_false (by decide)
@[simp] theorem ne72 : ((("beside" : Str)) = "web") = False := eq_false (by decide)
@[simp] theorem ne73 : ((("beside" : Str)) = "rows") = False := eq_false (by decide)
@[simp] theorem ne74 : ((("beside" : Str)) = "table") = False := eq_false (by decide)
@[simp] theorem ne75 : ((("beside" : Str)) = "no") = False := eq_false (by decide)
@[simp] theorem ne76 : ((("beside" : Str)) = "let") = False := eq_false (by decide)
@[simp] theorem ne77 : ((("beside" : Str)) = "") = False := eq_false (by decide)
@[simp] theorem ne78 : ((("beside" : Str)) = "row") = False := eq_false (by decide)
@[simp] theorem ne79 : ((("beside" : Str)) = "cross") = False := eq_false (by decide)
@[simp] theorem ne80 : ((("beside" : Str)) = "shape") = False := eq_false (by decide)
@[simp] theorem ne81 : ((("beside" : Str)) = "size") = False := eq_false (by decide)
@[simp] theorem ne82 : ((("beside" : Str)) = "number") = False := eq_false (by decide)
@[simp] theorem ne83 : ((("beside" : Str)) = "0") = False := eq_false (by decide)
@[simp] theorem ne84 : ((("no" : Str)) = "limits") = False := eq_false (by decide)
@[simp] theorem ne85 : ((("no" : Str)) = "slots") = False := eq_false (by decide)
@[simp] theorem ne86 : ((("no" : Str)) = "web") = False := eq_false (by decide)
@[simp] theorem ne87 : ((("no" : Str)) = "rows") = False := eq_false (by decide)
@[simp] theorem ne88 : ((("no" : Str)) = "table") = False := eq_false (by decide)
@[simp] theorem ne89 : ((("no" : Str)) = "beside") = False := eq_false (by decide)
@[simp] theorem ne90 : ((("no" : Str)) = "let") = False := eq_false (by decide)
@[simp] theorem ne91 : ((("no" : Str)) = "") = False := eq_false (by decide)
@[simp] theorem ne92 : ((("no" : Str)) = "row") = False := eq_false (by decide)
@[simp] theorem ne93 : ((("no" : Str)) = "cross") = False := eq_false (by decide)
@[simp] theorem ne94 : ((("no" : Str)) = "shape") = False := eq_false (by decide)
@[simp] theorem ne95 : ((("no" : Str)) = "size") = False := eq_false (by decide)
@[simp] theorem ne96 : ((("no" : Str)) = "number") = False := eq_false (by decide)
@[simp] theorem ne97 : ((("no" : Str)) = "0") = False := eq_false (by decide)
@[simp] theorem ne98 : ((("let" : Str)) = "limits") = False := eq_false (by decide)
@[simp] theorem ne99 : ((("let" : Str)) = "slots") = False := eq_false (by decide)
@[simp] theorem ne100 : ((("let" : Str)) = "web") = False := eq_false (by decide)
@[simp] theorem ne101 : ((("let" : Str)) = "rows") = False := eq_false (by decide)
@[simp] theorem ne102 : ((("let" : Str)) = "table") = False := eq_false (by decide)
@[simp] theorem ne103 : ((("let" : Str)) = "beside") = False := eq_false (by decide)
@[simp] theorem ne104 : ((("let" : Str)) = "no") = False := eq_false (by decide)
@[simp] theorem ne105 : ((("let" : Str)) = "") = False := eq_false (by decide)
@[simp] theorem ne106 : ((("let" : Str)) = "row") = False := eq_false (by decide)
@[simp] theorem ne107 : ((("let" : Str)) = "cross") = False := eq_false (by decide)
@[simp] theorem ne108 : ((("let" : Str)) = "shape") = False := eq_false (by decide)
@[simp] theorem ne109 : ((("let" : Str)) = "size") = False := eq_false (by decide)
@[simp] theorem ne110 : ((("let" : Str)) = "number") = False := eq_false (by decide)
@[simp] theorem ne111 : ((("let" : Str)) = "0") = False := eq_false (by decide)
@[simp] theorem ne112 : ((("" : Str)) = "limits") = False := eq_false (by decide)
@[simp] theorem ne113 : ((("" : Str)) = "slots") = False := eq_false (by decide)
@[simp] theorem ne114 : ((("" : Str)) = "web") = False := eq_false (by decide)
@[simp] theorem ne115 : ((("" : Str)) = "rows") = False := eq_false (by decide)
@[simp] theorem ne116 : ((("" : Str)) = "table") = False := eq_false (by decide)
@[simp] theorem ne117 : ((("" : Str)) = "beside") = False := eq_false (by decide)
@[simp] theorem ne118 : ((("" : Str)) = "no") = False := eq_false (by decide)
@[simp] theorem ne119 : ((("" : Str)) = "let") = False := eq_false (by decide)
@[simp] theorem ne120 : ((("" : Str)) = "row") = False := eq_false (by decide)
@[simp] theorem ne121 : ((("" : Str)) = "cross") = False := eq_false (by decide)
@[simp] theorem ne122 : ((("" : Str)) = "shape") = False := eq_false (by decide)
@[simp] theorem ne123 : ((("" : Str)) = "size") = False := eq_false (by decide)
@[simp] theorem ne124 : ((("" : Str)) = "number") = False := eq_false (by decide)
@[simp] theorem ne125 : ((("" : Str)) = "0") = False := eq_false (by decide)
@[simp] theorem ne126 : ((("row" : Str)) = "limits") = False := eq_false (by decide)
@[simp] theorem ne127 : ((("row" : Str)) = "slots") = False := eq_false (by decide)
@[simp] theorem ne128 : ((("row" : Str)) = "web") = False := eq_false (by decide)
@[simp] theorem ne129 : ((("row" : Str)) = "rows") = False := eq_false (by decide)
@[simp] theorem ne130 : ((("row" : Str)) = "table") = False := eq_false (by decide)
@[simp] theorem ne131 : ((("row" : Str)) = "beside") = False := eq_false (by decide)
@[simp] theorem ne132 : ((("row" : Str)) = "no") = False := eq_false (by decide)
@[simp] theorem ne133 : ((("row" : Str)) = "let") = False := eq_false (by decide)
@[simp] theorem ne134 : ((("row" : Str)) = "") = False := eq_false (by decide)
@[simp] theorem ne135 : ((("row" : Str)) = "cross") = False := eq_false (by decide)
@[simp] theorem ne136 : ((("row" : Str)) = "shape") = False := eq_false (by decide)
@[simp] theorem ne137 : ((("row" : Str)) = "size") = False := eq_false (by decide)
@[simp] theorem ne138 : ((("row" : Str)) = "number") = False := eq_false (by decide)
@[simp] theorem ne139 : ((("row" : Str)) = "0") = False := eq_false (by decide)
@[simp] theorem ne140 : ((("cross" : Str)) = "limits") = False := eq_false (by decide)
@[simp] theorem ne141 : ((("cross" : Str)) = "slots") = False := eq_false (by decide)
@[simp] theorem ne142 : ((("cross" : Str)) = "web") = False := eq_false (by decide)
@[simp] theorem ne143 : ((("cross" : Str)) = "rows") = False := eq_false (by decide)
@[simp] theorem ne144 : ((("cross" : Str)) = "table") = False := eq_false (by decide)
@[simp] theorem ne145 : ((("cross" : Str)) = "beside") = False := eq_false (by decide)
@[simp] theorem ne146 : ((("cross" : Str)) = "no") = False := eq_false (by decide)
@[simp] theorem ne147 : ((("cross" : Str)) = "let") = False := eq_false (by decide)
@[simp] theorem ne148 : ((("cross" : Str)) = "") = False := eq_false (by decide)
@[simp] theorem ne149 : ((("cross" : Str)) = "row") = False := eq_false (by decide)
@[simp] theorem ne150 : ((("cross" : Str)) = "shape") = False := eq_false (by decide)
@[simp] theorem ne151 : ((("cross" : Str)) = "size") = False := eq_false (by decide)
@[simp] theorem ne152 : ((("cross" : Str)) = "number") = False := eq_false (by decide)
@[simp] theorem ne153 : ((("cross" : Str)) = "0") = False := eq_false (by decide)
@[simp] theorem ne154 : ((("shape" : Str)) = "limits") = False := eq_false (by decide)
@[simp] theorem ne155 : ((("shape" : Str)) = "slots") = False := eq_false (by decide)
@[simp] theorem ne156 : ((("shape" : Str)) = "web") = False := eq_false (by decide)
@[simp] theorem ne157 : ((("shape" : Str)) = "rows") = False := eq_false (by decide)
@[simp] theorem ne158 : ((("shape" : Str)) = "table") = False := eq_false (by decide)
@[simp] theorem ne159 : ((("shape" : Str)) = "beside") = False := eq_false (by decide)
@[simp] theorem ne160 : ((("shape" : Str)) = "no") = False := eq_false (by decide)
@[simp] theorem ne161 : ((("shape" : Str)) = "let") = False := eq_false (by decide)
@[simp] theorem ne162 : ((("shape" : Str)) = "") = False := eq_false (by decide)
@[simp] theorem ne163 : ((("shape" : Str)) = "row") = False := eq_false (by decide)
@[simp] theorem ne164 : ((("shape" : Str)) = "cross") = False := eq_false (by decide)
@[simp] theorem ne165 : ((("shape" : Str)) = "size") = False := eq_false (by decide)
@[simp] theorem ne166 : ((("shape" : Str)) = "number") = False := eq_false (by decide)
@[simp] theorem ne167 : ((("shape" : Str)) = "0") = False := eq_false (by decide)
@[simp] theorem ne168 : ((("size" : Str)) = "limits") = False := eq_false (by decide)
@[simp] theorem ne169 : ((("size" : Str)) = "slots") = False := eq_false (by decide)
@[simp] theorem ne170 : ((("size" : Str)) = "web") = False := eq_false (by decide)
@[simp] theorem ne171 : ((("size" : Str)) = "rows") = False := eq_false (by decide)
@[simp] theorem ne172 : ((("size" : Str)) = "table") = False := eq_false (by decide)
@[simp] theorem ne173 : ((("size" : Str)) = "beside") = False := eq_false (by decide)
@[simp] theorem ne174 : ((("size" : Str)) = "no") = False := eq_false (by decide)
@[simp] theorem ne175 : ((("size" : Str)) = "let") = False := eq_false (by decide)
@[simp] theorem ne176 : ((("size" : Str)) = "") = False := eq_false (by decide)
@[simp] theorem ne177 : ((("size" : Str)) = "row") = False := eq_false (by decide)
@[simp] theorem ne178 : ((("size" : Str)) = "cross") = False := eq_false (by decide)
@[simp] theorem ne179 : ((("size" : Str)) = "shape") = False := eq_false (by decide)
@[simp] theorem ne180 : ((("size" : Str)) = "number") = False := eq_false (by decide)
@[simp] theorem ne181 : ((("size" : Str)) = "0") = False := eq_false (by decide)
@[simp] theorem ne182 : ((("number" : Str)) = "limits") = False := eq_false (by decide)
@[simp] theorem ne183 : ((("number" : Str)) = "slots") = False := eq_false (by decide)
@[simp] theorem ne184 : ((("number" : Str)) = "web") = False := eq_false (by decide)
@[simp] theorem ne185 : ((("number" : Str)) = "rows") = False := eq_false (by decide)
@[simp] theorem ne186 : ((("number" : Str)) = "table") = False := eq_false (by decide)
@[simp] theorem ne187 : ((("number" : Str)) = "beside") = False := eq_false (by decide)
@[simp] theorem ne188 : ((("number" : Str)) = "no") = False := eq_false (by decide)
@[simp] theorem ne189 : ((("number" : Str)) = "let") = False := eq_false (by decide)
@[simp] theorem ne190 : ((("number" : Str)) = "") = False := eq_false (by decide)
@[simp] theorem ne191 : ((("number" : Str)) = "row") = False := eq_false (by decide)
@[simp] theorem ne192 : ((("number" : Str)) = "cross") = False := eq_false (by decide)
@[simp] theorem ne193 : ((("number" : Str)) = "shape") = False := eq_false (by decide)
@[simp] theorem ne194 : ((("number" : Str)) = "size") = False := eq_false (by decide)
@[simp] theorem ne195 : ((("number" : Str)) = "0") = False := eq_false (by decide)
@[simp] theorem ne196 : ((("0" : Str)) = "limits") = False := eq_false (by decide)
@[simp] theorem ne197 : ((("0" : Str)) = "slots") = False := eq_false (by decide)
@[simp] theorem ne198 : ((("0" : Str)) = "web") = False := eq_false (by decide)
@[simp] theorem ne199 : ((("0" : Str)) = "rows") = False := eq_false (by decide)
@[simp] theorem ne200 : ((("0" : Str)) = "table") = False := eq_false (by decide)
@[simp] theorem ne201 : ((("0" : Str)) = "beside") = False := eq_false (by decide)
@[simp] theorem ne202 : ((("0" : Str)) = "no") = False := eq_false (by decide)
@[simp] theorem ne203 : ((("0" : Str)) = "let") = False := eq_false (by decide)
@[simp] theorem ne204 : ((("0" : Str)) = "") = False := eq_false (by decide)
@[simp] theorem ne205 : ((("0" : Str)) = "row") = False := eq_false (by decide)
@[simp] theorem ne206 : ((("0" : Str)) = "cross") = False := eq_false (by decide)
@[simp] theorem ne207 : ((("0" : Str)) = "shape") = False := eq_false (by decide)
@[simp] theorem ne208 : ((("0" : Str)) = "size") = False := eq_false (by decide)
@[simp] theorem ne209 : ((("0" : Str)) = "number") = False := eq_false (by decide)
@[simp] theorem shl0 : SeqAt.shaped (.str "limits") = true := by decide +kernel
@[simp] theorem shl1 : SeqAt.shaped (.str "slots") = true := by decide +kernel
@[simp] theorem shl2 : SeqAt.shaped (.str "web") = true := by decide +kernel
@[simp] theorem shl3 : SeqAt.shaped (.str "rows") = true := by decide +kernel
@[simp] theorem shl4 : SeqAt.shaped (.str "table") = true := by decide +kernel
@[simp] theorem shl5 : SeqAt.shaped (.str "beside") = true := by decide +kernel
@[simp] theorem shl6 : SeqAt.shaped (.str "no") = true := by decide +kernel
@[simp] theorem shl7 : SeqAt.shaped (.str "let") = true := by decide +kernel
@[simp] theorem shl8 : SeqAt.shaped (.str "") = true := by decide +kernel
@[simp] theorem shl9 : SeqAt.shaped (.str "row") = true := by decide +kernel
@[simp] theorem shl10 : SeqAt.shaped (.str "cross") = true := by decide +kernel
@[simp] theorem shl11 : SeqAt.shaped (.str "shape") = true := by decide +kernel
@[simp] theorem shl12 : SeqAt.shaped (.str "size") = true := by decide +kernel
@[simp] theorem shl13 : SeqAt.shaped (.str "number") = true := by decide +kernel
@[simp] theorem shl14 : SeqAt.shaped (.str "0") = true := by decide +kernel
theorem wd : decide (("limits" : Str) = "slots") = false ∧ decide (("limits" : Str) = "web") = false := by decide
inductive Wd where
  | limits | slots | web | rows | table | beside
  deriving DecidableEq
def Wd.s : Wd → Str
  | .limits => "limits"
  | .slots => "slots"
  | .web => "web"
  | .rows => "rows"
  | .table => "table"
  | .beside => "beside"
def wdOf (s : Str) : Option Wd :=
  if s = "limits" then some .limits else if s = "slots" then some .slots else if s = "web" then some .web else if s = "rows" then some .rows else if s = "table" then some .table else if s = "beside" then some .beside else none
theorem wdOf_some {s : Str} {w : Wd} (h : wdOf s = some w) : s = w.s := by
  unfold wdOf at h
  split at h; · cases h; assumption
  split at h; · cases h; assumption
  split at h; · cases h; assumption
  split at h; · cases h; assumption
  split at h; · cases h; assumption
  split at h; · cases h; assumption
  cases h
theorem wdOf_none {s : Str} (h : wdOf s = none) : s ≠ "limits" ∧ s ≠ "slots" ∧ s ≠ "web" ∧ s ≠ "rows" ∧ s ≠ "table" ∧ s ≠ "beside" := by
  unfold wdOf at h
  split at h; · cases h
  split at h; · cases h
  split at h; · cases h
  split at h; · cases h
  split at h; · cases h
  split at h; · cases h
  exact ⟨by assumption, by assumption, by assumption, by assumption, by assumption, by assumption⟩
theorem wdOf_s (w : Wd) : wdOf w.s = some w := by cases w <;> decide
theorem eq_lit (w : Wd) : decide (w.s = "limits") = decide (w = .limits) ∧ decide (w.s = "slots") = decide (w = .slots) ∧ decide (w.s = "web") = decide (w = .web) ∧ decide (w.s = "rows") = decide (w = .rows) ∧ decide (w.s = "table") = decide (w = .table) ∧ decide (w.s = "beside") = decide (w = .beside) := by
  cases w <;> decide
theorem sh_str_of {s : Str} (h : PyData.strOk s = true) : SeqAt.shaped (.str s) = true := by simp [SeqAt.shaped, PyData.canLay0, PyData.depth, h]
theorem sh_wd (w : Wd) : SeqAt.shaped (.str w.s) = true := by cases w <;> decide +kernel
theorem sh_words : SeqAt.shaped d_WORDS = true := by decide +kernel
theorem sh_primes : SeqAt.shaped d_PRIMES = true := by decide +kernel
def shapeD : PyData → Bool
  | .tuple (.str s :: r) => match wdOf s with
    | none => false
    | some .beside => decide (r.length = 1)
    | some _ => decide (r.length = 2)
  | _ => false
theorem eqv_str_no {s : Str} {d : PyData} (h : ∀ t, d ≠ .str t) : PyData.eqv (.str s) d = false := by
  cases d <;> simp [PyData.eqv] at h ⊢
theorem q_has_shape {B k W : Nat} (d : PyData) (hd : Gd B k W d) (hk : k ≤ 64) (st : Sto) : p_has_shape [.d d] st = .ok (.d (.bool (shapeD d))) st := by
  cases d with
  | tuple ds =>
    cases ds with
    | nil => simp [p_has_shape, b_has_shape, shapeD, PyData.eqv]
    | cons x r =>
      have hx := (hd.tup_el x (by simp)).sh
      have hl : ((r.length : Int) + 1 = 0) = False := by simp; omega
      have hw := sh_words
      by_cases hs : ∃ s, x = .str s
      · obtain ⟨s, rfl⟩ := hs
        cases hw2 : wdOf s with
        | none =>
          obtain ⟨h1, h2, h3, h4, h5, h6⟩ := wdOf_none hw2
          simp only [d_WORDS] at hw
          simp [p_has_shape, b_has_shape, shapeD, PyData.eqv, hl, hx, hw, d_WORDS, hw2, h1.symm, h2.symm, h3.symm, h4.symm, h5.symm, h6.symm]
        | some w =>
          have := wdOf_some hw2
          subst this
          have ew := eq_lit w
          simp only [d_WORDS] at hw
          cases w <;> simp only [Wd.s] at hx hw2 ⊢ <;> simp [p_has_shape, b_has_shape, shapeD, PyData.eqv, hl, hx, hw, d_WORDS, hw2]
          all_goals (rw [Bool.eq_iff_iff, beq_iff_eq, decide_eq_true_eq]; omega)
      · have hn : ∀ t, x ≠ .str t := fun t h => hs ⟨t, h⟩
        simp only [d_WORDS] at hw
        cases x with
        | str s => exact absurd rfl (hn s)
        | _ => simp [p_has_shape, b_has_shape, hl, hx, hw, d_WORDS, shapeD, PyData.eqv]
  | _ => simp [p_has_shape, b_has_shape, shapeD]
/-- the second value, by its word -/
def secD (w : Wd) (d : PyData) : Bool := match w with
  | .rows => match d with
    | .int i => decide (i = 2) || decide (i = 3) || decide (i = 5) || decide (i = 7)
    | _ => false
  | .table => match d with
    | .int i => decide (0 ≤ i) && decide (i ≤ 12)
    | _ => false
  | _ => isNumD d
theorem q_is_second (w : Wd) (d : PyData) (st : Sto) : p_is_second [.d (.str w.s), .d d] st = .ok (.d (.bool (secD w d))) st := by
  have hp := sh_primes
  simp only [d_PRIMES] at hp
  cases d with
  | int i =>
    by_cases h : 0 ≤ i
    · cases w <;> simp [p_is_second, b_is_second, q_is_number, isNumD, secD, h, Wd.s, eqv_str, hp, d_PRIMES, d_GREATEST_TABLE, PyData.eqv]
      all_goals (rw [Bool.eq_iff_iff]; simp only [Bool.or_eq_true, beq_iff_eq, decide_eq_true_eq]; omega)
    · cases w <;> simp [p_is_second, b_is_second, q_is_number, isNumD, secD, h, Wd.s, eqv_str]
      omega
  | _ => cases w <;> simp [p_is_second, b_is_second, q_is_number, isNumD, secD, Wd.s, eqv_str]
/-- the third value's form -/
def rowsD (w : Wd) (n : Int) (d : PyData) : Bool := match d with
  | .tuple ds => match w with
    | .table => decide ((ds.length : Int) = 2 ^ n.toNat)
    | _ => true
  | _ => false
theorem q_are_rows (w : Wd) (n : Int) (hn : 0 ≤ n) (hn2 : w = .table → n ≤ 12) (d : PyData) (st : Sto) : p_are_rows [.d (.str w.s), .d (.int n), .d d] st = .ok (.d (.bool (rowsD w n d))) st := by
  have ew := eq_lit w
  by_cases hw : w = .table
  · subst hw
    have := hn2 rfl
    have hc : cPow 1 n = true := by unfold cPow; simp; omega
    cases d <;> simp [p_are_rows, b_are_rows, rowsD, eqv_str, Wd.s, hc, q_is_tuple_of]
  · cases d with
    | tuple ds => cases w <;> simp [p_are_rows, b_are_rows, rowsD, eqv_str, Wd.s] at hw ⊢
    | _ => cases w <;> simp [p_are_rows, b_are_rows, rowsD, eqv_str, Wd.s] at hw ⊢
/-! a row of numbers -/
def lineD (p : Int) (m : Nat) : PyData → Bool
  | .tuple ds => decide (ds.length = m) && allBelow p ds
  | _ => false
theorem q_is_line (p : Int) (rs : List PyData) (k : Int) (d : PyData) (l : List PyData) (hd : L2.atI rs k = some d) (h0 : L2.atI rs 0 = some (.tuple l)) (hz : l.length ≤ bigN) (st : Sto) :
    p_is_line [.d (.int p), .d (.tuple rs), .d (.int k)] st = .ok (.d (.bool (lineD p l.length d))) st := by
  cases d with
  | tuple ds =>
    by_cases h1 : ds.length = l.length
    · have e := q_allb p ds st 4 0 [some (.d (.int p)), some (.d (.tuple rs)), some (.d (.int k)), some (.d (.tuple ds)), none] rfl (by decide) (show 4 < 5 by decide)
      have hz2 : ds.length ≤ bigN := by omega
      have hq : (((ds.length : Nat) : Int) == ((l.length : Nat) : Int)) = true := by rw [h1]; simp
      cases hb : allBelow p ds with
      | false =>
        have hx : ∃ x, x ∈ ds ∧ isBelowD p x = false := by
          unfold allBelow at hb
          simpa using List.all_eq_false.mp hb
        simp [p_is_line, b_is_line, hd, h0, lineD, h1, hz, e, boolsOf_map, hx, hb, PyData.eqv]
      | true =>
        have hx : ∀ x ∈ ds, isBelowD p x = true := List.all_eq_true.mp hb
        simp [p_is_line, b_is_line, hd, h0, lineD, h1, hz, e, boolsOf_map, hx, hb, PyData.eqv]
        exact hx
    · have hq : (((ds.length : Nat) : Int) = ((l.length : Nat) : Int)) = False := by simp; omega
      simp [p_is_line, b_is_line, hd, h0, lineD, h1, PyData.eqv, hq]
  | _ => simp [p_is_line, b_is_line, hd, h0, lineD]
theorem q_is_line_no (p : Int) (rs : List PyData) (k : Int) (d : PyData) (hd : L2.atI rs k = some d) (hn : ∀ l, d ≠ .tuple l) (st : Sto) :
    p_is_line [.d (.int p), .d (.tuple rs), .d (.int k)] st = .ok (.d (.bool false)) st := by
  cases d with
  | tuple ds => exact absurd rfl (hn ds)
  | _ => simp [p_is_line, b_is_line, hd]
end G
set_option Elab.async false
set_option linter.all false
set_option maxRecDepth 100000
set_option maxHeartbeats 2000000
namespace G
open PySem LF
/-! lots of limits -/
theorem lot_ints {n : Int} : ∀ {m : Int} {l : List PyData}, lotFrom n m l = true → l = (intsB l).map .int ∧ (∀ i ∈ intsB l, m < i ∧ 0 ≤ i ∧ i < n) ∧ (intsB l).Pairwise (· < ·)
  | m, [], _ => ⟨rfl, by simp [intsB], by simp [intsB]⟩
  | m, d :: r, h => by
    cases d with
    | int i =>
      simp only [lotFrom, Bool.and_eq_true, decide_eq_true_eq] at h
      obtain ⟨e1, e2, e3⟩ := lot_ints h.2
      refine ⟨?_, ?_, ?_⟩
      · simp only [intsB, List.map_cons]
        rw [← e1]
      · intro j hj
        simp only [intsB, List.mem_cons] at hj
        rcases hj with rfl | hj
        · exact ⟨h.1.2, h.1.1.1, h.1.1.2⟩
        · have := e2 j hj
          omega
      · simp only [intsB, List.pairwise_cons]
        exact ⟨fun j hj => (e2 j hj).1, e3⟩
    | _ => simp [lotFrom] at h
def lotI : PyData → List Int
  | .tuple [.tuple l, _] => intsB l
  | _ => []
theorem lim_form {n : Int} {d : PyData} (h : isLimD n d = true) : ∃ c : Int, d = .tuple [.tuple ((lotI d).map .int), .int c] ∧ (lotI d).Pairwise (· < ·) ∧ lotI d ≠ [] ∧ 0 ≤ c := by
  unfold isLimD at h
  split at h
  · rename_i l c
    simp only [Bool.and_eq_true, decide_eq_true_eq] at h
    obtain ⟨⟨h1, h2⟩, h3⟩ := h
    obtain ⟨e1, e2, e3⟩ := lot_ints h1
    cases c with
    | int c =>
      simp only [isNumD, decide_eq_true_eq] at h3
      refine ⟨c, ?_, e3, ?_, h3⟩
      · simp only [lotI]
        rw [← e1]
      · simp only [lotI]
        intro h0
        rw [h0] at e1
        exact h2 e1
    | _ => simp [isNumD] at h3
  · cases h
theorem eqvAll_ints : ∀ a b : List Int, PyData.eqvAll (a.map .int) (b.map .int) = decide (a = b)
  | [], [] => by simp [PyData.eqvAll]
  | [], y :: b => by simp [PyData.eqvAll]
  | x :: a, [] => by simp [PyData.eqvAll]
  | x :: a, y :: b => by
    simp only [List.map_cons, PyData.eqvAll, eqvAll_ints a b, PyData.eqv]
    rw [Bool.eq_iff_iff, Bool.and_eq_true, beq_iff_eq, decide_eq_true_eq, decide_eq_true_eq]
    simp
theorem canLay_ints : ∀ a : List Int, PyData.canLayAll0 (a.map .int) = true
  | [] => by simp [PyData.canLayAll0]
  | x :: a => by simp [PyData.canLayAll0, PyData.canLay0, canLay_ints a]
theorem depth_ints : ∀ a : List Int, PyData.depthAll (a.map .int) = 0
  | [] => by simp [PyData.depthAll]
  | x :: a => by simp [PyData.depthAll, PyData.depth, depth_ints a]
theorem sh_ints (a : List Int) : SeqAt.shaped (.tuple (a.map .int)) = true := by
  simp [SeqAt.shaped, PyData.canLay0, PyData.depth, canLay_ints, depth_ints]
theorem any_ints (i : Int) : ∀ b : List Int, ((b.map PyData.int).any fun z => PyData.eqv z (.int i)) = decide (i ∈ b)
  | [] => by simp
  | x :: b => by
    rw [List.map_cons, List.any_cons, any_ints i b, Bool.eq_iff_iff]
    simp only [PyData.eqv, Bool.or_eq_true, beq_iff_eq, decide_eq_true_eq, List.mem_cons]
    constructor
    · rintro (rfl | h)
      · exact .inl rfl
      · exact .inr h
    · rintro (rfl | h)
      · exact .inl rfl
      · exact .inr h
/-- how many of the one are in the other -/
def crs (a b : List Int) : Nat := (a.filter fun i => decide (i ∈ b)).length
def apartL (a b : List Int) : Bool := decide (a ≠ b) && (decide (crs a b = 0) || (decide (crs a b = a.length) || decide (crs a b = b.length)))
theorem crs_le (a b : List Int) (ha : a.Nodup) (hb : b.Nodup) : crs a b ≤ crs b a := by
  unfold crs
  apply List.Nodup.length_le_of_subset (ha.filter _)
  intro x hx
  simp only [List.mem_filter, decide_eq_true_eq] at hx ⊢
  exact ⟨hx.2, hx.1⟩
theorem crs_comm (a b : List Int) (ha : a.Nodup) (hb : b.Nodup) : crs a b = crs b a := Nat.le_antisymm (crs_le a b ha hb) (crs_le b a hb ha)
theorem nodup_of_lt {a : List Int} (h : a.Pairwise (· < ·)) : a.Nodup := h.imp fun h => by omega
theorem beq_nat (a b : Nat) : (((a : Nat) : Int) == ((b : Nat) : Int)) = decide (a = b) := by
  rw [Bool.eq_iff_iff, beq_iff_eq, decide_eq_true_eq]
  omega
theorem beq_nat0 (a : Nat) : (((a : Nat) : Int) == 0) = decide (a = 0) := by
  rw [Bool.eq_iff_iff, beq_iff_eq, decide_eq_true_eq]
  omega
theorem q_apart (a b : List Int) (ha : a.length ≤ bigN) (st : Sto) : p__law_apart [.d (.tuple (a.map .int)), .d (.tuple (b.map .int))] st = .ok (.d (.bool (apartL a b))) st := by
  have s1 := sh_ints a
  have s2 := sh_ints b
  have e := comp_ints (i := 3) (test := gB (g2 (pIn id) (gVar 3) (gVar 1))) (elt := gVar 3) (wenv := [some (.d (.tuple (a.map .int))), some (.d (.tuple (b.map .int))), none, none]) (st := st) (fun i => decide (i ∈ b)) (fun i => .int i) a (fun i _ => by
      have := any_ints i b
      simp [s2] at this ⊢
      rw [this]) (fun i _ _ => rfl)
  have hq := eqvAll_ints a b
  have hl : ((a.filter fun i => decide (i ∈ b)).map PyData.int).length = crs a b := by rw [List.length_map]; rfl
  have z : b__law_apart [some (.d (.tuple (a.map .int))), some (.d (.tuple (b.map .int))), none, none] st = .rt (.d (.bool (apartL a b))) st := by
    unfold b__law_apart
    rw [seq_nx (env' := [some (.d (.tuple (a.map .int))), some (.d (.tuple (b.map .int))), some (.d (.list ((a.filter fun i => decide (i ∈ b)).map .int))), none]) (st' := st) (by
      have hz : (a.map PyData.int).length ≤ bigN := by rw [List.length_map]; exact ha
      simp only [sSet, gComp, giSeq, gVar]
      simp [hz, e, ha])]
    have hl2 : (a.filter fun i => decide (i ∈ b)).length = crs a b := rfl
    by_cases h1 : a = b
    · subst h1
      simp [s1, hq, hl2, apartL, PyData.eqv]
    · by_cases h2 : crs a b = 0
      · simp [s1, s2, hq, hl2, apartL, h1, h2, PyData.eqv]
      · by_cases h3 : crs a b = a.length
        · simp [s1, s2, hq, hl2, apartL, h1, h2, h3, PyData.eqv, beq_nat, beq_nat0]
        · simp [s1, s2, hq, hl2, apartL, h1, h2, h3, PyData.eqv, beq_nat, beq_nat0]
  have w := run_rt (m := 4) (b := b__law_apart) (as := [.d (.tuple (a.map .int)), .d (.tuple (b.map .int))]) z
  rw [List.take_length] at w
  exact w
/-! each value once -/
theorem dedup_of_nodup : ∀ {a : List Int}, a.Nodup → a.eraseDups = a
  | [], _ => by simp
  | x :: a, h => by
    rw [List.nodup_cons] at h
    rw [List.eraseDups_cons]
    have e : (a.filter fun b => !b == x) = a := List.filter_eq_self.mpr fun b hb => by
      have : b ≠ x := fun q => h.1 (q ▸ hb)
      simp [this]
    rw [e, dedup_of_nodup h.2]
theorem dedup_facts : ∀ (n : Nat) (a : List Int), a.length ≤ n → a.eraseDups.Nodup ∧ ∀ x, x ∈ a.eraseDups ↔ x ∈ a
  | _, [], _ => by simp
  | n + 1, x :: a, h => by
    rw [List.eraseDups_cons]
    have hl : (a.filter fun b => !b == x).length ≤ n := Nat.le_trans (List.length_filter_le ..) (by simpa using h)
    obtain ⟨h1, h2⟩ := dedup_facts n _ hl
    refine ⟨?_, ?_⟩
    · rw [List.nodup_cons]
      refine ⟨fun hx => ?_, h1⟩
      have := (h2 x).mp hx
      simp at this
    · intro y
      rw [List.mem_cons, List.mem_cons, h2 y]
      by_cases q : y = x
      · simp [q]
      · simp [q]
/-! no crossing -/
theorem crs_self (b : List Int) : crs b b = b.length := by
  unfold crs
  rw [List.filter_eq_self.mpr fun x hx => by simpa using hx]
def uncB : GS := (sSeq (sSet 5 (gLenCap (gVar 2) (gVar 3))) (sSeq (sIf (gAnd (gB (g2 pNe (gVar 5) (gC (.int 0)))) (gAnd (gB (g2 pNe (gVar 5) (gB1 pLen (LF.gCons (gVar 2) LF.gNil)))) (gB (g2 pNe (gVar 5) (gB1 pLen (LF.gCons (gVar 3) LF.gNil)))))) (sRet (gC (.bool false))) sNil) (sIf (gB (g2 pEq (gVar 2) (gVar 3))) (sRet (gC (.bool false))) sNil)))
theorem unc_step (a b : List Int) (ha : a.Pairwise (· < ·)) (hb : b.Pairwise (· < ·)) (hla : a.length ≤ 1000) (hlb : b.length ≤ 1000) (r k u c : Option A) (st : Sto) :
    uncB [r, k, some (.d (.tuple (a.map .int))), some (.d (.tuple (b.map .int))), u, c] st = if apartL b a = true then .nx [r, k, some (.d (.tuple (a.map .int))), some (.d (.tuple (b.map .int))), u, some (.d (.int (crs b a : Nat)))] st else .rt (.d (.bool false)) st := by
  have e1 := intsOf_ints a
  have e2 := intsOf_ints b
  have hc : (a.eraseDups.filter fun n => decide (n ∈ b)).length = crs b a := by
    rw [dedup_of_nodup (nodup_of_lt ha), crs_comm b a (nodup_of_lt hb) (nodup_of_lt ha)]
    rfl
  have s1 := sh_ints a
  have s2 := sh_ints b
  have hq := eqvAll_ints a b
  by_cases h1 : b = a
  · subst h1
    have h5 := crs_self b
    by_cases h4 : b.length = 0
    · simp [uncB, e1, hla, hc, s1, hq, apartL, PyData.eqv, beq_nat, beq_nat0, h5, h4]
    · simp [uncB, e1, hla, hc, s1, hq, apartL, PyData.eqv, beq_nat, beq_nat0, h5, h4]
  · have h1' : ¬ a = b := fun h => h1 h.symm
    by_cases h2 : crs b a = 0
    · simp [uncB, e1, e2, hla, hlb, hc, s1, s2, hq, apartL, h1, h1', h2, PyData.eqv, beq_nat, beq_nat0]
    · by_cases h3 : crs b a = b.length
      · by_cases h4 : b.length = a.length
        · simp [uncB, e1, e2, hla, hlb, hc, s1, s2, hq, apartL, h1, h1', h2, h3, h4, PyData.eqv, beq_nat, beq_nat0]
        · simp [uncB, e1, e2, hla, hlb, hc, s1, s2, hq, apartL, h1, h1', h2, h3, h4, PyData.eqv, beq_nat, beq_nat0]
      · by_cases h4 : crs b a = a.length
        · simp [uncB, e1, e2, hla, hlb, hc, s1, s2, hq, apartL, h1, h1', h2, h3, h4, PyData.eqv, beq_nat, beq_nat0]
        · simp [uncB, e1, e2, hla, hlb, hc, s1, s2, hq, apartL, h1, h1', h2, h3, h4, PyData.eqv, beq_nat, beq_nat0]
theorem unc_loop (n : Int) (a : List Int) (ha : a.Pairwise (· < ·)) (hla : a.length ≤ 1000) (r k : Option A) (st : Sto) : ∀ (ps : List PyData) (_ : ∀ p ∈ ps, isLimD n p = true) (_ : ∀ p ∈ ps, (lotI p).length ≤ 1000) (o u c : Option A),
    ∃ env, forD (fun _ => True) (ggTup [(ggName 3), (ggName 4)]) uncB ps [r, k, some (.d (.tuple (a.map .int))), o, u, c] st = if ps.all (fun p => apartL (lotI p) a) = true then .nx env st else .rt (.d (.bool false)) st
  | [], _, _, o, u, c => ⟨_, by simp; rfl⟩
  | p :: ps, h, hl, o, u, c => by
    obtain ⟨q, e1, e2, e3, e4⟩ := lim_form (h p (by simp))
    have hs := unc_step a (lotI p) ha e2 hla (hl p (by simp)) r k (some (.d (.int q))) c st
    obtain ⟨env, he⟩ := unc_loop n a ha hla r k st ps (fun p hp => h p (by simp [hp])) (fun p hp => hl p (by simp [hp])) (some (.d (.tuple ((lotI p).map .int)))) (some (.d (.int q))) (some (.d (.int (crs (lotI p) a : Nat))))
    refine ⟨env, ?_⟩
    have hg : ggTup [(ggName 3), (ggName 4)] p [r, k, some (.d (.tuple (a.map .int))), o, u, c] = some [r, k, some (.d (.tuple (a.map .int))), some (.d (.tuple ((lotI p).map .int))), some (.d (.int q)), c] := by
      rw [e1]
      have : lotI (PyData.tuple [PyData.tuple ((lotI p).map .int), PyData.int q]) = lotI p := by rw [← e1]
      rw [this]
      rfl
    rw [forD_consT trivial hg, hs]
    by_cases h5 : apartL (lotI p) a = true
    · simp only [h5, if_true, forK_nx, he, List.all_cons, Bool.true_and]
    · simp [h5]
end G
set_option Elab.async false
set_option linter.all false
set_option maxRecDepth 100000
set_option maxHeartbeats 2000000
namespace G
open PySem LF
theorem atI_nat {rs : List PyData} {k : Nat} {d : PyData} (h : rs[k]? = some d) : L2.atI rs (k : Int) = some d := by
  have hl : k < rs.length := (List.getElem?_eq_some_iff.mp h).1
  unfold L2.atI L2.ixN
  rw [if_pos (by omega), if_pos (by omega), Option.bind_some, Int.toNat_natCast]
  exact h
theorem cut_take (rs : List PyData) (k : Nat) (h : k ≤ rs.length) : cutD rs none (some (k : Int)) = rs.take k := by
  unfold cutD
  rw [HT.sIx_none, HT.sIx_nat, List.drop_zero, Nat.sub_zero, Nat.min_eq_left h]
theorem seq_rt {a b : GS} {env : LF.Env} {st st2 : Sto} {x : A} (h : a env st = .rt x st2) : sSeq a b env st = .rt x st2 := by
  unfold sSeq
  rw [h]
theorem q_unc (n : Int) (rs : List PyData) (k : Nat) (d : PyData) (hd : rs[k]? = some d) (h : isLimD n d = true) (hp : ∀ p ∈ rs.take k, isLimD n p = true) (hl : ∀ p ∈ rs, (lotI p).length ≤ 1000) (st : Sto) :
    p_is_uncrossed [.d (.tuple rs), .d (.int (k : Nat))] st = .ok (.d (.bool ((rs.take k).all fun p => apartL (lotI p) (lotI d)))) st := by
  obtain ⟨c, e1, e2, e3, e4⟩ := lim_form h
  have hk : k < rs.length := (List.getElem?_eq_some_iff.mp hd).1
  have ha := atI_nat hd
  obtain ⟨env, he⟩ := unc_loop n (lotI d) e2 (hl d (List.mem_of_getElem? hd)) (some (.d (.tuple rs))) (some (.d (.int (k : Nat)))) st (rs.take k) hp (fun p hp => hl p (List.mem_of_mem_take hp)) none none none
  have z : b_is_uncrossed [some (.d (.tuple rs)), some (.d (.int (k : Nat))), none, none, none, none] st = .rt (.d (.bool ((rs.take k).all fun p => apartL (lotI p) (lotI d)))) st := by
    unfold b_is_uncrossed
    rw [seq_nx (env' := [some (.d (.tuple rs)), some (.d (.int (k : Nat))), some (.d (.tuple ((lotI d).map .int))), none, none, none]) (st' := st) (by
      rw [e1] at ha
      simp [ha, at2])]
    have hf : sFor (giSeq (gSl (gVar 0) oNone (oSome (gVar 1)))) (ggTup [(ggName 3), (ggName 4)]) uncB [some (.d (.tuple rs)), some (.d (.int (k : Nat))), some (.d (.tuple ((lotI d).map .int))), none, none, none] st = forD (fun _ => True) (ggTup [(ggName 3), (ggName 4)]) uncB (rs.take k) [some (.d (.tuple rs)), some (.d (.int (k : Nat))), some (.d (.tuple ((lotI d).map .int))), none, none, none] st := by
      simp [cut_take rs k (by omega)]
    rw [he] at hf
    unfold uncB at hf
    cases hq : (rs.take k).all fun p => apartL (lotI p) (lotI d) with
    | true =>
      rw [hq, if_pos rfl] at hf
      rw [seq_nx hf]
      simp
    | false =>
      rw [hq, if_neg (by simp)] at hf
      rw [show sSeq _ _ _ _ = _ from seq_rt hf]
  have w := run_rt (m := 6) (b := b_is_uncrossed) (as := [.d (.tuple rs), .d (.int (k : Nat))]) z
  rw [List.take_length] at w
  exact w
end G
set_option Elab.async false
set_option linter.all false
set_option maxRecDepth 100000
set_option maxHeartbeats 2000000
namespace G
open PySem LF
/-! bits -/
theorem rangeI_succ (m : Nat) : rangeI (m + 1) = rangeI m ++ [(m : Int)] := by
  unfold rangeI
  rw [List.range_succ, List.map_append]
  rfl
theorem hasBit_out {n : Int} {m : Nat} (h0 : 0 ≤ n) (h : n < 2 ^ m) : hasBit n (m : Int) = false := by
  have e : n / 2 ^ m = 0 := Int.ediv_eq_zero_of_lt h0 h
  simp [hasBit, e]
theorem lotOf_more {n : Int} {m : Nat} (h0 : 0 ≤ n) (h : n < 2 ^ m) : ∀ j : Nat, lotOf (m + j) n = lotOf m n
  | 0 => rfl
  | j + 1 => by
    have h2 : n < 2 ^ (m + j) := by
      have : (2 : Int) ^ m ≤ 2 ^ (m + j) := by
        have := Nat.pow_le_pow_right (n := 2) (by decide) (Nat.le_add_right m j)
        exact_mod_cast this
      omega
    have e := lotOf_more h0 h j
    unfold lotOf at e ⊢
    rw [← Nat.add_assoc, rangeI_succ, List.filter_append, e, List.filter_cons, hasBit_out h0 h2]
    simp
theorem lotOf_eq {n : Int} {m l : Nat} (h0 : 0 ≤ n) (h : n < 2 ^ m) (h2 : n < 2 ^ l) : lotOf m n = lotOf l n := by
  by_cases c : m ≤ l
  · have := lotOf_more h0 h (l - m)
    rw [show m + (l - m) = l from by omega] at this
    exact this.symm
  · have := lotOf_more h0 h2 (m - l)
    rw [show l + (m - l) = m from by omega] at this
    exact this
theorem natAbs_lt {n : Int} {m : Nat} (h0 : 0 ≤ n) : n.natAbs < 2 ^ m ↔ n < 2 ^ m := by
  have e : n = ((n.natAbs : Nat) : Int) := by omega
  constructor
  · intro h
    rw [e]
    exact_mod_cast h
  · intro h
    rw [e] at h
    exact_mod_cast h
theorem intBits_le {n : Int} {m : Nat} (h0 : 0 ≤ n) (h : n < 2 ^ m) : Builtin.Int.intBits n ≤ m := intBits_le_iff.mpr ((natAbs_lt h0).mpr h)
theorem intBits_lt {n : Int} (h0 : 0 ≤ n) : n < 2 ^ (Builtin.Int.intBits n) := (natAbs_lt h0).mp (intBits_le_iff.mp (Nat.le_refl _))
theorem bit_le {n e : Int} (h0 : 0 ≤ n) (h : hasBit n e = true) : 2 ^ e.toNat ≤ n := by
  unfold hasBit at h
  simp only [bne_iff_ne, ne_eq] at h
  have hp : (0 : Int) < 2 ^ e.toNat := Int.pow_pos (by decide)
  by_cases c : n < 2 ^ e.toNat
  · rw [Int.ediv_eq_zero_of_lt h0 c] at h
    exact absurd rfl h
  · omega
theorem bit_two {n e f : Int} (h0 : 0 ≤ n) (hef : e.toNat < f.toNat) (he : hasBit n e = true) (hf : hasBit n f = true) : 2 ^ e.toNat + 2 ^ f.toNat ≤ n := by
  unfold hasBit at he hf
  simp only [bne_iff_ne, ne_eq] at he hf
  obtain ⟨j, hj⟩ : ∃ j : Nat, f.toNat = e.toNat + (j + 1) := ⟨f.toNat - e.toNat - 1, by omega⟩
  rw [hj] at hf ⊢
  generalize e.toNat = a at he hf ⊢
  have hp : (0 : Int) < 2 ^ a := Int.pow_pos (by decide)
  have hq : (0 : Int) < 2 ^ j := Int.pow_pos (by decide)
  have e1 : (2 : Int) ^ (a + (j + 1)) = 2 ^ a * (2 ^ j * 2) := by rw [Int.pow_add, Int.pow_succ]
  rw [e1] at hf ⊢
  rw [← Int.ediv_ediv_of_nonneg (Int.le_of_lt hp)] at hf
  generalize hm : n / 2 ^ a = m at he hf
  have hm0 : 0 ≤ m := by rw [← hm]; exact Int.ediv_nonneg h0 (Int.le_of_lt hp)
  have hn : 2 ^ a * m ≤ n := by rw [← hm]; exact Int.mul_ediv_self_le (by omega)
  have h1 : m / (2 ^ j * 2) ≠ 0 := fun z => by rw [z] at hf; exact hf rfl
  have h2 : 2 ^ j * 2 ≤ m := by
    by_cases c : m < 2 ^ j * 2
    · exact absurd (Int.ediv_eq_zero_of_lt hm0 c) h1
    · omega
  have h3 : 2 ^ j * 2 + 1 ≤ m := by omega
  have h4 : 2 ^ a * (2 ^ j * 2 + 1) ≤ 2 ^ a * m := Int.mul_le_mul_of_nonneg_left h3 (Int.le_of_lt hp)
  rw [Int.mul_add, Int.mul_one] at h4
  omega
/-! ranks -/
def lateV (v : Int → Int) (k x y : Int) : Bool := decide (v (k - x) = v (k - x - y)) && (decide (v (k - y) = v (k - x - y)) && decide (v k ≠ v (k - x - y)))
theorem lateV_comm (v : Int → Int) (k x y : Int) : lateV v k x y = lateV v k y x := by
  unfold lateV
  rw [show k - y - x = k - x - y from by omega]
  rw [← Bool.and_assoc, ← Bool.and_assoc, Bool.and_comm (decide (v (k - x) = v (k - x - y)))]
section
variable {v : Int → Int} {rs : List PyData} {k : Int} {st : Sto} (hv : ∀ j : Int, 0 ≤ j → j ≤ k → L2.atI rs j = some (.int (v j)))
include hv
theorem q_adds_late (x y : Int) (hx : 0 ≤ x) (hy : 0 ≤ y) (hxy : x + y ≤ k) : p_adds_late [.d (.tuple rs), .d (.int k), .d (.int x), .d (.int y)] st = .ok (.d (.bool (lateV v k x y))) st := by
  have e1 := hv (k - x) (by omega) (by omega)
  have e2 := hv (k - y) (by omega) (by omega)
  have e3 := hv (k - x - y) (by omega) (by omega)
  have e4 := hv k (by omega) (by omega)
  by_cases h1 : v (k - x) = v (k - x - y)
  · by_cases h2 : v (k - y) = v (k - x - y)
    · simp [p_adds_late, b_adds_late, e1, e2, e3, e4, lateV, PyData.eqv, h1, h2, Bool.beq_eq_decide_eq]
    · simp [p_adds_late, b_adds_late, e1, e2, e3, e4, lateV, PyData.eqv, h1, h2, Bool.beq_eq_decide_eq]
  · simp [p_adds_late, b_adds_late, e1, e2, e3, e4, lateV, PyData.eqv, h1, Bool.beq_eq_decide_eq]
noncomputable def rkIn : GS := (sIf (gAnd (gB (g2 pLt (gVar 5) (gVar 4))) (gB (gCall p_adds_late (LF.gCons (gVar 0) (LF.gCons (gVar 1) (LF.gCons (gVar 4) (LF.gCons (gVar 5) LF.gNil))))))) (sRet (gC (.bool false))) sNil)
theorem rk_in (x : Int) (hx : 0 ≤ x) (r b w : Option A) : ∀ (ys : List Int) (_ : ∀ y ∈ ys, y < x → 0 ≤ y ∧ x + y ≤ k) (o : Option A),
    ∃ env, forD (fun _ => True) (ggName 5) rkIn (ys.map .int) [some (.d (.tuple rs)), some (.d (.int k)), r, b, some (.d (.int x)), o, w] st = if ys.all (fun y => !(decide (y < x) && lateV v k x y)) = true then .nx [some (.d (.tuple rs)), some (.d (.int k)), r, b, some (.d (.int x)), env, w] st else .rt (.d (.bool false)) st
  | [], _, o => ⟨_, by simp; rfl⟩
  | y :: ys, h, o => by
    obtain ⟨env, he⟩ := rk_in x hx r b w ys (fun y hy => h y (by simp [hy])) (some (.d (.int y)))
    refine ⟨env, ?_⟩
    rw [List.map_cons, forD_cons']
    by_cases h1 : y < x
    · obtain ⟨h2, h3⟩ := h y (by simp) h1
      have e := q_adds_late hv (st := st) x y hx h2 h3
      by_cases h4 : lateV v k x y = true
      · simp [rkIn, h1, e, h4]
      · simp at h4
        simp [rkIn, h1, e, h4] at he ⊢
        exact he
    · simp [rkIn, h1] at he ⊢
      exact he
noncomputable def rkB : GS := (sSeq (sIf (gB (g2 (pIn not) (g2 pSub (gVar 2) (g2 pIx (gVar 0) (g2 pSub (gVar 1) (gVar 4)))) (gTupD (LF.gCons (gC (.int 0)) (LF.gCons (gC (.int 1)) LF.gNil))))) (sRet (gC (.bool false))) sNil) (sFor (giSeq (gVar 3)) (ggName 5) rkIn))
def diffOk (v : Int → Int) (k x : Int) : Bool := decide (v k - v (k - x) = 0) || decide (v k - v (k - x) = 1)
end
end G
set_option Elab.async false
set_option linter.all false
set_option maxRecDepth 100000
set_option maxHeartbeats 2000000
namespace G
open PySem LF
def vOf (rs : List PyData) (j : Int) : Int := match L2.atI rs j with
  | some (.int i) => i
  | _ => 0
/-- the powers of two that make a number -/
def bitsOf (k : Int) : List Int := (lotOf 12 k).map fun e => 2 ^ e.toNat
def rankIn (v : Int → Int) (k : Int) (bs : List Int) (x : Int) : Bool := diffOk v k x && bs.all fun y => !(decide (y < x) && lateV v k x y)
def rankOK (v : Int → Int) (k : Int) : Bool := if k = 0 then decide (v 0 = 0) else (bitsOf k).all fun x => rankIn v k (bitsOf k) x
theorem mem_bits {k x : Int} (hk : 0 ≤ k) (h : x ∈ bitsOf k) : 0 ≤ x ∧ x ≤ k := by
  unfold bitsOf at h
  rw [List.mem_map] at h
  obtain ⟨e, he, rfl⟩ := h
  unfold lotOf at he
  rw [List.mem_filter] at he
  exact ⟨Int.le_of_lt (Int.pow_pos (by decide)), bit_le hk he.2⟩
theorem pow_lt_iff {a b : Nat} : (2 : Int) ^ a < 2 ^ b ↔ a < b := by
  constructor
  · intro h
    by_cases c : a < b
    · exact c
    · have h1 : (2 : Nat) ^ b ≤ 2 ^ a := Nat.pow_le_pow_right (by decide) (by omega)
      have h2 : (2 : Int) ^ b ≤ 2 ^ a := by exact_mod_cast h1
      omega
  · intro h
    have h1 : (2 : Nat) ^ a < 2 ^ b := Nat.pow_lt_pow_right (by decide) h
    exact_mod_cast h1
theorem two_bits {k x y : Int} (hk : 0 ≤ k) (hx : x ∈ bitsOf k) (hy : y ∈ bitsOf k) (hxy : x ≠ y) : x + y ≤ k := by
  unfold bitsOf at hx hy
  rw [List.mem_map] at hx hy
  obtain ⟨e, he, rfl⟩ := hx
  obtain ⟨f, hf, rfl⟩ := hy
  unfold lotOf at he hf
  rw [List.mem_filter] at he hf
  by_cases c : e.toNat < f.toNat
  · exact bit_two hk c he.2 hf.2
  · have c2 : f.toNat < e.toNat := by
      by_cases c3 : e.toNat = f.toNat
      · rw [c3] at hxy
        exact absurd rfl hxy
      · omega
    have := bit_two hk c2 hf.2 he.2
    omega
section
variable {v : Int → Int} {rs : List PyData} {k : Int} {st : Sto} (hv : ∀ j : Int, 0 ≤ j → j ≤ k → L2.atI rs j = some (.int (v j)))
include hv
theorem rk_out (bs : List Int) (w : Option A) : ∀ (xs : List Int) (_ : ∀ x ∈ xs, 0 ≤ x ∧ x ≤ k ∧ ∀ y ∈ bs, y < x → 0 ≤ y ∧ x + y ≤ k) (o1 o2 : Option A),
    ∃ env, forD (fun _ => True) (ggName 4) rkB (xs.map .int) [some (.d (.tuple rs)), some (.d (.int k)), some (.d (.int (v k))), some (.d (.list (bs.map .int))), o1, o2, w] st = if xs.all (rankIn v k bs) = true then .nx env st else .rt (.d (.bool false)) st
  | [], _, o1, o2 => ⟨_, by simp; rfl⟩
  | x :: xs, h, o1, o2 => by
    obtain ⟨h1, h2, h3⟩ := h x (by simp)
    obtain ⟨env1, he1⟩ := rk_in hv (st := st) x h1 (some (.d (.int (v k)))) (some (.d (.list (bs.map .int)))) w bs h3 o2
    obtain ⟨env, he⟩ := rk_out bs w xs (fun x hx => h x (by simp [hx])) (some (.d (.int x))) env1
    refine ⟨env, ?_⟩
    rw [List.map_cons, forD_cons']
    have e2 := hv (k - x) (by omega) (by omega)
    have c0 : sIf (gB (g2 (pIn not) (g2 pSub (gVar 2) (g2 pIx (gVar 0) (g2 pSub (gVar 1) (gVar 4)))) (gTupD (LF.gCons (gC (.int 0)) (LF.gCons (gC (.int 1)) LF.gNil))))) (sRet (gC (.bool false))) sNil [some (.d (.tuple rs)), some (.d (.int k)), some (.d (.int (v k))), some (.d (.list (bs.map .int))), some (.d (.int x)), o2, w] st = if diffOk v k x = true then .nx [some (.d (.tuple rs)), some (.d (.int k)), some (.d (.int (v k))), some (.d (.list (bs.map .int))), some (.d (.int x)), o2, w] st else .rt (.d (.bool false)) st := by
      have s3 : SeqAt.shaped (.tuple [.int 0, .int 1]) = true := by decide +kernel
      by_cases d0 : v k - v (k - x) = 0
      · simp [e2, s3, diffOk, PyData.eqv, d0]
      · by_cases d1 : v k - v (k - x) = 1
        · simp [e2, s3, diffOk, PyData.eqv, d0, d1]
        · have d0' : ¬ 0 = v k - v (k - x) := fun z => d0 z.symm
          have d1' : ¬ 1 = v k - v (k - x) := fun z => d1 z.symm
          simp [e2, s3, diffOk, PyData.eqv, d0, d1, d0', d1']
    have f0 : sFor (giSeq (gVar 3)) (ggName 5) rkIn [some (.d (.tuple rs)), some (.d (.int k)), some (.d (.int (v k))), some (.d (.list (bs.map .int))), some (.d (.int x)), o2, w] st = forD (fun _ => True) (ggName 5) rkIn (bs.map .int) [some (.d (.tuple rs)), some (.d (.int k)), some (.d (.int (v k))), some (.d (.list (bs.map .int))), some (.d (.int x)), o2, w] st := by
      simp
    rw [he1] at f0
    have hb : rkB [some (.d (.tuple rs)), some (.d (.int k)), some (.d (.int (v k))), some (.d (.list (bs.map .int))), some (.d (.int x)), o2, w] st = if rankIn v k bs x = true then .nx [some (.d (.tuple rs)), some (.d (.int k)), some (.d (.int (v k))), some (.d (.list (bs.map .int))), some (.d (.int x)), env1, w] st else .rt (.d (.bool false)) st := by
      unfold rkB rankIn
      cases hd : diffOk v k x with
      | true =>
        rw [hd, if_pos rfl] at c0
        rw [seq_nx c0, f0]
        simp
      | false =>
        rw [hd, if_neg (by simp)] at c0
        rw [seq_rt c0]
        simp
    simp only [List.set]
    rw [hb]
    cases hr : rankIn v k bs x with
    | true =>
      rw [if_pos rfl, forK_nx, he, List.all_cons, hr, Bool.true_and]
    | false => simp [hr]
end
theorem runC_rt {m : Nat} {b : GS} {as : List A} {st st' : Sto} {x : PyData} (h : b (as.map some ++ List.replicate (m - as.length) none) st = .rt (.d x) st') : LF.runC m b as st = .ok (.d x) (st'.take st.length) := by
  unfold runC runB
  rw [h]
  rfl
theorem runC_nx {m : Nat} {b : GS} {as : List A} {st st' : Sto} {env : LF.Env} (h : b (as.map some ++ List.replicate (m - as.length) none) st = .nx env st') : LF.runC m b as st = .ok (.d .none) (st'.take st.length) := by
  unfold runC runB
  rw [h]
  rfl
theorem runC_exc {m : Nat} {b : GS} {as : List A} {st st' : Sto} {c : Str} {fs : List (Str × PyData)} (h : b (as.map some ++ List.replicate (m - as.length) none) st = .exc c fs st') : LF.runC m b as st = .exc c fs (st'.take st.length) := by
  unfold runC runB
  rw [h]
  rfl
theorem q_is_rank (rs : List PyData) (k : Int) (d : PyData) (h0 : 0 ≤ k) (h1 : k < 4096) (hp : ∀ j, 0 ≤ j → j < k → ∃ i, L2.atI rs j = some (.int i)) (hd : L2.atI rs k = some d) (st : Sto) :
    p_is_rank [.d (.tuple rs), .d (.int k)] st = .ok (.d (.bool (isNumD d && rankOK (vOf rs) k))) st := by
  cases hn : isNumD d with
  | false => simp [p_is_rank, b_is_rank, hd, q_is_number, hn]
  | true =>
    cases d with
    | int i =>
      have hv : ∀ j : Int, 0 ≤ j → j ≤ k → L2.atI rs j = some (.int (vOf rs j)) := by
        intro j j1 j2
        by_cases c : j < k
        · obtain ⟨z, hz⟩ := hp j j1 c
          simp [vOf, hz]
        · rw [show j = k from by omega]
          simp [vOf, hd]
      have hvk : vOf rs k = i := by simp [vOf, hd]
      by_cases hk : k = 0
      · subst hk
        simp [p_is_rank, b_is_rank, hd, q_is_number, hn, rankOK, hvk, PyData.eqv, Bool.beq_eq_decide_eq]
      · have hb := intBits_le (m := 12) h0 (by omega)
        have e1 := q_lot_by k h0 (by omega) st
        rw [lotOf_eq h0 (intBits_lt h0) (show k < 2 ^ 12 by omega)] at e1
        obtain ⟨env, he⟩ := rk_out hv (st := st) (bitsOf k) none (bitsOf k) (fun x hx => ⟨(mem_bits h0 hx).1, (mem_bits h0 hx).2, fun y hy c => ⟨(mem_bits h0 hy).1, two_bits h0 hx hy (by omega)⟩⟩) none none
        have e2 := comp_ints (i := 6) (test := gYes) (elt := g2 pShl (gC (.int 1)) (gVar 6)) (wenv := [some (.d (.tuple rs)), some (.d (.int k)), some (.d (.int i)), none, none, none, none]) (st := st) (fun _ => true) (fun e => .int (2 ^ e.toNat)) (lotOf 12 k) (fun _ _ => rfl) (fun e he _ => by
          unfold lotOf at he
          rw [List.mem_filter, mem_rangeI] at he
          have hc : cPow 1 e = true := by unfold cPow; simp; omega
          simp [hc])
        rw [filter_all] at e2
        have e3 : (lotOf 12 k).map (fun e => PyData.int (2 ^ e.toNat)) = (bitsOf k).map .int := by
          unfold bitsOf
          rw [List.map_map]
          rfl
        rw [e3] at e2
        have hn' : 0 ≤ i := by simpa [isNumD] using hn
        have hq : ((PyData.int k).eqv (.int 0)) = false := by simp [PyData.eqv, hk]
        have hz : ((lotOf 12 k).map PyData.int).length ≤ bigN := by
          rw [List.length_map]
          have : (lotOf 12 k).length ≤ (rangeI 12).length := List.length_filter_le ..
          rw [rangeI_length] at this
          unfold bigN
          omega
        have f0 : sFor (giSeq (gVar 3)) (ggName 4) rkB [some (.d (.tuple rs)), some (.d (.int k)), some (.d (.int i)), some (.d (.list ((bitsOf k).map .int))), none, none, none] st = forD (fun _ => True) (ggName 4) rkB ((bitsOf k).map .int) [some (.d (.tuple rs)), some (.d (.int k)), some (.d (.int i)), some (.d (.list ((bitsOf k).map .int))), none, none, none] st := by
          simp
        rw [hvk] at he
        rw [he] at f0
        have z : b_is_rank [some (.d (.tuple rs)), some (.d (.int k)), none, none, none, none, none] st = .rt (.d (.bool (true && rankOK (vOf rs) k))) st := by
          unfold b_is_rank
          rw [seq_nx (env' := [some (.d (.tuple rs)), some (.d (.int k)), some (.d (.int i)), none, none, none, none]) (st' := st) (by simp [hd])]
          rw [seq_nx (env' := [some (.d (.tuple rs)), some (.d (.int k)), some (.d (.int i)), none, none, none, none]) (st' := st) (by simp [q_is_number, hn])]
          rw [seq_nx (env' := [some (.d (.tuple rs)), some (.d (.int k)), some (.d (.int i)), none, none, none, none]) (st' := st) (by simp [hq])]
          rw [seq_nx (env' := [some (.d (.tuple rs)), some (.d (.int k)), some (.d (.int i)), some (.d (.list ((bitsOf k).map .int))), none, none, none]) (st' := st) (by
            rw [List.length_map] at hz
            simp [e1, hz] at e2 ⊢
            simp [e2])]
          unfold rkB rkIn at f0
          unfold rankOK
          rw [if_neg hk, Bool.true_and]
          cases hq2 : (bitsOf k).all (rankIn (vOf rs) k (bitsOf k)) with
          | true =>
            rw [hq2, if_pos rfl] at f0
            rw [seq_nx f0]
            simp
          | false =>
            rw [hq2, if_neg (by simp)] at f0
            rw [seq_rt f0]
        have w := runC_rt (m := 7) (b := b_is_rank) (as := [.d (.tuple rs), .d (.int k)]) z
        rw [List.take_length] at w
        exact w
    | _ => simp [isNumD] at hn
end G
set_option Elab.async false
set_option linter.all false
set_option maxRecDepth 100000
set_option maxHeartbeats 2000000
namespace G
open PySem LF
/-! the law's own look at ranks -/
def lawIn (v : Int → Int) (k : Int) (bs : List Int) (x : Int) : Bool := diffOk v k x && bs.all fun y => !(decide (x ≠ y) && lateV v k x y)
theorem all_same (v : Int → Int) (k : Int) (bs : List Int) : bs.all (rankIn v k bs) = bs.all (lawIn v k bs) := by
  rw [Bool.eq_iff_iff, List.all_eq_true, List.all_eq_true]
  unfold rankIn lawIn
  simp only [Bool.and_eq_true, List.all_eq_true, Bool.not_eq_true', Bool.and_eq_false_iff, decide_eq_false_iff_not, Decidable.not_not]
  constructor
  · intro h x hx
    refine ⟨(h x hx).1, fun y hy => ?_⟩
    by_cases c : x = y
    · exact .inl c
    · right
      by_cases c2 : y < x
      · rcases (h x hx).2 y hy with h | h
        · exact absurd c2 h
        · exact h
      · rw [lateV_comm]
        rcases (h y hy).2 x hx with h | h
        · omega
        · exact h
  · intro h x hx
    refine ⟨(h x hx).1, fun y hy => ?_⟩
    rcases (h x hx).2 y hy with h | h
    · left; omega
    · exact .inr h
section
variable {v : Int → Int} {rs : List PyData} {k : Int} {st : Sto} (hv : ∀ j : Int, 0 ≤ j → j ≤ k → L2.atI rs j = some (.int (v j)))
include hv
noncomputable def lfIn : GS := (sSeq (sSet 6 (g2 pSub (g2 pAdd (gVar 3) (gVar 4)) (gVar 1))) (sIf (gAnd (gB (g2 pNe (gVar 3) (gVar 4))) (gAnd (gB (g2 pEq (g2 pIx (gVar 0) (gVar 3)) (g2 pIx (gVar 0) (gVar 6)))) (gAnd (gB (g2 pEq (g2 pIx (gVar 0) (gVar 4)) (g2 pIx (gVar 0) (gVar 6)))) (gB (g2 pNe (g2 pIx (gVar 0) (gVar 1)) (g2 pIx (gVar 0) (gVar 6))))))) (sRet (gC (.bool true))) sNil))
theorem lf_step (x y : Int) (hx : 0 ≤ x) (hxk : x ≤ k) (h1 : 0 ≤ y) (h2 : y ≤ k) (h3 : x ≠ y → x + y ≤ k) (b w u : Option A) :
    lfIn [some (.d (.tuple rs)), some (.d (.int k)), b, some (.d (.int (k - x))), some (.d (.int (k - y))), w, u] st = if (!(decide (x ≠ y) && lateV v k x y)) = true then .nx [some (.d (.tuple rs)), some (.d (.int k)), b, some (.d (.int (k - x))), some (.d (.int (k - y))), w, some (.d (.int (k - x - y)))] st else .rt (.d (.bool true)) st := by
  have e4 := hv k (by omega) (by omega)
  have e1 := hv (k - x) (by omega) (by omega)
  have e2 := hv (k - y) (by omega) (by omega)
  have e5 : k - x + (k - y) - k = k - x - y := by omega
  by_cases c : x = y
  · have c' : k - x = k - y := by omega
    have hq : ((PyData.int (k - x)).eqv (.int (k - y))) = true := by simp [PyData.eqv, c']
    subst c
    simp [lfIn, PyData.eqv, e5]
  · have c' : ¬ k - x = k - y := by omega
    have hq : ((PyData.int (k - x)).eqv (.int (k - y))) = false := by simp [PyData.eqv, c']
    have e3 := hv (k - x - y) (by have := h3 c; omega) (by omega)
    by_cases d1 : v (k - x) = v (k - x - y)
    · by_cases d2 : v (k - y) = v (k - x - y)
      · by_cases d3 : v k = v (k - x - y)
        · simp [lfIn, hq, c, c', e1, e2, e3, e4, e5, lateV, d1, d2, d3, PyData.eqv]
        · simp [lfIn, hq, c, c', e1, e2, e3, e4, e5, lateV, d1, d2, d3, PyData.eqv]
      · simp [lfIn, hq, c, c', e1, e2, e3, e4, e5, lateV, d1, d2, PyData.eqv]
    · simp [lfIn, hq, c, c', e1, e2, e3, e4, e5, lateV, d1, PyData.eqv]
theorem lf_in (x : Int) (hx : 0 ≤ x) (hxk : x ≤ k) (b w : Option A) : ∀ (ys : List Int) (_ : ∀ y ∈ ys, 0 ≤ y ∧ y ≤ k ∧ (x ≠ y → x + y ≤ k)) (o u : Option A),
    ∃ o' u', forD (fun _ => True) (ggName 4) lfIn (ys.map fun y => .int (k - y)) [some (.d (.tuple rs)), some (.d (.int k)), b, some (.d (.int (k - x))), o, w, u] st = if ys.all (fun y => !(decide (x ≠ y) && lateV v k x y)) = true then .nx [some (.d (.tuple rs)), some (.d (.int k)), b, some (.d (.int (k - x))), o', w, u'] st else .rt (.d (.bool true)) st
  | [], _, o, u => ⟨_, _, by simp; exact ⟨rfl, rfl⟩⟩
  | y :: ys, h, o, u => by
    obtain ⟨h1, h2, h3⟩ := h y (by simp)
    obtain ⟨o', u', he⟩ := lf_in x hx hxk b w ys (fun y hy => h y (by simp [hy])) (some (.d (.int (k - y)))) (some (.d (.int (k - x - y))))
    refine ⟨o', u', ?_⟩
    rw [List.map_cons, forD_cons']
    simp only [List.set]
    rw [lf_step hv x y hx hxk h1 h2 h3 b w u, List.all_cons]
    cases hc : (!(decide (x ≠ y) && lateV v k x y)) with
    | true => rw [if_pos rfl, forK_nx, he, Bool.true_and]
    | false => simp
noncomputable def lfB : GS := (sSeq (sIf (gB (g2 (pIn not) (g2 pSub (g2 pIx (gVar 0) (gVar 1)) (g2 pIx (gVar 0) (gVar 3))) (gTupD (LF.gCons (gC (.int 0)) (LF.gCons (gC (.int 1)) LF.gNil))))) (sRet (gC (.bool true))) sNil) (sFor (giSeq (gVar 2)) (ggName 4) lfIn))
theorem lf_out (bs : List Int) (w : Option A) : ∀ (xs : List Int) (_ : ∀ x ∈ xs, 0 ≤ x ∧ x ≤ k ∧ ∀ y ∈ bs, 0 ≤ y ∧ y ≤ k ∧ (x ≠ y → x + y ≤ k)) (o1 o2 u : Option A),
    ∃ env, forD (fun _ => True) (ggName 3) lfB (xs.map fun y => .int (k - y)) [some (.d (.tuple rs)), some (.d (.int k)), some (.d (.list (bs.map fun y => .int (k - y)))), o1, o2, w, u] st = if xs.all (lawIn v k bs) = true then .nx env st else .rt (.d (.bool true)) st
  | [], _, o1, o2, u => ⟨_, by simp; rfl⟩
  | x :: xs, h, o1, o2, u => by
    obtain ⟨h1, h2, h3⟩ := h x (by simp)
    obtain ⟨o', u', he1⟩ := lf_in hv (st := st) x h1 h2 (some (.d (.list (bs.map fun y => .int (k - y))))) w bs h3 o2 u
    obtain ⟨env, he⟩ := lf_out bs w xs (fun x hx => h x (by simp [hx])) (some (.d (.int (k - x)))) o' u'
    refine ⟨env, ?_⟩
    rw [List.map_cons, forD_cons']
    have e2 := hv (k - x) (by omega) (by omega)
    have e4 := hv k (by omega) (by omega)
    have c0 : sIf (gB (g2 (pIn not) (g2 pSub (g2 pIx (gVar 0) (gVar 1)) (g2 pIx (gVar 0) (gVar 3))) (gTupD (LF.gCons (gC (.int 0)) (LF.gCons (gC (.int 1)) LF.gNil))))) (sRet (gC (.bool true))) sNil [some (.d (.tuple rs)), some (.d (.int k)), some (.d (.list (bs.map fun y => .int (k - y)))), some (.d (.int (k - x))), o2, w, u] st = if diffOk v k x = true then .nx [some (.d (.tuple rs)), some (.d (.int k)), some (.d (.list (bs.map fun y => .int (k - y)))), some (.d (.int (k - x))), o2, w, u] st else .rt (.d (.bool true)) st := by
      have s3 : SeqAt.shaped (.tuple [.int 0, .int 1]) = true := by decide +kernel
      by_cases d0 : v k - v (k - x) = 0
      · simp [e2, e4, s3, diffOk, PyData.eqv, d0]
      · by_cases d1 : v k - v (k - x) = 1
        · simp [e2, e4, s3, diffOk, PyData.eqv, d0, d1]
        · have d0' : ¬ 0 = v k - v (k - x) := fun z => d0 z.symm
          have d1' : ¬ 1 = v k - v (k - x) := fun z => d1 z.symm
          simp [e2, e4, s3, diffOk, PyData.eqv, d0, d1, d0', d1']
    have f0 : sFor (giSeq (gVar 2)) (ggName 4) lfIn [some (.d (.tuple rs)), some (.d (.int k)), some (.d (.list (bs.map fun y => .int (k - y)))), some (.d (.int (k - x))), o2, w, u] st = forD (fun _ => True) (ggName 4) lfIn (bs.map fun y => .int (k - y)) [some (.d (.tuple rs)), some (.d (.int k)), some (.d (.list (bs.map fun y => .int (k - y)))), some (.d (.int (k - x))), o2, w, u] st := by
      simp
    rw [he1] at f0
    have hb : lfB [some (.d (.tuple rs)), some (.d (.int k)), some (.d (.list (bs.map fun y => .int (k - y)))), some (.d (.int (k - x))), o2, w, u] st = if lawIn v k bs x = true then .nx [some (.d (.tuple rs)), some (.d (.int k)), some (.d (.list (bs.map fun y => .int (k - y)))), some (.d (.int (k - x))), o', w, u'] st else .rt (.d (.bool true)) st := by
      unfold lfB lawIn
      cases hd : diffOk v k x with
      | true =>
        rw [hd, if_pos rfl] at c0
        rw [seq_nx c0, f0]
        simp only [Bool.true_and]
      | false =>
        rw [hd, if_neg (by simp)] at c0
        rw [seq_rt c0]
        simp
    simp only [List.set]
    rw [hb]
    cases hr : lawIn v k bs x with
    | true =>
      rw [if_pos rfl, forK_nx, he, List.all_cons, hr, Bool.true_and]
    | false => simp [hr]
end
theorem q_rank_fault (rs : List PyData) (k : Int) (d : PyData) (h0 : 0 ≤ k) (h1 : k < 4096) (hp : ∀ j, 0 ≤ j → j < k → ∃ i, L2.atI rs j = some (.int i)) (hd : L2.atI rs k = some d) (st : Sto) :
    p__law_rank_fault [.d (.tuple rs), .d (.int k)] st = .ok (.d (.bool (!(isNumD d && rankOK (vOf rs) k)))) st := by
  cases hn : isNumD d with
  | false => simp [p__law_rank_fault, b__law_rank_fault, hd, q_count, hn]
  | true =>
    cases d with
    | int i =>
      have hv : ∀ j : Int, 0 ≤ j → j ≤ k → L2.atI rs j = some (.int (vOf rs j)) := by
        intro j j1 j2
        by_cases c : j < k
        · obtain ⟨z, hz⟩ := hp j j1 c
          simp [vOf, hz]
        · rw [show j = k from by omega]
          simp [vOf, hd]
      have hvk : vOf rs k = i := by simp [vOf, hd]
      obtain ⟨env, he⟩ := lf_out hv (st := st) (bitsOf k) none (bitsOf k) (fun x hx => ⟨(mem_bits h0 hx).1, (mem_bits h0 hx).2, fun y hy => ⟨(mem_bits h0 hy).1, (mem_bits h0 hy).2, two_bits h0 hx hy⟩⟩) none none none
      have e2 := comp_range (i := 5) (test := gTru (g2 pBand (g2 pShr (gVar 1) (gVar 5)) (gC (.int 1)))) (elt := g2 pSub (gVar 1) (g2 pShl (gC (.int 1)) (gVar 5))) (env := [some (.d (.tuple rs)), some (.d (.int k)), none, none, none, none, none]) (st := st) (g := gC (.int 12)) 12 (by omega) rfl (hasBit k) (fun e => .int (k - 2 ^ e.toNat)) (fun e he => gBit rfl rfl h0 (mem_rangeI.mp he).1) (fun e he _ => by
          rw [mem_rangeI] at he
          have hc : cPow 1 e = true := by unfold cPow; simp; omega
          simp [hc])
      have e3 : ((rangeI 12).filter (hasBit k)).map (fun e => PyData.int (k - 2 ^ e.toNat)) = (bitsOf k).map fun y => .int (k - y) := by
        unfold bitsOf lotOf
        rw [List.map_map]
        rfl
      rw [e3] at e2
      have c0 : ∀ x : A, sIf (gOr (gNot (gB (gCall p__law_count (LF.gCons (g2 pIx (gVar 0) (gVar 1)) LF.gNil)))) (gAnd (gB (g2 pEq (gVar 1) (gC (.int 0)))) (gB (g2 pNe (g2 pIx (gVar 0) (gVar 1)) (gC (.int 0)))))) (sRet (gC (.bool true))) sNil [some (.d (.tuple rs)), some (.d (.int k)), none, none, none, none, none] st = if (decide (k = 0) && decide (i ≠ 0)) = true then .rt (.d (.bool true)) st else .nx [some (.d (.tuple rs)), some (.d (.int k)), none, none, none, none, none] st := fun _ => by
        by_cases a1 : k = 0
        · by_cases a2 : i = 0
          · simp [hd, q_count, hn, a1, a2, PyData.eqv] at hd ⊢
            simp [hd, q_count, hn, a2, PyData.eqv, isNumD]
          · simp [hd, q_count, hn, a1, a2, PyData.eqv] at hd ⊢
            simp [hd, q_count, hn, a2, PyData.eqv]
        · simp [hd, q_count, hn, a1, PyData.eqv]
      have f0 : sFor (giSeq (gVar 2)) (ggName 3) lfB [some (.d (.tuple rs)), some (.d (.int k)), some (.d (.list ((bitsOf k).map fun y => .int (k - y)))), none, none, none, none] st = forD (fun _ => True) (ggName 3) lfB ((bitsOf k).map fun y => .int (k - y)) [some (.d (.tuple rs)), some (.d (.int k)), some (.d (.list ((bitsOf k).map fun y => .int (k - y)))), none, none, none, none] st := by
        simp
      rw [he] at f0
      unfold lfB lfIn at f0
      have z : b__law_rank_fault [some (.d (.tuple rs)), some (.d (.int k)), none, none, none, none, none] st = .rt (.d (.bool (!(true && rankOK (vOf rs) k)))) st := by
        unfold b__law_rank_fault
        have c1 := c0 (.d .none)
        cases hc : decide (k = 0) && decide (i ≠ 0) with
        | true =>
          rw [hc, if_pos rfl] at c1
          rw [seq_rt c1]
          simp only [Bool.and_eq_true, decide_eq_true_eq] at hc
          have : vOf rs 0 = i := by rw [← hc.1]; exact hvk
          simp [rankOK, hc.1, this, hc.2]
        | false =>
          rw [hc, if_neg (by simp)] at c1
          rw [seq_nx c1]
          have c2 : sSet 2 (gComp (giR1 (gC (.int 12))) 5 (gTru (g2 pBand (g2 pShr (gVar 1) (gVar 5)) (gC (.int 1)))) (g2 pSub (gVar 1) (g2 pShl (gC (.int 1)) (gVar 5)))) [some (.d (.tuple rs)), some (.d (.int k)), none, none, none, none, none] st = .nx [some (.d (.tuple rs)), some (.d (.int k)), some (.d (.list ((bitsOf k).map fun y => .int (k - y)))), none, none, none, none] st := by
            unfold sSet
            rw [e2]
            rfl
          rw [seq_nx c2, Bool.true_and]
          have hr : rankOK (vOf rs) k = (bitsOf k).all (lawIn (vOf rs) k (bitsOf k)) := by
            unfold rankOK
            by_cases a1 : k = 0
            · subst a1
              have a2 : i = 0 := by simpa using hc
              rw [if_pos rfl, hvk, a2]
              have : bitsOf 0 = [] := by
                unfold bitsOf lotOf
                have : (rangeI 12).filter (hasBit 0) = [] := List.filter_eq_nil_iff.mpr fun e _ => by simp [hasBit]
                rw [this]
                rfl
              rw [this]
              rfl
            · rw [if_neg a1]
              exact all_same ..
          rw [hr]
          cases hq2 : (bitsOf k).all (lawIn (vOf rs) k (bitsOf k)) with
          | true =>
            rw [hq2, if_pos rfl] at f0
            rw [seq_nx f0]
            simp
          | false =>
            rw [hq2, if_neg (by simp)] at f0
            rw [seq_rt f0]
            rfl
      have w := run_rt (m := 7) (b := b__law_rank_fault) (as := [.d (.tuple rs), .d (.int k)]) z
      rw [List.take_length] at w
      exact w
    | _ => simp [isNumD] at hn
end G
set_option Elab.async false
set_option linter.all false
set_option maxRecDepth 100000
set_option maxHeartbeats 2000000
namespace G
open PySem LF
def len0 (rs : List PyData) : Nat := match rs with
  | .tuple l :: _ => l.length
  | _ => 0
/-- what is wrong with a row, if the earlier ones are good -/
def rowOK (w : Wd) (n : Int) (rs : List PyData) (k : Nat) (d : PyData) : Bool := match w with
  | .limits => isLimD n d
  | .slots => isLotD n d
  | .web => isLinkD n d
  | .rows => lineD n (len0 rs) d
  | .table => isNumD d && rankOK (vOf rs) (k : Int)
  | .beside => true
def crossOK (w : Wd) (rs : List PyData) (k : Nat) (d : PyData) : Bool := match w with
  | .limits => (rs.take k).all fun p => apartL (lotI p) (lotI d)
  | _ => true
def rowF (w : Wd) (n : Int) (rs : List PyData) (k : Nat) : Str := match rs[k]? with
  | none => ""
  | some d => if rowOK w n rs k d = true then (if crossOK w rs k d = true then "" else "cross") else "row"
theorem rowF_ok {w : Wd} {n : Int} {rs : List PyData} {k : Nat} {d : PyData} (hd : rs[k]? = some d) (h : rowF w n rs k = "") : rowOK w n rs k d = true ∧ crossOK w rs k d = true := by
  unfold rowF at h
  rw [hd] at h
  dsimp only at h
  split at h
  · split at h
    · exact ⟨by assumption, by assumption⟩
    · simp at h
  · simp at h
structure Rws (w : Wd) (n : Int) (rs : List PyData) : Prop where
  nb : w ≠ .beside
  ln : rs.length ≤ 4096
  lots : ∀ p ∈ rs, (lotI p).length ≤ 1000
  tups : ∀ l, .tuple l ∈ rs → l.length ≤ bigN
theorem prev_limits {n : Int} {rs : List PyData} {k : Nat} (h : ∀ j, j < k → rowF .limits n rs j = "") : ∀ p ∈ rs.take k, isLimD n p = true := by
  intro p hp
  obtain ⟨j, hj, he⟩ := List.mem_take_iff_getElem.mp hp
  have hd : rs[j]? = some p := by rw [List.getElem?_eq_getElem (by omega), he]
  exact (rowF_ok hd (h j (by omega))).1
theorem prev_table {n : Int} {rs : List PyData} {k : Nat} (hk : k ≤ rs.length) (h : ∀ j, j < k → rowF .table n rs j = "") : ∀ j : Int, 0 ≤ j → j < (k : Int) → ∃ i, L2.atI rs j = some (.int i) := by
  intro j h0 h1
  have hl : j.toNat < rs.length := by omega
  have hd : rs[j.toNat]? = some rs[j.toNat] := List.getElem?_eq_getElem hl
  have h2 := (rowF_ok hd (h j.toNat (by omega))).1
  have h3 := atI_nat hd
  rw [show ((j.toNat : Nat) : Int) = j from by omega] at h3
  simp only [rowOK, Bool.and_eq_true] at h2
  cases hc : rs[j.toNat] with
  | int i => exact ⟨i, by rw [h3, hc]⟩
  | _ => rw [hc] at h2; simp [isNumD] at h2
theorem prev_rows {n : Int} {rs : List PyData} {k : Nat} {d : PyData} (hd : rs[k]? = some d) (h : ∀ j, j < k → rowF .rows n rs j = "") : (∃ l, d = .tuple l) → ∃ l, L2.atI rs 0 = some (.tuple l) ∧ len0 rs = l.length ∧ .tuple l ∈ rs := by
  intro ⟨l, hl⟩
  cases rs with
  | nil => simp at hd
  | cons x r =>
    by_cases hk : k = 0
    · subst hk
      simp at hd
      subst hd
      subst hl
      exact ⟨l, at0 _ _, rfl, by simp⟩
    · have h2 := (rowF_ok (rs := x :: r) (k := 0) (d := x) (by simp) (h 0 (by omega))).1
      simp only [rowOK] at h2
      cases x with
      | tuple m => exact ⟨m, at0 _ _, rfl, by simp⟩
      | _ => simp [lineD] at h2
noncomputable def crB : GS := (sSeq (sExpr (gCall p_demand (LF.gCons (gCall p_is_row (LF.gCons (gVar 0) (LF.gCons (gVar 1) (LF.gCons (gVar 2) (LF.gCons (gVar 3) LF.gNil))))) (LF.gCons (gC (.str "row")) (LF.gCons (gVar 3) LF.gNil))))) (sIf (gB (g2 pEq (gVar 0) (gC (.str "limits")))) (sExpr (gCall p_demand (LF.gCons (gCall p_is_uncrossed (LF.gCons (gVar 2) (LF.gCons (gVar 3) LF.gNil))) (LF.gCons (gC (.str "cross")) (LF.gCons (gVar 3) LF.gNil))))) sNil))
theorem q_is_row {w : Wd} {n : Int} {rs : List PyData} (R : Rws w n rs) {k : Nat} {d : PyData} (hd : rs[k]? = some d) (hp : ∀ j, j < k → rowF w n rs j = "") (st : Sto) :
    p_is_row [.d (.str w.s), .d (.int n), .d (.tuple rs), .d (.int (k : Nat))] st = .ok (.d (.bool (rowOK w n rs k d))) st := by
  have ha := atI_nat hd
  have hk : k < rs.length := (List.getElem?_eq_some_iff.mp hd).1
  have := R.ln
  cases w with
  | beside => exact absurd rfl R.nb
  | limits => simp [p_is_row, b_is_row, Wd.s, eqv_str, ha, q_is_limit, rowOK]
  | slots => simp [p_is_row, b_is_row, Wd.s, eqv_str, ha, q_is_lot, rowOK]
  | web => simp [p_is_row, b_is_row, Wd.s, eqv_str, ha, q_is_link, rowOK]
  | table =>
    have e := q_is_rank rs (k : Int) d (by omega) (by omega) (prev_table (by omega) hp) ha st
    simp [p_is_row, b_is_row, Wd.s, eqv_str, ha, rowOK, e]
  | rows =>
    by_cases hn : ∃ l, d = .tuple l
    · obtain ⟨l, h0, h1, h2⟩ := prev_rows hd hp hn
      have e := q_is_line n rs (k : Int) d l ha h0 (R.tups l h2) st
      simp [p_is_row, b_is_row, Wd.s, eqv_str, ha, rowOK, e, h1]
    · have hn2 : ∀ l, d ≠ .tuple l := fun l h => hn ⟨l, h⟩
      have e := q_is_line_no n rs (k : Int) d ha hn2 st
      have hz : lineD n (len0 rs) d = false := by
        cases d with
        | tuple l => exact absurd rfl (hn2 l)
        | _ => rfl
      simp [p_is_row, b_is_row, Wd.s, eqv_str, ha, rowOK, e, hz]
theorem cr_step {w : Wd} {n : Int} {rs : List PyData} (R : Rws w n rs) {k : Nat} {d : PyData} (hd : rs[k]? = some d) (hp : ∀ j, j < k → rowF w n rs j = "") (st : Sto) :
    crB [some (.d (.str w.s)), some (.d (.int n)), some (.d (.tuple rs)), some (.d (.int (k : Nat)))] st = if rowF w n rs k = "" then .nx [some (.d (.str w.s)), some (.d (.int n)), some (.d (.tuple rs)), some (.d (.int (k : Nat)))] st else .exc "InvalidPaper" [("at", .int (k : Nat)), ("word", .str (rowF w n rs k))] st := by
  have e1 := q_is_row R hd hp st
  cases hr : rowOK w n rs k d with
  | false =>
    rw [hr] at e1
    simp [crB, e1, q_demand, rowF, hd, hr]
  | true =>
    rw [hr] at e1
    cases w with
    | beside => exact absurd rfl R.nb
    | limits =>
      have e2 := q_unc n rs k d hd hr (prev_limits hp) R.lots st
      simp only [Wd.s] at e1
      cases hc : crossOK .limits rs k d with
      | true =>
        have hc2 := hc
        simp only [crossOK] at hc2
        rw [hc2] at e2
        simp [crB, e1, q_demand, rowF, hd, hr, hc, Wd.s, eqv_str, e2]
      | false =>
        have hc2 := hc
        simp only [crossOK] at hc2
        rw [hc2] at e2
        simp [crB, e1, q_demand, rowF, hd, hr, hc, Wd.s, eqv_str, e2]
    | _ =>
      simp only [Wd.s] at e1
      simp [crB, e1, q_demand, rowF, hd, hr, crossOK, Wd.s, eqv_str]
end G
set_option Elab.async false
set_option linter.all false
set_option maxRecDepth 100000
set_option maxHeartbeats 2000000
namespace G
open PySem LF
/-- the first row with a fault -/
def ff (w : Wd) (n : Int) (rs : List PyData) : Nat → Nat → Option (Nat × Str)
  | 0, _ => none
  | c + 1, k => if rowF w n rs k = "" then ff w n rs c (k + 1) else some (k, rowF w n rs k)
theorem rangeI_range' (m : Nat) : (rangeI m).map PyData.int = (List.range' 0 m).map fun (j : Nat) => PyData.int (j : Int) := by
  unfold rangeI
  rw [List.map_map, List.range_eq_range']
  rfl
theorem cr_loop {w : Wd} {n : Int} {rs : List PyData} (R : Rws w n rs) (st : Sto) : ∀ (c k : Nat) (_ : k + c = rs.length) (_ : ∀ j, j < k → rowF w n rs j = "") (x : Option A),
    ∃ env, forD (fun _ => True) (ggName 3) crB ((List.range' k c).map fun (j : Nat) => PyData.int (j : Int)) [some (.d (.str w.s)), some (.d (.int n)), some (.d (.tuple rs)), x] st = match ff w n rs c k with
      | none => .nx env st
      | some (j, f) => .exc "InvalidPaper" [("at", .int (j : Nat)), ("word", .str f)] st
  | 0, k, _, _, x => ⟨_, by simp [ff]; rfl⟩
  | c + 1, k, hk, hp, x => by
    have hl : k < rs.length := by omega
    have hd : rs[k]? = some rs[k] := List.getElem?_eq_getElem hl
    have hs := cr_step R hd hp st
    by_cases h : rowF w n rs k = ""
    · obtain ⟨env, he⟩ := cr_loop R st c (k + 1) (by omega) (fun j hj => by
        by_cases c : j < k
        · exact hp j c
        · rw [show j = k from by omega]; exact h) (some (.d (.int (k : Nat))))
      refine ⟨env, ?_⟩
      rw [List.range'_succ, List.map_cons, forD_cons']
      simp only [List.set]
      rw [hs, if_pos h, forK_nx, he]
      simp only [ff, h, if_true]
    · refine ⟨[], ?_⟩
      rw [List.range'_succ, List.map_cons, forD_cons']
      simp only [List.set]
      rw [hs, if_neg h]
      simp only [ff, h, if_false]
      rfl
theorem q_check_rows {w : Wd} {n : Int} {rs : List PyData} (R : Rws w n rs) (st : Sto) :
    p_check_rows [.d (.str w.s), .d (.int n), .d (.tuple rs)] st = match ff w n rs rs.length 0 with
      | none => .ok (.d .none) st
      | some (j, f) => .exc "InvalidPaper" [("at", .int (j : Nat)), ("word", .str f)] st := by
  obtain ⟨env, he⟩ := cr_loop R st rs.length 0 (by omega) (fun j hj => absurd hj (by omega)) none
  have hz : rs.length ≤ 1000000 := by have := R.ln; omega
  have er := ra rs.length hz [some (.d (.str w.s)), some (.d (.int n)), some (.d (.tuple rs)), none] st (gB1 pLen (LF.gCons (gVar 2) LF.gNil)) (by simp)
  rw [rangeI_range'] at er
  have hf : b_check_rows [some (.d (.str w.s)), some (.d (.int n)), some (.d (.tuple rs)), none] st = match ff w n rs rs.length 0 with
      | none => .nx env st
      | some (j, f) => .exc "InvalidPaper" [("at", .int (j : Nat)), ("word", .str f)] st := by
    rw [← he]
    unfold b_check_rows sFor crB
    rw [er]
    rfl
  cases hq : ff w n rs rs.length 0 with
  | none =>
    rw [hq] at hf
    have z := runC_nx (m := 4) (b := b_check_rows) (as := [.d (.str w.s), .d (.int n), .d (.tuple rs)]) hf
    rw [List.take_length] at z
    exact z
  | some p =>
    obtain ⟨j, f⟩ := p
    rw [hq] at hf
    have z := runC_exc (m := 4) (b := b_check_rows) (as := [.d (.str w.s), .d (.int n), .d (.tuple rs)]) hf
    rw [List.take_length] at z
    exact z
/-! the law's look at a row -/
theorem range_all (rs : List PyData) (P : PyData → Bool) : ∀ k, k ≤ rs.length → ((rangeI k).all fun j => P (rs[j.toNat]?.getD .none)) = (rs.take k).all P
  | 0, _ => rfl
  | k + 1, h => by
    have hl : k < rs.length := by omega
    rw [rangeI_succ, List.all_append, range_all rs P k (by omega), List.take_succ, List.all_append, List.getElem?_eq_getElem hl]
    simp [List.getElem?_eq_getElem hl]
noncomputable def rfA : GS := (sIf (gNot (gB (gCall p__law_apart (LF.gCons (g2 pIx (g2 pIx (gVar 2) (gVar 6)) (gC (.int 0))) (LF.gCons (g2 pIx (gVar 4) (gC (.int 0))) LF.gNil))))) (sRet (gC (.str "cross"))) sNil)
theorem rf_apart {n : Int} {rs : List PyData} {d : PyData} (h : isLimD n d = true) (a b c x : Option A) (hl : ∀ p ∈ rs, (lotI p).length ≤ 1000) (st : Sto) : ∀ (js : List Int) (_ : ∀ j ∈ js, 0 ≤ j ∧ j < rs.length ∧ isLimD n (rs[j.toNat]?.getD .none) = true) (o : Option A),
    ∃ env, forD (fun _ => True) (ggName 6) rfA (js.map .int) [a, b, some (.d (.tuple rs)), c, some (.d d), x, o] st = if (js.all fun j => apartL (lotI (rs[j.toNat]?.getD .none)) (lotI d)) = true then .nx env st else .rt (.d (.str "cross")) st
  | [], _, o => ⟨_, by simp; rfl⟩
  | j :: js, hj, o => by
    obtain ⟨h0, h1, h2⟩ := hj j (by simp)
    obtain ⟨env, he⟩ := rf_apart h a b c x hl st js (fun j q => hj j (by simp [q])) (some (.d (.int j)))
    refine ⟨env, ?_⟩
    have hd : rs[j.toNat]? = some rs[j.toNat] := List.getElem?_eq_getElem (by omega)
    have ha := atI_nat hd
    rw [show ((j.toNat : Nat) : Int) = j from by omega] at ha
    rw [hd, Option.getD_some] at h2
    obtain ⟨c1, e1, _⟩ := lim_form h
    obtain ⟨c2, e2, _⟩ := lim_form h2
    have hz : (lotI rs[j.toNat]).length ≤ bigN := by
      have := hl rs[j.toNat] (List.getElem_mem ..)
      unfold bigN
      omega
    have e := q_apart (lotI rs[j.toNat]) (lotI d) hz st
    have e3 : L2.atI rs j = some (.tuple [.tuple ((lotI rs[j.toNat]).map .int), .int c2]) := by rw [ha]; exact congrArg some e2
    have hs : rfA [a, b, some (.d (.tuple rs)), c, some (.d d), x, some (.d (.int j))] st = if apartL (lotI rs[j.toNat]) (lotI d) = true then .nx [a, b, some (.d (.tuple rs)), c, some (.d d), x, some (.d (.int j))] st else .rt (.d (.str "cross")) st := by
      rw [e1]
      have e4 : lotI (.tuple [.tuple ((lotI d).map .int), .int c1]) = lotI d := by rw [← e1]
      rw [e4]
      cases hq : apartL (lotI rs[j.toNat]) (lotI d) with
      | true => rw [hq] at e; simp [rfA, e3, at2, e]
      | false => rw [hq] at e; simp [rfA, e3, at2, e]
    rw [List.map_cons, forD_cons']
    simp only [List.set]
    rw [hs, List.all_cons, hd, Option.getD_some]
    cases hq : apartL (lotI rs[j.toNat]) (lotI d) with
    | true => rw [if_pos rfl, forK_nx, he, Bool.true_and]
    | false => simp
noncomputable def rfP : GS := (sIf (gOr (gNot (gB (gCall p__law_count (LF.gCons (gVar 5) LF.gNil)))) (gB (g2 pGe (gVar 5) (gVar 1)))) (sRet (gC (.str "row"))) sNil)
theorem rf_parts (n : Int) (a b c d x : Option A) (st : Sto) : ∀ (ds : List PyData) (o : Option A),
    ∃ env, forD (fun _ => True) (ggName 5) rfP ds [a, some (.d (.int n)), b, c, d, o, x] st = if allBelow n ds = true then .nx [a, some (.d (.int n)), b, c, d, env, x] st else .rt (.d (.str "row")) st
  | [], o => ⟨_, by simp [allBelow]; rfl⟩
  | e :: ds, o => by
    obtain ⟨env, he⟩ := rf_parts n a b c d x st ds (some (.d e))
    refine ⟨env, ?_⟩
    rw [forD_cons']
    simp only [List.set]
    have hs : rfP [a, some (.d (.int n)), b, c, d, some (.d e), x] st = if isBelowD n e = true then .nx [a, some (.d (.int n)), b, c, d, some (.d e), x] st else .rt (.d (.str "row")) st := by
      cases e with
      | int i =>
        by_cases h1 : 0 ≤ i
        · by_cases h2 : i < n
          · have h2' : ¬ n ≤ i := by omega
            simp [rfP, q_count, isNumD, isBelowD, h1, h2, h2']
          · have h2' : n ≤ i := by omega
            simp [rfP, q_count, isNumD, isBelowD, h1, h2, h2']
        · simp [rfP, q_count, isNumD, isBelowD, h1]
      | _ => simp [rfP, q_count, isNumD, isBelowD]
    rw [hs]
    unfold allBelow at he ⊢
    rw [List.all_cons]
    cases hq : isBelowD n e with
    | true => rw [if_pos rfl, forK_nx, he, Bool.true_and]
    | false => simp
end G
set_option Elab.async false
set_option linter.all false
set_option maxRecDepth 100000
set_option maxHeartbeats 2000000
namespace G
open PySem LF
theorem rowF_eq {w : Wd} {n : Int} {rs : List PyData} {k : Nat} {d : PyData} (hd : rs[k]? = some d) : rowF w n rs k = if rowOK w n rs k d = true then (if crossOK w rs k d = true then ("" : Str) else ("cross" : Str)) else ("row" : Str) := by
  unfold rowF
  rw [hd]
theorem rf_table {n : Int} {rs : List PyData} (R : Rws .table n rs) {k : Nat} {d : PyData} (hd : rs[k]? = some d) (hp : ∀ j, j < k → rowF .table n rs j = "") (st : Sto) :
    p__law_row_fault [.d (.str "table"), .d (.int n), .d (.tuple rs), .d (.int (k : Nat))] st = .ok (.d (.str (rowF .table n rs k))) st := by
  have ha := atI_nat hd
  have hk : k < rs.length := (List.getElem?_eq_some_iff.mp hd).1
  have := R.ln
  have e := q_rank_fault rs (k : Int) d (by omega) (by omega) (prev_table (by omega) hp) ha st
  rw [rowF_eq hd]
  simp only [rowOK, crossOK, if_true]
  cases hr : isNumD d && rankOK (vOf rs) (k : Int) with
  | true =>
    rw [hr] at e
    simp [p__law_row_fault, b__law_row_fault, ha, eqv_str, e, at2]
  | false =>
    rw [hr] at e
    simp [p__law_row_fault, b__law_row_fault, ha, eqv_str, e, at2]
theorem rf_slots {n : Int} {rs : List PyData} {k : Nat} {d : PyData} (hd : rs[k]? = some d) (st : Sto) :
    p__law_row_fault [.d (.str "slots"), .d (.int n), .d (.tuple rs), .d (.int (k : Nat))] st = .ok (.d (.str (rowF .slots n rs k))) st := by
  have ha := atI_nat hd
  rw [rowF_eq hd]
  simp only [rowOK, crossOK, if_true]
  have e := q_bundle n d st
  cases hr : isLotD n d with
  | true =>
    rw [hr] at e
    simp [p__law_row_fault, b__law_row_fault, ha, eqv_str, e, at2]
  | false =>
    rw [hr] at e
    simp [p__law_row_fault, b__law_row_fault, ha, eqv_str, e, at2]
theorem rf_limits {n : Int} {rs : List PyData} (R : Rws .limits n rs) {k : Nat} {d : PyData} (hd : rs[k]? = some d) (hp : ∀ j, j < k → rowF .limits n rs j = "") (st : Sto) :
    p__law_row_fault [.d (.str "limits"), .d (.int n), .d (.tuple rs), .d (.int (k : Nat))] st = .ok (.d (.str (rowF .limits n rs k))) st := by
  have ha := atI_nat hd
  have hk : k < rs.length := (List.getElem?_eq_some_iff.mp hd).1
  have hln := R.ln
  rw [rowF_eq hd, show rowOK .limits n rs k d = isLimD n d from rfl]
  cases hr : isLimD n d with
  | false =>
    simp only [Bool.false_eq_true, if_false]
    cases d with
    | tuple ds =>
      match ds with
      | [] => simp [p__law_row_fault, b__law_row_fault, ha, eqv_str, PyData.eqv]
      | [x] => simp [p__law_row_fault, b__law_row_fault, ha, eqv_str, PyData.eqv]
      | [x, y] =>
        have e := q_bundle n x st
        cases hb : isLotD n x with
        | false =>
          rw [hb] at e
          simp [p__law_row_fault, b__law_row_fault, ha, eqv_str, PyData.eqv, at2, e]
        | true =>
          rw [hb] at e
          cases x with
          | tuple l =>
            simp only [isLotD] at hb
            cases l with
            | nil => simp [p__law_row_fault, b__law_row_fault, ha, eqv_str, PyData.eqv, at2, e]
            | cons u r =>
              have hq : ((r.length : Int) + 1 = 0) = False := by simp; omega
              have hc : isNumD y = false := by
                simp only [isLimD, hb, Bool.true_and] at hr
                simpa using hr
              simp [p__law_row_fault, b__law_row_fault, ha, eqv_str, PyData.eqv, at2, e, hq, q_count, hc]
          | _ => simp [isLotD] at hb
      | x :: y :: z :: r =>
        have hq : ((r.length : Int) + 1 + 1 + 1 = 2) = False := by simp; omega
        simp [p__law_row_fault, b__law_row_fault, ha, eqv_str, PyData.eqv, hq]
    | _ => simp [p__law_row_fault, b__law_row_fault, ha, eqv_str, PyData.eqv]
  | true =>
    obtain ⟨c, e1, e2, e3, e4⟩ := lim_form hr
    have hpl := prev_limits hp
    obtain ⟨env, he⟩ := rf_apart hr (some (.d (.str "limits"))) (some (.d (.int n))) (some (.d (.int (k : Nat)))) none R.lots st (rangeI k) (fun j hj => by
      rw [mem_rangeI] at hj
      refine ⟨hj.1, by omega, ?_⟩
      have hl : j.toNat < rs.length := by omega
      rw [List.getElem?_eq_getElem hl, Option.getD_some]
      exact hpl _ (List.mem_take_iff_getElem.mpr ⟨j.toNat, by omega, rfl⟩)) none
    rw [range_all rs (fun p => apartL (lotI p) (lotI d)) k (by omega)] at he
    have er := ra k (by omega) [some (.d (.str "limits")), some (.d (.int n)), some (.d (.tuple rs)), some (.d (.int (k : Nat))), some (.d d), none, none] st (gVar 3) rfl
    have f0 : sFor (giR1 (gVar 3)) (ggName 6) rfA [some (.d (.str "limits")), some (.d (.int n)), some (.d (.tuple rs)), some (.d (.int (k : Nat))), some (.d d), none, none] st = forD (fun _ => True) (ggName 6) rfA ((rangeI k).map .int) [some (.d (.str "limits")), some (.d (.int n)), some (.d (.tuple rs)), some (.d (.int (k : Nat))), some (.d d), none, none] st := by
      unfold sFor
      rw [er]
      rfl
    rw [he] at f0
    unfold rfA at f0
    have hb : isLotD n (.tuple ((lotI d).map .int)) = true := by
      have hr2 := hr
      rw [e1] at hr2
      simp only [isLimD, Bool.and_eq_true] at hr2
      exact hr2.1.1
    have z : b__law_row_fault [some (.d (.str "limits")), some (.d (.int n)), some (.d (.tuple rs)), some (.d (.int (k : Nat))), none, none, none] st = .rt (.d (.str (if crossOK .limits rs k d = true then ("" : Str) else ("cross" : Str)))) st := by
      unfold b__law_row_fault
      rw [seq_nx (env' := [some (.d (.str "limits")), some (.d (.int n)), some (.d (.tuple rs)), some (.d (.int (k : Nat))), some (.d d), none, none]) (st' := st) (by simp [ha])]
      rw [seq_nx (env' := [some (.d (.str "limits")), some (.d (.int n)), some (.d (.tuple rs)), some (.d (.int (k : Nat))), some (.d d), none, none]) (st' := st) (by simp [eqv_str])]
      rw [seq_nx (env' := [some (.d (.str "limits")), some (.d (.int n)), some (.d (.tuple rs)), some (.d (.int (k : Nat))), some (.d d), none, none]) (st' := st) (by simp [eqv_str])]
      rw [seq_nx (env' := [some (.d (.str "limits")), some (.d (.int n)), some (.d (.tuple rs)), some (.d (.int (k : Nat))), some (.d d), none, none]) (st' := st) (by rw [e1]; simp)]
      apply seq_rt
      have c0 : ∀ a b : GS, sIf (gB (g2 pEq (gVar 0) (gC (.str "limits")))) a b [some (.d (.str "limits")), some (.d (.int n)), some (.d (.tuple rs)), some (.d (.int (k : Nat))), some (.d d), none, none] st = a [some (.d (.str "limits")), some (.d (.int n)), some (.d (.tuple rs)), some (.d (.int (k : Nat))), some (.d d), none, none] st := fun a b => by
        simp [eqv_str]
      rw [c0]
      rw [seq_nx (env' := [some (.d (.str "limits")), some (.d (.int n)), some (.d (.tuple rs)), some (.d (.int (k : Nat))), some (.d d), none, none]) (st' := st) (by
        rw [e1]
        have hlen : (((lotI d).length : Int) = 0) = False := by
          have := List.length_pos_iff.mpr e3
          simp
          exact e3
        have hbu := q_bundle n (.tuple ((lotI d).map .int)) st
        rw [hb] at hbu
        simp [PyData.eqv, at2, hbu, hlen, q_count, isNumD, e4, e3]
        )]
      rw [show crossOK .limits rs k d = (rs.take k).all fun p => apartL (lotI p) (lotI d) from rfl]
      cases hq : (rs.take k).all fun p => apartL (lotI p) (lotI d) with
      | true =>
        rw [hq, if_pos rfl] at f0
        rw [seq_nx f0]
        simp
      | false =>
        rw [hq, if_neg (by simp)] at f0
        rw [seq_rt f0]
        simp
    have w := run_rt (m := 7) (b := b__law_row_fault) (as := [.d (.str "limits"), .d (.int n), .d (.tuple rs), .d (.int (k : Nat))]) z
    rw [List.take_length] at w
    simp only [if_true]
    exact w
theorem rf_web {n : Int} {rs : List PyData} {k : Nat} {d : PyData} (hd : rs[k]? = some d) (st : Sto) :
    p__law_row_fault [.d (.str "web"), .d (.int n), .d (.tuple rs), .d (.int (k : Nat))] st = .ok (.d (.str (rowF .web n rs k))) st := by
  have ha := atI_nat hd
  rw [rowF_eq hd, show rowOK .web n rs k d = isLinkD n d from rfl, show crossOK .web rs k d = true from rfl, if_pos rfl]
  cases d with
  | tuple ds =>
    match ds with
    | [] => simp [p__law_row_fault, b__law_row_fault, ha, eqv_str, PyData.eqv, isLinkD]
    | [x] => simp [p__law_row_fault, b__law_row_fault, ha, eqv_str, PyData.eqv, isLinkD]
    | x :: y :: z :: r =>
      have hq : ((r.length : Int) + 1 + 1 + 1 = 2) = False := by simp; omega
      simp [p__law_row_fault, b__law_row_fault, ha, eqv_str, PyData.eqv, hq, isLinkD]
    | [x, y] =>
      obtain ⟨env, he⟩ := rf_parts n (some (.d (.str "web"))) (some (.d (.tuple rs))) (some (.d (.int (k : Nat)))) (some (.d (.tuple [x, y]))) none st [x, y] none
      cases hb : allBelow n [x, y] with
      | false =>
        rw [hb, if_neg (by simp)] at he
        unfold rfP at he
        have hz : isLinkD n (.tuple [x, y]) = false := by
          cases x with
          | int a =>
            cases y with
            | int b =>
              simp only [isLinkD, allBelow, isBelowD, List.all_cons, List.all_nil, Bool.and_true] at hb ⊢
              rw [hb, Bool.false_and]
            | _ => rfl
          | _ => rfl
        rw [hz]
        simp only [Bool.false_eq_true, if_false]
        simp [p__law_row_fault, b__law_row_fault, ha, eqv_str, PyData.eqv] at he ⊢
        rw [he]
        simp
      | true =>
        rw [hb, if_pos rfl] at he
        unfold rfP at he
        cases x with
        | int a =>
          cases y with
          | int b =>
            have hz : isLinkD n (.tuple [.int a, .int b]) = decide (a ≤ b) := by
              simp only [isLinkD, allBelow, isBelowD, List.all_cons, List.all_nil, Bool.and_true] at hb ⊢
              rw [hb, Bool.true_and]
            rw [hz]
            by_cases c : a ≤ b
            · have c' : ¬ b < a := by omega
              simp [p__law_row_fault, b__law_row_fault, ha, eqv_str, PyData.eqv, c] at he ⊢
              rw [he]
              simp [at2, c', PyData.eqv]
            · have c' : b < a := by omega
              simp [p__law_row_fault, b__law_row_fault, ha, eqv_str, PyData.eqv, c] at he ⊢
              rw [he]
              simp [at2, c', PyData.eqv]
          | _ => simp [allBelow, isBelowD] at hb
        | _ => simp [allBelow, isBelowD] at hb
  | _ => simp [p__law_row_fault, b__law_row_fault, ha, eqv_str, PyData.eqv, isLinkD]
theorem rf_rows {n : Int} {rs : List PyData} {k : Nat} {d : PyData} (hd : rs[k]? = some d) (hp : ∀ j, j < k → rowF .rows n rs j = "") (st : Sto) :
    p__law_row_fault [.d (.str "rows"), .d (.int n), .d (.tuple rs), .d (.int (k : Nat))] st = .ok (.d (.str (rowF .rows n rs k))) st := by
  have ha := atI_nat hd
  rw [rowF_eq hd, show rowOK .rows n rs k d = lineD n (len0 rs) d from rfl, show crossOK .rows rs k d = true from rfl, if_pos rfl]
  cases d with
  | tuple ds =>
    obtain ⟨l, h0, h1, _⟩ := prev_rows hd hp ⟨ds, rfl⟩
    rw [h1]
    by_cases hl : ds.length = l.length
    · have hz : lineD n l.length (.tuple ds) = allBelow n ds := by simp [lineD, hl]
      rw [hz]
      obtain ⟨env, he⟩ := rf_parts n (some (.d (.str "rows"))) (some (.d (.tuple rs))) (some (.d (.int (k : Nat)))) (some (.d (.tuple ds))) none st ds none
      unfold rfP at he
      cases hb : allBelow n ds with
      | false =>
        rw [hb, if_neg (by simp)] at he
        simp only [Bool.false_eq_true, if_false]
        simp [p__law_row_fault, b__law_row_fault, ha, eqv_str, PyData.eqv, h0, hl] at he ⊢
        rw [he]
        simp
      | true =>
        rw [hb, if_pos rfl] at he
        simp [p__law_row_fault, b__law_row_fault, ha, eqv_str, PyData.eqv, h0, hl] at he ⊢
        rw [he]
        simp [eqv_str]
    · have hz : lineD n l.length (.tuple ds) = false := by simp [lineD, hl]
      rw [hz]
      have hq : (((ds.length : Nat) : Int) = ((l.length : Nat) : Int)) = False := by simp; omega
      simp [p__law_row_fault, b__law_row_fault, ha, eqv_str, PyData.eqv, h0, hq]
  | _ => simp [p__law_row_fault, b__law_row_fault, ha, eqv_str, PyData.eqv, lineD]
theorem q_row_fault {w : Wd} {n : Int} {rs : List PyData} (R : Rws w n rs) {k : Nat} {d : PyData} (hd : rs[k]? = some d) (hp : ∀ j, j < k → rowF w n rs j = "") (st : Sto) :
    p__law_row_fault [.d (.str w.s), .d (.int n), .d (.tuple rs), .d (.int (k : Nat))] st = .ok (.d (.str (rowF w n rs k))) st := by
  cases w with
  | beside => exact absurd rfl R.nb
  | limits => exact rf_limits R hd hp st
  | slots => exact rf_slots hd st
  | web => exact rf_web hd st
  | rows => exact rf_rows hd hp st
  | table => exact rf_table R hd hp st
end G
set_option Elab.async false
set_option linter.all false
set_option maxRecDepth 100000
set_option maxHeartbeats 2000000
namespace G
open PySem LF
/-! verdicts -/
inductive Ver where
  | no (w : Str) (k : Int)
  | yes (n : Int)
def verR (w : Wd) (n : Int) (rs : List PyData) : Ver := match ff w n rs rs.length 0 with
  | some (j, f) => .no f (j : Nat)
  | none => .yes (if w = .limits ∨ w = .table then n else (rs.length : Int))
def verP (w : Wd) (a b : PyData) : Ver := if secD w a = true then (match a with
    | .int n => if rowsD w n b = true then (match b with
        | .tuple rs => verR w n rs
        | _ => .no "rows" (-1)) else .no "rows" (-1)
    | _ => .no "size" (-1)) else .no "size" (-1)
theorem at3 (x y z : PyData) : L2.atI [x, y, z] 0 = some x ∧ L2.atI [x, y, z] 1 = some y ∧ L2.atI [x, y, z] 2 = some z ∧ L2.atI [x, y, z] (-1) = some z := ⟨rfl, rfl, rfl, rfl⟩
theorem at2' (x y : PyData) : L2.atI [x, y] 0 = some x ∧ L2.atI [x, y] 1 = some y ∧ L2.atI [x, y] (-1) = some y := ⟨rfl, rfl, rfl⟩
theorem sec_form {w : Wd} {a : PyData} (h : secD w a = true) : ∃ n : Int, a = .int n ∧ 0 ≤ n ∧ (w = .table → n ≤ 12) := by
  cases a with
  | int i =>
    refine ⟨i, rfl, ?_, ?_⟩
    · cases w <;> simp [secD, isNumD] at h <;> omega
    · intro hw
      subst hw
      simp [secD] at h
      omega
  | _ => cases w <;> simp [secD, isNumD] at h
theorem Gd.lots {B k W : Nat} {d : PyData} (h : Gd B k W d) (hW : W ≤ 1000) : (lotI d).length ≤ 1000 := by
  unfold lotI
  split
  · rename_i l x
    have h1 := (h.tup_el (.tuple l) (by simp)).tup_len
    have : ∀ l : List PyData, (intsB l).length ≤ l.length := fun l => by
      induction l with
      | nil => simp [intsB]
      | cons y r ih => cases y <;> simp [intsB] <;> omega
    have := this l
    omega
  · simp
theorem rws_of {B k W : Nat} {w : Wd} {n : Int} {rs : List PyData} (h : Gd B k W (.tuple rs)) (hW : W ≤ 1000) (hw : w ≠ .beside) : Rws w n rs := by
  refine ⟨hw, ?_, ?_, ?_⟩
  · have := h.tup_len
    omega
  · intro p hp
    exact (h.tup_el p hp).lots (by omega)
  · intro l hl
    have := (h.tup_el _ hl).tup_len
    unfold bigN
    omega
theorem shape3 {w : Wd} (hw : w ≠ .beside) (a b : PyData) : shapeD (.tuple [.str w.s, a, b]) = true := by
  cases w <;> simp [shapeD, wdOf_s] at hw ⊢
theorem q_wish_plain (m : Nat) {w : Wd} (hw : w ≠ .beside) (n : Int) (rs : List PyData) (st : Sto) : p_wish_count (m + 1) [.d (.tuple [.str w.s, .int n, .tuple rs])] st = .ok (.d (.int (if w = .limits ∨ w = .table then n else (rs.length : Int)))) st := by
  unfold p_wish_count
  cases w with
  | beside => exact absurd rfl hw
  | _ => simp [b_wish_count, at3, Wd.s, eqv_str]
theorem seq_exc {a b : GS} {env : LF.Env} {st st2 : Sto} {c : Str} {fs : List (Str × PyData)} (h : a env st = .exc c fs st2) : sSeq a b env st = .exc c fs st2 := by
  unfold sSeq
  rw [h]
theorem call1 {f : List A → Sto → R A} {a : GE} {env : LF.Env} {st : Sto} {x : A} (h1 : a env st = .ok x st) : gCall f (LF.gCons a LF.gNil) env st = f [x] st := by
  unfold gCall LF.gCons LF.gNil
  rw [h1]
  rfl
theorem call2 {f : List A → Sto → R A} {a b : GE} {env : LF.Env} {st : Sto} {x y : A} (h1 : a env st = .ok x st) (h2 : b env st = .ok y st) : gCall f (LF.gCons a (LF.gCons b LF.gNil)) env st = f [x, y] st := by
  unfold gCall
  have : LF.gCons a (LF.gCons b LF.gNil) env st = .ok [x, y] st := by
    unfold LF.gCons LF.gNil
    rw [h1, R.bind_ok, h2, R.bind_ok, R.bind_ok, R.bind_ok]
  rw [this, R.bind_ok]
theorem call3 {f : List A → Sto → R A} {a b c : GE} {env : LF.Env} {st : Sto} {x y z : A} (h1 : a env st = .ok x st) (h2 : b env st = .ok y st) (h3 : c env st = .ok z st) : gCall f (LF.gCons a (LF.gCons b (LF.gCons c LF.gNil))) env st = f [x, y, z] st := by
  unfold gCall
  have : LF.gCons a (LF.gCons b (LF.gCons c LF.gNil)) env st = .ok [x, y, z] st := by
    unfold LF.gCons LF.gNil
    rw [h1, R.bind_ok, h2, R.bind_ok, h3, R.bind_ok, R.bind_ok, R.bind_ok, R.bind_ok]
  rw [this, R.bind_ok]
theorem lets_plain (m : Nat) {B k W : Nat} {w : Wd} (hw : w ≠ .beside) (a b : PyData) (hd : Gd B k W (.tuple [.str w.s, a, b])) (hk : k ≤ 64) (hW : W ≤ 1000) (st : Sto) :
    p_lets_house (m + 1) [.d (.tuple [.str w.s, a, b])] st = match verP w a b with
      | .no f k => .exc "InvalidPaper" [("at", .int k), ("word", .str f)] st
      | .yes n => .ok (.d (.int n)) st := by
  have e1 := q_has_shape _ hd hk st
  rw [shape3 hw] at e1
  have sw := sh_wd w
  have ew : decide (w.s = "beside") = false := by rw [(eq_lit w).2.2.2.2.2]; simp [hw]
  have ew2 : (w.s = "beside") = False := by simpa using ew
  have e2 := q_is_second w a st
  have ap := q_demand
  unfold p_lets_house
  cases hs : secD w a with
  | false =>
    rw [hs] at e2
    simp [b_lets_house, e1, q_demand, at3, sw, eqv_str, ew2, e2, verP, hs]
  | true =>
    rw [hs] at e2
    obtain ⟨n, rfl, hn, hn2⟩ := sec_form hs
    have e3 := q_are_rows w n hn hn2 b st
    cases hr : rowsD w n b with
    | false =>
      rw [hr] at e3
      simp [b_lets_house, e1, q_demand, at3, sw, eqv_str, ew2, e2, verP, hs, e3, hr]
    | true =>
      rw [hr] at e3
      cases b with
      | tuple rs =>
        have R : Rws w n rs := rws_of (hd.tup_el (.tuple rs) (by simp)) (by omega) hw
        have e4 := q_check_rows R st
        have e5 := q_wish_plain 15 hw n rs st
        have c0 : ∀ x y : GS, sIf (gB (g2 pEq (g2 pIx (gVar 0) (gC (.int 0))) (gC (.str "beside")))) x y [some (.d (.tuple [.str w.s, .int n, .tuple rs]))] st = y [some (.d (.tuple [.str w.s, .int n, .tuple rs]))] st := fun x y => by
          simp [at3, sw, eqv_str, ew2]
        have c1 : sExpr (gCall p_demand (LF.gCons (gCall p_has_shape (LF.gCons (gVar 0) LF.gNil)) (LF.gCons (gC (.str "shape")) (LF.gCons (gNeg (gC (.int 1))) LF.gNil)))) [some (.d (.tuple [.str w.s, .int n, .tuple rs]))] st = .nx [some (.d (.tuple [.str w.s, .int n, .tuple rs]))] st := by
          simp [e1, q_demand]
        have c2 : sExpr (gCall p_demand (LF.gCons (gCall p_is_second (LF.gCons (g2 pIx (gVar 0) (gC (.int 0))) (LF.gCons (g2 pIx (gVar 0) (gC (.int 1))) LF.gNil))) (LF.gCons (gC (.str "size")) (LF.gCons (gNeg (gC (.int 1))) LF.gNil)))) [some (.d (.tuple [.str w.s, .int n, .tuple rs]))] st = .nx [some (.d (.tuple [.str w.s, .int n, .tuple rs]))] st := by
          simp [e2, q_demand, at3]
        have c3 : sExpr (gCall p_demand (LF.gCons (gCall p_are_rows (LF.gCons (g2 pIx (gVar 0) (gC (.int 0))) (LF.gCons (g2 pIx (gVar 0) (gC (.int 1))) (LF.gCons (g2 pIx (gVar 0) (gC (.int 2))) LF.gNil)))) (LF.gCons (gC (.str "rows")) (LF.gCons (gNeg (gC (.int 1))) LF.gNil)))) [some (.d (.tuple [.str w.s, .int n, .tuple rs]))] st = .nx [some (.d (.tuple [.str w.s, .int n, .tuple rs]))] st := by
          simp [e3, q_demand, at3]
        have hv : verP w (.int n) (.tuple rs) = verR w n rs := by
          unfold verP
          rw [if_pos hs]
          dsimp only
          rw [if_pos hr]
        rw [hv]
        cases hf : ff w n rs rs.length 0 with
        | none =>
          rw [hf] at e4
          have c4 : sExpr (gCall p_check_rows (LF.gCons (g2 pIx (gVar 0) (gC (.int 0))) (LF.gCons (g2 pIx (gVar 0) (gC (.int 1))) (LF.gCons (g2 pIx (gVar 0) (gC (.int 2))) LF.gNil)))) [some (.d (.tuple [.str w.s, .int n, .tuple rs]))] st = .nx [some (.d (.tuple [.str w.s, .int n, .tuple rs]))] st := by
            dsimp only at e4
            unfold sExpr
            rw [call3 (x := .d (.str w.s)) (y := .d (.int n)) (z := .d (.tuple rs)) (by simp [at3]) (by simp [at3]) (by simp [at3]), e4]
            rfl
          have c5 : sRet (gCall (p_wish_count 16) (LF.gCons (gVar 0) LF.gNil)) [some (.d (.tuple [.str w.s, .int n, .tuple rs]))] st = .rt (.d (.int (if w = .limits ∨ w = .table then n else (rs.length : Int)))) st := by
            have e6 : p_wish_count 16 [.d (.tuple [.str w.s, .int n, .tuple rs])] st = _ := e5
            simp [e6]
          have z : b_lets_house (p_check_beside m) [some (.d (.tuple [.str w.s, .int n, .tuple rs]))] st = .rt (.d (.int (if w = .limits ∨ w = .table then n else (rs.length : Int)))) st := by
            unfold b_lets_house
            rw [seq_nx c1]
            rw [seq_nx (show sIf _ _ _ _ _ = _ from (c0 _ _).trans ((seq_nx c2).trans ((seq_nx c3).trans c4)))]
            exact c5
          have y := runC_rt (m := 1) (b := b_lets_house (p_check_beside m)) (as := [.d (.tuple [.str w.s, .int n, .tuple rs])]) z
          rw [List.take_length] at y
          unfold verR
          rw [hf]
          exact y
        | some p =>
          obtain ⟨j, f⟩ := p
          rw [hf] at e4
          have c4 : sExpr (gCall p_check_rows (LF.gCons (g2 pIx (gVar 0) (gC (.int 0))) (LF.gCons (g2 pIx (gVar 0) (gC (.int 1))) (LF.gCons (g2 pIx (gVar 0) (gC (.int 2))) LF.gNil)))) [some (.d (.tuple [.str w.s, .int n, .tuple rs]))] st = .exc "InvalidPaper" [("at", .int (j : Nat)), ("word", .str f)] st := by
            dsimp only at e4
            unfold sExpr
            rw [call3 (x := .d (.str w.s)) (y := .d (.int n)) (z := .d (.tuple rs)) (by simp [at3]) (by simp [at3]) (by simp [at3]), e4]
            rfl
          have z : b_lets_house (p_check_beside m) [some (.d (.tuple [.str w.s, .int n, .tuple rs]))] st = .exc "InvalidPaper" [("at", .int (j : Nat)), ("word", .str f)] st := by
            unfold b_lets_house
            rw [seq_nx c1]
            exact seq_exc (show sIf _ _ _ _ _ = _ from (c0 _ _).trans ((seq_nx c2).trans ((seq_nx c3).trans c4)))
          have y := runC_exc (m := 1) (b := b_lets_house (p_check_beside m)) (as := [.d (.tuple [.str w.s, .int n, .tuple rs])]) z
          rw [List.take_length] at y
          unfold verR
          rw [hf]
          exact y
      | _ => simp [rowsD] at hr
end G
set_option Elab.async false
set_option linter.all false
set_option maxRecDepth 100000
set_option maxHeartbeats 2000000
namespace G
open PySem LF
/-! verdicts of houses beside one another -/
def partV : PyData → Option Int
  | .tuple [.str s, a, b] => match wdOf s with
    | none => none
    | some .beside => none
    | some w => match verP w a b with
      | .yes n => some n
      | .no _ _ => none
  | _ => none
def besV : List PyData → Nat → Int → Ver
  | [], _, t => .yes t
  | p :: r, k, t => match partV p with
    | some n => besV r (k + 1) (t + n)
    | none => .no "row" (k : Nat)
def verB : PyData → Ver
  | .tuple ps => if 2 ≤ ps.length then besV ps 0 0 else .no "rows" (-1)
  | _ => .no "rows" (-1)
def verD : PyData → Ver
  | .tuple [.str s, a, b] => match wdOf s with
    | none => .no "shape" (-1)
    | some .beside => .no "shape" (-1)
    | some w => verP w a b
  | .tuple [.str s, b] => if wdOf s = some .beside then verB b else .no "shape" (-1)
  | _ => .no "shape" (-1)
inductive Form : PyData → Prop
  | plain (w : Wd) (a b : PyData) (hw : w ≠ .beside) : Form (.tuple [.str w.s, a, b])
  | bes (b : PyData) : Form (.tuple [.str "beside", b])
  | no (d : PyData) (h : shapeD d = false) (h1 : verD d = .no "shape" (-1)) (h2 : partV d = none) : Form d
theorem form : ∀ d : PyData, Form d
  | .tuple [] => .no _ rfl rfl rfl
  | .tuple [x] => by
    cases x with
    | str s => exact .no _ (by simp only [shapeD]; cases wdOf s with | none => rfl | some w => cases w <;> simp) rfl rfl
    | _ => exact .no _ rfl rfl rfl
  | .tuple [x, b] => by
    cases x with
    | str s =>
      cases hw : wdOf s with
      | none => exact .no _ (by simp [shapeD, hw]) (by simp [verD, hw]) rfl
      | some w =>
        by_cases h : w = .beside
        · subst h
          rw [wdOf_some hw]
          exact .bes b
        · exact .no _ (by cases w <;> simp [shapeD, hw] at h ⊢) (by simp [verD, hw, h]) rfl
    | _ => exact .no _ rfl rfl rfl
  | .tuple [x, a, b] => by
    cases x with
    | str s =>
      cases hw : wdOf s with
      | none => exact .no _ (by simp [shapeD, hw]) (by simp [verD, hw]) (by simp [partV, hw])
      | some w =>
        by_cases h : w = .beside
        · subst h
          exact .no _ (by simp [shapeD, hw]) (by simp [verD, hw]) (by simp [partV, hw])
        · rw [wdOf_some hw]
          exact .plain w a b h
    | _ => exact .no _ rfl rfl rfl
  | .tuple (x :: y :: z :: u :: r) => by
    cases x with
    | str s =>
      refine .no _ ?_ rfl rfl
      simp only [shapeD]
      cases wdOf s with
      | none => rfl
      | some w => cases w <;> simp
    | _ => exact .no _ rfl rfl rfl
  | .int _ => .no _ rfl rfl rfl
  | .bool _ => .no _ rfl rfl rfl
  | .none => .no _ rfl rfl rfl
  | .str _ => .no _ rfl rfl rfl
  | .list _ => .no _ rfl rfl rfl
  | .dict _ => .no _ rfl rfl rfl
theorem verD_plain {w : Wd} (hw : w ≠ .beside) (a b : PyData) : verD (.tuple [.str w.s, a, b]) = verP w a b := by
  cases w <;> simp [verD, wdOf_s] at hw ⊢
theorem partV_plain {w : Wd} (hw : w ≠ .beside) (a b : PyData) : partV (.tuple [.str w.s, a, b]) = match verP w a b with
      | .yes n => some n
      | .no _ _ => none := by
  cases w <;> simp [partV, wdOf_s] at hw ⊢
theorem wdOf_beside : wdOf "beside" = some .beside := by decide
theorem verD_bes (b : PyData) : verD (.tuple [.str "beside", b]) = verB b := by simp [verD, wdOf_beside]
theorem partV_bes (b : PyData) : partV (.tuple [.str "beside", b]) = none := rfl
def Ver.isY : Ver → Bool
  | .yes _ => true
  | .no _ _ => false
def letR (v : Ver) (st : Sto) : R A := match v with
  | .no f k => .exc "InvalidPaper" [("at", .int k), ("word", .str f)] st
  | .yes n => .ok (.d (.int n)) st
theorem is_house_of (m : Nat) (d : PyData) (v : Ver) (st : Sto) (h : p_lets_house m [.d d] st = letR v st) : p_is_house (m + 1) [.d d] st = .ok (.d (.bool v.isY)) st := by
  unfold p_is_house
  cases v with
  | no f k =>
    simp only [letR] at h
    simp [b_is_house, h, Ver.isY]
  | yes n =>
    simp only [letR] at h
    simp [b_is_house, h, Ver.isY]
theorem lets_plain' (m : Nat) {B k W : Nat} {w : Wd} (hw : w ≠ .beside) (a b : PyData) (hd : Gd B k W (.tuple [.str w.s, a, b])) (hk : k ≤ 64) (hW : W ≤ 1000) (st : Sto) :
    p_lets_house (m + 1) [.d (.tuple [.str w.s, a, b])] st = letR (verP w a b) st := by
  rw [lets_plain m hw a b hd hk hW st]
  rfl
noncomputable def cbB (m : Nat) : GS := (sSeq (sSet 3 (gAndV (gCall p_has_shape (LF.gCons (gVar 2) LF.gNil)) (g2 pNe (g2 pIx (gVar 2) (gC (.int 0))) (gC (.str "beside"))))) (sExpr (gCall p_demand (LF.gCons (gAndV (gVar 3) (gCall (p_is_house (m + 2)) (LF.gCons (gVar 2) LF.gNil))) (LF.gCons (gC (.str "row")) (LF.gCons (gVar 1) LF.gNil))))))
theorem cb_step (m : Nat) {B k W : Nat} (p : PyData) (hp : Gd B k W p) (hk : k ≤ 64) (hW : W ≤ 1000) (i : Int) (b o : Option A) (st : Sto) :
    ∃ o', cbB m [b, some (.d (.int i)), some (.d p), o] st = if (partV p).isSome = true then .nx [b, some (.d (.int i)), some (.d p), o'] st else .exc "InvalidPaper" [("at", .int i), ("word", .str "row")] st := by
  have e1 := q_has_shape p hp hk st
  cases form p with
  | plain w x y hw =>
    rw [shape3 hw] at e1
    have sw := sh_wd w
    have ew : decide (w.s = "beside") = false := by rw [(eq_lit w).2.2.2.2.2]; simp [hw]
    have ew2 : (w.s = "beside") = False := by simpa using ew
    have e2 := is_house_of (m + 1) _ _ st (lets_plain' m hw x y hp hk hW st)
    refine ⟨some (.d (.bool true)), ?_⟩
    rw [partV_plain hw]
    cases hv : verP w x y with
    | yes n =>
      rw [hv] at e2
      simp [cbB, e1, at3, sw, eqv_str, ew2, e2, Ver.isY, q_demand]
    | no f j =>
      rw [hv] at e2
      simp [cbB, e1, at3, sw, eqv_str, ew2, e2, Ver.isY, q_demand]
  | bes y =>
    have hs : shapeD (.tuple [.str "beside", y]) = true := by simp [shapeD, wdOf_beside]
    rw [hs] at e1
    refine ⟨none, ?_⟩
    rw [partV_bes]
    simp [cbB, e1, at2', eqv_str, q_demand]
  | no _ h h1 h2 =>
    rw [h] at e1
    refine ⟨none, ?_⟩
    rw [h2]
    simp [cbB, e1, q_demand]
theorem cb_loop (m : Nat) {B k W : Nat} (hk : k ≤ 64) (hW : W ≤ 1000) (b : Option A) (st : Sto) : ∀ (ps : List PyData) (_ : ∀ p ∈ ps, Gd B k W p) (i : Nat) (t : Int) (o1 o2 o3 : Option A),
    ∃ env, forD (fun _ => True) (ggTup [(ggName 1), (ggName 2)]) (cbB m) (enumD i ps) [b, o1, o2, o3] st = match besV ps i t with
      | .yes _ => .nx env st
      | .no f j => .exc "InvalidPaper" [("at", .int j), ("word", .str f)] st
  | [], _, i, t, o1, o2, o3 => ⟨_, by simp [enumD, besV]; rfl⟩
  | p :: r, h, i, t, o1, o2, o3 => by
    obtain ⟨o', hs⟩ := cb_step m p (h p (by simp)) hk hW (i : Int) b o3 st
    have hg : ggTup [(ggName 1), (ggName 2)] (.tuple [.int (i : Nat), p]) [b, o1, o2, o3] = some [b, some (.d (.int (i : Nat))), some (.d p), o3] := rfl
    simp only [enumD]
    cases hv : partV p with
    | some n =>
      obtain ⟨env, he⟩ := cb_loop m hk hW b st r (fun p hp => h p (by simp [hp])) (i + 1) (t + n) (some (.d (.int (i : Nat)))) (some (.d p)) o'
      refine ⟨env, ?_⟩
      rw [hv] at hs
      rw [forD_consT trivial hg, hs]
      simp only [Option.isSome_some, if_true, forK_nx, he, besV, hv]
    | none =>
      refine ⟨[], ?_⟩
      rw [hv] at hs
      rw [forD_consT trivial hg, hs]
      simp only [besV, hv, Option.isSome_none, Bool.false_eq_true, if_false, forK_exc]
theorem q_check_beside (m : Nat) {B k W : Nat} (y : PyData) (hy : Gd B k W y) (hk : k ≤ 64) (hW : W ≤ 1000) (st : Sto) :
    p_check_beside (m + 3) [.d y] st = match verB y with
      | .yes _ => .ok (.d .none) st
      | .no f j => .exc "InvalidPaper" [("at", .int j), ("word", .str f)] st := by
  cases y with
  | tuple ps =>
    by_cases h2 : 2 ≤ ps.length
    · obtain ⟨env, he⟩ := cb_loop m (B := B) (k := k - 1) (W := W - 1) (by omega) (by omega) (some (.d (.tuple ps))) st ps hy.tup_el 0 0 none none none
      have h2' : (2 : Int) ≤ (ps.length : Int) := by omega
      have c1 : sExpr (gCall p_demand (LF.gCons (gAndV (gIsi "tuple" (gVar 0)) (g2 pGe (gB1 pLen (LF.gCons (gVar 0) LF.gNil)) (gC (.int 2)))) (LF.gCons (gC (.str "rows")) (LF.gCons (gNeg (gC (.int 1))) LF.gNil)))) [some (.d (.tuple ps)), none, none, none] st = .nx [some (.d (.tuple ps)), none, none, none] st := by
        simp [q_demand, h2']
      have f0 : sFor (giEnum (gVar 0)) (ggTup [(ggName 1), (ggName 2)]) (cbB m) [some (.d (.tuple ps)), none, none, none] st = forD (fun _ => True) (ggTup [(ggName 1), (ggName 2)]) (cbB m) (enumD 0 ps) [some (.d (.tuple ps)), none, none, none] st := by
        simp
      rw [he] at f0
      have z : b_check_beside (p_is_house (m + 2)) [some (.d (.tuple ps)), none, none, none] st = sFor (giEnum (gVar 0)) (ggTup [(ggName 1), (ggName 2)]) (cbB m) [some (.d (.tuple ps)), none, none, none] st := by
        unfold b_check_beside
        rw [seq_nx c1]
        rfl
      rw [f0] at z
      show LF.runC 4 (b_check_beside (p_is_house (m + 2))) [.d (.tuple ps)] st = _
      simp only [verB, h2, if_true]
      cases hb : besV ps 0 0 with
      | yes n =>
        rw [hb] at z
        have w := runC_nx (m := 4) (b := b_check_beside (p_is_house (m + 2))) (as := [.d (.tuple ps)]) z
        rw [List.take_length] at w
        exact w
      | no f j =>
        rw [hb] at z
        have w := runC_exc (m := 4) (b := b_check_beside (p_is_house (m + 2))) (as := [.d (.tuple ps)]) z
        rw [List.take_length] at w
        exact w
    · have h2' : ¬ (2 : Int) ≤ (ps.length : Int) := by omega
      unfold p_check_beside
      simp [b_check_beside, q_demand, h2', verB, h2]
  | _ =>
    unfold p_check_beside
    simp [b_check_beside, q_demand, verB]
end G
set_option Elab.async false
set_option linter.all false
set_option maxRecDepth 100000
set_option maxHeartbeats 2000000
namespace G
open PySem LF
/-! how many wishes a house has; the program's word on any value -/
theorem ff_none_of {w : Wd} {a b : PyData} {n : Int} (h : verP w a b = .yes n) : ∃ (m : Int) (rs : List PyData), a = .int m ∧ b = .tuple rs ∧ n = (if w = .limits ∨ w = .table then m else (rs.length : Int)) := by
  cases a with
  | int m =>
    cases b with
    | tuple rs =>
      refine ⟨m, rs, rfl, rfl, ?_⟩
      unfold verP at h
      split at h
      · dsimp only at h
        split at h
        · unfold verR at h
          split at h
          · cases h
          · injection h with h
            exact h.symm
        · cases h
      · cases h
    | _ => simp [verP, rowsD] at h; split at h <;> cases h
  | _ => simp [verP] at h
theorem wish_part (m : Nat) {p : PyData} {n : Int} (h : partV p = some n) (st : Sto) : p_wish_count (m + 1) [.d p] st = .ok (.d (.int n)) st := by
  cases form p with
  | plain w x y hw =>
    rw [partV_plain hw] at h
    cases hv : verP w x y with
    | no f j => rw [hv] at h; cases h
    | yes n' =>
      rw [hv] at h
      injection h with h
      subst h
      obtain ⟨a, rs, rfl, rfl, e⟩ := ff_none_of hv
      rw [q_wish_plain m hw a rs st, e]
  | bes y => cases h
  | no _ h0 h1 h2 => rw [h2] at h; cases h
def sumV : List PyData → Int
  | [] => 0
  | p :: r => (partV p).getD 0 + sumV r
theorem besV_yes : ∀ (ps : List PyData) (k : Nat) (t n : Int), besV ps k t = .yes n → n = t + sumV ps ∧ ∀ p ∈ ps, ∃ i, partV p = some i
  | [], k, t, n, h => by
    simp only [besV] at h
    injection h with h
    exact ⟨by simp [sumV, h], by simp⟩
  | p :: r, k, t, n, h => by
    simp only [besV] at h
    cases hv : partV p with
    | none => rw [hv] at h; cases h
    | some i =>
      rw [hv] at h
      obtain ⟨h1, h2⟩ := besV_yes r (k + 1) (t + i) n h
      refine ⟨by simp only [sumV, hv, Option.getD_some]; omega, ?_⟩
      intro q hq
      rcases List.mem_cons.mp hq with rfl | hq
      · exact ⟨i, hv⟩
      · exact h2 q hq
theorem sum_map (ps : List PyData) : (ps.map fun p => (partV p).getD 0).sum = sumV ps := by
  induction ps with
  | nil => rfl
  | cons p r ih => simp [sumV, ih]
theorem q_wish_beside (m : Nat) (ps : List PyData) (hl : ps.length ≤ bigN) (h : ∀ p ∈ ps, ∃ i, partV p = some i) (st : Sto) : p_wish_count (m + 2) [.d (.tuple [.str "beside", .tuple ps])] st = .ok (.d (.int (sumV ps))) st := by
  have e := comp_pure (i := 1) (test := gYes) (elt := gCall (p_wish_count (m + 1)) (LF.gCons (gVar 1) LF.gNil)) (wenv := [some (.d (.tuple [.str "beside", .tuple ps])), none]) (st := st) (fun _ => true) (fun p => .int ((partV p).getD 0)) ps (fun d _ => rfl) (fun p hp _ => by
    obtain ⟨i, hi⟩ := h p hp
    have e := wish_part m hi st
    simp [e, hi])
  rw [List.filter_eq_self.mpr (fun _ _ => rfl)] at e
  have e2 : (ps.map fun p => PyData.int ((partV p).getD 0)) = (ps.map fun p => (partV p).getD 0).map .int := by simp
  rw [e2] at e
  have e3 := intsOf_ints (ps.map fun p => (partV p).getD 0)
  rw [List.map_map] at e e3
  unfold p_wish_count
  simp [b_wish_count, at2', eqv_str, hl, e, e3, sum_map]
theorem lets_D (m : Nat) {B k W : Nat} (d : PyData) (hd : Gd B k W d) (hk : k ≤ 64) (hW : W ≤ 1000) (st : Sto) : p_lets_house (m + 4) [.d d] st = letR (verD d) st := by
  cases form d with
  | plain w a b hw =>
    rw [verD_plain hw]
    exact lets_plain' (m + 3) hw a b hd hk hW st
  | no _ h h1 h2 =>
    have e1 := q_has_shape d hd hk st
    rw [h] at e1
    rw [h1]
    unfold p_lets_house
    simp [b_lets_house, e1, q_demand, letR]
  | bes y =>
    rw [verD_bes]
    have e1 := q_has_shape _ hd hk st
    have hs : shapeD (.tuple [.str "beside", y]) = true := by simp [shapeD, wdOf_beside]
    rw [hs] at e1
    have hy := hd.tup_el y (by simp)
    have e2 := q_check_beside m y hy (by omega) (by omega) st
    have c1 : sExpr (gCall p_demand (LF.gCons (gCall p_has_shape (LF.gCons (gVar 0) LF.gNil)) (LF.gCons (gC (.str "shape")) (LF.gCons (gNeg (gC (.int 1))) LF.gNil)))) [some (.d (.tuple [.str "beside", y]))] st = .nx [some (.d (.tuple [.str "beside", y]))] st := by
      simp [e1, q_demand]
    have c0 : ∀ u v : GS, sIf (gB (g2 pEq (g2 pIx (gVar 0) (gC (.int 0))) (gC (.str "beside")))) u v [some (.d (.tuple [.str "beside", y]))] st = u [some (.d (.tuple [.str "beside", y]))] st := fun u v => by
      simp [at2', eqv_str]
    have c2 : sExpr (gCall (p_check_beside (m + 3)) (LF.gCons (g2 pIx (gVar 0) (gC (.int 1))) LF.gNil)) [some (.d (.tuple [.str "beside", y]))] st = (p_check_beside (m + 3) [.d y] st).bindO fun _ st1 => .nx [some (.d (.tuple [.str "beside", y]))] st1 := by
      unfold sExpr
      rw [call1 (x := .d y) (by simp [at2'])]
    cases hv : verB y with
    | no f j =>
      rw [hv] at e2
      rw [e2] at c2
      have z : b_lets_house (p_check_beside (m + 3)) [some (.d (.tuple [.str "beside", y]))] st = .exc "InvalidPaper" [("at", .int j), ("word", .str f)] st := by
        unfold b_lets_house
        rw [seq_nx c1]
        exact seq_exc (show sIf _ _ _ _ _ = _ from (c0 _ _).trans c2)
      have w := runC_exc (m := 1) (b := b_lets_house (p_check_beside (m + 3))) (as := [.d (.tuple [.str "beside", y])]) z
      rw [List.take_length] at w
      exact w
    | yes n =>
      rw [hv] at e2
      rw [e2] at c2
      cases y with
      | tuple ps =>
        have h2 : 2 ≤ ps.length := by
          by_cases c : 2 ≤ ps.length
          · exact c
          · simp [verB, c] at hv
        simp only [verB, h2, if_true] at hv
        obtain ⟨q1, q2⟩ := besV_yes ps 0 0 n hv
        have hl : ps.length ≤ bigN := by
          have := hy.tup_len
          unfold bigN
          omega
        have e5 : p_wish_count 16 [.d (.tuple [.str "beside", .tuple ps])] st = _ := q_wish_beside 14 ps hl q2 st
        have c3 : sRet (gCall (p_wish_count 16) (LF.gCons (gVar 0) LF.gNil)) [some (.d (.tuple [.str "beside", .tuple ps]))] st = .rt (.d (.int n)) st := by
          simp only [sRet]
          rw [call1 (x := .d (.tuple [.str "beside", .tuple ps])) (by simp), e5, show n = sumV ps from by omega]
          rfl
        have z : b_lets_house (p_check_beside (m + 3)) [some (.d (.tuple [.str "beside", .tuple ps]))] st = .rt (.d (.int n)) st := by
          unfold b_lets_house
          rw [seq_nx c1]
          rw [seq_nx (show sIf _ _ _ _ _ = _ from (c0 _ _).trans c2)]
          exact c3
        have w := runC_rt (m := 1) (b := b_lets_house (p_check_beside (m + 3))) (as := [.d (.tuple [.str "beside", .tuple ps])]) z
        rw [List.take_length] at w
        exact w
      | _ => simp [verB] at hv
def verT : Ver → PyData
  | .no w k => .tuple [.str "no", .str w, .int k]
  | .yes n => .tuple [.str "let", .int n]
theorem q_lets {B k W : Nat} (d : PyData) (hd : Gd B k W d) (hk : k ≤ 64) (hW : W ≤ 1000) (st : Sto) : p__law_lets [.d d] st = .ok (.d (verT (verD d))) st := by
  have e : p_lets_house 16 [.d d] st = _ := lets_D 12 d hd hk hW st
  have hw : (("word" : Str) = "at") = False := eq_false (by decide)
  cases hv : verD d with
  | no f j =>
    rw [hv] at e
    simp only [letR] at e
    simp [p__law_lets, b__law_lets, gK, pick, e, verT, hw]
  | yes n =>
    rw [hv] at e
    simp only [letR] at e
    simp [p__law_lets, b__law_lets, gK, pick, e, verT]
theorem q_is_house {B k W : Nat} (d : PyData) (hd : Gd B k W d) (hk : k ≤ 64) (hW : W ≤ 1000) (st : Sto) : p_is_house 16 [.d d] st = .ok (.d (.bool (verD d).isY)) st :=
  is_house_of 15 d (verD d) st (lets_D 11 d hd hk hW st)
end G
set_option Elab.async false
set_option linter.all false
set_option maxRecDepth 100000
set_option maxHeartbeats 2000000
namespace G
open PySem LF
/-! the law's verdict -/
theorem rowF_cases (w : Wd) (n : Int) (rs : List PyData) (k : Nat) : rowF w n rs k = "" ∨ rowF w n rs k = "cross" ∨ rowF w n rs k = "row" := by
  unfold rowF
  split
  · exact .inl rfl
  · split
    · split
      · exact .inl rfl
      · exact .inr (.inl rfl)
    · exact .inr (.inr rfl)
noncomputable def vdB : GS := (sSeq (sSet 5 (gCall p__law_row_fault (LF.gCons (gVar 1) (LF.gCons (gVar 3) (LF.gCons (gVar 2) (LF.gCons (gVar 4) LF.gNil)))))) (sIf (gB (g2 pNe (gVar 5) (gC (.str "")))) (sRet (gTupD (LF.gCons (gC (.str "no")) (LF.gCons (gVar 5) (LF.gCons (gVar 4) LF.gNil))))) sNil))
theorem vd_step {w : Wd} {n : Int} {rs : List PyData} (R : Rws w n rs) {k : Nat} {d : PyData} (hd : rs[k]? = some d) (hp : ∀ j, j < k → rowF w n rs j = "") (x o : Option A) (st : Sto) :
    vdB [x, some (.d (.str w.s)), some (.d (.tuple rs)), some (.d (.int n)), some (.d (.int (k : Nat))), o] st = if rowF w n rs k = "" then .nx [x, some (.d (.str w.s)), some (.d (.tuple rs)), some (.d (.int n)), some (.d (.int (k : Nat))), some (.d (.str ""))] st else .rt (.d (.tuple [.str "no", .str (rowF w n rs k), .int (k : Nat)])) st := by
  have e := q_row_fault R hd hp st
  rcases rowF_cases w n rs k with h | h | h
  · rw [h] at e ⊢
    simp [vdB, e, eqv_str]
  · rw [h] at e ⊢
    simp [vdB, e, eqv_str]
  · rw [h] at e ⊢
    simp [vdB, e, eqv_str]
theorem vd_loop {w : Wd} {n : Int} {rs : List PyData} (R : Rws w n rs) (d : Option A) (st : Sto) : ∀ (c k : Nat) (_ : k + c = rs.length) (_ : ∀ j, j < k → rowF w n rs j = "") (x o : Option A),
    ∃ x' o', forD (fun _ => True) (ggName 4) vdB ((List.range' k c).map fun (j : Nat) => PyData.int (j : Int)) [d, some (.d (.str w.s)), some (.d (.tuple rs)), some (.d (.int n)), x, o] st = match ff w n rs c k with
      | none => .nx [d, some (.d (.str w.s)), some (.d (.tuple rs)), some (.d (.int n)), x', o'] st
      | some (j, f) => .rt (.d (.tuple [.str "no", .str f, .int (j : Nat)])) st
  | 0, k, _, _, x, o => ⟨x, o, by simp [ff]⟩
  | c + 1, k, hk, hp, x, o => by
    have hl : k < rs.length := by omega
    have hd : rs[k]? = some rs[k] := List.getElem?_eq_getElem hl
    have hs := vd_step R hd hp d o st
    by_cases h : rowF w n rs k = ""
    · obtain ⟨x', o', he⟩ := vd_loop R d st c (k + 1) (by omega) (fun j hj => by
        by_cases c : j < k
        · exact hp j c
        · rw [show j = k from by omega]; exact h) (some (.d (.int (k : Nat)))) (some (.d (.str "")))
      refine ⟨x', o', ?_⟩
      rw [List.range'_succ, List.map_cons, forD_cons']
      simp only [List.set]
      rw [hs, if_pos h, forK_nx, he]
      simp only [ff, h, if_true]
    · refine ⟨none, none, ?_⟩
      rw [List.range'_succ, List.map_cons, forD_cons']
      simp only [List.set]
      rw [hs, if_neg h]
      simp only [ff, h, if_false]
      rfl
section
variable (f : List A → Sto → R A) (st : Sto)
theorem vd_shape {B k W : Nat} (d : PyData) (hd : Gd B k W d) (hk : k ≤ 64) (h : shapeD d = false) : LF.runN 6 (b__law_verdict f) [.d d] st = .ok (.d (verT (.no "shape" (-1)))) st := by
  cases d with
  | tuple ds =>
    cases ds with
    | nil => simp [b__law_verdict, PyData.eqv, verT]
    | cons x r =>
      have hx := (hd.tup_el x (by simp)).sh
      have hl : ((r.length : Int) + 1 = 0) = False := by simp; omega
      have hw := sh_words
      simp only [d_WORDS] at hw
      cases x with
      | str s =>
        cases hw2 : wdOf s with
        | none =>
          obtain ⟨h1, h2, h3, h4, h5, h6⟩ := wdOf_none hw2
          simp [b__law_verdict, PyData.eqv, verT, hl, hx, hw, h1.symm, h2.symm, h3.symm, h4.symm, h5.symm, h6.symm]
        | some w =>
          have := wdOf_some hw2
          subst this
          simp only [shapeD, hw2] at h
          cases w with
          | beside =>
            have h7 : ((r.length : Int) + 1 = 2) = False := by simp at h ⊢; omega
            simp only [Wd.s] at hx ⊢
            simp [b__law_verdict, PyData.eqv, verT, hl, hx, hw, h7]
          | _ =>
            have h7 : ((r.length : Int) + 1 = 3) = False := by simp at h ⊢; omega
            simp only [Wd.s] at hx ⊢
            simp [b__law_verdict, PyData.eqv, verT, hl, hx, hw, h7]
      | _ => simp [b__law_verdict, PyData.eqv, verT, hl]
  | _ => simp [b__law_verdict, verT]
theorem vd_plain {B k W : Nat} {w : Wd} (hw : w ≠ .beside) (a b : PyData) (hd : Gd B k W (.tuple [.str w.s, a, b])) (hk : k ≤ 64) (hW : W ≤ 1000) : LF.runN 6 (b__law_verdict f) [.d (.tuple [.str w.s, a, b])] st = .ok (.d (verT (verP w a b))) st := by
  have sw := sh_wd w
  have hws := sh_words
  simp only [d_WORDS] at hws
  have hp := sh_primes
  simp only [d_PRIMES] at hp
  have ew : decide (w.s = "beside") = false := by rw [(eq_lit w).2.2.2.2.2]; simp [hw]
  have ew2 : (w.s = "beside") = False := by simpa using ew
  have hin : ([PyData.str "limits", .str "slots", .str "web", .str "rows", .str "table", .str "beside"].any fun z => PyData.eqv z (.str w.s)) = true := by
    cases w <;> decide
  have c1 : ∀ x : GS, sIf (gOr (gNot (gB (gIsi "tuple" (gVar 0)))) (gOr (gB (g2 pEq (gB1 pLen (LF.gCons (gVar 0) LF.gNil)) (gC (.int 0)))) (gNot (gB (gIsi "str" (g2 pIx (gVar 0) (gC (.int 0)))))))) x sNil [some (.d (.tuple [.str w.s, a, b])), none, none, none, none, none] st = .nx [some (.d (.tuple [.str w.s, a, b])), none, none, none, none, none] st := fun x => by
    simp [PyData.eqv, at3]
  have c2 : sSet 1 (g2 pIx (gVar 0) (gC (.int 0))) [some (.d (.tuple [.str w.s, a, b])), none, none, none, none, none] st = .nx [some (.d (.tuple [.str w.s, a, b])), some (.d (.str w.s)), none, none, none, none] st := by
    simp [at3]
  have c3 : ∀ x : GS, sIf (gOr (gB (g2 (pIn not) (gVar 1) (gTupD (LF.gCons (gC (.str "limits")) (LF.gCons (gC (.str "slots")) (LF.gCons (gC (.str "web")) (LF.gCons (gC (.str "rows")) (LF.gCons (gC (.str "table")) (LF.gCons (gC (.str "beside")) LF.gNil))))))))) (gB (g2 pNe (gB1 pLen (LF.gCons (gVar 0) LF.gNil)) (g2 pSub (gC (.int 3)) (gB1 pInt1 (LF.gCons (g2 pEq (gVar 1) (gC (.str "beside"))) LF.gNil)))))) x sNil [some (.d (.tuple [.str w.s, a, b])), some (.d (.str w.s)), none, none, none, none] st = .nx [some (.d (.tuple [.str w.s, a, b])), some (.d (.str w.s)), none, none, none, none] st := fun x => by
    cases w <;> simp only [Wd.s] at sw hin ⊢ <;> simp [sw, hws, PyData.eqv] at hw ⊢
  have c4 : sSet 2 (g2 pIx (gVar 0) (gNeg (gC (.int 1)))) [some (.d (.tuple [.str w.s, a, b])), some (.d (.str w.s)), none, none, none, none] st = .nx [some (.d (.tuple [.str w.s, a, b])), some (.d (.str w.s)), some (.d b), none, none, none] st := by
    simp [at3]
  have c5 : ∀ x : GS, sIf (gB (g2 pEq (gVar 1) (gC (.str "beside")))) x sNil [some (.d (.tuple [.str w.s, a, b])), some (.d (.str w.s)), some (.d b), none, none, none] st = .nx [some (.d (.tuple [.str w.s, a, b])), some (.d (.str w.s)), some (.d b), none, none, none] st := fun x => by
    simp [sw, eqv_str, ew2]
  have c6 : sSet 3 (g2 pIx (gVar 0) (gC (.int 1))) [some (.d (.tuple [.str w.s, a, b])), some (.d (.str w.s)), some (.d b), none, none, none] st = .nx [some (.d (.tuple [.str w.s, a, b])), some (.d (.str w.s)), some (.d b), some (.d a), none, none] st := by
    simp [at3]
  have c7 : sIf (gOr (gNot (gB (gCall p__law_count (LF.gCons (gVar 3) LF.gNil)))) (gOr (gAnd (gB (g2 pEq (gVar 1) (gC (.str "rows")))) (gB (g2 (pIn not) (gVar 3) (gTupD (LF.gCons (gC (.int 2)) (LF.gCons (gC (.int 3)) (LF.gCons (gC (.int 5)) (LF.gCons (gC (.int 7)) LF.gNil)))))))) (gAnd (gB (g2 pEq (gVar 1) (gC (.str "table")))) (gB (g2 pGt (gVar 3) (gC (.int 12))))))) (sRet (gTupD (LF.gCons (gC (.str "no")) (LF.gCons (gC (.str "size")) (LF.gCons (gNeg (gC (.int 1))) LF.gNil))))) sNil [some (.d (.tuple [.str w.s, a, b])), some (.d (.str w.s)), some (.d b), some (.d a), none, none] st = if secD w a = true then .nx [some (.d (.tuple [.str w.s, a, b])), some (.d (.str w.s)), some (.d b), some (.d a), none, none] st else .rt (.d (verT (.no "size" (-1)))) st := by
    cases a with
    | int i =>
      by_cases h : 0 ≤ i
      · cases w with
        | beside => exact absurd rfl hw
        | rows =>
          by_cases h2 : i = 2 ∨ i = 3 ∨ i = 5 ∨ i = 7
          · rcases h2 with rfl | rfl | rfl | rfl <;> simp [q_count, isNumD, secD, Wd.s, eqv_str, hp, PyData.eqv]
          · have h3 : ¬ i = 2 ∧ ¬ i = 3 ∧ ¬ i = 5 ∧ ¬ i = 7 := by omega
            have h4 : ¬ 2 = i ∧ ¬ 3 = i ∧ ¬ 5 = i ∧ ¬ 7 = i := by omega
            simp [q_count, isNumD, secD, Wd.s, eqv_str, hp, PyData.eqv, h, h3, h4, verT]
        | table =>
          by_cases h2 : i ≤ 12
          · have h3 : ¬ 12 < i := by omega
            simp [q_count, isNumD, secD, Wd.s, eqv_str, hp, PyData.eqv, h, h2, h3, verT]
          · have h3 : 12 < i := by omega
            simp [q_count, isNumD, secD, Wd.s, eqv_str, hp, PyData.eqv, h, h2, h3, verT]
        | _ => simp [q_count, isNumD, secD, Wd.s, eqv_str, h, verT]
      · have h5 : secD w (.int i) = false := by
          cases w <;> simp [secD, isNumD, h]
          omega
        simp [q_count, isNumD, h, h5, verT]
    | _ => cases w <;> simp [q_count, isNumD, secD, verT]
  have fin : b__law_verdict f [some (.d (.tuple [.str w.s, a, b])), none, none, none, none, none] st = .rt (.d (verT (verP w a b))) st := by
    unfold b__law_verdict
    rw [seq_nx (c1 _), seq_nx c2, seq_nx (c3 _), seq_nx c4, seq_nx (c5 _), seq_nx c6]
    cases hs : secD w a with
    | false =>
      rw [hs] at c7
      rw [seq_rt c7]
      simp [verP, hs]
    | true =>
      rw [hs, if_pos rfl] at c7
      rw [seq_nx c7]
      obtain ⟨n, rfl, hn, hn2⟩ := sec_form hs
      have c8 : sIf (gOr (gNot (gB (gIsi "tuple" (gVar 2)))) (gAnd (gB (g2 pEq (gVar 1) (gC (.str "table")))) (gB (g2 pNe (gB1 pLen (LF.gCons (gVar 2) LF.gNil)) (g2 pShl (gC (.int 1)) (gVar 3)))))) (sRet (gTupD (LF.gCons (gC (.str "no")) (LF.gCons (gC (.str "rows")) (LF.gCons (gNeg (gC (.int 1))) LF.gNil))))) sNil [some (.d (.tuple [.str w.s, .int n, b])), some (.d (.str w.s)), some (.d b), some (.d (.int n)), none, none] st = if rowsD w n b = true then .nx [some (.d (.tuple [.str w.s, .int n, b])), some (.d (.str w.s)), some (.d b), some (.d (.int n)), none, none] st else .rt (.d (verT (.no "rows" (-1)))) st := by
        cases b with
        | tuple ds =>
          cases w with
          | beside => exact absurd rfl hw
          | table =>
            have := hn2 rfl
            have hc : cPow 1 n = true := by unfold cPow; simp; omega
            by_cases h2 : (ds.length : Int) = 2 ^ n.toNat
            · simp [rowsD, Wd.s, eqv_str, hc, PyData.eqv, h2, verT]
            · simp [rowsD, Wd.s, eqv_str, hc, PyData.eqv, h2, verT]
          | _ => simp [rowsD, Wd.s, eqv_str, verT]
        | _ => simp [rowsD, verT]
      cases hr : rowsD w n b with
      | false =>
        rw [hr] at c8
        rw [seq_rt c8]
        simp [verP, hs, hr]
      | true =>
        rw [hr, if_pos rfl] at c8
        rw [seq_nx c8]
        cases b with
        | tuple rs =>
          have R : Rws w n rs := rws_of (hd.tup_el (.tuple rs) (by simp)) (by omega) hw
          have hz : rs.length ≤ 1000000 := by have := R.ln; omega
          obtain ⟨x', o', he⟩ := vd_loop R (some (.d (.tuple [.str w.s, .int n, .tuple rs]))) st rs.length 0 (by omega) (fun j hj => absurd hj (by omega)) none none
          have er := ra rs.length hz [some (.d (.tuple [.str w.s, .int n, .tuple rs])), some (.d (.str w.s)), some (.d (.tuple rs)), some (.d (.int n)), none, none] st (gB1 pLen (LF.gCons (gVar 2) LF.gNil)) (by simp)
          rw [rangeI_range'] at er
          have f0 : sFor (giR1 (gB1 pLen (LF.gCons (gVar 2) LF.gNil))) (ggName 4) vdB [some (.d (.tuple [.str w.s, .int n, .tuple rs])), some (.d (.str w.s)), some (.d (.tuple rs)), some (.d (.int n)), none, none] st = forD (fun _ => True) (ggName 4) vdB ((List.range' 0 rs.length).map fun (j : Nat) => PyData.int (j : Int)) [some (.d (.tuple [.str w.s, .int n, .tuple rs])), some (.d (.str w.s)), some (.d (.tuple rs)), some (.d (.int n)), none, none] st := by
            unfold sFor
            rw [er]
            rfl
          rw [he] at f0
          have hv : verP w (.int n) (.tuple rs) = verR w n rs := by
            unfold verP
            rw [if_pos hs]
            dsimp only
            rw [if_pos hr]
          rw [hv]
          unfold verR
          cases hf : ff w n rs rs.length 0 with
          | some p =>
            obtain ⟨j, g⟩ := p
            rw [hf] at f0
            unfold vdB at f0
            rw [seq_rt f0]
            rfl
          | none =>
            rw [hf] at f0
            unfold vdB at f0
            rw [seq_nx f0]
            cases w with
            | beside => exact absurd rfl hw
            | _ => simp [Wd.s, eqv_str, verT]
        | _ => simp [rowsD] at hr
  have y := run_rt (m := 6) (b := b__law_verdict f) (as := [.d (.tuple [.str w.s, a, b])]) fin
  rw [List.take_length] at y
  exact y
theorem vd_bes (y : PyData) (v : PyData) (hf : f [.d y] st = .ok (.d v) st) : LF.runN 6 (b__law_verdict f) [.d (.tuple [.str "beside", y])] st = .ok (.d v) st := by
  have hws := sh_words
  simp only [d_WORDS] at hws
  simp [b__law_verdict, PyData.eqv, at2', hws, hf]
end
noncomputable def vbB (f : List A → Sto → R A) : GS := (sSeq (sSet 3 (gCall f (LF.gCons (g2 pIx (gVar 0) (gVar 2)) LF.gNil))) (sSeq (sIf (gOr (gB (g2 pEq (g2 pIx (gVar 3) (gC (.int 0))) (gC (.str "no")))) (gB (g2 pEq (g2 pIx (g2 pIx (gVar 0) (gVar 2)) (gC (.int 0))) (gC (.str "beside"))))) (sRet (gTupD (LF.gCons (gC (.str "no")) (LF.gCons (gC (.str "row")) (LF.gCons (gVar 2) LF.gNil))))) sNil) (sSet 1 (g2 pAdd (gVar 1) (g2 pIx (gVar 3) (gC (.int 1)))))))
theorem vb_step {f : List A → Sto → R A} {ps : List PyData} {k : Nat} {p : PyData} (hp : ps[k]? = some p) (st : Sto) (hf : f [.d p] st = .ok (.d (verT (verD p))) st) (t : Int) (o : Option A) :
    vbB f [some (.d (.tuple ps)), some (.d (.int t)), some (.d (.int (k : Nat))), o] st = match partV p with
      | some n => .nx [some (.d (.tuple ps)), some (.d (.int (t + n))), some (.d (.int (k : Nat))), some (.d (verT (verD p)))] st
      | none => .rt (.d (.tuple [.str "no", .str "row", .int (k : Nat)])) st := by
  have ha := atI_nat hp
  cases form p with
  | plain w x y hw =>
    rw [verD_plain hw] at hf ⊢
    rw [partV_plain hw]
    have sw := sh_wd w
    have ew : decide (w.s = "beside") = false := by rw [(eq_lit w).2.2.2.2.2]; simp [hw]
    have ew2 : (w.s = "beside") = False := by simpa using ew
    cases hv : verP w x y with
    | no f j =>
      rw [hv] at hf
      simp only [verT] at hf ⊢
      simp [vbB, ha, hf, at3, eqv_str]
    | yes n =>
      rw [hv] at hf
      simp only [verT] at hf ⊢
      simp [vbB, ha, hf, at3, at2', eqv_str, sw, ew2]
  | bes y =>
    rw [partV_bes]
    cases hv : verD (.tuple [.str "beside", y]) with
    | no f j =>
      rw [hv] at hf
      simp only [verT] at hf ⊢
      simp [vbB, ha, hf, at3, eqv_str]
    | yes n =>
      rw [hv] at hf
      simp only [verT] at hf ⊢
      simp [vbB, ha, hf, at3, at2', eqv_str]
  | no _ h h1 h2 =>
    rw [h1] at hf ⊢
    rw [h2]
    simp only [verT] at hf ⊢
    simp [vbB, ha, hf, at3, eqv_str]
theorem vb_loop {f : List A → Sto → R A} {ps : List PyData} (st : Sto) (hf : ∀ p ∈ ps, f [.d p] st = .ok (.d (verT (verD p))) st) : ∀ (c k : Nat) (_ : k + c = ps.length) (t : Int) (x o : Option A),
    ∃ x' o', forD (fun _ => True) (ggName 2) (vbB f) ((List.range' k c).map fun (j : Nat) => PyData.int (j : Int)) [some (.d (.tuple ps)), some (.d (.int t)), x, o] st = match besV (ps.drop k) k t with
      | .yes n => .nx [some (.d (.tuple ps)), some (.d (.int n)), x', o'] st
      | .no g j => .rt (.d (.tuple [.str "no", .str g, .int j])) st
  | 0, k, hk, t, x, o => ⟨x, o, by
      rw [List.drop_eq_nil_of_le (by omega)]
      simp [besV]⟩
  | c + 1, k, hk, t, x, o => by
    have hl : k < ps.length := by omega
    have hd : ps[k]? = some ps[k] := List.getElem?_eq_getElem hl
    have hs := vb_step hd st (hf _ (List.getElem_mem hl)) t o
    rw [List.drop_eq_getElem_cons hl]
    cases hv : partV ps[k] with
    | some n =>
      obtain ⟨x', o', he⟩ := vb_loop st hf c (k + 1) (by omega) (t + n) (some (.d (.int (k : Nat)))) (some (.d (verT (verD ps[k]))))
      refine ⟨x', o', ?_⟩
      rw [hv] at hs
      rw [List.range'_succ, List.map_cons, forD_cons']
      simp only [List.set]
      rw [hs]
      simp only [forK_nx, he, besV, hv]
    | none =>
      refine ⟨none, none, ?_⟩
      rw [hv] at hs
      rw [List.range'_succ, List.map_cons, forD_cons']
      simp only [List.set]
      rw [hs]
      simp only [besV, hv]
      rfl
theorem vb_all {f : List A → Sto → R A} (y : PyData) (st : Sto) (hl : ∀ ps, y = .tuple ps → ps.length ≤ 1000000) (hf : ∀ ps, y = .tuple ps → ∀ p ∈ ps, f [.d p] st = .ok (.d (verT (verD p))) st) : LF.runN 4 (b__law_verdict_beside f) [.d y] st = .ok (.d (verT (verB y))) st := by
  cases y with
  | tuple ps =>
    by_cases h2 : 2 ≤ ps.length
    · have h2' : ¬ (ps.length : Int) < 2 := by omega
      obtain ⟨x', o', he⟩ := vb_loop st (hf ps rfl) ps.length 0 (by omega) 0 none none
      have er := ra ps.length (hl ps rfl) [some (.d (.tuple ps)), some (.d (.int 0)), none, none] st (gB1 pLen (LF.gCons (gVar 0) LF.gNil)) (by simp)
      rw [rangeI_range'] at er
      have c1 : ∀ x : GS, sIf (gOr (gNot (gB (gIsi "tuple" (gVar 0)))) (gB (g2 pLt (gB1 pLen (LF.gCons (gVar 0) LF.gNil)) (gC (.int 2))))) x sNil [some (.d (.tuple ps)), none, none, none] st = .nx [some (.d (.tuple ps)), none, none, none] st := fun x => by
        simp [h2']
      have c2 : sSet 1 (gC (.int 0)) [some (.d (.tuple ps)), none, none, none] st = .nx [some (.d (.tuple ps)), some (.d (.int 0)), none, none] st := by simp
      have f0 : sFor (giR1 (gB1 pLen (LF.gCons (gVar 0) LF.gNil))) (ggName 2) (vbB f) [some (.d (.tuple ps)), some (.d (.int 0)), none, none] st = forD (fun _ => True) (ggName 2) (vbB f) ((List.range' 0 ps.length).map fun (j : Nat) => PyData.int (j : Int)) [some (.d (.tuple ps)), some (.d (.int 0)), none, none] st := by
        unfold sFor
        rw [er]
        rfl
      rw [he, List.drop_zero] at f0
      simp only [verB, h2, if_true]
      have fin : b__law_verdict_beside f [some (.d (.tuple ps)), none, none, none] st = .rt (.d (verT (besV ps 0 0))) st := by
        unfold b__law_verdict_beside
        rw [seq_nx (c1 _), seq_nx c2]
        cases hb : besV ps 0 0 with
        | yes n =>
          rw [hb] at f0
          unfold vbB at f0
          rw [seq_nx f0]
          simp [verT]
        | no g j =>
          rw [hb] at f0
          unfold vbB at f0
          rw [seq_rt f0]
          rfl
      have y := run_rt (m := 4) (b := b__law_verdict_beside f) (as := [.d (.tuple ps)]) fin
      rw [List.take_length] at y
      exact y
    · have h2' : (ps.length : Int) < 2 := by omega
      simp [b__law_verdict_beside, h2', verB, h2, verT]
  | _ => simp [b__law_verdict_beside, verB, verT]
theorem q_verdict {B W : Nat} (hW : W ≤ 1000) : ∀ (n k : Nat) (d : PyData) (_ : Gd B k W d) (_ : k ≤ 64) (_ : d.depth ≤ n) (st : Sto), p__law_verdict (n + 1) [.d d] st = .ok (.d (verT (verD d))) st
  | n, k, d, hd, hk, hn, st => by
    unfold p__law_verdict
    cases form d with
    | no _ h h1 h2 =>
      rw [h1]
      exact vd_shape _ st d hd hk h
    | plain w a b hw =>
      rw [verD_plain hw]
      exact vd_plain _ st hw a b hd hk hW
    | bes y =>
      rw [verD_bes]
      have hy := hd.tup_el y (by simp)
      refine vd_bes _ st y _ ?_
      match n, hn with
      | 0, hn => simp [PyData.depth] at hn
      | 1, hn =>
        have e : p__law_verdict_beside 1 = LF.runN 4 (b__law_verdict_beside (p__law_verdict 0)) := rfl
        rw [e]
        refine vb_all y st (fun ps h => ?_) (fun ps h => ?_)
        · subst h
          have := hy.tup_len
          omega
        · subst h
          simp [PyData.depth, PyData.depthAll] at hn
      | n + 2, hn =>
        have e : p__law_verdict_beside (n + 2) = LF.runN 4 (b__law_verdict_beside (p__law_verdict (n + 1))) := rfl
        rw [e]
        refine vb_all y st (fun ps h => ?_) (fun ps h p hp => ?_)
        · subst h
          have := hy.tup_len
          omega
        · subst h
          have hp2 := hy.tup_el p hp
          refine q_verdict hW n _ p (hp2.mono (Nat.le_refl _) (Nat.le_refl _) (by omega)) (by omega) ?_ st
          have := depthAll_mem hp
          simp [PyData.depth, PyData.depthAll] at hn
          omega
end G
set_option Elab.async false
set_option linter.all false
set_option maxRecDepth 100000
set_option maxHeartbeats 2000000
namespace G
open PySem LF
/-! the law's comparison of a value with itself -/
mutual
def eqOK : PyData → Bool
  | .tuple xs => decide (xs.length ≤ 1000000) && eqOKAll xs
  | .str x => PyData.strOk x
  | .none => true
  | .bool _ => true
  | .int _ => true
  | _ => false
def eqOKAll : List PyData → Bool
  | [] => true
  | x :: xs => eqOK x && eqOKAll xs
end
theorem eqOKAll_iff : ∀ {xs : List PyData}, eqOKAll xs = true ↔ ∀ x ∈ xs, eqOK x = true
  | [] => by simp [eqOKAll]
  | x :: xs => by simp [eqOKAll, eqOKAll_iff (xs := xs)]
noncomputable def smB (f : List A → Sto → R A) : GS := (sIf (gNot (gB (gCall f (LF.gCons (g2 pIx (gVar 0) (gVar 2)) (LF.gCons (g2 pIx (gVar 1) (gVar 2)) LF.gNil))))) (sRet (gC (.bool false))) sNil)
theorem sm_loop {f : List A → Sto → R A} {xs : List PyData} (st : Sto) (hf : ∀ x ∈ xs, f [.d x, .d x] st = .ok (.d (.bool true)) st) : ∀ (js : List Int) (_ : ∀ j ∈ js, 0 ≤ j ∧ j < xs.length) (o : Option A),
    ∃ o', forD (fun _ => True) (ggName 2) (smB f) (js.map .int) [some (.d (.tuple xs)), some (.d (.tuple xs)), o] st = .nx [some (.d (.tuple xs)), some (.d (.tuple xs)), o'] st
  | [], _, o => ⟨o, by simp⟩
  | j :: js, h, o => by
    obtain ⟨h0, h1⟩ := h j (by simp)
    obtain ⟨o', he⟩ := sm_loop st hf js (fun j q => h j (by simp [q])) (some (.d (.int j)))
    refine ⟨o', ?_⟩
    have hl : j.toNat < xs.length := by omega
    have ha := atI_nat (List.getElem?_eq_getElem hl)
    rw [show ((j.toNat : Nat) : Int) = j from by omega] at ha
    have e := hf _ (List.getElem_mem hl)
    rw [List.map_cons, forD_cons']
    simp only [List.set]
    have hs : smB f [some (.d (.tuple xs)), some (.d (.tuple xs)), some (.d (.int j))] st = .nx [some (.d (.tuple xs)), some (.d (.tuple xs)), some (.d (.int j))] st := by
      simp [smB, ha, e]
    rw [hs, forK_nx, he]
theorem same_refl : ∀ (n : Nat) (d : PyData) (_ : eqOK d = true) (_ : d.depth ≤ n) (st : Sto), p__law_same (n + 1) [.d d, .d d] st = .ok (.d (.bool true)) st
  | n, d, h, hn, st => by
    unfold p__law_same
    cases d with
    | none => simp [b__law_same]
    | bool b => simp [b__law_same, PyData.eqv]
    | int i => simp [b__law_same, PyData.eqv, q_whole, isIntD]
    | str s =>
      have := sh_str_of (by simpa [eqOK] using h)
      simp [b__law_same, PyData.eqv, this]
    | list xs => simp [eqOK] at h
    | dict xs => simp [eqOK] at h
    | tuple xs =>
      simp only [eqOK, Bool.and_eq_true, decide_eq_true_eq] at h
      have hm := eqOKAll_iff.mp h.2
      match n, hn with
      | 0, hn => simp [PyData.depth] at hn
      | n + 1, hn =>
        obtain ⟨o', he⟩ := sm_loop (f := p__law_same (n + 1)) (xs := xs) st (fun x hx => same_refl n x (hm x hx) (by
          have := depthAll_mem hx
          simp [PyData.depth] at hn
          omega) st) (rangeI xs.length) (fun j hj => mem_rangeI.mp hj) none
        have er := ra xs.length h.1 [some (.d (.tuple xs)), some (.d (.tuple xs)), none] st (gB1 pLen (LF.gCons (gVar 1) LF.gNil)) (by simp)
        have f0 : sFor (giR1 (gB1 pLen (LF.gCons (gVar 1) LF.gNil))) (ggName 2) (smB (p__law_same (n + 1))) [some (.d (.tuple xs)), some (.d (.tuple xs)), none] st = forD (fun _ => True) (ggName 2) (smB (p__law_same (n + 1))) ((rangeI xs.length).map .int) [some (.d (.tuple xs)), some (.d (.tuple xs)), none] st := by
          unfold sFor
          rw [er]
          rfl
        rw [he] at f0
        have fin : b__law_same (p__law_same (n + 1)) [some (.d (.tuple xs)), some (.d (.tuple xs)), none] st = .rt (.d (.bool true)) st := by
          unfold b__law_same
          rw [seq_nx (env' := [some (.d (.tuple xs)), some (.d (.tuple xs)), none]) (st' := st) (by simp)]
          rw [seq_nx (env' := [some (.d (.tuple xs)), some (.d (.tuple xs)), none]) (st' := st) (by simp)]
          rw [seq_nx (env' := [some (.d (.tuple xs)), some (.d (.tuple xs)), none]) (st' := st) (by simp)]
          rw [seq_nx (env' := [some (.d (.tuple xs)), some (.d (.tuple xs)), none]) (st' := st) (by simp)]
          rw [seq_nx (env' := [some (.d (.tuple xs)), some (.d (.tuple xs)), none]) (st' := st) (by simp [PyData.eqv])]
          unfold smB at f0
          rw [seq_nx f0]
          simp
        have y := run_rt (m := 3) (b := b__law_same (p__law_same (n + 1))) (as := [.d (.tuple xs), .d (.tuple xs)]) fin
        rw [List.take_length] at y
        exact y
/-! each number once -/
theorem rangeI_nodup (n : Nat) : (rangeI n).Nodup := by
  unfold rangeI List.Nodup
  rw [List.pairwise_map]
  exact (List.nodup_range (n := n)).imp fun h => by omega
theorem once_iff (n : Nat) (xs : List Int) (hl : xs.length = n) : (∀ k ∈ rangeI n, k ∈ xs) ↔ ((∀ x ∈ xs, 0 ≤ x ∧ x < n) ∧ xs.eraseDups.length = n) := by
  obtain ⟨d1, d2⟩ := dedup_facts xs.length xs (Nat.le_refl _)
  constructor
  · intro h
    have hx : ∀ x ∈ xs, x ∈ rangeI n := fun x hx => by
      by_cases c : x ∈ rangeI n
      · exact c
      · have : (x :: rangeI n).Nodup := List.nodup_cons.mpr ⟨c, rangeI_nodup n⟩
        have := List.Nodup.length_le_of_subset this (l₂ := xs) (fun y hy => by
          rcases List.mem_cons.mp hy with rfl | hy
          · exact hx
          · exact h y hy)
        rw [List.length_cons, rangeI_length] at this
        omega
    refine ⟨fun x q => mem_rangeI.mp (hx x q), ?_⟩
    have h1 := List.Nodup.length_le_of_subset (rangeI_nodup n) (l₂ := xs.eraseDups) (fun y hy => (d2 y).mpr (h y hy))
    have h2 := List.Nodup.length_le_of_subset d1 (l₂ := rangeI n) (fun y hy => hx y ((d2 y).mp hy))
    rw [rangeI_length] at h1 h2
    omega
  · rintro ⟨h1, h2⟩ k hk
    by_cases c : k ∈ xs
    · exact c
    · have : (k :: xs.eraseDups).Nodup := List.nodup_cons.mpr ⟨fun q => c ((d2 k).mp q), d1⟩
      have := List.Nodup.length_le_of_subset this (l₂ := rangeI n) (fun y hy => by
        rcases List.mem_cons.mp hy with rfl | hy
        · exact hk
        · exact mem_rangeI.mpr (h1 y ((d2 y).mp hy)))
      rw [List.length_cons, rangeI_length] at this
      omega
theorem ints_of_whole : ∀ {ds : List PyData}, (∀ d ∈ ds, isIntD d = true) → ds = (intsB ds).map .int
  | [], _ => rfl
  | d :: r, h => by
    have h1 := h d (by simp)
    cases d with
    | int i =>
      simp only [intsB, List.map_cons]
      rw [← ints_of_whole fun d hd => h d (by simp [hd])]
    | _ => simp [isIntD] at h1
theorem below_map (n : Int) (xs : List Int) : allBelow n (xs.map .int) = decide (∀ x ∈ xs, 0 ≤ x ∧ x < n) := by
  unfold allBelow
  rw [Bool.eq_iff_iff, List.all_eq_true, decide_eq_true_eq]
  simp [isBelowD]
theorem intsB_map (xs : List Int) : intsB (xs.map .int) = xs := by
  induction xs with
  | nil => rfl
  | cons x r ih => simp [intsB, ih]
theorem below_whole {n : Int} {ds : List PyData} (h : allBelow n ds = true) : ∀ d ∈ ds, isIntD d = true := fun d hd => by
  have := List.all_eq_true.mp h d hd
  cases d <;> simp [isBelowD, isIntD] at this ⊢
theorem q_each_once (n : Nat) (hn : n ≤ 1000) (d : PyData) (st : Sto) : p__law_each_once [.d (.int (n : Nat)), .d d] st = .ok (.d (.bool (isOrdD n d))) st := by
  cases d with
  | tuple ds =>
    by_cases h1 : ds.length = n
    · have h1' : (ds.length : Int) = (n : Int) := by omega
      have e := comp_pure (i := 2) (test := gNot (gB (gCall p__law_whole (LF.gCons (gVar 2) LF.gNil)))) (elt := gVar 2) (wenv := [some (.d (.int (n : Nat))), some (.d (.tuple ds)), none, none]) (st := st) (fun d => !isIntD d) (fun d => d) ds (fun d _ => by simp [q_whole]) (fun d _ _ => rfl)
      rw [List.map_id'] at e
      have hz : ds.length ≤ bigN := by unfold bigN; omega
      by_cases hw : ∀ d ∈ ds, isIntD d = true
      · have hf : ds.filter (fun d => !isIntD d) = [] := List.filter_eq_nil_iff.mpr fun d hd => by simp [hw d hd]
        rw [hf] at e
        have hi := ints_of_whole hw
        generalize intsB ds = xs at hi
        subst hi
        have s1 := sh_ints xs
        have e2 := comp_range (i := 3) (test := gB (g2 (pIn not) (gVar 3) (gVar 1))) (elt := gVar 3) (env := [some (.d (.int (n : Nat))), some (.d (.tuple (xs.map .int))), none, none]) (st := st) (g := gVar 0) n (by omega) rfl (fun k => !decide (k ∈ xs)) (fun k => .int k) (fun k _ => by
          have := any_ints k xs
          simp [s1] at this ⊢
          rw [this]) (fun k _ _ => rfl)
        have hl : xs.length = n := by simpa using h1
        have hq := once_iff n xs hl
        have c1 : ∀ x : GS, sIf (gOr (gNot (gB (gIsi "tuple" (gVar 1)))) (gB (g2 pNe (gB1 pLen (LF.gCons (gVar 1) LF.gNil)) (gVar 0)))) x sNil [some (.d (.int (n : Nat))), some (.d (.tuple (xs.map .int))), none, none] st = .nx [some (.d (.int (n : Nat))), some (.d (.tuple (xs.map .int))), none, none] st := fun x => by
          simp [PyData.eqv, hl]
        have c2 : ∀ x : GS, sIf (gB (g2 pGt (gB1 pLen (LF.gCons (gComp (giSeq (gVar 1)) 2 (gNot (gB (gCall p__law_whole (LF.gCons (gVar 2) LF.gNil)))) (gVar 2)) LF.gNil)) (gC (.int 0)))) x sNil [some (.d (.int (n : Nat))), some (.d (.tuple (xs.map .int))), none, none] st = .nx [some (.d (.int (n : Nat))), some (.d (.tuple (xs.map .int))), none, none] st := fun x => by
          have hz2 : xs.length ≤ bigN := by unfold bigN; omega
          simp [hz2] at e ⊢
          simp [e]
        have c3 : sRet (g2 pEq (gB1 pLen (LF.gCons (gComp (giR1 (gVar 0)) 3 (gB (g2 (pIn not) (gVar 3) (gVar 1))) (gVar 3)) LF.gNil)) (gC (.int 0))) [some (.d (.int (n : Nat))), some (.d (.tuple (xs.map .int))), none, none] st = .rt (.d (.bool (isOrdD n (.tuple (xs.map .int))))) st := by
          have e3 : gB1 pLen (LF.gCons (gComp (giR1 (gVar 0)) 3 (gB (g2 (pIn not) (gVar 3) (gVar 1))) (gVar 3)) LF.gNil) [some (.d (.int (n : Nat))), some (.d (.tuple (xs.map .int))), none, none] st = .ok (.d (.int (((rangeI n).filter fun k => !decide (k ∈ xs)).length : Nat))) st := by
            rw [gB1_one, e2]
            simp
          simp only [sRet, g2, e3, R.bind_ok, gC, pEq]
          have hb : isOrdD n (.tuple (xs.map .int)) = decide (((rangeI n).filter fun k => !decide (k ∈ xs)).length = 0) := by
            simp only [isOrdD]
            rw [below_map, intsB_map, Bool.eq_iff_iff]
            simp only [Bool.and_eq_true, decide_eq_true_eq, List.length_map, List.length_eq_zero_iff, List.filter_eq_nil_iff, Bool.not_eq_true', decide_eq_false_iff_not, Decidable.not_not]
            rw [hq]
            constructor
            · rintro ⟨⟨a, b⟩, c⟩
              exact ⟨b, by omega⟩
            · rintro ⟨b, c⟩
              exact ⟨⟨by omega, b⟩, by omega⟩
          rw [hb]
          simp [PyData.eqv, beq_nat0]
        have fin : b__law_each_once [some (.d (.int (n : Nat))), some (.d (.tuple (xs.map .int))), none, none] st = .rt (.d (.bool (isOrdD n (.tuple (xs.map .int))))) st := by
          unfold b__law_each_once
          rw [seq_nx (c1 _), seq_nx (c2 _)]
          exact c3
        have y := run_rt (m := 4) (b := b__law_each_once) (as := [.d (.int (n : Nat)), .d (.tuple (xs.map .int))]) fin
        rw [List.take_length] at y
        exact y
      · have hx : isOrdD n (.tuple ds) = false := by
          unfold isOrdD
          cases hb : allBelow n ds with
          | true => exact absurd (below_whole hb) hw
          | false => simp [hb]
        have hf : 0 < (ds.filter (fun d => !isIntD d)).length := by
          apply List.length_pos_iff.mpr
          intro q
          rw [List.filter_eq_nil_iff] at q
          exact hw fun d hd => by simpa using q d hd
        have hf' : (0 : Int) < ((ds.filter (fun d => !isIntD d)).length : Int) := by omega
        rw [hx]
        have hz3 : n ≤ bigN := by unfold bigN; omega
        have hex : ∃ x, x ∈ ds ∧ isIntD x = false := by simpa using hw
        simp [p__law_each_once, b__law_each_once, PyData.eqv, h1, hz3, e, hex]
    · have h1' : ¬ (ds.length : Int) = (n : Int) := by omega
      simp [p__law_each_once, b__law_each_once, PyData.eqv, h1, h1', isOrdD]
  | _ => simp [p__law_each_once, b__law_each_once, isOrdD]
end G
set_option Elab.async false
set_option linter.all false
set_option maxRecDepth 100000
set_option maxHeartbeats 2000000
namespace G
open PySem LF
/-! bits of naturals -/
theorem hasBit_nat (n k : Nat) : hasBit (n : Int) (k : Int) = n.testBit k := by
  rw [Nat.testBit_eq_decide_div_mod_eq]
  unfold hasBit
  have e : ((n : Int) / 2 ^ ((k : Int)).toNat % 2) = ((n / 2 ^ k % 2 : Nat) : Int) := by
    rw [Int.toNat_natCast]
    push_cast
    rfl
  rw [e]
  have h2 : n / 2 ^ k % 2 < 2 := Nat.mod_lt _ (by decide)
  generalize n / 2 ^ k % 2 = x at h2 ⊢
  rw [Bool.eq_iff_iff, bne_iff_ne, decide_eq_true_eq]
  omega
theorem lotOf_nat (m n : Nat) : lotOf m (n : Int) = ((List.range m).filter n.testBit).map fun (k : Nat) => (k : Int) := by
  unfold lotOf rangeI
  rw [List.filter_map]
  congr 1
  apply List.filter_congr
  intro k _
  exact hasBit_nat n k
theorem lotOf_succ (m n : Nat) : lotOf (m + 1) (n : Int) = lotOf m (n : Int) ++ (if n.testBit m = true then [(m : Int)] else []) := by
  rw [lotOf_nat, lotOf_nat, List.range_succ, List.filter_append, List.map_append]
  congr 1
  cases h : n.testBit m <;> simp [h]
theorem lotNum_append (a b : List Int) : lotNum (a ++ b) = lotNum a + lotNum b := by
  unfold lotNum
  rw [List.map_append, List.sum_append]
theorem lotNum_lotOf (n : Nat) : ∀ m : Nat, lotNum (lotOf m (n : Int)) = ((n % 2 ^ m : Nat) : Int)
  | 0 => by simp [lotOf, rangeI, lotNum, Nat.mod_one]
  | m + 1 => by
    rw [lotOf_succ, lotNum_append, lotNum_lotOf n m, Nat.pow_succ, Nat.mod_mul]
    have h2 : n / 2 ^ m % 2 < 2 := Nat.mod_lt _ (by decide)
    rw [Nat.testBit_eq_decide_div_mod_eq]
    generalize n / 2 ^ m % 2 = x at h2 ⊢
    have h3 : x = 0 ∨ x = 1 := by omega
    rcases h3 with rfl | rfl
    · simp [lotNum]
    · simp [lotNum]
theorem lotOf_mod (j n : Nat) : lotOf j ((n % 2 ^ j : Nat) : Int) = lotOf j (n : Int) := by
  rw [lotOf_nat, lotOf_nat]
  congr 1
  apply List.filter_congr
  intro k hk
  have := List.mem_range.mp hk
  rw [Nat.testBit_mod_two_pow]
  simp [this]
theorem take_filter (p : Int → Bool) (c : Nat) : ∀ m : Nat, ∃ j, j ≤ m ∧ ((rangeI m).filter p).take c = (rangeI j).filter p
  | 0 => ⟨0, Nat.le_refl _, by simp [rangeI]⟩
  | m + 1 => by
    obtain ⟨j, hj, e⟩ := take_filter p c m
    by_cases h : c ≤ ((rangeI m).filter p).length
    · refine ⟨j, by omega, ?_⟩
      rw [rangeI_succ, List.filter_append, List.take_append_of_le_length h, e]
    · refine ⟨m + 1, Nat.le_refl _, ?_⟩
      rw [List.take_of_length_le]
      rw [rangeI_succ, List.filter_append, List.length_append]
      have : (List.filter p [(m : Int)]).length ≤ 1 := List.length_filter_le ..
      omega
/-- a drawn row of the first thirteen numbers, cut off -/
theorem row_facts (n c : Nat) : ∃ r : Nat, r < 2 ^ 13 ∧ (lotOf 13 (n : Int)).take c = lotOf 13 (r : Int) ∧ lotNum (lotOf 13 (r : Int)) = (r : Int) := by
  obtain ⟨j, hj, e⟩ := take_filter (hasBit (n : Int)) c 13
  have e1 : lotOf 13 ((n % 2 ^ j : Nat) : Int) = lotOf j ((n % 2 ^ j : Nat) : Int) := by
    have hp : ((n % 2 ^ j : Nat) : Int) < 2 ^ j := by
      have : n % 2 ^ j < 2 ^ j := Nat.mod_lt _ (Nat.pow_pos (by decide))
      exact_mod_cast this
    have := lotOf_more (Int.natCast_nonneg _) hp (13 - j)
    rw [show j + (13 - j) = 13 from by omega] at this
    exact this
  have hp : n % 2 ^ j < 2 ^ 13 := by
    have h1 : n % 2 ^ j < 2 ^ j := Nat.mod_lt _ (Nat.pow_pos (by decide))
    have h2 : (2 : Nat) ^ j ≤ 2 ^ 13 := Nat.pow_le_pow_right (by decide) hj
    omega
  refine ⟨n % 2 ^ j, hp, ?_, ?_⟩
  · rw [e1, lotOf_mod]
    exact e
  · rw [lotNum_lotOf, Nat.mod_eq_of_lt hp]
/-! lots within a lot -/
def stepW (acc : List (List Int)) (x : Int) : List (List Int) := acc ++ acc.map fun y => y ++ [x]
def toD (ys : List (List Int)) : List PyData := ys.map fun y => .tuple (y.map .int)
def sel (xs : List Int) (m : Nat) (j : Int) : List Int := (lotOf m j).map fun k => xs[k.toNat]?.getD 0
theorem rangeI_add (a b : Nat) : rangeI (a + b) = rangeI a ++ (rangeI b).map fun j => (a : Int) + j := by
  unfold rangeI
  rw [List.range_add, List.map_append, List.map_map, List.map_map]
  congr 1
theorem sel_low (xs : List Int) (m j : Nat) (h : j < 2 ^ m) : sel xs (m + 1) (j : Int) = sel xs m (j : Int) := by
  unfold sel
  rw [lotOf_succ, Nat.testBit_lt_two_pow h]
  simp
theorem sel_high (xs : List Int) (m j : Nat) (h : j < 2 ^ m) : sel xs (m + 1) ((2 ^ m + j : Nat) : Int) = sel xs m (j : Int) ++ [xs[m]?.getD 0] := by
  unfold sel
  rw [lotOf_succ, Nat.testBit_two_pow_add_eq, Nat.testBit_lt_two_pow h]
  have e : lotOf m ((2 ^ m + j : Nat) : Int) = lotOf m (j : Int) := by
    rw [lotOf_nat, lotOf_nat]
    congr 1
    apply List.filter_congr
    intro k hk
    exact Nat.testBit_two_pow_add_gt (List.mem_range.mp hk) j
  rw [e]
  simp
theorem within_eq (xs : List Int) : ∀ m, m ≤ xs.length → (xs.take m).foldl stepW [[]] = (rangeI (2 ^ m)).map (sel xs m)
  | 0, _ => by simp [rangeI, sel, lotOf]
  | m + 1, h => by
    have hl : m < xs.length := by omega
    rw [List.take_succ, List.foldl_append, within_eq xs m (by omega), List.getElem?_eq_getElem hl, Nat.pow_succ, Nat.mul_two, rangeI_add, List.map_append, List.map_map]
    simp only [Option.toList_some, List.foldl_cons, List.foldl_nil, stepW, List.map_map]
    congr 1
    · apply List.map_congr_left
      intro j hj
      obtain ⟨h0, h1⟩ := mem_rangeI.mp hj
      have e := sel_low xs m j.toNat (by
        have h2 : ((j.toNat : Nat) : Int) < ((2 ^ m : Nat) : Int) := by omega
        exact_mod_cast h2)
      rw [show ((j.toNat : Nat) : Int) = j from by omega] at e
      exact e.symm
    · apply List.map_congr_left
      intro j hj
      obtain ⟨h0, h1⟩ := mem_rangeI.mp hj
      have hlt : j.toNat < 2 ^ m := by
        have h2 : ((j.toNat : Nat) : Int) < ((2 ^ m : Nat) : Int) := by omega
        exact_mod_cast h2
      have e := sel_high xs m j.toNat hlt
      have e2 : ((2 ^ m + j.toNat : Nat) : Int) = ((2 ^ m : Nat) : Int) + j := by omega
      rw [e2, show ((j.toNat : Nat) : Int) = j from by omega, List.getElem?_eq_getElem hl] at e
      exact e.symm
def addW (x : Int) : PyData → PyData
  | .tuple l => .tuple (l ++ [.int x])
  | d => d
theorem toD_add (x : Int) (acc : List (List Int)) : (toD acc).map (addW x) = toD (acc.map fun y => y ++ [x]) := by
  unfold toD
  rw [List.map_map, List.map_map]
  apply List.map_congr_left
  intro y _
  simp [addW]
noncomputable def lwB : GS := (sSet 1 (g2 pAdd (gVar 1) (gComp (giSeq (gVar 1)) 3 gYes (g2 pAdd (gVar 3) (gTupD (LF.gCons (gVar 2) LF.gNil))))))
theorem lw_step (acc : List (List Int)) (x : Int) (h1 : 2 * acc.length ≤ 1000) (h2 : ∀ y ∈ acc, y.length ≤ 1000) (l o : Option A) (st : Sto) :
    lwB [l, some (.d (.list (toD acc))), some (.d (.int x)), o] st = .nx [l, some (.d (.list (toD (stepW acc x)))), some (.d (.int x)), o] st := by
  have e := comp_pure (i := 3) (test := gYes) (elt := g2 pAdd (gVar 3) (gTupD (LF.gCons (gVar 2) LF.gNil))) (wenv := [l, some (.d (.list (toD acc))), some (.d (.int x)), none]) (st := st) (fun _ => true) (addW x) (toD acc) (fun _ _ => rfl) (fun d hd _ => by
    unfold toD at hd
    rw [List.mem_map] at hd
    obtain ⟨y, hy, rfl⟩ := hd
    have := h2 y hy
    have hz : y.length + 1 ≤ bigN := by unfold bigN; omega
    simp [addW, hz])
  rw [List.filter_eq_self.mpr (fun _ _ => rfl), toD_add] at e
  have hl : (toD acc).length = acc.length := by simp [toD]
  have hl2 : (toD (acc.map fun y => y ++ [x])).length = acc.length := by simp [toD]
  have hz : acc.length ≤ bigN := by unfold bigN; omega
  have hz2 : acc.length + acc.length ≤ bigN := by unfold bigN; omega
  have ea : toD (stepW acc x) = toD acc ++ toD (acc.map fun y => y ++ [x]) := by simp [toD, stepW]
  rw [ea]
  simp [lwB, e, hl, hl2, hz, hz2]
theorem lw_loop (l : Option A) (st : Sto) : ∀ (xs : List Int) (acc : List (List Int)) (_ : acc.length * 2 ^ xs.length ≤ 1000) (_ : ∀ y ∈ acc, y.length + xs.length ≤ 1000) (o1 o2 : Option A),
    ∃ o1' o2', forD (fun _ => True) (ggName 2) lwB (xs.map .int) [l, some (.d (.list (toD acc))), o1, o2] st = .nx [l, some (.d (.list (toD (xs.foldl stepW acc)))), o1', o2'] st
  | [], acc, _, _, o1, o2 => ⟨o1, o2, by simp⟩
  | x :: xs, acc, h1, h2, o1, o2 => by
    have hp : 1 ≤ 2 ^ xs.length := Nat.pow_pos (by decide)
    rw [List.length_cons, Nat.pow_succ] at h1
    have ha : acc.length * 2 ≤ 1000 := by
      have : acc.length * 2 * 1 ≤ acc.length * 2 * 2 ^ xs.length := Nat.mul_le_mul_left _ hp
      have e : acc.length * (2 ^ xs.length * 2) = acc.length * 2 * 2 ^ xs.length := by rw [Nat.mul_comm (2 ^ xs.length) 2, Nat.mul_assoc]
      omega
    have hs := lw_step acc x (by omega) (fun y hy => by have := h2 y hy; omega) l o2 st
    have hlen : (stepW acc x).length = acc.length * 2 := by simp [stepW]; omega
    obtain ⟨o1', o2', he⟩ := lw_loop l st xs (stepW acc x) (by
      rw [hlen]
      have e : acc.length * (2 ^ xs.length * 2) = acc.length * 2 * 2 ^ xs.length := by rw [Nat.mul_comm (2 ^ xs.length) 2, Nat.mul_assoc]
      omega) (fun y hy => by
      unfold stepW at hy
      rw [List.mem_append, List.mem_map] at hy
      rcases hy with hy | ⟨z, hz, rfl⟩
      · have := h2 y hy
        rw [List.length_cons] at this
        omega
      · have := h2 z hz
        rw [List.length_cons] at this
        rw [List.length_append, List.length_singleton]
        omega) (some (.d (.int x))) o2
    refine ⟨o1', o2', ?_⟩
    rw [List.map_cons, forD_cons']
    simp only [List.set]
    rw [hs, forK_nx, he]
    rfl
theorem q_lots_within (xs : List Int) (h : xs.length ≤ 8) (st : Sto) : p_lots_within [.d (.tuple (xs.map .int))] st = .ok (.d (.tuple (toD (xs.foldl stepW [[]])))) st := by
  have hp : 2 ^ xs.length ≤ 2 ^ 8 := Nat.pow_le_pow_right (by decide) h
  obtain ⟨o1, o2, he⟩ := lw_loop (some (.d (.tuple (xs.map .int)))) st xs [[]] (by rw [List.length_singleton]; omega) (fun y hy => by
    rw [List.mem_singleton] at hy
    subst hy
    rw [List.length_nil]; omega) none none
  have f0 : sFor (giSeq (gVar 0)) (ggName 2) lwB [some (.d (.tuple (xs.map .int))), some (.d (.list (toD [[]]))), none, none] st = forD (fun _ => True) (ggName 2) lwB (xs.map .int) [some (.d (.tuple (xs.map .int))), some (.d (.list (toD [[]]))), none, none] st := by
    simp
  rw [he] at f0
  have fin : b_lots_within [some (.d (.tuple (xs.map .int))), none, none, none] st = .rt (.d (.tuple (toD (xs.foldl stepW [[]])))) st := by
    unfold b_lots_within
    rw [seq_nx (env' := [some (.d (.tuple (xs.map .int))), some (.d (.list (toD [[]]))), none, none]) (st' := st) (by simp [toD])]
    unfold lwB at f0
    rw [seq_nx f0]
    simp
  have y := run_rt (m := 4) (b := b_lots_within) (as := [.d (.tuple (xs.map .int))]) fin
  rw [List.take_length] at y
  exact y
end G
set_option Elab.async false
set_option linter.all false
set_option maxRecDepth 100000
set_option maxHeartbeats 2000000
namespace G
open PySem LF
theorem lotOf_len (m : Nat) (n : Int) : (lotOf m n).length ≤ m := by
  have : (lotOf m n).length ≤ (rangeI m).length := List.length_filter_le ..
  rwa [rangeI_length] at this
theorem lotOf_mem {m : Nat} {n i : Int} (h : i ∈ lotOf m n) : 0 ≤ i ∧ i < m := by
  unfold lotOf at h
  rw [List.mem_filter, mem_rangeI] at h
  exact h.1
theorem q_by_ok (n : Int) (m : Nat) (hn : 0 ≤ n) (hb : n < 2 ^ m) (hm : m ≤ 1000) (st : Sto) : p__law_by [.d (.int n)] st = .ok (.d (.tuple [.str "let", .tuple ((lotOf m n).map .int)])) st := by
  have hbt := intBits_le hn hb
  have e := q_lot_by n hn (by omega) st
  rw [lotOf_eq hn (intBits_lt hn) hb] at e
  simp [p__law_by, b__law_by, gK, pick, e]
theorem q_by_no (d : PyData) (h : isNumD d = false) (st : Sto) : p__law_by [.d d] st = .ok (.d (.tuple [.str "no", .str "number", .int (-1)])) st := by
  have e := q_lot_by_no d h st
  have hw : (("word" : Str) = "at") = False := eq_false (by decide)
  simp [p__law_by, b__law_by, gK, pick, e, hw]
theorem strOk_lit : PyData.strOk "let" = true ∧ PyData.strOk "no" = true ∧ PyData.strOk "number" = true := by decide +kernel
theorem eqOK_ints (xs : List Int) (h : xs.length ≤ 1000000) : eqOK (.tuple (xs.map .int)) = true := by
  simp only [eqOK, Bool.and_eq_true, decide_eq_true_eq, List.length_map]
  refine ⟨h, eqOKAll_iff.mpr fun x hx => ?_⟩
  rw [List.mem_map] at hx
  obtain ⟨i, _, rfl⟩ := hx
  rfl
theorem depth_ints' (xs : List Int) : PyData.depth (.tuple (xs.map .int)) = 1 := by simp [PyData.depth, depth_ints]
theorem q_same {d : PyData} (h : eqOK d = true) (hd : d.depth ≤ 15) (st : Sto) : p__law_same 16 [.d d, .d d] st = .ok (.d (.bool true)) st := same_refl 15 d h hd st
theorem eqOK_let (xs : List Int) (h : xs.length ≤ 1000000) : eqOK (.tuple [.str "let", .tuple (xs.map .int)]) = true := by
  have := eqOK_ints xs h
  have h2 := strOk_lit.1
  simp only [eqOK, eqOKAll, Bool.and_eq_true, decide_eq_true_eq] at this ⊢
  exact ⟨by simp, h2, this, trivial⟩
theorem depth_let (xs : List Int) : PyData.depth (.tuple [.str "let", .tuple (xs.map .int)]) = 2 := by
  simp [PyData.depth, PyData.depthAll, depth_ints]
theorem eqOK_toD (ys : List (List Int)) (h : ys.length ≤ 1000000) (h2 : ∀ y ∈ ys, y.length ≤ 1000000) : eqOK (.tuple (toD ys)) = true := by
  simp only [eqOK, Bool.and_eq_true, decide_eq_true_eq]
  refine ⟨by simpa [toD] using h, eqOKAll_iff.mpr fun x hx => ?_⟩
  unfold toD at hx
  rw [List.mem_map] at hx
  obtain ⟨y, hy, rfl⟩ := hx
  exact eqOK_ints y (h2 y hy)
theorem depth_toD (ys : List (List Int)) : PyData.depth (.tuple (toD ys)) ≤ 2 := by
  have := depthAll_le (xs := toD ys) (n := 1) fun x hx => by
    unfold toD at hx
    rw [List.mem_map] at hx
    obtain ⟨y, hy, rfl⟩ := hx
    rw [depth_ints']
    exact Nat.le_refl 1
  simp only [PyData.depth]
  omega
/-! the total of a row -/
noncomputable def ttB : GS := (sSet 3 (g2 pAdd (gVar 3) (g2 pShl (gC (.int 1)) (gVar 4))))
theorem tt_loop (x v1 a5 a6 a7 a8 a9 : Option A) (st : Sto) (row : Option A) : ∀ (xs : List Int) (_ : ∀ i ∈ xs, 0 ≤ i ∧ i ≤ 1000) (t : Int) (o : Option A),
    ∃ o', forD (fun _ => True) (ggName 4) ttB (xs.map .int) [x, v1, row, some (.d (.int t)), o, a5, a6, a7, a8, a9] st = .nx [x, v1, row, some (.d (.int (t + lotNum xs))), o', a5, a6, a7, a8, a9] st
  | [], _, t, o => ⟨o, by simp [lotNum]⟩
  | i :: xs, h, t, o => by
    obtain ⟨h0, h1⟩ := h i (by simp)
    obtain ⟨o', he⟩ := tt_loop x v1 a5 a6 a7 a8 a9 st row xs (fun i q => h i (by simp [q])) (t + 2 ^ i.toNat) (some (.d (.int i)))
    refine ⟨o', ?_⟩
    have hc : cPow 1 i = true := by unfold cPow; simp; omega
    have hs : ttB [x, v1, row, some (.d (.int t)), some (.d (.int i)), a5, a6, a7, a8, a9] st = .nx [x, v1, row, some (.d (.int (t + 2 ^ i.toNat))), some (.d (.int i)), a5, a6, a7, a8, a9] st := by
      simp [ttB, hc]
    rw [List.map_cons, forD_cons']
    simp only [List.set]
    rw [hs, forK_nx, he]
    have : t + 2 ^ i.toNat + lotNum xs = t + lotNum (i :: xs) := by
      simp [lotNum]
      omega
    rw [this]
/-! the law's lots within a row -/
theorem lw_inner (xs : List Int) (h : xs.length ≤ 8) (j : Int) (hj : 0 ≤ j) (a0 a1 a3 a4 a5 a7 a8 : Option A) (st : Sto) :
    gB1 pTup (LF.gCons (gComp (giR1 (gB1 pLen (LF.gCons (gVar 2) LF.gNil))) 9 (gTru (g2 pBand (g2 pShr (gVar 6) (gVar 9)) (gC (.int 1)))) (g2 pIx (gVar 2) (gVar 9))) LF.gNil) [a0, a1, some (.d (.tuple (xs.map .int))), a3, a4, a5, some (.d (.int j)), a7, a8, none] st = .ok (.d (.tuple ((sel xs xs.length j).map .int))) st := by
  have e := comp_range (i := 9) (test := gTru (g2 pBand (g2 pShr (gVar 6) (gVar 9)) (gC (.int 1)))) (elt := g2 pIx (gVar 2) (gVar 9)) (env := [a0, a1, some (.d (.tuple (xs.map .int))), a3, a4, a5, some (.d (.int j)), a7, a8, none]) (st := st) (g := gB1 pLen (LF.gCons (gVar 2) LF.gNil)) xs.length (by omega) (by simp) (hasBit j) (fun k => .int (xs[k.toNat]?.getD 0)) (fun k hk => gBit rfl rfl hj (mem_rangeI.mp hk).1) (fun k hk _ => by
    obtain ⟨h0, h1⟩ := mem_rangeI.mp hk
    have hl : k.toNat < xs.length := by omega
    have ha := atI_nat (rs := xs.map .int) (k := k.toNat) (d := .int xs[k.toNat]) (by rw [List.getElem?_map, List.getElem?_eq_getElem hl]; rfl)
    rw [show ((k.toNat : Nat) : Int) = k from by omega] at ha
    simp [ha, List.getElem?_eq_getElem hl])
  rw [gB1_one, e]
  simp [sel, lotOf]
theorem lw_law (xs : List Int) (h : xs.length ≤ 8) (a0 a1 a3 a4 a5 a7 a8 : Option A) (st : Sto) :
    gComp (giR1 (g2 pShl (gC (.int 1)) (gB1 pLen (LF.gCons (gVar 2) LF.gNil)))) 6 gYes (gB1 pTup (LF.gCons (gComp (giR1 (gB1 pLen (LF.gCons (gVar 2) LF.gNil))) 9 (gTru (g2 pBand (g2 pShr (gVar 6) (gVar 9)) (gC (.int 1)))) (g2 pIx (gVar 2) (gVar 9))) LF.gNil)) [a0, a1, some (.d (.tuple (xs.map .int))), a3, a4, a5, none, a7, a8, none] st = .ok (.d (.list (toD (xs.foldl stepW [[]])))) st := by
  have hp : 2 ^ xs.length ≤ 2 ^ 8 := Nat.pow_le_pow_right (by decide) h
  have hc : cPow 1 (xs.length : Int) = true := by unfold cPow; simp; omega
  have e := comp_range (i := 6) (test := gYes) (elt := gB1 pTup (LF.gCons (gComp (giR1 (gB1 pLen (LF.gCons (gVar 2) LF.gNil))) 9 (gTru (g2 pBand (g2 pShr (gVar 6) (gVar 9)) (gC (.int 1)))) (g2 pIx (gVar 2) (gVar 9))) LF.gNil)) (env := [a0, a1, some (.d (.tuple (xs.map .int))), a3, a4, a5, none, a7, a8, none]) (st := st) (g := g2 pShl (gC (.int 1)) (gB1 pLen (LF.gCons (gVar 2) LF.gNil))) (2 ^ xs.length) (by omega) (by simp [hc]) (fun _ => true) (fun j => .tuple ((sel xs xs.length j).map .int)) (fun _ _ => rfl) (fun j hj _ => lw_inner xs h j (mem_rangeI.mp hj).1 a0 a1 a3 a4 a5 a7 a8 st)
  rw [e, filter_all]
  have := within_eq xs xs.length (Nat.le_refl _)
  rw [List.take_length] at this
  rw [this]
  unfold toD
  rw [List.map_map]
  rfl
theorem within_len (xs : List Int) (h : xs.length ≤ 8) : (xs.foldl stepW [[]]).length ≤ 256 ∧ ∀ y ∈ xs.foldl stepW [[]], y.length ≤ 8 := by
  have := within_eq xs xs.length (Nat.le_refl _)
  rw [List.take_length] at this
  rw [this]
  have hp : 2 ^ xs.length ≤ 2 ^ 8 := Nat.pow_le_pow_right (by decide) h
  refine ⟨by rw [List.length_map, rangeI_length]; omega, fun y hy => ?_⟩
  rw [List.mem_map] at hy
  obtain ⟨j, _, rfl⟩ := hy
  unfold sel
  rw [List.length_map]
  have := lotOf_len xs.length j
  omega
end G
set_option Elab.async false
set_option linter.all false
set_option maxRecDepth 100000
set_option maxHeartbeats 2000000
namespace G
open PySem LF
theorem cut_nat (rs : List PyData) (k : Nat) : cutD rs none (some (k : Int)) = rs.take k := by
  unfold cutD
  rw [HT.sIx_none, HT.sIx_nat, List.drop_zero, Nat.sub_zero]
  by_cases h : k ≤ rs.length
  · rw [Nat.min_eq_left h]
  · rw [Nat.min_eq_right (by omega), List.take_length, List.take_of_length_le (by omega)]
theorem b_nx {c : GT} {a : GS} {env : LF.Env} {st st1 : Sto} (h : c env st = .ok false st1) : sIf c a sNil env st = .nx env st1 := by
  simp [h]
/-- a call with one argument whose value is known -/
theorem call2' {f : List A → Sto → R A} {a b : GE} {env : LF.Env} {st st1 st2 : Sto} {x y : A} (h1 : a env st = .ok x st1) (h2 : b env st1 = .ok y st2) : gCall f (LF.gCons a (LF.gCons b LF.gNil)) env st = f [x, y] st2 := by
  unfold gCall
  have : LF.gCons a (LF.gCons b LF.gNil) env st = .ok [x, y] st2 := by
    unfold LF.gCons LF.gNil
    rw [h1, R.bind_ok, h2, R.bind_ok, R.bind_ok, R.bind_ok]
  rw [this, R.bind_ok]
theorem not_same {a b : GE} {env : LF.Env} {st st1 st2 : Sto} {d : PyData} (h : eqOK d = true) (hd : d.depth ≤ 15) (h1 : a env st = .ok (.d d) st1) (h2 : b env st1 = .ok (.d d) st2) :
    gNot (gB (gCall (p__law_same (16)) (LF.gCons a (LF.gCons b LF.gNil)))) env st = .ok false st2 := by
  unfold gNot gB
  rw [call2' h1 h2, q_same h hd st2]
  rfl
theorem or_ff {a b : GT} {env : LF.Env} {st st1 st2 : Sto} (h1 : a env st = .ok false st1) (h2 : b env st1 = .ok false st2) : gOr a b env st = .ok false st2 := by
  unfold gOr
  rw [h1, R.bind_ok, if_neg (by simp), h2]
theorem q_lots_hold {rest st : Sto} (hb : Bx rest st) : ∃ st', p__law_lots_hold [.box 0] st = .ok (.d (.bool true)) st' ∧ Bx rest st' := by
  obtain ⟨n, s1, e1, l1, u1, b1⟩ := q_part 13 (by decide) hb
  obtain ⟨r2, s2, e2, l2, u2, b2⟩ := q_pick 8 (by decide) (by decide) b1
  -- the row
  have hrow : ∃ r : Nat, r < 2 ^ 13 ∧ (lotOf 13 (r : Int)).length ≤ 8 ∧ lotNum (lotOf 13 (r : Int)) = (r : Int) ∧ sSet 2 (gSl (gCall p__law_part (LF.gCons (gVar 0) (LF.gCons (gC (.int 13)) LF.gNil))) oNone (oSome (g2 pAdd (gC (.int 5)) (g2 pMul (gC (.int 3)) (g2 pFdiv (gCall p__law_pick (LF.gCons (gVar 0) (LF.gCons (gC (.int 8)) LF.gNil))) (gC (.int 7))))))) [some (.box 0), some (.d (.int 13)), none, none, none, none, none, none, none, none] st = .nx [some (.box 0), some (.d (.int 13)), some (.d (.tuple ((lotOf 13 (r : Int)).map .int))), none, none, none, none, none, none, none] s2 := by
    have ec : ∃ c : Nat, c ≤ 8 ∧ 5 + 3 * (r2 / 7) = (c : Int) := ⟨(5 + 3 * (r2 / 7)).toNat, by omega, by omega⟩
    obtain ⟨c, hc, ec⟩ := ec
    obtain ⟨r, f1, f2, f3⟩ := row_facts n.toNat c
    rw [show ((n.toNat : Nat) : Int) = n from by omega] at f2
    refine ⟨r, f1, ?_, f3, ?_⟩
    · rw [← f2, List.length_take]
      omega
    · have e1' : p__law_part [.box 0, .d (.int 13)] st = .ok (.d (.tuple ((lotOf 13 n).map .int))) s1 := e1
      have h3 := cut_nat ((lotOf 13 n).map .int) c
      rw [← ec, ← List.map_take, f2] at h3
      simp [e1', e2, cMul, h3]
  obtain ⟨r, hr, hlen, hnum, c2⟩ := hrow
  generalize hR : lotOf 13 (r : Int) = row at hlen hnum c2
  have hmem : ∀ i ∈ row, 0 ≤ i ∧ i ≤ 1000 := fun i hi => by
    rw [← hR] at hi
    have := lotOf_mem hi
    omega
  have hr' : ((r : Nat) : Int) < 2 ^ 13 := by exact_mod_cast hr
  -- the total
  obtain ⟨o4, he⟩ := tt_loop (some (.box 0)) (some (.d (.int 13))) none none none none none s2 (some (.d (.tuple (row.map .int)))) row hmem 0 none
  rw [Int.zero_add, hnum] at he
  have c4 : sFor (giSeq (gVar 2)) (ggName 4) ttB [some (.box 0), some (.d (.int 13)), some (.d (.tuple (row.map .int))), some (.d (.int 0)), none, none, none, none, none, none] s2 = .nx [some (.box 0), some (.d (.int 13)), some (.d (.tuple (row.map .int))), some (.d (.int (r : Nat))), o4, none, none, none, none, none] s2 := by
    rw [← he]
    simp
  unfold ttB at c4
  have en := q_lot_number row (by omega) hmem s2
  rw [hnum] at en
  have eb := q_by_ok (r : Int) 13 (by omega) hr' (by omega) s2
  rw [hR] at eb
  have c5 := or_ff (env := [some (.box 0), some (.d (.int 13)), some (.d (.tuple (row.map .int))), some (.d (.int (r : Nat))), o4, none, none, none, none, none]) (not_same (d := .int (r : Nat)) (a := gCall p_lot_number (LF.gCons (gVar 2) LF.gNil)) (b := gVar 3) (env := [some (.box 0), some (.d (.int 13)), some (.d (.tuple (row.map .int))), some (.d (.int (r : Nat))), o4, none, none, none, none, none]) (st := s2) (st1 := s2) (st2 := s2) rfl (by simp [PyData.depth]) ((call1 (x := .d (.tuple (row.map .int))) rfl).trans en) (by simp))
    (not_same (d := .tuple [.str "let", .tuple (row.map .int)]) (a := gCall p__law_by (LF.gCons (gVar 3) LF.gNil)) (b := gTupD (LF.gCons (gC (.str "let")) (LF.gCons (gVar 2) LF.gNil))) (env := [some (.box 0), some (.d (.int 13)), some (.d (.tuple (row.map .int))), some (.d (.int (r : Nat))), o4, none, none, none, none, none]) (st := s2) (st1 := s2) (st2 := s2) (eqOK_let row (by omega)) (by rw [depth_let]; omega) ((call1 (x := .d (.int (r : Nat))) rfl).trans eb) (by simp))
  -- the lots within
  obtain ⟨wl, wm⟩ := within_len row hlen
  have ew := lw_law row hlen (some (.box 0)) (some (.d (.int 13))) (some (.d (.int (r : Nat)))) o4 none none none s2
  have c6 : sSet 5 (gComp (giR1 (g2 pShl (gC (.int 1)) (gB1 pLen (LF.gCons (gVar 2) LF.gNil)))) 6 gYes (gB1 pTup (LF.gCons (gComp (giR1 (gB1 pLen (LF.gCons (gVar 2) LF.gNil))) 9 (gTru (g2 pBand (g2 pShr (gVar 6) (gVar 9)) (gC (.int 1)))) (g2 pIx (gVar 2) (gVar 9))) LF.gNil))) [some (.box 0), some (.d (.int 13)), some (.d (.tuple (row.map .int))), some (.d (.int (r : Nat))), o4, none, none, none, none, none] s2 = .nx [some (.box 0), some (.d (.int 13)), some (.d (.tuple (row.map .int))), some (.d (.int (r : Nat))), o4, some (.d (.list (toD (row.foldl stepW [[]])))), none, none, none, none] s2 := by
    unfold sSet
    rw [ew]
    rfl
  have el := q_lots_within row hlen s2
  have c7 := not_same (d := .tuple (toD (row.foldl stepW [[]]))) (a := gCallK 1 p_lots_within 0 1 [0] LF.gNil (LF.gCons (gVar 2) LF.gNil)) (b := gB1 pTup (LF.gCons (gVar 5) LF.gNil)) (env := [some (.box 0), some (.d (.int 13)), some (.d (.tuple (row.map .int))), some (.d (.int (r : Nat))), o4, some (.d (.list (toD (row.foldl stepW [[]])))), none, none, none, none]) (st := s2) (st1 := s2) (st2 := s2) (eqOK_toD _ (by omega) fun y hy => by have := wm y hy; omega) (by have := depth_toD (row.foldl stepW [[]]); omega) (by simp [gK, pick, el]) (by simp)
  -- the mask
  obtain ⟨r3, s3, e3, l3, u3, b3⟩ := q_pick 8192 (by decide) (by decide) b2
  obtain ⟨r4, s4, e4, l4, u4, b4⟩ := q_pick 64 (by decide) (by decide) b3
  obtain ⟨r5, s5, e5, l5, u5, b5⟩ := q_pick 4 (by decide) (by decide) b4
  generalize hL : some (A.d (.list (toD (row.foldl stepW [[]])))) = L5 at c6 c7
  have hmask : ∃ m : Nat, m < 2 ^ 13 ∧ L2.atI [PyData.int 0, .int 8191, .int r3, .int r4] r5 = some (.int (m : Nat)) := by
    have h5 : r5 = 0 ∨ r5 = 1 ∨ r5 = 2 ∨ r5 = 3 := by omega
    rcases h5 with rfl | rfl | rfl | rfl
    · exact ⟨0, by decide, rfl⟩
    · exact ⟨8191, by decide, rfl⟩
    · exact ⟨r3.toNat, by omega, by rw [show ((r3.toNat : Nat) : Int) = r3 from by omega]; rfl⟩
    · exact ⟨r4.toNat, by omega, by rw [show ((r4.toNat : Nat) : Int) = r4 from by omega]; rfl⟩
  obtain ⟨m, hm, em⟩ := hmask
  have hm' : ((m : Nat) : Int) < 2 ^ 13 := by exact_mod_cast hm
  have c8 : sSet 6 (g2 pIx (gLstD (LF.gCons (gC (.int 0)) (LF.gCons (gC (.int 8191)) (LF.gCons (gCall p__law_pick (LF.gCons (gVar 0) (LF.gCons (gC (.int 8192)) LF.gNil))) (LF.gCons (gCall p__law_pick (LF.gCons (gVar 0) (LF.gCons (gC (.int 64)) LF.gNil))) LF.gNil))))) (gCall p__law_pick (LF.gCons (gVar 0) (LF.gCons (gC (.int 4)) LF.gNil)))) [some (.box 0), some (.d (.int 13)), some (.d (.tuple (row.map .int))), some (.d (.int (r : Nat))), o4, L5, none, none, none, none] s2 = .nx [some (.box 0), some (.d (.int 13)), some (.d (.tuple (row.map .int))), some (.d (.int (r : Nat))), o4, L5, some (.d (.int (m : Nat))), none, none, none] s5 := by
    simp [e3, e4, e5, em]
  have ed := comp_range (i := 9) (test := gTru (g2 pBand (g2 pShr (gVar 6) (gVar 9)) (gC (.int 1)))) (elt := gVar 9) (env := [some (.box 0), some (.d (.int 13)), some (.d (.tuple (row.map .int))), some (.d (.int (r : Nat))), o4, L5, some (.d (.int (m : Nat))), none, none, none]) (st := s5) (g := gVar 1) 13 (by omega) rfl (hasBit (m : Int)) (fun k => .int k) (fun k hk => gBit rfl rfl (by omega) (mem_rangeI.mp hk).1) (fun k _ _ => rfl)
  have c9 : sSet 7 (gB1 pTup (LF.gCons (gComp (giR1 (gVar 1)) 9 (gTru (g2 pBand (g2 pShr (gVar 6) (gVar 9)) (gC (.int 1)))) (gVar 9)) LF.gNil)) [some (.box 0), some (.d (.int 13)), some (.d (.tuple (row.map .int))), some (.d (.int (r : Nat))), o4, L5, some (.d (.int (m : Nat))), none, none, none] s5 = .nx [some (.box 0), some (.d (.int 13)), some (.d (.tuple (row.map .int))), some (.d (.int (r : Nat))), o4, L5, some (.d (.int (m : Nat))), some (.d (.tuple ((lotOf 13 (m : Int)).map .int))), none, none] s5 := by
    unfold sSet
    rw [gB1_one, ed]
    rfl
  have hlen2 := lotOf_len 13 (m : Int)
  have hnum2 := lotNum_lotOf m 13
  rw [Nat.mod_eq_of_lt hm] at hnum2
  have hmem2 : ∀ i ∈ lotOf 13 (m : Int), 0 ≤ i ∧ i ≤ 1000 := fun i hi => by
    have := lotOf_mem hi
    omega
  have en2 := q_lot_number _ (by omega) hmem2 s5
  rw [hnum2] at en2
  have eb2 := q_by_ok (m : Int) 13 (by omega) hm' (by omega) s5
  generalize lotOf 13 (m : Int) = due at *
  have c10 := or_ff (env := [some (.box 0), some (.d (.int 13)), some (.d (.tuple (row.map .int))), some (.d (.int (r : Nat))), o4, L5, some (.d (.int (m : Nat))), some (.d (.tuple (due.map .int))), none, none])
    (not_same (d := .tuple [.str "let", .tuple (due.map .int)]) (a := gCall p__law_by (LF.gCons (gVar 6) LF.gNil)) (b := gTupD (LF.gCons (gC (.str "let")) (LF.gCons (gVar 7) LF.gNil))) (env := [some (.box 0), some (.d (.int 13)), some (.d (.tuple (row.map .int))), some (.d (.int (r : Nat))), o4, L5, some (.d (.int (m : Nat))), some (.d (.tuple (due.map .int))), none, none]) (st := s5) (st1 := s5) (st2 := s5) (eqOK_let due (by omega)) (by rw [depth_let]; omega) ((call1 (x := .d (.int (m : Nat))) rfl).trans eb2) (by simp))
    (not_same (d := .int (m : Nat)) (a := gCallK 1 p_lot_number 0 1 [0] LF.gNil (LF.gCons (gVar 7) LF.gNil)) (b := gVar 6) (env := [some (.box 0), some (.d (.int 13)), some (.d (.tuple (row.map .int))), some (.d (.int (r : Nat))), o4, L5, some (.d (.int (m : Nat))), some (.d (.tuple (due.map .int))), none, none]) (st := s5) (st1 := s5) (st2 := s5) rfl (by simp [PyData.depth]) (by simp [gK, pick, en2]) (by simp))
  -- what is no number
  obtain ⟨r6, s6, e6, l6, u6, b6⟩ := q_pick 8 (by decide) (by decide) b5
  have hbad : ∃ d : PyData, isNumD d = false ∧ L2.atI [PyData.bool true, .bool false, .int (-1), .none, .str "3", .tuple [.int 3], .list [.int 3], .int (-(10 ^ 50))] r6 = some d := by
    have h6 : r6 = 0 ∨ r6 = 1 ∨ r6 = 2 ∨ r6 = 3 ∨ r6 = 4 ∨ r6 = 5 ∨ r6 = 6 ∨ r6 = 7 := by omega
    rcases h6 with rfl | rfl | rfl | rfl | rfl | rfl | rfl | rfl <;> exact ⟨_, rfl, rfl⟩
  obtain ⟨d, hd, ed2⟩ := hbad
  have c11 : sSet 8 (g2 pIx (gLstD (LF.gCons (gC (.bool true)) (LF.gCons (gC (.bool false)) (LF.gCons (gNeg (gC (.int 1))) (LF.gCons (gC .none) (LF.gCons (gC (.str "3")) (LF.gCons (gTupD (LF.gCons (gC (.int 3)) LF.gNil)) (LF.gCons (gLstD (LF.gCons (gC (.int 3)) LF.gNil)) (LF.gCons (gNeg (g2 pPow (gC (.int 10)) (gC (.int 50)))) LF.gNil))))))))) (gCall p__law_pick (LF.gCons (gVar 0) (LF.gCons (gC (.int 8)) LF.gNil)))) [some (.box 0), some (.d (.int 13)), some (.d (.tuple (row.map .int))), some (.d (.int (r : Nat))), o4, L5, some (.d (.int (m : Nat))), some (.d (.tuple (due.map .int))), none, none] s5 = .nx [some (.box 0), some (.d (.int 13)), some (.d (.tuple (row.map .int))), some (.d (.int (r : Nat))), o4, L5, some (.d (.int (m : Nat))), some (.d (.tuple (due.map .int))), some (.d d), none] s6 := by
    simp [e6, cPow] at ed2 ⊢
    simp [ed2]
  have ebn := q_by_no d hd s6
  have hok : eqOK (.tuple [.str "no", .str "number", .int (-1)]) = true := by decide +kernel
  have esm := q_same hok (by decide) s6
  have c12 : sRet (gCall (p__law_same (16)) (LF.gCons (gCall p__law_by (LF.gCons (gVar 8) LF.gNil)) (LF.gCons (gTupD (LF.gCons (gC (.str "no")) (LF.gCons (gC (.str "number")) (LF.gCons (gNeg (gC (.int 1))) LF.gNil)))) LF.gNil))) [some (.box 0), some (.d (.int 13)), some (.d (.tuple (row.map .int))), some (.d (.int (r : Nat))), o4, L5, some (.d (.int (m : Nat))), some (.d (.tuple (due.map .int))), some (.d d), none] s6 = .rt (.d (.bool true)) s6 := by
    unfold sRet
    rw [call2' (x := .d (.tuple [.str "no", .str "number", .int (-1)])) (y := .d (.tuple [.str "no", .str "number", .int (-1)])) (st1 := s6) (st2 := s6) ((call1 (x := .d d) rfl).trans ebn) (by simp), esm]
    rfl
  have fin : b__law_lots_hold [some (.box 0), none, none, none, none, none, none, none, none, none] st = .rt (.d (.bool true)) s6 := by
    unfold b__law_lots_hold
    rw [seq_nx (env' := [some (.box 0), some (.d (.int 13)), none, none, none, none, none, none, none, none]) (st' := st) (by simp)]
    rw [seq_nx c2]
    rw [seq_nx (env' := [some (.box 0), some (.d (.int 13)), some (.d (.tuple (row.map .int))), some (.d (.int 0)), none, none, none, none, none, none]) (st' := s2) (by simp)]
    rw [seq_nx c4]
    rw [seq_nx (b_nx c5), seq_nx c6]
    rw [seq_nx (b_nx c7), seq_nx c8, seq_nx c9, seq_nx (b_nx c10), seq_nx c11]
    exact c12
  have y := run_rt (m := 10) (b := b__law_lots_hold) (as := [.box 0]) fin
  rw [hb.len, b6.take] at y
  exact ⟨s6, y, b6⟩
end G
set_option Elab.async false
set_option linter.all false
set_option maxRecDepth 100000
set_option maxHeartbeats 2000000
namespace G
open PySem LF
theorem call1d {f : List A → Sto → R A} {a : GE} {env : LF.Env} {st st1 : Sto} {x : A} (h1 : a env st = .ok x st1) : gCall f (LF.gCons a LF.gNil) env st = f [x] st1 := by
  unfold gCall LF.gCons LF.gNil
  rw [h1]
  rfl
/-! two lists beside the draws -/
theorem bx2_get {rest st : Sto} {l r : List PyData} (h : Bx (rest ++ [l, r]) st) : st[rest.length + 1]? = some l ∧ st[rest.length + 2]? = some r := by
  obtain ⟨ns, a, b, c, rfl, _⟩ := h
  constructor
  · simp
  · rw [List.getElem?_cons_succ, List.getElem?_append_right (by omega)]
    simp
theorem bx2_set1 {rest st : Sto} {l r : List PyData} (h : Bx (rest ++ [l, r]) st) (l' : List PyData) : Bx (rest ++ [l', r]) (st.set (rest.length + 1) l') := by
  obtain ⟨ns, a, b, c, rfl, h1, h2⟩ := h
  refine ⟨ns, a, b, c, ?_, h1, h2⟩
  rw [List.set_cons_succ, List.set_append_right _ _ (by omega)]
  simp
theorem bx2_set2 {rest st : Sto} {l r : List PyData} (h : Bx (rest ++ [l, r]) st) (r' : List PyData) : Bx (rest ++ [l, r']) (st.set (rest.length + 2) r') := by
  obtain ⟨ns, a, b, c, rfl, h1, h2⟩ := h
  refine ⟨ns, a, b, c, ?_, h1, h2⟩
  rw [List.set_cons_succ, List.set_append_right _ _ (by omega)]
  simp
theorem bx1_get {rest st : Sto} {l : List PyData} (h : Bx (rest ++ [l]) st) : st[rest.length + 1]? = some l := by
  obtain ⟨ns, a, b, c, rfl, _⟩ := h
  simp
theorem bx1_set {rest st : Sto} {l : List PyData} (h : Bx (rest ++ [l]) st) (l' : List PyData) : Bx (rest ++ [l']) (st.set (rest.length + 1) l') := by
  obtain ⟨ns, a, b, c, rfl, h1, h2⟩ := h
  refine ⟨ns, a, b, c, ?_, h1, h2⟩
  rw [List.set_cons_succ, List.set_append_right _ _ (by omega)]
  simp
theorem bx_push {rest st : Sto} (h : Bx rest st) (l : List PyData) : Bx (rest ++ [l]) (st ++ [l]) := by
  obtain ⟨ns, a, b, c, rfl, h1, h2⟩ := h
  exact ⟨ns, a, b, c, by simp, h1, h2⟩
theorem bx_cut {rest more st : Sto} (h : Bx (rest ++ more) st) : Bx rest (st.take (rest.length + 1)) := by
  obtain ⟨ns, a, b, c, rfl, h1, h2⟩ := h
  exact ⟨ns, a, b, c, by simp, h1, h2⟩
theorem pop_at {st : Sto} {k : Nat} {ds : List PyData} {i : Int} (h : st[k]? = some ds) (h0 : 0 ≤ i) (h1 : i < ds.length) (h2 : i ≤ 1000000) : ∃ x, x ∈ ds ∧ popD k i st = some (x, st.set k (ds.eraseIdx i.toNat)) := by
  have hl : i.toNat < ds.length := by omega
  have hs : smallI i = true := by
    have := small_nat i.toNat (by omega)
    rwa [show ((i.toNat : Nat) : Int) = i from by omega] at this
  have hq : seqIndex? i ds.length = some i.toNat := by
    unfold seqIndex?
    have h3 : ¬ i < 0 := by omega
    simp [h3, h0, h1]
  refine ⟨ds[i.toNat], List.getElem_mem hl, ?_⟩
  unfold popD
  rw [h, Option.bind_some, if_pos hs, hq, Option.bind_some, List.getElem?_eq_getElem hl]
  rfl
noncomputable def shB : GS := (sApp (gVar 3) (gPop (gVar 2) (gCall p__law_pick (LF.gCons (gVar 0) (LF.gCons (gB1 pLen (LF.gCons (gVar 2) LF.gNil)) LF.gNil)))))
theorem sh_step {P : PyData → Prop} {rest st : Sto} {l r : List PyData} (h : Bx (rest ++ [l, r]) st) (hl : l ≠ []) (hl2 : l.length ≤ 1000) (hr2 : r.length ≤ 1000) (hp : ∀ x ∈ l, P x) (hp2 : ∀ x ∈ r, P x) (a b : Option A) :
    ∃ st' l' r', shB [some (.box 0), a, some (.box (rest.length + 1)), some (.box (rest.length + 2)), b] st = .nx [some (.box 0), a, some (.box (rest.length + 1)), some (.box (rest.length + 2)), b] st' ∧ Bx (rest ++ [l', r']) st' ∧ l'.length + 1 = l.length ∧ r'.length = r.length + 1 ∧ (∀ x ∈ l', P x) ∧ (∀ x ∈ r', P x) := by
  have hpos := List.length_pos_iff.mpr hl
  obtain ⟨i, s1, e1, l1, u1, b1⟩ := q_pick (l.length : Int) (by omega) (by omega) h
  obtain ⟨g1, g2'⟩ := bx2_get h
  obtain ⟨g3, g4⟩ := bx2_get b1
  obtain ⟨x, hx, ep⟩ := pop_at g3 l1 u1 (by omega)
  have b2 := bx2_set1 b1 (l.eraseIdx i.toNat)
  obtain ⟨g5, g6⟩ := bx2_get b2
  have b3 := bx2_set2 b2 (r ++ [x])
  refine ⟨_, l.eraseIdx i.toNat, r ++ [x], ?_, b3, ?_, by simp, ?_, ?_⟩
  · have hz : r.length < bigN := by unfold bigN; omega
    have el : gCall p__law_pick (LF.gCons (gVar 0) (LF.gCons (gB1 pLen (LF.gCons (gVar 2) LF.gNil)) LF.gNil)) [some (.box 0), a, some (.box (rest.length + 1)), some (.box (rest.length + 2)), b] st = .ok (.d (.int i)) s1 := by
      rw [call2' (x := .box 0) (y := .d (.int (l.length : Nat))) (st1 := st) (st2 := st) rfl (by simp [g1]), e1]
    unfold shB sApp
    simp only [gPop, el, gVar, List.getElem?_cons_succ, List.getElem?_cons_zero, R.bind_ok, R.bindO_ok, ep, g6, hz, if_true]
  · rw [List.length_eraseIdx, if_pos (by omega)]
    omega
  · intro y hy
    exact hp y (List.mem_of_mem_eraseIdx hy)
  · intro y hy
    rw [List.mem_append, List.mem_singleton] at hy
    rcases hy with hy | rfl
    · exact hp2 y hy
    · exact hp y hx
theorem sh_loop {P : PyData → Prop} {rest : Sto} (a : Option A) : ∀ (ks : List PyData) (st : Sto) (l r : List PyData) (_ : Bx (rest ++ [l, r]) st) (_ : ks.length = l.length) (_ : l.length + r.length ≤ 1000) (_ : ∀ x ∈ l, P x) (_ : ∀ x ∈ r, P x) (b : Option A),
    ∃ st' r' b', forD (fun _ => True) (ggName 4) shB ks [some (.box 0), a, some (.box (rest.length + 1)), some (.box (rest.length + 2)), b] st = .nx [some (.box 0), a, some (.box (rest.length + 1)), some (.box (rest.length + 2)), b'] st' ∧ Bx (rest ++ [[], r']) st' ∧ r'.length = l.length + r.length ∧ (∀ x ∈ r', P x)
  | [], st, l, r, h, hk, hz, hp, hp2, b => by
    have : l = [] := by
      rw [List.length_nil] at hk
      exact List.eq_nil_of_length_eq_zero hk.symm
    subst this
    exact ⟨st, r, b, by simp, h, by simp, hp2⟩
  | k :: ks, st, l, r, h, hk, hz, hp, hp2, b => by
    have hl : l ≠ [] := by
      intro q
      subst q
      simp at hk
    rw [List.length_cons] at hk
    obtain ⟨s1, l1, r1, e1, b1, h1, h2, h3, h4⟩ := sh_step h hl (by omega) (by omega) hp hp2 a (some (.d k))
    obtain ⟨s2, r2, b', e2, b2, h5, h6⟩ := sh_loop a ks s1 l1 r1 b1 (by omega) (by omega) h3 h4 (some (.d k))
    refine ⟨s2, r2, b', ?_, b2, by omega, h6⟩
    rw [forD_cons']
    simp only [List.set]
    rw [e1, forK_nx, e2]
theorem rl (m : Nat) (h : m ≤ 1000000) (env : LF.Env) (st : Sto) (g : GE) (he : g env st = .ok (.d (.int (m : Nat))) st) : gLstR1 g env st = .ok (.d (.list ((rangeI m).map .int))) st := by
  have key : ∀ j : Int, smallI j = true → decide (j ≤ 16777216) = true → g env st = .ok (.d (.int j)) st → gLstR1 g env st = .ok (.d (.list (rangeD 0 j.toNat))) st := fun j hj hj2 e => by
    unfold gLstR1
    rw [e, R.bind_ok]
    dsimp only
    rw [hj, hj2]
    rfl
  rw [key m (small_nat m h) (by rw [decide_eq_true_eq]; omega) he, Int.toNat_natCast, rangeD_eq]
theorem q_shuffled (m : Nat) (hm : m ≤ 100) {rest st : Sto} (hb : Bx rest st) :
    ∃ ds st', p__law_shuffled [.box 0, .d (.int (m : Nat))] st = .ok (.d (.tuple ds)) st' ∧ ds.length = m ∧ (∀ d ∈ ds, Nb m d) ∧ Bx rest st' := by
  have hlen := hb.len
  have hp : ∀ x ∈ (rangeI m).map PyData.int, Nb m x := fun x hx => by
    rw [List.mem_map] at hx
    obtain ⟨i, hi, rfl⟩ := hx
    exact mem_rangeI.mp hi
  have b1 := bx_push hb ((rangeI m).map .int)
  have b2 := bx_push b1 []
  rw [List.append_assoc] at b2
  obtain ⟨s2, r, b', e2, b3, h5, h6⟩ := sh_loop (P := Nb m) (rest := rest) (some (.d (.int (m : Nat)))) ((rangeI m).map .int) _ _ _ b2 rfl (by
    rw [List.length_map, rangeI_length, List.length_nil]; omega) hp (by simp) none
  rw [List.length_map, rangeI_length, List.length_nil, Nat.add_zero] at h5
  have c1 : sBoxOf 2 (gLstR1 (gVar 1)) [some (.box 0), some (.d (.int (m : Nat))), none, none, none] st = .nx [some (.box 0), some (.d (.int (m : Nat))), some (.box (rest.length + 1)), none, none] (st ++ [(rangeI m).map .int]) := by
    have e := rl m (by omega) [some (.box 0), some (.d (.int (m : Nat))), none, none, none] st (gVar 1) rfl
    unfold sBoxOf
    rw [e]
    simp [hlen]
  have c2 : sBox 3 LF.gNil [some (.box 0), some (.d (.int (m : Nat))), some (.box (rest.length + 1)), none, none] (st ++ [(rangeI m).map .int]) = .nx [some (.box 0), some (.d (.int (m : Nat))), some (.box (rest.length + 1)), some (.box (rest.length + 2)), none] (st ++ [(rangeI m).map .int] ++ [[]]) := by
    simp [hlen]
  have er := ra m (by omega) [some (.box 0), some (.d (.int (m : Nat))), some (.box (rest.length + 1)), some (.box (rest.length + 2)), none] (st ++ [(rangeI m).map .int] ++ [[]]) (gVar 1) rfl
  have c3 : sFor (giR1 (gVar 1)) (ggName 4) shB [some (.box 0), some (.d (.int (m : Nat))), some (.box (rest.length + 1)), some (.box (rest.length + 2)), none] (st ++ [(rangeI m).map .int] ++ [[]]) = .nx [some (.box 0), some (.d (.int (m : Nat))), some (.box (rest.length + 1)), some (.box (rest.length + 2)), b'] s2 := by
    unfold sFor
    rw [er, R.bindO_ok]
    exact e2
  unfold shB at c3
  have c4 : sRet (gB1 pTup (LF.gCons (gVar 3) LF.gNil)) [some (.box 0), some (.d (.int (m : Nat))), some (.box (rest.length + 1)), some (.box (rest.length + 2)), b'] s2 = .rt (.d (.tuple r)) s2 := by
    have := (bx2_get b3).2
    simp [this]
  have fin : b__law_shuffled [some (.box 0), some (.d (.int (m : Nat))), none, none, none] st = .rt (.d (.tuple r)) s2 := by
    unfold b__law_shuffled
    rw [seq_nx c1, seq_nx c2, seq_nx c3]
    exact c4
  have y := run_rt (m := 5) (b := b__law_shuffled) (as := [.box 0, .d (.int (m : Nat))]) fin
  rw [hlen] at y
  exact ⟨r, _, y, h5, h6, bx_cut b3⟩
end G
set_option Elab.async false
set_option linter.all false
set_option maxRecDepth 100000
set_option maxHeartbeats 2000000
namespace G
open PySem LF
/-! drawn values are bounded -/
abbrev VB : Nat := 10 ^ 60
theorem cut_mem {xs : List PyData} {lo hi : Option Int} {x : PyData} (h : x ∈ cutD xs lo hi) : x ∈ xs := by
  unfold cutD at h
  exact List.mem_of_mem_drop (List.mem_of_mem_take h)
theorem cut_len (xs : List PyData) (lo hi : Option Int) : (cutD xs lo hi).length ≤ xs.length := by
  unfold cutD
  rw [List.length_take, List.length_drop]
  omega
theorem lt_VB {i : Int} (h1 : -10 ^ 55 < i) (h2 : i < 10 ^ 55) : i.natAbs < VB := by
  have e : VB = 10 ^ 60 := rfl
  omega
theorem gd_int {i : Int} (h1 : -10 ^ 55 < i) (h2 : i < 10 ^ 55) : Gd VB 0 1 (.int i) := ⟨by simpa [fine] using lt_VB h1 h2, by simp [PyData.depth], by simp [cnt]⟩
theorem gd_bool (b : Bool) : Gd VB 0 1 (.bool b) := ⟨by simp [fine], by simp [PyData.depth], by simp [cnt]⟩
theorem gd_none : Gd VB 0 1 .none := ⟨by simp [fine], by simp [PyData.depth], by simp [cnt]⟩
theorem fine_words : fine VB (.str "") = true ∧ fine VB (.str "0") = true ∧ fine VB (.str "limits") = true ∧ fine VB (.str "slots") = true ∧ fine VB (.str "web") = true ∧ fine VB (.str "rows") = true ∧ fine VB (.str "table") = true ∧ fine VB (.str "beside") = true := by decide +kernel
theorem gd_str {s : Str} (h : fine VB (.str s) = true) : Gd VB 0 1 (.str s) := ⟨h, by simp [PyData.depth], by simp [cnt]⟩
theorem Lf.gd {d : PyData} (h : Lf d) : Gd VB 0 1 d := by
  cases d with
  | int i => exact gd_int (by have := h.1; omega) (by have := h.2; omega)
  | bool b => exact gd_bool b
  | none => exact gd_none
  | str s =>
    rcases h with rfl | rfl | rfl
    · exact gd_str fine_words.1
    · exact gd_str fine_words.2.1
    · exact gd_str fine_words.2.2.1
  | _ => exact h.elim
theorem Nb.gd {n : Int} (hn : n ≤ 10 ^ 50) {d : PyData} (h : Nb n d) : Gd VB 0 1 d := by
  cases d with
  | int i => exact gd_int (by have := h.1; omega) (by have := h.2; omega)
  | _ => exact h.elim
theorem gd_tup {ds : List PyData} (h : ∀ d ∈ ds, Gd VB 0 1 d) {W : Nat} (hW : ds.length + 1 ≤ W) : Gd VB 1 W (.tuple ds) :=
  (Gd.mk_tup h).mono (Nat.le_refl _) (by omega) (by omega)
theorem gd_lst {ds : List PyData} (h : ∀ d ∈ ds, Gd VB 0 1 d) {W : Nat} (hW : ds.length + 1 ≤ W) : Gd VB 1 W (.list ds) :=
  (Gd.mk_lst h).mono (Nat.le_refl _) (by omega) (by omega)
theorem Gd.small {k W : Nat} {d : PyData} (h : Gd VB k W d) : Small d := by
  intro t b e
  subst e
  have := h.f
  simp only [fine, fineAll, Bool.and_eq_true, decide_eq_true_eq] at this
  exact ⟨this.1, this.2.1⟩
theorem eqv_int (i j : Int) : ((PyData.int i).eqv (.int j)) = decide (i = j) := by simp [PyData.eqv, Bool.beq_eq_decide_eq]
def bendD : PyData → PyData
  | .int i => if i < 2 then .bool (i != 0) else .int i
  | d => d
theorem q_bent (m : Nat) (hm : m ≤ 100) (ds : List PyData) (hds : ∀ d ∈ ds, Nb m d) (hl : ds.length ≤ 100) {rest st : Sto} (hb : Bx rest st) :
    ∃ d st', p__law_bent [.box 0, .d (.tuple ds), .d (.int (m : Nat))] st = .ok (.d d) st' ∧ Gd VB 1 250 d ∧ Bx rest st' := by
  obtain ⟨r, s1, e1, l1, u1, b1⟩ := q_pick 12 (by decide) (by decide) hb
  have hg : ∀ d ∈ ds, Gd VB 0 1 d := fun d hd => (hds d hd).gd (by omega)
  have hz : ds.length ≤ bigN := by unfold bigN; omega
  have hz1 : ds.length + 1 ≤ bigN := by unfold bigN; omega
  by_cases h0 : r = 0
  · subst h0
    exact ⟨.tuple ds.reverse, s1, by simp [p__law_bent, b__law_bent, e1, hb.len, b1.take, eqv_int], gd_tup (fun d hd => hg d (List.mem_reverse.mp hd)) (by rw [List.length_reverse]; omega), b1⟩
  · by_cases h1 : r = 1
    · subst h1
      have hc := cut_len ds (some (-1)) none
      have hz2 : ds.length + (cutD ds (some (-1)) none).length ≤ bigN := by unfold bigN; omega
      refine ⟨.tuple (ds ++ cutD ds (some (-1)) none), s1, by simp [p__law_bent, b__law_bent, e1, hb.len, b1.take, eqv_int, hz2], gd_tup (fun d hd => ?_) (by rw [List.length_append]; omega), b1⟩
      rw [List.mem_append] at hd
      rcases hd with hd | hd
      · exact hg d hd
      · exact hg d (cut_mem hd)
    · by_cases h2 : r = 2
      · subst h2
        have e := comp_pure (i := 4) (test := gYes) (elt := gIf (gB (g2 pLt (gVar 4) (gC (.int 2)))) (gB1 pBool1 (LF.gCons (gVar 4) LF.gNil)) (gVar 4)) (wenv := [some (.box 0), some (.d (.tuple ds)), some (.d (.int (m : Nat))), some (.d (.int 2)), none]) (st := s1) (fun _ => true) bendD ds (fun _ _ => rfl) (fun d hd _ => by
          have := hds d hd
          cases d with
          | int i =>
            by_cases c : i < 2
            · simp [bendD, c]
            · simp [bendD, c]
          | _ => exact this.elim)
        rw [List.filter_eq_self.mpr (fun _ _ => rfl)] at e
        refine ⟨.tuple (ds.map bendD), s1, ?_, gd_tup (fun d hd => ?_) (by rw [List.length_map]; omega), b1⟩
        · simp [p__law_bent, b__law_bent, e1, hb.len, b1.take, eqv_int, hz] at e ⊢
          simp [e, b1.take]
        · rw [List.mem_map] at hd
          obtain ⟨y, hy, rfl⟩ := hd
          have h3 := hds y hy
          have h4 := hg y hy
          cases y with
          | int i =>
            simp only [bendD]
            split
            · exact gd_bool _
            · exact h4
          | _ => exact h4
      · by_cases h3 : r = 3
        · subst h3
          exact ⟨.list ds, s1, by simp [p__law_bent, b__law_bent, e1, hb.len, b1.take, eqv_int], gd_lst hg (by omega), b1⟩
        · by_cases h4 : r = 4
          · subst h4
            refine ⟨.tuple (ds ++ [.int m]), s1, by simp [p__law_bent, b__law_bent, e1, hb.len, b1.take, eqv_int, hz1], gd_tup (fun d hd => ?_) (by rw [List.length_append, List.length_singleton]; omega), b1⟩
            rw [List.mem_append, List.mem_singleton] at hd
            rcases hd with hd | rfl
            · exact hg d hd
            · exact gd_int (by omega) (by omega)
          · by_cases h5 : r = 5
            · subst h5
              have hz3 : 1 + ds.length ≤ bigN := by omega
              refine ⟨.tuple (.int (-1) :: ds), s1, by simp [p__law_bent, b__law_bent, e1, hb.len, b1.take, eqv_int, hz3], gd_tup (fun d hd => ?_) (by rw [List.length_cons]; omega), b1⟩
              rw [List.mem_cons] at hd
              rcases hd with rfl | hd
              · exact gd_int (by decide) (by decide)
              · exact hg d hd
            · exact ⟨.tuple ds, s1, by simp [p__law_bent, b__law_bent, e1, hb.len, b1.take, eqv_int, h0, h1, h2, h3, h4, h5], gd_tup hg (by omega), b1⟩
end G
set_option Elab.async false
set_option linter.all false
set_option maxRecDepth 100000
set_option maxHeartbeats 2000000
namespace G
open PySem LF
theorem cMul_r {i j : Int} (h1 : -1000 ≤ j) (h2 : j ≤ 1000) : cMul i j = true := by
  unfold cMul
  rw [Bool.or_eq_true, Bool.and_eq_true, Bool.and_eq_true, decide_eq_true_eq, decide_eq_true_eq, decide_eq_true_eq, decide_eq_true_eq]
  right
  constructor <;> omega
theorem mul_bd {x y : Int} {a b : Nat} (hx : x.natAbs ≤ a) (hy : y.natAbs ≤ b) : (x * y).natAbs ≤ a * b := by
  rw [Int.natAbs_mul]
  exact Nat.mul_le_mul hx hy
theorem ra' (m : Nat) (h : m ≤ 1000000) (env : LF.Env) (st st1 : Sto) (g : GE) (he : g env st = .ok (.d (.int (m : Nat))) st1) : giR1 g env st = .ok ⟨(rangeI m).map .int, fun _ => True⟩ st1 := by
  have key : ∀ j : Int, smallI j = true → g env st = .ok (.d (.int j)) st1 → giR1 g env st = .ok ⟨rangeD 0 j.toNat, fun _ => True⟩ st1 := fun j hj e => by
    unfold giR1
    rw [e, R.bind_ok]
    dsimp only
    rw [if_pos hj]
  rw [key m (small_nat m h) he, Int.toNat_natCast, rangeD_eq]
theorem comp_rdraws' {rest : Sto} {P : PyData → Prop} {i : Nat} {elt : GE} {env : LF.Env} {g : GE} (m : Nat) (h : m ≤ 1000000) {st st1 : Sto} (hb : Bx rest st1) (he : g env st = .ok (.d (.int (m : Nat))) st1)
    (hp : ∀ k ∈ rangeI m, ∀ st, Bx rest st → ∃ d st', elt ((env.set i none).set i (some (.d (.int k)))) st = .ok (.d d) st' ∧ P d ∧ Bx rest st') :
    ∃ ds st', gComp (giR1 g) i gYes elt env st = .ok (.d (.list ds)) st' ∧ ds.length = m ∧ (∀ d ∈ ds, P d) ∧ Bx rest st' := by
  obtain ⟨ds, s1, e, l, p, b⟩ := comp_draws (rangeI m) st1 hb hp
  have hz : ((rangeI m).map PyData.int).length ≤ bigN := by
    rw [List.length_map, rangeI_length]
    exact h
  refine ⟨ds, s1, ?_, by rw [l, rangeI_length], p, b⟩
  simp only [gComp, ra' m h env st st1 g he, R.bind_ok, hz, if_true, e]
theorem Bx.tk {rest st : Sto} (h : Bx rest st) {n : Nat} (hn : n = rest.length + 1) : st.take n = st := by
  subst hn
  exact h.take
theorem call3' {f : List A → Sto → R A} {a b c : GE} {env : LF.Env} {st st1 st2 st3 : Sto} {x y z : A} (h1 : a env st = .ok x st1) (h2 : b env st1 = .ok y st2) (h3 : c env st2 = .ok z st3) : gCall f (LF.gCons a (LF.gCons b (LF.gCons c LF.gNil))) env st = f [x, y, z] st3 := by
  unfold gCall
  have : LF.gCons a (LF.gCons b (LF.gCons c LF.gNil)) env st = .ok [x, y, z] st3 := by
    unfold LF.gCons LF.gNil
    rw [h1, R.bind_ok, h2, R.bind_ok, h3, R.bind_ok, R.bind_ok, R.bind_ok, R.bind_ok]
  rw [this, R.bind_ok]
theorem ret_ok {g : GE} {env : LF.Env} {st st1 : Sto} {x : A} (h : g env st = .ok x st1) : sRet g env st = .rt x st1 := by
  unfold sRet
  rw [h]
  rfl
theorem set_ok {g : GE} {env : LF.Env} {st st1 : Sto} {x : A} {i : Nat} (h : g env st = .ok x st1) : sSet i g env st = .nx (env.set i (some x)) st1 := by
  unfold sSet
  rw [h]
  rfl
theorem if_ff {c : GT} {a : GS} {env : LF.Env} {st st1 : Sto} (h : c env st = .ok true st1) : sIf c a sNil env st = a env st1 := by
  simp [h]
theorem q_value (m : Nat) (hm : m ≤ 13) {rest st : Sto} (hb : Bx rest st) :
    ∃ d st', p__law_value [.box 0, .d (.int (m : Nat))] st = .ok (.d d) st' ∧ Gd VB 1 250 d ∧ Bx rest st' := by
  obtain ⟨r1, s1, e1, l1, u1, b1⟩ := q_pick 8 (by decide) (by decide) hb
  by_cases h0 : r1 = 0
  · subst h0
    obtain ⟨d, s2, e2, hd, b2⟩ := q_leaf b1
    exact ⟨d, s2, by simp [p__law_value, b__law_value, e1, e2, eqv_int, hb.len, b2.take], hd.gd.mono (Nat.le_refl _) (by omega) (by omega), b2⟩
  · by_cases h3 : r1 < 3
    · obtain ⟨r2, s2, e2, l2, u2, b2⟩ := q_pick 5 (by decide) (by decide) b1
      obtain ⟨r3, s3, e3, l3, u3, b3⟩ := q_pick 7 (by decide) (by decide) b2
      obtain ⟨r4, s4, e4, l4, u4, b4⟩ := q_pick 5 (by decide) (by decide) b3
      obtain ⟨r5, s5, e5, l5, u5, b5⟩ := q_pick 6 (by decide) (by decide) b4
      have hbot : ∃ b : Int, b.natAbs ≤ 10 ^ 20 ∧ L2.atI [PyData.int 1, .int 2, .int 3, .int 12, .int 100000000000000000000] r2 = some (.int b) := by
        have h : r2 = 0 ∨ r2 = 1 ∨ r2 = 2 ∨ r2 = 3 ∨ r2 = 4 := by omega
        rcases h with rfl | rfl | rfl | rfl | rfl
        · exact ⟨1, by decide, rfl⟩
        · exact ⟨2, by decide, rfl⟩
        · exact ⟨3, by decide, rfl⟩
        · exact ⟨12, by decide, rfl⟩
        · exact ⟨100000000000000000000, by decide, rfl⟩
      have hsc : ∃ c : Int, c.natAbs ≤ 2 ∧ L2.atI [PyData.int 1, .int 1, .int 1, .int 2, .int (-1), .int 0] r5 = some (.int c) := by
        have h : r5 = 0 ∨ r5 = 1 ∨ r5 = 2 ∨ r5 = 3 ∨ r5 = 4 ∨ r5 = 5 := by omega
        rcases h with rfl | rfl | rfl | rfl | rfl | rfl
        · exact ⟨1, by decide, rfl⟩
        · exact ⟨1, by decide, rfl⟩
        · exact ⟨1, by decide, rfl⟩
        · exact ⟨2, by decide, rfl⟩
        · exact ⟨-1, by decide, rfl⟩
        · exact ⟨0, by decide, rfl⟩
      obtain ⟨b, hb1, eb⟩ := hbot
      obtain ⟨c, hc1, ec⟩ := hsc
      have m1 : cMul b (r3 - 3) = true := cMul_r (by omega) (by omega)
      have m2 : cMul (b * (r3 - 3) + r4 - 2) c = true := cMul_r (by omega) (by omega)
      have m3 : cMul b c = true := cMul_r (by omega) (by omega)
      refine ⟨.tuple [.int ((b * (r3 - 3) + r4 - 2) * c), .int (b * c)], s5, ?_, ?_, b5⟩
      · simp [p__law_value, b__law_value, e1, e2, e3, e4, e5, eqv_int, h0, h3, eb, ec, cPow, m1, m2, m3, hb.len, b5.take]
      · have q1 := mul_bd (x := b) (y := r3 - 3) (a := 10 ^ 20) (b := 4) hb1 (by omega)
        have q2 := mul_bd (x := b * (r3 - 3) + r4 - 2) (y := c) (a := 10 ^ 22) (b := 2) (by omega) hc1
        have q3 := mul_bd (x := b) (y := c) (a := 10 ^ 20) (b := 2) hb1 hc1
        refine gd_tup (fun d hd => ?_) (by simp)
        simp only [List.mem_cons, List.not_mem_nil, or_false] at hd
        rcases hd with rfl | rfl
        · exact gd_int (by omega) (by omega)
        · exact gd_int (by omega) (by omega)
    · by_cases h5 : r1 < 5
      · obtain ⟨r2, s2, e2, l2, u2, b2⟩ := q_pick 5 (by decide) (by decide) b1
        obtain ⟨ds, s3, e3, hl, hp, b3⟩ := comp_rdraws' (i := 7) (P := Lf) (elt := gCall p__law_leaf (LF.gCons (gVar 0) LF.gNil)) (env := [some (.box 0), some (.d (.int (m : Nat))), some (.d (.int r1)), none, none, none, none, none]) (g := gCall p__law_pick (LF.gCons (gVar 0) (LF.gCons (gC (.int 5)) LF.gNil))) r2.toNat (by omega) (st := s1) b2 (by
            rw [show ((r2.toNat : Nat) : Int) = r2 from by omega]
            exact (call2' rfl rfl).trans e2) (fun k hk st hb => by
            obtain ⟨d, st', e, hd, b⟩ := q_leaf hb
            exact ⟨d, st', (call1d rfl).trans e, hd, b⟩)
        obtain ⟨r4, s4, e4, l4, u4, b4⟩ := q_pick 3 (by decide) (by decide) b3
        have c6 : sSet 6 (gComp (giR1 (gCall p__law_pick (LF.gCons (gVar 0) (LF.gCons (gC (.int 5)) LF.gNil)))) 7 gYes (gCall p__law_leaf (LF.gCons (gVar 0) LF.gNil))) [some (.box 0), some (.d (.int (m : Nat))), some (.d (.int r1)), none, none, none, none, none] s1 = .nx [some (.box 0), some (.d (.int (m : Nat))), some (.d (.int r1)), none, none, none, some (.d (.list ds)), none] s3 := by
          unfold sSet
          rw [e3]
          rfl
        have hix : ∃ d, L2.atI [PyData.tuple ds, .list ds] (r4 / 2) = some d ∧ Gd VB 1 250 d := by
          have h : r4 / 2 = 0 ∨ r4 / 2 = 1 := by omega
          rcases h with h | h <;> rw [h]
          · exact ⟨_, rfl, gd_tup (fun d hd => (hp d hd).gd) (by omega)⟩
          · exact ⟨_, rfl, gd_lst (fun d hd => (hp d hd).gd) (by omega)⟩
        obtain ⟨d, ed, hd⟩ := hix
        have c7 : sRet (g2 pIx (gLstD (LF.gCons (gB1 pTup (LF.gCons (gVar 6) LF.gNil)) (LF.gCons (gVar 6) LF.gNil))) (g2 pFdiv (gCall p__law_pick (LF.gCons (gVar 0) (LF.gCons (gC (.int 3)) LF.gNil))) (gC (.int 2)))) [some (.box 0), some (.d (.int (m : Nat))), some (.d (.int r1)), none, none, none, some (.d (.list ds)), none] s3 = .rt (.d d) s4 := by
          simp [e4, ed]
        have fin : b__law_value [some (.box 0), some (.d (.int (m : Nat))), none, none, none, none, none, none] st = .rt (.d d) s4 := by
          unfold b__law_value
          rw [seq_nx (env' := [some (.box 0), some (.d (.int (m : Nat))), some (.d (.int r1)), none, none, none, none, none]) (st' := s1) (by simp [e1])]
          rw [seq_nx (env' := [some (.box 0), some (.d (.int (m : Nat))), some (.d (.int r1)), none, none, none, none, none]) (st' := s1) (by simp [eqv_int, h0])]
          rw [seq_nx (env' := [some (.box 0), some (.d (.int (m : Nat))), some (.d (.int r1)), none, none, none, none, none]) (st' := s1) (by simp [h3])]
          apply seq_rt
          rw [if_ff (st1 := s1) (by simp [h5])]
          rw [seq_nx c6]
          exact c7
        have y := run_rt (m := 8) (b := b__law_value) (as := [.box 0, .d (.int (m : Nat))]) fin
        rw [hb.len, b4.take] at y
        exact ⟨d, s4, y, hd, b4⟩
      · by_cases h6 : r1 = 5
        · subst h6
          obtain ⟨n, s2, e2, l2, u2, b2⟩ := q_part m hm b1
          obtain ⟨d, s3, e3, hd, b3⟩ := q_bent m (by omega) ((lotOf m n).map .int) (fun d hd => by
            rw [List.mem_map] at hd
            obtain ⟨i, hi, rfl⟩ := hd
            exact lotOf_mem hi) (by
            have := lotOf_len m n
            rw [List.length_map]; omega) b2
          have fin : b__law_value [some (.box 0), some (.d (.int (m : Nat))), none, none, none, none, none, none] st = .rt (.d d) s3 := by
            unfold b__law_value
            rw [seq_nx (env' := [some (.box 0), some (.d (.int (m : Nat))), some (.d (.int 5)), none, none, none, none, none]) (st' := s1) (set_ok ((call2' rfl rfl).trans e1))]
            rw [seq_nx (env' := [some (.box 0), some (.d (.int (m : Nat))), some (.d (.int 5)), none, none, none, none, none]) (st' := s1) (by simp [eqv_int])]
            rw [seq_nx (env' := [some (.box 0), some (.d (.int (m : Nat))), some (.d (.int 5)), none, none, none, none, none]) (st' := s1) (by simp)]
            rw [seq_nx (env' := [some (.box 0), some (.d (.int (m : Nat))), some (.d (.int 5)), none, none, none, none, none]) (st' := s1) (by simp)]
            apply seq_rt
            rw [if_ff (st1 := s1) (by simp [eqv_int])]
            exact ret_ok ((call3' rfl ((call2' rfl rfl).trans e2) rfl).trans e3)
          have y := run_rt (m := 8) (b := b__law_value) (as := [.box 0, .d (.int (m : Nat))]) fin
          rw [hb.len, b3.take] at y
          exact ⟨d, s3, y, hd, b3⟩
        · obtain ⟨ds, s2, e2, l2, p2, b2⟩ := q_shuffled m (by omega) b1
          obtain ⟨d, s3, e3, hd, b3⟩ := q_bent m (by omega) ds p2 (by omega) b2
          have fin : b__law_value [some (.box 0), some (.d (.int (m : Nat))), none, none, none, none, none, none] st = .rt (.d d) s3 := by
            unfold b__law_value
            rw [seq_nx (env' := [some (.box 0), some (.d (.int (m : Nat))), some (.d (.int r1)), none, none, none, none, none]) (st' := s1) (set_ok ((call2' rfl rfl).trans e1))]
            rw [seq_nx (env' := [some (.box 0), some (.d (.int (m : Nat))), some (.d (.int r1)), none, none, none, none, none]) (st' := s1) (by simp [eqv_int, h0])]
            rw [seq_nx (env' := [some (.box 0), some (.d (.int (m : Nat))), some (.d (.int r1)), none, none, none, none, none]) (st' := s1) (by simp [h3])]
            rw [seq_nx (env' := [some (.box 0), some (.d (.int (m : Nat))), some (.d (.int r1)), none, none, none, none, none]) (st' := s1) (by simp [h5])]
            rw [seq_nx (env' := [some (.box 0), some (.d (.int (m : Nat))), some (.d (.int r1)), none, none, none, none, none]) (st' := s1) (by simp [eqv_int, h6])]
            exact ret_ok ((call3' rfl ((call2' rfl rfl).trans e2) rfl).trans e3)
          have y := run_rt (m := 8) (b := b__law_value) (as := [.box 0, .d (.int (m : Nat))]) fin
          rw [hb.len, b3.take] at y
          exact ⟨d, s3, y, hd, b3⟩
end G
set_option Elab.async false
set_option linter.all false
set_option maxRecDepth 100000
set_option maxHeartbeats 2000000
namespace G
open PySem LF
/-! what is written out is a text -/
def OkS (x : Str) : Prop := ∀ c ∈ x.cps.toList, c < 1114112
theorem okS_iff (x : Str) : PyData.strOk x = true ↔ OkS x := by
  unfold PyData.strOk OkS
  rw [Array.all_eq_true']
  simp
theorem char_lt (c : Char) : c.toNat < 1114112 := by
  have h := c.valid
  have e : c.toNat = c.val.toNat := rfl
  rw [e]
  rcases h with h | h <;> omega
theorem okS_of (s : String) : OkS (Str.ofString s) := by
  rw [Str.ofString_eq_toList]
  intro c hc
  simp only [List.mem_map] at hc
  obtain ⟨d, _, rfl⟩ := hc
  exact char_lt d
theorem okS_append {a b : Str} (ha : OkS a) (hb : OkS b) : OkS (a ++ b) := by
  intro c hc
  have e : (a ++ b).cps = a.cps ++ b.cps := rfl
  rw [e, Array.toList_append, List.mem_append] at hc
  exact hc.elim (ha c) (hb c)
theorem okS_join {s : Str} (hs : OkS s) : ∀ {ts : List Str}, (∀ t ∈ ts, OkS t) → OkS (s.join ts)
  | [], _ => by
    intro c hc
    cases hc
  | [x], h => h x (by simp)
  | x :: y :: r, h => okS_append (okS_append (h x (by simp)) hs) (okS_join hs fun t ht => h t (List.mem_cons_of_mem _ ht))
theorem okS_from : ∀ (ts : List Str) (k : Nat) (acc : Str), OkS acc → (∀ t ∈ ts, OkS t) → OkS (textFrom k acc ts)
  | [], _, acc, ha, _ => ha
  | t :: ts, k, acc, ha, h => by
    unfold textFrom
    exact okS_from ts _ _ (okS_append (okS_append ha (okS_of _)) (h t (by simp))) fun t ht => h t (List.mem_cons_of_mem _ ht)
theorem repr_lt {q c : Nat} (hq : q < 1114112) (hc : c < 1114112) : ∀ e ∈ Builtin.Str.reprChar q c, e < 1114112 := by
  have hd : ∀ (w : Nat) (e : Nat), e ∈ List.replicate (w - ((Nat.toDigits 16 c).map Char.toNat).length) 48 ++ (Nat.toDigits 16 c).map Char.toNat → e < 1114112 := fun w e he => by
    rw [List.mem_append] at he
    rcases he with he | he
    · rw [(List.mem_replicate.mp he).2]
      omega
    · rw [List.mem_map] at he
      obtain ⟨d, _, rfl⟩ := he
      exact char_lt d
  intro e he
  unfold Builtin.Str.reprChar at he
  dsimp only at he
  repeat' split at he
  all_goals
    simp only [List.mem_cons, List.not_mem_nil, or_false, List.cons_append, List.nil_append] at he
  all_goals first
    | (rcases he with rfl | rfl | he <;> first | omega | exact hd _ _ he)
    | (rcases he with rfl | rfl <;> omega)
    | (subst he; omega)
theorem okS_repr {x : Str} (hx : OkS x) : OkS (reprText x) := by
  have hq : reprQuote x < 1114112 := by
    unfold reprQuote
    split <;> omega
  have key : ∀ (l : List Nat) (acc : Array Nat), (∀ c ∈ l, c < 1114112) → (∀ c ∈ acc.toList, c < 1114112) → ∀ c ∈ (l.foldl (fun out c => out ++ (Builtin.Str.reprChar (reprQuote x) c).toArray) acc).toList, c < 1114112 := by
    intro l
    induction l with
    | nil => intro acc _ h c hc; exact h c hc
    | cons d r ih =>
      intro acc hl h
      rw [List.foldl_cons]
      refine ih _ (fun c hc => hl c (by simp [hc])) fun c hc => ?_
      rw [Array.toList_append, List.mem_append] at hc
      rcases hc with hc | hc
      · exact h c hc
      · exact repr_lt hq (hl d (by simp)) c hc
  intro c hc
  unfold reprText at hc
  rw [Array.toList_push, List.mem_append, ← Array.foldl_toList] at hc
  rcases hc with hc | hc
  · exact key x.cps.toList _ hx (fun c hc => by simp at hc; rw [hc]; exact hq) c hc
  · rw [List.mem_singleton] at hc
    rw [hc]
    exact hq
mutual
theorem okS_shown {B : Nat} : ∀ d : PyData, fine B d = true → OkS d.shown
  | .int i, _ => by rw [PyData.shown]; exact okS_of _
  | .list xs, h => by
    rw [PyData.shown]
    exact okS_append (okS_from _ _ _ (okS_of _) (okS_shownAll xs (by simpa [fine] using h))) (okS_of _)
  | .tuple xs, h => by
    rw [PyData.shown]
    unfold tupleText
    exact okS_append (okS_append (okS_of _) (okS_join (okS_of _) (okS_shownAll xs (by simpa [fine] using h)))) (okS_of _)
  | .dict _, h => by simp [fine] at h
  | .str x, h => by
    rw [PyData.shown]
    have h1 : PyData.strOk x = true ∧ x.cps.size ≤ 100 := by simpa [fine] using h
    exact okS_repr ((okS_iff x).mp h1.1)
  | .none, _ => by rw [PyData.shown]; exact okS_of _
  | .bool b, _ => by
    rw [PyData.shown]
    split <;> exact okS_of _
theorem okS_shownAll {B : Nat} : ∀ xs : List PyData, fineAll B xs = true → ∀ t ∈ PyData.shownAll xs, OkS t
  | [], _ => by simp [PyData.shownAll]
  | x :: xs, h => by
    have h' : fine B x = true ∧ fineAll B xs = true := by simpa [fineAll] using h
    intro t ht
    rw [PyData.shownAll, List.mem_cons] at ht
    rcases ht with rfl | ht
    · exact okS_shown x h'.1
    · exact okS_shownAll xs h'.2 t ht
end
theorem sh_shown {B k W : Nat} {d : PyData} (h : Gd B k W d) : SeqAt.shaped (.str d.shown) = true := sh_str_of ((okS_iff _).mpr (okS_shown d h.f))
end G
set_option Elab.async false
set_option linter.all false
set_option maxRecDepth 100000
set_option maxHeartbeats 2000000
namespace G
open PySem LF
theorem q_each_once' (n : Int) (h0 : 0 ≤ n) (hn : n ≤ 1000) (d : PyData) (st : Sto) : p__law_each_once [.d (.int n), .d d] st = .ok (.d (.bool (isOrdD n d))) st := by
  obtain ⟨m, rfl⟩ := Int.eq_ofNat_of_zero_le h0
  exact q_each_once m (by omega) d st
theorem q_value' (n : Int) (h0 : 0 ≤ n) (hn : n ≤ 13) {rest st : Sto} (hb : Bx rest st) :
    ∃ d st', p__law_value [.box 0, .d (.int n)] st = .ok (.d d) st' ∧ Gd VB 1 250 d ∧ Bx rest st' := by
  obtain ⟨m, rfl⟩ := Int.eq_ofNat_of_zero_le h0
  exact q_value m (by omega) hb
theorem q_repr {k W : Nat} {d : PyData} (h : Gd VB k W d) (hk : k ≤ 64) (hW : W ≤ 1000) {g : GE} {env : LF.Env} {st st1 : Sto} (hg : g env st = .ok (.d d) st1) : gRepr g env st = .ok (.d (.str d.shown)) st1 := by
  have := h.shows (Nat.le_refl _) hk hW
  unfold gRepr
  rw [hg, R.bind_ok]
  simp only [pRepr, this, if_true]
theorem same_text {k W : Nat} {d : PyData} (h : Gd VB k W d) {a b : GE} {env : LF.Env} {st st1 st2 : Sto} (ha : a env st = .ok (.d (.str d.shown)) st1) (hb : b env st1 = .ok (.d (.str d.shown)) st2) : gB (g2 pNe a b) env st = .ok false st2 := by
  have hs := sh_shown h
  unfold gB g2
  rw [ha, R.bind_ok, hb, R.bind_ok]
  simp [hs, PyData.eqv]
noncomputable def kwB : GS := (sSeq (sSet 6 (gCall p__law_bundle (LF.gCons (gVar 7) (LF.gCons (gVar 3) LF.gNil)))) (sIf (gNot (gB (gCall (p__law_same (16)) (LF.gCons (gTupD (LF.gCons (gCallK 2 p_is_lot 0 2 [1, 0] LF.gNil (LF.gCons (gVar 3) (LF.gCons (gVar 7) LF.gNil))) (LF.gCons (gCall p_is_lot (LF.gCons (gVar 7) (LF.gCons (gVar 3) LF.gNil))) LF.gNil))) (LF.gCons (gTupD (LF.gCons (gVar 6) (LF.gCons (gVar 6) LF.gNil))) LF.gNil))))) (sRet (gC (.bool false))) sNil))
theorem kw_step (n : Int) (d : PyData) (a0 a1 a2 a4 a5 a6 : Option A) (st : Sto) : kwB [a0, a1, a2, some (.d d), a4, a5, a6, some (.d (.int n))] st = .nx [a0, a1, a2, some (.d d), a4, a5, some (.d (.bool (isLotD n d))), some (.d (.int n))] st := by
  have e1 := q_bundle n d st
  have e2 := q_is_lot n d st
  unfold kwB
  rw [seq_nx (env' := [a0, a1, a2, some (.d d), a4, a5, some (.d (.bool (isLotD n d))), some (.d (.int n))]) (st' := st) (set_ok ((call2' rfl rfl).trans e1))]
  exact b_nx (not_same (d := .tuple [.bool (isLotD n d), .bool (isLotD n d)]) (st1 := st) (st2 := st) rfl (by simp [PyData.depth, PyData.depthAll]) (by simp [gK, pick, e2]) (by simp))
theorem kw_loop (d : PyData) (a0 a1 a2 a4 a5 : Option A) (st : Sto) : ∀ (ns : List Int) (a6 a7 : Option A), ∃ a6' a7', forD (fun _ => True) (ggName 7) kwB (ns.map .int) [a0, a1, a2, some (.d d), a4, a5, a6, a7] st = .nx [a0, a1, a2, some (.d d), a4, a5, a6', a7'] st
  | [], a6, a7 => ⟨a6, a7, by simp⟩
  | n :: ns, a6, a7 => by
    obtain ⟨a6', a7', he⟩ := kw_loop d a0 a1 a2 a4 a5 st ns (some (.d (.bool (isLotD n d)))) (some (.d (.int n)))
    refine ⟨a6', a7', ?_⟩
    rw [List.map_cons, forD_cons']
    simp only [List.set]
    rw [kw_step, forK_nx, he]
noncomputable def khB : GS := (sSeq (sSet 2 (gCall p__law_pick (LF.gCons (gVar 0) (LF.gCons (gC (.int 7)) LF.gNil)))) (sSeq (sSet 3 (gCall p__law_value (LF.gCons (gVar 0) (LF.gCons (gVar 2) LF.gNil)))) (sSeq (sSet 4 (gRepr (gVar 3))) (sSeq (sSet 5 (gTupD (LF.gCons (gCall p_is_integer (LF.gCons (gVar 3) LF.gNil)) (LF.gCons (gCallK 1 p_is_number 0 1 [0] LF.gNil (LF.gCons (gVar 3) LF.gNil)) (LF.gCons (gCall p_is_quotient (LF.gCons (gVar 3) LF.gNil)) (LF.gCons (gCall p_is_order (LF.gCons (gVar 2) (LF.gCons (gVar 3) LF.gNil))) LF.gNil)))))) (sSeq (sSet 6 (gTupD (LF.gCons (gCall p__law_whole (LF.gCons (gVar 3) LF.gNil)) (LF.gCons (gCall p__law_count (LF.gCons (gVar 3) LF.gNil)) (LF.gCons (gCall p__law_fraction (LF.gCons (gVar 3) LF.gNil)) (LF.gCons (gCall p__law_each_once (LF.gCons (gVar 2) (LF.gCons (gVar 3) LF.gNil))) LF.gNil)))))) (sSeq (sIf (gOr (gNot (gB (gCall (p__law_same (16)) (LF.gCons (gVar 5) (LF.gCons (gVar 6) LF.gNil))))) (gB (g2 pNe (gRepr (gVar 3)) (gVar 4)))) (sRet (gC (.bool false))) sNil) (sFor (giSeq (gTupD (LF.gCons (gVar 2) (LF.gCons (g2 pAdd (gVar 2) (gC (.int 1))) (LF.gCons (g2 pPow (gC (.int 10)) (gC (.int 30))) LF.gNil))))) (ggName 7) kwB)))))))
theorem kh_step {rest st : Sto} (hb : Bx rest st) (x1 x2 x3 x4 x5 x6 x7 : Option A) : ∃ st' y2 y3 y4 y5 y6 y7, khB [some (.box 0), x1, x2, x3, x4, x5, x6, x7] st = .nx [some (.box 0), x1, y2, y3, y4, y5, y6, y7] st' ∧ Bx rest st' := by
  obtain ⟨r, s1, e1, l1, u1, b1⟩ := q_pick 7 (by decide) (by decide) hb
  obtain ⟨d, s2, e2, hd, b2⟩ := q_value' r l1 (by omega) b1
  have f1 := q_is_integer d s2
  have f2 := q_is_number d s2
  have f3 := q_is_quotient d s2
  have f4 := q_is_order r (by omega) d s2
  have g1 := q_whole d s2
  have g2' := q_count d s2
  have g3 := q_fraction d hd.small s2
  have g4 := q_each_once' r l1 (by omega) d s2
  obtain ⟨y6, y7, hl⟩ := kw_loop d (some (.box 0)) x1 (some (.d (.int r))) (some (.d (.str d.shown))) (some (.d (.tuple [.bool (isIntD d), .bool (isNumD d), .bool (isQuoD d), .bool (isOrdD r d)]))) s2 [r, r + 1, 10 ^ 30] (some (.d (.tuple [.bool (isIntD d), .bool (isNumD d), .bool (isQuoD d), .bool (isOrdD r d)]))) x7
  refine ⟨s2, some (.d (.int r)), some (.d d), some (.d (.str d.shown)), some (.d (.tuple [.bool (isIntD d), .bool (isNumD d), .bool (isQuoD d), .bool (isOrdD r d)])), y6, y7, ?_, b2⟩
  unfold khB
  rw [seq_nx (env' := [some (.box 0), x1, some (.d (.int r)), x3, x4, x5, x6, x7]) (st' := s1) (set_ok ((call2' rfl rfl).trans e1))]
  rw [seq_nx (env' := [some (.box 0), x1, some (.d (.int r)), some (.d d), x4, x5, x6, x7]) (st' := s2) (set_ok ((call2' rfl rfl).trans e2))]
  rw [seq_nx (env' := [some (.box 0), x1, some (.d (.int r)), some (.d d), some (.d (.str d.shown)), x5, x6, x7]) (st' := s2) (set_ok (q_repr hd (by omega) (by omega) rfl))]
  rw [seq_nx (env' := [some (.box 0), x1, some (.d (.int r)), some (.d d), some (.d (.str d.shown)), some (.d (.tuple [.bool (isIntD d), .bool (isNumD d), .bool (isQuoD d), .bool (isOrdD r d)])), x6, x7]) (st' := s2) (set_ok (by simp [gK, pick, f1, f2, f3, f4]))]
  rw [seq_nx (env' := [some (.box 0), x1, some (.d (.int r)), some (.d d), some (.d (.str d.shown)), some (.d (.tuple [.bool (isIntD d), .bool (isNumD d), .bool (isQuoD d), .bool (isOrdD r d)])), some (.d (.tuple [.bool (isIntD d), .bool (isNumD d), .bool (isQuoD d), .bool (isOrdD r d)])), x7]) (st' := s2) (set_ok (by simp [g1, g2', g3, g4]))]
  rw [seq_nx (b_nx (or_ff (st1 := s2) (st2 := s2) (not_same (d := .tuple [.bool (isIntD d), .bool (isNumD d), .bool (isQuoD d), .bool (isOrdD r d)]) (st1 := s2) (st2 := s2) rfl (by simp [PyData.depth, PyData.depthAll]) rfl rfl) (same_text hd (q_repr hd (by omega) (by omega) rfl) rfl)))]
  rw [← hl]
  simp [cPow]
theorem kh_loop {rest : Sto} : ∀ (ks : List PyData) (st : Sto) (_ : Bx rest st) (x1 x2 x3 x4 x5 x6 x7 : Option A), ∃ st' y1 y2 y3 y4 y5 y6 y7, forD (fun _ => True) (ggName 1) khB ks [some (.box 0), x1, x2, x3, x4, x5, x6, x7] st = .nx [some (.box 0), y1, y2, y3, y4, y5, y6, y7] st' ∧ Bx rest st'
  | [], st, hb, x1, x2, x3, x4, x5, x6, x7 => ⟨st, x1, x2, x3, x4, x5, x6, x7, by simp, hb⟩
  | k :: ks, st, hb, x1, x2, x3, x4, x5, x6, x7 => by
    obtain ⟨s1, y2, y3, y4, y5, y6, y7, e1, b1⟩ := kh_step hb (some (.d k)) x2 x3 x4 x5 x6 x7
    obtain ⟨s2, z1, z2, z3, z4, z5, z6, z7, e2, b2⟩ := kh_loop ks s1 b1 (some (.d k)) y2 y3 y4 y5 y6 y7
    refine ⟨s2, z1, z2, z3, z4, z5, z6, z7, ?_, b2⟩
    rw [forD_cons']
    simp only [List.set]
    rw [e1, forK_nx, e2]
theorem q_kinds_hold {rest st : Sto} (hb : Bx rest st) : ∃ st', p__law_kinds_hold [.box 0] st = .ok (.d (.bool true)) st' ∧ Bx rest st' := by
  obtain ⟨s1, y1, y2, y3, y4, y5, y6, y7, e1, b1⟩ := kh_loop ((rangeI 3).map .int) st hb none none none none none none none
  have er := ra 3 (by decide) [some (.box 0), none, none, none, none, none, none, none] st (gC (.int 3)) rfl
  have c1 : sFor (giR1 (gC (.int 3))) (ggName 1) khB [some (.box 0), none, none, none, none, none, none, none] st = .nx [some (.box 0), y1, y2, y3, y4, y5, y6, y7] s1 := by
    unfold sFor
    rw [er, R.bindO_ok]
    exact e1
  unfold khB kwB at c1
  have fin : b__law_kinds_hold [some (.box 0), none, none, none, none, none, none, none] st = .rt (.d (.bool true)) s1 := by
    unfold b__law_kinds_hold
    rw [seq_nx c1]
    rfl
  have y := run_rt (m := 8) (b := b__law_kinds_hold) (as := [.box 0]) fin
  rw [hb.len, b1.take] at y
  exact ⟨s1, y, b1⟩
end G
set_option Elab.async false
set_option linter.all false
set_option maxRecDepth 100000
set_option maxHeartbeats 2000000
namespace G
open PySem LF
/-! drawn houses: limits -/
abbrev HB : Nat := 10 ^ 58
theorem lt_HB {i : Int} (h1 : -10 ^ 55 < i) (h2 : i < 10 ^ 55) : i.natAbs < HB := by
  have e : HB = 10 ^ 58 := rfl
  omega
theorem hb_int {i : Int} (h1 : -10 ^ 55 < i) (h2 : i < 10 ^ 55) : Gd HB 0 1 (.int i) := ⟨by simpa [fine] using lt_HB h1 h2, by simp [PyData.depth], by simp [cnt]⟩
theorem hb_words : fine HB (.str "limits") = true ∧ fine HB (.str "slots") = true ∧ fine HB (.str "web") = true ∧ fine HB (.str "rows") = true ∧ fine HB (.str "table") = true ∧ fine HB (.str "beside") = true := by decide +kernel
theorem hb_str {s : Str} (h : fine HB (.str s) = true) : Gd HB 0 1 (.str s) := ⟨h, by simp [PyData.depth], by simp [cnt]⟩
theorem hb_nb {n : Int} (hn : n ≤ 10 ^ 50) {d : PyData} (h : Nb n d) : Gd HB 0 1 d := by
  cases d with
  | int i => exact hb_int (by have := h.1; omega) (by have := h.2; omega)
  | _ => exact h.elim
theorem hb_tup {k w : Nat} {ds : List PyData} (h : ∀ d ∈ ds, Gd HB k w d) {W : Nat} (hW : w * ds.length + 1 ≤ W) : Gd HB (k + 1) W (.tuple ds) :=
  (Gd.mk_tup h).mono (Nat.le_refl _) (Nat.le_refl _) hW
/-- a house of three values -/
theorem hb_house {k w : Nat} {s : Str} {n : Int} {b : PyData} (hs : fine HB (.str s) = true) (h1 : -10 ^ 55 < n) (h2 : n < 10 ^ 55) (hb : Gd HB k w b) {W : Nat} (hW : w + 3 ≤ W) : Gd HB (k + 1) W (.tuple [.str s, .int n, b]) := by
  refine Gd.tup (fun x hx => ?_) ?_
  · simp only [List.mem_cons, List.not_mem_nil, or_false] at hx
    rcases hx with rfl | rfl | rfl
    · exact ⟨hs, by simp [PyData.depth]⟩
    · exact ⟨(hb_int h1 h2).f, by simp [PyData.depth]⟩
    · exact ⟨hb.f, hb.dp⟩
  · have := hb.ct
    simp only [cntAll, cnt]
    omega
theorem q_part' (m : Int) (h0 : 0 ≤ m) (hm : m ≤ 13) {rest st : Sto} (hb : Bx rest st) :
    ∃ (xs : List Int) (st' : Sto), p__law_part [.box 0, .d (.int m)] st = .ok (.d (.tuple (xs.map .int))) st' ∧ xs.length ≤ m.toNat ∧ (∀ x ∈ xs, 0 ≤ x ∧ x < m) ∧ Bx rest st' := by
  obtain ⟨j, rfl⟩ := Int.eq_ofNat_of_zero_le h0
  obtain ⟨n, s, e, l, u, b⟩ := q_part j (by omega) hb
  exact ⟨lotOf j n, s, e, by rw [Int.toNat_natCast]; exact lotOf_len j n, fun x hx => lotOf_mem hx, b⟩
theorem comp_chk {chk : Sto → Prop} {i : Nat} {test : GT} {elt : GE} {wenv : LF.Env} {st : Sto} (hc : chk st) (c : PyData → Bool) (e : PyData → PyData) : ∀ (ds : List PyData) (_ : ∀ d ∈ ds, test (wenv.set i (some (.d d))) st = .ok (c d) st) (_ : ∀ d ∈ ds, c d = true → elt (wenv.set i (some (.d d))) st = .ok (.d (e d)) st),
    compD chk (ggName i) test elt wenv ds st = .ok ((ds.filter c).map e) st
  | [], _, _ => by simp [compD, hc]
  | d :: r, ht, he => by
    have h1 := ht d (by simp)
    have ih := comp_chk hc c e r (fun x hx => ht x (by simp [hx])) (fun x hx => he x (by simp [hx]))
    cases q : c d with
    | true =>
      have h2 := he d (by simp) q
      simp [compD, hc, h1, h2, q, ih]
    | false => simp [compD, hc, h1, q, ih]
def LR (d : PyData) : Prop := ∃ (xs : List Int) (c : Int), d = .tuple [.tuple (xs.map .int), .int c] ∧ xs.length ≤ 4 ∧ (∀ x ∈ xs, 0 ≤ x ∧ x < 100) ∧ 0 ≤ c ∧ c ≤ 10 ^ 30
theorem LR.gd {d : PyData} (h : LR d) : Gd HB 2 7 d := by
  obtain ⟨xs, c, rfl, h1, h2, h3, h4⟩ := h
  have hl : Gd HB 1 5 (.tuple (xs.map .int)) := hb_tup (k := 0) (w := 1) (fun d hd => by
    rw [List.mem_map] at hd
    obtain ⟨i, hi, rfl⟩ := hd
    have := h2 i hi
    exact hb_int (by omega) (by omega)) (by rw [List.length_map]; omega)
  refine Gd.tup (fun x hx => ?_) ?_
  · simp only [List.mem_cons, List.not_mem_nil, or_false] at hx
    rcases hx with rfl | rfl
    · exact ⟨hl.f, hl.dp⟩
    · exact ⟨(hb_int (by omega) (by omega)).f, by simp [PyData.depth]⟩
  · have := hl.ct
    simp only [cntAll, cnt] at this ⊢
    omega
theorem and_t {a b : GT} {env : LF.Env} {st st1 : Sto} (h1 : a env st = .ok true st1) : gAnd a b env st = b env st1 := by
  unfold gAnd
  rw [h1, R.bind_ok, if_pos rfl]
theorem and_f {a b : GT} {env : LF.Env} {st st1 : Sto} (h1 : a env st = .ok false st1) : gAnd a b env st = .ok false st1 := by
  unfold gAnd
  rw [h1, R.bind_ok, if_neg (by simp)]
theorem or_t {a b : GT} {env : LF.Env} {st st1 : Sto} (h1 : a env st = .ok true st1) : gOr a b env st = .ok true st1 := by
  unfold gOr
  rw [h1, R.bind_ok, if_pos rfl]
theorem or_f {a b : GT} {env : LF.Env} {st st1 : Sto} (h1 : a env st = .ok false st1) : gOr a b env st = b env st1 := by
  unfold gOr
  rw [h1, R.bind_ok, if_neg (by simp)]
noncomputable def lmB : GS := (sSeq (sSet 5 (gTupD (LF.gCons (gCall p__law_part (LF.gCons (gVar 0) (LF.gCons (gVar 1) LF.gNil))) (LF.gCons (g2 pIx (gLstD (LF.gCons (gC (.int 0)) (LF.gCons (gC (.int 1)) (LF.gCons (gC (.int 2)) (LF.gCons (gC (.int 3)) (LF.gCons (g2 pPow (gC (.int 10)) (gC (.int 30))) LF.gNil)))))) (gCall p__law_pick (LF.gCons (gVar 0) (LF.gCons (gC (.int 5)) LF.gNil)))) LF.gNil)))) (sSeq (sSet 6 (gComp (giSeq (gVar 2)) 7 (gNot (gB (gCall p__law_apart (LF.gCons (g2 pIx (gVar 7) (gC (.int 0))) (LF.gCons (g2 pIx (gVar 5) (gC (.int 0))) LF.gNil))))) (gVar 7))) (sIf (gOr (gAnd (gB (g2 pGt (gB1 pLen (LF.gCons (g2 pIx (gVar 5) (gC (.int 0))) LF.gNil)) (gC (.int 0)))) (gOr (gB (gVar 3)) (gB (g2 pEq (gB1 pLen (LF.gCons (gVar 6) LF.gNil)) (gC (.int 0)))))) (gB (g2 pEq (gCall p__law_pick (LF.gCons (gVar 0) (LF.gCons (gC (.int 16)) LF.gNil))) (gC (.int 15))))) (sApp (gVar 2) (gVar 5)) sNil)))
theorem caps5 (r : Int) (l : 0 ≤ r) (u : r < 5) : ∃ c : Int, 0 ≤ c ∧ c ≤ 10 ^ 30 ∧ L2.atI [PyData.int 0, .int 1, .int 2, .int 3, .int 1000000000000000000000000000000] r = some (.int c) := by
  have h : r = 0 ∨ r = 1 ∨ r = 2 ∨ r = 3 ∨ r = 4 := by omega
  rcases h with rfl | rfl | rfl | rfl | rfl
  · exact ⟨0, by decide, by decide, rfl⟩
  · exact ⟨1, by decide, by decide, rfl⟩
  · exact ⟨2, by decide, by decide, rfl⟩
  · exact ⟨3, by decide, by decide, rfl⟩
  · exact ⟨1000000000000000000000000000000, by decide, by decide, rfl⟩
theorem lm_step {rest st : Sto} {rows : List PyData} {m : Int} (h0 : 0 ≤ m) (hm : m ≤ 4) (hb : Bx (rest ++ [rows]) st) (hl : rows.length ≤ 100) (hr : ∀ d ∈ rows, LR d) (wild : Bool) (k x5 x6 x7 : Option A) :
    ∃ st' rows' y5 y6, lmB [some (.box 0), some (.d (.int m)), some (.box (rest.length + 1)), some (.d (.bool wild)), k, x5, x6, x7] st = .nx [some (.box 0), some (.d (.int m)), some (.box (rest.length + 1)), some (.d (.bool wild)), k, y5, y6, x7] st' ∧ Bx (rest ++ [rows']) st' ∧ rows'.length ≤ rows.length + 1 ∧ ∀ d ∈ rows', LR d := by
  obtain ⟨xs, s1, e1, l1, p1, b1⟩ := q_part' m h0 (by omega) hb
  obtain ⟨r2, s2, e2, l2, u2, b2⟩ := q_pick 5 (by decide) (by decide) b1
  obtain ⟨c, hc0, hc1, ec⟩ := caps5 r2 l2 u2
  have hLR : LR (.tuple [.tuple (xs.map .int), .int c]) := ⟨xs, c, rfl, by omega, fun x hx => by have := p1 x hx; omega, hc0, hc1⟩
  have g := bx1_get b2
  have c1 : sSet 5 (gTupD (LF.gCons (gCall p__law_part (LF.gCons (gVar 0) (LF.gCons (gVar 1) LF.gNil))) (LF.gCons (g2 pIx (gLstD (LF.gCons (gC (.int 0)) (LF.gCons (gC (.int 1)) (LF.gCons (gC (.int 2)) (LF.gCons (gC (.int 3)) (LF.gCons (g2 pPow (gC (.int 10)) (gC (.int 30))) LF.gNil)))))) (gCall p__law_pick (LF.gCons (gVar 0) (LF.gCons (gC (.int 5)) LF.gNil)))) LF.gNil))) [some (.box 0), some (.d (.int m)), some (.box (rest.length + 1)), some (.d (.bool wild)), k, x5, x6, x7] st = .nx [some (.box 0), some (.d (.int m)), some (.box (rest.length + 1)), some (.d (.bool wild)), k, some (.d (.tuple [.tuple (xs.map .int), .int c])), x6, x7] s2 := by
    simp [e1, e2, ec, cPow]
  have ec2 := comp_chk (chk := fun st' => st'[rest.length + 1]? = some rows) (i := 7) (test := gNot (gB (gCall p__law_apart (LF.gCons (g2 pIx (gVar 7) (gC (.int 0))) (LF.gCons (g2 pIx (gVar 5) (gC (.int 0))) LF.gNil))))) (elt := gVar 7) (wenv := [some (.box 0), some (.d (.int m)), some (.box (rest.length + 1)), some (.d (.bool wild)), k, some (.d (.tuple [.tuple (xs.map .int), .int c])), x6, none]) (st := s2) g (fun d => !apartL (lotI d) xs) (fun d => d) rows (fun d hd => by
    obtain ⟨ys, c', rfl, q1, q2, q3, q4⟩ := hr d hd
    have e := q_apart ys xs (by unfold bigN; omega) s2
    have ei : lotI (.tuple [.tuple (ys.map .int), .int c']) = ys := intsB_map ys
    rw [ei]
    simp [at2, e]) (fun d _ _ => rfl)
  rw [List.map_id'] at ec2
  have hz : rows.length ≤ bigN := by unfold bigN; omega
  have c2 : sSet 6 (gComp (giSeq (gVar 2)) 7 (gNot (gB (gCall p__law_apart (LF.gCons (g2 pIx (gVar 7) (gC (.int 0))) (LF.gCons (g2 pIx (gVar 5) (gC (.int 0))) LF.gNil))))) (gVar 7)) [some (.box 0), some (.d (.int m)), some (.box (rest.length + 1)), some (.d (.bool wild)), k, some (.d (.tuple [.tuple (xs.map .int), .int c])), x6, x7] s2 = .nx [some (.box 0), some (.d (.int m)), some (.box (rest.length + 1)), some (.d (.bool wild)), k, some (.d (.tuple [.tuple (xs.map .int), .int c])), some (.d (.list (rows.filter fun d => !apartL (lotI d) xs))), x7] s2 := by
    refine set_ok ?_
    have eg : giSeq (gVar 2) [some (.box 0), some (.d (.int m)), some (.box (rest.length + 1)), some (.d (.bool wild)), k, some (.d (.tuple [.tuple (xs.map .int), .int c])), x6, x7] s2 = .ok ⟨rows, fun st' => st'[rest.length + 1]? = some rows⟩ s2 := by
      simp [g]
    unfold gComp
    rw [eg, R.bind_ok]
    dsimp only
    rw [if_pos hz]
    have ec3 := ec2
    simp only [List.set] at ec3 ⊢
    rw [ec3]
  clear ec2
  generalize (rows.filter fun d => !apartL (lotI d) xs) = near at c2
  obtain ⟨r3, s3, e3, l3, u3, b3⟩ := q_pick 16 (by decide) (by decide) b2
  have hcond : ∃ b st', gOr (gAnd (gB (g2 pGt (gB1 pLen (LF.gCons (g2 pIx (gVar 5) (gC (.int 0))) LF.gNil)) (gC (.int 0)))) (gOr (gB (gVar 3)) (gB (g2 pEq (gB1 pLen (LF.gCons (gVar 6) LF.gNil)) (gC (.int 0)))))) (gB (g2 pEq (gCall p__law_pick (LF.gCons (gVar 0) (LF.gCons (gC (.int 16)) LF.gNil))) (gC (.int 15)))) [some (.box 0), some (.d (.int m)), some (.box (rest.length + 1)), some (.d (.bool wild)), k, some (.d (.tuple [.tuple (xs.map .int), .int c])), some (.d (.list near)), x7] s2 = .ok b st' ∧ Bx (rest ++ [rows]) st' := by
    have t1 : gB (g2 pGt (gB1 pLen (LF.gCons (g2 pIx (gVar 5) (gC (.int 0))) LF.gNil)) (gC (.int 0))) [some (.box 0), some (.d (.int m)), some (.box (rest.length + 1)), some (.d (.bool wild)), k, some (.d (.tuple [.tuple (xs.map .int), .int c])), some (.d (.list near)), x7] s2 = .ok (decide (0 < (xs.length : Int))) s2 := by
      simp [at2]
    have t2 : ∃ b, gOr (gB (gVar 3)) (gB (g2 pEq (gB1 pLen (LF.gCons (gVar 6) LF.gNil)) (gC (.int 0)))) [some (.box 0), some (.d (.int m)), some (.box (rest.length + 1)), some (.d (.bool wild)), k, some (.d (.tuple [.tuple (xs.map .int), .int c])), some (.d (.list near)), x7] s2 = .ok b s2 := by
      cases wild with
      | true => exact ⟨true, by simp⟩
      | false => exact ⟨decide ((near.length : Int) = 0), by simp [eqv_int]⟩
    have t3 : gB (g2 pEq (gCall p__law_pick (LF.gCons (gVar 0) (LF.gCons (gC (.int 16)) LF.gNil))) (gC (.int 15))) [some (.box 0), some (.d (.int m)), some (.box (rest.length + 1)), some (.d (.bool wild)), k, some (.d (.tuple [.tuple (xs.map .int), .int c])), some (.d (.list near)), x7] s2 = .ok (decide (r3 = 15)) s3 := by
      simp [e3, eqv_int]
    obtain ⟨b, t2⟩ := t2
    cases hq : decide (0 < (xs.length : Int)) with
    | false =>
      rw [hq] at t1
      exact ⟨_, s3, (or_f (and_f t1)).trans t3, b3⟩
    | true =>
      rw [hq] at t1
      cases b with
      | true => exact ⟨true, s2, or_t ((and_t t1).trans t2), b2⟩
      | false => exact ⟨_, s3, (or_f ((and_t t1).trans t2)).trans t3, b3⟩
  obtain ⟨b, s4, ecd, b4⟩ := hcond
  have g4 := bx1_get b4
  unfold lmB
  cases b with
  | false =>
    refine ⟨s4, rows, some (.d (.tuple [.tuple (xs.map .int), .int c])), some (.d (.list near)), ?_, b4, by omega, hr⟩
    rw [seq_nx c1, seq_nx c2]
    exact b_nx ecd
  | true =>
    have hz2 : rows.length < bigN := by unfold bigN; omega
    refine ⟨_, rows ++ [.tuple [.tuple (xs.map .int), .int c]], some (.d (.tuple [.tuple (xs.map .int), .int c])), some (.d (.list near)), ?_, bx1_set b4 _, by simp, ?_⟩
    · rw [seq_nx c1, seq_nx c2, if_ff ecd]
      simp [g4, hz2]
    · intro d hd
      rw [List.mem_append, List.mem_singleton] at hd
      rcases hd with hd | rfl
      · exact hr d hd
      · exact hLR
theorem lm_loop {rest : Sto} {m : Int} (h0 : 0 ≤ m) (hm : m ≤ 4) (wild : Bool) : ∀ (ks : List PyData) (st : Sto) (rows : List PyData) (_ : Bx (rest ++ [rows]) st) (_ : rows.length + ks.length ≤ 100) (_ : ∀ d ∈ rows, LR d) (x4 x5 x6 x7 : Option A),
    ∃ st' rows' y4 y5 y6, forD (fun _ => True) (ggName 4) lmB ks [some (.box 0), some (.d (.int m)), some (.box (rest.length + 1)), some (.d (.bool wild)), x4, x5, x6, x7] st = .nx [some (.box 0), some (.d (.int m)), some (.box (rest.length + 1)), some (.d (.bool wild)), y4, y5, y6, x7] st' ∧ Bx (rest ++ [rows']) st' ∧ rows'.length ≤ rows.length + ks.length ∧ ∀ d ∈ rows', LR d
  | [], st, rows, hb, hl, hr, x4, x5, x6, x7 => ⟨st, rows, x4, x5, x6, by simp, hb, by simp, hr⟩
  | k :: ks, st, rows, hb, hl, hr, x4, x5, x6, x7 => by
    rw [List.length_cons] at hl
    obtain ⟨s1, rows1, y5, y6, e1, b1, l1, p1⟩ := lm_step h0 hm hb (by omega) hr wild (some (.d k)) x5 x6 x7
    obtain ⟨s2, rows2, z4, z5, z6, e2, b2, l2, p2⟩ := lm_loop h0 hm wild ks s1 rows1 b1 (by omega) p1 (some (.d k)) y5 y6 x7
    refine ⟨s2, rows2, z4, z5, z6, ?_, b2, by rw [List.length_cons]; omega, p2⟩
    rw [forD_cons']
    simp only [List.set]
    rw [e1, forK_nx, e2]
theorem nums5 (r : Int) (l : 0 ≤ r) (u : r < 5) : ∃ n : Nat, n ≤ 5 ∧ L2.atI [PyData.int 3, .int 2, .int 4, .int 5, .int 0] r = some (.int (n : Nat)) := by
  have h : r = 0 ∨ r = 1 ∨ r = 2 ∨ r = 3 ∨ r = 4 := by omega
  rcases h with rfl | rfl | rfl | rfl | rfl
  · exact ⟨3, by decide, rfl⟩
  · exact ⟨2, by decide, rfl⟩
  · exact ⟨4, by decide, rfl⟩
  · exact ⟨5, by decide, rfl⟩
  · exact ⟨0, by decide, rfl⟩
theorem q_limits (m : Int) (h0 : 0 ≤ m) (hm : m ≤ 4) {rest st : Sto} (hb : Bx rest st) :
    ∃ d st', p__law_limits [.box 0, .d (.int m)] st = .ok (.d d) st' ∧ Gd HB 4 39 d ∧ Bx rest st' := by
  have hlen := hb.len
  have b1 := bx_push hb []
  obtain ⟨r2, s2, e2, l2, u2, b2⟩ := q_pick 6 (by decide) (by decide) b1
  obtain ⟨r3, s3, e3, l3, u3, b3⟩ := q_pick 5 (by decide) (by decide) b2
  obtain ⟨n, hn, en⟩ := nums5 r3 l3 u3
  obtain ⟨s4, rows, y4, y5, y6, e4, b4, l4, p4⟩ := lm_loop h0 hm (decide (1 < r2)) ((rangeI n).map .int) s3 [] b3 (by
    rw [List.length_map, rangeI_length, List.length_nil]; omega) (by simp) none none none none
  rw [List.length_map, rangeI_length, List.length_nil, Nat.zero_add] at l4
  have c1 : sBox 2 LF.gNil [some (.box 0), some (.d (.int m)), none, none, none, none, none, none] st = .nx [some (.box 0), some (.d (.int m)), some (.box (rest.length + 1)), none, none, none, none, none] (st ++ [[]]) := by
    simp [hlen]
  have c2 : sSet 3 (g2 pGt (gCall p__law_pick (LF.gCons (gVar 0) (LF.gCons (gC (.int 6)) LF.gNil))) (gC (.int 1))) [some (.box 0), some (.d (.int m)), some (.box (rest.length + 1)), none, none, none, none, none] (st ++ [[]]) = .nx [some (.box 0), some (.d (.int m)), some (.box (rest.length + 1)), some (.d (.bool (decide (1 < r2)))), none, none, none, none] s2 := by
    simp [e2]
  have eg : g2 pIx (gLstD (LF.gCons (gC (.int 3)) (LF.gCons (gC (.int 2)) (LF.gCons (gC (.int 4)) (LF.gCons (gC (.int 5)) (LF.gCons (gC (.int 0)) LF.gNil)))))) (gCall p__law_pick (LF.gCons (gVar 0) (LF.gCons (gC (.int 5)) LF.gNil))) [some (.box 0), some (.d (.int m)), some (.box (rest.length + 1)), some (.d (.bool (decide (1 < r2)))), none, none, none, none] s2 = .ok (.d (.int (n : Nat))) s3 := by
    simp [e3, en]
  have er := ra' n (by omega) _ _ _ _ eg
  have c3 : sFor (giR1 (g2 pIx (gLstD (LF.gCons (gC (.int 3)) (LF.gCons (gC (.int 2)) (LF.gCons (gC (.int 4)) (LF.gCons (gC (.int 5)) (LF.gCons (gC (.int 0)) LF.gNil)))))) (gCall p__law_pick (LF.gCons (gVar 0) (LF.gCons (gC (.int 5)) LF.gNil))))) (ggName 4) lmB [some (.box 0), some (.d (.int m)), some (.box (rest.length + 1)), some (.d (.bool (decide (1 < r2)))), none, none, none, none] s2 = .nx [some (.box 0), some (.d (.int m)), some (.box (rest.length + 1)), some (.d (.bool (decide (1 < r2)))), y4, y5, y6, none] s4 := by
    unfold sFor
    rw [er, R.bindO_ok]
    exact e4
  unfold lmB at c3
  have g4 := bx1_get b4
  have c4 : sRet (gTupD (LF.gCons (gC (.str "limits")) (LF.gCons (gVar 1) (LF.gCons (gB1 pTup (LF.gCons (gVar 2) LF.gNil)) LF.gNil)))) [some (.box 0), some (.d (.int m)), some (.box (rest.length + 1)), some (.d (.bool (decide (1 < r2)))), y4, y5, y6, none] s4 = .rt (.d (.tuple [.str "limits", .int m, .tuple rows])) s4 := by
    simp [g4]
  have fin : b__law_limits [some (.box 0), some (.d (.int m)), none, none, none, none, none, none] st = .rt (.d (.tuple [.str "limits", .int m, .tuple rows])) s4 := by
    unfold b__law_limits
    rw [seq_nx c1, seq_nx c2, seq_nx c3]
    exact c4
  have y := run_rt (m := 8) (b := b__law_limits) (as := [.box 0, .d (.int m)]) fin
  rw [hlen] at y
  refine ⟨_, _, y, ?_, bx_cut b4⟩
  exact hb_house hb_words.1 (by omega) (by omega) (hb_tup (k := 2) (w := 7) (W := 36) (fun d hd => (p4 d hd).gd) (by omega)) (by omega)
end G
set_option Elab.async false
set_option linter.all false
set_option maxRecDepth 100000
set_option maxHeartbeats 2000000
namespace G
open PySem LF
/-! drawn houses: tables of ranks -/
theorem band_le {x : Int} (y : Int) (hx : 0 ≤ x) : 0 ≤ Builtin.bitAnd x y ∧ Builtin.bitAnd x y ≤ x := by
  rw [PyProof.Rows.bitAnd_comm]
  exact PyProof.Rows.bitAnd_range y hx
theorem gBitE {i : Nat} {env : LF.Env} {st : Sto} {g : GE} {n k : Int} (hg : g env st = .ok (.d (.int n)) st) (hi : env[i]? = some (some (.d (.int k)))) (hn : 0 ≤ n) (hk : 0 ≤ k) :
    gTru (g2 pBand (g2 pShr g (gVar i)) (gC (.int 1))) env st = .ok (hasBit n k) st := by
  have h1 : 0 ≤ n / 2 ^ k.toNat := Int.ediv_nonneg hn (Int.le_of_lt (Int.pow_pos (by decide)))
  simp [hg, hi, hk, and_one h1, hasBit]
theorem len_comp {i : Nat} {env : LF.Env} {st : Sto} {g e : GE} (m : Nat) (hm : m ≤ 1000000) (hg : g env st = .ok (.d (.int (m : Nat))) st) (hi : i < env.length) {n : Int} (hn : 0 ≤ n) (he : ∀ x : Option A, e ((env.set i none).set i x) st = .ok (.d (.int n)) st) :
    ∃ c : Nat, c ≤ m ∧ gB1 pLen (LF.gCons (gComp (giR1 g) i (gTru (g2 pBand (g2 pShr e (gVar i)) (gC (.int 1)))) (gVar i)) LF.gNil) env st = .ok (.d (.int (c : Nat))) st := by
  have h2 : ∀ x : Option A, ((env.set i none).set i x)[i]? = some x := fun x => List.getElem?_set_self (by rw [List.length_set]; exact hi)
  have ec := comp_range (i := i) (test := gTru (g2 pBand (g2 pShr e (gVar i)) (gC (.int 1)))) (elt := gVar i) (env := env) (st := st) (g := g) m hm hg (hasBit n) (fun k => .int k) (fun k hk => gBitE (he _) (h2 _) hn (mem_rangeI.mp hk).1) (fun k _ _ => by
    unfold gVar
    rw [h2])
  refine ⟨((rangeI m).filter (hasBit n)).length, ?_, ?_⟩
  · have : ((rangeI m).filter (hasBit n)).length ≤ (rangeI m).length := List.length_filter_le ..
    rwa [rangeI_length] at this
  · rw [gB1_one, ec]
    simp
theorem g2_ok {p : A → A → Sto → Option PyData} {a b : GE} {env : LF.Env} {st st1 st2 : Sto} {x y : A} {d : PyData} (h1 : a env st = .ok x st1) (h2 : b env st1 = .ok y st2) (h3 : p x y st2 = some d) : g2 p a b env st = .ok (.d d) st2 := by
  unfold g2
  rw [h1, R.bind_ok, h2, R.bind_ok, h3]
  rfl
def RkD (B : Int) (d : PyData) : Prop := ∃ i : Int, d = .int i ∧ 0 ≤ i ∧ i ≤ B
noncomputable def tbB : GS := (sSeq (sSet 8 (gB1 pLen (LF.gCons (gComp (giR1 (gVar 1)) 10 (gTru (g2 pBand (g2 pShr (g2 pBand (gVar 6) (gVar 2)) (gVar 10)) (gC (.int 1)))) (gVar 10)) LF.gNil))) (sSeq (sSet 9 (gB1 pLen (LF.gCons (gComp (giR1 (gVar 1)) 10 (gTru (g2 pBand (g2 pShr (g2 pSub (g2 pBand (gVar 6) (gVar 3)) (g2 pBand (g2 pBand (gVar 6) (gVar 3)) (gVar 2))) (gVar 10)) (gC (.int 1)))) (gVar 10)) LF.gNil))) (sApp (gVar 5) (g2 pAdd (gB1 pMin2 (LF.gCons (gVar 8) (LF.gCons (g2 pIx (gVar 4) (gC (.int 0))) LF.gNil))) (gB1 pMin2 (LF.gCons (gVar 9) (LF.gCons (g2 pIx (gVar 4) (gC (.int 1))) LF.gNil)))))))
theorem tb_step {rest st : Sto} {rs : List PyData} (m : Nat) (hm : m ≤ 4) (a b c0 c1 k : Int) (hc0 : 0 ≤ c0 ∧ c0 ≤ 10) (hc1 : 0 ≤ c1 ∧ c1 ≤ 10) (hk : 0 ≤ k) (hb : Bx (rest ++ [rs]) st) (hl : rs.length ≤ 100) (hr : ∀ d ∈ rs, RkD 100 d) (x7 x8 x9 : Option A) :
    ∃ st' r y8 y9, tbB [some (.box 0), some (.d (.int (m : Nat))), some (.d (.int a)), some (.d (.int b)), some (.d (.tuple [.int c0, .int c1])), some (.box (rest.length + 1)), some (.d (.int k)), x7, x8, x9, none] st = .nx [some (.box 0), some (.d (.int (m : Nat))), some (.d (.int a)), some (.d (.int b)), some (.d (.tuple [.int c0, .int c1])), some (.box (rest.length + 1)), some (.d (.int k)), x7, y8, y9, none] st' ∧ Bx (rest ++ [rs ++ [r]]) st' ∧ RkD 100 r := by
  have g := bx1_get hb
  obtain ⟨n1, l1, e1⟩ := len_comp (i := 10) (env := [some (.box 0), some (.d (.int (m : Nat))), some (.d (.int a)), some (.d (.int b)), some (.d (.tuple [.int c0, .int c1])), some (.box (rest.length + 1)), some (.d (.int k)), x7, x8, x9, none]) (st := st) (g := gVar 1) (e := g2 pBand (gVar 6) (gVar 2)) m (by omega) rfl (by simp) (band_le a hk).1 (fun x => by simp)
  have h3 : 0 ≤ Builtin.bitAnd k b := (band_le b hk).1
  have h4 := band_le a h3
  obtain ⟨n2, l2, e2⟩ := len_comp (i := 10) (env := [some (.box 0), some (.d (.int (m : Nat))), some (.d (.int a)), some (.d (.int b)), some (.d (.tuple [.int c0, .int c1])), some (.box (rest.length + 1)), some (.d (.int k)), x7, some (.d (.int (n1 : Nat))), x9, none]) (st := st) (g := gVar 1) (e := g2 pSub (g2 pBand (gVar 6) (gVar 3)) (g2 pBand (g2 pBand (gVar 6) (gVar 3)) (gVar 2))) m (by omega) rfl (by simp) (n := Builtin.bitAnd k b - Builtin.bitAnd (Builtin.bitAnd k b) a) (by omega) (fun x => by simp)
  have hz : rs.length < bigN := by unfold bigN; omega
  refine ⟨_, .int ((if c0 < (n1 : Int) then c0 else (n1 : Int)) + (if c1 < (n2 : Int) then c1 else (n2 : Int))), some (.d (.int (n1 : Nat))), some (.d (.int (n2 : Nat))), ?_, bx1_set hb _, ⟨_, rfl, by split <;> split <;> omega, by split <;> split <;> omega⟩⟩
  unfold tbB
  rw [seq_nx (env' := [some (.box 0), some (.d (.int (m : Nat))), some (.d (.int a)), some (.d (.int b)), some (.d (.tuple [.int c0, .int c1])), some (.box (rest.length + 1)), some (.d (.int k)), x7, some (.d (.int (n1 : Nat))), x9, none]) (st' := st) (set_ok e1)]
  rw [seq_nx (env' := [some (.box 0), some (.d (.int (m : Nat))), some (.d (.int a)), some (.d (.int b)), some (.d (.tuple [.int c0, .int c1])), some (.box (rest.length + 1)), some (.d (.int k)), x7, some (.d (.int (n1 : Nat))), some (.d (.int (n2 : Nat))), none]) (st' := st) (set_ok e2)]
  simp [at2, g, hz]
theorem tb_loop {rest : Sto} (m : Nat) (hm : m ≤ 4) (a b c0 c1 : Int) (hc0 : 0 ≤ c0 ∧ c0 ≤ 10) (hc1 : 0 ≤ c1 ∧ c1 ≤ 10) : ∀ (ks : List Int) (_ : ∀ k ∈ ks, 0 ≤ k) (st : Sto) (rs : List PyData) (_ : Bx (rest ++ [rs]) st) (_ : rs.length + ks.length ≤ 100) (_ : ∀ d ∈ rs, RkD 100 d) (x6 x7 x8 x9 : Option A),
    ∃ st' rs' y6 y8 y9, forD (fun _ => True) (ggName 6) tbB (ks.map .int) [some (.box 0), some (.d (.int (m : Nat))), some (.d (.int a)), some (.d (.int b)), some (.d (.tuple [.int c0, .int c1])), some (.box (rest.length + 1)), x6, x7, x8, x9, none] st = .nx [some (.box 0), some (.d (.int (m : Nat))), some (.d (.int a)), some (.d (.int b)), some (.d (.tuple [.int c0, .int c1])), some (.box (rest.length + 1)), y6, x7, y8, y9, none] st' ∧ Bx (rest ++ [rs']) st' ∧ rs'.length = rs.length + ks.length ∧ ∀ d ∈ rs', RkD 100 d
  | [], _, st, rs, hb, hl, hr, x6, x7, x8, x9 => ⟨st, rs, x6, x8, x9, by simp, hb, by simp, hr⟩
  | k :: ks, hks, st, rs, hb, hl, hr, x6, x7, x8, x9 => by
    rw [List.length_cons] at hl
    obtain ⟨s1, r, y8, y9, e1, b1, p1⟩ := tb_step m hm a b c0 c1 k hc0 hc1 (hks k (by simp)) hb (by omega) hr x7 x8 x9
    obtain ⟨s2, rs2, z6, z8, z9, e2, b2, l2, p2⟩ := tb_loop m hm a b c0 c1 hc0 hc1 ks (fun k hk => hks k (by simp [hk])) s1 (rs ++ [r]) b1 (by rw [List.length_append, List.length_singleton]; omega) (fun d hd => by
      rw [List.mem_append, List.mem_singleton] at hd
      rcases hd with hd | rfl
      · exact hr d hd
      · exact p1) (some (.d (.int k))) x7 y8 y9
    refine ⟨s2, rs2, z6, z8, z9, ?_, b2, by rw [l2, List.length_append, List.length_singleton, List.length_cons]; omega, p2⟩
    rw [List.map_cons, forD_cons']
    simp only [List.set]
    rw [e1, forK_nx, e2]
theorem rk_at {rs : List PyData} (hr : ∀ d ∈ rs, RkD 100 d) {j : Int} (h0 : 0 ≤ j) (h1 : j < rs.length) : ∃ i : Int, L2.atI rs j = some (.int i) ∧ 0 ≤ i ∧ i ≤ 100 := by
  have hl : j.toNat < rs.length := by omega
  have ha := atI_nat (List.getElem?_eq_getElem hl)
  rw [show ((j.toNat : Nat) : Int) = j from by omega] at ha
  obtain ⟨i, e, h2, h3⟩ := hr _ (List.getElem_mem hl)
  exact ⟨i, by rw [ha, e], h2, h3⟩
theorem q_table (m : Nat) (hm : m ≤ 4) {rest st : Sto} (hb : Bx rest st) :
    ∃ d st', p__law_table [.box 0, .d (.int (m : Nat))] st = .ok (.d d) st' ∧ Gd HB 4 39 d ∧ Bx rest st' := by
  have hlen := hb.len
  have hp2 : 2 ^ m ≤ 2 ^ 4 := Nat.pow_le_pow_right (by decide) hm
  have hp1 : 0 < 2 ^ m := Nat.pow_pos (by decide)
  have hpc : (2 : Int) ^ m = ((2 ^ m : Nat) : Int) := by push_cast; rfl
  have hc : cPow 1 (m : Int) = true := by unfold cPow; simp; omega
  obtain ⟨a, s1, e1, l1, u1, b1⟩ := q_pick (2 ^ m) (by omega) (by omega) hb
  obtain ⟨b, s2, e2, l2, u2, b2⟩ := q_pick (2 ^ m) (by omega) (by omega) b1
  obtain ⟨c0, s3, e3, l3, u3, b3⟩ := q_pick 4 (by decide) (by decide) b2
  obtain ⟨c1, s4, e4, l4, u4, b4⟩ := q_pick 4 (by decide) (by decide) b3
  have b5 := bx_push b4 []
  obtain ⟨s5, rs, y6, y8, y9, e5, b6, l6, p6⟩ := tb_loop m hm a b c0 c1 (by omega) (by omega) (rangeI (2 ^ m)) (fun k hk => (mem_rangeI.mp hk).1) _ [] b5 (by
    rw [rangeI_length, List.length_nil]; omega) (by simp) none none none none
  rw [rangeI_length, List.length_nil, Nat.zero_add] at l6
  have k1 : ∀ x y z : Option A, sSet 2 (gCall p__law_pick (LF.gCons (gVar 0) (LF.gCons (g2 pShl (gC (.int 1)) (gVar 1)) LF.gNil))) [some (.box 0), some (.d (.int (m : Nat))), none, none, none, none, none, none, none, none, none] st = .nx [some (.box 0), some (.d (.int (m : Nat))), some (.d (.int a)), none, none, none, none, none, none, none, none] s1 := fun _ _ _ =>
    set_ok ((call2' (x := .box 0) (y := .d (.int (2 ^ m))) rfl (by simp [hc])).trans e1)
  have k2 : sSet 3 (gCall p__law_pick (LF.gCons (gVar 0) (LF.gCons (g2 pShl (gC (.int 1)) (gVar 1)) LF.gNil))) [some (.box 0), some (.d (.int (m : Nat))), some (.d (.int a)), none, none, none, none, none, none, none, none] s1 = .nx [some (.box 0), some (.d (.int (m : Nat))), some (.d (.int a)), some (.d (.int b)), none, none, none, none, none, none, none] s2 :=
    set_ok ((call2' (x := .box 0) (y := .d (.int (2 ^ m))) rfl (by simp [hc])).trans e2)
  have k3 : sSet 4 (gTupD (LF.gCons (gCall p__law_pick (LF.gCons (gVar 0) (LF.gCons (gC (.int 4)) LF.gNil))) (LF.gCons (gCall p__law_pick (LF.gCons (gVar 0) (LF.gCons (gC (.int 4)) LF.gNil))) LF.gNil))) [some (.box 0), some (.d (.int (m : Nat))), some (.d (.int a)), some (.d (.int b)), none, none, none, none, none, none, none] s2 = .nx [some (.box 0), some (.d (.int (m : Nat))), some (.d (.int a)), some (.d (.int b)), some (.d (.tuple [.int c0, .int c1])), none, none, none, none, none, none] s4 := by
    simp [e3, e4]
  have k4 : sBox 5 LF.gNil [some (.box 0), some (.d (.int (m : Nat))), some (.d (.int a)), some (.d (.int b)), some (.d (.tuple [.int c0, .int c1])), none, none, none, none, none, none] s4 = .nx [some (.box 0), some (.d (.int (m : Nat))), some (.d (.int a)), some (.d (.int b)), some (.d (.tuple [.int c0, .int c1])), some (.box (rest.length + 1)), none, none, none, none, none] (s4 ++ [[]]) := by
    simp [b4.len]
  have hsh : ∀ (x6 x7 x8 x9 : Option A) (st : Sto), g2 pShl (gC (.int 1)) (gVar 1) [some (.box 0), some (.d (.int (m : Nat))), some (.d (.int a)), some (.d (.int b)), some (.d (.tuple [.int c0, .int c1])), some (.box (rest.length + 1)), x6, x7, x8, x9, none] st = .ok (.d (.int ((2 ^ m : Nat) : Int))) st := fun x6 x7 x8 x9 st => by
    rw [← hpc]
    simp [hc]
  have k5 : sFor (giR1 (g2 pShl (gC (.int 1)) (gVar 1))) (ggName 6) tbB [some (.box 0), some (.d (.int (m : Nat))), some (.d (.int a)), some (.d (.int b)), some (.d (.tuple [.int c0, .int c1])), some (.box (rest.length + 1)), none, none, none, none, none] (s4 ++ [[]]) = .nx [some (.box 0), some (.d (.int (m : Nat))), some (.d (.int a)), some (.d (.int b)), some (.d (.tuple [.int c0, .int c1])), some (.box (rest.length + 1)), y6, none, y8, y9, none] s5 := by
    unfold sFor
    rw [ra (2 ^ m) (by omega) _ _ _ (hsh none none none none (s4 ++ [[]])), R.bindO_ok]
    exact e5
  unfold tbB at k5
  -- the masks
  have g6 := bx1_get b6
  have em1 := comp_range (i := 6) (test := gB (g2 pGt (g2 pBand (gVar 6) (g2 pSub (gVar 6) (gC (.int 1)))) (gC (.int 0)))) (elt := gVar 6) (env := [some (.box 0), some (.d (.int (m : Nat))), some (.d (.int a)), some (.d (.int b)), some (.d (.tuple [.int c0, .int c1])), some (.box (rest.length + 1)), y6, none, y8, y9, none]) (st := s5) (g := g2 pShl (gC (.int 1)) (gVar 1)) (2 ^ m) (by omega) (hsh _ _ _ _ s5) (fun k => decide (0 < Builtin.bitAnd k (k - 1))) (fun k => .int k) (fun k hk => by simp) (fun k _ _ => rfl)
  have k6 := set_ok (i := 7) em1
  have hM : ∀ k ∈ (rangeI (2 ^ m)).filter (fun k => decide (0 < Builtin.bitAnd k (k - 1))), 0 ≤ k ∧ k < ((2 ^ m : Nat) : Int) ∧ 0 < Builtin.bitAnd k (k - 1) := fun k hk => by
    rw [List.mem_filter, mem_rangeI, decide_eq_true_eq] at hk
    exact ⟨hk.1.1, hk.1.2, hk.2⟩
  have hMl : ((rangeI (2 ^ m)).filter (fun k => decide (0 < Builtin.bitAnd k (k - 1)))).length ≤ 2 ^ m := by
    have : ((rangeI (2 ^ m)).filter (fun k => decide (0 < Builtin.bitAnd k (k - 1)))).length ≤ (rangeI (2 ^ m)).length := List.length_filter_le ..
    rwa [rangeI_length] at this
  generalize (rangeI (2 ^ m)).filter (fun k => decide (0 < Builtin.bitAnd k (k - 1))) = ms at em1 k6 hM hMl
  have hix : ∀ k ∈ ms, ∃ i j : Int, L2.atI rs (Builtin.bitAnd (Builtin.bitAnd k (k - 1)) (Builtin.bitAnd k (k - 1) - 1)) = some (.int i) ∧ L2.atI rs k = some (.int j) := fun k hk => by
    obtain ⟨h0, h1, h2⟩ := hM k hk
    have h3 := band_le (k - 1) h0
    have h4 := band_le (Builtin.bitAnd k (k - 1) - 1) h3.1
    obtain ⟨i, hi, _⟩ := rk_at p6 h4.1 (by rw [l6]; omega)
    obtain ⟨j, hj, _⟩ := rk_at p6 h0 (by rw [l6]; omega)
    exact ⟨i, j, hi, hj⟩
  have em2 := comp_ints (i := 6) (test := gB (g2 pEq (g2 pIx (gVar 5) (g2 pBand (g2 pBand (gVar 6) (g2 pSub (gVar 6) (gC (.int 1)))) (g2 pSub (g2 pBand (gVar 6) (g2 pSub (gVar 6) (gC (.int 1)))) (gC (.int 1))))) (g2 pIx (gVar 5) (gVar 6)))) (elt := gVar 6) (wenv := [some (.box 0), some (.d (.int (m : Nat))), some (.d (.int a)), some (.d (.int b)), some (.d (.tuple [.int c0, .int c1])), some (.box (rest.length + 1)), none, some (.d (.list (ms.map .int))), y8, y9, none]) (st := s5) (fun k => decide (vOf rs (Builtin.bitAnd (Builtin.bitAnd k (k - 1)) (Builtin.bitAnd k (k - 1) - 1)) = vOf rs k)) (fun k => .int k) ms (fun k hk => by
    obtain ⟨i, j, hi, hj⟩ := hix k hk
    simp [g6, hi, hj, eqv_int, vOf]) (fun k _ _ => rfl)
  have k7 : sSet 7 (gComp (giSeq (gVar 7)) 6 (gB (g2 pEq (g2 pIx (gVar 5) (g2 pBand (g2 pBand (gVar 6) (g2 pSub (gVar 6) (gC (.int 1)))) (g2 pSub (g2 pBand (gVar 6) (g2 pSub (gVar 6) (gC (.int 1)))) (gC (.int 1))))) (g2 pIx (gVar 5) (gVar 6)))) (gVar 6)) [some (.box 0), some (.d (.int (m : Nat))), some (.d (.int a)), some (.d (.int b)), some (.d (.tuple [.int c0, .int c1])), some (.box (rest.length + 1)), y6, some (.d (.list (ms.map .int))), y8, y9, none] s5 = .nx [some (.box 0), some (.d (.int (m : Nat))), some (.d (.int a)), some (.d (.int b)), some (.d (.tuple [.int c0, .int c1])), some (.box (rest.length + 1)), y6, some (.d (.list ((ms.filter fun k => decide (vOf rs (Builtin.bitAnd (Builtin.bitAnd k (k - 1)) (Builtin.bitAnd k (k - 1) - 1)) = vOf rs k)).map .int))), y8, y9, none] s5 := by
    refine set_ok ?_
    have hz : (ms.map PyData.int).length ≤ bigN := by rw [List.length_map]; unfold bigN; omega
    have eg : giSeq (gVar 7) [some (.box 0), some (.d (.int (m : Nat))), some (.d (.int a)), some (.d (.int b)), some (.d (.tuple [.int c0, .int c1])), some (.box (rest.length + 1)), y6, some (.d (.list (ms.map .int))), y8, y9, none] s5 = .ok ⟨ms.map .int, fun _ => True⟩ s5 := rfl
    unfold gComp
    rw [eg, R.bind_ok]
    dsimp only
    rw [if_pos hz]
    have ec3 := em2
    simp only [List.set] at ec3 ⊢
    rw [ec3]
  have hN : ∀ k ∈ ms.filter (fun k => decide (vOf rs (Builtin.bitAnd (Builtin.bitAnd k (k - 1)) (Builtin.bitAnd k (k - 1) - 1)) = vOf rs k)), 0 ≤ k ∧ k < ((2 ^ m : Nat) : Int) := fun k hk => by
    have := hM k (List.mem_filter.mp hk).1
    exact ⟨this.1, this.2.1⟩
  have hNl : (ms.filter (fun k => decide (vOf rs (Builtin.bitAnd (Builtin.bitAnd k (k - 1)) (Builtin.bitAnd k (k - 1) - 1)) = vOf rs k))).length ≤ 16 := by
    have := List.length_filter_le (fun k => decide (vOf rs (Builtin.bitAnd (Builtin.bitAnd k (k - 1)) (Builtin.bitAnd k (k - 1) - 1)) = vOf rs k)) ms
    omega
  clear em2 em1
  generalize ms.filter (fun k => decide (vOf rs (Builtin.bitAnd (Builtin.bitAnd k (k - 1)) (Builtin.bitAnd k (k - 1) - 1)) = vOf rs k)) = ns at k7 hN hNl
  obtain ⟨r7, s7, e7, l7, u7, b7⟩ := q_pick 2 (by decide) (by decide) b6
  -- the end
  have hend : ∀ (s8 : Sto) (rs8 : List PyData) (y : Option A), Bx (rest ++ [rs8]) s8 → rs8.length = 2 ^ m → (∀ d ∈ rs8, RkD 101 d) → sIf (gAnd (gB (g2 pGt (gB1 pLen (LF.gCons (gVar 7) LF.gNil)) (gC (.int 0)))) (gB (g2 pEq (gCall p__law_pick (LF.gCons (gVar 0) (LF.gCons (gC (.int 2)) LF.gNil))) (gC (.int 0))))) (sSeq (sSet 6 (g2 pIx (gVar 7) (gCall p__law_pick (LF.gCons (gVar 0) (LF.gCons (gB1 pLen (LF.gCons (gVar 7) LF.gNil)) LF.gNil))))) (sPut (gVar 5) (gVar 6) (g2 pAdd (g2 pIx (gVar 5) (gVar 6)) (gC (.int 1))))) sNil [some (.box 0), some (.d (.int (m : Nat))), some (.d (.int a)), some (.d (.int b)), some (.d (.tuple [.int c0, .int c1])), some (.box (rest.length + 1)), y6, some (.d (.list (ns.map .int))), y8, y9, none] s5 = .nx [some (.box 0), some (.d (.int (m : Nat))), some (.d (.int a)), some (.d (.int b)), some (.d (.tuple [.int c0, .int c1])), some (.box (rest.length + 1)), y, some (.d (.list (ns.map .int))), y8, y9, none] s8 → ∃ d st', p__law_table [.box 0, .d (.int (m : Nat))] st = .ok (.d d) st' ∧ Gd HB 4 39 d ∧ Bx rest st' := fun s8 rs8 y b8 l8 p8 k8 => by
    have g8 := bx1_get b8
    have k9 : sRet (gTupD (LF.gCons (gC (.str "table")) (LF.gCons (gVar 1) (LF.gCons (gB1 pTup (LF.gCons (gVar 5) LF.gNil)) LF.gNil)))) [some (.box 0), some (.d (.int (m : Nat))), some (.d (.int a)), some (.d (.int b)), some (.d (.tuple [.int c0, .int c1])), some (.box (rest.length + 1)), y, some (.d (.list (ns.map .int))), y8, y9, none] s8 = .rt (.d (.tuple [.str "table", .int (m : Nat), .tuple rs8])) s8 := by
      simp [g8]
    have fin : b__law_table [some (.box 0), some (.d (.int (m : Nat))), none, none, none, none, none, none, none, none, none] st = .rt (.d (.tuple [.str "table", .int (m : Nat), .tuple rs8])) s8 := by
      unfold b__law_table
      rw [seq_nx (k1 none none none), seq_nx k2, seq_nx k3, seq_nx k4, seq_nx k5, seq_nx k6]
      rw [show ([some (.box 0), some (.d (.int (m : Nat))), some (.d (.int a)), some (.d (.int b)), some (.d (.tuple [.int c0, .int c1])), some (.box (rest.length + 1)), y6, none, y8, y9, none] : LF.Env).set 7 (some (.d (.list (ms.map fun k => .int k)))) = [some (.box 0), some (.d (.int (m : Nat))), some (.d (.int a)), some (.d (.int b)), some (.d (.tuple [.int c0, .int c1])), some (.box (rest.length + 1)), y6, some (.d (.list (ms.map .int))), y8, y9, none] from rfl]
      rw [seq_nx k7, seq_nx k8]
      exact k9
    have y := run_rt (m := 11) (b := b__law_table) (as := [.box 0, .d (.int (m : Nat))]) fin
    rw [hlen] at y
    refine ⟨_, _, y, ?_, bx_cut b8⟩
    have hg : Gd HB 1 17 (.tuple rs8) := hb_tup (k := 0) (w := 1) (fun d hd => by
      obtain ⟨i, rfl, h1, h2⟩ := p8 d hd
      exact hb_int (by omega) (by omega)) (by omega)
    exact (hb_house (w := 17) (W := 20) hb_words.2.2.2.2.1 (by omega) (by omega) hg (by omega)).mono (Nat.le_refl _) (by omega) (by omega)
  have t1 : gB (g2 pGt (gB1 pLen (LF.gCons (gVar 7) LF.gNil)) (gC (.int 0))) [some (.box 0), some (.d (.int (m : Nat))), some (.d (.int a)), some (.d (.int b)), some (.d (.tuple [.int c0, .int c1])), some (.box (rest.length + 1)), y6, some (.d (.list (ns.map .int))), y8, y9, none] s5 = .ok (decide (0 < (ns.length : Int))) s5 := by
    simp
  have t2 : gB (g2 pEq (gCall p__law_pick (LF.gCons (gVar 0) (LF.gCons (gC (.int 2)) LF.gNil))) (gC (.int 0))) [some (.box 0), some (.d (.int (m : Nat))), some (.d (.int a)), some (.d (.int b)), some (.d (.tuple [.int c0, .int c1])), some (.box (rest.length + 1)), y6, some (.d (.list (ns.map .int))), y8, y9, none] s5 = .ok (decide (r7 = 0)) s7 := by
    simp [e7, eqv_int]
  by_cases hn : (0 : Int) < ns.length
  · rw [decide_eq_true hn] at t1
    by_cases h7 : r7 = 0
    · rw [decide_eq_true h7] at t2
      obtain ⟨r8, s8, e8, l8, u8, b8⟩ := q_pick (ns.length : Int) hn (by omega) b7
      have g8 := bx1_get b8
      have hl8 : r8.toNat < ns.length := by omega
      have ha := atI_nat (rs := ns.map .int) (k := r8.toNat) (d := .int ns[r8.toNat]) (by rw [List.getElem?_map, List.getElem?_eq_getElem hl8]; rfl)
      rw [show ((r8.toNat : Nat) : Int) = r8 from by omega] at ha
      obtain ⟨q0, q1⟩ := hN _ (List.getElem_mem hl8)
      generalize ns[r8.toNat] = z at ha q0 q1
      obtain ⟨i, hi, hi1, hi2⟩ := rk_at p6 q0 (by rw [l6]; exact q1)
      have hj : L2.ixN rs.length z = some z.toNat := by
        unfold L2.ixN
        rw [if_pos q0, if_pos (by rw [l6]; exact q1)]
      refine hend (s8.set (rest.length + 1) (rs.set z.toNat (.int (i + 1)))) (rs.set z.toNat (.int (i + 1))) (some (.d (.int z))) (bx1_set b8 _) (by rw [List.length_set, l6]) (fun d hd => ?_) ?_
      · rcases List.mem_or_eq_of_mem_set hd with hd | rfl
        · obtain ⟨j, e, j1, j2⟩ := p6 d hd
          exact ⟨j, e, j1, by omega⟩
        · exact ⟨i + 1, rfl, by omega, by omega⟩
      · rw [if_ff ((and_t t1).trans t2)]
        have el : gCall p__law_pick (LF.gCons (gVar 0) (LF.gCons (gB1 pLen (LF.gCons (gVar 7) LF.gNil)) LF.gNil)) [some (.box 0), some (.d (.int (m : Nat))), some (.d (.int a)), some (.d (.int b)), some (.d (.tuple [.int c0, .int c1])), some (.box (rest.length + 1)), y6, some (.d (.list (ns.map .int))), y8, y9, none] s7 = .ok (.d (.int r8)) s8 :=
          (call2' (x := .box 0) (y := .d (.int (ns.length : Nat))) rfl (by simp)).trans e8
        rw [seq_nx (env' := [some (.box 0), some (.d (.int (m : Nat))), some (.d (.int a)), some (.d (.int b)), some (.d (.tuple [.int c0, .int c1])), some (.box (rest.length + 1)), some (.d (.int z)), some (.d (.list (ns.map .int))), y8, y9, none]) (st' := s8) (set_ok (g2_ok rfl el (by simpa using ha)))]
        simp [g8, hi, hj]
    · rw [decide_eq_false h7] at t2
      exact hend s7 rs y6 b7 l6 (fun d hd => by obtain ⟨j, e, j1, j2⟩ := p6 d hd; exact ⟨j, e, j1, by omega⟩) (b_nx ((and_t t1).trans t2))
  · rw [decide_eq_false hn] at t1
    exact hend s5 rs y6 b6 l6 (fun d hd => by obtain ⟨j, e, j1, j2⟩ := p6 d hd; exact ⟨j, e, j1, by omega⟩) (b_nx (and_f t1))
end G
set_option Elab.async false
set_option linter.all false
set_option maxRecDepth 100000
set_option maxHeartbeats 2000000
namespace G
open PySem LF
/-! drawn houses -/
theorem nums7 (r : Int) (l : 0 ≤ r) (u : r < 7) : ∃ n : Nat, n ≤ 4 ∧ L2.atI [PyData.int 4, .int 3, .int 2, .int 3, .int 4, .int 1, .int 0] r = some (.int (n : Nat)) := by
  have h : r = 0 ∨ r = 1 ∨ r = 2 ∨ r = 3 ∨ r = 4 ∨ r = 5 ∨ r = 6 := by omega
  rcases h with rfl | rfl | rfl | rfl | rfl | rfl | rfl
  · exact ⟨4, by decide, rfl⟩
  · exact ⟨3, by decide, rfl⟩
  · exact ⟨2, by decide, rfl⟩
  · exact ⟨3, by decide, rfl⟩
  · exact ⟨4, by decide, rfl⟩
  · exact ⟨1, by decide, rfl⟩
  · exact ⟨0, by decide, rfl⟩
theorem primes4 (r : Int) (l : 0 ≤ r) (u : r < 4) : ∃ n : Int, 2 ≤ n ∧ n ≤ 7 ∧ L2.atI [PyData.int 2, .int 3, .int 5, .int 7] r = some (.int n) := by
  have h : r = 0 ∨ r = 1 ∨ r = 2 ∨ r = 3 := by omega
  rcases h with rfl | rfl | rfl | rfl
  · exact ⟨2, by decide, by decide, rfl⟩
  · exact ⟨3, by decide, by decide, rfl⟩
  · exact ⟨5, by decide, by decide, rfl⟩
  · exact ⟨7, by decide, by decide, rfl⟩
theorem hb_ints {m : Int} (hm : m ≤ 1000) {xs : List Int} (h : ∀ x ∈ xs, 0 ≤ x ∧ x < m) {W : Nat} (hW : xs.length + 1 ≤ W) : Gd HB 1 W (.tuple (xs.map .int)) := by
  refine hb_tup (k := 0) (w := 1) (fun d hd => ?_) (by rw [List.length_map]; omega)
  rw [List.mem_map] at hd
  obtain ⟨i, hi, rfl⟩ := hd
  have := h i hi
  exact hb_int (by omega) (by omega)
noncomputable def wbB : GS := (sSeq (sSet 7 (gCall p__law_pick (LF.gCons (gVar 0) (LF.gCons (gVar 4) LF.gNil)))) (sApp (gVar 3) (gTupD (LF.gCons (gVar 7) (LF.gCons (g2 pAdd (gVar 7) (gCall p__law_pick (LF.gCons (gVar 0) (LF.gCons (g2 pSub (gVar 4) (gVar 7)) LF.gNil)))) LF.gNil)))))
theorem wb_step {rest st : Sto} {rs : List PyData} (w : Int) (h1 : 1 ≤ w) (h2 : w ≤ 4) (hb : Bx (rest ++ [rs]) st) (hl : rs.length ≤ 100) (a1 a2 a5 a6 a7 : Option A) :
    ∃ st' r y7, wbB [some (.box 0), a1, a2, some (.box (rest.length + 1)), some (.d (.int w)), a5, a6, a7] st = .nx [some (.box 0), a1, a2, some (.box (rest.length + 1)), some (.d (.int w)), a5, a6, y7] st' ∧ Bx (rest ++ [rs ++ [r]]) st' ∧ Gd HB 1 3 r := by
  obtain ⟨p, s1, e1, l1, u1, b1⟩ := q_pick w (by omega) (by omega) hb
  obtain ⟨q, s2, e2, l2, u2, b2⟩ := q_pick (w - p) (by omega) (by omega) b1
  have g := bx1_get b2
  have hz : rs.length < bigN := by unfold bigN; omega
  refine ⟨_, .tuple [.int p, .int (p + q)], some (.d (.int p)), ?_, bx1_set b2 _, ?_⟩
  · unfold wbB
    rw [seq_nx (env' := [some (.box 0), a1, a2, some (.box (rest.length + 1)), some (.d (.int w)), a5, a6, some (.d (.int p))]) (st' := s1) (set_ok ((call2' rfl rfl).trans e1))]
    simp [e2, g, hz]
  · have := hb_ints (m := 20) (by omega) (xs := [p, p + q]) (fun x hx => by
      simp only [List.mem_cons, List.not_mem_nil, or_false] at hx
      rcases hx with rfl | rfl <;> omega) (W := 3) (by simp)
    exact this
theorem wb_loop {rest : Sto} (w : Int) (h1 : 1 ≤ w) (h2 : w ≤ 4) (a1 a2 a5 : Option A) : ∀ (ks : List PyData) (st : Sto) (rs : List PyData) (_ : Bx (rest ++ [rs]) st) (_ : rs.length + ks.length ≤ 100) (_ : ∀ d ∈ rs, Gd HB 1 3 d) (a6 a7 : Option A),
    ∃ st' rs' y6 y7, forD (fun _ => True) (ggName 6) wbB ks [some (.box 0), a1, a2, some (.box (rest.length + 1)), some (.d (.int w)), a5, a6, a7] st = .nx [some (.box 0), a1, a2, some (.box (rest.length + 1)), some (.d (.int w)), a5, y6, y7] st' ∧ Bx (rest ++ [rs']) st' ∧ rs'.length = rs.length + ks.length ∧ ∀ d ∈ rs', Gd HB 1 3 d
  | [], st, rs, hb, hl, hr, a6, a7 => ⟨st, rs, a6, a7, by simp, hb, by simp, hr⟩
  | k :: ks, st, rs, hb, hl, hr, a6, a7 => by
    rw [List.length_cons] at hl
    obtain ⟨s1, r, y7, e1, b1, p1⟩ := wb_step w h1 h2 hb (by omega) a1 a2 a5 (some (.d k)) a7
    obtain ⟨s2, rs2, z6, z7, e2, b2, l2, p2⟩ := wb_loop w h1 h2 a1 a2 a5 ks s1 (rs ++ [r]) b1 (by rw [List.length_append, List.length_singleton]; omega) (fun d hd => by
      rw [List.mem_append, List.mem_singleton] at hd
      rcases hd with hd | rfl
      · exact hr d hd
      · exact p1) (some (.d k)) y7
    refine ⟨s2, rs2, z6, z7, ?_, b2, by rw [l2, List.length_append, List.length_singleton, List.length_cons]; omega, p2⟩
    rw [forD_cons']
    simp only [List.set]
    rw [e1, forK_nx, e2]
theorem eq_t {env : LF.Env} {st : Sto} {i : Nat} {a b : Int} (h : env[i]? = some (some (.d (.int a)))) : gB (g2 pEq (gVar i) (gC (.int b))) env st = .ok (decide (a = b)) st := by
  simp [h, eqv_int]
theorem tup3 {a b c : GE} {env : LF.Env} {st st1 st2 st3 : Sto} {x y z : PyData} (h1 : a env st = .ok (.d x) st1) (h2 : b env st1 = .ok (.d y) st2) (h3 : c env st2 = .ok (.d z) st3) : gTupD (LF.gCons a (LF.gCons b (LF.gCons c LF.gNil))) env st = .ok (.d (.tuple [x, y, z])) st3 := by
  have : LF.gCons a (LF.gCons b (LF.gCons c LF.gNil)) env st = .ok [.d x, .d y, .d z] st3 := by
    unfold LF.gCons LF.gNil
    rw [h1, R.bind_ok, h2, R.bind_ok, h3, R.bind_ok, R.bind_ok, R.bind_ok, R.bind_ok]
  unfold gTupD
  rw [this, R.bind_ok]
  rfl
theorem q_line' (prime m : Int) (h1 : 0 < prime) (h2 : prime < 1000) (h0 : 0 ≤ m) (hm : m ≤ 1000) {rest st : Sto} (hb : Bx rest st) :
    ∃ ds st', p__law_line [.box 0, .d (.int prime), .d (.int m)] st = .ok (.d (.tuple ds)) st' ∧ ds.length = m.toNat ∧ (∀ d ∈ ds, Nb prime d) ∧ Bx rest st' := by
  obtain ⟨j, rfl⟩ := Int.eq_ofNat_of_zero_le h0
  obtain ⟨ds, s, e, l, p, b⟩ := q_line prime j h1 h2 (by omega) hb
  exact ⟨ds, s, e, by rw [Int.toNat_natCast]; exact l, p, b⟩
theorem q_home (mu : Int) {rest st : Sto} (hb : Bx rest st) :
    ∃ d st', p__law_home [.box 0, .d (.int mu)] st = .ok (.d d) st' ∧ Gd HB 4 39 d ∧ Bx rest st' := by
  have hlen := hb.len
  obtain ⟨r1, s1, e1, l1, u1, b1⟩ := q_pick 7 (by decide) (by decide) hb
  obtain ⟨n, hn, en⟩ := nums7 r1 l1 u1
  have k1 : sSet 2 (g2 pIx (gLstD (LF.gCons (gC (.int 4)) (LF.gCons (gC (.int 3)) (LF.gCons (gC (.int 2)) (LF.gCons (gC (.int 3)) (LF.gCons (gC (.int 4)) (LF.gCons (gC (.int 1)) (LF.gCons (gC (.int 0)) LF.gNil)))))))) (gCall p__law_pick (LF.gCons (gVar 0) (LF.gCons (gC (.int 7)) LF.gNil)))) [some (.box 0), some (.d (.int mu)), none, none, none, none, none, none] st = .nx [some (.box 0), some (.d (.int mu)), some (.d (.int (n : Nat))), none, none, none, none, none] s1 := by
    simp [e1, en]
  have t0 := eq_t (env := [some (.box 0), some (.d (.int mu)), some (.d (.int (n : Nat))), none, none, none, none, none]) (st := s1) (i := 1) (a := mu) (b := 0) rfl
  have t1 := eq_t (env := [some (.box 0), some (.d (.int mu)), some (.d (.int (n : Nat))), none, none, none, none, none]) (st := s1) (i := 1) (a := mu) (b := 1) rfl
  have tail : ∀ (d : PyData) (s : Sto) (more : Sto), Gd HB 4 39 d → Bx (rest ++ more) s → b__law_home [some (.box 0), some (.d (.int mu)), none, none, none, none, none, none] st = .rt (.d d) s → ∃ d st', p__law_home [.box 0, .d (.int mu)] st = .ok (.d d) st' ∧ Gd HB 4 39 d ∧ Bx rest st' := fun d s more hd hs fin => by
    have y := run_rt (m := 8) (b := b__law_home) (as := [.box 0, .d (.int mu)]) fin
    rw [hlen] at y
    exact ⟨d, _, y, hd, bx_cut hs⟩
  by_cases h0 : mu = 0
  · rw [decide_eq_true h0] at t0
    obtain ⟨r2, s2, e2, l2, u2, b2⟩ := q_pick 5 (by decide) (by decide) b1
    have hM : ∃ M : Int, 0 ≤ M ∧ M ≤ 4 ∧ gB1 pMax2 (LF.gCons (gVar 2) (LF.gCons (gCall p__law_pick (LF.gCons (gVar 0) (LF.gCons (gC (.int 5)) LF.gNil))) LF.gNil)) [some (.box 0), some (.d (.int mu)), some (.d (.int (n : Nat))), none, none, none, none, none] s1 = .ok (.d (.int M)) s2 := by
      refine ⟨if r2 > (n : Int) then r2 else (n : Int), by split <;> omega, by split <;> omega, ?_⟩
      simp [e2]
    obtain ⟨M, M0, M4, eM⟩ := hM
    obtain ⟨d, s3, e3, hd, b3⟩ := q_limits M M0 M4 b2
    refine tail d s3 [] hd (by rw [List.append_nil]; exact b3) ?_
    unfold b__law_home
    rw [seq_nx k1]
    apply seq_rt
    rw [if_ff t0]
    exact ret_ok ((call2' rfl eM).trans e3)
  · rw [decide_eq_false h0] at t0
    by_cases h1 : mu = 1
    · rw [decide_eq_true h1] at t1
      obtain ⟨d, s3, e3, hd, b3⟩ := q_table n hn b1
      refine tail d s3 [] hd (by rw [List.append_nil]; exact b3) ?_
      unfold b__law_home
      rw [seq_nx k1, seq_nx (b_nx t0)]
      apply seq_rt
      rw [if_ff t1]
      exact ret_ok ((call2' rfl rfl).trans e3)
    · rw [decide_eq_false h1] at t1
      have b2 := bx_push b1 []
      have k4 : sBox 3 LF.gNil [some (.box 0), some (.d (.int mu)), some (.d (.int (n : Nat))), none, none, none, none, none] s1 = .nx [some (.box 0), some (.d (.int mu)), some (.d (.int (n : Nat))), some (.box (rest.length + 1)), none, none, none, none] (s1 ++ [[]]) := by
        simp [b1.len]
      have t2 := eq_t (env := [some (.box 0), some (.d (.int mu)), some (.d (.int (n : Nat))), some (.box (rest.length + 1)), none, none, none, none]) (st := s1 ++ [[]]) (i := 1) (a := mu) (b := 2) rfl
      have t3 := eq_t (env := [some (.box 0), some (.d (.int mu)), some (.d (.int (n : Nat))), some (.box (rest.length + 1)), none, none, none, none]) (st := s1 ++ [[]]) (i := 1) (a := mu) (b := 3) rfl
      by_cases h2 : mu = 2
      · rw [decide_eq_true h2] at t2
        obtain ⟨w, s3, e3, l3, u3, b3⟩ := q_pick 5 (by decide) (by decide) b2
        obtain ⟨ds, s4, e4, l4, p4, b4⟩ := comp_rdraws' (i := 6) (P := fun d => Gd HB 1 5 d) (elt := gCall p__law_part (LF.gCons (gVar 0) (LF.gCons (gVar 4) LF.gNil))) (env := [some (.box 0), some (.d (.int mu)), some (.d (.int (n : Nat))), some (.box (rest.length + 1)), some (.d (.int w)), none, none, none]) (g := gVar 2) n (by omega) (st := s3) b3 rfl (fun k hk st hb => by
          obtain ⟨xs, s, e, l, p, b⟩ := q_part' w l3 (by omega) hb
          exact ⟨_, s, (call2' rfl rfl).trans e, hb_ints (m := w) (by omega) p (by omega), b⟩)
        refine tail (.tuple [.str "slots", .int w, .tuple ds]) s4 [[]] ?_ b4 ?_
        · exact (hb_house (k := 2) (w := 21) (W := 39) hb_words.2.1 (by omega) (by omega) (hb_tup (k := 1) (w := 5) p4 (by omega)) (by omega)).mono (Nat.le_refl _) (by omega) (by omega)
        · unfold b__law_home
          rw [seq_nx k1, seq_nx (b_nx t0), seq_nx (b_nx t1), seq_nx k4]
          apply seq_rt
          rw [if_ff t2]
          rw [seq_nx (env' := [some (.box 0), some (.d (.int mu)), some (.d (.int (n : Nat))), some (.box (rest.length + 1)), some (.d (.int w)), none, none, none]) (st' := s3) (set_ok ((call2' rfl rfl).trans e3))]
          have e5 : gB1 pTup (LF.gCons (gComp (giR1 (gVar 2)) 6 gYes (gCall p__law_part (LF.gCons (gVar 0) (LF.gCons (gVar 4) LF.gNil)))) LF.gNil) [some (.box 0), some (.d (.int mu)), some (.d (.int (n : Nat))), some (.box (rest.length + 1)), some (.d (.int w)), none, none, none] s3 = .ok (.d (.tuple ds)) s4 := by
            rw [gB1_one, e4]
            rfl
          exact ret_ok (tup3 rfl rfl e5)
      · rw [decide_eq_false h2] at t2
        by_cases h3 : mu = 3
        · rw [decide_eq_true h3] at t3
          obtain ⟨w, s3, e3, l3, u3, b3⟩ := q_pick 4 (by decide) (by decide) b2
          obtain ⟨s4, rs, y6, y7, e4, b4, l4, p4⟩ := wb_loop (1 + w) (by omega) (by omega) (some (.d (.int mu))) (some (.d (.int (n : Nat)))) none ((rangeI n).map .int) s3 [] b3 (by
            rw [List.length_map, rangeI_length, List.length_nil]; omega) (by simp) none none
          rw [List.length_map, rangeI_length, List.length_nil, Nat.zero_add] at l4
          have g4 := bx1_get b4
          refine tail (.tuple [.str "web", .int (1 + w), .tuple rs]) s4 [rs] ?_ b4 ?_
          · exact (hb_house (k := 2) (w := 13) (W := 39) hb_words.2.2.1 (by omega) (by omega) (hb_tup (k := 1) (w := 3) p4 (by omega)) (by omega)).mono (Nat.le_refl _) (by omega) (by omega)
          · unfold b__law_home
            rw [seq_nx k1, seq_nx (b_nx t0), seq_nx (b_nx t1), seq_nx k4, seq_nx (b_nx t2)]
            apply seq_rt
            rw [if_ff t3]
            rw [seq_nx (env' := [some (.box 0), some (.d (.int mu)), some (.d (.int (n : Nat))), some (.box (rest.length + 1)), some (.d (.int (1 + w))), none, none, none]) (st' := s3) (by simp [e3])]
            have k6 : sFor (giR1 (gVar 2)) (ggName 6) wbB [some (.box 0), some (.d (.int mu)), some (.d (.int (n : Nat))), some (.box (rest.length + 1)), some (.d (.int (1 + w))), none, none, none] s3 = .nx [some (.box 0), some (.d (.int mu)), some (.d (.int (n : Nat))), some (.box (rest.length + 1)), some (.d (.int (1 + w))), none, y6, y7] s4 := by
              unfold sFor
              rw [ra n (by omega) _ _ _ rfl, R.bindO_ok]
              exact e4
            unfold wbB at k6
            rw [seq_nx k6]
            simp [g4]
        · rw [decide_eq_false h3] at t3
          obtain ⟨w, s3, e3, l3, u3, b3⟩ := q_pick 4 (by decide) (by decide) b2
          obtain ⟨r5, s5, e5, l5, u5, b5⟩ := q_pick 4 (by decide) (by decide) b3
          obtain ⟨pr, p2, p7, ep⟩ := primes4 r5 l5 u5
          obtain ⟨ds, s4, e4, l4, p4, b4⟩ := comp_rdraws' (i := 6) (P := fun d => Gd HB 1 4 d) (elt := gCall p__law_line (LF.gCons (gVar 0) (LF.gCons (gVar 5) (LF.gCons (gVar 4) LF.gNil)))) (env := [some (.box 0), some (.d (.int mu)), some (.d (.int (n : Nat))), some (.box (rest.length + 1)), some (.d (.int w)), some (.d (.int pr)), none, none]) (g := gVar 2) n (by omega) (st := s5) b5 rfl (fun k hk st hb => by
            obtain ⟨xs, s, e, l, p, b⟩ := q_line' pr w (by omega) (by omega) l3 (by omega) hb
            exact ⟨_, s, (call3' rfl rfl rfl).trans e, hb_tup (k := 0) (w := 1) (fun d hd => hb_nb (n := pr) (by omega) (p d hd)) (by omega), b⟩)
          refine tail (.tuple [.str "rows", .int pr, .tuple ds]) s4 [[]] ?_ b4 ?_
          · exact (hb_house (k := 2) (w := 17) (W := 39) hb_words.2.2.2.1 (by omega) (by omega) (hb_tup (k := 1) (w := 4) p4 (by omega)) (by omega)).mono (Nat.le_refl _) (by omega) (by omega)
          · unfold b__law_home
            rw [seq_nx k1, seq_nx (b_nx t0), seq_nx (b_nx t1), seq_nx k4, seq_nx (b_nx t2), seq_nx (b_nx t3)]
            rw [seq_nx (env' := [some (.box 0), some (.d (.int mu)), some (.d (.int (n : Nat))), some (.box (rest.length + 1)), some (.d (.int w)), none, none, none]) (st' := s3) (set_ok ((call2' rfl rfl).trans e3))]
            rw [seq_nx (env' := [some (.box 0), some (.d (.int mu)), some (.d (.int (n : Nat))), some (.box (rest.length + 1)), some (.d (.int w)), some (.d (.int pr)), none, none]) (st' := s5) (by simp [e5, ep])]
            have e6 : gB1 pTup (LF.gCons (gComp (giR1 (gVar 2)) 6 gYes (gCall p__law_line (LF.gCons (gVar 0) (LF.gCons (gVar 5) (LF.gCons (gVar 4) LF.gNil))))) LF.gNil) [some (.box 0), some (.d (.int mu)), some (.d (.int (n : Nat))), some (.box (rest.length + 1)), some (.d (.int w)), some (.d (.int pr)), none, none] s5 = .ok (.d (.tuple ds)) s4 := by
              rw [gB1_one, e4]
              rfl
            exact ret_ok (tup3 rfl rfl e6)
end G
set_option Elab.async false
set_option linter.all false
set_option maxRecDepth 100000
set_option maxHeartbeats 2000000
namespace G
open PySem LF
/-! values that are bent at a place -/
theorem cntAll_take : ∀ (n : Nat) (ds : List PyData), cntAll (ds.take n) ≤ cntAll ds
  | 0, _ => by simp [cntAll]
  | n + 1, [] => by simp
  | n + 1, d :: r => by
    have := cntAll_take n r
    simp only [List.take_succ_cons, cntAll]
    omega
theorem cntAll_drop : ∀ (n : Nat) (ds : List PyData), cntAll (ds.drop n) ≤ cntAll ds
  | 0, _ => by simp
  | n + 1, [] => by simp
  | n + 1, d :: r => by
    have := cntAll_drop n r
    simp only [List.drop_succ_cons, cntAll]
    omega
theorem cntAll_cut (ds : List PyData) (lo hi : Option Int) : cntAll (cutD ds lo hi) ≤ cntAll ds := by
  unfold cutD
  exact Nat.le_trans (cntAll_take _ _) (cntAll_drop _ _)
theorem cntAll_rev (ds : List PyData) : cntAll ds.reverse = cntAll ds := by
  induction ds with
  | nil => rfl
  | cons d r ih => rw [List.reverse_cons, cntAll_append, ih]; simp only [cntAll]; omega
/-- what bending lets through -/
structure Sp (B : Nat) (d d' : PyData) : Prop where
  f : fine (B + 1) d' = true
  dp : d'.depth ≤ d.depth + 1
  ct : cnt d' ≤ 2 * cnt d
theorem tup_of {B k c : Nat} {ds : List PyData} (h : ∀ x ∈ ds, fine B x = true ∧ x.depth ≤ k) (hc : cntAll ds + 1 ≤ c) : fine B (.tuple ds) = true ∧ (PyData.tuple ds).depth ≤ k + 1 ∧ cnt (.tuple ds) ≤ c :=
  ⟨by simp only [fine]; exact fineAll_iff.mpr fun x hx => (h x hx).1, by
    have := depthAll_le fun x hx => (h x hx).2
    simp only [PyData.depth]; omega, by simpa only [cnt] using hc⟩
theorem sp_leaf {B : Nat} {d d' : PyData} (h : fine (B + 1) d' = true) (h1 : d'.depth = 0) (h2 : cnt d' = 1) : Sp B d d' := ⟨h, by omega, by have := cnt_pos d; omega⟩
theorem sp_tup {B : Nat} {ds es : List PyData} (hf : fine B (.tuple ds) = true) (he : ∀ x ∈ es, x ∈ ds ∨ (fine (B + 1) x = true ∧ x.depth = 0)) (hc : cntAll es + 1 ≤ 2 * cnt (.tuple ds)) : Sp B (.tuple ds) (.tuple es) := by
  have hf2 : fineAll B ds = true := by simpa only [fine] using hf
  have := tup_of (B := B + 1) (k := PyData.depthAll ds) (c := 2 * cnt (.tuple ds)) (ds := es) (fun x hx => by
    rcases he x hx with h | h
    · exact ⟨fine_mono (Nat.le_succ B) x (fineAll_iff.mp hf2 x h), depthAll_mem h⟩
    · exact ⟨h.1, by rw [h.2]; omega⟩) hc
  refine ⟨this.1, ?_, this.2.2⟩
  have h2 := this.2.1
  simp only [PyData.depth] at h2 ⊢
  omega
theorem str_int {B : Nat} {i : Int} (h : i.natAbs < 10 ^ 60) : fine B (.str (toString i)) = true := by
  have e := int_text_length_le10 (k := 60) (by decide) h
  simp only [fine, Bool.and_eq_true, decide_eq_true_eq]
  refine ⟨(okS_iff _).mpr (okS_of _), ?_⟩
  have e2 : (Str.ofString (toString i)).length ≤ 61 := by
    rw [ofString_length]; exact e
  have e3 : (Str.ofString (toString i)).cps.size = (Str.ofString (toString i)).length := rfl
  omega
theorem q_odd {B : Nat} (hB : 10 ^ 41 ≤ B) (hB2 : B ≤ 10 ^ 59) (d : PyData) (hf : fine B d = true) (hc : cnt d ≤ 1000) {rest st : Sto} (hb : Bx rest st) :
    ∃ d' st', p__law_odd [.box 0, .d d] st = .ok (.d d') st' ∧ Sp B d d' ∧ Bx rest st' := by
  obtain ⟨r, s1, e1, l1, u1, b1⟩ := q_pick 7 (by decide) (by decide) hb
  have h7 : r = 0 ∨ r = 1 ∨ r = 2 ∨ r = 3 ∨ r = 4 ∨ r = 5 ∨ r = 6 := by omega
  have fin : ∀ d' s, b__law_odd [some (.box 0), some (.d d), none] st = .rt (.d d') s → Bx rest s → Sp B d d' → ∃ d' st', p__law_odd [.box 0, .d d] st = .ok (.d d') st' ∧ Sp B d d' ∧ Bx rest st' := fun d' s f b h => by
    have y := run_rt (m := 3) (b := b__law_odd) (as := [.box 0, .d d]) f
    rw [hb.len, b.take] at y
    exact ⟨d', s, y, h, b⟩
  have k1 : sSet 2 (gCall p__law_pick (LF.gCons (gVar 0) (LF.gCons (gC (.int 7)) LF.gNil))) [some (.box 0), some (.d d), none] st = .nx [some (.box 0), some (.d d), some (.d (.int r))] s1 := set_ok ((call2' rfl rfl).trans e1)
  have ew := q_whole d s1
  cases d with
  | int i =>
    have hi : i.natAbs < B := by simpa [fine] using hf
    have hi60 : i.natAbs < 10 ^ 60 := by omega
    have hlog := log2_of (n := i.natAbs) (by
      have : (10 : Nat) ^ 60 ≤ 2 ^ 1900 := by decide
      omega)
    have hx : ∃ d', L2.atI [PyData.int (i + 1), .int (i - 1), .bool (i != 0), .none, .str (toString i), .int (10 ^ 40), .tuple [.int i]] r = some d' ∧ Sp B (.int i) d' := by
      rcases h7 with rfl | rfl | rfl | rfl | rfl | rfl | rfl
      · exact ⟨_, rfl, sp_leaf (by simp only [fine, decide_eq_true_eq]; omega) (by simp [PyData.depth]) (by simp [cnt])⟩
      · exact ⟨_, rfl, sp_leaf (by simp only [fine, decide_eq_true_eq]; omega) (by simp [PyData.depth]) (by simp [cnt])⟩
      · exact ⟨_, rfl, sp_leaf (by simp [fine]) (by simp [PyData.depth]) (by simp [cnt])⟩
      · exact ⟨_, rfl, sp_leaf (by simp [fine]) (by simp [PyData.depth]) (by simp [cnt])⟩
      · exact ⟨_, rfl, sp_leaf (str_int hi60) (by simp [PyData.depth]) (by simp [cnt])⟩
      · exact ⟨_, rfl, sp_leaf (by simp only [fine, decide_eq_true_eq]; omega) (by simp [PyData.depth]) (by simp [cnt])⟩
      · exact ⟨_, rfl, ⟨by simp only [fine, fineAll, Bool.and_true, decide_eq_true_eq]; omega, by simp [PyData.depth, PyData.depthAll], by simp [cnt, cntAll]⟩⟩
    obtain ⟨d', ed, hs⟩ := hx
    refine fin d' s1 ?_ b1 hs
    unfold b__law_odd
    rw [seq_nx k1]
    apply seq_rt
    rw [if_ff (st1 := s1) (by
      unfold gB
      rw [call1 rfl, ew]
      rfl)]
    refine ret_ok (g2_ok (x := .d (.list [PyData.int (i + 1), .int (i - 1), .bool (i != 0), .none, .str (toString i), .int (10 ^ 40), .tuple [.int i]])) (y := .d (.int r)) (st1 := s1) ?_ rfl (by simpa using ed))
    simp [pStrI, hlog, cPow]
  | tuple ds =>
    have hlen : ds.length ≤ 1000 := by
      have := cntAll_len ds
      simp only [cnt] at hc
      omega
    have hfa : fineAll B ds = true := by simpa only [fine] using hf
    have hc1 := cut_len ds none (some (-1))
    have hc2 := cut_len ds (some (-1)) none
    have hn1 := cntAll_cut ds none (some (-1))
    have hn2 := cntAll_cut ds (some (-1)) none
    have hz1 : ds.length + 1 ≤ bigN := by unfold bigN; omega
    have hz2 : ds.length + (cutD ds (some (-1)) none).length ≤ bigN := by unfold bigN; omega
    have hx : ∃ d', L2.atI [PyData.list ds, .tuple (cutD ds none (some (-1))), .tuple (ds ++ [.int 0]), .tuple (ds ++ cutD ds (some (-1)) none), .tuple ds.reverse, .none, .tuple []] r = some d' ∧ Sp B (.tuple ds) d' := by
      rcases h7 with rfl | rfl | rfl | rfl | rfl | rfl | rfl
      · refine ⟨_, rfl, ⟨?_, by simp [PyData.depth], by simp only [cnt]; omega⟩⟩
        have := fine_mono (Nat.le_succ B) _ hf
        simpa only [fine] using this
      · exact ⟨_, rfl, sp_tup hf (fun x hx => .inl (cut_mem hx)) (by simp only [cnt]; omega)⟩
      · refine ⟨_, rfl, sp_tup hf (fun x hx => ?_) (by rw [cntAll_append]; simp only [cnt, cntAll]; omega)⟩
        rw [List.mem_append, List.mem_singleton] at hx
        rcases hx with hx | rfl
        · exact .inl hx
        · exact .inr ⟨by simp only [fine, decide_eq_true_eq]; omega, by simp [PyData.depth]⟩
      · refine ⟨_, rfl, sp_tup hf (fun x hx => ?_) (by rw [cntAll_append]; simp only [cnt]; omega)⟩
        rw [List.mem_append] at hx
        rcases hx with hx | hx
        · exact .inl hx
        · exact .inl (cut_mem hx)
      · exact ⟨_, rfl, sp_tup hf (fun x hx => .inl (List.mem_reverse.mp hx)) (by rw [cntAll_rev]; simp only [cnt]; omega)⟩
      · exact ⟨_, rfl, sp_leaf (by simp [fine]) (by simp [PyData.depth]) (by simp [cnt])⟩
      · exact ⟨_, rfl, sp_tup hf (fun x hx => by cases hx) (by simp only [cnt, cntAll]; omega)⟩
    obtain ⟨d', ed, hs⟩ := hx
    refine fin d' s1 ?_ b1 hs
    unfold b__law_odd
    rw [seq_nx k1]
    rw [seq_nx (b_nx (st1 := s1) (by
      unfold gB
      rw [call1 rfl, ew]
      rfl))]
    apply seq_rt
    rw [if_ff (st1 := s1) (by simp)]
    refine ret_ok (g2_ok (x := .d (.list [PyData.list ds, .tuple (cutD ds none (some (-1))), .tuple (ds ++ [.int 0]), .tuple (ds ++ cutD ds (some (-1)) none), .tuple ds.reverse, .none, .tuple []])) (y := .d (.int r)) (st1 := s1) ?_ rfl (by simpa using ed))
    simp [hz1, hz2]
  | dict _ => simp [fine] at hf
  | _ =>
    have hx : ∀ d : PyData, ∃ d', L2.atI [PyData.str "table", .str "rows", .str "limits", .str "slots", .str "beside", .none, .int 0] r = some d' ∧ Sp B d d' := fun d => by
      have hw : ∀ s : Str, fine HB (.str s) = true → fine (B + 1) (.str s) = true := fun s h => by simpa only [fine] using h
      rcases h7 with rfl | rfl | rfl | rfl | rfl | rfl | rfl
      · exact ⟨_, rfl, sp_leaf (hw _ hb_words.2.2.2.2.1) (by simp [PyData.depth]) (by simp [cnt])⟩
      · exact ⟨_, rfl, sp_leaf (hw _ hb_words.2.2.2.1) (by simp [PyData.depth]) (by simp [cnt])⟩
      · exact ⟨_, rfl, sp_leaf (hw _ hb_words.1) (by simp [PyData.depth]) (by simp [cnt])⟩
      · exact ⟨_, rfl, sp_leaf (hw _ hb_words.2.1) (by simp [PyData.depth]) (by simp [cnt])⟩
      · exact ⟨_, rfl, sp_leaf (hw _ hb_words.2.2.2.2.2) (by simp [PyData.depth]) (by simp [cnt])⟩
      · exact ⟨_, rfl, sp_leaf (by simp [fine]) (by simp [PyData.depth]) (by simp [cnt])⟩
      · exact ⟨_, rfl, sp_leaf (by simp only [fine, decide_eq_true_eq]; omega) (by simp [PyData.depth]) (by simp [cnt])⟩
    obtain ⟨d', ed, hs⟩ := hx _
    refine fin d' s1 ?_ b1 hs
    unfold b__law_odd
    rw [seq_nx k1]
    rw [seq_nx (b_nx (st1 := s1) (by
      unfold gB
      rw [call1 rfl, ew]
      rfl))]
    rw [seq_nx (b_nx (st1 := s1) (by simp))]
    exact ret_ok (g2_ok (x := .d (.list [PyData.str "table", .str "rows", .str "limits", .str "slots", .str "beside", .none, .int 0])) (y := .d (.int r)) (st1 := s1) (by simp) rfl (by simpa using ed))
end G
set_option Elab.async false
set_option linter.all false
set_option maxRecDepth 100000
set_option maxHeartbeats 2000000
namespace G
open PySem LF
theorem cut_drop (rs : List PyData) (j : Nat) (h : j < rs.length) : cutD rs (some ((j : Int) + 1)) none = rs.drop (j + 1) := by
  unfold cutD
  rw [show ((j : Int) + 1) = ((j + 1 : Nat) : Int) from by omega, HT.sIx_none, HT.sIx_nat, Nat.min_eq_left (by omega)]
  apply List.take_of_length_le
  rw [List.length_drop]
  omega
theorem cnt_split (ds : List PyData) (j : Nat) (h : j < ds.length) : cntAll ds = cntAll (ds.take j) + cnt ds[j] + cntAll (ds.drop (j + 1)) := by
  have e : ds = ds.take j ++ ds[j] :: ds.drop (j + 1) := by
    rw [← List.drop_eq_getElem_cons h, List.take_append_drop]
  have e2 := congrArg cntAll e
  rw [cntAll_append] at e2
  simp only [cntAll] at e2
  omega
theorem sp_put {B : Nat} {ds : List PyData} {x : PyData} (hf : fine B (.tuple ds) = true) {j : Nat} (h : j < ds.length) (hx : Sp B ds[j] x) : Sp B (.tuple ds) (.tuple (ds.take j ++ [x] ++ ds.drop (j + 1))) := by
  have hf2 : fineAll B ds = true := by simpa only [fine] using hf
  have hm := depthAll_mem (List.getElem_mem h)
  have := tup_of (B := B + 1) (k := PyData.depthAll ds + 1) (c := 2 * cnt (.tuple ds)) (ds := ds.take j ++ [x] ++ ds.drop (j + 1)) (fun y hy => by
    rw [List.mem_append, List.mem_append, List.mem_singleton] at hy
    rcases hy with (hy | rfl) | hy
    · have hy2 := List.mem_of_mem_take hy
      exact ⟨fine_mono (Nat.le_succ B) y (fineAll_iff.mp hf2 y hy2), by have := depthAll_mem hy2; omega⟩
    · exact ⟨hx.f, by have := hx.dp; omega⟩
    · have hy2 := List.mem_of_mem_drop hy
      exact ⟨fine_mono (Nat.le_succ B) y (fineAll_iff.mp hf2 y hy2), by have := depthAll_mem hy2; omega⟩) (by
    have e := cnt_split ds j h
    have := hx.ct
    rw [cntAll_append, cntAll_append]
    simp only [cntAll, cnt]
    omega)
  refine ⟨this.1, ?_, this.2.2⟩
  have h2 := this.2.1
  simp only [PyData.depth] at h2 ⊢
  omega
theorem tup1 {a : GE} {env : LF.Env} {st st1 : Sto} {x : PyData} (h1 : a env st = .ok (.d x) st1) : gTupD (LF.gCons a LF.gNil) env st = .ok (.d (.tuple [x])) st1 := by
  have : LF.gCons a LF.gNil env st = .ok [.d x] st1 := by
    unfold LF.gCons LF.gNil
    rw [h1, R.bind_ok, R.bind_ok]
  unfold gTupD
  rw [this, R.bind_ok]
  rfl
theorem q_spoilt {B : Nat} (hB : 10 ^ 41 ≤ B) (hB2 : B ≤ 10 ^ 59) : ∀ (n : Nat) (d : PyData) (dep : Int) (_ : fine B d = true) (_ : cnt d ≤ 1000) (_ : d.depth ≤ n) (_ : 0 ≤ dep) (rest st : Sto) (_ : Bx rest st),
    ∃ d' st', p__law_spoilt (n + 1) [.box 0, .d d, .d (.int dep)] st = .ok (.d d') st' ∧ Sp B d d' ∧ Bx rest st'
  | n, d, dep, hf, hc, hn, hdep, rest, st, hb => by
    have e0 : p__law_spoilt (n + 1) = LF.runN 4 (b__law_spoilt (p__law_spoilt n)) := rfl
    rw [e0]
    have fin : ∀ d' s, b__law_spoilt (p__law_spoilt n) [some (.box 0), some (.d d), some (.d (.int dep)), none] st = .rt (.d d') s → Bx rest s → Sp B d d' → ∃ d' st', LF.runN 4 (b__law_spoilt (p__law_spoilt n)) [.box 0, .d d, .d (.int dep)] st = .ok (.d d') st' ∧ Sp B d d' ∧ Bx rest st' := fun d' s f b h => by
      have y := run_rt (m := 4) (b := b__law_spoilt (p__law_spoilt n)) (as := [.box 0, .d d, .d (.int dep)]) f
      rw [hb.len, b.take] at y
      exact ⟨d', s, y, h, b⟩
    have odd : ∀ s, Bx rest s → (∀ x : GS, sIf (gAnd (gB (gIsi "tuple" (gVar 1))) (gAnd (gB (g2 pGt (gB1 pLen (LF.gCons (gVar 1) LF.gNil)) (gC (.int 0)))) (gB (g2 pGt (gCall p__law_pick (LF.gCons (gVar 0) (LF.gCons (gB1 pMax2 (LF.gCons (gC (.int 2)) (LF.gCons (g2 pSub (gC (.int 7)) (gVar 2)) LF.gNil))) LF.gNil))) (gC (.int 0)))))) x sNil [some (.box 0), some (.d d), some (.d (.int dep)), none] st = .nx [some (.box 0), some (.d d), some (.d (.int dep)), none] s) → ∃ d' st', LF.runN 4 (b__law_spoilt (p__law_spoilt n)) [.box 0, .d d, .d (.int dep)] st = .ok (.d d') st' ∧ Sp B d d' ∧ Bx rest st' := fun s hs k => by
      obtain ⟨d', s', e, h, b⟩ := q_odd hB hB2 d hf hc hs
      refine fin d' s' ?_ b h
      unfold b__law_spoilt
      rw [seq_nx (k _)]
      exact ret_ok ((call2' rfl rfl).trans e)
    cases d with
    | tuple ds =>
      by_cases hl : 0 < ds.length
      · have hlen : ds.length ≤ 1000 := by
          have := cntAll_len ds
          simp only [cnt] at hc
          omega
        obtain ⟨M, hM0, hM1, eM⟩ : ∃ M : Int, 0 < M ∧ M ≤ 10 ∧ gB1 pMax2 (LF.gCons (gC (.int 2)) (LF.gCons (g2 pSub (gC (.int 7)) (gVar 2)) LF.gNil)) [some (.box 0), some (.d (.tuple ds)), some (.d (.int dep)), none] st = .ok (.d (.int M)) st :=
          ⟨if 7 - dep > 2 then 7 - dep else 2, by split <;> omega, by split <;> omega, by simp⟩
        obtain ⟨r, s1, e1, l1, u1, b1⟩ := q_pick M hM0 (by omega) hb
        have t1 : gB (gIsi "tuple" (gVar 1)) [some (.box 0), some (.d (.tuple ds)), some (.d (.int dep)), none] st = .ok true st := by simp
        have t2 : gB (g2 pGt (gB1 pLen (LF.gCons (gVar 1) LF.gNil)) (gC (.int 0))) [some (.box 0), some (.d (.tuple ds)), some (.d (.int dep)), none] st = .ok true st := by
          simp [hl]
        have t3 : gB (g2 pGt (gCall p__law_pick (LF.gCons (gVar 0) (LF.gCons (gB1 pMax2 (LF.gCons (gC (.int 2)) (LF.gCons (g2 pSub (gC (.int 7)) (gVar 2)) LF.gNil))) LF.gNil))) (gC (.int 0))) [some (.box 0), some (.d (.tuple ds)), some (.d (.int dep)), none] st = .ok (decide (0 < r)) s1 := by
          unfold gB
          rw [g2_ok ((call2' rfl eM).trans e1) rfl rfl]
          rfl
        have tc := (and_t (b := gAnd (gB (g2 pGt (gB1 pLen (LF.gCons (gVar 1) LF.gNil)) (gC (.int 0)))) (gB (g2 pGt (gCall p__law_pick (LF.gCons (gVar 0) (LF.gCons (gB1 pMax2 (LF.gCons (gC (.int 2)) (LF.gCons (g2 pSub (gC (.int 7)) (gVar 2)) LF.gNil))) LF.gNil))) (gC (.int 0))))) t1).trans ((and_t t2).trans t3)
        by_cases hr : 0 < r
        · rw [decide_eq_true hr] at tc
          obtain ⟨r2, s2, e2, l2, u2, b2⟩ := q_pick (ds.length : Int) (by omega) (by omega) b1
          have k2 : sSet 3 (gCall p__law_pick (LF.gCons (gVar 0) (LF.gCons (gB1 pLen (LF.gCons (gVar 1) LF.gNil)) LF.gNil))) [some (.box 0), some (.d (.tuple ds)), some (.d (.int dep)), none] s1 = .nx [some (.box 0), some (.d (.tuple ds)), some (.d (.int dep)), some (.d (.int r2))] s2 :=
            set_ok ((call2' (x := .box 0) (y := .d (.int (ds.length : Nat))) rfl (by simp)).trans e2)
          -- the place
          have hpl : ∃ (j : Nat) (s3 : Sto), j < ds.length ∧ Bx rest s3 ∧ sIf (gAnd (gB (g2 pEq (gVar 2) (gC (.int 0)))) (gB (g2 pGt (gCall p__law_pick (LF.gCons (gVar 0) (LF.gCons (gC (.int 5)) LF.gNil))) (gC (.int 0))))) (sSet 3 (g2 pSub (gB1 pLen (LF.gCons (gVar 1) LF.gNil)) (gC (.int 1)))) sNil [some (.box 0), some (.d (.tuple ds)), some (.d (.int dep)), some (.d (.int r2))] s2 = .nx [some (.box 0), some (.d (.tuple ds)), some (.d (.int dep)), some (.d (.int (j : Nat)))] s3 := by
            have q1 := eq_t (env := [some (.box 0), some (.d (.tuple ds)), some (.d (.int dep)), some (.d (.int r2))]) (st := s2) (i := 2) (a := dep) (b := 0) rfl
            have er : ((r2.toNat : Nat) : Int) = r2 := by omega
            by_cases hd0 : dep = 0
            · rw [decide_eq_true hd0] at q1
              obtain ⟨r4, s4, e4, l4, u4, b4⟩ := q_pick 5 (by decide) (by decide) b2
              have q2 : gB (g2 pGt (gCall p__law_pick (LF.gCons (gVar 0) (LF.gCons (gC (.int 5)) LF.gNil))) (gC (.int 0))) [some (.box 0), some (.d (.tuple ds)), some (.d (.int dep)), some (.d (.int r2))] s2 = .ok (decide (0 < r4)) s4 := by
                unfold gB
                rw [g2_ok ((call2' rfl rfl).trans e4) rfl rfl]
                rfl
              have q3 := (and_t q1).trans q2
              by_cases h4 : 0 < r4
              · rw [decide_eq_true h4] at q3
                refine ⟨ds.length - 1, s4, by omega, b4, ?_⟩
                rw [if_ff q3]
                refine (set_ok (x := .d (.int ((ds.length : Int) - 1))) (st1 := s4) (by simp)).trans ?_
                rw [show ((ds.length : Int) - 1) = ((ds.length - 1 : Nat) : Int) from by omega]
                rfl
              · rw [decide_eq_false h4] at q3
                refine ⟨r2.toNat, s4, by omega, b4, ?_⟩
                rw [er]
                exact b_nx q3
            · rw [decide_eq_false hd0] at q1
              refine ⟨r2.toNat, s2, by omega, b2, ?_⟩
              rw [er]
              exact b_nx (and_f q1)
          obtain ⟨j, s3, hj, b3, k3⟩ := hpl
          have hcj := cnt_split ds j hj
          have hfa : fineAll B ds = true := by simpa only [fine] using hf
          match n, hn with
          | 0, hn => simp [PyData.depth] at hn
          | n + 1, hn =>
            obtain ⟨x, s5, e5, hx, b5⟩ := q_spoilt hB hB2 n ds[j] (dep + 1) (fineAll_iff.mp hfa _ (List.getElem_mem hj)) (by simp only [cnt] at hc; omega) (by
              have := depthAll_mem (List.getElem_mem hj)
              simp only [PyData.depth] at hn
              omega) (by omega) rest s3 b3
            have ha := atI_nat (List.getElem?_eq_getElem hj)
            refine fin (.tuple (ds.take j ++ [x] ++ ds.drop (j + 1))) s5 ?_ b5 (sp_put hf hj hx)
            have hlt : (ds.take j).length ≤ ds.length := by rw [List.length_take]; omega
            have hld : (ds.drop (j + 1)).length ≤ ds.length := by rw [List.length_drop]; omega
            have hz1 : (ds.take j).length + [x].length ≤ bigN := by
              rw [List.length_singleton]
              unfold bigN; omega
            have hz2 : (ds.take j ++ [x]).length + (ds.drop (j + 1)).length ≤ bigN := by
              rw [List.length_append, List.length_singleton]
              unfold bigN; omega
            have w1 : gSl (gVar 1) oNone (oSome (gVar 3)) [some (.box 0), some (.d (.tuple ds)), some (.d (.int dep)), some (.d (.int (j : Nat)))] s3 = .ok (.d (.tuple (ds.take j))) s3 := by
              have := cut_nat ds j
              simp [this]
            have w2 : gTupD (LF.gCons (gCall (p__law_spoilt (n + 1)) (LF.gCons (gVar 0) (LF.gCons (g2 pIx (gVar 1) (gVar 3)) (LF.gCons (g2 pAdd (gVar 2) (gC (.int 1))) LF.gNil)))) LF.gNil) [some (.box 0), some (.d (.tuple ds)), some (.d (.int dep)), some (.d (.int (j : Nat)))] s3 = .ok (.d (.tuple [x])) s5 :=
              tup1 ((call3' (x := .box 0) (y := .d ds[j]) (z := .d (.int (dep + 1))) rfl (g2_ok (x := .d (.tuple ds)) (y := .d (.int (j : Nat))) rfl rfl (by simpa using ha)) (by simp)).trans e5)
            have w3 : gSl (gVar 1) (oSome (g2 pAdd (gVar 3) (gC (.int 1)))) oNone [some (.box 0), some (.d (.tuple ds)), some (.d (.int dep)), some (.d (.int (j : Nat)))] s5 = .ok (.d (.tuple (ds.drop (j + 1)))) s5 := by
              have := cut_drop ds j hj
              simp [this]
            unfold b__law_spoilt
            apply seq_rt
            rw [if_ff tc, seq_nx k2, seq_nx k3]
            exact ret_ok (g2_ok (g2_ok w1 w2 (if_pos hz1)) w3 (if_pos hz2))
        · rw [decide_eq_false hr] at tc
          exact odd s1 b1 fun x => b_nx tc
      · have hl0 : ds = [] := List.eq_nil_of_length_eq_zero (by omega)
        subst hl0
        exact odd st hb fun x => by simp
    | dict _ => simp [fine] at hf
    | _ => exact odd st hb fun x => by simp
end G
set_option Elab.async false
set_option linter.all false
set_option maxRecDepth 100000
set_option maxHeartbeats 2000000
namespace G
open PySem LF
/-! the law, from its house on -/
def OkV : Ver → Prop
  | .no f _ => PyData.strOk f = true
  | .yes _ => True
theorem strOk_words : PyData.strOk "shape" = true ∧ PyData.strOk "size" = true ∧ PyData.strOk "rows" = true ∧ PyData.strOk "row" = true ∧ PyData.strOk "cross" = true ∧ PyData.strOk "" = true := by decide +kernel
theorem ff_ok {w : Wd} {n : Int} {rs : List PyData} : ∀ {c k : Nat} {j : Nat} {f : Str}, ff w n rs c k = some (j, f) → PyData.strOk f = true
  | 0, k, j, f, h => by simp [ff] at h
  | c + 1, k, j, f, h => by
    simp only [ff] at h
    split at h
    · exact ff_ok h
    · cases h
      rcases rowF_cases w n rs k with h | h | h <;> rw [h]
      · exact strOk_words.2.2.2.2.2
      · exact strOk_words.2.2.2.2.1
      · exact strOk_words.2.2.2.1
theorem verP_ok (w : Wd) (a b : PyData) : OkV (verP w a b) := by
  unfold verP
  split
  · split
    · split
      · split
        · unfold verR
          split
          · rename_i h
            exact ff_ok h
          · trivial
        · exact strOk_words.2.2.1
      · exact strOk_words.2.2.1
    · exact strOk_words.2.1
  · exact strOk_words.2.1
theorem besV_ok : ∀ (ps : List PyData) (k : Nat) (t : Int), OkV (besV ps k t)
  | [], _, _ => trivial
  | p :: r, k, t => by
    simp only [besV]
    split
    · exact besV_ok r _ _
    · exact strOk_words.2.2.2.1
theorem verD_ok (d : PyData) : OkV (verD d) := by
  cases form d with
  | plain w a b hw =>
    rw [verD_plain hw]
    exact verP_ok w a b
  | bes y =>
    rw [verD_bes]
    unfold verB
    split
    · split
      · exact besV_ok _ _ _
      · exact strOk_words.2.2.1
    · exact strOk_words.2.2.1
  | no _ h h1 h2 =>
    rw [h1]
    exact strOk_words.1
theorem verT_ok {v : Ver} (h : OkV v) : eqOK (verT v) = true ∧ (verT v).depth ≤ 1 := by
  cases v with
  | no f k =>
    have h' : PyData.strOk f = true := h
    have h2 := strOk_lit.2.1
    refine ⟨?_, by simp [verT, PyData.depth, PyData.depthAll]⟩
    simp only [verT, eqOK, eqOKAll, Bool.and_eq_true, decide_eq_true_eq]
    exact ⟨by simp, h2, h', trivial, trivial⟩
  | yes n =>
    have h2 := strOk_lit.1
    refine ⟨?_, by simp [verT, PyData.depth, PyData.depthAll]⟩
    simp only [verT, eqOK, eqOKAll, Bool.and_eq_true, decide_eq_true_eq]
    exact ⟨by simp, h2, trivial, trivial⟩
theorem verT_at (v : Ver) : ∃ r, (∃ xs, verT v = .tuple (.str r :: xs)) ∧ r = (if v.isY = true then ("let" : Str) else ("no" : Str)) := by
  cases v with
  | no f k => exact ⟨_, ⟨_, rfl⟩, rfl⟩
  | yes n => exact ⟨_, ⟨_, rfl⟩, rfl⟩
theorem verT_0 (v : Ver) : L2.atI (match verT v with | .tuple xs => xs | _ => []) 0 = some (.str (if v.isY = true then ("let" : Str) else ("no" : Str))) := by
  cases v with
  | no f k => simp [verT, Ver.isY]
  | yes n => simp [verT, Ver.isY]
/-- what the spoiling keeps -/
structure Hs (i : Nat) (h : PyData) : Prop where
  f : fine (HB + i) h = true
  dp : h.depth ≤ 8 + i
  ct : cnt h ≤ 246 * 2 ^ i
theorem Hs.gd {i : Nat} {h : PyData} (H : Hs i h) (hi : i ≤ 2) : Gd VB 10 984 h := by
  have h1 : VB = 10 ^ 60 := rfl
  have h2 : HB = 10 ^ 58 := rfl
  have h3 : 2 ^ i ≤ 2 ^ 2 := Nat.pow_le_pow_right (by decide) hi
  exact ⟨fine_mono (by omega) h H.f, by have := H.dp; omega, by have := H.ct; omega⟩
noncomputable def spB : GS := (sSet 9 (gCall (p__law_spoilt (16)) (LF.gCons (gVar 1) (LF.gCons (gVar 9) (LF.gCons (gC (.int 0)) LF.gNil)))))
theorem sp_step {rest st : Sto} (hb : Bx rest st) {i : Nat} (hi : i ≤ 1) {h : PyData} (H : Hs i h) (a0 a2 a3 a4 a5 a6 a7 a8 : Option A) :
    ∃ st' h', spB [a0, some (.box 0), a2, a3, a4, a5, a6, a7, a8, some (.d h)] st = .nx [a0, some (.box 0), a2, a3, a4, a5, a6, a7, a8, some (.d h')] st' ∧ Bx rest st' ∧ Hs (i + 1) h' := by
  have h2 : HB = 10 ^ 58 := rfl
  have h3 : 2 ^ i ≤ 2 ^ 1 := Nat.pow_le_pow_right (by decide) hi
  obtain ⟨h', s, e, hs, b⟩ := q_spoilt (B := HB + i) (by omega) (by omega) 15 h 0 H.f (by have := H.ct; omega) (by have := H.dp; omega) (by omega) rest st hb
  refine ⟨s, h', set_ok ((call3' rfl rfl rfl).trans e), b, ⟨hs.f, by have := hs.dp; have := H.dp; omega, ?_⟩⟩
  have := hs.ct
  have := H.ct
  rw [Nat.pow_succ]
  omega
theorem sp_loop {rest : Sto} (a0 a2 a3 a5 a6 a7 a8 : Option A) : ∀ (ks : List PyData) (i : Nat) (_ : i + ks.length ≤ 2) (st : Sto) (_ : Bx rest st) (h : PyData) (_ : Hs i h) (a4 : Option A),
    ∃ st' h' b4 j, forD (fun _ => True) (ggName 4) spB ks [a0, some (.box 0), a2, a3, a4, a5, a6, a7, a8, some (.d h)] st = .nx [a0, some (.box 0), a2, a3, b4, a5, a6, a7, a8, some (.d h')] st' ∧ Bx rest st' ∧ j ≤ 2 ∧ Hs j h'
  | [], i, hi, st, hb, h, H, a4 => ⟨st, h, a4, i, by simp, hb, by simpa using hi, H⟩
  | k :: ks, i, hi, st, hb, h, H, a4 => by
    rw [List.length_cons] at hi
    obtain ⟨s1, h1, e1, b1, H1⟩ := sp_step hb (by omega) H a0 a2 a3 (some (.d k)) a5 a6 a7 a8
    obtain ⟨s2, h2, b4, j, e2, b2, hj, H2⟩ := sp_loop a0 a2 a3 a5 a6 a7 a8 ks (i + 1) (by omega) s1 b1 h1 H1 (some (.d k))
    refine ⟨s2, h2, b4, j, ?_, b2, hj, H2⟩
    rw [forD_cons']
    simp only [List.set]
    rw [e1, forK_nx, e2]
theorem verd_12 : verD (.tuple [.str "table", .int 12, .tuple []]) = .no "rows" (-1) := by
  have h := verD_plain (w := .table) (by decide) (.int 12) (.tuple [])
  simp only [Wd.s] at h
  rw [h]
  simp [verP, secD, rowsD]
theorem verd_13 : verD (.tuple [.str "table", .int 13, .tuple []]) = .no "size" (-1) := by
  have h := verD_plain (w := .table) (by decide) (.int 13) (.tuple [])
  simp only [Wd.s] at h
  rw [h]
  simp [verP, secD]
theorem gd_1213 (n : Int) (h0 : 0 ≤ n) (h1 : n ≤ 100) : Gd HB 2 10 (.tuple [.str "table", .int n, .tuple []]) :=
  hb_house (k := 1) (w := 1) hb_words.2.2.2.2.1 (by omega) (by omega) (hb_tup (k := 0) (w := 1) (by simp) (by simp)) (by omega)
theorem eq_text {k W : Nat} {d : PyData} (h : Gd VB k W d) {a b : GE} {env : LF.Env} {st st1 st2 : Sto} (ha : a env st = .ok (.d (.str d.shown)) st1) (hb : b env st1 = .ok (.d (.str d.shown)) st2) : g2 pEq a b env st = .ok (.d (.bool true)) st2 := by
  have hs := sh_shown h
  refine g2_ok ha hb ?_
  simp [hs, PyData.eqv]
/-- the law's last steps -/
noncomputable def endB : GS := (sSeq (sIf (gOr (gNot (gB (gCall p__law_kinds_hold (LF.gCons (gVar 1) LF.gNil)))) (gNot (gB (gCall p__law_lots_hold (LF.gCons (gVar 1) LF.gNil))))) (sRet (gC (.bool false))) sNil) (sSeq (sSet 5 (gTupD (LF.gCons (gCall p__law_lets (LF.gCons (gTupD (LF.gCons (gC (.str "table")) (LF.gCons (gC (.int 12)) (LF.gCons (gTupD LF.gNil) LF.gNil)))) LF.gNil)) (LF.gCons (gCall p__law_lets (LF.gCons (gTupD (LF.gCons (gC (.str "table")) (LF.gCons (gC (.int 13)) (LF.gCons (gTupD LF.gNil) LF.gNil)))) LF.gNil)) LF.gNil)))) (sSeq (sIf (gNot (gB (gCall (p__law_same (16)) (LF.gCons (gVar 5) (LF.gCons (gTupD (LF.gCons (gTupD (LF.gCons (gC (.str "no")) (LF.gCons (gC (.str "rows")) (LF.gCons (gNeg (gC (.int 1))) LF.gNil)))) (LF.gCons (gTupD (LF.gCons (gC (.str "no")) (LF.gCons (gC (.str "size")) (LF.gCons (gNeg (gC (.int 1))) LF.gNil)))) LF.gNil))) LF.gNil))))) (sRet (gC (.bool false))) sNil) (sSeq (sSet 6 (gCall (p__law_verdict (16)) (LF.gCons (gVar 9) LF.gNil))) (sSeq (sSet 7 (gRepr (gVar 9))) (sSeq (sSet 5 (gCall p__law_lets (LF.gCons (gVar 9) LF.gNil))) (sSeq (sIf (gOr (gNot (gB (gCall (p__law_same (16)) (LF.gCons (gVar 5) (LF.gCons (gVar 6) LF.gNil))))) (gNot (gB (gCall (p__law_same (16)) (LF.gCons (gCall (p_is_house (16)) (LF.gCons (gVar 9) LF.gNil)) (LF.gCons (g2 pEq (g2 pIx (gVar 6) (gC (.int 0))) (gC (.str "let"))) LF.gNil)))))) (sRet (gC (.bool false))) sNil) (sSeq (sIf (gOr (gNot (gB (gCall (p__law_same (16)) (LF.gCons (gCall p__law_lets (LF.gCons (gVar 9) LF.gNil)) (LF.gCons (gVar 6) LF.gNil))))) (gNot (gB (gCall (p__law_same (16)) (LF.gCons (gCallK 1 (p_is_house (16)) 0 1 [0] LF.gNil (LF.gCons (gVar 9) LF.gNil)) (LF.gCons (g2 pEq (g2 pIx (gVar 6) (gC (.int 0))) (gC (.str "let"))) LF.gNil)))))) (sRet (gC (.bool false))) sNil) (sRet (g2 pEq (gRepr (gVar 9)) (gVar 7)))))))))))
theorem callK1 {f : List A → Sto → R A} {g : GE} {env : LF.Env} {st st1 : Sto} {x : A} (h : g env st = .ok x st1) : gCallK 1 f 0 1 [0] LF.gNil (LF.gCons g LF.gNil) env st = f [x] st1 := by
  unfold gCallK
  have h2 : LF.gCons g LF.gNil env st = .ok [x] st1 := by
    unfold LF.gCons LF.gNil
    rw [h, R.bind_ok, R.bind_ok]
  have h1 : LF.gNil env st = .ok [] st := rfl
  rw [h1, R.bind_ok, h2, R.bind_ok]
  have e : gK 0 1 [0] ([] : List A) [x] = [x] := rfl
  rw [e]
  rfl
theorem tup2 {a b : GE} {env : LF.Env} {st st1 st2 : Sto} {x y : PyData} (h1 : a env st = .ok (.d x) st1) (h2 : b env st1 = .ok (.d y) st2) : gTupD (LF.gCons a (LF.gCons b LF.gNil)) env st = .ok (.d (.tuple [x, y])) st2 := by
  have : LF.gCons a (LF.gCons b LF.gNil) env st = .ok [.d x, .d y] st2 := by
    unfold LF.gCons LF.gNil
    rw [h1, R.bind_ok, h2, R.bind_ok, R.bind_ok, R.bind_ok]
  unfold gTupD
  rw [this, R.bind_ok]
  rfl
theorem not_true {g : GE} {env : LF.Env} {st st1 : Sto} (h : g env st = .ok (.d (.bool true)) st1) : gNot (gB g) env st = .ok false st1 := by
  unfold gNot gB
  rw [h]
  rfl
theorem law_end {rest st : Sto} (hb : Bx rest st) {h : PyData} (H : Gd VB 10 984 h) (a0 a2 a3 a4 a5 a6 a7 a8 : Option A) :
    ∃ st', endB [a0, some (.box 0), a2, a3, a4, a5, a6, a7, a8, some (.d h)] st = .rt (.d (.bool true)) st' := by
  obtain ⟨s1, e1, b1⟩ := q_kinds_hold hb
  obtain ⟨s2, e2, b2⟩ := q_lots_hold b1
  have f12 := q_lets _ (gd_1213 12 (by omega) (by omega)) (by omega) (by omega) s2
  have f13 := q_lets _ (gd_1213 13 (by omega) (by omega)) (by omega) (by omega) s2
  rw [verd_12] at f12
  rw [verd_13] at f13
  have fv := q_verdict (B := VB) (W := 984) (by omega) 15 10 h H (by omega) (by have := H.dp; omega) s2
  have fl := q_lets h H (by omega) (by omega) s2
  have fh := q_is_house h H (by omega) (by omega) s2
  obtain ⟨o1, o2⟩ := verT_ok (verD_ok h)
  have hY : ∀ x5 x7 : Option A, g2 pEq (g2 pIx (gVar 6) (gC (.int 0))) (gC (.str "let")) [a0, some (.box 0), a2, a3, a4, x5, some (.d (verT (verD h))), x7, a8, some (.d h)] s2 = .ok (.d (.bool (verD h).isY)) s2 := fun x5 x7 => by
    cases verD h with
    | no f k => simp [verT, Ver.isY, eqv_str]
    | yes n => simp [verT, Ver.isY, eqv_str]
  have hT : eqOK (.tuple [.tuple [.str "no", .str "rows", .int (-1)], .tuple [.str "no", .str "size", .int (-1)]]) = true := by decide +kernel
  refine ⟨s2, ?_⟩
  unfold endB
  rw [seq_nx (b_nx (or_ff (st1 := s1) (st2 := s2) (not_true ((call1d rfl).trans e1)) (not_true ((call1d rfl).trans e2))))]
  rw [seq_nx (env' := [a0, some (.box 0), a2, a3, a4, some (.d (.tuple [.tuple [.str "no", .str "rows", .int (-1)], .tuple [.str "no", .str "size", .int (-1)]])), a6, a7, a8, some (.d h)]) (st' := s2) (set_ok (tup2 ((call1d (tup3 rfl rfl rfl)).trans f12) ((call1d (tup3 rfl rfl rfl)).trans f13)))]
  rw [seq_nx (b_nx (not_same (d := .tuple [.tuple [.str "no", .str "rows", .int (-1)], .tuple [.str "no", .str "size", .int (-1)]]) (st1 := s2) (st2 := s2) hT (by simp [PyData.depth, PyData.depthAll]) rfl (by simp)))]
  rw [seq_nx (env' := [a0, some (.box 0), a2, a3, a4, some (.d (.tuple [.tuple [.str "no", .str "rows", .int (-1)], .tuple [.str "no", .str "size", .int (-1)]])), some (.d (verT (verD h))), a7, a8, some (.d h)]) (st' := s2) (set_ok ((call1d rfl).trans fv))]
  rw [seq_nx (env' := [a0, some (.box 0), a2, a3, a4, some (.d (.tuple [.tuple [.str "no", .str "rows", .int (-1)], .tuple [.str "no", .str "size", .int (-1)]])), some (.d (verT (verD h))), some (.d (.str h.shown)), a8, some (.d h)]) (st' := s2) (set_ok (q_repr H (by omega) (by omega) rfl))]
  rw [seq_nx (env' := [a0, some (.box 0), a2, a3, a4, some (.d (verT (verD h))), some (.d (verT (verD h))), some (.d (.str h.shown)), a8, some (.d h)]) (st' := s2) (set_ok ((call1d rfl).trans fl))]
  rw [seq_nx (b_nx (or_ff (st1 := s2) (st2 := s2) (not_same o1 (by omega) rfl rfl) (not_same (d := .bool (verD h).isY) rfl (by simp [PyData.depth]) ((call1d rfl).trans fh) (hY _ _))))]
  rw [seq_nx (b_nx (or_ff (st1 := s2) (st2 := s2) (not_same o1 (by omega) ((call1d rfl).trans fl) rfl) (not_same (d := .bool (verD h).isY) rfl (by simp [PyData.depth]) ((callK1 rfl).trans fh) (hY _ _))))]
  exact ret_ok (eq_text H (q_repr H (by omega) (by omega) rfl) rfl)
end G
set_option Elab.async false
set_option linter.all false
set_option maxRecDepth 100000
set_option maxHeartbeats 2000000
namespace G
open PySem LF
/-! the law holds at every script -/
theorem menu12 (r : Int) (l : 0 ≤ r) (u : r < 12) : ∃ n : Int, L2.atI [PyData.int 0, .int 1, .int 0, .int 1, .int 0, .int 1, .int 0, .int 1, .int 2, .int 3, .int 4, .int 5] r = some (.int n) := by
  have h : r = 0 ∨ r = 1 ∨ r = 2 ∨ r = 3 ∨ r = 4 ∨ r = 5 ∨ r = 6 ∨ r = 7 ∨ r = 8 ∨ r = 9 ∨ r = 10 ∨ r = 11 := by omega
  rcases h with rfl | rfl | rfl | rfl | rfl | rfl | rfl | rfl | rfl | rfl | rfl | rfl <;> exact ⟨_, rfl⟩
theorem nums4 (b : Bool) (r : Int) (l : 0 ≤ r) (u : r < 4) : ∃ n : Nat, n ≤ 2 ∧ L2.atI (if b = true then [PyData.int 0, .int 0, .int 0, .int 1] else [PyData.int 0, .int 1, .int 1, .int 2]) r = some (.int (n : Nat)) := by
  have h : r = 0 ∨ r = 1 ∨ r = 2 ∨ r = 3 := by omega
  cases b
  · rcases h with rfl | rfl | rfl | rfl
    · exact ⟨0, by decide, rfl⟩
    · exact ⟨1, by decide, rfl⟩
    · exact ⟨1, by decide, rfl⟩
    · exact ⟨2, by decide, rfl⟩
  · rcases h with rfl | rfl | rfl | rfl
    · exact ⟨0, by decide, rfl⟩
    · exact ⟨0, by decide, rfl⟩
    · exact ⟨0, by decide, rfl⟩
    · exact ⟨1, by decide, rfl⟩
theorem hb_bes {k w : Nat} {b : PyData} (hb : Gd HB k w b) {W : Nat} (hW : w + 2 ≤ W) : Gd HB (k + 1) W (.tuple [.str "beside", b]) := by
  refine Gd.tup (fun x hx => ?_) ?_
  · simp only [List.mem_cons, List.not_mem_nil, or_false] at hx
    rcases hx with rfl | rfl
    · exact ⟨hb_words.2.2.2.2.2, by simp [PyData.depth]⟩
    · exact ⟨hb.f, hb.dp⟩
  · have := hb.ct
    simp only [cntAll, cnt]
    omega
theorem Hs.of {k W : Nat} {h : PyData} (g : Gd HB k W h) (hk : k ≤ 8) (hW : W ≤ 246) : Hs 0 h := ⟨g.f, by have := g.dp; omega, by have := g.ct; omega⟩
noncomputable def hmB : GS := (sIf (gB (g2 pEq (gVar 2) (gC (.int 5)))) (sSeq (sBoxOf 8 (gComp (giR1 (g2 pAdd (gC (.int 2)) (gCall p__law_pick (LF.gCons (gVar 1) (LF.gCons (gC (.int 2)) LF.gNil))))) 4 gYes (gCall p__law_home (LF.gCons (gVar 1) (LF.gCons (gCall p__law_pick (LF.gCons (gVar 1) (LF.gCons (gC (.int 5)) LF.gNil))) LF.gNil))))) (sSeq (sIf (gB (g2 pEq (gCall p__law_pick (LF.gCons (gVar 1) (LF.gCons (gC (.int 3)) LF.gNil))) (gC (.int 0)))) (sPut (gVar 8) (gCall p__law_pick (LF.gCons (gVar 1) (LF.gCons (gB1 pLen (LF.gCons (gVar 8) LF.gNil)) LF.gNil))) (gTupD (LF.gCons (gC (.str "beside")) (LF.gCons (gTupD (LF.gCons (g2 pIx (gVar 8) (gC (.int 0))) (LF.gCons (g2 pIx (gVar 8) (gC (.int 1))) LF.gNil))) LF.gNil)))) sNil) (sSet 9 (gTupD (LF.gCons (gC (.str "beside")) (LF.gCons (gB1 pTup (LF.gCons (gVar 8) LF.gNil)) LF.gNil)))))) (sSet 9 (gCall p__law_home (LF.gCons (gVar 1) (LF.gCons (gVar 2) LF.gNil)))))
theorem q_hm (mu : Int) (a0 : Option A) {st : Sto} (hb : Bx [] st) : ∃ rest st' x8 h, hmB [a0, some (.box 0), some (.d (.int mu)), none, none, none, none, none, none, none] st = .nx [a0, some (.box 0), some (.d (.int mu)), none, none, none, none, none, x8, some (.d h)] st' ∧ Bx rest st' ∧ Hs 0 h := by
  have t := eq_t (env := [a0, some (.box 0), some (.d (.int mu)), none, none, none, none, none, none, none]) (st := st) (i := 2) (a := mu) (b := 5) rfl
  by_cases h5 : mu = 5
  · rw [decide_eq_true h5] at t
    obtain ⟨r, s1, e1, l1, u1, b1⟩ := q_pick 2 (by decide) (by decide) hb
    obtain ⟨ds, s2, e2, l2, p2, b2⟩ := comp_rdraws' (i := 4) (P := fun d => Gd HB 4 39 d) (elt := gCall p__law_home (LF.gCons (gVar 1) (LF.gCons (gCall p__law_pick (LF.gCons (gVar 1) (LF.gCons (gC (.int 5)) LF.gNil))) LF.gNil))) (env := [a0, some (.box 0), some (.d (.int mu)), none, none, none, none, none, none, none]) (g := g2 pAdd (gC (.int 2)) (gCall p__law_pick (LF.gCons (gVar 1) (LF.gCons (gC (.int 2)) LF.gNil)))) (2 + r).toNat (by omega) (st := st) b1 (by
        rw [show (((2 + r).toNat : Nat) : Int) = 2 + r from by omega]
        exact g2_ok rfl ((call2' rfl rfl).trans e1) rfl) (fun k hk st hb => by
        obtain ⟨q, s, e, l, u, b⟩ := q_pick 5 (by decide) (by decide) hb
        obtain ⟨d, s', e', g, b'⟩ := q_home q b
        exact ⟨d, s', (call2' rfl ((call2' rfl rfl).trans e)).trans e', g, b'⟩)
    have hds : ∀ d ∈ ds, Gd HB 6 81 d := fun d hd => (p2 d hd).mono (Nat.le_refl _) (by omega) (by omega)
    have hlen : 2 ≤ ds.length ∧ ds.length ≤ 3 := by omega
    have b3 : Bx [ds] (s2 ++ [ds]) := bx_push b2 ds
    have k1 : sBoxOf 8 (gComp (giR1 (g2 pAdd (gC (.int 2)) (gCall p__law_pick (LF.gCons (gVar 1) (LF.gCons (gC (.int 2)) LF.gNil))))) 4 gYes (gCall p__law_home (LF.gCons (gVar 1) (LF.gCons (gCall p__law_pick (LF.gCons (gVar 1) (LF.gCons (gC (.int 5)) LF.gNil))) LF.gNil)))) [a0, some (.box 0), some (.d (.int mu)), none, none, none, none, none, none, none] st = .nx [a0, some (.box 0), some (.d (.int mu)), none, none, none, none, none, some (.box 1), none] (s2 ++ [ds]) := by
      unfold sBoxOf
      rw [e2]
      simp [b2.len]
    obtain ⟨r3, s3, e3, l3, u3, b4⟩ := q_pick 3 (by decide) (by decide) b3
    have t3 : gB (g2 pEq (gCall p__law_pick (LF.gCons (gVar 1) (LF.gCons (gC (.int 3)) LF.gNil))) (gC (.int 0))) [a0, some (.box 0), some (.d (.int mu)), none, none, none, none, none, some (.box 1), none] (s2 ++ [ds]) = .ok (decide (r3 = 0)) s3 := by
      unfold gB
      rw [g2_ok (d := .bool (decide (r3 = 0))) ((call2' rfl rfl).trans e3) rfl (by simp [eqv_int])]
      rfl
    have last : ∀ (es : List PyData) (s : Sto), Bx [es] s → es.length ≤ 3 → (∀ d ∈ es, Gd HB 6 81 d) → sIf (gB (g2 pEq (gCall p__law_pick (LF.gCons (gVar 1) (LF.gCons (gC (.int 3)) LF.gNil))) (gC (.int 0)))) (sPut (gVar 8) (gCall p__law_pick (LF.gCons (gVar 1) (LF.gCons (gB1 pLen (LF.gCons (gVar 8) LF.gNil)) LF.gNil))) (gTupD (LF.gCons (gC (.str "beside")) (LF.gCons (gTupD (LF.gCons (g2 pIx (gVar 8) (gC (.int 0))) (LF.gCons (g2 pIx (gVar 8) (gC (.int 1))) LF.gNil))) LF.gNil)))) sNil [a0, some (.box 0), some (.d (.int mu)), none, none, none, none, none, some (.box 1), none] (s2 ++ [ds]) = .nx [a0, some (.box 0), some (.d (.int mu)), none, none, none, none, none, some (.box 1), none] s → ∃ rest st' x8 h, hmB [a0, some (.box 0), some (.d (.int mu)), none, none, none, none, none, none, none] st = .nx [a0, some (.box 0), some (.d (.int mu)), none, none, none, none, none, x8, some (.d h)] st' ∧ Bx rest st' ∧ Hs 0 h := fun es s bs le pe k2 => by
      have g := bx1_get (rest := []) bs
      have g' : s[1]? = some es := g
      refine ⟨[es], s, some (.box 1), .tuple [.str "beside", .tuple es], ?_, bs, ?_⟩
      · unfold hmB
        have c0 : ∀ a b : GS, sIf (gB (g2 pEq (gVar 2) (gC (.int 5)))) a b [a0, some (.box 0), some (.d (.int mu)), none, none, none, none, none, none, none] st = a [a0, some (.box 0), some (.d (.int mu)), none, none, none, none, none, none, none] st := fun a b => by
          unfold sIf
          rw [t]
          rfl
        rw [c0, seq_nx k1, seq_nx k2]
        exact set_ok (tup2 (x := .str "beside") (y := .tuple es) (st1 := s) (st2 := s) rfl (by simp [g']))
      · exact Hs.of (hb_bes (hb_tup (k := 6) (w := 81) (W := 244) pe (by omega)) (W := 246) (by omega)) (by omega) (by omega)
    by_cases h0 : r3 = 0
    · rw [decide_eq_true h0] at t3
      obtain ⟨r4, s4, e4, l4, u4, b5⟩ := q_pick (ds.length : Int) (by omega) (by omega) b4
      have g3 : s3[1]? = some ds := bx1_get (rest := []) b4
      have g4 : s4[1]? = some ds := bx1_get (rest := []) b5
      match ds, hlen, hds, p2 with
      | p0 :: p1 :: r, hlen, hds, p2 =>
        have hX : Gd HB 6 81 (.tuple [.str "beside", .tuple [p0, p1]]) := by
          have h2 : Gd HB 5 79 (.tuple [p0, p1]) := hb_tup (k := 4) (w := 39) (fun d hd => by
            simp only [List.mem_cons, List.not_mem_nil, or_false] at hd
            rcases hd with rfl | rfl
            · exact p2 _ (by simp)
            · exact p2 _ (by simp)) (by simp)
          exact hb_bes h2 (by omega)
        have hj : L2.ixN (p0 :: p1 :: r).length r4 = some r4.toNat := by
          unfold L2.ixN
          rw [if_pos l4, if_pos u4]
        refine last ((p0 :: p1 :: r).set r4.toNat (.tuple [.str "beside", .tuple [p0, p1]])) (s4.set 1 ((p0 :: p1 :: r).set r4.toNat (.tuple [.str "beside", .tuple [p0, p1]]))) (bx1_set (rest := []) b5 _) (by rw [List.length_set]; exact hlen.2) (fun d hd => ?_) ?_
        · rcases List.mem_or_eq_of_mem_set hd with hd | rfl
          · exact hds d hd
          · exact hX
        · rw [if_ff t3]
          have w1 : gTupD (LF.gCons (gC (.str "beside")) (LF.gCons (gTupD (LF.gCons (g2 pIx (gVar 8) (gC (.int 0))) (LF.gCons (g2 pIx (gVar 8) (gC (.int 1))) LF.gNil))) LF.gNil)) [a0, some (.box 0), some (.d (.int mu)), none, none, none, none, none, some (.box 1), none] s3 = .ok (.d (.tuple [.str "beside", .tuple [p0, p1]])) s3 := by
            have h0 : L2.atI (p0 :: p1 :: r) 0 = some p0 := at0 _ _
            have h1 : L2.atI (p0 :: p1 :: r) 1 = some p1 := atI_nat (k := 1) rfl
            exact tup2 rfl (tup2 (g2_ok (x := .box 1) (y := .d (.int 0)) rfl rfl (by simp [g3])) (g2_ok (x := .box 1) (y := .d (.int 1)) rfl rfl (by simp [g3, h1])))
          have w2 : gCall p__law_pick (LF.gCons (gVar 1) (LF.gCons (gB1 pLen (LF.gCons (gVar 8) LF.gNil)) LF.gNil)) [a0, some (.box 0), some (.d (.int mu)), none, none, none, none, none, some (.box 1), none] s3 = .ok (.d (.int r4)) s4 :=
            (call2' (x := .box 0) (y := .d (.int ((p0 :: p1 :: r).length : Nat))) rfl (by
              rw [gB1_one]
              simp [g3])).trans e4
          unfold sPut
          rw [w1, R.bindO_ok]
          have w3 : gVar 8 [a0, some (.box 0), some (.d (.int mu)), none, none, none, none, none, some (.box 1), none] s3 = .ok (.box 1) s3 := rfl
          rw [w3, R.bindO_ok, w2, R.bindO_ok]
          dsimp only
          rw [g4]
          dsimp only
          rw [hj]
    · rw [decide_eq_false h0] at t3
      exact last ds s3 b4 hlen.2 hds (b_nx t3)
  · rw [decide_eq_false h5] at t
    obtain ⟨d, s, e, g, b⟩ := q_home mu hb
    refine ⟨[], s, none, d, ?_, b, Hs.of g (by omega) (by omega)⟩
    unfold hmB sIf
    rw [t]
    exact set_ok ((call2' rfl rfl).trans e)
theorem q_law (ns : List Int) : ∃ st, p_law [.scr (ns.map .int)] [] = .ok (.d (.bool true)) st := by
  have b0 : Bx [] [boxOf ns 0 0 0] := ⟨ns, 0, 0, 0, rfl, by omega, by omega⟩
  obtain ⟨r1, s1, e1, l1, u1, b1⟩ := q_pick 12 (by decide) (by decide) b0
  obtain ⟨mu, emu⟩ := menu12 r1 l1 u1
  have k1 : sBox 1 (LF.gCons (gB1 pLst (LF.gCons (gVar 0) LF.gNil)) (LF.gCons (gC (.int 0)) (LF.gCons (gC (.int 0)) (LF.gCons (gC (.int 0)) LF.gNil)))) [some (.scr (ns.map .int)), none, none, none, none, none, none, none, none, none] [] = .nx [some (.scr (ns.map .int)), some (.box 0), none, none, none, none, none, none, none, none] [boxOf ns 0 0 0] := by
    simp [boxOf]
  have k2 : sSet 2 (g2 pIx (gLstD (LF.gCons (gC (.int 0)) (LF.gCons (gC (.int 1)) (LF.gCons (gC (.int 0)) (LF.gCons (gC (.int 1)) (LF.gCons (gC (.int 0)) (LF.gCons (gC (.int 1)) (LF.gCons (gC (.int 0)) (LF.gCons (gC (.int 1)) (LF.gCons (gC (.int 2)) (LF.gCons (gC (.int 3)) (LF.gCons (gC (.int 4)) (LF.gCons (gC (.int 5)) LF.gNil))))))))))))) (gCall p__law_pick (LF.gCons (gVar 1) (LF.gCons (gC (.int 12)) LF.gNil)))) [some (.scr (ns.map .int)), some (.box 0), none, none, none, none, none, none, none, none] [boxOf ns 0 0 0] = .nx [some (.scr (ns.map .int)), some (.box 0), some (.d (.int mu)), none, none, none, none, none, none, none] s1 := by
    simp [e1, emu]
  obtain ⟨rest, s2, x8, h, k3, b2, H⟩ := q_hm mu (some (.scr (ns.map .int))) b1
  unfold hmB at k3
  have G0 := H.gd (by omega)
  have fv := q_verdict (B := VB) (W := 984) (by omega) 15 10 h G0 (by omega) (by have := G0.dp; omega) s2
  have k4 : sSet 3 (g2 pIx (gLstD (LF.gCons (gLstD (LF.gCons (gC (.int 0)) (LF.gCons (gC (.int 1)) (LF.gCons (gC (.int 1)) (LF.gCons (gC (.int 2)) LF.gNil))))) (LF.gCons (gLstD (LF.gCons (gC (.int 0)) (LF.gCons (gC (.int 0)) (LF.gCons (gC (.int 0)) (LF.gCons (gC (.int 1)) LF.gNil))))) LF.gNil))) (gB1 pInt1 (LF.gCons (g2 pEq (g2 pIx (gCall (p__law_verdict (16)) (LF.gCons (gVar 9) LF.gNil)) (gC (.int 0))) (gC (.str "no"))) LF.gNil))) [some (.scr (ns.map .int)), some (.box 0), some (.d (.int mu)), none, none, none, none, none, x8, some (.d h)] s2 = .nx [some (.scr (ns.map .int)), some (.box 0), some (.d (.int mu)), some (.d (.list (if (!(verD h).isY) = true then [PyData.int 0, .int 0, .int 0, .int 1] else [PyData.int 0, .int 1, .int 1, .int 2]))), none, none, none, none, x8, some (.d h)] s2 := by
    have w0 : gCall (p__law_verdict (16)) (LF.gCons (gVar 9) LF.gNil) [some (.scr (ns.map .int)), some (.box 0), some (.d (.int mu)), none, none, none, none, none, x8, some (.d h)] s2 = .ok (.d (verT (verD h))) s2 := (call1d rfl).trans fv
    have w1 : gB1 pInt1 (LF.gCons (g2 pEq (g2 pIx (gCall (p__law_verdict (16)) (LF.gCons (gVar 9) LF.gNil)) (gC (.int 0))) (gC (.str "no"))) LF.gNil) [some (.scr (ns.map .int)), some (.box 0), some (.d (.int mu)), none, none, none, none, none, x8, some (.d h)] s2 = .ok (.d (.int (if (!(verD h).isY) = true then 1 else 0))) s2 := by
      have hs : ∃ r : Str, r = (if (verD h).isY = true then ("let" : Str) else ("no" : Str)) ∧ pIx (.d (verT (verD h))) (.d (.int 0)) s2 = some (.str r) := by
        cases verD h with
        | no f k => exact ⟨_, rfl, by simp [verT, Ver.isY]⟩
        | yes n => exact ⟨_, rfl, by simp [verT, Ver.isY]⟩
      obtain ⟨r, hr, er⟩ := hs
      have w2 := g2_ok (p := pIx) (b := gC (.int 0)) w0 rfl er
      have w3 : pEq (.d (.str r)) (.d (.str "no")) s2 = some (.bool (!(verD h).isY)) := by
        rw [hr]
        cases (verD h).isY <;> simp [eqv_str]
      rw [gB1_one, g2_ok (b := gC (.str "no")) w2 rfl w3]
      cases (verD h).isY <;> rfl
    refine set_ok (g2_ok (x := .d (.list [.list [PyData.int 0, .int 1, .int 1, .int 2], .list [PyData.int 0, .int 0, .int 0, .int 1]])) (by simp) w1 ?_)
    cases (verD h).isY <;> rfl
  obtain ⟨r3, s3, e3, l3, u3, b3⟩ := q_pick 4 (by decide) (by decide) b2
  obtain ⟨n, hn, en⟩ := nums4 (!(verD h).isY) r3 l3 u3
  generalize (if (!(verD h).isY) = true then [PyData.int 0, .int 0, .int 0, .int 1] else [PyData.int 0, .int 1, .int 1, .int 2]) = L at k4 en
  have eg : g2 pIx (gVar 3) (gCall p__law_pick (LF.gCons (gVar 1) (LF.gCons (gC (.int 4)) LF.gNil))) [some (.scr (ns.map .int)), some (.box 0), some (.d (.int mu)), some (.d (.list L)), none, none, none, none, x8, some (.d h)] s2 = .ok (.d (.int (n : Nat))) s3 :=
    g2_ok (x := .d (.list L)) (y := .d (.int r3)) rfl ((call2' rfl rfl).trans e3) (by simpa using en)
  obtain ⟨s4, h', y4, j, e4, b4, hj, H'⟩ := sp_loop (some (.scr (ns.map .int))) (some (.d (.int mu))) (some (.d (.list L))) none none none x8 ((rangeI n).map .int) 0 (by rw [List.length_map, rangeI_length]; omega) s3 b3 h H none
  have k5 : sFor (giR1 (g2 pIx (gVar 3) (gCall p__law_pick (LF.gCons (gVar 1) (LF.gCons (gC (.int 4)) LF.gNil))))) (ggName 4) spB [some (.scr (ns.map .int)), some (.box 0), some (.d (.int mu)), some (.d (.list L)), none, none, none, none, x8, some (.d h)] s2 = .nx [some (.scr (ns.map .int)), some (.box 0), some (.d (.int mu)), some (.d (.list L)), y4, none, none, none, x8, some (.d h')] s4 := by
    unfold sFor
    rw [ra' n (by omega) _ _ _ _ eg, R.bindO_ok]
    exact e4
  unfold spB at k5
  obtain ⟨s5, e5⟩ := law_end b4 (H'.gd hj) (some (.scr (ns.map .int))) (some (.d (.int mu))) (some (.d (.list L))) y4 none none none x8
  unfold endB at e5
  have fin : b_law [some (.scr (ns.map .int)), none, none, none, none, none, none, none, none, none] [] = .rt (.d (.bool true)) s5 := by
    unfold b_law
    rw [seq_nx k1, seq_nx k2, seq_nx k3, seq_nx k4, seq_nx k5]
    exact e5
  exact ⟨_, run_rt (m := 10) (b := b_law) (as := [.scr (ns.map .int)]) fin⟩
theorem law_true (ns : List Int) (h : ns.length ≤ 63) : ∃ st, p_law [.scr (ns.map .int)] [] = .ok (.d (.bool true)) st := q_law ns
end G
set_option Elab.async false
set_option linter.all false
set_option maxRecDepth 100000
set_option maxHeartbeats 0
open PySem PySem.W PySem.Calls PyProof.Rows
theorem PySem.Challenge.cw_someoneout_k00_kinds_and_checker_holds : PySem.Challenge.rw_someoneout_k00_kinds_and_checker.Holds := by
  w_on; o_law
  refine HandSHeadRun.head_imp (r := G.Rw) (q := view G.Rw.prog [0, 68]) (H := G.hk) (ob := G.ob) (M := 9000) (loose := G.names) (d := HandSHeadRun.topDef G.Rw.prog 68) (kwd := []) G.ob_eq G.run
    (by kernel_rfl) (by kernel_rfl) (by kernel_rfl) (by rfl) (by first | assumption | decide +kernel) (by decide +kernel) ⟨rfl, rfl, rfl, rfl, rfl, by decide +kernel⟩ ?hw ?hc
  case hw => w_witness2
  case hc =>
    refine LF.walkGE (l := PySem.Challenge.rw_someoneout_k00_kinds_and_checker) (n := 63) (k := 36) (x := "_law_script") rfl (by decide) (by kernel_rfl) ⟨rfl, by decide, by decide⟩ ?F
    intro w mg fa h Y gN hmg0
    obtain ⟨K, KX, c⟩ := Y
    have hmg : mg ("law" : PySem.Str) = some (.ref fa) := by
      have e : (HandSHeadRun.topDef G.Rw.prog 68).name = ("law" : PySem.Str) := by kernel_rfl
      rw [← e]
      exact hmg0
    obtain ⟨fd, hb, hF⟩ := G.facts (P := (PySem.Challenge.rw_someoneout_k00_kinds_and_checker).prog) (w := w) KX gN hmg c
    exact ⟨K, fd, _, KX, hb, fun H a ns hl hO hS => LF.ask_of G.law_true H a ns hl hO hS, hF⟩
