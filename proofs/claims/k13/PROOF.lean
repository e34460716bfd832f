import PyProof.Rows.All
import HandS.ForMost
import HandS.ForExc
import HandS.ReHeld
import HandS.Codes
import HandS.IsInst
import HandS.Zip
import HandS.Wide
import HandS.More
import HandS.Style
import HandS.SortInts
import HandS.SortKw
import PyProof.TypeEq
import PyProof.Rows.TupAdd
import KE.KSortedM
import KE.KEqDict
import KE.DataMinMax
import HandS.DictComp
import KE.KRevSl
import KE.KDictList
import HandS.Sort
import KE.KDictZip
import KE.KDictItemsList
import PyProof.InstEq
import PyProof.NeKinds
import HandS.CallLocal
import HandS.Deep
import HandS.ExcIs
import PyProof.DictUpdate
import HandS.NestedK
import HandS.SetFor
import HandS.Strs
import HandS.EndOwn
import KE.KDictWalk
import HandS.NoneIn
import HandS.SetBool
import HandS.Dict
import KE.KDictCopyH
import HandS.Text
import HandS.FStr
import HandS.RaiseMore
import KE.IntTextLaws
import PySem.Challenge.RW_saidthen_k13_books_written
set_option Elab.async false
set_option linter.all false
set_option maxRecDepth 100000
/-! DL1: trees of values, what represents them in the abstract heap, expressions by their denotation. -/
namespace DL
open PySem PySem.Spec PyProof.Rows L2

/-- a value with all that hangs on it -/
inductive T where
  | non | bl (b : Bool) | int (i : Int) | str (x : Str) | raw (v : V)
  | scr (xs : List T) | lst (xs : List T) | tup (xs : List T) | dic (kvs : List (Key × T))
  /-- a thing told by what is true of it over frozen objects and tuples (a function with what it captured) -/
  | clo (S : Hp → V → Prop)
  deriving Inhabited
/-- what no one changes -/
def StO (o : HO) : Prop := (∃ xs, o = .tup xs) ∨ (∃ ob xs, o = .frz ob (.tup xs)) ∨ (∃ ob xs, o = .frz ob (.lst xs)) ∨ ∃ ob φ, o = .frz ob (.ext φ)
def StB (B : Hp) : Prop := ∀ a o, B a = some o → StO o

section
variable (K : PySem.W.Frag) (H : Hp)
mutual
def Rep : T → V → Prop
  | .non, v => v = .non
  | .bl b, v => v = .bl b
  | .int i, v => v = .int i
  | .str x, v => v = .str x
  | .raw w, v => v = w
  | .scr ts, v => ∃ a vs, v = .ref a ∧ SqL K H a vs ∧ Reps ts vs
  | .lst ts, v => ∃ a vs, v = .ref a ∧ H a = some (.lst vs) ∧ Reps ts vs
  | .tup ts, v => ∃ a vs, v = .ref a ∧ SqT K H a vs ∧ Reps ts vs
  | .dic kts, v => ∃ a kvs, v = .ref a ∧ Rd H a (.dK kvs) ∧ RepsK kts kvs
  | .clo S, v => ∃ B, StB B ∧ Same B H ∧ S B v
def Reps : List T → List V → Prop
  | [], vs => vs = []
  | t :: ts, vs => ∃ v r, vs = v :: r ∧ Rep t v ∧ Reps ts r
def RepsK : List (Key × T) → List (Key × V) → Prop
  | [], vs => vs = []
  | (k, t) :: ts, vs => ∃ v r, vs = (k, v) :: r ∧ Rep t v ∧ RepsK ts r
end
end

/-- what is read at H is read at H' -/
structure Grow (K : PySem.W.Frag) (H H' : Hp) : Prop where
  sl : ∀ a vs, SqL K H a vs → SqL K H' a vs
  l : ∀ a vs, H a = some (.lst vs) → H' a = some (.lst vs)
  t : ∀ a vs, SqT K H a vs → SqT K H' a vs
  d : ∀ a kvs, Rd H a (.dK kvs) → Rd H' a (.dK kvs)
  c : ∀ a o, StO o → H a = some o → H' a = some o

theorem same_sqT {K : PySem.W.Frag} {H H' : Hp} {a : Addr} {xs : List V} (e : Same H H') (h : SqT K H a xs) : SqT K H' a xs := by
  rcases h with (h | ⟨o, h⟩) | h
  · exact .inl (.inl (e _ _ h))
  · exact .inl (.inr ⟨o, e _ _ h⟩)
  · exact .inr h
theorem same_rd {H H' : Hp} {a : Addr} {u : HO} (e : Same H H') (h : Rd H a u) : Rd H' a u := by
  rcases h with h | ⟨o, h⟩
  · exact .inl (e _ _ h)
  · exact .inr ⟨o, e _ _ h⟩
theorem Grow.of {K : PySem.W.Frag} {H H' : Hp} (e : Same H H') : Grow K H H' :=
  ⟨fun _ _ h => e.seq h, fun _ _ h => e _ _ h, fun _ _ h => same_sqT e h, fun _ _ h => same_rd e h, fun _ _ _ h => e _ _ h⟩
theorem same_upd' {H : Hp} {p : Addr} {o : HO} (h : H p = none) : Same H (upd H p o) := fun b x e => by
  rw [upd_ne (ne_of_none e h)]
  exact e

section
variable {K : PySem.W.Frag} {H H' : Hp}
mutual
theorem Rep.grow (g : Grow K H H') : ∀ (t : T) (v : V), Rep K H t v → Rep K H' t v
  | .non, _, h => h
  | .bl _, _, h => h
  | .int _, _, h => h
  | .str _, _, h => h
  | .raw _, _, h => h
  | .scr ts, v, h => by
    unfold Rep at h ⊢
    obtain ⟨a, vs, e, q, r⟩ := h
    exact ⟨a, vs, e, g.sl _ _ q, Reps.grow g ts vs r⟩
  | .lst ts, v, h => by
    unfold Rep at h ⊢
    obtain ⟨a, vs, e, q, r⟩ := h
    exact ⟨a, vs, e, g.l _ _ q, Reps.grow g ts vs r⟩
  | .tup ts, v, h => by
    unfold Rep at h ⊢
    obtain ⟨a, vs, e, q, r⟩ := h
    exact ⟨a, vs, e, g.t _ _ q, Reps.grow g ts vs r⟩
  | .dic kts, v, h => by
    unfold Rep at h ⊢
    obtain ⟨a, vs, e, q, r⟩ := h
    exact ⟨a, vs, e, g.d _ _ q, RepsK.grow g kts vs r⟩
  | .clo S, v, h => by
    unfold Rep at h ⊢
    obtain ⟨B, hB, hs, q⟩ := h
    exact ⟨B, hB, fun a o e => g.c a o (hB a o e) (hs a o e), q⟩
theorem Reps.grow (g : Grow K H H') : ∀ (ts : List T) (vs : List V), Reps K H ts vs → Reps K H' ts vs
  | [], vs, h => by unfold Reps at h ⊢; exact h
  | t :: ts, vs, h => by
    unfold Reps at h ⊢
    obtain ⟨v, r, e, q, z⟩ := h
    exact ⟨v, r, e, Rep.grow g t v q, Reps.grow g ts r z⟩
theorem RepsK.grow (g : Grow K H H') : ∀ (ts : List (Key × T)) (vs : List (Key × V)), RepsK K H ts vs → RepsK K H' ts vs
  | [], vs, h => by unfold RepsK at h ⊢; exact h
  | (k, t) :: ts, vs, h => by
    unfold RepsK at h ⊢
    obtain ⟨v, r, e, q, z⟩ := h
    exact ⟨v, r, e, Rep.grow g t v q, RepsK.grow g ts r z⟩
end
theorem Rep.same {t : T} {v : V} (e : Same H H') (h : Rep K H t v) : Rep K H' t v := Rep.grow (.of e) t v h
theorem Reps.same {t : List T} {v : List V} (e : Same H H') (h : Reps K H t v) : Reps K H' t v := Reps.grow (.of e) t v h
theorem RepsK.same {t : List (Key × T)} {v : List (Key × V)} (e : Same H H') (h : RepsK K H t v) : RepsK K H' t v := RepsK.grow (.of e) t v h

theorem rep_non {v : V} : Rep K H .non v ↔ v = .non := by unfold Rep; rfl
theorem rep_bl {b : Bool} {v : V} : Rep K H (.bl b) v ↔ v = .bl b := by unfold Rep; rfl
theorem rep_int {b : Int} {v : V} : Rep K H (.int b) v ↔ v = .int b := by unfold Rep; rfl
theorem rep_str {b : Str} {v : V} : Rep K H (.str b) v ↔ v = .str b := by unfold Rep; rfl
theorem rep_raw {b : V} {v : V} : Rep K H (.raw b) v ↔ v = b := by unfold Rep; rfl
theorem rep_scr {ts : List T} {v : V} : Rep K H (.scr ts) v ↔ ∃ a vs, v = .ref a ∧ SqL K H a vs ∧ Reps K H ts vs := by unfold Rep; rfl
theorem rep_lst {ts : List T} {v : V} : Rep K H (.lst ts) v ↔ ∃ a vs, v = .ref a ∧ H a = some (.lst vs) ∧ Reps K H ts vs := by rw [Rep]
theorem rep_tup {ts : List T} {v : V} : Rep K H (.tup ts) v ↔ ∃ a vs, v = .ref a ∧ SqT K H a vs ∧ Reps K H ts vs := by unfold Rep; rfl
theorem rep_clo {S : Hp → V → Prop} {v : V} : Rep K H (.clo S) v ↔ ∃ B, StB B ∧ Same B H ∧ S B v := by unfold Rep; rfl
theorem rep_dic {ts : List (Key × T)} {v : V} : Rep K H (.dic ts) v ↔ ∃ a vs, v = .ref a ∧ Rd H a (.dK vs) ∧ RepsK K H ts vs := by unfold Rep; rfl

theorem Reps.paired : ∀ {ts : List T} {vs : List V}, Reps K H ts vs ↔ Paired (Rep K H) ts vs
  | [], vs => by
    unfold Reps
    constructor
    · rintro rfl; exact .nil
    · intro h; cases h; rfl
  | t :: ts, vs => by
    unfold Reps
    constructor
    · rintro ⟨v, r, rfl, h1, h2⟩; exact .cons h1 (Reps.paired.mp h2)
    · intro h
      cases h with
      | cons h1 h2 => exact ⟨_, _, rfl, h1, Reps.paired.mpr h2⟩
theorem RepsK.paired : ∀ {ts : List (Key × T)} {vs : List (Key × V)}, RepsK K H ts vs ↔ Paired (fun (p : Key × T) (q : Key × V) => p.1 = q.1 ∧ Rep K H p.2 q.2) ts vs
  | [], vs => by
    unfold RepsK
    constructor
    · rintro rfl; exact .nil
    · intro h; cases h; rfl
  | (k, t) :: ts, vs => by
    unfold RepsK
    constructor
    · rintro ⟨v, r, rfl, h1, h2⟩; exact .cons ⟨rfl, h1⟩ (RepsK.paired.mp h2)
    · intro h
      cases h with
      | cons h1 h2 =>
        rename_i b r
        obtain ⟨k', v⟩ := b
        obtain ⟨e, h1⟩ := h1
        cases e
        exact ⟨_, _, rfl, h1, RepsK.paired.mpr h2⟩
theorem Reps.nil : Reps K H [] [] := by unfold Reps; rfl
theorem Reps.cons {t : T} {ts : List T} {v : V} {vs : List V} (h : Rep K H t v) (r : Reps K H ts vs) : Reps K H (t :: ts) (v :: vs) := by
  unfold Reps; exact ⟨v, vs, rfl, h, r⟩
theorem Reps.length {ts : List T} {vs : List V} (h : Reps K H ts vs) : ts.length = vs.length := Paired.length (Reps.paired.mp h)
theorem RepsK.length {ts : List (Key × T)} {vs : List (Key × V)} (h : RepsK K H ts vs) : ts.length = vs.length := Paired.length (RepsK.paired.mp h)
end

/-! ### the environment -/
abbrev St := L2.St
abbrev Env' := List (Option T)
def EnvR (K : PySem.W.Frag) (H : Hp) (σ : St) (ρ : Env') : Prop :=
  σ.length = ρ.length ∧ ∀ (i : Nat) (t : T), ρ[i]? = some (some t) → ∃ v : V, σ[i]? = some (some v) ∧ Rep K H t v
theorem EnvR.same {K : PySem.W.Frag} {H H' : Hp} {σ : St} {ρ : Env'} (h : EnvR K H σ ρ) (e : Same H H') : EnvR K H' σ ρ :=
  ⟨h.1, fun i t q => let ⟨v, a, b⟩ := h.2 i t q; ⟨v, a, b.same e⟩⟩

/-! ### a family of contexts of one def: its body, or its comprehensions' blocks -/
structure Fm {ι : Type} (G : ι → Cx) (K : PySem.W.Frag) (mg : Str → Option Value) (base : Heap) (P : Program) (w : World) (N : List Str) (sc : Scope) (k : Nat) : Prop where
  K : ∀ i, (G i).K = K
  mg : ∀ i, (G i).mg = mg
  base : ∀ i, (G i).base = base
  P : ∀ i, (G i).prog = P
  w : ∀ i, (G i).w = w
  N : ∀ i, (G i).N = N
  sc : ∀ i, (G i).env.scope = sc
  calm : ∀ i, (G i).calm = true
  room : ∀ i, Room k (G i).A

end DL
namespace DL
open PySem PySem.Spec PyProof.Rows L2
variable {ι : Type} {G : ι → Cx} {K : PySem.W.Frag} {mg : Str → Option Value} {base : Heap} {P : Program} {w : World} {N : List Str} {sc : Scope} {k : Nat}

/-- all that a rule promises of e, in every context of the family -/
def ES (G : ι → Cx) (e : Expr) : TE := fun σ H Q => ∃ t, (∀ i, PE (G i) e t) ∧ t σ H Q
theorem pe_ts {e : Expr} (i : ι) : PE (G i) e (ES G e) := ⟨fun pins s σ H Q I ⟨t, h, q⟩ => (h i).run pins s σ H Q I q⟩
def TTs (G : ι → Cx) (e : Expr) : TT := fun σ H Q => ∃ t, (∀ i, PT (G i) e t) ∧ t σ H Q
theorem pt_ts {e : Expr} (i : ι) : PT (G i) e (TTs G e) := ⟨fun pins s σ H Q I ⟨t, h, q⟩ => (h i).run pins s σ H Q I q⟩
def TAs (G : ι → Cx) (es : List Expr) : TA := fun σ H Q => ∃ t, (∀ i, PA (G i) es t) ∧ t σ H Q
theorem pa_ts {es : List Expr} (i : ι) : PA (G i) es (TAs G es) := ⟨fun pos pins s σ H Q I ⟨t, h, q⟩ => (h i).run pos pins s σ H Q I q⟩

/-- e is worth d -/
def EV (G : ι → Cx) (K : PySem.W.Frag) (e : Expr) (d : Env' → Option T) : Prop :=
  ∀ ρ σ H τ Q, EnvR K H σ ρ → d ρ = some τ → (∀ v H', Same H H' → Rep K H' τ v → Q v H') → ES G e σ H Q
/-- a new object of the content τ -/
def FrO (K : PySem.W.Frag) (H : Hp) (τ : T) (o : HO) : Prop :=
  (∃ ts vs, τ = .lst ts ∧ o = .lst vs ∧ Reps K H ts vs) ∨ ∃ ts vs, τ = .dic ts ∧ o = .dK vs ∧ RepsK K H ts vs
/-- e is worth d, a new list or dict -/
def EVF (G : ι → Cx) (K : PySem.W.Frag) (e : Expr) (d : Env' → Option T) : Prop :=
  ∀ ρ σ H τ Q, EnvR K H σ ρ → d ρ = some τ → (∀ p o H', Same H H' → H p = none → H' p = some o → FrO K H' τ o → Q (.ref p) H') → ES G e σ H Q
/-- e is True or False -/
def BV (G : ι → Cx) (K : PySem.W.Frag) (e : Expr) (d : Env' → Option Bool) : Prop :=
  ∀ ρ σ H b Q, EnvR K H σ ρ → d ρ = some b → (∀ H', Same H H' → Q b H') → TTs G e σ H Q
/-- arguments -/
def AV (G : ι → Cx) (K : PySem.W.Frag) (es : List Expr) (d : Env' → Option (List T)) : Prop :=
  (∀ ρ τs, d ρ = some τs → τs.length = es.length) ∧ ∀ ρ σ H τs Q, EnvR K H σ ρ → d ρ = some τs → (∀ vs H', Same H H' → Reps K H' τs vs → Q vs H') → TAs G es σ H Q

theorem FrO.rep {K : PySem.W.Frag} {H : Hp} {τ : T} {o : HO} {p : Addr} (h : FrO K H τ o) (e : H p = some o) : Rep K H τ (.ref p) := by
  rcases h with ⟨ts, vs, rfl, rfl, r⟩ | ⟨ts, vs, rfl, rfl, r⟩
  · exact rep_lst.mpr ⟨p, vs, rfl, e, r⟩
  · exact rep_dic.mpr ⟨p, vs, rfl, .inl e, r⟩
theorem EVF.ev {e : Expr} {d : Env' → Option T} (h : EVF G K e d) : EV G K e d := fun ρ σ H τ Q he hd hq =>
  h ρ σ H τ Q he hd fun p o H' s _ e f => hq _ _ s (f.rep e)

/-! ### names and constants -/
def nd (i : Nat) : Env' → Option T := fun ρ => (ρ[i]?).join
theorem nd_some {i : Nat} {ρ : Env'} {τ : T} (h : nd i ρ = some τ) : ρ[i]? = some (some τ) := by
  unfold nd at h
  cases e : ρ[i]? with
  | none => rw [e] at h; cases h
  | some o => rw [e] at h; exact congrArg some h
def visB (sc : Scope) (x : Str) : Bool := match sc.names.lookup x with
  | some .local => true | some .cell => true | some .free => true | _ => false
theorem vis_of {sc : Scope} {x : Str} (h : visB sc x = true) : Vis sc x := by
  unfold visB at h
  split at h
  · exact .inl (by assumption)
  · exact .inr (.inl (by assumption))
  · exact .inr (.inr (by assumption))
  · cases h
theorem ev_var (hG : Fm G K mg base P w N sc k) (i : Nat) {x : Str} {pos : Pos} (hN : N[i]? = some x := by rfl) (hv : visB sc x = true := by rfl)
    (hd : (x == ("__debug__" : Str)) = false := by decide) (hcd : (x == ("__classdict__" : Str)) = false := by decide) : EV G K (.Name x pos) (nd i) := by
  intro ρ σ H τ Q he hd' hq
  refine ⟨tVar i, fun j => pe_var (by rw [hG.N j]; exact hN) (by rw [hG.sc j]; exact vis_of hv) hd hcd, ?_⟩
  obtain ⟨v, e, r⟩ := he.2 i τ (nd_some hd')
  exact ⟨v, e, hq v H (Same.refl H) r⟩
theorem ev_int {i : Int} {j pos} : EV G K (.Constant (.int i) j pos) (fun _ => some (.int i)) := by
  intro ρ σ H τ Q he hd hq
  cases hd
  exact ⟨_, fun _ => pe_int, hq _ _ (Same.refl H) (rep_int.mpr rfl)⟩
theorem ev_bl {i : Bool} {j pos} : EV G K (.Constant (.bool i) j pos) (fun _ => some (.bl i)) := by
  intro ρ σ H τ Q he hd hq
  cases hd
  exact ⟨_, fun _ => pe_bl, hq _ _ (Same.refl H) (rep_bl.mpr rfl)⟩
theorem ev_non {j pos} : EV G K (.Constant .none j pos) (fun _ => some .non) := by
  intro ρ σ H τ Q he hd hq
  cases hd
  exact ⟨_, fun _ => pe_non, hq _ _ (Same.refl H) (rep_non.mpr rfl)⟩
theorem ev_str {x : Str} {j pos} : EV G K (.Constant (.str x) j pos) (fun _ => some (.str x)) := by
  intro ρ σ H τ Q he hd hq
  cases hd
  exact ⟨_, fun _ => pe_str, hq _ _ (Same.refl H) (rep_str.mpr rfl)⟩
def glB (sc : Scope) (x : Str) : Bool := match sc.names.lookup x with
  | some .globalImplicit => true | _ => false
theorem gl_of (hG : Fm G K mg base P w N sc k) {x : Str} (h : glB sc x = true) (i : ι) : Gl (G i) x := by
  show (G i).env.scope.names.lookup x = some .globalImplicit
  rw [hG.sc i]
  unfold glB at h
  split at h
  · assumption
  · cases h
/-- a module's constant -/
theorem ev_glob (hG : Fm G K mg base P w N sc k) {x : Str} {v : V} {u : Value} {τ : T} {pos : Pos} (hm : mg x = some u) (r : RelV v u) (hτ : ∀ H, Rep K H τ v) (hg : glB sc x = true := by rfl) (hd : (x == ("__debug__" : Str)) = false := by decide) :
    EV G K (.Name x pos) (fun _ => some τ) := by
  intro ρ σ H τ' Q he hd' hq
  cases hd'
  exact ⟨_, fun i => pe_glob (gl_of hG hg i) (by rw [hG.mg i]; exact hm) r hd, hq _ _ (Same.refl H) (hτ H)⟩
theorem ev_bltn (hG : Fm G K mg base P w N sc k) {x : Str} {v : V} {u : Value} {pos : Pos} (hm : mg x = none) (hv : bootBuiltins x = some u) (r : RelV v u) (hg : glB sc x = true := by rfl) (hn : x ≠ "__name__" := by decide) (hd : (x == ("__debug__" : Str)) = false := by decide) :
    EV G K (.Name x pos) (fun _ => some (.raw v)) := by
  intro ρ σ H τ' Q he hd' hq
  cases hd'
  exact ⟨_, fun i => pe_bltn (gl_of hG hg i) (by rw [hG.mg i]; exact hm) hv r hn hd, hq _ _ (Same.refl H) (rep_raw.mpr rfl)⟩

/-! ### operators by values -/
def b2 (f : T → T → Option T) (a b : Option T) : Option T := match a, b with
  | some x, some y => f x y
  | _, _ => none
theorem b2_some {f : T → T → Option T} {a b : Option T} {τ : T} (h : b2 f a b = some τ) : ∃ x y, a = some x ∧ b = some y ∧ f x y = some τ := by
  cases a with
  | none => cases h
  | some x => cases b with
    | none => cases h
    | some y => exact ⟨x, y, rfl, rfl, h⟩
@[simp] theorem b2_mk {f : T → T → Option T} {x y : T} : b2 f (some x) (some y) = f x y := rfl
def OPS (G : ι → Cx) (f : Value → Value → Sem Value) : R2 := fun x y H Q => ∃ r, (∀ i, OpR (G i) f r) ∧ r x y H Q
theorem op_ops {f : Value → Value → Sem Value} (i : ι) : OpR (G i) f (OPS G f) := fun pins s σ H x y v u Q I rx ry ⟨r, h, q⟩ => h i pins s σ H x y v u Q I rx ry q
/-- the operation f is worth g -/
def OpS (G : ι → Cx) (K : PySem.W.Frag) (f : Value → Value → Sem Value) (g : T → T → Option T) : Prop :=
  ∀ H x y v u τ Q, g x y = some τ → Rep K H x v → Rep K H y u → (∀ z H', Same H H' → Rep K H' τ z → Q z H') → OPS G f v u H Q
theorem ev_bin {a b : Expr} {op : Operator} {g : T → T → Option T} {da db : Env' → Option T} {pos : Pos} (ho : OpS G K (binaryOp op) g) (ha : EV G K a da) (hb : EV G K b db) :
    EV G K (.BinOp a op b pos) (fun ρ => b2 g (da ρ) (db ρ)) := by
  intro ρ σ H τ Q he hd hq
  obtain ⟨x, y, ea, eb, eg⟩ := b2_some hd
  refine ⟨tOp (OPS G (binaryOp op)) (ES G a) (ES G b), fun i => pe_op (op_ops i) (pe_ts i) (pe_ts i), ?_⟩
  refine ha ρ σ H x _ he ea fun v H1 s1 r1 => hb ρ σ H1 y _ (he.same s1) eb fun u H2 s2 r2 => ?_
  exact ho H2 x y v u τ Q eg (r1.same s2) r2 fun z H' s3 r3 => hq z H' ((s1.trans s2).trans s3) r3
theorem ev_cmp {a b : Expr} {op : CmpOp} {g : T → T → Option T} {da db : Env' → Option T} {pos : Pos} (ho : OpS G K (compareOp op) g) (ha : EV G K a da) (hb : EV G K b db)
    (hm : behindInMarks op b = false := by first | exact nomark _ | rfl) : EV G K (.Compare a [op] [b] pos) (fun ρ => b2 g (da ρ) (db ρ)) := by
  intro ρ σ H τ Q he hd hq
  obtain ⟨x, y, ea, eb, eg⟩ := b2_some hd
  refine ⟨tOp (OPS G (compareOp op)) (ES G a) (ES G b), fun i => pe_cmpR (op_ops i) (pe_ts i) (pe_ts i) hm, ?_⟩
  refine ha ρ σ H x _ he ea fun v H1 s1 r1 => hb ρ σ H1 y _ (he.same s1) eb fun u H2 s2 r2 => ?_
  exact ho H2 x y v u τ Q eg (r1.same s2) r2 fun z H' s3 r3 => hq z H' ((s1.trans s2).trans s3) r3
def asB : Option T → Option Bool
  | some (.bl b) => some b
  | _ => none
theorem asB_some {o : Option T} {b : Bool} (h : asB o = some b) : o = some (.bl b) := by
  unfold asB at h
  split at h
  · cases h; rfl
  · cases h
@[simp] theorem asB_bl {b : Bool} : asB (some (.bl b)) = some b := rfl
theorem bv_cmp {a b : Expr} {op : CmpOp} {g : T → T → Option T} {da db : Env' → Option T} {pos : Pos} (ho : OpS G K (compareOp op) g) (ha : EV G K a da) (hb : EV G K b db)
    (hm : behindInMarks op b = false := by first | exact nomark _ | rfl) : BV G K (.Compare a [op] [b] pos) (fun ρ => asB (b2 g (da ρ) (db ρ))) := by
  intro ρ σ H c Q he hd hq
  obtain ⟨x, y, ea, eb, eg⟩ := b2_some (asB_some hd)
  refine ⟨tTest (tOp (OPS G (compareOp op)) (ES G a) (ES G b)), fun i => pt_cmpR (op_ops i) (pe_ts i) (pe_ts i) hm, ?_⟩
  refine ha ρ σ H x _ he ea fun v H1 s1 r1 => hb ρ σ H1 y _ (he.same s1) eb fun u H2 s2 r2 => ?_
  exact ho H2 x y v u _ _ eg (r1.same s2) r2 fun z H' s3 r3 => ⟨c, rep_bl.mp r3, hq H' ((s1.trans s2).trans s3)⟩
/-- a op b op' c -/
def chD (g g' : T → T → Option T) (a b c : Option T) : Option T := match b2 g a b with
  | some (.bl true) => b2 g' b c
  | some (.bl false) => some (.bl false)
  | _ => none
theorem chain_aux {a b c : Expr} {op op' : CmpOp} {g g' : T → T → Option T} {da db dc : Env' → Option T} (ho : OpS G K (compareOp op) g) (ho' : OpS G K (compareOp op') g') (ha : EV G K a da) (hb : EV G K b db) (hc : EV G K c dc)
    {ρ : Env'} {σ : St} {H : Hp} {τ : T} {Q : VK} (he : EnvR K H σ ρ) (hd : chD g g' (da ρ) (db ρ) (dc ρ) = some τ) (hq : ∀ v H', Same H H' → Rep K H' τ v → Q v H') :
    tChain (OPS G (compareOp op)) (OPS G (compareOp op')) (ES G a) (ES G b) (ES G c) σ H Q := by
  unfold chD at hd
  split at hd
  · rename_i e1
    obtain ⟨x, y, ea, eb, eg⟩ := b2_some e1
    obtain ⟨y', z, eb', ec, eg'⟩ := b2_some hd
    rw [eb] at eb'; cases eb'
    refine ha ρ σ H x _ he ea fun v H1 s1 r1 => hb ρ σ H1 y _ (he.same s1) eb fun u H2 s2 r2 => ?_
    refine ho H2 x y v u _ _ eg (r1.same s2) r2 fun q H3 s3 r3 => ⟨true, rep_bl.mp r3, ?_⟩
    rw [if_pos rfl]
    refine hc ρ σ H3 z _ (he.same ((s1.trans s2).trans s3)) ec fun t H4 s4 r4 => ?_
    exact ho' H4 y z u t _ _ eg' (r2.same (s3.trans s4)) r4 fun q' H5 s5 r5 => hq _ _ ((((s1.trans s2).trans s3).trans s4).trans s5) r5
  · rename_i e1
    obtain ⟨x, y, ea, eb, eg⟩ := b2_some e1
    cases hd
    refine ha ρ σ H x _ he ea fun v H1 s1 r1 => hb ρ σ H1 y _ (he.same s1) eb fun u H2 s2 r2 => ?_
    refine ho H2 x y v u _ _ eg (r1.same s2) r2 fun q H3 s3 r3 => ⟨false, rep_bl.mp r3, ?_⟩
    rw [if_neg Bool.false_ne_true]
    exact hq _ _ ((s1.trans s2).trans s3) (rep_bl.mpr rfl)
  · cases hd
theorem ev_chain {a b c : Expr} {op op' : CmpOp} {g g' : T → T → Option T} {da db dc : Env' → Option T} {pos : Pos} (ho : OpS G K (compareOp op) g) (ho' : OpS G K (compareOp op') g') (ha : EV G K a da) (hb : EV G K b db) (hc : EV G K c dc)
    (hm : lastMarks [op, op'] [b, c] = false := by with_unfolding_all rfl) : EV G K (.Compare a [op, op'] [b, c] pos) (fun ρ => chD g g' (da ρ) (db ρ) (dc ρ)) := by
  intro ρ σ H τ Q he hd hq
  exact ⟨_, fun i => pe_chain (op_ops i) (op_ops i) (pe_ts i) (pe_ts i) (pe_ts i) hm, chain_aux ho ho' ha hb hc he hd hq⟩
theorem bv_chain {a b c : Expr} {op op' : CmpOp} {g g' : T → T → Option T} {da db dc : Env' → Option T} {pos : Pos} (ho : OpS G K (compareOp op) g) (ho' : OpS G K (compareOp op') g') (ha : EV G K a da) (hb : EV G K b db) (hc : EV G K c dc)
    (hm : lastMarks [op, op'] [b, c] = false := by with_unfolding_all rfl) : BV G K (.Compare a [op, op'] [b, c] pos) (fun ρ => asB (chD g g' (da ρ) (db ρ) (dc ρ))) := by
  intro ρ σ H τ Q he hd hq
  exact ⟨_, fun i => pt_chain (op_ops i) (op_ops i) (pe_ts i) (pe_ts i) (pe_ts i) hm, chain_aux ho ho' ha hb hc he (asB_some hd) fun v H' s r => ⟨τ, rep_bl.mp r, hq H' s⟩⟩

/-! ### tests -/
theorem bv_val {e : Expr} {d : Env' → Option T} (h : EV G K e d) (he : ∀ i whole, isTrue e (G i).env whole = (do let v ← whole; standAt e.pos; holding [v] (truthy v)) := by intro _ _; rfl) : BV G K e (fun ρ => asB (d ρ)) := by
  intro ρ σ H b Q hE hd hq
  refine ⟨_, fun i => pt_val (pe_ts i) (he i), ?_⟩
  exact h ρ σ H _ _ hE (asB_some hd) fun v H' s r => ⟨b, rep_bl.mp r, hq H' s⟩
/-- a test whatever its whole is -/
def TWs (G : ι → Cx) (e : Expr) : TT := fun σ H Q => ∃ t, (∀ i, PW (G i) e t) ∧ t σ H Q
theorem pw_ts {e : Expr} (i : ι) : PW (G i) e (TWs G e) := ⟨fun wh pins s σ H Q I ⟨t, h, q⟩ => (h i).run wh pins s σ H Q I q⟩
def BW (G : ι → Cx) (K : PySem.W.Frag) (e : Expr) (d : Env' → Option Bool) : Prop :=
  ∀ ρ σ H b Q, EnvR K H σ ρ → d ρ = some b → (∀ H', Same H H' → Q b H') → TWs G e σ H Q
theorem BW.bv {e : Expr} {d : Env' → Option Bool} (h : BW G K e d) : BV G K e d := fun ρ σ H b Q he hd hq =>
  let ⟨t, ht, q⟩ := h ρ σ H b Q he hd hq
  ⟨t, fun i => (ht i).pt, q⟩
def andD (a b : Option Bool) : Option Bool := match a with
  | some true => b | some false => some false | none => none
def orD (a b : Option Bool) : Option Bool := match a with
  | some true => some true | some false => b | none => none
variable {a b : Expr} {rest : List Expr} {pos : Pos} {da db : Env' → Option Bool}
theorem bw_and1 (ha : BV G K a da) : BW G K (.BoolOp .And [a] pos) da := fun ρ σ H b Q he hd hq => ⟨_, fun i => pw_and1 (pt_ts i), ha ρ σ H b Q he hd hq⟩
theorem bw_or1 (ha : BV G K a da) : BW G K (.BoolOp .Or [a] pos) da := fun ρ σ H b Q he hd hq => ⟨_, fun i => pw_or1 (pt_ts i), ha ρ σ H b Q he hd hq⟩
theorem bw_and (ha : BV G K a da) (hb : BW G K (.BoolOp .And (b :: rest) pos) db) : BW G K (.BoolOp .And (a :: b :: rest) pos) (fun ρ => andD (da ρ) (db ρ)) := by
  intro ρ σ H c Q he hd hq
  refine ⟨_, fun i => pw_and (pt_ts i) (pw_ts i), ?_⟩
  dsimp only at hd
  unfold andD at hd
  split at hd
  · rename_i e
    refine ha ρ σ H true _ he e fun H1 s1 => ?_
    rw [if_pos rfl]
    exact hb ρ σ H1 c Q (he.same s1) hd fun H2 s2 => hq H2 (s1.trans s2)
  · rename_i e
    cases hd
    refine ha ρ σ H false _ he e fun H1 s1 => ?_
    rw [if_neg Bool.false_ne_true]
    exact hq H1 s1
  · cases hd
theorem bw_or (ha : BV G K a da) (hb : BW G K (.BoolOp .Or (b :: rest) pos) db) : BW G K (.BoolOp .Or (a :: b :: rest) pos) (fun ρ => orD (da ρ) (db ρ)) := by
  intro ρ σ H c Q he hd hq
  refine ⟨_, fun i => pw_or (pt_ts i) (pw_ts i), ?_⟩
  dsimp only at hd
  unfold orD at hd
  split at hd
  · rename_i e
    cases hd
    refine ha ρ σ H true _ he e fun H1 s1 => ?_
    rw [if_pos rfl]
    exact hq H1 s1
  · rename_i e
    refine ha ρ σ H false _ he e fun H1 s1 => ?_
    rw [if_neg Bool.false_ne_true]
    exact hb ρ σ H1 c Q (he.same s1) hd fun H2 s2 => hq H2 (s1.trans s2)
  · cases hd
theorem bv_not (ha : BV G K a da) : BV G K (.UnaryOp .Not a pos) (fun ρ => (da ρ).map (!·)) := by
  intro ρ σ H c Q he hd hq
  refine ⟨_, fun i => pt_not (pt_ts i), ?_⟩
  dsimp only at hd
  cases e : da ρ with
  | none => rw [e] at hd; cases hd
  | some d =>
    rw [e] at hd
    cases hd
    exact ha ρ σ H d _ he e hq
variable {ea eb : Env' → Option T}
/-- and, or, not as values -/
def andV (a b : Option T) : Option T := match a with
  | some (.bl true) => b | some (.bl false) => some (.bl false) | _ => none
def orV (a b : Option T) : Option T := match a with
  | some (.bl true) => some (.bl true) | some (.bl false) => b | _ => none
def notV (a : Option T) : Option T := match a with
  | some (.bl c) => some (.bl (!c)) | _ => none
theorem ev_one {op} (ha : EV G K a ea) : EV G K (.BoolOp op [a] pos) ea := fun ρ σ H τ Q he hd hq => ⟨_, fun i => pe_one (pe_ts i), ha ρ σ H τ Q he hd hq⟩
theorem ev_and (ha : EV G K a ea) (hb : EV G K (.BoolOp .And (b :: rest) pos) eb) : EV G K (.BoolOp .And (a :: b :: rest) pos) (fun ρ => andV (ea ρ) (eb ρ)) := by
  intro ρ σ H c Q he hd hq
  refine ⟨_, fun i => pe_and (pe_ts i) (pe_ts i), ?_⟩
  dsimp only at hd
  unfold andV at hd
  split at hd
  · rename_i e
    refine ha ρ σ H _ _ he e fun v H1 s1 r => ⟨true, rep_bl.mp r, ?_⟩
    rw [if_pos rfl]
    exact hb ρ σ H1 c Q (he.same s1) hd fun v H2 s2 => hq v H2 (s1.trans s2)
  · rename_i e
    cases hd
    refine ha ρ σ H _ _ he e fun v H1 s1 r => ⟨false, rep_bl.mp r, ?_⟩
    rw [if_neg Bool.false_ne_true]
    exact hq _ H1 s1 (rep_bl.mpr rfl)
  · cases hd
theorem ev_or (ha : EV G K a ea) (hb : EV G K (.BoolOp .Or (b :: rest) pos) eb) : EV G K (.BoolOp .Or (a :: b :: rest) pos) (fun ρ => orV (ea ρ) (eb ρ)) := by
  intro ρ σ H c Q he hd hq
  refine ⟨_, fun i => pe_or (pe_ts i) (pe_ts i), ?_⟩
  dsimp only at hd
  unfold orV at hd
  split at hd
  · rename_i e
    cases hd
    refine ha ρ σ H _ _ he e fun v H1 s1 r => ⟨true, rep_bl.mp r, ?_⟩
    rw [if_pos rfl]
    exact hq _ H1 s1 (rep_bl.mpr rfl)
  · rename_i e
    refine ha ρ σ H _ _ he e fun v H1 s1 r => ⟨false, rep_bl.mp r, ?_⟩
    rw [if_neg Bool.false_ne_true]
    exact hb ρ σ H1 c Q (he.same s1) hd fun v H2 s2 => hq v H2 (s1.trans s2)
  · cases hd
theorem ev_not (ha : EV G K a ea) : EV G K (.UnaryOp .Not a pos) (fun ρ => notV (ea ρ)) := by
  intro ρ σ H c Q he hd hq
  refine ⟨_, fun i => pe_not (pe_ts i), ?_⟩
  dsimp only at hd
  unfold notV at hd
  split at hd
  · rename_i d e
    cases hd
    exact ha ρ σ H _ _ he e fun v H1 s1 r => ⟨d, rep_bl.mp r, hq _ H1 s1 (rep_bl.mpr rfl)⟩
  · cases hd
def ifV (c : Option Bool) (a b : Option T) : Option T := match c with
  | some true => a | some false => b | none => none
theorem ev_if {c : Expr} (hc : BV G K c da) (ha : EV G K a ea) (hb : EV G K b eb) : EV G K (.IfExp c a b pos) (fun ρ => ifV (da ρ) (ea ρ) (eb ρ)) := by
  intro ρ σ H τ Q he hd hq
  refine ⟨_, fun i => pe_ifExp (pt_ts i) (pe_ts i) (pe_ts i), ?_⟩
  dsimp only at hd
  unfold ifV at hd
  split at hd
  · rename_i e
    refine hc ρ σ H true _ he e fun H1 s1 => ?_
    rw [if_pos rfl]
    exact ha ρ σ H1 τ Q (he.same s1) hd fun v H2 s2 => hq v H2 (s1.trans s2)
  · rename_i e
    refine hc ρ σ H false _ he e fun H1 s1 => ?_
    rw [if_neg Bool.false_ne_true]
    exact hb ρ σ H1 τ Q (he.same s1) hd fun v H2 s2 => hq v H2 (s1.trans s2)
  · cases hd

/-! ### arguments, displays -/
def consD (a : Option T) (r : Option (List T)) : Option (List T) := match a, r with
  | some x, some xs => some (x :: xs)
  | _, _ => none
theorem consD_some {a : Option T} {r : Option (List T)} {τs : List T} (h : consD a r = some τs) : ∃ x xs, a = some x ∧ r = some xs ∧ τs = x :: xs := by
  cases a with
  | none => cases h
  | some x => cases r with
    | none => cases h
    | some xs => cases h; exact ⟨x, xs, rfl, rfl, rfl⟩
@[simp] theorem consD_mk {x : T} {xs : List T} : consD (some x) (some xs) = some (x :: xs) := rfl
variable {es : List Expr} {dr : Env' → Option (List T)}
theorem av_nil : AV G K [] (fun _ => some []) := by
  refine ⟨fun ρ τs h => by cases h; rfl, ?_⟩
  intro ρ σ H τs Q he hd hq
  cases hd
  exact ⟨_, fun _ => pa_nil, hq [] H (Same.refl H) Reps.nil⟩
theorem av_cons (ha : EV G K a ea) (hr : AV G K es dr) (hs : ∀ i, starEach (a :: es) (G i).env = (false, eval a (G i).env) :: starEach es (G i).env := by intro _; rfl) : AV G K (a :: es) (fun ρ => consD (ea ρ) (dr ρ)) := by
  refine ⟨fun ρ τs h => ?_, ?_⟩
  · obtain ⟨x, xs, e1, e2, rfl⟩ := consD_some h
    simp [hr.1 ρ xs e2]
  intro ρ σ H τs Q he hd hq
  obtain ⟨x, xs, e1, e2, rfl⟩ := consD_some hd
  refine ⟨tCons (ES G a) (TAs G es), fun i => pa_cons (pe_ts i) (pa_ts i) (hs i), ?_⟩
  refine ha ρ σ H x _ he e1 fun v H1 s1 r1 => hr.2 ρ σ H1 xs _ (he.same s1) e2 fun vs H2 s2 r2 => ?_
  exact hq _ _ (s1.trans s2) (.cons (r1.same s2) r2)
def tupD (r : Option (List T)) : Option T := match r with
  | some ts => if ts.length ≤ sizeLine then some (.tup ts) else none
  | none => none
def lstD (r : Option (List T)) : Option T := match r with
  | some ts => if ts.length ≤ sizeLine then some (.lst ts) else none
  | none => none
theorem ev_tup {x1} (h : AV G K es dr) : EV G K (.Tuple es x1 pos) (fun ρ => tupD (dr ρ)) := by
  intro ρ σ H τ Q he hd hq
  dsimp only at hd
  unfold tupD at hd
  split at hd
  · rename_i ts e
    split at hd
    · rename_i hl
      cases hd
      refine ⟨_, fun i => pe_tup (pa_ts i), ?_⟩
      refine h.2 ρ σ H ts _ he e fun vs H1 s1 r => ⟨by rw [← r.length]; exact hl, fun p np => ?_⟩
      exact hq _ _ (s1.trans (same_upd' np)) (rep_tup.mpr ⟨p, vs, rfl, .inl (.inl upd_same), r.same (same_upd' np)⟩)
    · cases hd
  · cases hd
theorem evf_lst (h : AV G K es dr) : EVF G K (.List es pos) (fun ρ => lstD (dr ρ)) := by
  intro ρ σ H τ Q he hd hq
  dsimp only at hd
  unfold lstD at hd
  split at hd
  · rename_i ts e
    split at hd
    · rename_i hl
      cases hd
      refine ⟨_, fun i => pe_lst (pa_ts i), ?_⟩
      refine h.2 ρ σ H ts _ he e fun vs H1 s1 r => ⟨by rw [← r.length]; exact hl, fun p np => ?_⟩
      exact hq p (.lst vs) _ (s1.trans (same_upd' np)) (s1.free np) upd_same (.inl ⟨ts, vs, rfl, rfl, r.same (same_upd' np)⟩)
    · cases hd
  · cases hd
end DL
namespace DL
open PySem PySem.Spec PyProof.Rows L2
variable {ι : Type} {G : ι → Cx} {K : PySem.W.Frag} {mg : Str → Option Value} {base : Heap} {P : Program} {w : World} {N : List Str} {sc : Scope} {k : Nat}

/-! ### what cannot be changed -/
mutual
def imm : T → Bool
  | .non => true | .bl _ => true | .int _ => true | .str _ => true | .raw _ => true
  | .tup ts => immL ts
  | .scr _ => false | .lst _ => false | .dic _ => false | .clo _ => false
def immL : List T → Bool
  | [] => true
  | t :: ts => imm t && immL ts
end
def immK : List (Key × T) → Bool
  | [] => true
  | (_, t) :: ts => imm t && immK ts
/-- the items of a list or dict -/
def immE : T → Bool
  | .lst ts => immL ts | .dic ts => immK ts | _ => false
def tupO : Option HO → Option HO
  | some (.tup xs) => some (.tup xs)
  | some (.frz o (.tup xs)) => some (.frz o (.tup xs))
  | _ => none
/-- B and the tuples of H -/
def addT (B H : Hp) : Hp := fun a => match B a with
  | some o => some o
  | none => tupO (H a)
theorem addT_some {B H : Hp} {a : Addr} {o : HO} (h : B a = some o) : addT B H a = some o := by unfold addT; rw [h]
theorem addT_none {B H : Hp} {a : Addr} (h : B a = none) : addT B H a = tupO (H a) := by unfold addT; rw [h]
theorem tupO_some {o : Option HO} {u : HO} (h : tupO o = some u) : o = some u := by
  unfold tupO at h
  split at h
  · exact h
  · exact h
  · cases h
theorem same_addT {B H : Hp} : Same B (addT B H) := fun a o h => addT_some h
theorem addT_same {B H : Hp} (s : Same B H) : Same (addT B H) H := fun a o h => by
  cases e : B a with
  | some u =>
    rw [addT_some e] at h
    cases h
    exact s a _ e
  | none =>
    rw [addT_none e] at h
    exact tupO_some h
theorem addT_sqT {B H : Hp} {a : Addr} {vs : List V} (s : Same B H) (h : SqT K H a vs) : SqT K (addT B H) a vs := by
  rcases h with (h | ⟨o, h⟩) | h
  · cases e : B a with
    | some u =>
      have := s a u e
      rw [h] at this
      cases this
      exact .inl (.inl (addT_some e))
    | none =>
      exact .inl (.inl (by rw [addT_none e, h]; rfl))
  · cases e : B a with
    | some u =>
      have := s a u e
      rw [h] at this
      cases this
      exact .inl (.inr ⟨o, addT_some e⟩)
    | none =>
      exact .inl (.inr ⟨o, by rw [addT_none e, h]; rfl⟩)
  · exact .inr h
section
variable {B H : Hp}
mutual
theorem imm_rep (s : Same B H) : ∀ (t : T) (v : V), imm t = true → Rep K H t v → Rep K (addT B H) t v
  | .non, _, _, h => rep_non.mpr (rep_non.mp h)
  | .bl _, _, _, h => rep_bl.mpr (rep_bl.mp h)
  | .int _, _, _, h => rep_int.mpr (rep_int.mp h)
  | .str _, _, _, h => rep_str.mpr (rep_str.mp h)
  | .raw _, _, _, h => rep_raw.mpr (rep_raw.mp h)
  | .scr _, _, e, _ => by simp [imm] at e
  | .clo _, _, e, _ => by simp [imm] at e
  | .lst _, _, e, _ => by simp [imm] at e
  | .dic _, _, e, _ => by simp [imm] at e
  | .tup ts, v, e, h => by
    obtain ⟨a, vs, rfl, q, r⟩ := rep_tup.mp h
    exact rep_tup.mpr ⟨a, vs, rfl, addT_sqT s q, imm_reps s ts vs (by simpa [imm] using e) r⟩
theorem imm_reps (s : Same B H) : ∀ (t : List T) (v : List V), immL t = true → Reps K H t v → Reps K (addT B H) t v
  | [], v, _, h => by unfold Reps at h ⊢; exact h
  | t :: ts, v, e, h => by
    unfold Reps at h
    obtain ⟨x, r, rfl, h1, h2⟩ := h
    have e' : imm t = true ∧ immL ts = true := by simpa [immL] using e
    exact .cons (imm_rep s t x e'.1 h1) (imm_reps s ts r e'.2 h2)
end
theorem imm_repsK (s : Same B H) : ∀ (t : List (Key × T)) (v : List (Key × V)), immK t = true → RepsK K H t v → RepsK K (addT B H) t v
  | [], v, _, h => by unfold RepsK at h ⊢; exact h
  | (k, t) :: ts, v, e, h => by
    unfold RepsK at h ⊢
    obtain ⟨x, r, rfl, h1, h2⟩ := h
    have e' : imm t = true ∧ immK ts = true := by simpa [immK] using e
    exact ⟨x, r, rfl, imm_rep s t x e'.1 h1, imm_repsK s ts r e'.2 h2⟩
theorem imm_frO {τ : T} {o : HO} (s : Same B H) (e : immE τ = true) (h : FrO K H τ o) : FrO K (addT B H) τ o := by
  rcases h with ⟨ts, vs, rfl, rfl, r⟩ | ⟨ts, vs, rfl, rfl, r⟩
  · exact .inl ⟨ts, vs, rfl, rfl, imm_reps s ts vs e r⟩
  · exact .inr ⟨ts, vs, rfl, rfl, imm_repsK s ts vs e r⟩
end
theorem FrO.same {H H' : Hp} {τ : T} {o : HO} (h : FrO K H τ o) (s : Same H H') : FrO K H' τ o := by
  rcases h with ⟨ts, vs, rfl, rfl, r⟩ | ⟨ts, vs, rfl, rfl, r⟩
  · exact .inl ⟨ts, vs, rfl, rfl, r.same s⟩
  · exact .inr ⟨ts, vs, rfl, rfl, r.same s⟩
theorem FrO.tupO {H : Hp} {τ : T} {o : HO} (h : FrO K H τ o) : tupO (some o) = none := by
  rcases h with ⟨ts, vs, rfl, rfl, r⟩ | ⟨ts, vs, rfl, rfl, r⟩ <;> rfl

/-! ### the state between two statements -/
/-- B: what stays as it is; ow: the slots whose list or dict no one else knows -/
structure StR' (K : PySem.W.Frag) (B : Hp) (ow : List Nat) (ρ : Env') (σ : St) (H : Hp) : Prop where
  sm : Same B H
  len : σ.length = ρ.length
  val : ∀ (i : Nat) (t : T), i ∉ ow → ρ[i]? = some (some t) → ∃ v : V, σ[i]? = some (some v) ∧ Rep K B t v
  own : ∀ (i : Nat) (t : T), i ∈ ow → ρ[i]? = some (some t) → ∃ a o, σ[i]? = some (some (V.ref a)) ∧ B a = none ∧ H a = some o ∧ FrO K B t o
  inj : ∀ (i j : Nat) (a : Addr) (ti tj : T), i ∈ ow → j ∈ ow → ρ[i]? = some (some ti) → ρ[j]? = some (some tj) → σ[i]? = some (some (V.ref a)) → σ[j]? = some (some (V.ref a)) → i = j
def StR (K : PySem.W.Frag) (B : Hp) (ow : List Nat) (ρ : Env') (σ : St) (H : Hp) : Prop := ∃ B', Same B B' ∧ StR' K B' ow ρ σ H
theorem StR'.env {B : Hp} {ow : List Nat} {ρ : Env'} {σ : St} {H : Hp} (h : StR' K B ow ρ σ H) : EnvR K H σ ρ := by
  refine ⟨h.len, fun i t e => ?_⟩
  by_cases m : i ∈ ow
  · obtain ⟨a, o, e1, _, e2, f⟩ := h.own i t m e
    exact ⟨_, e1, (f.same h.sm).rep e2⟩
  · obtain ⟨v, e1, r⟩ := h.val i t m e
    exact ⟨v, e1, r.same h.sm⟩
theorem StR.env {B : Hp} {ow : List Nat} {ρ : Env'} {σ : St} {H : Hp} (h : StR K B ow ρ σ H) : EnvR K H σ ρ := let ⟨_, _, q⟩ := h; q.env
theorem StR'.grow {B : Hp} {ow : List Nat} {ρ : Env'} {σ : St} {H H' : Hp} (h : StR' K B ow ρ σ H) (s : Same H H') : StR' K B ow ρ σ H' :=
  ⟨h.sm.trans s, h.len, h.val, fun i t m e => let ⟨a, o, e1, e2, e3, f⟩ := h.own i t m e; ⟨a, o, e1, e2, s _ _ e3, f⟩, h.inj⟩
theorem StR.grow {B : Hp} {ow : List Nat} {ρ : Env'} {σ : St} {H H' : Hp} (h : StR K B ow ρ σ H) (s : Same H H') : StR K B ow ρ σ H' :=
  let ⟨B', e, q⟩ := h; ⟨B', e, q.grow s⟩
theorem StR.sm {B : Hp} {ow : List Nat} {ρ : Env'} {σ : St} {H : Hp} (h : StR K B ow ρ σ H) : Same B H := let ⟨_, e, q⟩ := h; e.trans q.sm
theorem StR.of {B B' : Hp} {ow : List Nat} {ρ : Env'} {σ : St} {H : Hp} (h : StR K B' ow ρ σ H) (e : Same B B') : StR K B ow ρ σ H :=
  let ⟨B2, e2, q⟩ := h; ⟨B2, e.trans e2, q⟩
/-- the base takes the new tuples -/
theorem StR'.addT {B : Hp} {ow : List Nat} {ρ : Env'} {σ : St} {H : Hp} (h : StR' K B ow ρ σ H) : StR' K (addT B H) ow ρ σ H := by
  refine ⟨addT_same h.sm, h.len, fun i t m e => ?_, fun i t m e => ?_, h.inj⟩
  · obtain ⟨v, e1, r⟩ := h.val i t m e
    exact ⟨v, e1, r.same same_addT⟩
  · obtain ⟨a, o, e1, e2, e3, f⟩ := h.own i t m e
    refine ⟨a, o, e1, ?_, e3, f.same same_addT⟩
    rw [addT_none e2, e3]
    exact f.tupO
/-- a slot is no more its owner's alone -/
theorem StR.drop {B : Hp} {ow ow' : List Nat} {ρ : Env'} {σ : St} {H : Hp} (h : StR K B ow ρ σ H) (hs : ∀ i ∈ ow', i ∈ ow) : StR K B ow' ρ σ H := by
  obtain ⟨B', e, q⟩ := h
  -- what the dropped slots hold joins the base
  let dropped : Addr → Prop := fun a => ∃ i t, i ∈ ow ∧ i ∉ ow' ∧ ρ[i]? = some (some t) ∧ σ[i]? = some (some (V.ref a))
  have dec : ∀ a, Decidable (dropped a) := fun a => Classical.propDecidable _
  let B2 : Hp := fun a => @ite _ (dropped a) (dec a) (H a) (B' a)
  have s1 : Same B' B2 := fun a o h => by
    show @ite _ (dropped a) (dec a) (H a) (B' a) = some o
    split
    · exact q.sm a o h
    · exact h
  have s2 : Same B2 H := fun a o h => by
    have h : @ite _ (dropped a) (dec a) (H a) (B' a) = some o := h
    split at h
    · exact h
    · exact q.sm a o h
  refine ⟨B2, e.trans s1, s2, q.len, fun i t m hr => ?_, fun i t m hr => ?_, fun i j a ti tj mi mj => q.inj i j a ti tj (hs i mi) (hs j mj)⟩
  · by_cases mo : i ∈ ow
    · obtain ⟨a, o, e1, e2, e3, f⟩ := q.own i t mo hr
      refine ⟨_, e1, (f.same s1).rep ?_⟩
      show @ite _ (dropped a) (dec a) (H a) (B' a) = some o
      rw [if_pos ⟨i, t, mo, m, hr, e1⟩]
      exact e3
    · obtain ⟨v, e1, r⟩ := q.val i t mo hr
      exact ⟨v, e1, r.same s1⟩
  · obtain ⟨a, o, e1, e2, e3, f⟩ := q.own i t (hs i m) hr
    refine ⟨a, o, e1, ?_, e3, f.same s1⟩
    show @ite _ (dropped a) (dec a) (H a) (B' a) = none
    rw [if_neg ?_]
    · exact e2
    · rintro ⟨j, tj, mj, nj, hj, ej⟩
      have := q.inj i j a t tj (hs i m) mj hr hj e1 ej
      subst this
      exact nj m

/-! ### statements by their denotation -/
inductive Out where
  | nx (ρ : Env') | rt (t : T) | bk (ρ : Env') | ct (ρ : Env') | er
def RtR (K : PySem.W.Frag) (B : Hp) (fr : Bool) (τ : T) (v : V) (H : Hp) : Prop :=
  if fr = true then ∃ p o, v = .ref p ∧ B p = none ∧ H p = some o ∧ FrO K H τ o else Rep K H τ v
def Post (K : PySem.W.Frag) (fr : Bool) (B : Hp) (D : Ends) (ow' owl : List Nat) : Out → Prop
  | .nx ρ => ∀ σ H, StR K B ow' ρ σ H → D.nx σ H
  | .bk ρ => ∀ σ H, StR K B owl ρ σ H → D.bk σ H
  | .ct ρ => ∀ σ H, StR K B owl ρ σ H → D.ct σ H
  | .rt τ => ∀ v H, Same B H → RtR K B fr τ v H → D.rt v H
  | .er => False
def TSt (G : ι → Cx) (st : Stmt) : TS := fun D σ H => ∃ t, (∀ i, PS (G i) st t) ∧ t D σ H
theorem ps_st {st : Stmt} (i : ι) : PS (G i) st (TSt G st) := ⟨fun pins s σ H D I ⟨t, h, q⟩ => (h i).run pins s σ H D I q⟩
def TSs (G : ι → Cx) (st : List Stmt) : TS := fun D σ H => ∃ t, (∀ i, PSs (G i) st t) ∧ t D σ H
theorem pss_ss {st : List Stmt} (i : ι) : PSs (G i) st (TSs G st) := ⟨fun pins s σ H D I ⟨t, h, q⟩ => (h i).run pins s σ H D I q⟩
def SV (K : PySem.W.Frag) (fr : Bool) (ow ow' owl : List Nat) (R : TS) (d : Env' → Out) : Prop :=
  ∀ B ρ σ H D, StR K B ow ρ σ H → Post K fr B D ow' owl (d ρ) → R D σ H
variable {fr : Bool} {ow ow' ow2 owl : List Nat} {R : TS} {d d1 d2 : Env' → Out} {st : Stmt} {sts : List Stmt}

theorem sv_drop (hs : ∀ i ∈ ow2, i ∈ ow) (h : SV K fr ow2 ow' owl R d) : SV K fr ow ow' owl R d := fun B ρ σ H D hr hp => h B ρ σ H D (hr.drop hs) hp
theorem Post.weak {B : Hp} {D : Ends} {ow1 ow2 owl : List Nat} {o : Out} (hs : ∀ i ∈ ow2, i ∈ ow1) (h : Post K fr B D ow2 owl o) : Post K fr B D ow1 owl o := by
  cases o with
  | nx ρ => exact fun σ H q => h σ H (q.drop hs)
  | _ => exact h
/-- at the end fewer are owned -/
theorem sv_weak (hs : ∀ i ∈ ow2, i ∈ ow') (h : SV K fr ow ow' owl R d) : SV K fr ow ow2 owl R d := fun B ρ σ H D hr hp => h B ρ σ H D hr (hp.weak hs)
def seqD (d1 d2 : Env' → Out) : Env' → Out := fun ρ => match d1 ρ with
  | .nx ρ' => d2 ρ'
  | o => o
theorem sv_nil : SV K fr ow ow owl (TSs G []) (fun ρ => .nx ρ) := fun B ρ σ H D hr hp => ⟨_, fun _ => pss_nil, hp σ H hr⟩
theorem sv_cons (h1 : SV K fr ow ow2 owl (TSt G st) d1) (h2 : SV K fr ow2 ow' owl (TSs G sts) d2) : SV K fr ow ow' owl (TSs G (st :: sts)) (seqD d1 d2) := by
  intro B ρ σ H D hr hp
  refine ⟨tSeq (TSt G st) (TSs G sts), fun i => pss_cons (ps_st i) (pss_ss i), ?_⟩
  refine h1 B ρ σ H _ hr ?_
  unfold seqD at hp
  split at hp
  · rename_i ρ' e
    rw [e]
    exact fun σ' H' hr' => h2 B ρ' σ' H' D hr' hp
  · rename_i ne
    cases e : d1 ρ with
    | nx ρ' => exact absurd e (ne ρ')
    | _ => rw [e] at hp; exact hp
theorem sv_one (h : SV K fr ow ow' owl (TSt G st) d) : SV K fr ow ow' owl (TSs G [st]) d := fun B ρ σ H D hr hp => ⟨_, fun i => pss_one (ps_st i), h B ρ σ H D hr hp⟩
theorem sv_pass {pos} : SV K fr ow ow owl (TSt G (.Pass pos)) (fun ρ => .nx ρ) := fun B ρ σ H D hr hp => ⟨_, fun _ => ps_pass, hp σ H hr⟩
theorem sv_break {pos} : SV K fr owl ow' owl (TSt G (.Break pos)) (fun ρ => .bk ρ) := fun B ρ σ H D hr hp => ⟨_, fun _ => ps_break, hp σ H hr⟩
theorem sv_cont {pos} : SV K fr owl ow' owl (TSt G (.Continue pos)) (fun ρ => .ct ρ) := fun B ρ σ H D hr hp => ⟨_, fun _ => ps_continue, hp σ H hr⟩
theorem sv_doc {x j pos pos'} : SV K fr ow ow owl (TSt G (.Expr (.Constant (.str x) j pos) pos')) (fun ρ => .nx ρ) := fun B ρ σ H D hr hp => ⟨_, fun _ => ps_doc, hp σ H hr⟩
variable {e : Expr} {de : Env' → Option T} {pos : Pos}
def exD (o : Option T) (ρ : Env') : Out := match o with
  | some _ => .nx ρ
  | none => .er
theorem sv_expr (h : EV G K e de) (hs : ∀ i, swapsWith e none pos.line (G i).env = pure false := by intro _; rfl) : SV K fr ow ow owl (TSt G (.Expr e pos)) (fun ρ => exD (de ρ) ρ) := by
  intro B ρ σ H D hr hp
  dsimp only at hp
  unfold exD at hp
  split at hp
  · rename_i τ e1
    exact ⟨_, fun i => ps_expr (pe_ts i) (hs i), h ρ σ H τ _ hr.env e1 fun v H' s r => hp σ H' (hr.grow s)⟩
  · cases hp
def rtD (o : Option T) : Out := match o with
  | some τ => .rt τ
  | none => .er
theorem sv_ret (h : EV G K e de) : SV K false ow ow' owl (TSt G (.Return (some e) pos)) (fun ρ => rtD (de ρ)) := by
  intro B ρ σ H D hr hp
  dsimp only at hp
  unfold rtD at hp
  split at hp
  · rename_i τ e1
    exact ⟨_, fun i => ps_ret (pe_ts i), h ρ σ H τ _ hr.env e1 fun v H' s r => hp v H' (hr.sm.trans s) r⟩
  · cases hp
theorem sv_retF (h : EVF G K e de) : SV K true ow ow' owl (TSt G (.Return (some e) pos)) (fun ρ => rtD (de ρ)) := by
  intro B ρ σ H D hr hp
  dsimp only at hp
  unfold rtD at hp
  split at hp
  · rename_i τ e1
    refine ⟨_, fun i => ps_ret (pe_ts i), h ρ σ H τ _ hr.env e1 fun p o H' s np e f => hp _ H' (hr.sm.trans s) ?_⟩
    exact ⟨p, o, rfl, hr.sm.free np, e, f⟩
  · cases hp
/-- an owned name is handed back -/
theorem sv_retO (hG : Fm G K mg base P w N sc k) (i : Nat) (hi : i ∈ ow) {x : Str} {pos' : Pos} (hN : N[i]? = some x := by rfl) (hv : visB sc x = true := by rfl)
    (hd : (x == ("__debug__" : Str)) = false := by decide) (hcd : (x == ("__classdict__" : Str)) = false := by decide) : SV K true ow ow' owl (TSt G (.Return (some (.Name x pos')) pos)) (fun ρ => rtD (nd i ρ)) := by
  intro B ρ σ H D hr hp
  dsimp only at hp
  unfold rtD at hp
  split at hp
  · rename_i τ e1
    obtain ⟨B', sB, q⟩ := hr
    obtain ⟨a, o, s1, s2, s3, f⟩ := q.own i τ hi (nd_some e1)
    refine ⟨_, fun j => ps_ret (pe_var (i := i) (by rw [hG.N j]; exact hN) (by rw [hG.sc j]; exact vis_of hv) hd hcd), ?_⟩
    exact ⟨_, s1, hp _ H (sB.trans q.sm) ⟨a, o, rfl, sB.free s2, s3, f.same q.sm⟩⟩
  · cases hp
theorem sv_retN : SV K false ow ow' owl (TSt G (.Return none pos)) (fun ρ => .rt .non) := fun B ρ σ H D hr hp => ⟨_, fun _ => ps_retN, hp _ H hr.sm (show Rep K H .non .non from rep_non.mpr rfl)⟩
def ifD (c : Option Bool) (a b : Env' → Out) (ρ : Env') : Out := match c with
  | some true => a ρ
  | some false => b ρ
  | none => .er
theorem sv_if {c : Expr} {a b : List Stmt} {dc : Env' → Option Bool} (hc : BV G K c dc) (ha : SV K fr ow ow' owl (TSs G a) d1) (hb : SV K fr ow ow' owl (TSs G b) d2) :
    SV K fr ow ow' owl (TSt G (.If c a b pos)) (fun ρ => ifD (dc ρ) d1 d2 ρ) := by
  intro B ρ σ H D hr hp
  dsimp only at hp
  unfold ifD at hp
  refine ⟨_, fun i => ps_if (pt_ts i) (pss_ss i) (pss_ss i), ?_⟩
  split at hp
  · rename_i e1
    refine hc ρ σ H true _ hr.env e1 fun H1 s1 => ?_
    rw [if_pos rfl]
    exact ha B ρ σ H1 D (hr.grow s1) hp
  · rename_i e1
    refine hc ρ σ H false _ hr.env e1 fun H1 s1 => ?_
    rw [if_neg Bool.false_ne_true]
    exact hb B ρ σ H1 D (hr.grow s1) hp
  · cases hp

/-! ### stores -/
def locB (sc : Scope) (x : Str) : Bool := match sc.names.lookup x with
  | some .local => true | some .cell => true | _ => false
theorem loc_of {sc : Scope} {x : Str} (h : locB sc x = true) : Loc sc x := by
  unfold locB at h
  split at h
  · exact .inl (by assumption)
  · exact .inr (by assumption)
  · cases h
/-- the frame's own names: all of them (a def's body) -/
structure FnB (G : ι → Cx) (sc : Scope) : Prop where
  fn : ∀ i x, (G i).fn x = true ∨ (G i).env.scope.names.lookup x = some .local
theorem set_get {α : Type} {l : List α} {i j : Nat} {x y : α} (h : (l.set i x)[j]? = some y) : (j = i ∧ y = x) ∨ (j ≠ i ∧ l[j]? = some y) := by
  by_cases e : j = i
  · subst e
    by_cases hl : j < l.length
    · rw [List.getElem?_set_self hl] at h
      exact .inl ⟨rfl, (Option.some.inj h).symm⟩
    · rw [List.getElem?_eq_none (by simpa using hl)] at h
      cases h
  · rw [List.getElem?_set_ne (fun z => e z.symm)] at h
    exact .inr ⟨e, h⟩
theorem StR'.set {B : Hp} {ρ : Env'} {σ : St} {H : Hp} {i : Nat} {t : T} {v : V} (h : StR' K B ow ρ σ H) (ni : i ∉ ow) (r : Rep K B t v) : StR' K B ow (ρ.set i (some t)) (σ.set i (some v)) H := by
  refine ⟨h.sm, by simpa using h.len, fun j tj m e => ?_, fun j tj m e => ?_, fun j l a tj tl mj ml ej el fj fl => ?_⟩
  · rcases set_get e with ⟨rfl, e'⟩ | ⟨nj, e'⟩
    · cases e'
      have hl : j < σ.length := by
        rw [h.len]
        have := (List.getElem?_eq_some_iff.mp e).1
        simpa using this
      exact ⟨v, List.getElem?_set_self hl, r⟩
    · obtain ⟨x, e1, q⟩ := h.val j tj m e'
      exact ⟨x, by rw [List.getElem?_set_ne (fun z => nj z.symm)]; exact e1, q⟩
  · have nj : j ≠ i := fun z => ni (z ▸ m)
    rw [List.getElem?_set_ne (fun z => nj z.symm)] at e
    obtain ⟨a, o, e1, q⟩ := h.own j tj m e
    exact ⟨a, o, by rw [List.getElem?_set_ne (fun z => nj z.symm)]; exact e1, q⟩
  · have nj : j ≠ i := fun z => ni (z ▸ mj)
    have nl : l ≠ i := fun z => ni (z ▸ ml)
    rw [List.getElem?_set_ne (fun z => nj z.symm)] at ej fj
    rw [List.getElem?_set_ne (fun z => nl z.symm)] at el fl
    exact h.inj j l a tj tl mj ml ej el fj fl
/-- where none is owned all of the heap is the base -/
theorem StR.all {B : Hp} {ρ : Env'} {σ : St} {H : Hp} (h : StR K B [] ρ σ H) : StR' K H [] ρ σ H := by
  obtain ⟨B', s, q⟩ := h
  exact ⟨Same.refl H, q.len, fun i t m e => let ⟨v, e1, r⟩ := q.val i t m e; ⟨v, e1, r.same q.sm⟩, fun i t m => absurd m (by simp), fun i j a ti tj m => absurd m (by simp)⟩
/-- a value joins the base -/
theorem StR.settle {B : Hp} {ρ : Env'} {σ : St} {H : Hp} {t : T} {v : V} (h : StR K B ow ρ σ H) (c : ow.isEmpty = true ∨ imm t = true) (r : Rep K H t v) : ∃ B2, Same B B2 ∧ StR' K B2 ow ρ σ H ∧ Rep K B2 t v := by
  rcases c with c | c
  · have : ow = [] := by simpa using c
    subst this
    exact ⟨H, h.sm, h.all, r⟩
  · obtain ⟨B', s, q⟩ := h
    exact ⟨addT B' H, s.trans same_addT, q.addT, imm_rep q.sm t v c r⟩
def setD (free : Bool) (i : Nat) (o : Option T) (ρ : Env') : Out := match o with
  | some τ => if (free || imm τ) = true then .nx (ρ.set i (some τ)) else .er
  | none => .er
theorem sv_set (hG : Fm G K mg base P w N sc k) (hN0 : N.Nodup) (hF : FnB G sc) (i : Nat) (ni : i ∉ ow) {x : Str} {pos' : Pos} (h : EV G K e de) (hN : N[i]? = some x := by rfl) (hv : locB sc x = true := by rfl)
    (hs : ∀ i, swapsWith e (some (.Name x pos')) pos.line (G i).env = pure false := by intro _; rfl) : SV K fr ow ow owl (TSt G (.Assign [.Name x pos'] e pos)) (fun ρ => setD ow.isEmpty i (de ρ) ρ) := by
  intro B ρ σ H D hr hp
  dsimp only at hp
  unfold setD at hp
  split at hp
  · rename_i τ e1
    split at hp
    · rename_i c
      refine ⟨_, fun j => ps_set (i := i) (by rw [hG.N j]; exact hN0) (by rw [hG.N j]; exact hN) (by rw [hG.sc j]; exact loc_of hv) (pe_ts j) (hs j) (hF.fn j x), ?_⟩
      refine h ρ σ H τ _ hr.env e1 fun v H' s r => ?_
      obtain ⟨B2, s2, q, r2⟩ := (hr.grow s).settle (by simpa using c) r
      exact hp _ H' ⟨B2, s2, q.set ni r2⟩
    · cases hp
  · cases hp
theorem StR'.setO {B : Hp} {ρ : Env'} {σ : St} {H : Hp} {i : Nat} {t : T} {a : Addr} {o : HO} (h : StR' K B ow ρ σ H) (ni : i ∉ ow) (na : B a = none) (nw : ∀ j tj, j ∈ ow → ρ[j]? = some (some tj) → σ[j]? ≠ some (some (V.ref a))) (ea : H a = some o) (f : FrO K B t o) :
    StR' K B (i :: ow) (ρ.set i (some t)) (σ.set i (some (V.ref a))) H := by
  have lt : ∀ {j : Nat} {y : Option T}, (ρ.set i (some t))[j]? = some y → j < σ.length := fun e => by
    rw [h.len]
    have := (List.getElem?_eq_some_iff.mp e).1
    simpa using this
  refine ⟨h.sm, by simpa using h.len, fun j tj m e => ?_, fun j tj m e => ?_, fun j l b tj tl mj ml ej el fj fl => ?_⟩
  · have nj : j ≠ i := fun z => m (by rw [z]; exact List.mem_cons_self)
    rw [List.getElem?_set_ne (fun z => nj z.symm)] at e
    obtain ⟨x, e1, q⟩ := h.val j tj (fun z => m (List.mem_cons_of_mem _ z)) e
    exact ⟨x, by rw [List.getElem?_set_ne (fun z => nj z.symm)]; exact e1, q⟩
  · have hl := lt e
    rcases set_get e with ⟨rfl, e'⟩ | ⟨nj, e'⟩
    · cases e'
      exact ⟨a, o, List.getElem?_set_self hl, na, ea, f⟩
    · have m' : j ∈ ow := by
        rcases List.mem_cons.mp m with z | z
        · exact absurd z nj
        · exact z
      obtain ⟨b, ob, e1, q⟩ := h.own j tj m' e'
      exact ⟨b, ob, by rw [List.getElem?_set_ne (fun z => nj z.symm)]; exact e1, q⟩
  · have lj := lt ej
    have ll := lt el
    rcases set_get ej with ⟨rfl, e1⟩ | ⟨nj, e1⟩
    · rcases set_get el with ⟨rfl, e2⟩ | ⟨nl, e2⟩
      · rfl
      · rw [List.getElem?_set_self lj] at fj
        cases fj
        rw [List.getElem?_set_ne (fun z => nl z.symm)] at fl
        have m' : l ∈ ow := by
          rcases List.mem_cons.mp ml with z | z
          · exact absurd z nl
          · exact z
        exact absurd fl (nw l tl m' e2)
    · have mj' : j ∈ ow := by
        rcases List.mem_cons.mp mj with z | z
        · exact absurd z nj
        · exact z
      rw [List.getElem?_set_ne (fun z => nj z.symm)] at fj
      rcases set_get el with ⟨rfl, e2⟩ | ⟨nl, e2⟩
      · rw [List.getElem?_set_self ll] at fl
        cases fl
        exact absurd fj (nw j tj mj' e1)
      · have ml' : l ∈ ow := by
          rcases List.mem_cons.mp ml with z | z
          · exact absurd z nl
          · exact z
        rw [List.getElem?_set_ne (fun z => nl z.symm)] at fl
        exact h.inj j l b tj tl mj' ml' e1 e2 fj fl
def ownD (i : Nat) (o : Option T) (ρ : Env') : Out := match o with
  | some τ => if immE τ = true then .nx (ρ.set i (some τ)) else .er
  | none => .er
theorem sv_setO (hG : Fm G K mg base P w N sc k) (hN0 : N.Nodup) (hF : FnB G sc) (i : Nat) (ni : i ∉ ow) {x : Str} {pos' : Pos} (h : EVF G K e de) (hN : N[i]? = some x := by rfl) (hv : locB sc x = true := by rfl)
    (hs : ∀ i, swapsWith e (some (.Name x pos')) pos.line (G i).env = pure false := by intro _; rfl) : SV K fr ow (i :: ow) owl (TSt G (.Assign [.Name x pos'] e pos)) (fun ρ => ownD i (de ρ) ρ) := by
  intro B ρ σ H D hr hp
  dsimp only at hp
  unfold ownD at hp
  split at hp
  · rename_i τ e1
    split at hp
    · rename_i c
      refine ⟨_, fun j => ps_set (i := i) (by rw [hG.N j]; exact hN0) (by rw [hG.N j]; exact hN) (by rw [hG.sc j]; exact loc_of hv) (pe_ts j) (hs j) (hF.fn j x), ?_⟩
      refine h ρ σ H τ _ hr.env e1 fun p o H' s np ep f => ?_
      obtain ⟨B', sB, q⟩ := hr
      have nB : B' p = none := q.sm.free np
      refine hp _ H' ⟨addT B' H', sB.trans same_addT, (q.grow s).addT.setO ni ?_ ?_ ep (imm_frO (q.sm.trans s) c f)⟩
      · rw [addT_none nB, ep]
        exact f.tupO
      · intro j tj m ej z
        obtain ⟨b, ob, e2, _, e3, _⟩ := q.own j tj m ej
        rw [e2] at z
        cases z
        rw [np] at e3
        cases e3
    · cases hp
  · cases hp
/-- what an owned slot holds is changed -/
theorem StR'.write {B : Hp} {ρ : Env'} {σ : St} {H : Hp} {i : Nat} {t t' : T} {a : Addr} {o' : HO} (h : StR' K B ow ρ σ H) (mi : i ∈ ow) (ei : ρ[i]? = some (some t)) (ea : σ[i]? = some (some (V.ref a))) (f : FrO K B t' o') :
    StR' K B ow (ρ.set i (some t')) σ (upd H a o') := by
  obtain ⟨a0, o0, e1, e2, e3, f0⟩ := h.own i t mi ei
  rw [ea] at e1
  cases e1
  refine ⟨fun b ob z => ?_, by simpa using h.len, fun j tj m e => ?_, fun j tj m e => ?_, fun j l b tj tl mj ml ej el fj fl => ?_⟩
  · rw [upd_ne (ne_of_none z e2)]
    exact h.sm b ob z
  · have nj : j ≠ i := fun z => m (z ▸ mi)
    rw [List.getElem?_set_ne (fun z => nj z.symm)] at e
    exact h.val j tj m e
  · rcases set_get e with ⟨rfl, e'⟩ | ⟨nj, e'⟩
    · cases e'
      exact ⟨a, o', ea, e2, upd_same, f⟩
    · obtain ⟨b, ob, q1, q2, q3, q4⟩ := h.own j tj m e'
      refine ⟨b, ob, q1, q2, ?_, q4⟩
      rw [upd_ne]
      · exact q3
      · rintro rfl
        exact nj (h.inj j i b tj t m mi e' ei q1 ea)
  · have ex : ∀ {j : Nat} {y : T}, (ρ.set i (some t'))[j]? = some (some y) → ∃ z, ρ[j]? = some (some z) := fun {j y} e => by
      rcases set_get e with ⟨rfl, e⟩ | ⟨nj, e⟩
      · exact ⟨t, ei⟩
      · exact ⟨y, e⟩
    obtain ⟨z1, e1⟩ := ex ej
    obtain ⟨z2, e2⟩ := ex el
    exact h.inj j l b z1 z2 mj ml e1 e2 fj fl
def appD (i : Nat) (o : Option T) (ρ : Env') : Out := match nd i ρ, o with
  | some (.lst ts), some τ => if imm τ = true ∧ ts.length < sizeLine then .nx (ρ.set i (some (.lst (ts ++ [τ])))) else .er
  | _, _ => .er
theorem Reps.snoc {H : Hp} {ts : List T} {vs : List V} {t : T} {v : V} (h : Reps K H ts vs) (r : Rep K H t v) : Reps K H (ts ++ [t]) (vs ++ [v]) := by
  rw [Reps.paired] at h ⊢
  induction h with
  | nil => exact .cons r .nil
  | cons h1 h2 ih => exact .cons h1 ih
/-- xs.append(e), xs an owned list -/
theorem sv_append (hG : Fm G K mg base P w N sc k) (i : Nat) (hi : i ∈ ow) {x : Str} {px ap cp : Pos} (h : EV G K e de) (hN : N[i]? = some x := by rfl) (hv : visB sc x = true := by rfl)
    (hd : (x == ("__debug__" : Str)) = false := by decide) (hcd : (x == ("__classdict__" : Str)) = false := by decide)
    (hbm : ∀ j to te, PE (G j) (.Name x px) to → PE (G j) e te → PE (G j) (.Call (.Attribute (.Name x px) "append" ap) [e] [] cp) (tBM (G j).K "list" rAppend to (tCons te tNil)) := by
      intro j to te h1 h2; exact pe_bm PySem.F.plainAttrs_list PySem.F.slot_list_append PySem.F.type_list_append mt_append h1 (pa_cons h2 pa_nil))
    (hs : ∀ i, swapsWith (.Call (.Attribute (.Name x px) "append" ap) [e] [] cp) none pos.line (G i).env = pure false := by intro _; rfl) :
    SV K fr ow ow owl (TSt G (.Expr (.Call (.Attribute (.Name x px) "append" ap) [e] [] cp) pos)) (fun ρ => appD i (de ρ) ρ) := by
  intro B ρ σ H D hr hp
  dsimp only at hp
  unfold appD at hp
  split at hp
  · rename_i ts τ e1 e2
    split at hp
    · rename_i c
      obtain ⟨B', sB, q⟩ := id hr
      obtain ⟨a, o, s1, s2, s3, f⟩ := q.own i _ hi (nd_some e1)
      refine ⟨tDrop (tBM K "list" rAppend (tVar i) (tCons (ES G e) tNil)), fun j => ps_expr ?_ (hs j), ?_⟩
      · have := hbm j (tVar i) (ES G e) (pe_var (by rw [hG.N j]; exact hN) (by rw [hG.sc j]; exact vis_of hv) hd hcd) (pe_ts j)
        rw [hG.K j] at this
        exact this
      · have f' := f
        rcases f' with ⟨ts', vs, et, eo, r⟩ | ⟨_, _, et, _⟩
        · cases et
          subst eo
          refine ⟨_, s1, .inl ⟨rfl, vs, .inl (.inl s3)⟩, ?_⟩
          refine h ρ σ H τ _ hr.env e2 fun v H1 z1 r1 => ?_
          refine ⟨a, vs, v, rfl, rfl, z1 _ _ s3, by rw [← r.length]; exact c.2, ?_⟩
          have q1 := (q.grow z1).addT
          refine hp σ _ ⟨addT B' H1, sB.trans same_addT, q1.write hi (nd_some e1) s1 ?_⟩
          exact .inl ⟨_, _, rfl, rfl, (r.same same_addT).snoc (imm_rep (q.sm.trans z1) τ v c.1 r1)⟩
        · cases et
    · cases hp
  · cases hp
end DL
namespace DL
open PySem PySem.Spec PyProof.Rows L2
variable {ι : Type} {G : ι → Cx} {K : PySem.W.Frag} {mg : Str → Option Value} {base : Heap} {P : Program} {w : World} {N : List Str} {sc : Scope} {k : Nat}
variable {fr : Bool} {ow ow' owl : List Nat}

/-! ### what is walked -/
def IT (G : ι → Cx) (tg iter : Expr) : TI := fun σ H R => ∃ wi, (∀ i, PI (G i) tg iter wi) ∧ wi σ H R
theorem pi_it {tg iter : Expr} (i : ι) : PI (G i) tg iter (IT G tg iter) := ⟨fun pins s σ H R I ⟨t, h, q⟩ => (h i).run pins s σ H R I q⟩
structure Walks (K : PySem.W.Frag) (J : It) (B : Hp) (ts : List T) : Prop where
  go : ∀ i H, Same B H → i < ts.length → J.go i H
  stop : ∀ i H, Same B H → ts.length ≤ i → J.stop i H
  yld : ∀ (i : Nat) (t : T) H x H', Same B H → ts[i]? = some t → J.yld i H x H' → Same H H' ∧ Rep K (addT B H') t x
def IVat (G : ι → Cx) (K : PySem.W.Frag) (ow : List Nat) (tg iter : Expr) (B : Hp) (ρ : Env') (σ : St) (H : Hp) (τs : List T) : Prop :=
  ∀ R : It → Hp → Prop, (∀ J H1 B1, Same B B1 → Same H H1 → StR' K B1 ow ρ σ H1 → Walks K J B1 τs → R J H1) → IT G tg iter σ H R
def IV (G : ι → Cx) (K : PySem.W.Frag) (ow : List Nat) (tg iter : Expr) (dl : Env' → Option (List T)) : Prop :=
  ∀ B ρ σ H τs, StR' K B ow ρ σ H → dl ρ = some τs → IVat G K ow tg iter B ρ σ H τs

theorem Reps.get {H : Hp} {ts : List T} {vs : List V} (h : Reps K H ts vs) {i : Nat} {t : T} (e : ts[i]? = some t) : ∃ v, vs[i]? = some v ∧ Rep K H t v := by
  rw [Reps.paired] at h
  induction h generalizing i with
  | nil => simp at e
  | cons h1 h2 ih =>
    cases i with
    | zero =>
      simp at e
      subst e
      exact ⟨_, rfl, h1⟩
    | succ i => exact ih (by simpa using e)
theorem Reps.get' {H : Hp} {ts : List T} {vs : List V} (h : Reps K H ts vs) {i : Nat} {v : V} (e : vs[i]? = some v) : ∃ t, ts[i]? = some t ∧ Rep K H t v := by
  rw [Reps.paired] at h
  induction h generalizing i with
  | nil => simp at e
  | cons h1 h2 ih =>
    cases i with
    | zero =>
      simp at e
      subst e
      exact ⟨_, rfl, h1⟩
    | succ i => exact ih (by simpa using e)
theorem walks_list {B : Hp} {a : Addr} {ts : List T} {vs : List V} (q : SqL K B a vs) (r : Reps K B ts vs) : Walks K (Itl K a) B ts := by
  refine ⟨fun i H s hi => ?_, fun i H s hi => ⟨vs, s.seq q, by rw [← r.length]; exact hi⟩, fun i t H x H' s e y => ?_⟩
  · obtain ⟨v, e, _⟩ := r.get (i := i) (List.getElem?_eq_getElem hi)
    exact ⟨vs, v, s.seq q, e⟩
  · obtain ⟨rfl, y⟩ := y
    obtain ⟨v, ev, rv⟩ := r.get e
    have := y vs (s.seq q)
    rw [ev] at this
    cases this
    exact ⟨Same.refl _, rv.same same_addT⟩
theorem walks_tup {B : Hp} {a : Addr} {ts : List T} {vs : List V} (q : SqT K B a vs) (r : Reps K B ts vs) : Walks K (Itt K a) B ts := by
  refine ⟨fun i H s hi => ?_, fun i H s hi => ⟨vs, same_sqT s q, by rw [← r.length]; exact hi⟩, fun i t H x H' s e y => ?_⟩
  · obtain ⟨v, e, _⟩ := r.get (i := i) (List.getElem?_eq_getElem hi)
    exact ⟨vs, v, same_sqT s q, e⟩
  · obtain ⟨rfl, y⟩ := y
    obtain ⟨v, ev, rv⟩ := r.get e
    have := y vs (same_sqT s q)
    rw [ev] at this
    cases this
    exact ⟨Same.refl _, rv.same same_addT⟩
def signs (x : Str) : List T := x.cps.toList.map fun c => .str ⟨#[c]⟩
theorem walks_str {B : Hp} {x : Str} : Walks K (Its x) B (signs x) := by
  refine ⟨fun i H s hi => by simpa [signs, Its] using hi, fun i H s hi => by simpa [signs, Its] using hi, fun i t H v H' s e y => ?_⟩
  obtain ⟨rfl, c, ec, rfl⟩ := y
  unfold signs at e
  rw [List.getElem?_map, Array.getElem?_toList, ec] at e
  cases e
  exact ⟨Same.refl _, rep_str.mpr rfl⟩
def rngL (lo : Int) (n : Nat) : List T := (List.range n).map fun (i : Nat) => .int (lo + i)
theorem walks_rng {B : Hp} {lo : Int} {n : Nat} : Walks K (Itr lo n) B (rngL lo n) := by
  refine ⟨fun i H s hi => by simpa [rngL, Itr] using hi, fun i H s hi => by simpa [rngL, Itr] using hi, fun i t H v H' s e y => ?_⟩
  obtain ⟨rfl, rfl⟩ := y
  unfold rngL at e
  rw [List.getElem?_map] at e
  cases e2 : (List.range n)[i]? with
  | none => rw [e2] at e; cases e
  | some j =>
    rw [e2] at e
    obtain ⟨_, hj⟩ := List.getElem?_eq_some_iff.mp e2
    simp at hj
    subst hj
    cases e
    exact ⟨Same.refl _, rep_int.mpr rfl⟩
def zipL : List T → List T → List T
  | x :: xs, y :: ys => .tup [x, y] :: zipL xs ys
  | _, _ => []
theorem zipL_get : ∀ {xs ys : List T} {i : Nat} {t : T}, (zipL xs ys)[i]? = some t → ∃ x y, xs[i]? = some x ∧ ys[i]? = some y ∧ t = .tup [x, y]
  | [], _, _, _, h => by simp [zipL] at h
  | _ :: _, [], _, _, h => by simp [zipL] at h
  | x :: xs, y :: ys, 0, t, h => by
    simp [zipL] at h
    exact ⟨x, y, rfl, rfl, h.symm⟩
  | x :: xs, y :: ys, i + 1, t, h => by
    simp [zipL] at h
    simpa using zipL_get h
theorem zipL_length : ∀ xs ys : List T, (zipL xs ys).length = min xs.length ys.length
  | [], _ => by simp [zipL]
  | _ :: _, [] => by simp [zipL]
  | x :: xs, y :: ys => by simp [zipL, zipL_length xs ys]
theorem addT_newtup {B H : Hp} {t : Addr} {vs : List V} (s : Same B H) (n : H t = none) : addT B (upd H t (.tup vs)) t = some (.tup vs) := by
  rw [addT_none (s.free n), upd_same]; rfl
theorem walks_zip {B : Hp} {a b : Addr} {xs ys : List T} {us vs : List V} (qa : SqL K B a us) (ra : Reps K B xs us) (qb : SqL K B b vs) (rb : Reps K B ys vs) : Walks K (Itz K a b) B (zipL xs ys) := by
  refine ⟨fun i H s hi => ?_, fun i H s hi => ?_, fun i t H v H' s e y => ?_⟩
  · rw [zipL_length] at hi
    obtain ⟨u, e1, _⟩ := ra.get (i := i) (List.getElem?_eq_getElem (by omega))
    obtain ⟨v, e2, _⟩ := rb.get (i := i) (List.getElem?_eq_getElem (by omega))
    exact ⟨us, vs, u, v, s.seq qa, s.seq qb, e1, e2⟩
  · rw [zipL_length] at hi
    refine ⟨us, vs, s.seq qa, s.seq qb, ?_⟩
    rw [← ra.length, ← rb.length]
    omega
  · obtain ⟨t', u, v', rfl, nt, rfl, f1, f2⟩ := y
    obtain ⟨x, z, e1, e2, rfl⟩ := zipL_get e
    obtain ⟨u2, eu, ru⟩ := ra.get e1
    obtain ⟨v2, ev, rv⟩ := rb.get e2
    have h1 := f1 us (s.seq qa)
    have h2 := f2 vs (s.seq qb)
    rw [eu] at h1; cases h1
    rw [ev] at h2; cases h2
    refine ⟨same_upd' nt, rep_tup.mpr ⟨t', _, rfl, .inl (.inl (addT_newtup s nt)), ?_⟩⟩
    exact .cons (ru.same same_addT) (.cons (rv.same same_addT) .nil)

/-- what a list, a tuple, a text is walked as -/
def seqOf : T → Option (List T)
  | .lst ts => some ts | .tup ts => some ts | .scr ts => some ts | .str x => some (signs x) | _ => none
def itD (free : Bool) (o : Option T) : Option (List T) := match o with
  | some τ => if (free || imm τ) = true then seqOf τ else none
  | none => none
theorem StR'.settle {B : Hp} {ρ : Env'} {σ : St} {H : Hp} {t : T} {v : V} (h : StR' K B ow ρ σ H) (c : ow.isEmpty = true ∨ imm t = true) (r : Rep K H t v) : ∃ B2, Same B B2 ∧ StR' K B2 ow ρ σ H ∧ Rep K B2 t v :=
  StR.settle ⟨B, Same.refl B, h⟩ c r
/-- the walk of a value that stands in the base -/
theorem it_at {tg e : Expr} {σ : St} {H : Hp} {τ : T} {ts : List T} {R : It → Hp → Prop} (hK : ∀ i, (G i).K = K) (es : seqOf τ = some ts)
    (h : ES G e σ H fun v H1 => ∃ B1, Rep K B1 τ v ∧ Same B1 H1 ∧ ∀ J, Walks K J B1 ts → R J H1) : IT G tg e σ H R := by
  cases τ with
  | lst l =>
    cases es
    refine ⟨iList K (ES G e), fun i => by rw [← hK i]; exact pi_list (pe_ts i), ?_⟩
    obtain ⟨t, ht, q⟩ := h
    refine ⟨tMono t, fun i => pe_mono (ht i), ⟨_, q, fun v H1 ⟨B1, r, s, f⟩ => ?_⟩⟩
    obtain ⟨a, vs, rfl, q, r⟩ := rep_lst.mp r
    exact ⟨a, rfl, ⟨vs, s.seq (.inl (.inl q))⟩, f _ (walks_list (.inl (.inl q)) r)⟩
  | scr l =>
    cases es
    refine ⟨iList K (ES G e), fun i => by rw [← hK i]; exact pi_list (pe_ts i), ?_⟩
    obtain ⟨t, ht, q⟩ := h
    refine ⟨tMono t, fun i => pe_mono (ht i), ⟨_, q, fun v H1 ⟨B1, r, s, f⟩ => ?_⟩⟩
    obtain ⟨a, vs, rfl, q, r⟩ := rep_scr.mp r
    exact ⟨a, rfl, ⟨vs, s.seq q⟩, f _ (walks_list q r)⟩
  | tup l =>
    cases es
    refine ⟨iTup K (ES G e), fun i => by rw [← hK i]; exact pi_tup (pe_ts i), ?_⟩
    obtain ⟨t, ht, q⟩ := h
    refine ⟨tMono t, fun i => pe_mono (ht i), ⟨_, q, fun v H1 ⟨B1, r, s, f⟩ => ?_⟩⟩
    obtain ⟨a, vs, rfl, q, r⟩ := rep_tup.mp r
    exact ⟨a, rfl, ⟨vs, same_sqT s q⟩, f _ (walks_tup q r)⟩
  | str x =>
    cases es
    refine ⟨iStr (ES G e), fun i => pi_str (pe_ts i), ?_⟩
    obtain ⟨t, ht, q⟩ := h
    refine ⟨tMono t, fun i => pe_mono (ht i), ⟨_, q, fun v H1 ⟨B1, r, s, f⟩ => ?_⟩⟩
    cases rep_str.mp r
    exact ⟨x, rfl, f _ walks_str⟩
  | _ => cases es
variable {tg e : Expr} {de : Env' → Option T}
theorem iv_val (hK : ∀ i, (G i).K = K) (h : EV G K e de) : IV G K ow tg e (fun ρ => itD ow.isEmpty (de ρ)) := by
  intro B ρ σ H τs hr hd R hR
  dsimp only at hd
  unfold itD at hd
  split at hd
  · rename_i τ e1
    split at hd
    · rename_i c
      refine it_at hK hd (h ρ σ H τ _ hr.env e1 fun v H1 s r => ?_)
      obtain ⟨B2, s2, q, r2⟩ := (hr.grow s).settle (by simpa using c) r
      exact ⟨B2, r2, q.sm, fun J hJ => hR J H1 B2 s2 s q hJ⟩
    · cases hd
  · cases hd
/-- a fresh list of things that cannot be changed -/
def itF (o : Option T) : Option (List T) := match o with
  | some τ => if immE τ = true then seqOf τ else none
  | none => none
theorem iv_new (hK : ∀ i, (G i).K = K) (h : EVF G K e de) : IV G K ow tg e (fun ρ => itF (de ρ)) := by
  intro B ρ σ H τs hr hd R hR
  dsimp only at hd
  unfold itF at hd
  split at hd
  · rename_i τ e1
    split at hd
    · rename_i c
      refine it_at hK hd (h ρ σ H τ _ hr.env e1 fun p o H1 s np ep f => ?_)
      have q := (hr.grow s).addT
      have f2 := imm_frO (hr.sm.trans s) c f
      have nB : addT B H1 p = none := by
        rw [addT_none (hr.sm.free np), ep]
        exact f.tupO
      have s1 : Same (addT B H1) (upd (addT B H1) p o) := same_upd' nB
      have s2 : Same (upd (addT B H1) p o) H1 := fun a u z => by
        by_cases ea : a = p
        · subst ea
          rw [upd_same] at z
          cases z
          exact ep
        · rw [upd_ne ea] at z
          exact q.sm a u z
      refine ⟨_, (f2.same s1).rep upd_same, s2, fun J hJ => hR J H1 _ (same_addT.trans s1) s ?_ hJ⟩
      refine ⟨s2, q.len, fun i t m z => ?_, fun i t m z => ?_, q.inj⟩
      · obtain ⟨v, e2, r⟩ := q.val i t m z
        exact ⟨v, e2, r.same s1⟩
      · obtain ⟨a, ob, e2, e3, e4, f3⟩ := q.own i t m z
        refine ⟨a, ob, e2, ?_, e4, f3.same s1⟩
        rw [upd_ne]
        · exact e3
        · rintro rfl
          obtain ⟨a', ob', e2', _, e4', _⟩ := hr.own i t m z
          rw [e2] at e2'
          cases e2'
          rw [np] at e4'
          cases e4'
    · cases hd
  · cases hd
/-- a name that holds something alone no more -/
def itN (o : Option T) : Option (List T) := match o with
  | some τ => seqOf τ
  | none => none
theorem iv_var (hG : Fm G K mg base P w N sc k) (i : Nat) (ni : i ∉ ow) {x : Str} {pos : Pos} (hN : N[i]? = some x := by rfl) (hv : visB sc x = true := by rfl)
    (hd : (x == ("__debug__" : Str)) = false := by decide) (hcd : (x == ("__classdict__" : Str)) = false := by decide) : IV G K ow tg (.Name x pos) (fun ρ => itN (nd i ρ)) := by
  intro B ρ σ H τs hr hdd R hR
  dsimp only at hdd
  unfold itN at hdd
  split at hdd
  · rename_i τ e1
    obtain ⟨v, e2, r⟩ := hr.val i τ ni (nd_some e1)
    refine it_at hG.K hdd ⟨tVar i, fun j => pe_var (by rw [hG.N j]; exact hN) (by rw [hG.sc j]; exact vis_of hv) hd hcd, v, e2, ?_⟩
    exact ⟨B, r, hr.sm, fun J hJ => hR J H B (Same.refl B) (Same.refl H) hr hJ⟩
  · cases hdd
def r62 (i : Int) : Bool := decide (-(2 ^ 62) ≤ i) && decide (i < 2 ^ 62)
theorem r62_ok {i : Int} (h : r62 i = true) : -(2 ^ 62) ≤ i ∧ i < 2 ^ 62 := by simpa [r62] using h
def rng1 (o : Option T) : Option (List T) := match o with
  | some (.int j) => if r62 j = true then some (rngL 0 j.toNat) else none
  | _ => none
def rng2 (o o' : Option T) : Option (List T) := match o, o' with
  | some (.int i), some (.int j) => if r62 i = true ∧ r62 j = true then some (rngL i (j - i).toNat) else none
  | _, _ => none
theorem iv_rng1 (hG : Fm G K mg base P w N sc k) {a : Expr} {da : Env' → Option T} {p pos : Pos} (hm : mg "range" = none) (h : EV G K a da) (hg : glB sc "range" = true := by rfl)
    (hs : ∀ i, starEach [a] (G i).env = [(false, eval a (G i).env)] := by intro _; rfl) : IV G K ow tg (.Call (.Name "range" p) [a] [] pos) (fun ρ => rng1 (da ρ)) := by
  intro B ρ σ H τs hr hd R hR
  dsimp only at hd
  unfold rng1 at hd
  split at hd
  · rename_i j e1
    split at hd
    · rename_i c
      cases hd
      have c' := r62_ok c
      refine ⟨_, fun i => pi_range1 (gl_of hG hg i) (by rw [hG.mg i]; exact hm) (pa_cons (pe_ts i) pa_nil (hs i)) (hs i), ?_⟩
      refine h ρ σ H _ _ hr.env e1 fun v H1 s r => ?_
      cases rep_int.mp r
      exact ⟨j, rfl, c'.1, c'.2, hR _ H1 B (Same.refl B) s (hr.grow s) walks_rng⟩
    · cases hd
  · cases hd
theorem iv_rng2 (hG : Fm G K mg base P w N sc k) {a b : Expr} {da db : Env' → Option T} {p pos : Pos} (hm : mg "range" = none) (h : EV G K a da) (h' : EV G K b db) (hg : glB sc "range" = true := by rfl)
    (hs : ∀ i, starEach [a, b] (G i).env = [(false, eval a (G i).env), (false, eval b (G i).env)] := by intro _; rfl) (hs2 : ∀ i, starEach [b] (G i).env = [(false, eval b (G i).env)] := by intro _; rfl) :
    IV G K ow tg (.Call (.Name "range" p) [a, b] [] pos) (fun ρ => rng2 (da ρ) (db ρ)) := by
  intro B ρ σ H τs hr hd R hR
  dsimp only at hd
  unfold rng2 at hd
  split at hd
  · rename_i i j e1 e2
    split at hd
    · rename_i c
      cases hd
      have c1 := r62_ok c.1
      have c2 := r62_ok c.2
      refine ⟨_, fun i => pi_range2 (gl_of hG hg i) (by rw [hG.mg i]; exact hm) (pa_cons (pe_ts i) (pa_cons (pe_ts i) pa_nil (hs2 i)) (by rw [hs i, hs2 i])) (hs i) (hs2 i), ?_⟩
      refine h ρ σ H _ _ hr.env e1 fun v H1 s r => ?_
      refine h' ρ σ H1 _ _ (hr.grow s).env e2 fun v' H2 s2 r2 => ?_
      cases rep_int.mp r
      cases rep_int.mp r2
      exact ⟨i, j, rfl, ⟨c1.1, c1.2, c2.1, c2.2⟩, hR _ H2 B (Same.refl B) (s.trans s2) ((hr.grow s).grow s2) walks_rng⟩
    · cases hd
  · cases hd

/-! ### targets -/
def GT (G : ι → Cx) (tg : Expr) : TG := fun v σ H Q => ∃ g, (∀ i, PG (G i) tg g) ∧ g v σ H Q
theorem pg_gt {tg : Expr} (i : ι) : PG (G i) tg (GT G tg) := ⟨fun pins s σ H v u Q I r ⟨t, h, q⟩ => (h i).run pins s σ H v u Q I r q⟩
/-- σ' is σ but for the slots ts -/
def OffT (ts : List Nat) (σ σ' : St) : Prop := σ'.length = σ.length ∧ ∀ j, j ∉ ts → σ'[j]? = σ[j]?
def TV (G : ι → Cx) (K : PySem.W.Frag) (ow : List Nat) (tg : Expr) (ts : List Nat) (bd : Env' → T → Option Env') : Prop :=
  ∀ B ρ ρ' σ H τ v Q, StR' K B ow ρ σ H → Rep K B τ v → bd ρ τ = some ρ' → (∀ σ', StR' K B ow ρ' σ' H → OffT ts σ σ' → Q σ' H) → GT G tg v σ H Q
def bdN (i : Nat) (ρ : Env') (t : T) : Option Env' := some (ρ.set i (some t))
theorem tv_name (hG : Fm G K mg base P w N sc k) (hN0 : N.Nodup) (hF : FnB G sc) (i : Nat) (ni : i ∉ ow) {x : Str} {pos : Pos} (hN : N[i]? = some x := by rfl) (hv : locB sc x = true := by rfl) : TV G K ow (.Name x pos) [i] (bdN i) := by
  intro B ρ ρ' σ H τ v Q hr r e h
  cases e
  exact ⟨gName i, fun j => pg_name (by rw [hG.N j]; exact hN0) (by rw [hG.N j]; exact hN) (by rw [hG.sc j]; exact loc_of hv) (hF.fn j x), h _ (hr.set ni r) ⟨by simp, fun j hj => List.getElem?_set_ne (fun z => hj (by simp [z]))⟩⟩
def GTs (G : ι → Cx) (es : List Expr) : TGs := fun vs σ H Q => ∃ g, (∀ i, PGs (G i) es g) ∧ g vs σ H Q
theorem pgs_gts {es : List Expr} (i : ι) : PGs (G i) es (GTs G es) := ⟨fun pins s σ H v u Q I r ⟨t, h, q⟩ => (h i).run pins s σ H v u Q I r q⟩
def TVs (G : ι → Cx) (K : PySem.W.Frag) (ow : List Nat) (es : List Expr) (ts : List Nat) (bd : Env' → List T → Option Env') : Prop :=
  ∀ B ρ ρ' σ H τs vs Q, StR' K B ow ρ σ H → Reps K B τs vs → bd ρ τs = some ρ' → (∀ σ', StR' K B ow ρ' σ' H → OffT ts σ σ' → Q σ' H) → GTs G es vs σ H Q
def bdNil (ρ : Env') (ts : List T) : Option Env' := match ts with
  | [] => some ρ
  | _ => none
def bdCons (b : Env' → T → Option Env') (bs : Env' → List T → Option Env') (ρ : Env') (ts : List T) : Option Env' := match ts with
  | t :: r => match b ρ t with
    | some ρ' => bs ρ' r
    | none => none
  | [] => none
theorem tvs_nil : TVs G K ow [] [] bdNil := by
  intro B ρ ρ' σ H τs vs Q hr r e h
  unfold bdNil at e
  split at e
  · cases e
    have : vs = [] := by unfold Reps at r; exact r
    exact ⟨gNil, fun _ => pgs_nil, this, h _ hr ⟨rfl, fun _ _ => rfl⟩⟩
  · cases e
theorem tvs_cons {a : Expr} {es : List Expr} {b : Env' → T → Option Env'} {bs : Env' → List T → Option Env'} {ta ts : List Nat} (ha : TV G K ow a ta b) (hs : TVs G K ow es ts bs)
    (hq : ∀ i, (assignEach (a :: es) (G i).env).map (·.2) = assign a (G i).env :: (assignEach es (G i).env).map (·.2) := by intro _; rfl) : TVs G K ow (a :: es) (ta ++ ts) (bdCons b bs) := by
  intro B ρ ρ' σ H τs vs Q hr r e h
  unfold bdCons at e
  split at e
  · rename_i t tr
    split at e
    · rename_i ρ1 e1
      unfold Reps at r
      obtain ⟨v, vr, rfl, r1, r2⟩ := r
      refine ⟨gCons (GT G a) (GTs G es), fun i => pgs_cons (pg_gt i) (pgs_gts i) (hq i), v, vr, rfl, ?_⟩
      exact ha B ρ ρ1 σ H t v _ hr r1 e1 fun σ1 h1 o1 => hs B ρ1 ρ' σ1 H tr vr _ h1 r2 e fun σ2 h2 o2 => h σ2 h2
        ⟨o2.1.trans o1.1, fun j hj => (o2.2 j fun z => hj (List.mem_append_right _ z)).trans (o1.2 j fun z => hj (List.mem_append_left _ z))⟩
    · cases e
  · cases e
def bdT (n : Nat) (bs : Env' → List T → Option Env') (ρ : Env') (t : T) : Option Env' := match t with
  | .tup ts => if ts.length = n then bs ρ ts else none
  | _ => none
theorem tv_tup (hG : Fm G K mg base P w N sc k) {es : List Expr} {n j : Nat} {pos : Pos} {ts : List Nat} {bs : Env' → List T → Option Env'} (h : TVs G K ow es ts bs)
    (hn : ∀ i, (assignEach es (G i).env).length = n := by intro _; rfl) (hst : ∀ i, (assignEach es (G i).env).findIdx? (·.1) = none := by intro _; rfl) : TV G K ow (.Tuple es j pos) ts (bdT n bs) := by
  intro B ρ ρ' σ H τ v Q hr r e hq
  unfold bdT at e
  split at e
  · rename_i tl
    split at e
    · rename_i hl
      obtain ⟨a, vs, rfl, q, r⟩ := rep_tup.mp r
      refine ⟨gTup K n (GTs G es), fun i => by rw [← hG.K i]; exact pg_tup (hG.calm i) (pgs_gts i) (hn i) (hst i), a, vs, rfl, same_sqT hr.sm q, by rw [← r.length]; exact hl, ?_⟩
      exact h B ρ ρ' σ H tl vs Q hr r e hq
    · cases e
  · cases e
/-- a, b = e: a tuple taken apart -/
theorem sv_unpack {tg e : Expr} {de : Env' → Option T} {bd : Env' → T → Option Env'} {pos : Pos} {ts : List Nat} (h : EV G K e de) (ht : TV G K ow tg ts bd)
    (hs : ∀ i, swapsWithSole [tg] e pos.line (G i).env = pure false := by intro _; rfl) (hw : ∀ i, swappedStores [tg] e (G i).env = pure none := by intro _; rfl)
    (h1 : ∀ i, (assignEach [tg] (G i).env).map (·.2) = [assign tg (G i).env] := by intro _; rfl) :
    SV K fr ow ow owl (TSt G (.Assign [tg] e pos)) (fun ρ => match de ρ with
      | some τ => if (ow.isEmpty || imm τ) = true then (match bd ρ τ with | some ρ' => .nx ρ' | none => .er) else .er
      | none => .er) := by
  intro B ρ σ H D hr hp
  dsimp only at hp
  split at hp
  · rename_i τ e1
    split at hp
    · rename_i c
      split at hp
      · rename_i ρ' e2
        refine ⟨tAsg (ES G e) (GT G tg), fun i => ps_asg (pe_ts i) (pg_gt i) (hs i) (hw i) (h1 i), ?_⟩
        refine h ρ σ H τ _ hr.env e1 fun v H' s r => ?_
        obtain ⟨B2, s2, q, r2⟩ := (hr.grow s).settle (by simpa using c) r
        exact ht B2 ρ ρ' σ H' τ v _ q r2 e2 fun σ' q' _ => hp σ' H' ⟨B2, s2, q'⟩
      · cases hp
    · cases hp
  · cases hp

/-! ### for -/
def forD (bd : Env' → T → Option Env') (body : Env' → Out) : List T → Env' → Out
  | [], ρ => .nx ρ
  | t :: ts, ρ => match bd ρ t with
    | none => .er
    | some ρ1 => match body ρ1 with
      | .nx ρ2 => forD bd body ts ρ2
      | .ct ρ2 => forD bd body ts ρ2
      | .bk ρ2 => .nx ρ2
      | o => o
theorem Post.rebase {B B1 : Hp} {D : Ends} {o : Out} (s : Same B B1) (h : Post K fr B D ow' owl o) : Post K fr B1 D ow' owl o := by
  cases o with
  | nx ρ => exact fun σ H q => h σ H (q.of s)
  | bk ρ => exact fun σ H q => h σ H (q.of s)
  | ct ρ => exact fun σ H q => h σ H (q.of s)
  | rt τ =>
    intro v H q r
    refine h v H (s.trans q) ?_
    unfold RtR at r ⊢
    split
    · rename_i c
      rw [if_pos c] at r
      obtain ⟨p, o, e, n, e2, f⟩ := r
      exact ⟨p, o, e, s.free n, e2, f⟩
    · rename_i c
      rw [if_neg c] at r
      exact r
  | er => exact h
theorem addT_mono {B H H' : Hp} (s : Same H H') : Same (addT B H) (addT B H') := fun a o h => by
  cases e : B a with
  | some u => rw [addT_some e] at h ⊢; exact h
  | none =>
    rw [addT_none e] at h ⊢
    have := s a o (tupO_some h)
    rw [this]
    have h2 := tupO_some h
    rw [h2] at h
    exact h
theorem for_core {tg iter : Expr} {bd : Env' → T → Option Env'} {body : List Stmt} {db : Env' → Out} {pos : Pos} (hG : Fm G K mg base P w N sc k) (hpo : ∀ i, PassesOwn (model (G i).prog (G i).w) (G i).A (G i).env (G i).xe)
    {vs : List Nat} (ht : TV G K ow tg vs bd) (hb : SV K fr ow ow ow (TSs G body) db) {B : Hp} {ρ : Env'} {σ : St} {H : Hp} {D : Ends} {τs : List T} (hi : IVat G K ow tg iter B ρ σ H τs)
    (hp : Post K fr B D ow owl (forD bd db τs ρ)) (hs : ∀ i x, foldedSetIterable iter (G i).env x = pure x := by intro _ _; rfl) : TSt G (.For tg iter body [] pos) D σ H := by
  refine ⟨tFor (IT G tg iter) (GT G tg) (TSs G body), fun i => ps_for (hpo i) (hG.calm i) (pi_it i) (pg_gt i) (pss_ss i) (hs i), ?_⟩
  refine hi _ fun J H1 B1 s1 sH hr1 wk => ?_
  refine ⟨fun i m σ H => m = τs.length - i ∧ i ≤ τs.length ∧ ∃ ρi, StR K B1 ow ρi σ H ∧ Post K fr B1 D ow owl (forD bd db (τs.drop i) ρi), ⟨_, rfl, Nat.zero_le _, ρ, ⟨B1, Same.refl B1, hr1⟩, Post.rebase s1 hp⟩, ?_⟩
  rintro i m σi Hi ⟨rfl, hile, ρi, hri, hpi⟩
  by_cases hlt : i < τs.length
  · refine .inr ⟨wk.go i Hi hri.sm hlt, fun σ' H' => ∃ ρ', StR K B1 ow ρ' σ' H' ∧ Post K fr B1 D ow owl (forD bd db (τs.drop (i + 1)) ρ'), fun σ' H' ⟨ρ', a, b⟩ => ⟨_, by omega, rfl, hlt, ρ', a, b⟩, fun x H' y => ?_⟩
    obtain ⟨sH', rx⟩ := wk.yld i _ Hi x H' hri.sm (List.getElem?_eq_getElem hlt) y
    have ed : τs.drop i = τs[i] :: τs.drop (i + 1) := List.drop_eq_getElem_cons hlt
    rw [ed] at hpi
    unfold forD at hpi
    obtain ⟨B2, s2, q2⟩ := hri.grow sH'
    have rx2 : Rep K (addT B2 H') τs[i] x := rx.same fun a o h => by
      cases e : B1 a with
      | some u =>
        rw [addT_some e] at h
        exact addT_some (by rw [← h]; exact s2 a u e)
      | none =>
        rw [addT_none e] at h
        cases e2 : B2 a with
        | some u =>
          rw [addT_some e2]
          have := q2.sm a u e2
          rw [tupO_some h] at this
          exact this.symm
        | none => rw [addT_none e2]; exact h
    split at hpi
    · cases hpi
    · rename_i ρ1 e1
      refine ht (addT B2 H') ρi ρ1 σi H' _ x _ q2.addT rx2 e1 fun σ1 q1 _ => ?_
      have hr1 : StR K B1 ow ρ1 σ1 H' := ⟨_, s2.trans same_addT, q1⟩
      refine hb B1 ρ1 σ1 H' _ hr1 ?_
      split at hpi
      · rename_i ρ2 e2
        rw [e2]
        exact fun σ2 H2 q => ⟨ρ2, q, hpi⟩
      · rename_i ρ2 e2
        rw [e2]
        exact fun σ2 H2 q => ⟨ρ2, q, hpi⟩
      · rename_i ρ2 e2
        rw [e2]
        exact fun σ2 H2 q => hpi σ2 H2 q
      · rename_i o h1 h2 h3
        cases eo : db ρ1 with
        | nx ρ => exact absurd eo (h1 ρ)
        | ct ρ => exact absurd eo (h2 ρ)
        | bk ρ => exact absurd eo (h3 ρ)
        | rt t => rw [eo] at hpi; exact hpi
        | er => rw [eo] at hpi; exact hpi
  · have e : i = τs.length := by omega
    subst e
    refine .inl ⟨wk.stop _ Hi hri.sm (Nat.le_refl _), ?_⟩
    rw [List.drop_length] at hpi
    exact hpi σi Hi hri
theorem sv_for {tg iter : Expr} {bd : Env' → T → Option Env'} {body : List Stmt} {db : Env' → Out} {dl : Env' → Option (List T)} {pos : Pos} (hG : Fm G K mg base P w N sc k) (hpo : ∀ i, PassesOwn (model (G i).prog (G i).w) (G i).A (G i).env (G i).xe)
    {vs : List Nat} (hi : IV G K ow tg iter dl) (ht : TV G K ow tg vs bd) (hb : SV K fr ow ow ow (TSs G body) db) (hs : ∀ i x, foldedSetIterable iter (G i).env x = pure x := by intro _ _; rfl) :
    SV K fr ow ow owl (TSt G (.For tg iter body [] pos)) (fun ρ => match dl ρ with | some τs => forD bd db τs ρ | none => .er) := by
  intro B ρ σ H D hr hp
  dsimp only at hp
  split at hp
  · rename_i τs e
    obtain ⟨B', s, q⟩ := hr
    exact for_core hG hpo ht hb (hi B' ρ σ H τs q e) (Post.rebase s hp) hs
  · cases hp
end DL
namespace DL
open PySem PySem.Spec PyProof.Rows L2
variable {ι : Type} {G : ι → Cx} {K : PySem.W.Frag} {mg : Str → Option Value} {base : Heap} {P : Program} {w : World} {N : List Str} {sc : Scope} {k : Nat}
variable {fr : Bool} {ow ow' owl : List Nat}

/-! ### the blocks of a comprehension -/
abbrev Blk (ι : Type) := ι × Shared × Hp × Addr × List (Str × Addr) × List Addr
def gBlk (G : ι → Cx) (scope : Scope) : Blk ι → Cx := fun b => (G b.1).blk b.2.1 b.2.2.1 scope (compEnvC scope b.2.2.2.2.1 b.2.2.2.1 (G b.1).env) b.2.2.2.2.2
theorem fm_blk (hG : Fm G K mg base P w N sc k) (scope : Scope) : Fm (gBlk G scope) K mg base P w N (relS scope sc) k :=
  ⟨fun b => hG.K b.1, fun b => hG.mg b.1, fun b => hG.base b.1, fun b => hG.P b.1, fun b => hG.w b.1, fun b => hG.N b.1, fun b => by rw [← hG.sc b.1]; rfl, fun b => hG.calm b.1, fun b => hG.room b.1⟩
def ownsB (scope sc' : Scope) : Bool := sc'.names.all fun y => match y.2 with
  | .cell => scope.names.lookup y.1 == some .cell || (sc'.names.lookup y.1 != some .cell)
  | _ => true

/-- the block's targets: local names of its own scope -/
theorem tv_nameB (hG : Fm G K mg base P w N sc k) (hN0 : N.Nodup) (scope : Scope) (i : Nat) (ni : i ∉ ow) {x : Str} {pos : Pos} (hN : N[i]? = some x := by rfl) (hv : (relS scope sc).names.lookup x = some .local := by rfl) :
    TV (gBlk G scope) K ow (.Name x pos) [i] (bdN i) := by
  intro B ρ ρ' σ H τ v Q hr r e h
  cases e
  have hB := fm_blk hG scope
  refine ⟨gName i, fun j => pg_name (by rw [hB.N j]; exact hN0) (by rw [hB.N j]; exact hN) (by rw [hB.sc j]; exact .inl hv) (.inr (by rw [hB.sc j]; exact hv)), h _ (hr.set ni r) ⟨by simp, fun j hj => List.getElem?_set_ne (fun z => hj (by simp [z]))⟩⟩
/-- .. that are cells of it -/
theorem tv_cellB (hG : Fm G K mg base P w N sc k) (hN0 : N.Nodup) (scope : Scope) (i : Nat) (ni : i ∉ ow) {x : Str} {pos : Pos} (hN : N[i]? = some x := by rfl) (hv : (relS scope sc).names.lookup x = some .cell := by rfl) (hf : scope.names.lookup x = some .cell := by rfl) :
    TV (gBlk G scope) K ow (.Name x pos) [i] (bdN i) := by
  intro B ρ ρ' σ H τ v Q hr r e h
  cases e
  have hB := fm_blk hG scope
  refine ⟨gName i, fun j => pg_name (by rw [hB.N j]; exact hN0) (by rw [hB.N j]; exact hN) (by rw [hB.sc j]; exact .inr hv) (.inl ?_), h _ (hr.set ni r) ⟨by simp, fun j hj => List.getElem?_set_ne (fun z => hj (by simp [z]))⟩⟩
  show (scope.names.lookup x == some .cell) = true
  rw [hf]; rfl

/-! ### conditions -/
def CTs (G : ι → Cx) (ifs : List Expr) : TT := fun σ H Q => ∃ t, (∀ i, PTs (G i) ifs t) ∧ t σ H Q
theorem pts_cts {ifs : List Expr} (i : ι) : PTs (G i) ifs (CTs G ifs) := ⟨fun pins s σ H Q I ⟨t, h, q⟩ => (h i).run pins s σ H Q I q⟩
def CV (G : ι → Cx) (K : PySem.W.Frag) (ifs : List Expr) (d : Env' → Option Bool) : Prop :=
  ∀ ρ σ H b Q, EnvR K H σ ρ → d ρ = some b → (∀ H', Same H H' → Q b H') → CTs G ifs σ H Q
theorem cv_nil : CV G K [] (fun _ => some true) := fun ρ σ H b Q he hd hq => by
  cases hd
  exact ⟨_, fun _ => pts_nil, hq H (Same.refl H)⟩
theorem cv_one {c : Expr} {d : Env' → Option Bool} (h : BV G K c d) : CV G K [c] d := fun ρ σ H b Q he hd hq => ⟨_, fun i => pts_one (pt_ts i), h ρ σ H b Q he hd hq⟩

def wipeD (ρ : Env') : List Nat → Env'
  | [] => ρ
  | v :: vs => (wipeD ρ vs).set v none
theorem wipeD_length (ρ : Env') : ∀ vs : List Nat, (wipeD ρ vs).length = ρ.length
  | [] => rfl
  | v :: vs => by unfold wipeD; rw [List.length_set, wipeD_length ρ vs]
theorem wipeD_some {ρ : Env'} {i : Nat} {t : T} : ∀ {vs : List Nat}, (wipeD ρ vs)[i]? = some (some t) → ρ[i]? = some (some t) ∧ i ∉ vs
  | [], h => ⟨h, by simp⟩
  | v :: vs, h => by
    unfold wipeD at h
    rcases set_get h with ⟨_, e⟩ | ⟨n, e⟩
    · cases e
    · obtain ⟨a, b⟩ := wipeD_some e
      exact ⟨a, by simp [n, b]⟩
theorem StR'.wipe {B : Hp} {ρ : Env'} {σ : St} {H : Hp} (h : StR' K B [] ρ σ H) (vs : List Nat) : StR' K B [] (wipeD ρ vs) (wipe σ vs) H := by
  refine ⟨h.sm, by rw [wipeD_length, wipe_length]; exact h.len, fun i t m e => ?_, fun i t m => absurd m (by simp), fun i j a ti tj m => absurd m (by simp)⟩
  obtain ⟨e1, e2⟩ := wipeD_some e
  obtain ⟨v, q, r⟩ := h.val i t m e1
  exact ⟨v, by rw [wipe_out e2]; exact q, r⟩
theorem wipe_in {σ : St} {i : Nat} (hi : i < σ.length) : ∀ {vs : List Nat}, i ∈ vs → (L2.wipe σ vs)[i]? = some none
  | v :: vs, h => by
    unfold L2.wipe
    by_cases e : i = v
    · subst e
      exact List.getElem?_set_self (by rw [wipe_length]; exact hi)
    · rw [List.getElem?_set_ne (fun z => e z.symm)]
      exact wipe_in hi (by
        rcases List.mem_cons.mp h with z | z
        · exact absurd z e
        · exact z)
theorem wipe_off {σ σ2 : St} {vs ts : List Nat} (h : OffT ts (L2.wipe σ vs) σ2) (hs : ∀ i ∈ ts, i ∈ vs) : L2.wipe σ2 vs = L2.wipe σ vs := by
  apply List.ext_getElem?
  intro i
  by_cases hi : i < σ.length
  · by_cases m : i ∈ vs
    · rw [wipe_in hi m, wipe_in (by rw [h.1, wipe_length]; exact hi) m]
    · rw [wipe_out m, h.2 i fun z => m (hs i z)]
  · rw [List.getElem?_eq_none, List.getElem?_eq_none]
    · rw [wipe_length]; omega
    · rw [wipe_length, h.1, wipe_length]; omega
/-- what a comprehension makes -/
def compD (bd : Env' → T → Option Env') (c : Env' → Option Bool) (e : Env' → Option T) (ρ : Env') : List T → Option (List T)
  | [] => some []
  | t :: ts => match bd ρ t with
    | none => none
    | some ρ1 => match c ρ1 with
      | some true => consD (e ρ1) (compD bd c e ρ ts)
      | some false => compD bd c e ρ ts
      | none => none
def lcD (bd : Env' → T → Option Env') (c : Env' → Option Bool) (e : Env' → Option T) (vs : List Nat) (ρ : Env') (o : Option (List T)) : Option T := match o with
  | some τs => if τs.length ≤ sizeLine then (match compD bd c e (wipeD ρ vs) τs with
    | some ts => if immL ts = true then some (.lst ts) else none
    | none => none) else none
  | none => none
theorem immL_append : ∀ {xs ys : List T}, immL (xs ++ ys) = (immL xs && immL ys)
  | [], ys => by simp [immL]
  | x :: xs, ys => by simp [immL, immL_append, Bool.and_assoc]
theorem EnvR.str {H : Hp} {σ : St} {ρ : Env'} (h : EnvR K H σ ρ) : StR' K H [] ρ σ H :=
  ⟨Same.refl H, h.1, fun i t _ e => h.2 i t e, fun i t m => absurd m (by simp), fun i j a ti tj m => absurd m (by simp)⟩
theorem addT_upd {B H : Hp} {D : Addr} {vs ws : List V} (e : H D = some (.lst vs)) (n : B D = none) : addT B (upd H D (.lst ws)) = addT B H := by
  funext a
  by_cases h : a = D
  · subst h
    rw [addT_none n, addT_none n, upd_same, e]; rfl
  · cases q : B a with
    | some o => rw [addT_some q, addT_some q]
    | none => rw [addT_none q, addT_none q, upd_ne h]
theorem lc_read {scope : Scope} {tg iter elt : Expr} {ifs : List Expr} {own : List (Str × Nat)} {ts : List Nat} {bd : Env' → T → Option Env'} {dc : Env' → Option Bool} {de : Env' → Option T}
    (ht : TV (gBlk G scope) K [] tg ts bd) (hts : ∀ i ∈ ts, i ∈ own.map (·.2)) (hc : CV (gBlk G scope) K ifs dc) (he : EV (gBlk G scope) K elt de) {ρ : Env'} {σ : St} {H : Hp} {τs res : List T} {Q : VK}
    (hE : EnvR K H σ ρ) (hi : IVat G K [] tg iter H ρ σ H τs) (hl : τs.length ≤ sizeLine) (hr : compD bd dc de (wipeD ρ (own.map (·.2))) τs = some res) (hm : immL res = true)
    (hq : ∀ p o H', Same H H' → H p = none → H' p = some o → FrO K H' (.lst res) o → Q (.ref p) H') :
    tLc (IT G tg iter) (GT (gBlk G scope) tg) (CTs (gBlk G scope) ifs) (ES (gBlk G scope) elt) (own.map (·.2)) σ H Q := by
  refine hi _ fun J H1 B1 s1 sH hr1 wk => fun D nD => ?_
  have nB : B1 D = none := hr1.sm.free nD
  have hw := hr1.wipe (own.map (·.2))
  refine ⟨fun i m Hc => m = τs.length - i ∧ i ≤ τs.length ∧ Same H1 Hc ∧ ∃ acc vs rest, Hc D = some (.lst vs) ∧ Reps K (addT B1 Hc) acc vs ∧ compD bd dc de (wipeD ρ (own.map (·.2))) (τs.drop i) = some rest ∧ acc ++ rest = res ∧ acc.length ≤ i,
    ⟨_, rfl, Nat.zero_le _, same_upd' nD, [], [], res, upd_same, .nil, hr, rfl, Nat.le_refl _⟩, ?_⟩
  rintro i m Hc ⟨rfl, hile, sc1, acc, vs, rest, eD, racc, hrest, happ, hlen⟩
  have sB : Same B1 Hc := hr1.sm.trans sc1
  by_cases hlt : i < τs.length
  · refine .inr ⟨wk.go i Hc sB hlt, fun H' => Same H1 H' ∧ ∃ acc vs rest, H' D = some (.lst vs) ∧ Reps K (addT B1 H') acc vs ∧ compD bd dc de (wipeD ρ (own.map (·.2))) (τs.drop (i + 1)) = some rest ∧ acc ++ rest = res ∧ acc.length ≤ i + 1,
      fun H' ⟨a, b⟩ => ⟨_, by omega, rfl, hlt, a, b⟩, fun x H' y => ?_⟩
    obtain ⟨sy, rx⟩ := wk.yld i _ Hc x H' sB (List.getElem?_eq_getElem hlt) y
    have ed : τs.drop i = τs[i] :: τs.drop (i + 1) := List.drop_eq_getElem_cons hlt
    rw [ed] at hrest
    unfold compD at hrest
    split at hrest
    · cases hrest
    · rename_i ρ1 e1
      have hw' : StR' K (addT B1 H') [] (wipeD ρ (own.map (·.2))) (L2.wipe σ (own.map (·.2))) H' := ((hw.grow sc1).grow sy).addT
      refine ht _ _ ρ1 _ H' _ x _ hw' rx e1 fun σ2 q2 off => ⟨wipe_off off hts, ?_⟩
      have eD' : H' D = some (.lst vs) := sy _ _ eD
      split at hrest
      · rename_i e2
        refine hc ρ1 σ2 H' true _ q2.env e2 fun H3 s3 => ?_
        rw [if_pos rfl]
        obtain ⟨t, ts', e3, e4, rfl⟩ := consD_some hrest
        refine he ρ1 σ2 H3 t _ (q2.env.same s3) e3 fun v H4 s4 r4 => ?_
        have eD4 : H4 D = some (.lst vs) := s4 _ _ (s3 _ _ eD')
        refine ⟨vs, eD4, ?_, ?_, acc ++ [t], vs ++ [v], ts', upd_same, ?_, e4, by simpa using happ, by simp; omega⟩
        · rw [← racc.length]; omega
        · intro b o z
          by_cases hb : b = D
          · subst hb; rw [nD] at z; cases z
          · rw [upd_ne hb]; exact s4 _ _ (s3 _ _ (sy _ _ (sc1 _ _ z)))
        · rw [addT_upd eD4 nB]
          have sB4 : Same B1 H4 := ((sB.trans sy).trans s3).trans s4
          have im : imm t = true := by
            rw [← happ, immL_append] at hm
            simp [immL] at hm
            exact hm.2.1
          exact (racc.same (addT_mono ((sy.trans s3).trans s4))).snoc (imm_rep sB4 t v im r4)
      · rename_i e2
        refine hc ρ1 σ2 H' false _ q2.env e2 fun H3 s3 => ?_
        rw [if_neg Bool.false_ne_true]
        exact ⟨(sc1.trans sy).trans s3, acc, vs, rest, s3 _ _ eD', racc.same (addT_mono (sy.trans s3)), hrest, happ, by omega⟩
      · cases hrest
  · have e : i = τs.length := by omega
    subst e
    rw [List.drop_length] at hrest
    cases hrest
    rw [List.append_nil] at happ
    subst happ
    refine .inl ⟨wk.stop _ Hc sB (Nat.le_refl _), ?_⟩
    exact hq D _ Hc (sH.trans sc1) (sH.free nD) eD (.inl ⟨_, _, rfl, rfl, racc.same (addT_same sB)⟩)
theorem evf_lc (hG : Fm G K mg base P w N sc k) (hN0 : N.Nodup) {scope : Scope} {tg iter elt : Expr} {ifs : List Expr} (own : List (Str × Nat)) {ts : List Nat} {pos : Pos} {bd : Env' → T → Option Env'} {dc : Env' → Option Bool} {de : Env' → Option T} {dl : Env' → Option (List T)}
    (hi : IV G K [] tg iter dl) (ht : TV (gBlk G scope) K [] tg ts bd) (hc : CV (gBlk G scope) K ifs dc) (he : EV (gBlk G scope) K elt de) (hok : blkC N sc scope own = true := by decide +kernel) (hts : ∀ i ∈ ts, i ∈ own.map (·.2) := by decide)
    (hs : ∀ i x, foldedSetIterable iter (G i).env x = pure x := by intro _ _; rfl) : EVF G K (.ListComp elt [⟨tg, iter, ifs, 0⟩] scope pos) (fun ρ => lcD bd dc de (own.map (·.2)) ρ (dl ρ)) := by
  intro ρ σ H τ Q hE hd hq
  dsimp only at hd
  unfold lcD at hd
  split at hd
  · rename_i τs e1
    split at hd
    · rename_i hl
      split at hd
      · rename_i res e2
        split at hd
        · rename_i hm
          cases hd
          refine ⟨tLc (IT G tg iter) (GT (gBlk G scope) tg) (CTs (gBlk G scope) ifs) (ES (gBlk G scope) elt) (own.map (·.2)), fun i => pe_lc (hG.calm i) (by rw [hG.N i]; exact hN0) (pi_it i) (by rw [hG.N i, hG.sc i]; exact blkOk_by hok)
            (fun s H C cl fp => pg_gt (G := gBlk G scope) (i, s, H, C, cl, fp)) (fun s H C cl fp => pts_cts (G := gBlk G scope) (i, s, H, C, cl, fp)) (fun s H C cl fp => pe_ts (G := gBlk G scope) (i, s, H, C, cl, fp)) (hs i), ?_⟩
          exact lc_read ht hts hc he hE (hi H ρ σ H τs hE.str e1) hl e2 hm hq
        · cases hd
      · cases hd
    · cases hd
  · cases hd
end DL
namespace DL
open PySem PySem.Spec PyProof.Rows L2
variable {ι : Type} {G : ι → Cx} {K : PySem.W.Frag} {mg : Str → Option Value} {base : Heap} {P : Program} {w : World} {N : List Str} {sc : Scope} {k : Nat}
variable {fr : Bool} {ow ow' owl : List Nat}

/-! ### name = [..] -/
theorem sv_setLc (hG : Fm G K mg base P w N sc k) (hN0 : N.Nodup) {scope : Scope} {tg iter elt : Expr} {ifs : List Expr} (own : List (Str × Nat)) (i : Nat) (ni : i ∉ ow) {y : Str} {py : Pos} {ts : List Nat} {pos spos : Pos} {bd : Env' → T → Option Env'} {dc : Env' → Option Bool} {de : Env' → Option T} {dl : Env' → Option (List T)}
    (hi : IV G K [] tg iter dl) (ht : TV (gBlk G scope) K [] tg ts bd) (hc : CV (gBlk G scope) K ifs dc) (he : EV (gBlk G scope) K elt de) (hN : N[i]? = some y := by rfl) (hy : sc.names.lookup y = some .local := by rfl) (hk : sc.kind = .function := by rfl) (hl : (py.line == pos.line) = true := by rfl)
    (ha : (scope.names.any fun (n, k) => n == y && (k == .local || k == .cell)) = false := by decide +kernel)
    (hok : blkC N sc scope own = true := by decide +kernel) (hts : ∀ i ∈ ts, i ∈ own.map (·.2) := by decide)
    (hs : ∀ i x, foldedSetIterable iter (G i).env x = pure x := by intro _ _; rfl) : SV K fr ow (i :: ow) owl (TSt G (.Assign [.Name y py] (.ListComp elt [⟨tg, iter, ifs, 0⟩] scope pos) spos)) (fun ρ => ownD i (lcD bd dc de (own.map (·.2)) ρ (dl ρ)) ρ) := by
  intro B ρ σ H D hr hp
  dsimp only at hp
  unfold ownD at hp
  split at hp
  · rename_i τ e1
    split at hp
    · rename_i c
      unfold lcD at e1
      split at e1
      · rename_i τs e0
        split at e1
        · rename_i hlen
          split at e1
          · rename_i res e2
            split at e1
            · rename_i hm
              cases e1
              refine ⟨tAsg (tLc (IT G tg iter) (GT (gBlk G scope) tg) (CTs (gBlk G scope) ifs) (ES (gBlk G scope) elt) (own.map (·.2))) (gName i), fun j => ps_setLc (hG.calm j) (by rw [hG.N j]; exact hN0) (by rw [hG.N j]; exact hN) (by rw [hG.sc j]; exact hy)
                (sw_true (by rw [hG.sc j]; exact hk) (by rw [hG.sc j]; exact hy) hl ha) (pi_it j) (by rw [hG.N j, hG.sc j]; exact blkOk_by hok)
                (fun s H C cl fp => pg_gt (G := gBlk G scope) (j, s, H, C, cl, fp)) (fun s H C cl fp => pts_cts (G := gBlk G scope) (j, s, H, C, cl, fp)) (fun s H C cl fp => pe_ts (G := gBlk G scope) (j, s, H, C, cl, fp)) (hs j), ?_⟩
              refine lc_read ht hts hc he hr.env (hi H ρ σ H τs hr.env.str e0) hlen e2 hm fun p o H' s np ep f => ?_
              obtain ⟨B', sB, q⟩ := hr
              have nB : B' p = none := q.sm.free np
              refine hp _ H' ⟨addT B' H', sB.trans same_addT, (q.grow s).addT.setO ni ?_ ?_ ep (imm_frO (q.sm.trans s) c f)⟩
              · rw [addT_none nB, ep]
                exact f.tupO
              · intro j tj m ej z
                obtain ⟨b, ob, e2, _, e3, _⟩ := q.own j tj m ej
                rw [e2] at z
                cases z
                rw [np] at e3
                cases e3
            · cases e1
          · cases e1
        · cases e1
      · cases e1
    · cases hp
  · cases hp

/-! ### a def as a whole -/
/-- a def that may be called by its name -/
structure Cl (P : Program) (w : World) (K : PySem.W.Frag) (mg : Str → Option Value) (base : Heap) (k : Nat) (x : Str) (sp : Sp) : Prop where
  ex : ∃ (f : Addr) (fd : FuncData) (ps : List Str), FnOk P w K mg base CX0 k f fd ps sp ∧ mg x = some (.ref f) ∧ PySem.W.keepIn K (.ref f) = true ∧ Binds K fd ps []
/-- the promise: n arguments, worth df -/
def spD (K : PySem.W.Frag) (n : Nat) (fr : Bool) (df : List T → Option T) : Sp := fun vs H Q _ => ∃ ts τ, Reps K H ts vs ∧ ts.length = n ∧ df ts = some τ ∧ ∀ v H', Same H H' → RtR K H fr τ v H' → Q v H'
def rho0 (N : List Str) (ts : List T) : Env' := ts.map some ++ List.replicate (N.length - ts.length) none
def fnD (N : List Str) (fr : Bool) (d : Env' → Out) (ts : List T) : Option T := match d (rho0 N ts) with
  | .rt t => some t
  | .nx _ => if fr = true then none else some .non
  | _ => none
theorem start_str {H : Hp} {ts : List T} {vs : List V} (r : Reps K H ts vs) (hl : ts.length ≤ N.length) : StR' K H [] (rho0 N ts) (L2.start N vs) H := by
  refine ⟨Same.refl H, ?_, fun i t _ e => ?_, fun i t m => absurd m (by simp), fun i j a ti tj m => absurd m (by simp)⟩
  · unfold rho0 L2.start
    simp [r.length]
  · unfold rho0 at e
    unfold L2.start
    by_cases hi : i < ts.length
    · rw [List.getElem?_append_left (by simpa using hi), List.getElem?_map] at e
      cases q : ts[i]? with
      | none => rw [q] at e; cases e
      | some t' =>
        rw [q] at e
        cases e
        obtain ⟨v, ev, rv⟩ := r.get q
        refine ⟨v, ?_, rv⟩
        rw [List.getElem?_append_left (by rw [List.length_map, ← r.length]; exact hi), List.getElem?_map, ev]
        rfl
    · rw [List.getElem?_append_right (by simpa using hi), List.getElem?_replicate] at e
      split at e <;> cases e
/-- the body's family -/
structure Fb {ι : Type} (G : ι → Cx) (K : PySem.W.Frag) (mg : Str → Option Value) (base : Heap) (P : Program) (w : World) (N : List Str) (sc0 : Scope) (k : Nat) : Prop extends Fm G K mg base P w N sc0 k where
  po : ∀ i, PassesOwn (model (G i).prog (G i).w) (G i).A (G i).env (G i).xe
  fb : FnB G sc0
/-- THE RULE: a def by its body's denotation -/
theorem fn_dl {x : Str} {st : Stmt} {f : Addr} {fd : FuncData} {ps : List Str} {d : Env' → Out} {df : List T → Option T} (F : Fun K x x st f fd) (S : FnScope N ps (defScope st)) (hm : mg x = some (.ref f)) (hb : Binds K fd ps []) {ow' : List Nat}
    (body : ∀ (G : Unit → Cx), Fb G K mg base P w N (defScope st) k → SV K fr [] ow' [] (TSs G (defBody st)) d) (hd : ∀ ts, ts.length = ps.length → ∀ τ, df ts = some τ → fnD N fr d ts = some τ) :
    Cl P w K mg base (k + 1) x (spD K ps.length fr df) := by
  have hpl : ps.length ≤ N.length := by
    have := congrArg List.length S.pre
    rw [List.length_take] at this
    omega
  refine ⟨f, fd, ps, ?_, hm, F.kp, hb⟩
  refine F.ok S (fun vs H Q E h => ?_) (fun cdv A outer s H vs Q E hr h => ?_)
  · obtain ⟨ts, τ, r, hl, _⟩ := h
    rw [← r.length]; exact hl
  · obtain ⟨ts, τ, r, hl, e, q⟩ := h
    have e := hd ts hl τ e
    have hF : Fb (fun _ : Unit => (cxOf CX0 P w K mg base N x (defScope st) f cdv A outer s H E).nox) K mg base P w N (defScope st) k :=
      { K := fun _ => rfl, mg := fun _ => rfl, base := fun _ => rfl, P := fun _ => rfl, w := fun _ => rfl, N := fun _ => rfl, sc := fun _ => rfl, calm := fun _ => rfl, room := fun _ => hr,
        po := fun _ => PassesOwn.never, fb := ⟨fun _ _ => .inl rfl⟩ }
    refine ⟨_, pss_ss (G := fun _ : Unit => (cxOf CX0 P w K mg base N x (defScope st) f cdv A outer s H E).nox) (), ?_⟩
    refine body _ hF H (rho0 N ts) (L2.start N vs) H _ ⟨H, Same.refl H, start_str r (by omega)⟩ ?_
    unfold fnD at e
    split at e
    · rename_i t eo
      cases e
      rw [eo]
      exact fun v H' s r => q v H' s r
    · rename_i ρ' eo
      rw [eo]
      split at e
      · cases e
      · rename_i c
        cases e
        refine fun σ' H' hr' => q _ H' hr'.sm ?_
        unfold RtR
        rw [if_neg c]
        exact rep_non.mpr rfl
    · cases e
variable {x : Str} {p pos : Pos} {e : Expr} {es : List Expr} {da : Env' → Option (List T)} {j n : Nat} {df : List T → Option T}
theorem pe_cl (hG : Fm G K mg base P w N sc k) {sp : Sp} {t : TA} (c : Cl P w K mg base j x sp) (i : ι) (hjk : j ≤ k) (hg : glB sc x = true) (hdb : (x == ("__debug__" : Str)) = false) (ha : PA (G i) (e :: es) t)
    (he : starEach (e :: es) (G i).env = (false, eval e (G i).env) :: starEach es (G i).env) (hpl : (backTo pos (starEach es (G i).env)).any (·.1) = false) : PE (G i) (.Call (.Name x p) (e :: es) [] pos) (tCall sp [] E0 t) := by
  obtain ⟨f, fd, ps, F, hm, kp, b⟩ := c.ex
  refine pe_call (k := k) (CX := CX0) (sp := sp) (f := f) (fd := fd) (ps := ps) (ds := []) ?_ (hG.room i) (gl_of hG hg i) (by rw [hG.mg i]; exact hm) (by rw [hG.K i]; exact kp) (by rw [hG.K i]; exact b) .nil pass0 ha hdb he hpl
  rw [hG.P i, hG.w i, hG.K i, hG.mg i, hG.base i]
  exact F.mono hjk
theorem ev_call (hG : Fm G K mg base P w N sc k) (c : Cl P w K mg base j x (spD K n false df)) (ha : AV G K (e :: es) da) (hjk : j ≤ k := by decide) (hg : glB sc x = true := by rfl) (hdb : (x == ("__debug__" : Str)) = false := by decide)
    (he : ∀ i, starEach (e :: es) (G i).env = (false, eval e (G i).env) :: starEach es (G i).env := by intro _; rfl) (hpl : ∀ i, (backTo pos (starEach es (G i).env)).any (·.1) = false := by intro _; rfl)
    (hn : (e :: es).length = n := by rfl) : EV G K (.Call (.Name x p) (e :: es) [] pos) (fun ρ => (da ρ).bind df) := by
  intro ρ σ H τ Q hE hd hq
  dsimp only at hd
  cases e1 : da ρ with
  | none => rw [e1] at hd; cases hd
  | some ts =>
    rw [e1] at hd
    refine ⟨tCall (spD K n false df) [] E0 (TAs G (e :: es)), fun i => pe_cl hG c i hjk hg hdb (pa_ts i) (he i) (hpl i), ?_⟩
    refine ha.2 ρ σ H ts _ hE e1 fun vs H1 s1 r => ?_
    rw [List.append_nil]
    exact ⟨ts, τ, r, (ha.1 ρ ts e1).trans hn, hd, fun v H' s2 r2 => hq v H' (s1.trans s2) r2⟩
theorem evf_call (hG : Fm G K mg base P w N sc k) (c : Cl P w K mg base j x (spD K n true df)) (ha : AV G K (e :: es) da) (hjk : j ≤ k := by decide) (hg : glB sc x = true := by rfl) (hdb : (x == ("__debug__" : Str)) = false := by decide)
    (he : ∀ i, starEach (e :: es) (G i).env = (false, eval e (G i).env) :: starEach es (G i).env := by intro _; rfl) (hpl : ∀ i, (backTo pos (starEach es (G i).env)).any (·.1) = false := by intro _; rfl)
    (hn : (e :: es).length = n := by rfl) : EVF G K (.Call (.Name x p) (e :: es) [] pos) (fun ρ => (da ρ).bind df) := by
  intro ρ σ H τ Q hE hd hq
  dsimp only at hd
  cases e1 : da ρ with
  | none => rw [e1] at hd; cases hd
  | some ts =>
    rw [e1] at hd
    refine ⟨tCall (spD K n true df) [] E0 (TAs G (e :: es)), fun i => pe_cl hG c i hjk hg hdb (pa_ts i) (he i) (hpl i), ?_⟩
    refine ha.2 ρ σ H ts _ hE e1 fun vs H1 s1 r => ?_
    rw [List.append_nil]
    refine ⟨ts, τ, r, (ha.1 ρ ts e1).trans hn, hd, fun v H' s2 r2 => ?_⟩
    obtain ⟨p, o, rfl, np, ep, f⟩ := r2
    exact hq p o H' (s1.trans s2) (s1.free np) ep f
end DL
namespace DL
open PySem PySem.Spec PyProof.Rows L2
variable {ι : Type} {G : ι → Cx} {K : PySem.W.Frag} {mg : Str → Option Value} {base : Heap} {P : Program} {w : World} {N : List Str} {sc : Scope} {k : Nat}

/-! ### arithmetic -/
def gI (f : Int → Int → Int) (x y : T) : Option T := match x, y with
  | .int i, .int j => some (.int (f i j))
  | _, _ => none
def gIc (c : Int → Int → Bool) (f : Int → Int → Int) (x y : T) : Option T := match x, y with
  | .int i, .int j => if c i j = true then some (.int (f i j)) else none
  | _, _ => none
def gIb (f : Int → Int → Bool) (x y : T) : Option T := match x, y with
  | .int i, .int j => some (.bl (f i j))
  | _, _ => none
theorem opS_I {f : Value → Value → Sem Value} {g : Int → Int → Int} (h : ∀ i, OpR (G i) f (rI0 fun a b => .int (g a b))) : OpS G K f (gI g) := by
  intro H x y v u τ Q e rx ry hq
  unfold gI at e
  split at e
  · cases e
    exact ⟨_, h, _, _, rep_int.mp rx, rep_int.mp ry, hq _ H (Same.refl H) (rep_int.mpr rfl)⟩
  · cases e
theorem opS_Ib {f : Value → Value → Sem Value} {g : Int → Int → Bool} (h : ∀ i, OpR (G i) f (rI0 fun a b => .bl (g a b))) : OpS G K f (gIb g) := by
  intro H x y v u τ Q e rx ry hq
  unfold gIb at e
  split at e
  · cases e
    exact ⟨_, h, _, _, rep_int.mp rx, rep_int.mp ry, hq _ H (Same.refl H) (rep_bl.mpr rfl)⟩
  · cases e
theorem opS_Ic {f : Value → Value → Sem Value} {C : Int → Int → Prop} {c : Int → Int → Bool} {g : Int → Int → Int} (h : ∀ i, OpR (G i) f (rI C fun a b => .int (g a b))) (hc : ∀ i j, c i j = true → C i j) : OpS G K f (gIc c g) := by
  intro H x y v u τ Q e rx ry hq
  unfold gIc at e
  split at e
  · split at e
    · rename_i q
      cases e
      exact ⟨_, h, _, _, rep_int.mp rx, rep_int.mp ry, hc _ _ q, hq _ H (Same.refl H) (rep_int.mpr rfl)⟩
    · cases e
  · cases e
abbrev gSub := gI fun i j => i - j
theorem s_sub : OpS G K (binaryOp .Sub) gSub := opS_I fun _ => op_sub
def cMul (i j : Int) : Bool := (decide (-(2 ^ 64) < i) && decide (i < 2 ^ 64)) || (decide (-(2 ^ 64) < j) && decide (j < 2 ^ 64))
abbrev gMul := gIc cMul fun i j => i * j
theorem s_mul : OpS G K (binaryOp .Mult) gMul := opS_Ic (fun _ => op_mul) fun i j h => by simpa [cMul, CMul] using h
def cDiv (_ j : Int) : Bool := decide (0 < j) && decide (j < 1073741824)
abbrev gDiv := gIc cDiv fun i j => i / j
theorem s_div : OpS G K (binaryOp .FloorDiv) gDiv := opS_Ic (fun _ => op_fdiv) fun i j h => by simpa [cDiv, CDiv] using h
def cMod (_ j : Int) : Bool := decide (0 < j)
abbrev gMod := gIc cMod fun i j => i % j
theorem s_mod : OpS G K (binaryOp .Mod) gMod := opS_Ic (fun _ => op_mod) fun i j h => by simpa [cMod] using h
def cPow (i j : Int) : Bool := decide (0 ≤ j) && decide (j ≤ 1000000) && decide (i.natAbs < 2 ^ 64)
abbrev gPow := gIc cPow fun i j => i ^ j.toNat
theorem s_pow : OpS G K (binaryOp .Pow) gPow := opS_Ic (fun _ => op_pow) fun i j h => by
  simp only [cPow, Bool.and_eq_true, decide_eq_true_eq] at h
  exact ⟨h.1.1, h.1.2, h.2⟩
/-- t + u of tuples, either may be empty -/
def rCatA (K : PySem.W.Frag) : R2 := fun x y H Q => ∃ a b xs ys, x = .ref a ∧ y = .ref b ∧ SqT K H a xs ∧ SqT K H b ys ∧ xs.length + ys.length ≤ sizeLine ∧
  (xs = [] → Q (.ref b) H) ∧ (xs ≠ [] → ys = [] → Q (.ref a) H) ∧ (xs ≠ [] → ys ≠ [] → ∀ p, H p = none → Q (.ref p) (upd H p (.tup (xs ++ ys))))
theorem op_catA {X : Cx} : OpR X (binaryOp .Add) (rCatA X.K) := by
  intro pins s σ H x y v u Q I rx ry h
  obtain ⟨a, b, xs, ys, rfl, rfl, ha, hb, hz, q0, q1, q2⟩ := h
  by_cases hx : xs = []
  · cases rx
    cases ry
    obtain ⟨its, r1, p1, _⟩ := I.tuple ha
    obtain ⟨its2, r2, p2, _⟩ := I.tuple hb
    obtain ⟨⟨cls, dd, data, sl⟩, ho, hc, n, hd⟩ := id p1
    obtain ⟨⟨cls2, dd2, data2, sl2⟩, ho2, hc2, n2, hd2⟩ := id p2
    simp only at hc hd hc2 hd2
    subst hc hd hc2 hd2
    have hv : its = [] := r1.nil_iff.mpr hx
    exact concat_meets ⟨_, ho, rfl⟩ ⟨_, ho2, rfl⟩ noFill_tuple_add seq_tuple_add PySem.F.slot_tuple_add PySem.F.entry_tuple_add (PySem.F.args_tuple_add_2 _ _)
      (tuple_addW0 a b its.toArray its2.toArray n n2 dd dd2 sl sl2 (by simp [hv])) ⟨ho, ho2, .ref b, H, I, rfl, q0 hx⟩
  · exact op_catT pins s σ H _ _ v u Q I rx ry ⟨a, b, xs, ys, rfl, rfl, ha, hb, hx, hz, q1 hx, q2 hx⟩
def gAdd (x y : T) : Option T := match x, y with
  | .int i, .int j => some (.int (i + j))
  | .str i, .str j => if i.length + j.length ≤ sizeLine then some (.str (i ++ j)) else none
  | .lst i, .lst j => if i.length + j.length ≤ sizeLine then some (.lst (i ++ j)) else none
  | .tup i, .tup j => if i.length + j.length ≤ sizeLine then some (.tup (i ++ j)) else none
  | _, _ => none
theorem Reps.append {H : Hp} {ts us : List T} {vs ws : List V} (h : Reps K H ts vs) (r : Reps K H us ws) : Reps K H (ts ++ us) (vs ++ ws) := by
  rw [Reps.paired] at h r ⊢
  induction h with
  | nil => exact r
  | cons h1 h2 ih => exact .cons h1 ih
theorem Reps.nil_iff {H : Hp} {ts : List T} {vs : List V} (h : Reps K H ts vs) : vs = [] ↔ ts = [] := by
  have := h.length
  constructor
  · rintro rfl; simpa using this
  · rintro rfl; simpa using this.symm
theorem s_add (hK : ∀ i, (G i).K = K) : OpS G K (binaryOp .Add) gAdd := by
  intro H x y v u τ Q e rx ry hq
  unfold gAdd at e
  split at e
  · cases e
    exact ⟨_, fun i => op_add, _, _, rep_int.mp rx, rep_int.mp ry, hq _ H (Same.refl H) (rep_int.mpr rfl)⟩
  · split at e
    · rename_i c
      cases e
      exact ⟨_, fun i => op_add_str, _, _, rep_str.mp rx, rep_str.mp ry, c, hq _ H (Same.refl H) (rep_str.mpr rfl)⟩
    · cases e
  · split at e
    · rename_i c
      cases e
      obtain ⟨a, vs, rfl, ea, ra⟩ := rep_lst.mp rx
      obtain ⟨b, ws, rfl, eb, rb⟩ := rep_lst.mp ry
      refine ⟨_, fun i => op_cat, a, b, vs, ws, rfl, rfl, ea, eb, by rw [← ra.length, ← rb.length]; exact c, fun p np => ?_⟩
      exact hq _ _ (same_upd' np) (rep_lst.mpr ⟨p, _, rfl, upd_same, (ra.append rb).same (same_upd' np)⟩)
    · cases e
  · split at e
    · rename_i c
      cases e
      obtain ⟨a, vs, rfl, ea, ra⟩ := rep_tup.mp rx
      obtain ⟨b, ws, rfl, eb, rb⟩ := rep_tup.mp ry
      refine ⟨rCatA K, fun i => by rw [← hK i]; exact op_catA, a, b, vs, ws, rfl, rfl, ea, eb, by rw [← ra.length, ← rb.length]; exact c, fun h1 => ?_, fun _ h2 => ?_, fun h1 h2 p np => ?_⟩
      · have z := ra.nil_iff.mp h1
        subst z
        exact hq _ _ (Same.refl H) ry
      · have z := rb.nil_iff.mp h2
        subst z
        rw [List.append_nil] at hq
        exact hq _ _ (Same.refl H) rx
      · exact hq _ _ (same_upd' np) (rep_tup.mpr ⟨p, _, rfl, .inl (.inl upd_same), (ra.append rb).same (same_upd' np)⟩)
    · cases e
  · cases e
/-- a new list xs + ys -/
def gCat (x y : T) : Option T := match x, y with
  | .lst i, .lst j => if i.length + j.length ≤ sizeLine then some (.lst (i ++ j)) else none
  | _, _ => none
theorem evf_cat {a b : Expr} {da db : Env' → Option T} {pos : Pos} (ha : EV G K a da) (hb : EV G K b db) : EVF G K (.BinOp a .Add b pos) (fun ρ => b2 gCat (da ρ) (db ρ)) := by
  intro ρ σ H τ Q he hd hq
  obtain ⟨x, y, ea, eb, eg⟩ := b2_some hd
  unfold gCat at eg
  split at eg
  · rename_i i j
    split at eg
    · rename_i c
      cases eg
      refine ⟨_, fun i => pe_op op_cat (pe_ts i) (pe_ts i), ?_⟩
      refine ha ρ σ H _ _ he ea fun v H1 s1 r1 => hb ρ σ H1 _ _ (he.same s1) eb fun u H2 s2 r2 => ?_
      obtain ⟨a, vs, rfl, ea, ra⟩ := rep_lst.mp (r1.same s2)
      obtain ⟨b, ws, rfl, eb, rb⟩ := rep_lst.mp r2
      refine ⟨a, b, vs, ws, rfl, rfl, ea, eb, by rw [← ra.length, ← rb.length]; exact c, fun p np => ?_⟩
      exact hq p _ _ ((s1.trans s2).trans (same_upd' np)) (s1.free (s2.free np)) upd_same (.inl ⟨_, _, rfl, rfl, (ra.append rb).same (same_upd' np)⟩)
    · cases eg
  · cases eg
def un1 (f : Int → Int) (o : Option T) : Option T := match o with
  | some (.int i) => some (.int (f i))
  | _ => none
theorem ev_neg {a : Expr} {da : Env' → Option T} {pos : Pos} (ha : EV G K a da) : EV G K (.UnaryOp .USub a pos) (fun ρ => un1 (fun i => -i) (da ρ)) := by
  intro ρ σ H τ Q he hd hq
  dsimp only at hd
  unfold un1 at hd
  split at hd
  · rename_i i e
    cases hd
    refine ⟨_, fun i => pe_un un_neg (pe_ts i), ?_⟩
    exact ha ρ σ H _ _ he e fun v H1 s1 r1 => ⟨i, rep_int.mp r1, hq _ _ s1 (rep_int.mpr rfl)⟩
  · cases hd

/-! ### comparisons -/
def strLt (i j : Str) : Bool := decide (i.cps.toList < j.cps.toList)
def gLt (x y : T) : Option T := match x, y with
  | .int i, .int j => some (.bl (decide (i < j)))
  | .str i, .str j => some (.bl (strLt i j))
  | _, _ => none
def gLe (x y : T) : Option T := match x, y with
  | .int i, .int j => some (.bl (decide (i ≤ j)))
  | .str i, .str j => some (.bl (!strLt j i))
  | _, _ => none
abbrev gGt := gIb fun i j => decide (j < i)
abbrev gGe := gIb fun i j => decide (j ≤ i)
theorem s_lt : OpS G K (compareOp .Lt) gLt := by
  intro H x y v u τ Q e rx ry hq
  unfold gLt at e
  split at e
  · cases e
    exact ⟨_, fun i => op_lt, _, _, rep_int.mp rx, rep_int.mp ry, hq _ H (Same.refl H) (rep_bl.mpr rfl)⟩
  · cases e
    exact ⟨_, fun i => op_lt_str, _, _, rep_str.mp rx, rep_str.mp ry, hq _ H (Same.refl H) (rep_bl.mpr rfl)⟩
  · cases e
theorem s_le : OpS G K (compareOp .LtE) gLe := by
  intro H x y v u τ Q e rx ry hq
  unfold gLe at e
  split at e
  · cases e
    exact ⟨_, fun i => op_le, _, _, rep_int.mp rx, rep_int.mp ry, hq _ H (Same.refl H) (rep_bl.mpr rfl)⟩
  · cases e
    exact ⟨_, fun i => op_le_str, _, _, rep_str.mp rx, rep_str.mp ry, hq _ H (Same.refl H) (rep_bl.mpr rfl)⟩
  · cases e
theorem s_gt : OpS G K (compareOp .Gt) gGt := opS_Ib fun _ => op_gt
theorem s_ge : OpS G K (compareOp .GtE) gGe := opS_Ib fun _ => op_ge
def rawOk : T → Bool
  | .raw .non => false
  | .clo _ => false
  | _ => true
def isNonT : T → Bool
  | .non => true
  | _ => false
theorem isN_rep {H : Hp} {x : T} {v : V} (h : Rep K H x v) (hr : rawOk x = true) : decide (v = .non) = isNonT x := by
  cases x with
  | non => cases rep_non.mp h; rfl
  | bl b => cases rep_bl.mp h; rfl
  | int b => cases rep_int.mp h; rfl
  | str b => cases rep_str.mp h; rfl
  | raw b =>
    cases rep_raw.mp h
    cases v <;> first | rfl | simp [rawOk] at hr
  | scr l => obtain ⟨a, vs, rfl, _⟩ := rep_scr.mp h; rfl
  | lst l => obtain ⟨a, vs, rfl, _⟩ := rep_lst.mp h; rfl
  | clo S => simp [rawOk] at hr
  | tup l => obtain ⟨a, vs, rfl, _⟩ := rep_tup.mp h; rfl
  | dic l => obtain ⟨a, vs, rfl, _⟩ := rep_dic.mp h; rfl
def gIs (neg : Bool) (x y : T) : Option T := match y with
  | .non => if rawOk x = true then some (.bl (xor neg (isNonT x))) else none
  | _ => none
theorem s_is : OpS G K (compareOp .Is) (gIs false) := by
  intro H x y v u τ Q e rx ry hq
  unfold gIs at e
  split at e
  · split at e
    · rename_i c
      cases e
      refine ⟨_, fun i => op_isN, rep_non.mp ry, ?_⟩
      rw [isN_rep rx c]
      exact hq _ H (Same.refl H) (rep_bl.mpr (by simp))
    · cases e
  · cases e
theorem s_isnot : OpS G K (compareOp .IsNot) (gIs true) := by
  intro H x y v u τ Q e rx ry hq
  unfold gIs at e
  split at e
  · split at e
    · rename_i c
      cases e
      refine ⟨_, fun i => op_notN, rep_non.mp ry, ?_⟩
      rw [isN_rep rx c]
      exact hq _ H (Same.refl H) (rep_bl.mpr (by simp))
    · cases e
  · cases e

/-! ### equality -/
mutual
def isD : T → Bool
  | .non => true | .bl _ => true | .int _ => true | .str _ => true
  | .lst ts => isDs ts | .tup ts => isDs ts | .scr ts => isDs ts
  | .raw _ => false | .dic _ => false | .clo _ => false
def isDs : List T → Bool
  | [] => true
  | t :: ts => isD t && isDs ts
end
mutual
def toD : T → PyData
  | .non => .none | .bl b => .bool b | .int i => .int i | .str x => .str x
  | .lst ts => .list (toDs ts) | .tup ts => .tuple (toDs ts) | .scr ts => .list (toDs ts)
  | .raw _ => .none | .dic _ => .none | .clo _ => .none
def toDs : List T → List PyData
  | [] => []
  | t :: ts => toD t :: toDs ts
end
section
variable {H : Hp}
mutual
theorem rep_dp : ∀ (t : T) (v : V), isD t = true → Rep K H t v → Dp K H v (toD t)
  | .non, _, _, h => by cases rep_non.mp h; exact .non
  | .bl b, _, _, h => by cases rep_bl.mp h; exact .bl b
  | .int b, _, _, h => by cases rep_int.mp h; exact .int b
  | .str b, _, _, h => by cases rep_str.mp h; exact .str b
  | .raw _, _, e, _ => by simp [isD] at e
  | .scr ts, v, e, h => by
    obtain ⟨a, vs, rfl, q, r⟩ := rep_scr.mp h
    exact .lst q (reps_dp ts vs (by simpa [isD] using e) r)
  | .dic _, _, e, _ => by simp [isD] at e
  | .clo _, _, e, _ => by simp [isD] at e
  | .lst ts, v, e, h => by
    obtain ⟨a, vs, rfl, q, r⟩ := rep_lst.mp h
    exact .lst (.inl (.inl q)) (reps_dp ts vs (by simpa [isD] using e) r)
  | .tup ts, v, e, h => by
    obtain ⟨a, vs, rfl, q, r⟩ := rep_tup.mp h
    exact .tup q (reps_dp ts vs (by simpa [isD] using e) r)
theorem reps_dp : ∀ (t : List T) (v : List V), isDs t = true → Reps K H t v → DpAll K H v (toDs t)
  | [], v, _, h => by
    unfold Reps at h
    subst h
    exact .nil
  | t :: ts, v, e, h => by
    unfold Reps at h
    obtain ⟨x, r, rfl, h1, h2⟩ := h
    have e' : isD t = true ∧ isDs ts = true := by simpa [isDs] using e
    exact .cons (rep_dp t x e'.1 h1) (reps_dp ts r e'.2 h2)
end
end
/-- fit for == as data -/
def dOk (t : T) : Bool := isD t && SeqAt.shaped (toD t)
def eqT (x y : T) : Bool := PyData.eqv (toD x) (toD y)
def gEq (x y : T) : Option T := if (dOk x && dOk y) = true then some (.bl (eqT x y)) else none
def gNe (x y : T) : Option T := if (dOk x && dOk y) = true then some (.bl (!eqT x y)) else none
theorem s_eq (hG : Fm G K mg base P w N sc k) : OpS G K (compareOp .Eq) gEq := by
  intro H x y v u τ Q e rx ry hq
  unfold gEq at e
  split at e
  · rename_i c
    cases e
    simp only [dOk, Bool.and_eq_true] at c
    refine ⟨rEqD K, fun i => by rw [← hG.K i]; exact op_eqD (hG.room i).units, toD x, toD y, rep_dp x v c.1.1 rx, rep_dp y u c.2.1 ry, c.1.2, c.2.2, hq _ H (Same.refl H) (rep_bl.mpr rfl)⟩
  · cases e
theorem s_ne (hG : Fm G K mg base P w N sc k) : OpS G K (compareOp .NotEq) gNe := by
  intro H x y v u τ Q e rx ry hq
  unfold gNe at e
  split at e
  · rename_i c
    cases e
    simp only [dOk, Bool.and_eq_true] at c
    refine ⟨rNeD K, fun i => by rw [← hG.K i]; exact op_neD (hG.room i).units, toD x, toD y, rep_dp x v c.1.1 rx, rep_dp y u c.2.1 ry, c.1.2, c.2.2, hq _ H (Same.refl H) (rep_bl.mpr rfl)⟩
  · cases e
/-- types -/
def tys : List String := ["int", "str", "bool", "list", "tuple", "dict", "NoneType"]
theorem meta_of {n : String} (h : n ∈ tys) (s : Shared) : s.TypeIs (.type n) "type" := by
  simp only [tys, List.mem_cons, List.not_mem_nil, or_false] at h
  rcases h with rfl | rfl | rfl | rfl | rfl | rfl | rfl
  · exact PySem.TypeEq.meta_int s
  · exact PySem.TypeEq.meta_str s
  · exact PySem.TypeEq.meta_bool s
  · exact PySem.TypeEq.meta_list s
  · exact PySem.TypeEq.meta_tuple s
  · exact PySem.TypeEq.meta_dict s
  · exact PySem.TypeEq.meta_NoneType s
theorem op_eqTy {X : Cx} : OpR X (compareOp .Eq) (fun x y H Q => ∃ a b, x = .ty a ∧ y = .ty b ∧ a ∈ tys ∧ b ∈ tys ∧ Q (.bl (decide (a = b))) H) := by
  intro pins s σ H x y v u Q I rx ry h
  obtain ⟨a, b, rfl, rfl, ha, hb, q⟩ := h
  cases (show v = Value.type a from rx)
  cases (show u = Value.type b from ry)
  by_cases e : a = b
  · subst e
    exact PySem.TypeEq.eq_type_same (meta_of ha) ⟨.bl true, H, I, rfl, by simpa using q⟩
  · exact PySem.TypeEq.eq_type_other (meta_of ha) (meta_of hb) (by simpa using e) ⟨.bl false, H, I, rfl, by simpa [e] using q⟩
theorem op_neTy {X : Cx} (hE : OpR X (compareOp .NotEq) (fun x y H Q => ∃ a b, x = .ty a ∧ y = .ty b ∧ a ∈ tys ∧ b ∈ tys ∧ Q (.bl (!decide (a = b))) H)) : True := trivial
def gEqTy (x y : T) : Option T := match x, y with
  | .raw (.ty a), .raw (.ty b) => if a ∈ tys ∧ b ∈ tys then some (.bl (decide (a = b))) else none
  | _, _ => none
theorem s_eqTy : OpS G K (compareOp .Eq) gEqTy := by
  intro H x y v u τ Q e rx ry hq
  unfold gEqTy at e
  split at e
  · split at e
    · rename_i c
      cases e
      exact ⟨_, fun i => op_eqTy, _, _, rep_raw.mp rx, rep_raw.mp ry, c.1, c.2, hq _ H (Same.refl H) (rep_bl.mpr rfl)⟩
    · cases e
  · cases e
end DL
namespace DL
open PySem PySem.Spec PyProof.Rows L2
variable {ι : Type} {G : ι → Cx} {K : PySem.W.Frag} {mg : Str → Option Value} {base : Heap} {P : Program} {w : World} {N : List Str} {sc : Scope} {k : Nat}

theorem Fm.hu (hG : Fm G K mg base P w N sc k) (i : ι) : (G i).A.units + 1 < cLine := hu_of (hG.room i)

/-! ### items -/
theorem Reps.atI {H : Hp} {ts : List T} {vs : List V} {i : Int} {t : T} (h : Reps K H ts vs) (e : L2.atI ts i = some t) : ∃ v, L2.atI vs i = some v ∧ Rep K H t v := by
  unfold L2.atI at e ⊢
  rw [← h.length]
  cases q : ixN ts.length i with
  | none => rw [q] at e; cases e
  | some j =>
    rw [q] at e
    exact h.get e
def keyOf : T → Option Key
  | .int i => some (.inl i)
  | .str x => some (.inr x)
  | _ => none
theorem keyOf_rep {H : Hp} {t : T} {v : V} {ky : Key} (e : keyOf t = some ky) (h : Rep K H t v) : v = kV ky := by
  unfold keyOf at e
  split at e
  · cases e; exact rep_int.mp h
  · cases e; exact rep_str.mp h
  · cases e
def lookT : List (Key × T) → Key → Option T
  | [], _ => none
  | (k', t) :: r, ky => if k' = ky then some t else lookT r ky
theorem look_val {H : Hp} {ky : Key} : ∀ {kts : List (Key × T)} {kvs : List (Key × V)}, RepsK K H kts kvs → (∀ t, lookT kts ky = some t → ∃ v, valV kvs ky = some v ∧ Rep K H t v) ∧ (lookT kts ky = none → valV kvs ky = none)
  | [], kvs, h => by
    unfold RepsK at h
    subst h
    exact ⟨fun t e => (by cases e), fun _ => rfl⟩
  | (k', t') :: r, kvs, h => by
    unfold RepsK at h
    obtain ⟨v, kr, rfl, h1, h2⟩ := h
    have ih := look_val (ky := ky) h2
    unfold lookT
    by_cases e : k' = ky
    · rw [if_pos e]
      refine ⟨fun t q => ?_, fun q => by cases q⟩
      cases q
      exact ⟨v, valV_pos e, h1⟩
    · rw [if_neg e, valV_neg e]
      exact ih
def gSubs (x y : T) : Option T := match x, y with
  | .lst ts, .int i => atI ts i
  | .tup ts, .int i => atI ts i
  | .scr ts, .int i => atI ts i
  | .str z, .int i => if z.length ≤ sizeLine then (atI z.cps.toList i).map fun c => .str ⟨#[c]⟩ else none
  | .dic kts, y => (keyOf y).bind (lookT kts)
  | _, _ => none
variable {a b e : Expr} {da db de : Env' → Option T} {pos : Pos}
theorem ev_sub (hG : Fm G K mg base P w N sc k) (ha : EV G K a da) (hb : EV G K b db) (hs : PlainIx b := by intro _ _; rfl) : EV G K (.Subscript a b pos) (fun ρ => b2 gSubs (da ρ) (db ρ)) := by
  intro ρ σ H τ Q he hd hq
  obtain ⟨x, y, ea, eb, eg⟩ := b2_some hd
  unfold gSubs at eg
  have go : ∀ (r : R2), (∀ i, IxR (G i) r) → (∀ H2 v u, Rep K H2 x v → Rep K H2 y u → (∀ z H', Same H2 H' → Rep K H' τ z → Q z H') → r v u H2 Q) → ES G (.Subscript a b pos) σ H Q := by
    intro r hr h
    refine ⟨tOp r (ES G a) (ES G b), fun i => pe_ix (hr i) (pe_ts i) (pe_ts i) hs, ?_⟩
    refine ha ρ σ H x _ he ea fun v H1 s1 r1 => hb ρ σ H1 y _ (he.same s1) eb fun u H2 s2 r2 => ?_
    exact h H2 v u (r1.same s2) r2 fun z H' s3 r3 => hq z H' ((s1.trans s2).trans s3) r3
  split at eg
  · refine go (rIxL K) (fun i => by rw [← hG.K i]; exact ix_list) fun H2 v u rv ru h => ?_
    obtain ⟨p, vs, rfl, q, r⟩ := rep_lst.mp rv
    obtain ⟨z, e1, r1⟩ := r.atI eg
    exact ⟨p, vs, _, z, rfl, rep_int.mp ru, .inl (.inl q), e1, h z H2 (Same.refl H2) r1⟩
  · refine go (rIxT K) (fun i => by rw [← hG.K i]; exact ix_tup) fun H2 v u rv ru h => ?_
    obtain ⟨p, vs, rfl, q, r⟩ := rep_tup.mp rv
    obtain ⟨z, e1, r1⟩ := r.atI eg
    exact ⟨p, vs, _, z, rfl, rep_int.mp ru, q, e1, h z H2 (Same.refl H2) r1⟩
  · refine go (rIxL K) (fun i => by rw [← hG.K i]; exact ix_list) fun H2 v u rv ru h => ?_
    obtain ⟨p, vs, rfl, q, r⟩ := rep_scr.mp rv
    obtain ⟨z, e1, r1⟩ := r.atI eg
    exact ⟨p, vs, _, z, rfl, rep_int.mp ru, q, e1, h z H2 (Same.refl H2) r1⟩
  · split at eg
    · rename_i z i c
      refine go rIxS (fun i => ix_str) fun H2 v u rv ru h => ?_
      cases q : L2.atI z.cps.toList i with
      | none => rw [q] at eg; cases eg
      | some c' =>
        rw [q] at eg
        cases eg
        exact ⟨z, i, c', rep_str.mp rv, rep_int.mp ru, c, q, h _ H2 (Same.refl H2) (rep_str.mpr rfl)⟩
    · cases eg
  · rename_i kts
    cases q : keyOf y with
    | none => rw [q] at eg; cases eg
    | some ky =>
      rw [q] at eg
      refine ⟨tDGet (ES G a) (ES G b), fun i => pe_dget (hG.hu i) (pe_ts i) (pe_ts i) hs, ?_⟩
      refine ha ρ σ H _ _ he ea fun v H1 s1 r1 => hb ρ σ H1 _ _ (he.same s1) eb fun u H2 s2 r2 => ?_
      obtain ⟨p, kvs, rfl, hd, r⟩ := rep_dic.mp (r1.same s2)
      obtain ⟨z, e1, rz⟩ := (look_val r).1 _ eg
      refine ⟨p, z, rfl, .inl ⟨kvs, ky, hd, keyOf_rep q r2, e1.symm⟩, hq _ _ (s1.trans s2) rz⟩
  · cases eg

/-! ### slices -/
def PV (G : ι → Cx) (K : PySem.W.Frag) (e : Option Expr) (d : Env' → Option (Option Int)) : Prop :=
  ∀ ρ σ H o (Q : Option Int → Hp → Prop), EnvR K H σ ρ → d ρ = some o → (∀ H', Same H H' → Q o H') → (∃ t, (∀ i, PO (G i) e t) ∧ t σ H Q)
def OTs (G : ι → Cx) (e : Option Expr) : TO := fun σ H Q => ∃ t, (∀ i, PO (G i) e t) ∧ t σ H Q
theorem po_ot {e : Option Expr} (i : ι) : PO (G i) e (OTs G e) := ⟨fun pins s σ H Q I ⟨t, h, q⟩ => (h i).run pins s σ H Q I q⟩
theorem pv_none : PV G K none (fun _ => some none) := fun ρ σ H o Q he hd hq => by
  cases hd
  exact ⟨_, fun _ => po_none, hq H (Same.refl H)⟩
def asI : Option T → Option (Option Int)
  | some (.int i) => some (some i)
  | _ => none
theorem pv_some (h : EV G K e de) : PV G K (some e) (fun ρ => asI (de ρ)) := fun ρ σ H o Q he hd hq => by
  dsimp only at hd
  unfold asI at hd
  split at hd
  · rename_i i e1
    cases hd
    exact ⟨_, fun j => po_some (pe_ts j), h ρ σ H _ _ he e1 fun v H1 s r => ⟨i, rep_int.mp r, hq H1 s⟩⟩
  · cases hd
def cutT (xs : List T) (lo hi : Option Int) : List T := (xs.drop (HT.sIx xs.length 0 lo)).take (HT.sIx xs.length xs.length hi - HT.sIx xs.length 0 lo)
theorem Reps.drop {H : Hp} {ts : List T} {vs : List V} (h : Reps K H ts vs) : ∀ n, Reps K H (ts.drop n) (vs.drop n) := by
  rw [Reps.paired] at h
  induction h with
  | nil => intro n; simpa using Reps.nil
  | cons h1 h2 ih =>
    intro n
    cases n with
    | zero => exact .cons h1 (Reps.paired.mpr h2)
    | succ n => exact ih n
theorem Reps.take {H : Hp} {ts : List T} {vs : List V} (h : Reps K H ts vs) : ∀ n, Reps K H (ts.take n) (vs.take n) := by
  rw [Reps.paired] at h
  induction h with
  | nil => intro n; simpa using Reps.nil
  | cons h1 h2 ih =>
    intro n
    cases n with
    | zero => exact .nil
    | succ n => exact .cons h1 (ih n)
theorem Reps.cut {H : Hp} {ts : List T} {vs : List V} (h : Reps K H ts vs) (lo hi : Option Int) : Reps K H (cutT ts lo hi) (cutV vs lo hi) := by
  unfold cutT cutV
  rw [← h.length]
  exact (h.drop _).take _
def b3 {α : Type} (f : T → Option Int → Option Int → Option α) (a : Option T) (l h : Option (Option Int)) : Option α := match a, l, h with
  | some x, some l, some h => f x l h
  | _, _, _ => none
theorem b3_some {α : Type} {f : T → Option Int → Option Int → Option α} {a : Option T} {l h : Option (Option Int)} {τ : α} (q : b3 f a l h = some τ) : ∃ x i j, a = some x ∧ l = some i ∧ h = some j ∧ f x i j = some τ := by
  cases a with
  | none => cases q
  | some x => cases l with
    | none => cases q
    | some i => cases h with
      | none => cases q
      | some j => exact ⟨x, i, j, rfl, rfl, rfl, q⟩
@[simp] theorem b3_mk {α : Type} {f : T → Option Int → Option Int → Option α} {x : T} {i j : Option Int} : b3 f (some x) (some i) (some j) = f x i j := rfl
variable {lo hi : Option Expr} {dl dh : Env' → Option (Option Int)} {p2 : Pos}
theorem sl_go {r : V → Option Int → Option Int → Hp → VK → Prop} (hr : ∀ i, SlR (G i) r) (ha : EV G K a da) (hl : PV G K lo dl) (hh : PV G K hi dh) {ρ : Env'} {σ : St} {H : Hp} {x : T} {i j : Option Int} {Q : VK} (he : EnvR K H σ ρ) (ea : da ρ = some x) (el : dl ρ = some i) (eh : dh ρ = some j)
    (h : ∀ H' v, Same H H' → Rep K H' x v → r v i j H' Q) : ES G (.Subscript a (.Slice lo hi none p2) pos) σ H Q := by
  refine ⟨tSl r (ES G a) (OTs G lo) (OTs G hi), fun i => pe_slice (hr i) (pe_ts i) (po_ot i) (po_ot i), ?_⟩
  refine ha ρ σ H x _ he ea fun v H1 s1 r1 => ?_
  refine hl ρ σ H1 i _ (he.same s1) el fun H2 s2 => ?_
  refine hh ρ σ H2 j _ (he.same (s1.trans s2)) eh fun H3 s3 => ?_
  exact h H3 v ((s1.trans s2).trans s3) (r1.same (s2.trans s3))
def gSlL (x : T) (lo hi : Option Int) : Option T := match x with
  | .lst ts => some (.lst (cutT ts lo hi))
  | .scr ts => some (.lst (cutT ts lo hi))
  | _ => none
/-- a new list xs[lo:hi] -/
theorem evf_slice (hK : ∀ i, (G i).K = K) (ha : EV G K a da) (hl : PV G K lo dl) (hh : PV G K hi dh) : EVF G K (.Subscript a (.Slice lo hi none p2) pos) (fun ρ => b3 gSlL (da ρ) (dl ρ) (dh ρ)) := by
  intro ρ σ H τ Q he hd hq
  obtain ⟨x, i, j, ea, el, eh, eg⟩ := b3_some hd
  refine sl_go (r := rSlL K) (fun i => by rw [← hK i]; exact sl_list) ha hl hh he ea el eh fun H' v s r => ?_
  unfold gSlL at eg
  split at eg
  · cases eg
    obtain ⟨p, vs, rfl, q, rr⟩ := rep_lst.mp r
    refine ⟨p, vs, rfl, .inl (.inl q), fun p' np => hq p' _ _ (s.trans (same_upd' np)) (s.free np) upd_same (.inl ⟨_, _, rfl, rfl, (rr.cut i j).same (same_upd' np)⟩)⟩
  · cases eg
    obtain ⟨p, vs, rfl, q, rr⟩ := rep_scr.mp r
    refine ⟨p, vs, rfl, q, fun p' np => hq p' _ _ (s.trans (same_upd' np)) (s.free np) upd_same (.inl ⟨_, _, rfl, rfl, (rr.cut i j).same (same_upd' np)⟩)⟩
  · cases eg
def gSl (x : T) (lo hi : Option Int) : Option T := match x with
  | .str z => if z.length ≤ sizeLine then some (.str (cutS z lo hi)) else none
  | .tup ts => some (.tup (cutT ts lo hi))
  | _ => none
theorem sIx_le' (n d : Nat) (hd : d ≤ n) (o : Option Int) : HT.sIx n d o ≤ n := HT.sIx_le n d hd o
/-- a text's or a tuple's slice, also the whole one -/
def rSlA (K : PySem.W.Frag) : V → Option Int → Option Int → Hp → VK → Prop := fun x lo hi H Q => ∃ a xs, x = .ref a ∧ SqT K H a xs ∧
  ((¬ (HT.sIx xs.length 0 lo = 0 ∧ HT.sIx xs.length xs.length hi = xs.length) ∧ ∀ p, H p = none → Q (.ref p) (upd H p (.tup (cutV xs lo hi)))) ∨ ((HT.sIx xs.length 0 lo = 0 ∧ HT.sIx xs.length xs.length hi = xs.length) ∧ Q (.ref a) H))
theorem ev_slice (hK : ∀ i, (G i).K = K) (ha : EV G K a da) (hl : PV G K lo dl) (hh : PV G K hi dh) (hA : ∀ i, SlR (G i) (rSlA (G i).K)) : EV G K (.Subscript a (.Slice lo hi none p2) pos) (fun ρ => b3 gSl (da ρ) (dl ρ) (dh ρ)) := by
  intro ρ σ H τ Q he hd hq
  obtain ⟨x, i, j, ea, el, eh, eg⟩ := b3_some hd
  unfold gSl at eg
  split at eg
  · split at eg
    · rename_i z c
      cases eg
      refine sl_go (r := rSlS) (fun i => sl_str) ha hl hh he ea el eh fun H' v s r => ?_
      exact ⟨z, rep_str.mp r, c, hq _ H' s (rep_str.mpr rfl)⟩
    · cases eg
  · rename_i ts
    cases eg
    refine sl_go (r := rSlA K) (fun i => by rw [← hK i]; exact hA i) ha hl hh he ea el eh fun H' v s r => ?_
    obtain ⟨p, vs, rfl, q, rr⟩ := rep_tup.mp r
    refine ⟨p, vs, rfl, q, ?_⟩
    by_cases c : HT.sIx vs.length 0 i = 0 ∧ HT.sIx vs.length vs.length j = vs.length
    · refine .inr ⟨c, hq _ H' s ?_⟩
      have e : cutT ts i j = ts := by
        unfold cutT
        rw [rr.length, c.1, c.2, List.drop_zero, Nat.sub_zero, ← rr.length, List.take_length]
      rw [e]
      exact r
    · exact .inl ⟨c, fun p' np => hq _ _ (s.trans (same_upd' np)) (rep_tup.mpr ⟨p', _, rfl, .inl (.inl upd_same), (rr.cut i j).same (same_upd' np)⟩)⟩
  · cases eg
/-- xs[::-1], a new list -/
def revD (o : Option T) : Option T := match o with
  | some (.lst ts) => some (.lst ts.reverse)
  | _ => none
theorem Reps.reverse {H : Hp} {ts : List T} {vs : List V} (h : Reps K H ts vs) : Reps K H ts.reverse vs.reverse := by
  rw [Reps.paired] at h
  induction h with
  | nil => exact .nil
  | cons h1 h2 ih =>
    rw [List.reverse_cons, List.reverse_cons]
    exact ih.snoc h1
theorem evf_rev (hK : ∀ i, (G i).K = K) {j : Nat} {p1 p3 : Pos} (ha : EV G K a da) : EVF G K (.Subscript a (.Slice none none (some (.UnaryOp .USub (.Constant (.int 1) j p1) p2)) p3) pos) (fun ρ => revD (da ρ)) := by
  intro ρ σ H τ Q he hd hq
  dsimp only at hd
  unfold revD at hd
  split at hd
  · rename_i ts e1
    cases hd
    refine ⟨tRevL K (ES G a), fun i => by rw [← hK i]; exact pe_revL (pe_ts i), ?_⟩
    refine ha ρ σ H _ _ he e1 fun v H1 s1 r1 => ?_
    obtain ⟨p, vs, rfl, q, rr⟩ := rep_lst.mp r1
    exact ⟨p, vs, rfl, .inl (.inl q), fun p' np => hq p' _ _ (s1.trans (same_upd' np)) (s1.free np) upd_same (.inl ⟨_, _, rfl, rfl, rr.reverse.same (same_upd' np)⟩)⟩
  · cases hd

/-! ### calls of built-ins -/
def CLS (G : ι → Cx) (f : Value) : List V → Hp → VK → Prop := fun xs H Q => ∃ r, (∀ i, CallR (G i) f r) ∧ r xs H Q
theorem cr_cls {f : Value} (i : ι) : CallR (G i) f (CLS G f) := fun pins s σ H xs us Q I rv ⟨r, h, q⟩ => h i pins s σ H xs us Q I rv q
/-- f is worth g -/
def ClS (G : ι → Cx) (K : PySem.W.Frag) (f : Value) (g : List T → Option T) : Prop :=
  ∀ H ts vs τ Q, g ts = some τ → Reps K H ts vs → (∀ z H', Same H H' → Rep K H' τ z → Q z H') → CLS G f vs H Q
/-- .. a new list or dict -/
def ClF (G : ι → Cx) (K : PySem.W.Frag) (f : Value) (g : List T → Option T) : Prop :=
  ∀ H ts vs τ Q, g ts = some τ → Reps K H ts vs → (∀ p o H', Same H H' → H p = none → H' p = some o → FrO K H' τ o → Q (.ref p) H') → CLS G f vs H Q
variable {x : Str} {p : Pos} {es : List Expr} {dr : Env' → Option (List T)} {id T' : String} {g : List T → Option T}
theorem ev_bltF (hG : Fm G K mg base P w N sc k) (hc : ClS G K (.builtin id) g) (hm : mg x = none) (ha : AV G K (e :: es) dr) (hv : bootBuiltins x = some (.builtin id) := by decide +kernel) (hg : glB sc x = true := by rfl) (hn : x ≠ "__name__" := by decide) (hdb : (x == ("__debug__" : Str)) = false := by decide)
    (he : ∀ i, starEach (e :: es) (G i).env = (false, eval e (G i).env) :: starEach es (G i).env := by intro _; rfl) (hpl : ∀ i, (backTo pos (starEach es (G i).env)).any (·.1) = false := by intro _; rfl) :
    EV G K (.Call (.Name x p) (e :: es) [] pos) (fun ρ => (dr ρ).bind g) := by
  intro ρ σ H τ Q hE hd hq
  dsimp only at hd
  cases e1 : dr ρ with
  | none => rw [e1] at hd; cases hd
  | some ts =>
    rw [e1] at hd
    refine ⟨tCB (CLS G (.builtin id)) (TAs G (e :: es)), fun i => pe_callB (cr_cls i) (gl_of hG hg i) (by rw [hG.mg i]; exact hm) hv (pa_ts i) hn hdb (he i) (hpl i), ?_⟩
    exact ha.2 ρ σ H ts _ hE e1 fun vs H1 s1 r => hc H1 ts vs τ Q hd r fun z H' s2 r2 => hq z H' (s1.trans s2) r2
theorem ev_bltT (hG : Fm G K mg base P w N sc k) (hc : ClS G K (.type T') g) (hm : mg x = none) (ha : AV G K (e :: es) dr) (hv : bootBuiltins x = some (.type T') := by decide +kernel) (hg : glB sc x = true := by rfl) (hn : x ≠ "__name__" := by decide) (hdb : (x == ("__debug__" : Str)) = false := by decide)
    (he : ∀ i, starEach (e :: es) (G i).env = (false, eval e (G i).env) :: starEach es (G i).env := by intro _; rfl) (hpl : ∀ i, (backTo pos (starEach es (G i).env)).any (·.1) = false := by intro _; rfl) :
    EV G K (.Call (.Name x p) (e :: es) [] pos) (fun ρ => (dr ρ).bind g) := by
  intro ρ σ H τ Q hE hd hq
  dsimp only at hd
  cases e1 : dr ρ with
  | none => rw [e1] at hd; cases hd
  | some ts =>
    rw [e1] at hd
    refine ⟨tCB (CLS G (.type T')) (TAs G (e :: es)), fun i => pe_callTy (cr_cls i) (gl_of hG hg i) (by rw [hG.mg i]; exact hm) hv (pa_ts i) hn hdb (he i) (hpl i), ?_⟩
    exact ha.2 ρ σ H ts _ hE e1 fun vs H1 s1 r => hc H1 ts vs τ Q hd r fun z H' s2 r2 => hq z H' (s1.trans s2) r2
theorem evf_bltF (hG : Fm G K mg base P w N sc k) (hc : ClF G K (.builtin id) g) (hm : mg x = none) (ha : AV G K (e :: es) dr) (hv : bootBuiltins x = some (.builtin id) := by decide +kernel) (hg : glB sc x = true := by rfl) (hn : x ≠ "__name__" := by decide) (hdb : (x == ("__debug__" : Str)) = false := by decide)
    (he : ∀ i, starEach (e :: es) (G i).env = (false, eval e (G i).env) :: starEach es (G i).env := by intro _; rfl) (hpl : ∀ i, (backTo pos (starEach es (G i).env)).any (·.1) = false := by intro _; rfl) :
    EVF G K (.Call (.Name x p) (e :: es) [] pos) (fun ρ => (dr ρ).bind g) := by
  intro ρ σ H τ Q hE hd hq
  dsimp only at hd
  cases e1 : dr ρ with
  | none => rw [e1] at hd; cases hd
  | some ts =>
    rw [e1] at hd
    refine ⟨tCB (CLS G (.builtin id)) (TAs G (e :: es)), fun i => pe_callB (cr_cls i) (gl_of hG hg i) (by rw [hG.mg i]; exact hm) hv (pa_ts i) hn hdb (he i) (hpl i), ?_⟩
    exact ha.2 ρ σ H ts _ hE e1 fun vs H1 s1 r => hc H1 ts vs τ Q hd r fun p o H' s2 np ep f => hq p o H' (s1.trans s2) (s1.free np) ep f
theorem evf_bltT (hG : Fm G K mg base P w N sc k) (hc : ClF G K (.type T') g) (hm : mg x = none) (ha : AV G K (e :: es) dr) (hv : bootBuiltins x = some (.type T') := by decide +kernel) (hg : glB sc x = true := by rfl) (hn : x ≠ "__name__" := by decide) (hdb : (x == ("__debug__" : Str)) = false := by decide)
    (he : ∀ i, starEach (e :: es) (G i).env = (false, eval e (G i).env) :: starEach es (G i).env := by intro _; rfl) (hpl : ∀ i, (backTo pos (starEach es (G i).env)).any (·.1) = false := by intro _; rfl) :
    EVF G K (.Call (.Name x p) (e :: es) [] pos) (fun ρ => (dr ρ).bind g) := by
  intro ρ σ H τ Q hE hd hq
  dsimp only at hd
  cases e1 : dr ρ with
  | none => rw [e1] at hd; cases hd
  | some ts =>
    rw [e1] at hd
    refine ⟨tCB (CLS G (.type T')) (TAs G (e :: es)), fun i => pe_callTy (cr_cls i) (gl_of hG hg i) (by rw [hG.mg i]; exact hm) hv (pa_ts i) hn hdb (he i) (hpl i), ?_⟩
    exact ha.2 ρ σ H ts _ hE e1 fun vs H1 s1 r => hc H1 ts vs τ Q hd r fun p o H' s2 np ep f => hq p o H' (s1.trans s2) (s1.free np) ep f
theorem reps1 {H : Hp} {t : T} {vs : List V} (h : Reps K H [t] vs) : ∃ v, vs = [v] ∧ Rep K H t v := by
  unfold Reps at h
  obtain ⟨v, r, rfl, h1, h2⟩ := h
  unfold Reps at h2
  subst h2
  exact ⟨v, rfl, h1⟩
theorem reps2 {H : Hp} {t u : T} {vs : List V} (h : Reps K H [t, u] vs) : ∃ v z, vs = [v, z] ∧ Rep K H t v ∧ Rep K H u z := by
  unfold Reps at h
  obtain ⟨v, r, rfl, h1, h2⟩ := h
  obtain ⟨z, rfl, h3⟩ := reps1 h2
  exact ⟨v, z, rfl, h1, h3⟩
/-- len -/
def gLen : List T → Option T
  | [.lst ts] => some (.int ts.length) | [.tup ts] => some (.int ts.length) | [.scr ts] => some (.int ts.length) | [.dic ts] => some (.int ts.length)
  | [.str x] => if x.length ≤ sizeLine then some (.int x.length) else none
  | _ => none
theorem call_lenRd {X : Cx} : CallR X (.builtin "len") (fun xs H Q => ∃ a kvs, xs = [V.ref a] ∧ Rd H a (.dK kvs) ∧ Q (.int kvs.length) H) := by
  intro pins s σ H xs us Q I r h
  obtain ⟨a, kvs, rfl, ha, q⟩ := h
  obtain ⟨u, rfl, ru⟩ := vals1 r
  cases ru
  exact d_len I ha fun t s' I' => ⟨.int kvs.length, H, I', ⟨t, rfl⟩, q⟩
theorem c_len (hK : ∀ i, (G i).K = K) : ClS G K (.builtin "len") gLen := by
  intro H ts vs τ Q e r hq
  have seq : ∀ {v : V} {n : Nat}, (∃ p ys, v = .ref p ∧ (SqL K H p ys ∨ SqT K H p ys) ∧ ys.length = n) → (∀ z H', Same H H' → Rep K H' (.int n) z → Q z H') → CLS G (.builtin "len") [v] H Q := by
    rintro v n ⟨p, ys, rfl, h1, h2⟩ hq
    refine ⟨fun xs H Q => ∃ p ys, xs = [.ref p] ∧ (SqL K H p ys ∨ SqT K H p ys) ∧ Q (.int ys.length) H, fun i => by rw [← hK i]; exact call_len_seq, p, ys, rfl, h1, hq _ H (Same.refl H) (rep_int.mpr (by rw [h2]))⟩
  unfold gLen at e
  split at e
  · cases e
    obtain ⟨v, rfl, rv⟩ := reps1 r
    obtain ⟨a, ys, rfl, q, rr⟩ := rep_lst.mp rv
    exact seq ⟨a, ys, rfl, .inl (.inl (.inl q)), rr.length.symm⟩ hq
  · cases e
    obtain ⟨v, rfl, rv⟩ := reps1 r
    obtain ⟨a, ys, rfl, q, rr⟩ := rep_tup.mp rv
    exact seq ⟨a, ys, rfl, .inr q, rr.length.symm⟩ hq
  · cases e
    obtain ⟨v, rfl, rv⟩ := reps1 r
    obtain ⟨a, ys, rfl, q, rr⟩ := rep_scr.mp rv
    exact seq ⟨a, ys, rfl, .inl q, rr.length.symm⟩ hq
  · cases e
    obtain ⟨v, rfl, rv⟩ := reps1 r
    obtain ⟨a, ys, rfl, q, rr⟩ := rep_dic.mp rv
    exact ⟨_, fun i => call_lenRd, a, ys, rfl, q, hq _ H (Same.refl H) (rep_int.mpr (by rw [rr.length]))⟩
  · split at e
    · rename_i z c
      cases e
      obtain ⟨v, rfl, rv⟩ := reps1 r
      cases rep_str.mp rv
      exact ⟨_, fun i => call_len_str, z, rfl, c, hq _ H (Same.refl H) (rep_int.mpr rfl)⟩
    · cases e
  · cases e
def gMin : List T → Option T
  | [.int i, .int j] => some (.int (if j < i then j else i))
  | _ => none
def gMax : List T → Option T
  | [.int i, .int j] => some (.int (if j > i then j else i))
  | _ => none
theorem c_min (hG : Fm G K mg base P w N sc k) : ClS G K (.builtin "min") gMin := by
  intro H ts vs τ Q e r hq
  unfold gMin at e
  split at e
  · cases e
    obtain ⟨v, z, rfl, r1, r2⟩ := reps2 r
    cases rep_int.mp r1
    cases rep_int.mp r2
    exact ⟨_, fun i => call_min2 (hG.calm i), _, _, rfl, hq _ H (Same.refl H) (rep_int.mpr rfl)⟩
  · cases e
theorem c_max (hG : Fm G K mg base P w N sc k) : ClS G K (.builtin "max") gMax := by
  intro H ts vs τ Q e r hq
  unfold gMax at e
  split at e
  · cases e
    obtain ⟨v, z, rfl, r1, r2⟩ := reps2 r
    cases rep_int.mp r1
    cases rep_int.mp r2
    exact ⟨_, fun i => call_max2 (hG.calm i), _, _, rfl, hq _ H (Same.refl H) (rep_int.mpr rfl)⟩
  · cases e
def gInt : List T → Option T
  | [.int i] => some (.int i)
  | [.bl b] => some (.int (if b then 1 else 0))
  | _ => none
theorem c_int : ClS G K (.type "int") gInt := by
  intro H ts vs τ Q e r hq
  unfold gInt at e
  split at e
  · cases e
    obtain ⟨v, rfl, r1⟩ := reps1 r
    cases rep_int.mp r1
    exact ⟨_, fun i => call_int1, .inl ⟨_, rfl, hq _ H (Same.refl H) (rep_int.mpr rfl)⟩⟩
  · cases e
    obtain ⟨v, rfl, r1⟩ := reps1 r
    cases rep_bl.mp r1
    exact ⟨_, fun i => call_int1, .inr ⟨_, rfl, hq _ H (Same.refl H) (rep_int.mpr rfl)⟩⟩
  · cases e
/-- all([..]) -/
def blsOf : List T → Option (List Bool)
  | [] => some []
  | .bl b :: ts => (blsOf ts).map (b :: ·)
  | _ => none
theorem blsOf_rep {H : Hp} : ∀ {ts : List T} {vs : List V} {bs : List Bool}, blsOf ts = some bs → Reps K H ts vs → vs = bs.map V.bl
  | [], vs, bs, e, h => by
    cases e
    unfold Reps at h
    subst h; rfl
  | t :: ts, vs, bs, e, h => by
    unfold blsOf at e
    split at e
    · cases e; rename_i q; cases q
    · rename_i b ts' q
      cases q
      cases e2 : blsOf ts with
      | none => rw [e2] at e; cases e
      | some bs' =>
        rw [e2] at e
        cases e
        unfold Reps at h
        obtain ⟨v, r, rfl, h1, h2⟩ := h
        rw [rep_bl.mp h1, blsOf_rep e2 h2]
        rfl
    · cases e
def gAll : List T → Option T
  | [.lst ts] => (blsOf ts).map fun bs => .bl (bs.all _root_.id)
  | _ => none
theorem c_all (hG : Fm G K mg base P w N sc k) : ClS G K (.builtin "all") gAll := by
  intro H ts vs τ Q e r hq
  unfold gAll at e
  split at e
  · rename_i l
    cases e2 : blsOf l with
    | none => rw [e2] at e; cases e
    | some bs =>
      rw [e2] at e
      cases e
      obtain ⟨v, rfl, rv⟩ := reps1 r
      obtain ⟨a, ys, rfl, q, rr⟩ := rep_lst.mp rv
      have := blsOf_rep e2 rr
      subst this
      exact ⟨rAll K, fun i => by rw [← hG.K i]; exact cr_all (hG.calm i), a, bs, rfl, .inl (.inl q), hq _ H (Same.refl H) (rep_bl.mpr rfl)⟩
  · cases e
/-- list(xs), list(t) -/
def gList : List T → Option T
  | [.lst ts] => some (.lst ts) | [.tup ts] => some (.lst ts) | [.scr ts] => some (.lst ts)
  | _ => none
theorem c_list (hK : ∀ i, (G i).K = K) : ClF G K (.type "list") gList := by
  intro H ts vs τ Q e r hq
  have seq : ∀ {v : V} {us : List T}, (∃ p ys, v = .ref p ∧ (SqL K H p ys ∨ SqT K H p ys) ∧ Reps K H us ys) → (∀ p o H', Same H H' → H p = none → H' p = some o → FrO K H' (.lst us) o → Q (.ref p) H') → CLS G (.type "list") [v] H Q := by
    rintro v us ⟨p, ys, rfl, h1, h2⟩ hq
    refine ⟨fun xs H Q => ∃ p ys, xs = [.ref p] ∧ (SqL K H p ys ∨ SqT K H p ys) ∧ ∀ l, H l = none → Q (.ref l) (upd H l (.lst ys)), fun i => by rw [← hK i]; exact call_list_of, p, ys, rfl, h1, fun l nl => hq l _ _ (same_upd' nl) nl upd_same (.inl ⟨_, _, rfl, rfl, h2.same (same_upd' nl)⟩)⟩
  unfold gList at e
  split at e
  · cases e
    obtain ⟨v, rfl, rv⟩ := reps1 r
    obtain ⟨a, ys, rfl, q, rr⟩ := rep_lst.mp rv
    exact seq ⟨a, ys, rfl, .inl (.inl (.inl q)), rr⟩ hq
  · cases e
    obtain ⟨v, rfl, rv⟩ := reps1 r
    obtain ⟨a, ys, rfl, q, rr⟩ := rep_tup.mp rv
    exact seq ⟨a, ys, rfl, .inr q, rr⟩ hq
  · cases e
    obtain ⟨v, rfl, rv⟩ := reps1 r
    obtain ⟨a, ys, rfl, q, rr⟩ := rep_scr.mp rv
    exact seq ⟨a, ys, rfl, .inl q, rr⟩ hq
  · cases e
end DL
namespace DL
open PySem PySem.Spec PyProof.Rows L2
variable {ι : Type} {G : ι → Cx} {K : PySem.W.Frag} {mg : Str → Option Value} {base : Heap} {P : Program} {w : World} {N : List Str} {sc : Scope} {k : Nat}

/-! ### sorting ints -/
def insI (x : Int) : List Int → List Int
  | [] => [x]
  | y :: ys => if x ≤ y then x :: y :: ys else y :: insI x ys
def sortI : List Int → List Int
  | [] => []
  | x :: xs => insI x (sortI xs)
theorem insI_perm (x : Int) : ∀ ys : List Int, (insI x ys).Perm (x :: ys)
  | [] => .refl _
  | y :: ys => by
    unfold insI
    split
    · exact .refl _
    · exact ((insI_perm x ys).cons y).trans (.swap x y ys)
theorem insI_mem {x z : Int} {ys : List Int} (h : z ∈ insI x ys) : z = x ∨ z ∈ ys := by
  have := (insI_perm x ys).mem_iff.mp h
  simpa using this
theorem insI_ord (x : Int) : ∀ ys : List Int, ys.Pairwise (· ≤ ·) → (insI x ys).Pairwise (· ≤ ·)
  | [], _ => by simp [insI]
  | y :: ys, h => by
    unfold insI
    rw [List.pairwise_cons] at h
    split
    · rename_i c
      refine List.pairwise_cons.mpr ⟨fun z hz => ?_, List.pairwise_cons.mpr h⟩
      rcases List.mem_cons.mp hz with rfl | hz
      · exact c
      · exact Int.le_trans c (h.1 z hz)
    · rename_i c
      refine List.pairwise_cons.mpr ⟨fun z hz => ?_, insI_ord x ys h.2⟩
      rcases insI_mem hz with rfl | hz
      · omega
      · exact h.1 z hz
theorem sortI_perm : ∀ xs : List Int, (sortI xs).Perm xs
  | [] => .refl _
  | x :: xs => (insI_perm x _).trans ((sortI_perm xs).cons x)
theorem sortI_ord : ∀ xs : List Int, (sortI xs).Pairwise (· ≤ ·)
  | [] => .nil
  | x :: xs => insI_ord x _ (sortI_ord xs)
theorem sortI_eq {xs ys : List Int} (p : ys.Perm xs) (o : ys.Pairwise (· ≤ ·)) : ys = sortI xs := PySem.W.ksm_same (p.trans (sortI_perm xs).symm) o (sortI_ord xs)
theorem sortR_eq {xs ys : List Int} (p : ys.Perm xs) (o : ys.Pairwise (· ≥ ·)) : ys = (sortI xs).reverse := by
  have h : ys.reverse = sortI xs := sortI_eq ((List.reverse_perm ys).trans p) (by rw [List.pairwise_reverse]; exact o)
  rw [← h, List.reverse_reverse]
def intsOf : List T → Option (List Int)
  | [] => some []
  | .int b :: ts => (intsOf ts).map (b :: ·)
  | _ => none
theorem intsOf_rep {H : Hp} : ∀ {ts : List T} {vs : List V} {bs : List Int}, intsOf ts = some bs → Reps K H ts vs → vs = bs.map V.int
  | [], vs, bs, e, h => by
    cases e
    unfold Reps at h
    subst h; rfl
  | t :: ts, vs, bs, e, h => by
    unfold intsOf at e
    split at e
    · cases e; rename_i q; cases q
    · rename_i b ts' q
      cases q
      cases e2 : intsOf ts with
      | none => rw [e2] at e; cases e
      | some bs' =>
        rw [e2] at e
        cases e
        unfold Reps at h
        obtain ⟨v, r, rfl, h1, h2⟩ := h
        rw [rep_int.mp h1, intsOf_rep e2 h2]
        rfl
    · cases e
theorem intsOf_map (ns : List Int) : intsOf (ns.map T.int) = some ns := by
  induction ns with
  | nil => rfl
  | cons n ns ih => simp [intsOf, ih]
theorem reps_ints {H : Hp} : ∀ (ns : List Int), Reps K H (ns.map T.int) (ns.map V.int)
  | [] => .nil
  | n :: ns => .cons (rep_int.mpr rfl) (reps_ints ns)
def keysI : List (Key × T) → Option (List Int)
  | [] => some []
  | (.inl b, _) :: ts => (keysI ts).map (b :: ·)
  | _ => none
theorem keysI_rep {H : Hp} : ∀ {ts : List (Key × T)} {vs : List (Key × V)} {bs : List Int}, keysI ts = some bs → RepsK K H ts vs → vs.map (·.1) = bs.map Sum.inl
  | [], vs, bs, e, h => by
    cases e
    unfold RepsK at h
    subst h; rfl
  | (ky, t) :: ts, vs, bs, e, h => by
    unfold keysI at e
    split at e
    · cases e; rename_i q; cases q
    · rename_i b t' ts' q
      cases q
      cases e2 : keysI ts with
      | none => rw [e2] at e; cases e
      | some bs' =>
        rw [e2] at e
        cases e
        unfold RepsK at h
        obtain ⟨v, r, rfl, h1, h2⟩ := h
        rw [List.map_cons, List.map_cons, keysI_rep e2 h2]
    · cases e
def gSorted : List T → Option T
  | [.lst ts] => (intsOf ts).map fun ns => .lst ((sortI ns).map T.int)
  | [.dic kts] => (keysI kts).bind fun ns => if ns.length < 64 then some (.lst ((sortI ns).map T.int)) else none
  | _ => none
theorem c_sorted (hG : Fm G K mg base P w N sc k) : ClF G K (.builtin "sorted") gSorted := by
  intro H ts vs τ Q e r hq
  unfold gSorted at e
  split at e
  · rename_i l
    cases e2 : intsOf l with
    | none => rw [e2] at e; cases e
    | some ns =>
      rw [e2] at e
      cases e
      obtain ⟨v, rfl, rv⟩ := reps1 r
      obtain ⟨a, ys, rfl, q, rr⟩ := rep_lst.mp rv
      have := intsOf_rep e2 rr
      subst this
      refine ⟨rSortedI K, fun i => by rw [← hG.K i]; exact cr_sortedI, a, ns, rfl, .inl (.inl q), fun ns' p h1 h2 np => ?_⟩
      rw [sortI_eq h1 h2]
      exact hq p _ _ (same_upd' np) np upd_same (.inl ⟨_, _, rfl, rfl, reps_ints _⟩)
  · rename_i l
    cases e2 : keysI l with
    | none => rw [e2] at e; cases e
    | some ns =>
      rw [e2] at e
      dsimp only [Option.bind] at e
      split at e
      · rename_i h64
        cases e
        obtain ⟨v, rfl, rv⟩ := reps1 r
        obtain ⟨a, ys, rfl, q, rr⟩ := rep_dic.mp rv
        refine ⟨_, fun i => call_sortedDI (hG.calm i), a, ys, ns, rfl, q, keysI_rep e2 rr, h64, fun ns' p h1 h2 np => ?_⟩
        rw [sortI_eq h1 h2]
        exact hq p _ _ (same_upd' np) np upd_same (.inl ⟨_, _, rfl, rfl, reps_ints _⟩)
      · cases e
  · cases e
/-- sorted(d, reverse=True) of a dict of int keys -/
theorem call_sortedDR {X : Cx} (hcalm : X.calm = true) {b : Bool} : CallRK X (.builtin "sorted") [Str.ofString "reverse"] (fun xs zs H Q => ∃ (a : Addr) (kvs : List (Key × V)) (ks : List Int), xs = [.ref a] ∧ zs = [.bl b] ∧ Rd H a (.dK kvs) ∧ kvs.map (·.1) = ks.map Sum.inl ∧ ks.length < 64 ∧
    ∀ (ys : List Int) (p : Addr), ys.Perm ks → OrdB b ys → H p = none → Q (.ref p) (upd H p (.lst (ys.map V.int)))) := by
  intro pins s σ H xs zs us ws Q I r rz q
  obtain ⟨a, kvs, ks, ex, ez, hd, hks, h64, q⟩ := q
  subst ex
  subst ez
  obtain ⟨u, eu, rx⟩ := vals1 r
  subst eu
  cases rx
  obtain ⟨w1, ew, rw1⟩ := vals1 rz
  subst ew
  cases (show w1 = Value.bool b from rw1)
  obtain ⟨z, lo, vs, rel, dd⟩ := dk_rd I.hok hd
  obtain ⟨ep, hat⟩ := dd.dictAt
  have hkeys : vs.map (·.1) = ks.map Sum.inl := rel.keys.symm.trans hks
  have hl : vs.length = ks.length := by
    have e := congrArg List.length hkeys
    rw [List.length_map, List.length_map] at e
    exact e
  have h16 : vs.length ≤ sizeLine := by rw [hl, sizeLine_eq]; omega
  show wpAny (model X.prog X.w) X.A (call (.builtin "sorted") [.ref a] [(Str.ofString "reverse", .bool b)]) _ _ _
  refine call_function_entry_kw PyProof.Rows.kind_sorted PyProof.Rows.plain_sorted PyProof.Rows.entry_sorted (PyProof.Rows.args_sorted_rev _ _) ?_
  unfold Builtin.«sorted»
  refine wpAny_bind (m := checkCount "sorted" 1 1 _) (wpAny_pure ?_)
  refine wpAny_bind (PySem.W.kdu_collect (A := X.A.in1) (PySem.W.kdl_dict (knd := mixKind X.prog X.w) (kvs := vs) (ep := ep) lo) (I.ok.hd hcalm) hat h16 fun h' tk acc hk hacc => ?_)
  have hal : acc.toList.length = ks.length := by rw [Array.length_toList, hacc.1, hl]
  have hS : IntsAre acc.toList ks := ints_each hal fun j v e => by
    obtain ⟨k, x, e1, e2⟩ := hacc.2 j v (by rw [← Array.getElem?_toList]; exact e)
    have e3 : (vs.map (·.1))[j]? = some k := by rw [List.getElem?_map, e1]; rfl
    rw [hkeys, List.getElem?_map] at e3
    cases e4 : ks[j]? with
    | none => rw [e4] at e3; cases e3
    | some y =>
      rw [e4] at e3
      have e5 : Sum.inl y = k := Option.some.inj e3
      subst e5
      rcases keyIs_shape (show keyIs (Sum.inl y) v = true from e2) with ⟨i, t, ek, ev⟩ | ⟨z, t, ek, ev⟩
      · cases ek
        exact ⟨y, t, rfl, ev⟩
      · cases ek
  have I1 : Inv X pins σ H { s with heap := h', toks := tk } := I.kept hk
  have hsl : acc.toList.length ≤ sizeLine := by rw [hal, sizeLine_eq]; omega
  refine wpAny_bind (wpAny_newList ?_ hsl)
  have hoL : (h'.push (seqObj "list" acc.toList.toArray 0)).get? h'.objs.size = some (seqObj "list" acc.toList.toArray 0) := Heap.get?_push_size _ rfl
  show wpAny _ _ _ _ _ { s with heap := h'.push (seqObj "list" acc.toList.toArray 0), toks := tk }
  refine wpAny_bind (wpAny_holding (wpAny_call_entry_kw PyProof.Rows.slot_list_sort ⟨_, hoL, rfl⟩ PyProof.Rows.entry_list_sort ?_ (PyProof.Rows.args_list_sort_rev _ _)))
  refine SrtR.list_sort_ordR (s := { s with heap := h'.push (seqObj "list" acc.toList.toArray 0), toks := tk }) SrtO.swo_int hoL hsl (fun h2 => SrtO.ints_sortable hS h2) fun out h1 h2 => ⟨_, rfl, ?_⟩
  obtain ⟨ns', k1, k2, k3⟩ := SrtR.ints_outR hS h1 h2
  obtain ⟨e', he'⟩ := PyProof.Rows.sortedHeap_at (vs := acc.toList) (out := (if b = true then out.toArray.reverse else out.toArray)) hoL
  have hlen : (ns'.map V.int).length ≤ sizeLine := by
    rw [List.length_map, k2.length_eq]
    exact Nat.le_trans (Nat.le_of_lt h64) (by decide)
  refine wpAny_pure ⟨_, rfl, .ref h'.objs.size, upd H h'.objs.size (.lst (ns'.map V.int)), I1.laid (t' := tk) (fun b' u e => ?_) (Nat.le_refl _)
    (show ObjOk X.prog X.w _ _ _ (.lst (ns'.map V.int)) from ⟨hlen, (if b = true then out.toArray.reverse else out.toArray).toList, e', vals_of_ints k1, by rw [Array.toArray_toList]; exact he'⟩), rfl, q ns' _ k2 k3 (I1.hok.fresh (Nat.le_refl _))⟩
  have hb : b' < h'.objs.size := Heap.lt_size e
  rw [PyProof.Rows.sortedHeap_old (Nat.ne_of_lt hb) (by rw [size_push']; exact Nat.lt_succ_of_lt hb)]
  exact Heap.get?_push_of_some _ e
end DL
namespace DL
open PySem PySem.Spec PyProof.Rows L2
variable {ι : Type} {G : ι → Cx} {K : PySem.W.Frag} {mg : Str → Option Value} {base : Heap} {P : Program} {w : World} {N : List Str} {sc : Scope} {k : Nat}
variable {fr : Bool} {ow ow' owl : List Nat}
variable {a b c e : Expr} {da db dc de : Env' → Option T} {pos : Pos} {x : Str} {p : Pos} {es : List Expr} {dr : Env' → Option (List T)}

/-! ### sorted(.., reverse=True) -/
def gSortedR : List T → Option T
  | [.dic kts] => (keysI kts).bind fun ns => if ns.length < 64 then some (.lst ((sortI ns).reverse.map T.int)) else none
  | [.lst ts] => (intsOf ts).map fun ns => .lst ((sortI ns).reverse.map T.int)
  | _ => none
theorem evf_sortedR (hG : Fm G K mg base P w N sc k) {kp : Pos} {j : Nat} {kpos : Pos} (hm : mg "sorted" = none) (ha : EV G K e de) (hg : glB sc "sorted" = true := by rfl)
    (he : ∀ i, backTo pos (starEach [e] (G i).env) = (false, eval e (G i).env) :: backTo pos (starEach [] (G i).env) := by intro _; rfl) (hpl : ∀ i, (backTo pos (starEach [e] (G i).env)).any (·.1) = false := by intro _; rfl)
    (hs1 : ∀ i, starEach [e] (G i).env = (false, eval e (G i).env) :: starEach [] (G i).env := by intro _; rfl)
    (hall : ∀ i, (backToKw pos (keywordEach [⟨some "reverse", .Constant (.bool true) j kp, kpos⟩] (G i).env)).all (·.1.isSome) = true := by intro _; rfl) (hnone : ∀ i, (backToKw pos (keywordEach [⟨some "reverse", .Constant (.bool true) j kp, kpos⟩] (G i).env)).any (·.1.isNone) = false := by intro _; rfl) (hks : ∀ i, (backToKw pos (keywordEach [⟨some "reverse", .Constant (.bool true) j kp, kpos⟩] (G i).env)).filterMap (·.1) = [Str.ofString "reverse"] := by intro _; rfl) :
    EVF G K (.Call (.Name "sorted" p) [e] [⟨some "reverse", .Constant (.bool true) j kp, kpos⟩] pos) (fun ρ => (de ρ).bind fun t => gSortedR [t]) := by
  intro ρ σ H τ Q hE hd hq
  dsimp only at hd
  cases e1 : de ρ with
  | none => rw [e1] at hd; cases hd
  | some t =>
    rw [e1] at hd
    dsimp only [Option.bind] at hd
    unfold gSortedR at hd
    split at hd
    · rename_i kts heq
      cases heq
      cases e2 : keysI kts with
      | none => rw [e2] at hd; cases hd
      | some ns =>
        rw [e2] at hd
        dsimp only [Option.bind] at hd
        split at hd
        · rename_i h64
          cases hd
          refine ⟨_, fun i => pe_callBK (call_sortedDR (hG.calm i) (b := true)) (gl_of hG hg i) (by rw [hG.mg i]; exact hm) (by decide +kernel) (pa_cons (pe_ts i) pa_nil (hs1 i)) (pk_cons pe_bl pk_nil) (by decide) (by decide) (he i) (hpl i) (hall i) (hnone i) (hks i), ?_⟩
          refine ha ρ σ H _ _ hE e1 fun v H1 s1 r1 => ?_
          obtain ⟨q, kvs, rfl, hrd, rr⟩ := rep_dic.mp r1
          refine ⟨q, kvs, ns, rfl, rfl, hrd, keysI_rep e2 rr, h64, fun ys p' h1 h2 np => ?_⟩
          rw [sortR_eq h1 h2]
          exact hq p' _ _ (s1.trans (same_upd' np)) (s1.free np) upd_same (.inl ⟨_, _, rfl, rfl, reps_ints _⟩)
        · cases hd
    · rename_i l heq
      cases heq
      cases e2 : intsOf l with
      | none => rw [e2] at hd; cases hd
      | some ns =>
        rw [e2] at hd
        cases hd
        refine ⟨tCKw (rSortedKw K true [.bl true]) (tCons (ES G e) tNil) (tCons (tC (.bl true)) tNil), fun i => by
          rw [← hG.K i]
          exact pe_callBK (cr_sortedRev (b := true)) (gl_of hG hg i) (by rw [hG.mg i]; exact hm) (by decide +kernel) (pa_cons (pe_ts i) pa_nil (hs1 i)) (pk_cons pe_bl pk_nil) (by decide) (by decide) (he i) (hpl i) (hall i) (hnone i) (hks i), ?_⟩
        refine ha ρ σ H _ _ hE e1 fun v H1 s1 r1 => ?_
        obtain ⟨q, vs, rfl, hl, rr⟩ := rep_lst.mp r1
        have := intsOf_rep e2 rr
        subst this
        refine ⟨q, ns, rfl, rfl, .inl (.inl hl), fun ys p' h1 h2 np => ?_⟩
        rw [sortR_eq h1 h2]
        exact hq p' _ _ (s1.trans (same_upd' np)) (s1.free np) upd_same (.inl ⟨_, _, rfl, rfl, reps_ints _⟩)
    · cases hd

/-! ### isinstance, type -/
def tyN : T → Option String
  | .non => some "NoneType" | .bl _ => some "bool" | .int _ => some "int" | .str _ => some "str"
  | .lst _ => some "list" | .tup _ => some "tuple" | .dic _ => some "dict" | .scr _ => some "list" | .raw _ => none | .clo _ => none
theorem tyX_rep {H : Hp} {t : T} {n : String} {v : V} (e : tyN t = some n) (r : Rep K H t v) : TyX K H v (.type n) := by
  cases t with
  | non => cases e; cases rep_non.mp r; exact .base .non
  | bl b => cases e; cases rep_bl.mp r; exact .base (.bl b)
  | int i => cases e; cases rep_int.mp r; exact .base (.int i)
  | str x => cases e; cases rep_str.mp r; exact .base (.str x)
  | raw v => cases e
  | clo S => cases e
  | lst ts =>
    cases e
    obtain ⟨a, vs, rfl, q, _⟩ := rep_lst.mp r
    exact .base (.lst q)
  | scr ts =>
    cases e
    obtain ⟨a, vs, rfl, q, _⟩ := rep_scr.mp r
    rcases q with (q | ⟨o, q⟩) | ⟨o, its, n, hk, hc, _⟩
    · exact .base (.lst q)
    · exact .base (.frz q)
    · exact .kList hk hc
  | tup ts =>
    cases e
    obtain ⟨a, vs, rfl, q, _⟩ := rep_tup.mp r
    rcases q with (q | ⟨o, q⟩) | ⟨o, its, n, hk, hc, _⟩
    · exact .base (.tup q)
    · exact .fTuple q
    · exact .kTuple hk hc
  | dic ts =>
    cases e
    obtain ⟨a, vs, rfl, q, _⟩ := rep_dic.mp r
    rcases q with q | ⟨o, q⟩
    · exact .base (.dK q)
    · exact .fDict q
/-- what isinstance says of built-in types -/
def isiB (n m : String) : Option Bool := kitB n m
def gIsi : List T → Option T
  | [t, .raw (.ty m)] => (tyN t).bind fun n => (kitB n m).map T.bl
  | _ => none
theorem c_isi (hK : ∀ i, (G i).K = K) : ClS G K (.builtin "isinstance") gIsi := by
  intro H ts vs τ Q e r hq
  unfold gIsi at e
  split at e
  · rename_i t m
    cases e1 : tyN t with
    | none => rw [e1] at e; cases e
    | some n =>
      rw [e1] at e
      dsimp only [Option.bind] at e
      cases e2 : kitB n m with
      | none => rw [e2] at e; cases e
      | some bb =>
        rw [e2] at e
        cases e
        obtain ⟨v, z, rfl, r1, r2⟩ := reps2 r
        cases rep_raw.mp r2
        exact ⟨rIsi K, fun i => by rw [← hK i]; exact call_isi, v, _, _, _, bb, rfl, .ty m, tyX_rep e1 r1, kit_ty e2, hq _ H (Same.refl H) (rep_bl.mpr rfl)⟩
  · cases e
theorem call_typeOfX {X : Cx} : CallR X (.type "type") (fun xs H Q => ∃ (v : V) (n : String), xs = [v] ∧ TyX X.K H v (.type n) ∧ (∀ (u : Value) (s : Shared), TyX X.K H v (.type n) → True) ∧ n ∈ tys ∧ (∀ (pins : List (Addr × Obj)) (s : Shared) (σ : St) (u : Value), Inv X pins σ H s → RelV v u → s.TypeIs u n) ∧ Q (.ty n) H) := by
  intro pins s σ H xs us Q I r h
  obtain ⟨v, n, rfl, _, _, hn, ht, q⟩ := h
  obtain ⟨u, rfl, rx⟩ := vals1 r
  refine call_type_of (ht pins s σ u I rx) ?_ ⟨.ty n, H, I, rfl, q⟩
  simp only [tys, List.mem_cons, List.not_mem_nil, or_false] at hn
  rcases hn with rfl | rfl | rfl | rfl | rfl | rfl | rfl <;> decide +kernel
theorem tyIs_rep (hK : ∀ i, (G i).K = K) {H : Hp} {t : T} {n : String} {v : V} (e : tyN t = some n) (r : Rep K H t v) (i : ι) {pins : List (Addr × Obj)} {s : Shared} {σ : St} {u : Value} (I : Inv (G i) pins σ H s) (rv : RelV v u) : s.TypeIs u n := by
  cases t with
  | non => cases e; cases rep_non.mp r; cases rv; rfl
  | bl b => cases e; cases rep_bl.mp r; cases rv; rfl
  | int j => cases e; cases rep_int.mp r; obtain ⟨t, rfl⟩ := rv; rfl
  | str x => cases e; cases rep_str.mp r; obtain ⟨t, rfl⟩ := rv; rfl
  | raw v => cases e
  | clo S => cases e
  | lst ts =>
    cases e
    obtain ⟨a, vs, rfl, q, _⟩ := rep_lst.mp r
    cases rv
    obtain ⟨its, rv, p, _⟩ := I.list (.inl (.inl q))
    exact p.isList.typeIs
  | scr ts =>
    cases e
    obtain ⟨a, vs, rfl, q, _⟩ := rep_scr.mp r
    cases rv
    rw [← hK i] at q
    obtain ⟨its, rv, p, _⟩ := I.list q
    exact p.isList.typeIs
  | tup ts =>
    cases e
    obtain ⟨a, vs, rfl, q, _⟩ := rep_tup.mp r
    cases rv
    rw [← hK i] at q
    obtain ⟨its, rv, p, _⟩ := I.tuple q
    exact p.typeIs
  | dic ts =>
    cases e
    obtain ⟨a, vs, rfl, q, _⟩ := rep_dic.mp r
    cases rv
    obtain ⟨_, _, _, _, dd⟩ := dk_rd I.hok q
    exact dd.typeIs
theorem tyN_tys {t : T} {n : String} (e : tyN t = some n) : n ∈ tys := by
  cases t <;> cases e <;> decide
def gType : List T → Option T
  | [t] => (tyN t).map fun n => .raw (.ty n)
  | _ => none
theorem c_type (hK : ∀ i, (G i).K = K) : ClS G K (.type "type") gType := by
  intro H ts vs τ Q e r hq
  unfold gType at e
  split at e
  · rename_i t
    cases e1 : tyN t with
    | none => rw [e1] at e; cases e
    | some n =>
      rw [e1] at e
      cases e
      obtain ⟨v, rfl, r1⟩ := reps1 r
      refine ⟨fun xs H' Q => xs = [v] ∧ H' = H ∧ Q (.ty n) H', fun i => ?_, rfl, rfl, hq _ H (Same.refl H) (rep_raw.mpr rfl)⟩
      rintro pins s σ H' xs us Q I rv ⟨rfl, rfl, q⟩
      obtain ⟨u, rfl, rx⟩ := vals1 rv
      refine call_type_of (tyIs_rep hK e1 r1 i I rx) ?_ ⟨.ty n, H', I, rfl, q⟩
      have hn := tyN_tys e1
      simp only [tys, List.mem_cons, List.not_mem_nil, or_false] at hn
      rcases hn with rfl | rfl | rfl | rfl | rfl | rfl | rfl <;> decide +kernel
  · cases e

/-! ### dicts -/
def putT : List (Key × T) → Key → T → List (Key × T)
  | [], ky, t => [(ky, t)]
  | (k', t') :: r, ky, t => if k' = ky then (ky, t) :: r else (k', t') :: putT r ky t
def mergeT (kts more : List (Key × T)) : List (Key × T) := more.foldl (fun acc kv => putT acc kv.1 kv.2) kts
/-- {} -/
theorem evf_dict0 : EVF G K (.Dict [] [] pos) (fun _ => some (.dic [])) := by
  intro ρ σ H τ Q hE hd hq
  cases hd
  refine ⟨_, fun i => pe_dnewK, fun p np => hq p _ _ (same_upd' np) np upd_same (.inr ⟨[], [], rfl, rfl, by unfold RepsK; rfl⟩)⟩
/-- dict(d) -/
theorem call_dictD {X : Cx} : CallR X (.type "dict") (fun xs H Q => ∃ a kvs, xs = [V.ref a] ∧ Rd H a (.dK kvs) ∧ ∀ p, H p = none → Q (.ref p) (upd H p (.dK kvs))) := by
  intro pins s σ H xs us Q I r h
  obtain ⟨a, kvs, rfl, ha, q⟩ := h
  obtain ⟨u, rfl, ru⟩ := vals1 r
  cases ru
  exact d_copyOf I ha fun p s' np I' => ⟨.ref p, _, I', rfl, q p np⟩
def pairsT : List T → Option (List (Key × T))
  | [] => some []
  | .tup [ky, t] :: r => match keyOf ky, pairsT r with
    | some y, some ys => some ((y, t) :: ys)
    | _, _ => none
  | _ => none
def gDict : List T → Option T
  | [.dic kts] => some (.dic kts)
  | [.lst ts] => (pairsT ts).map fun ps => .dic (mergeT [] ps)
  | _ => none
theorem putT_rep {H : Hp} {ky : Key} {t : T} {v : V} (rv : Rep K H t v) : ∀ {kts : List (Key × T)} {kvs : List (Key × V)}, RepsK K H kts kvs → (kts.map (·.1)).Nodup → RepsK K H (putT kts ky t) (putK kvs ky v) := by
  intro kts
  induction kts with
  | nil =>
    intro kvs h _
    unfold RepsK at h
    subst h
    show RepsK K H [(ky, t)] (putK [] ky v)
    have : putK ([] : List (Key × V)) ky v = [(ky, v)] := by simp [putK]
    rw [this]
    unfold RepsK
    exact ⟨v, [], rfl, rv, by unfold RepsK; rfl⟩
  | cons q r ih =>
    intro kvs h hn
    obtain ⟨k', t'⟩ := q
    unfold RepsK at h
    obtain ⟨v', kr, rfl, h1, h2⟩ := h
    rw [List.map_cons, List.nodup_cons] at hn
    have keys : ∀ {kts : List (Key × T)} {kvs : List (Key × V)}, RepsK K H kts kvs → kts.map (·.1) = kvs.map (·.1) := by
      intro kts
      induction kts with
      | nil => intro kvs h; unfold RepsK at h; subst h; rfl
      | cons q r ih =>
        intro kvs h
        obtain ⟨k2, t2⟩ := q
        unfold RepsK at h
        obtain ⟨v2, kr2, rfl, _, h4⟩ := h
        rw [List.map_cons, List.map_cons, ih h4]
    unfold putT
    by_cases e : k' = ky
    · subst e
      rw [if_pos rfl]
      have hno : ∀ kv ∈ kr, ¬ kv.1 = k' := by
        intro kv hkv e
        apply hn.1
        rw [keys h2, ← e]
        exact List.mem_map_of_mem hkv
      have : putK ((k', v') :: kr) k' v = (k', v) :: kr := by
        unfold putK
        simp only [List.any_cons, decide_true, Bool.true_or, if_true, List.map_cons]
        congr 1
        rw [List.map_congr_left (g := fun kv => kv)]
        · simp
        · intro kv hkv
          rw [if_neg (hno kv hkv)]
      rw [this]
      unfold RepsK
      exact ⟨v, kr, rfl, rv, h2⟩
    · rw [if_neg e]
      have : putK ((k', v') :: kr) ky v = (k', v') :: putK kr ky v := by
        unfold putK
        simp only [List.any_cons, e, decide_false, Bool.false_or, List.map_cons, if_false]
        split <;> rfl
      rw [this]
      unfold RepsK
      exact ⟨v', _, rfl, h1, ih h2 hn.2⟩
theorem putT_keys {ky : Key} {t : T} : ∀ {kts : List (Key × T)}, (kts.map (·.1)).Nodup → ((putT kts ky t).map (·.1)).Nodup ∧ ∀ z, z ∈ (putT kts ky t).map (·.1) → z = ky ∨ z ∈ kts.map (·.1)
  | [], _ => by simp [putT]
  | (k', t') :: r, h => by
    rw [List.map_cons, List.nodup_cons] at h
    unfold putT
    by_cases e : k' = ky
    · subst e
      rw [if_pos rfl]
      refine ⟨?_, fun z hz => ?_⟩
      · rw [List.map_cons, List.nodup_cons]; exact h
      · rw [List.map_cons, List.mem_cons] at hz ⊢
        exact .inr hz
    · rw [if_neg e]
      obtain ⟨i1, i2⟩ := putT_keys (ky := ky) (t := t) h.2
      refine ⟨?_, fun z hz => ?_⟩
      · rw [List.map_cons, List.nodup_cons]
        refine ⟨fun m => ?_, i1⟩
        rcases i2 _ m with q | q
        · exact e q
        · exact h.1 q
      · rw [List.map_cons, List.mem_cons] at hz ⊢
        rcases hz with hz | hz
        · exact .inr (.inl hz)
        · rcases i2 z hz with q | q
          · exact .inl q
          · exact .inr (.inr q)
theorem mergeT_rep {H : Hp} : ∀ {more : List (Key × T)} {mvs : List (Key × V)} {kts : List (Key × T)} {kvs : List (Key × V)}, RepsK K H more mvs → RepsK K H kts kvs → (kts.map (·.1)).Nodup → RepsK K H (mergeT kts more) (mergeK kvs mvs)
  | [], mvs, kts, kvs, hm, h, _ => by
    unfold RepsK at hm
    subst hm
    exact h
  | (ky, t) :: r, mvs, kts, kvs, hm, h, hn => by
    unfold RepsK at hm
    obtain ⟨v, mr, rfl, h1, h2⟩ := hm
    show RepsK K H (mergeT (putT kts ky t) r) (mergeK (putK kvs ky v) mr)
    exact mergeT_rep h2 (putT_rep h1 h hn) (putT_keys hn).1
theorem pairs_rep {H : Hp} : ∀ {ts : List T} {ps : List (Key × T)} {vs : List V}, pairsT ts = some ps → Reps K H ts vs → ∃ (as : List Addr) (kvs : List (Key × V)), vs = as.map V.ref ∧ Paired (fun p kv => SqT K H p [kV kv.1, kv.2]) as kvs ∧ RepsK K H ps kvs
  | [], ps, vs, e, h => by
    cases e
    unfold Reps at h
    subst h
    exact ⟨[], [], rfl, .nil, by unfold RepsK; rfl⟩
  | t :: ts, ps, vs, e, h => by
    unfold pairsT at e
    split at e
    · rename_i q; cases q
    · rename_i ky t' r q
      cases q
      split at e
      · rename_i y ys e1 e2
        cases e
        unfold Reps at h
        obtain ⟨v, vr, rfl, h1, h2⟩ := h
        obtain ⟨as, kvs, rfl, hp, hk⟩ := pairs_rep e2 h2
        obtain ⟨a, us, rfl, hq, hu⟩ := rep_tup.mp h1
        obtain ⟨u1, u2, rfl, r1, r2⟩ := reps2 hu
        have := keyOf_rep e1 r1
        subst this
        refine ⟨a :: as, (y, u2) :: kvs, rfl, .cons hq hp, ?_⟩
        unfold RepsK
        exact ⟨u2, kvs, rfl, r2, hk⟩
      · cases e
    · cases e
theorem c_dict (hG : Fm G K mg base P w N sc k) : ClF G K (.type "dict") gDict := by
  intro H ts vs τ Q e r hq
  unfold gDict at e
  split at e
  · rename_i kts
    cases e
    obtain ⟨v, rfl, rv⟩ := reps1 r
    obtain ⟨a, kvs, rfl, q, rr⟩ := rep_dic.mp rv
    exact ⟨_, fun i => call_dictD, a, kvs, rfl, q, fun p np => hq p _ _ (same_upd' np) np upd_same (.inr ⟨_, _, rfl, rfl, rr.same (same_upd' np)⟩)⟩
  · rename_i l
    cases e1 : pairsT l with
    | none => rw [e1] at e; cases e
    | some ps =>
      rw [e1] at e
      cases e
      obtain ⟨v, rfl, rv⟩ := reps1 r
      obtain ⟨a, vs, rfl, q, rr⟩ := rep_lst.mp rv
      obtain ⟨as, kvs, rfl, hp, hk⟩ := pairs_rep e1 rr
      refine ⟨fun xs H Q => ∃ (a : Addr) (ps : List Addr) (kvs : List (Key × V)), xs = [.ref a] ∧ SqL K H a (ps.map V.ref) ∧ Paired (fun p kv => SqT K H p [kV kv.1, kv.2]) ps kvs ∧
        ∀ p, H p = none → Q (.ref p) (upd H p (.dK (mergeK [] kvs))), fun i => by rw [← hG.K i]; exact call_dictP (hG.calm i), a, as, kvs, rfl, .inl (.inl q), hp, fun p np => ?_⟩
      refine hq p _ _ (same_upd' np) np upd_same (.inr ⟨_, _, rfl, rfl, ?_⟩)
      exact (mergeT_rep (hk.same (same_upd' np)) (by unfold RepsK; rfl) .nil)
  · cases e
/-- d.get(k, z) -/
def gGet (x y z : Option T) : Option T := match x, y, z with
  | some (.dic kts), some y, some z => (keyOf y).map fun ky => (lookT kts ky).getD z
  | _, _, _ => none
theorem ev_get (hG : Fm G K mg base P w N sc k) {apos cpos : Pos} (ha : EV G K a da) (hb : EV G K b db) (hc : EV G K c dc) (m : ∀ i, M2 (G i) a "get" apos b c cpos := by intro _; exact ⟨rfl, rfl, rfl, rfl⟩) :
    EV G K (.Call (.Attribute a "get" apos) [b, c] [] cpos) (fun ρ => gGet (da ρ) (db ρ) (dc ρ)) := by
  intro ρ σ H τ Q hE hd hq
  dsimp only at hd
  unfold gGet at hd
  split at hd
  · rename_i kts y z e1 e2 e3
    cases e4 : keyOf y with
    | none => rw [e4] at hd; cases hd
    | some ky =>
      rw [e4] at hd
      cases hd
      refine ⟨tDGet2 (ES G a) (ES G b) (ES G c), fun i => pe_dget2 (hG.hu i) (pe_ts i) (pe_ts i) (pe_ts i) (m i), ?_⟩
      refine ha ρ σ H _ _ hE e1 fun v H1 s1 r1 => ?_
      obtain ⟨q, kvs, rfl, hrd, rr⟩ := rep_dic.mp r1
      refine ⟨q, rfl, .inl ⟨kvs, hrd⟩, hb ρ σ H1 _ _ (hE.same s1) e2 fun u H2 s2 r2 => hc ρ σ H2 _ _ (hE.same (s1.trans s2)) e3 fun z' H3 s3 r3 => ?_⟩
      have rr3 := rr.same (s2.trans s3)
      refine ⟨valV kvs ky, .inl ⟨kvs, ky, same_rd (s2.trans s3) hrd, keyOf_rep e4 r2, rfl⟩, ?_⟩
      cases e5 : lookT kts ky with
      | none =>
        rw [(look_val rr3).2 e5]
        refine hq _ _ ((s1.trans s2).trans s3) ?_
        dsimp only
        rw [e5]
        exact r3
      | some t =>
        obtain ⟨v, ev, rv⟩ := (look_val rr3).1 t e5
        rw [ev]
        refine hq _ _ ((s1.trans s2).trans s3) ?_
        dsimp only
        rw [e5]
        exact rv
  · cases hd
/-- k in d, k not in d -/
def gInD (neg : Bool) (x y : T) : Option T := match y with
  | .dic kts => (keyOf x).map fun ky => .bl (xor neg (lookT kts ky).isSome)
  | _ => none
theorem look_isSome {H : Hp} {ky : Key} {kts : List (Key × T)} {kvs : List (Key × V)} (h : RepsK K H kts kvs) : (valV kvs ky).isSome = (lookT kts ky).isSome := by
  cases e : lookT kts ky with
  | none => rw [(look_val h).2 e]; rfl
  | some t =>
    obtain ⟨v, ev, _⟩ := (look_val h).1 t e
    rw [ev]; rfl
theorem bv_inD (hG : Fm G K mg base P w N sc k) (ha : EV G K a da) (hb : EV G K b db) (hm : behindInMarks .In b = false := by rfl) : BV G K (.Compare a [.In] [b] pos) (fun ρ => asB (b2 (gInD false) (da ρ) (db ρ))) := by
  intro ρ σ H cc Q he hd hq
  obtain ⟨x, y, ea, eb, eg⟩ := b2_some (asB_some hd)
  unfold gInD at eg
  split at eg
  · rename_i kts
    cases e4 : keyOf x with
    | none => rw [e4] at eg; cases eg
    | some ky =>
      rw [e4] at eg
      cases eg
      refine ⟨tB (tDIn (ES G a) (ES G b)), fun i => pt_cmp (pc_din (hG.hu i) (pe_ts i) (pe_ts i)) hm, ?_⟩
      refine ha ρ σ H _ _ he ea fun v H1 s1 r1 => hb ρ σ H1 _ _ (he.same s1) eb fun u H2 s2 r2 => ?_
      obtain ⟨q, kvs, rfl, hrd, rr⟩ := rep_dic.mp r2
      refine ⟨q, valV kvs ky, rfl, .inl ⟨kvs, ky, hrd, keyOf_rep e4 r1, rfl⟩, _, rfl, ?_⟩
      rw [look_isSome rr]
      have := hq H2 (s1.trans s2)
      simpa using this
  · cases eg
theorem bv_notInD (hG : Fm G K mg base P w N sc k) (ha : EV G K a da) (hb : EV G K b db) (hm : behindInMarks .NotIn b = false := by rfl) : BV G K (.Compare a [.NotIn] [b] pos) (fun ρ => asB (b2 (gInD true) (da ρ) (db ρ))) := by
  intro ρ σ H cc Q he hd hq
  obtain ⟨x, y, ea, eb, eg⟩ := b2_some (asB_some hd)
  unfold gInD at eg
  split at eg
  · rename_i kts
    cases e4 : keyOf x with
    | none => rw [e4] at eg; cases eg
    | some ky =>
      rw [e4] at eg
      cases eg
      refine ⟨tB (tDNotIn (ES G a) (ES G b)), fun i => pt_cmp (pc_dnotin (hG.hu i) (pe_ts i) (pe_ts i)) hm, ?_⟩
      refine ha ρ σ H _ _ he ea fun v H1 s1 r1 => hb ρ σ H1 _ _ (he.same s1) eb fun u H2 s2 r2 => ?_
      obtain ⟨q, kvs, rfl, hrd, rr⟩ := rep_dic.mp r2
      refine ⟨q, valV kvs ky, rfl, .inl ⟨kvs, ky, hrd, keyOf_rep e4 r1, rfl⟩, _, rfl, ?_⟩
      rw [look_isSome rr]
      have := hq H2 (s1.trans s2)
      simpa using this
  · cases eg

/-! ### x in xs, flat things; one sign in a text -/
def flatT : T → Bool
  | .non => true | .bl _ => true | .int _ => true | .str _ => true
  | _ => false
def vOf : T → V
  | .bl b => .bl b | .int i => .int i | .str x => .str x | _ => .non
theorem flat_rep {H : Hp} {t : T} {v : V} (e : flatT t = true) (r : Rep K H t v) : v = vOf t := by
  cases t with
  | non => exact rep_non.mp r
  | bl b => exact rep_bl.mp r
  | int b => exact rep_int.mp r
  | str b => exact rep_str.mp r
  | _ => simp [flatT] at e
theorem flat_reps {H : Hp} : ∀ {ts : List T} {vs : List V}, ts.all flatT = true → Reps K H ts vs → vs = ts.map vOf
  | [], vs, _, h => by unfold Reps at h; exact h
  | t :: ts, vs, e, h => by
    unfold Reps at h
    obtain ⟨v, r, rfl, h1, h2⟩ := h
    rw [List.all_cons, Bool.and_eq_true] at e
    rw [flat_rep e.1 h1, flat_reps e.2 h2]
    rfl
theorem flat_V (t : T) : flatV (vOf t) = true := by cases t <;> rfl
theorem flat_Vs (ts : List T) : (ts.map vOf).all flatV = true := by
  rw [List.all_map, List.all_eq_true]
  exact fun t _ => flat_V t
def seqT : T → Option (List T)
  | .lst ts => some ts | .tup ts => some ts | .scr ts => some ts | _ => none
def sign1 (x : Str) : Option Nat := match x.cps.toList with
  | [c] => some c
  | _ => none
theorem sign1_ok {x : Str} {c : Nat} (h : sign1 x = some c) : x = ⟨#[c]⟩ := by
  unfold sign1 at h
  split at h
  · rename_i c' e
    cases h
    obtain ⟨l⟩ := x
    congr 1
    rw [← Array.toArray_toList (xs := l), e]
  · cases h
def signOf : T → Option Nat
  | .str x => sign1 x
  | _ => none
theorem signOf_rep {H : Hp} {t : T} {v : V} {c : Nat} (e : signOf t = some c) (r : Rep K H t v) : v = .str ⟨#[c]⟩ := by
  cases t with
  | str x => rw [rep_str.mp r, sign1_ok e]
  | _ => cases e
def gIn (neg : Bool) (x y : T) : Option T := match y with
  | .str z => (signOf x).map fun ch => .bl (xor neg (decide (ch ∈ z.cps.toList)))
  | _ => match seqT y with
    | some ts => if flatT x = true ∧ ts.all flatT = true then some (.bl (xor neg (inV (vOf x) (ts.map vOf)))) else none
    | none => none
theorem in_seq {H : Hp} {x y : T} {ts : List T} {v u : V} (e : seqT y = some ts) (hx : flatT x = true) (hts : ts.all flatT = true) (rx : Rep K H x v) (ry : Rep K H y u) : v = vOf x ∧ ∃ q, u = .ref q ∧ (SqL K H q (ts.map vOf) ∨ SqT K H q (ts.map vOf)) := by
  refine ⟨flat_rep hx rx, ?_⟩
  cases y with
  | lst l =>
    cases e
    obtain ⟨q, vs, rfl, h, r⟩ := rep_lst.mp ry
    have := flat_reps hts r
    subst this
    exact ⟨q, rfl, .inl (.inl (.inl h))⟩
  | tup l =>
    cases e
    obtain ⟨q, vs, rfl, h, r⟩ := rep_tup.mp ry
    have := flat_reps hts r
    subst this
    exact ⟨q, rfl, .inr h⟩
  | scr l =>
    cases e
    obtain ⟨q, vs, rfl, h, r⟩ := rep_scr.mp ry
    have := flat_reps hts r
    subst this
    exact ⟨q, rfl, .inl h⟩
  | _ => cases e
theorem s_in (hK : ∀ i, (G i).K = K) : OpS G K (compareOp .In) (gIn false) := by
  intro H x y v u τ Q e rx ry hq
  unfold gIn at e
  split at e
  · cases e1 : signOf x with
    | none => rw [e1] at e; cases e
    | some ch =>
      rw [e1] at e
      cases e
      exact ⟨_, fun i => op_in_sign, _, _, signOf_rep e1 rx, rep_str.mp ry, hq _ H (Same.refl H) (rep_bl.mpr (by simp))⟩
  · split at e
    · rename_i ts e1
      split at e
      · rename_i cc
        cases e
        obtain ⟨rfl, q, rfl, h⟩ := in_seq e1 cc.1 cc.2 rx ry
        exact ⟨rIn K false, fun i => by rw [← hK i]; exact op_in_seq, q, ts.map vOf, rfl, h, flat_V x, flat_Vs ts, hq _ H (Same.refl H) (rep_bl.mpr (by simp))⟩
      · cases e
    · cases e
theorem s_notin (hK : ∀ i, (G i).K = K) : OpS G K (compareOp .NotIn) (gIn true) := by
  intro H x y v u τ Q e rx ry hq
  unfold gIn at e
  split at e
  · cases e1 : signOf x with
    | none => rw [e1] at e; cases e
    | some ch =>
      rw [e1] at e
      cases e
      exact ⟨_, fun i => op_notIn_sign, _, _, signOf_rep e1 rx, rep_str.mp ry, hq _ H (Same.refl H) (rep_bl.mpr (by simp))⟩
  · split at e
    · rename_i ts e1
      split at e
      · rename_i cc
        cases e
        obtain ⟨rfl, q, rfl, h⟩ := in_seq e1 cc.1 cc.2 rx ry
        exact ⟨rIn K true, fun i => by rw [← hK i]; exact op_notIn_seq, q, ts.map vOf, rfl, h, flat_V x, flat_Vs ts, hq _ H (Same.refl H) (rep_bl.mpr (by simp))⟩
      · cases e
    · cases e

/-! ### sep.join(xs) -/
def strsOf : List T → Option (List Str)
  | [] => some []
  | .str b :: ts => (strsOf ts).map (b :: ·)
  | _ => none
theorem strsOf_rep {H : Hp} : ∀ {ts : List T} {vs : List V} {bs : List Str}, strsOf ts = some bs → Reps K H ts vs → vs = bs.map V.str
  | [], vs, bs, e, h => by
    cases e
    unfold Reps at h
    subst h; rfl
  | t :: ts, vs, bs, e, h => by
    unfold strsOf at e
    split at e
    · cases e; rename_i q; cases q
    · rename_i b ts' q
      cases q
      cases e2 : strsOf ts with
      | none => rw [e2] at e; cases e
      | some bs' =>
        rw [e2] at e
        cases e
        unfold Reps at h
        obtain ⟨v, r, rfl, h1, h2⟩ := h
        rw [rep_str.mp h1, strsOf_rep e2 h2]
        rfl
    · cases e
def gJoin (x y : T) : Option T := match x, y with
  | .str z, .lst ts => (strsOf ts).bind fun ys => if (ys.map (·.length)).sum + ys.length * z.length ≤ 16777216 then some (.str (Txt.join z ys)) else none
  | _, _ => none
theorem ev_join (hG : Fm G K mg base P w N sc k) {apos cpos : Pos} (ha : EV G K a da) (hb : EV G K b db) (hs : ∀ i, starEach [b] (G i).env = [(false, eval b (G i).env)] := by intro _; rfl) (hbase : ∀ i, attributeBase a "join" (G i).env (eval a (G i).env) = eval a (G i).env := by intro _; rfl) (hline : (apos.endLine == cpos.line) = true := by rfl) :
    EV G K (.Call (.Attribute a "join" apos) [b] [] cpos) (fun ρ => b2 gJoin (da ρ) (db ρ)) := by
  intro ρ σ H τ Q hE hd hq
  obtain ⟨x, y, ea, eb, eg⟩ := b2_some hd
  unfold gJoin at eg
  split at eg
  · rename_i z ts
    cases e1 : strsOf ts with
    | none => rw [e1] at eg; cases eg
    | some ys =>
      rw [e1] at eg
      dsimp only [Option.bind] at eg
      split at eg
      · rename_i cc
        cases eg
        refine ⟨tM1 (fun x xs H Q => ∃ a p, ∃ ys : List Str, x = .str a ∧ xs = [.ref p] ∧ (SqL K H p (ys.map V.str) ∨ SqT K H p (ys.map V.str)) ∧
      (ys.map (·.length)).sum + ys.length * a.length ≤ 16777216 ∧ Q (.str (Txt.join a ys)) H) (ES G a) (ES G b), fun i => by rw [← hG.K i]; exact pe_join (pe_ts i) (pe_ts i) (hs i) (hbase i) hline, ?_⟩
        refine ha ρ σ H _ _ hE ea fun v H1 s1 r1 => ⟨⟨z, rep_str.mp r1⟩, hb ρ σ H1 _ _ (hE.same s1) eb fun u H2 s2 r2 => ?_⟩
        obtain ⟨q, vs, rfl, hl, rr⟩ := rep_lst.mp r2
        have := strsOf_rep e1 rr
        subst this
        exact ⟨z, q, ys, rep_str.mp r1, rfl, .inl (.inl (.inl hl)), cc, hq _ H2 (s1.trans s2) (rep_str.mpr rfl)⟩
      · cases eg
  · cases eg

/-! ### x[k] = e -/
def stD (i : Nat) (o ky : Option T) (ρ : Env') : Out := match nd i ρ, o, ky with
  | some (.lst ts), some τ, some (.int j) => if imm τ = true then (match ixN ts.length j with | some n => .nx (ρ.set i (some (.lst (ts.set n τ)))) | none => .er) else .er
  | some (.dic kts), some τ, some y => (match keyOf y with
    | some ky => if imm τ = true ∧ (kts.map (·.1)).Nodup ∧ kts.length < sizeLine then .nx (ρ.set i (some (.dic (putT kts ky τ)))) else .er
    | none => .er)
  | _, _, _ => .er
theorem Reps.set {H : Hp} {ts : List T} {vs : List V} {t : T} {v : V} (h : Reps K H ts vs) (r : Rep K H t v) : ∀ n, Reps K H (ts.set n t) (vs.set n v) := by
  rw [Reps.paired] at h
  induction h with
  | nil => intro n; simpa using Reps.nil
  | cons h1 h2 ih =>
    intro n
    cases n with
    | zero => exact .cons r (Reps.paired.mpr h2)
    | succ n => exact .cons h1 (ih n)
theorem sv_store (hG : Fm G K mg base P w N sc k) (i : Nat) (hi : i ∈ ow) {px tp : Pos} (h : EV G K e de) (hk : EV G K a da) (hN : N[i]? = some x := by rfl) (hv : visB sc x = true := by rfl)
    (hd0 : (x == ("__debug__" : Str)) = false := by decide) (hcd : (x == ("__classdict__" : Str)) = false := by decide)
    (hs : ∀ i, swapsWith e (some (.Subscript (.Name x px) a tp)) pos.line (G i).env = pure false := by intro _; rfl)
    (hs1 : ∀ i, swapsWithSole [.Subscript (.Name x px) a tp] e pos.line (G i).env = pure false := by intro _; rfl) (hw : ∀ i, swappedStores [.Subscript (.Name x px) a tp] e (G i).env = pure none := by intro _; rfl)
    (h1 : ∀ i, (assignEach [.Subscript (.Name x px) a tp] (G i).env).map (·.2) = [assign (.Subscript (.Name x px) a tp) (G i).env] := by intro _; rfl)
    (ha : ∀ i v, assign (.Subscript (.Name x px) a tp) (G i).env v = (do
      let ov ← holding [v] (eval (.Name x px) (G i).env)
      let iv ← holding [v, ov] (eval a (G i).env)
      standAt tp
      holding [v, ov, iv] (setItem ov iv v)
      release [v, ov, iv] []) := by intro _ _; rfl) :
    SV K fr ow ow owl (TSt G (.Assign [.Subscript (.Name x px) a tp] e pos)) (fun ρ => stD i (de ρ) (da ρ) ρ) := by
  intro B ρ σ H D hr hp
  dsimp only at hp
  unfold stD at hp
  obtain ⟨B', sB, q⟩ := id hr
  have pvar : ∀ j, PE (G j) (.Name x px) (tVar i) := fun j => pe_var (by rw [hG.N j]; exact hN) (by rw [hG.sc j]; exact vis_of hv) hd0 hcd
  split at hp
  · rename_i ts τ j e1 e2 e3
    split at hp
    · rename_i cc
      split at hp
      · rename_i n en
        obtain ⟨ad, o, s1, s2, s3, f⟩ := q.own i _ hi (nd_some e1)
        refine ⟨tAsg (ES G e) (L2.gSub (tVar i) (ES G a) rSetL), fun j => ps_asg (pe_ts j) (pg_sub (pvar j) (pe_ts j) set_list (ha j)) (hs1 j) (hw j) (h1 j), ?_⟩
        rcases id f with ⟨ts', vs, et, eo, r⟩ | ⟨_, _, et, _⟩
        · cases et
          subst eo
          refine h ρ σ H τ _ hr.env e2 fun v H1 z1 r1 => ⟨_, s1, hk ρ σ H1 _ _ (hr.env.same z1) e3 fun u H2 z2 r2 => ?_⟩
          refine ⟨ad, vs, j, n, rfl, rep_int.mp r2, z2 _ _ (z1 _ _ s3), by rw [← r.length]; exact en, ?_⟩
          have q1 := (q.grow (z1.trans z2)).addT
          refine hp σ _ ⟨addT B' H2, sB.trans same_addT, q1.write hi (nd_some e1) s1 ?_⟩
          exact .inl ⟨_, _, rfl, rfl, (r.same same_addT).set (imm_rep (q.sm.trans (z1.trans z2)) τ v cc (r1.same z2)) n⟩
        · cases et
      · cases hp
    · cases hp
  · rename_i kts τ y e1 e2 e3
    split at hp
    · rename_i ky ek
      split at hp
      · rename_i cc
        obtain ⟨ad, o, s1, s2, s3, f⟩ := q.own i _ hi (nd_some e1)
        refine ⟨sDPut (tVar i) (ES G a) (ES G e), fun j => ps_dput (hG.hu j) (pvar j) (pe_ts j) (pe_ts j) (hs j), ?_⟩
        rcases id f with ⟨_, _, et, _⟩ | ⟨ts', vs, et, eo, r⟩
        · cases et
        · cases et
          subst eo
          refine h ρ σ H τ _ hr.env e2 fun v H1 z1 r1 => ⟨_, s1, hk ρ σ H1 _ _ (hr.env.same z1) e3 fun u H2 z2 r2 => ?_⟩
          refine ⟨ad, _, rfl, .inl ⟨vs, ky, z2 _ _ (z1 _ _ s3), keyOf_rep ek r2, by rw [← r.length]; exact cc.2.2, rfl⟩, ?_⟩
          have q1 := (q.grow (z1.trans z2)).addT
          refine hp σ _ ⟨addT B' H2, sB.trans same_addT, q1.write hi (nd_some e1) s1 ?_⟩
          exact .inr ⟨_, _, rfl, rfl, putT_rep (imm_rep (q.sm.trans (z1.trans z2)) τ v cc.1 (r1.same z2)) (r.same same_addT) cc.2.1⟩
      · cases hp
    · cases hp
  · cases hp
end DL
namespace DL
open PySem PySem.Spec PyProof.Rows L2
variable {ι : Type} {G : ι → Cx} {K : PySem.W.Frag} {mg : Str → Option Value} {base : Heap} {P : Program} {w : World} {N : List Str} {sc : Scope} {k : Nat}
variable {fr : Bool} {ow ow' owl : List Nat}

/-! ### a dict that is walked is locked -/
def keyT : Key → T
  | .inl i => .int i
  | .inr x => .str x
theorem keyT_rep {H : Hp} (ky : Key) : Rep K H (keyT ky) (kV ky) := by
  cases ky with
  | inl i => exact rep_int.mpr rfl
  | inr x => exact rep_str.mpr rfl
theorem RepsK.get {H : Hp} : ∀ {kts : List (Key × T)} {kvs : List (Key × V)} {i : Nat} {ky : Key} {v : V}, RepsK K H kts kvs → kvs[i]? = some (ky, v) → ∃ t, kts[i]? = some (ky, t) ∧ Rep K H t v
  | [], kvs, i, ky, v, h, e => by
    unfold RepsK at h
    subst h
    simp at e
  | (k', t') :: r, kvs, i, ky, v, h, e => by
    unfold RepsK at h
    obtain ⟨v', kr, rfl, h1, h2⟩ := h
    cases i with
    | zero =>
      simp at e
      obtain ⟨rfl, rfl⟩ := e
      exact ⟨t', rfl, h1⟩
    | succ i =>
      obtain ⟨t, a, b⟩ := RepsK.get (i := i) (ky := ky) (v := v) h2 (by simpa using e)
      exact ⟨t, by simpa using a, b⟩
theorem walks_keys {B : Hp} {d : Addr} {o : Obj} {kvs : List (Key × V)} {kts : List (Key × T)} (e : B d = some (.frz o (.dK kvs))) (r : RepsK K B kts kvs) : Walks K (Itk d o kvs) B (kts.map fun p => keyT p.1) := by
  refine ⟨fun i H s hi => ⟨s _ _ e, by rw [← r.length]; simpa using hi⟩, fun i H s hi => ⟨s _ _ e, by rw [← r.length]; simpa using hi⟩, fun i t H x H' s et y => ?_⟩
  obtain ⟨rfl, ky, v, ev, rfl⟩ := y
  obtain ⟨t', e2, _⟩ := r.get ev
  rw [List.getElem?_map, e2] at et
  cases et
  exact ⟨Same.refl _, keyT_rep ky⟩
theorem walks_vals {B : Hp} {d : Addr} {o : Obj} {kvs : List (Key × V)} {kts : List (Key × T)} (e : B d = some (.frz o (.dK kvs))) (r : RepsK K B kts kvs) : Walks K (Itd d o kvs) B (kts.map (·.2)) := by
  refine ⟨fun i H s hi => ⟨s _ _ e, by rw [← r.length]; simpa using hi⟩, fun i H s hi => ⟨s _ _ e, by rw [← r.length]; simpa using hi⟩, fun i t H x H' s et y => ?_⟩
  obtain ⟨rfl, ky, ev⟩ := y
  obtain ⟨t', e2, rt⟩ := r.get ev
  rw [List.getElem?_map, e2] at et
  cases et
  exact ⟨Same.refl _, rt.same same_addT⟩
theorem walks_items {B : Hp} {d : Addr} {o : Obj} {kvs : List (Key × V)} {kts : List (Key × T)} (e : B d = some (.frz o (.dK kvs))) (r : RepsK K B kts kvs) : Walks K (Iti d o kvs) B (kts.map fun p => .tup [keyT p.1, p.2]) := by
  refine ⟨fun i H s hi => ⟨s _ _ e, by rw [← r.length]; simpa using hi⟩, fun i H s hi => ⟨s _ _ e, by rw [← r.length]; simpa using hi⟩, fun i t H x H' s et y => ?_⟩
  obtain ⟨q, ky, v, ev, rfl, nq, rfl⟩ := y
  obtain ⟨t', e2, rt⟩ := r.get ev
  rw [List.getElem?_map, e2] at et
  cases et
  exact ⟨same_upd' nq, rep_tup.mpr ⟨q, _, rfl, .inl (.inl (addT_newtup s nq)), .cons (keyT_rep ky) (.cons (rt.same same_addT) .nil)⟩⟩
/-- the walk over a locked dict that a name holds -/
def KI (G : ι → Cx) (K : PySem.W.Frag) (j : Nat) (tg iter : Expr) (lst : List (Key × T) → List T) : Prop :=
  ∀ (σ : St) (H : Hp) (R : It → Hp → Prop) (d : Addr) (o : Obj) (kvs : List (Key × V)), σ[j]? = some (some (V.ref d)) → H d = some (.frz o (.dK kvs)) →
    (∀ J, (∀ B kts, B d = some (.frz o (.dK kvs)) → RepsK K B kts kvs → Walks K J B (lst kts)) → R J H) → IT G tg iter σ H R
variable {tg : Expr} {x : Str} {pos : Pos}
theorem pe_nm (hG : Fm G K mg base P w N sc k) (j : Nat) (hN : N[j]? = some x) (hv : visB sc x = true) (hd : (x == ("__debug__" : Str)) = false) (hcd : (x == ("__classdict__" : Str)) = false) (i : ι) : PE (G i) (.Name x pos) (tVar j) :=
  pe_var (by rw [hG.N i]; exact hN) (by rw [hG.sc i]; exact vis_of hv) hd hcd
theorem ki_keys (hG : Fm G K mg base P w N sc k) (j : Nat) (hN : N[j]? = some x := by rfl) (hv : visB sc x = true := by rfl) (hd : (x == ("__debug__" : Str)) = false := by decide) (hcd : (x == ("__classdict__" : Str)) = false := by decide) :
    KI G K j tg (.Name x pos) (fun kts => kts.map fun p => keyT p.1) := fun σ H R d o kvs e1 e2 h =>
  ⟨_, fun i => pi_keys (pe_nm hG j hN hv hd hcd i), _, e1, d, o, rfl, .inl ⟨kvs, e2, h _ fun B kts => walks_keys⟩⟩
theorem ki_vals (hG : Fm G K mg base P w N sc k) (j : Nat) {apos cpos : Pos} (hN : N[j]? = some x := by rfl) (hv : visB sc x = true := by rfl) (hd : (x == ("__debug__" : Str)) = false := by decide) (hcd : (x == ("__classdict__" : Str)) = false := by decide)
    (hbase : ∀ i, attributeBase (.Name x pos) "values" (G i).env (eval (.Name x pos) (G i).env) = eval (.Name x pos) (G i).env := by intro _; rfl) (hline : (apos.endLine == cpos.line) = true := by rfl) :
    KI G K j tg (.Call (.Attribute (.Name x pos) "values" apos) [] [] cpos) (fun kts => kts.map (·.2)) := fun σ H R d o kvs e1 e2 h =>
  ⟨_, fun i => pi_values (pe_nm hG j hN hv hd hcd i) (hbase i) hline, _, e1, d, o, kvs, rfl, e2, h _ fun B kts => walks_vals⟩
theorem ki_items (hG : Fm G K mg base P w N sc k) (j : Nat) {elts : List Expr} {kk : Nat} {tpos apos cpos : Pos} (hN : N[j]? = some x := by rfl) (hv : visB sc x = true := by rfl) (hd : (x == ("__debug__" : Str)) = false := by decide) (hcd : (x == ("__classdict__" : Str)) = false := by decide)
    (hbase : ∀ i, attributeBase (.Name x pos) "items" (G i).env (eval (.Name x pos) (G i).env) = eval (.Name x pos) (G i).env := by intro _; rfl) (hline : (apos.endLine == cpos.line) = true := by rfl) :
    KI G K j (.Tuple elts kk tpos) (.Call (.Attribute (.Name x pos) "items" apos) [] [] cpos) (fun kts => kts.map fun p => .tup [keyT p.1, p.2]) := fun σ H R d o kvs e1 e2 h =>
  ⟨_, fun i => pi_items (pe_nm hG j hN hv hd hcd i) (hbase i) hline, _, e1, d, o, kvs, rfl, e2, h _ fun B kts => walks_items⟩
def dkO (kvs : List (Key × V)) (u : HO) : Prop := u = .dK kvs ∨ ∃ o, u = .frz o (.dK kvs)
theorem dkO.rd {H : Hp} {d : Addr} {u : HO} {kvs : List (Key × V)} (h : dkO kvs u) (e : H d = some u) : Rd H d (.dK kvs) := by
  rcases h with rfl | ⟨o, rfl⟩
  · exact .inl e
  · exact .inr ⟨o, e⟩
theorem grow_dk {H : Hp} {d : Addr} {u u' : HO} {kvs : List (Key × V)} (e : H d = some u) (hu : dkO kvs u) (hu' : dkO kvs u') : Grow K H (upd H d u') := by
  have no : ∀ {a : Addr} {z : HO}, Rd H a z → (∀ ks, z ≠ .dK ks) → (∀ o, z ≠ .frz o (.dK kvs)) → Rd (upd H d u') a z := by
    intro a z h n1 n2
    have na : a ≠ d := by
      rintro rfl
      rcases h with h | ⟨o, h⟩
      · rw [e] at h
        cases h
        rcases hu with rfl | ⟨o, rfl⟩
        · exact n1 _ rfl
        · exact n2 _ rfl
      · rw [e] at h
        cases h
        rcases hu with hu | ⟨o', hu⟩
        · cases hu
        · cases hu
          exact n1 _ rfl
    rcases h with h | ⟨o, h⟩
    · exact .inl (by rw [upd_ne na]; exact h)
    · exact .inr ⟨o, by rw [upd_ne na]; exact h⟩
  refine ⟨fun a vs h => ?_, fun a vs h => ?_, fun a vs h => ?_, fun a ks h => ?_, fun a o so h => by
    rw [upd_ne]
    · exact h
    · rintro rfl
      rw [e] at h
      cases h
      rcases hu with rfl | ⟨o', rfl⟩
      · rcases so with ⟨_, z⟩ | ⟨_, _, z⟩ | ⟨_, _, z⟩ | ⟨_, _, z⟩ <;> cases z
      · rcases so with ⟨_, z⟩ | ⟨_, _, z⟩ | ⟨_, _, z⟩ | ⟨_, _, z⟩ <;> cases z⟩
  · rcases h with h | h
    · exact .inl (no h (fun _ z => nomatch z) (fun _ z => nomatch z))
    · exact .inr h
  · have na : a ≠ d := by
      rintro rfl
      rw [e] at h
      cases h
      rcases hu with z | ⟨o, z⟩ <;> cases z
    rw [upd_ne na]
    exact h
  · rcases h with h | h
    · exact .inl (no h (fun _ z => nomatch z) (fun _ z => nomatch z))
    · exact .inr h
  · by_cases ea : a = d
    · subst ea
      have : ks = kvs := by
        rcases h with h | ⟨o, h⟩
        · rw [e] at h
          cases h
          rcases hu with z | ⟨o, z⟩
          · cases z; rfl
          · cases z
        · rw [e] at h
          cases h
          rcases hu with z | ⟨o, z⟩
          · cases z
          · cases z; rfl
      subst this
      exact hu'.rd upd_same
    · rcases h with h | ⟨o, h⟩
      · exact .inl (by rw [upd_ne ea]; exact h)
      · exact .inr ⟨o, by rw [upd_ne ea]; exact h⟩
theorem StR'.relock {B : Hp} {ρ : Env'} {σ : St} {H : Hp} {d : Addr} {u u' : HO} {kvs : List (Key × V)} (h : StR' K B ow ρ σ H) (e : B d = some u) (hu : dkO kvs u) (hu' : dkO kvs u') : StR' K (upd B d u') ow ρ σ (upd H d u') := by
  have g : Grow K B (upd B d u') := grow_dk e hu hu'
  refine ⟨fun b o z => ?_, h.len, fun i t m z => ?_, fun i t m z => ?_, h.inj⟩
  · by_cases eb : b = d
    · subst eb
      rw [upd_same] at z ⊢
      exact z
    · rw [upd_ne eb] at z ⊢
      exact h.sm b o z
  · obtain ⟨v, e1, r⟩ := h.val i t m z
    exact ⟨v, e1, Rep.grow g t v r⟩
  · obtain ⟨a, o, e1, e2, e3, f⟩ := h.own i t m z
    have na : a ≠ d := ne_of_none e e2 |> Ne.symm
    refine ⟨a, o, e1, by rw [upd_ne na]; exact e2, by rw [upd_ne na]; exact e3, ?_⟩
    rcases f with ⟨ts, vs, rfl, rfl, r⟩ | ⟨ts, vs, rfl, rfl, r⟩
    · exact .inl ⟨ts, vs, rfl, rfl, Reps.grow g ts vs r⟩
    · exact .inr ⟨ts, vs, rfl, rfl, RepsK.grow g ts vs r⟩
theorem FrO.grow {H H' : Hp} {τ : T} {o : HO} (g : Grow K H H') (f : FrO K H τ o) : FrO K H' τ o := by
  rcases f with ⟨ts, vs, rfl, rfl, r⟩ | ⟨ts, vs, rfl, rfl, r⟩
  · exact .inl ⟨ts, vs, rfl, rfl, Reps.grow g ts vs r⟩
  · exact .inr ⟨ts, vs, rfl, rfl, RepsK.grow g ts vs r⟩
theorem same_relock {B B' : Hp} {d : Addr} {u : HO} (s : Same B B') (e : B d = some u) {u' : HO} {B2 : Hp} (s2 : Same (upd B' d u') B2) : Same B (upd B2 d u) := fun b o z => by
  by_cases eb : b = d
  · subst eb
    rw [e] at z
    cases z
    exact upd_same
  · rw [upd_ne eb]
    exact s2 b o (by rw [upd_ne eb]; exact s b o z)
/-- what is wanted behind the lock -/
abbrev lockD (D : Ends) (d : Addr) (od : Obj) (u : HO) : Ends := ⟨fun σ' H' => H' d = some (.frz od u) ∧ D.nx σ' (upd H' d u), fun v H' => H' d = some (.frz od u) ∧ D.rt v (upd H' d u), fun σ' H' => H' d = some (.frz od u) ∧ D.bk σ' (upd H' d u), fun σ' H' => H' d = some (.frz od u) ∧ D.ct σ' (upd H' d u)⟩
theorem Post.lock {B : Hp} {D : Ends} {d : Addr} {od : Obj} {kvs : List (Key × V)} {o : Out} (e : B d = some (.dK kvs)) (h : Post K fr B D ow owl o) : Post K fr (upd B d (.frz od (.dK kvs))) (lockD D d od (.dK kvs)) ow owl o := by
  have back : ∀ {ow1 : List Nat} {ρ : Env'} {σ : St} {H : Hp}, StR K (upd B d (.frz od (.dK kvs))) ow1 ρ σ H → H d = some (.frz od (.dK kvs)) ∧ StR K B ow1 ρ σ (upd H d (.dK kvs)) := by
    rintro ow1 ρ σ H ⟨B2, s2, q⟩
    have e2 : B2 d = some (.frz od (.dK kvs)) := s2 _ _ upd_same
    exact ⟨q.sm _ _ e2, upd B2 d (.dK kvs), same_relock (Same.refl B) e s2, q.relock e2 (.inr ⟨od, rfl⟩) (.inl rfl)⟩
  cases o with
  | nx ρ => exact fun σ H q => let ⟨a, b⟩ := back q; ⟨a, h σ _ b⟩
  | bk ρ => exact fun σ H q => let ⟨a, b⟩ := back q; ⟨a, h σ _ b⟩
  | ct ρ => exact fun σ H q => let ⟨a, b⟩ := back q; ⟨a, h σ _ b⟩
  | rt τ =>
    intro v H s r
    have e2 : H d = some (.frz od (.dK kvs)) := s _ _ upd_same
    have g : Grow K H (upd H d (.dK kvs)) := grow_dk e2 (.inr ⟨od, rfl⟩) (.inl rfl)
    refine ⟨e2, h v _ (same_relock (Same.refl B) e s) ?_⟩
    unfold RtR at r ⊢
    split
    · rename_i c
      rw [if_pos c] at r
      obtain ⟨p, o, ev, n, ep, f⟩ := r
      have np : p ≠ d := by
        rintro rfl
        rw [upd_same] at n
        cases n
      exact ⟨p, o, ev, by rw [upd_ne np] at n; exact n, by rw [upd_ne np]; exact ep, f.grow g⟩
    · rename_i c
      rw [if_neg c] at r
      exact Rep.grow g _ _ r
  | er => exact h
def dicOf (o : Option T) : Option (List (Key × T)) := match o with
  | some (.dic kts) => some kts
  | _ => none
/-- for .. in d (its keys, values or items), d a name -/
theorem sv_forK {tg iter : Expr} {bd : Env' → T → Option Env'} {body : List Stmt} {db : Env' → Out} {lst : List (Key × T) → List T} (hG : Fm G K mg base P w N sc k) (hpo : ∀ i, PassesOwn (model (G i).prog (G i).w) (G i).A (G i).env (G i).xe)
    (j : Nat) (nj : j ∉ ow) (hi : KI G K j tg iter lst) {vs : List Nat} (ht : TV G K ow tg vs bd) (hb : SV K fr ow ow ow (TSs G body) db) (hs : ∀ i x, foldedSetIterable iter (G i).env x = pure x := by intro _ _; rfl) :
    SV K fr ow ow owl (TSt G (.For tg iter body [] pos)) (fun ρ => match dicOf (nd j ρ) with | some kts => forD bd db (lst kts) ρ | none => .er) := by
  intro B ρ σ H D hr hp
  dsimp only at hp
  split at hp
  · rename_i kts e
    have e1 : nd j ρ = some (.dic kts) := by
      unfold dicOf at e
      split at e
      · cases e; assumption
      · cases e
    obtain ⟨B', s, q⟩ := hr
    obtain ⟨v, es, rv⟩ := q.val j _ nj (nd_some e1)
    obtain ⟨d, kvs, rfl, rd, rk⟩ := rep_dic.mp rv
    have at_ : ∀ (B' : Hp) (H : Hp) (o : Obj) (D : Ends), StR' K B' ow ρ σ H → B' d = some (.frz o (.dK kvs)) → RepsK K B' kts kvs → Post K fr B' D ow owl (forD bd db (lst kts) ρ) → TSt G (.For tg iter body [] pos) D σ H := by
      intro B' H o D q ed rk hp
      refine for_core hG hpo ht hb (fun R hR => ?_) hp hs
      refine hi σ H R d o kvs es (q.sm _ _ ed) fun J hJ => ?_
      exact hR J H B' (Same.refl B') (Same.refl H) q (hJ B' kts ed rk)
    have hp' : Post K fr B' D ow owl (forD bd db (lst kts) ρ) := Post.rebase s hp
    rcases rd with rd | ⟨o, rd⟩
    · refine ⟨tLock (TSt G (.For tg iter body [] pos)), fun i => ps_lock (ps_st i), d, .dK kvs, q.sm _ _ rd, trivial, fun od => ?_⟩
      have q2 := q.relock rd (.inl rfl) (.inr ⟨od, rfl⟩) (u' := .frz od (.dK kvs))
      exact at_ _ _ od _ q2 upd_same (RepsK.grow (grow_dk rd (.inl rfl) (.inr ⟨od, rfl⟩)) _ _ rk) (Post.lock rd hp')
    · exact at_ B' H o D q rd rk hp'
  · cases hp
/-- [.. for .. in d ..] -/
theorem evf_lcK (hG : Fm G K mg base P w N sc k) (hN0 : N.Nodup) {scope : Scope} {tg iter elt : Expr} {ifs : List Expr} (own : List (Str × Nat)) {ts : List Nat} {bd : Env' → T → Option Env'} {dc : Env' → Option Bool} {de : Env' → Option T} {lst : List (Key × T) → List T}
    (j : Nat) (hi : KI G K j tg iter lst) (ht : TV (gBlk G scope) K [] tg ts bd) (hc : CV (gBlk G scope) K ifs dc) (he : EV (gBlk G scope) K elt de) (hok : blkC N sc scope own = true := by decide +kernel) (hts : ∀ i ∈ ts, i ∈ own.map (·.2) := by decide)
    (hs : ∀ i x, foldedSetIterable iter (G i).env x = pure x := by intro _ _; rfl) : EVF G K (.ListComp elt [⟨tg, iter, ifs, 0⟩] scope pos) (fun ρ => lcD bd dc de (own.map (·.2)) ρ ((dicOf (nd j ρ)).map lst)) := by
  intro ρ σ H τ Q hE hd hq
  dsimp only at hd
  cases e : dicOf (nd j ρ) with
  | none => rw [e] at hd; cases hd
  | some kts =>
    rw [e] at hd
    have e1 : nd j ρ = some (.dic kts) := by
      unfold dicOf at e
      split at e
      · cases e; assumption
      · cases e
    unfold lcD at hd
    dsimp only [Option.map] at hd
    split at hd
    · rename_i hl
      split at hd
      · rename_i res e2
        split at hd
        · rename_i hm
          cases hd
          obtain ⟨v, es, rv⟩ := hE.2 j _ (nd_some e1)
          obtain ⟨d, kvs, rfl, rd, rk⟩ := rep_dic.mp rv
          have core : ∀ (H : Hp) (o : Obj) (Q : VK), EnvR K H σ ρ → H d = some (.frz o (.dK kvs)) → RepsK K H kts kvs → (∀ p o H', Same H H' → H p = none → H' p = some o → FrO K H' (.lst res) o → Q (.ref p) H') → ES G (.ListComp elt [⟨tg, iter, ifs, 0⟩] scope pos) σ H Q := by
            intro H o Q hE ed rk hq
            refine ⟨tLc (IT G tg iter) (GT (gBlk G scope) tg) (CTs (gBlk G scope) ifs) (ES (gBlk G scope) elt) (own.map (·.2)), fun i => pe_lc (hG.calm i) (by rw [hG.N i]; exact hN0) (pi_it i) (by rw [hG.N i, hG.sc i]; exact blkOk_by hok)
              (fun s H C cl fp => pg_gt (G := gBlk G scope) (i, s, H, C, cl, fp)) (fun s H C cl fp => pts_cts (G := gBlk G scope) (i, s, H, C, cl, fp)) (fun s H C cl fp => pe_ts (G := gBlk G scope) (i, s, H, C, cl, fp)) (hs i), ?_⟩
            refine lc_read ht hts hc he hE (fun R hR => ?_) hl e2 hm hq
            refine hi σ H R d o kvs es ed fun J hJ => ?_
            exact hR J H H (Same.refl H) (Same.refl H) hE.str (hJ H kts ed rk)
          rcases rd with rd | ⟨o, rd⟩
          · refine ⟨tLockE (ES G (.ListComp elt [⟨tg, iter, ifs, 0⟩] scope pos)), fun i => pe_lock (pe_ts i), d, .dK kvs, rd, trivial, fun od => ?_⟩
            have g := grow_dk (K := K) rd (.inl rfl) (.inr ⟨od, rfl⟩) (u' := .frz od (.dK kvs))
            refine core _ od _ (hE.str.relock rd (.inl rfl) (.inr ⟨od, rfl⟩)).env upd_same (RepsK.grow g _ _ rk) fun p o H' s np ep f => ?_
            have e3 : H' d = some (.frz od (.dK kvs)) := s _ _ upd_same
            have nd' : p ≠ d := by
              rintro rfl
              rw [upd_same] at np
              cases np
            refine ⟨e3, hq p o _ (same_relock (Same.refl H) rd s) (by rw [upd_ne nd'] at np; exact np) (by rw [upd_ne nd']; exact ep) (f.grow (grow_dk e3 (.inr ⟨od, rfl⟩) (.inl rfl)))⟩
          · exact core H o Q hE rd rk hq
        · cases hd
      · cases hd
    · cases hd
end DL
namespace DL
open PySem PySem.Spec PyProof.Rows L2
variable {ι : Type} {G : ι → Cx} {K : PySem.W.Frag} {mg : Str → Option Value} {base : Heap} {P : Program} {w : World} {N : List Str} {sc : Scope} {k : Nat}
variable {fr : Bool} {ow ow' owl : List Nat}

/-! ### dicts compared -/
def hitsD (lb : List (Key × T)) : List (Key × T) → Bool
  | [] => true
  | (ky, t) :: r => match lookT lb ky with
    | some t' => eqT t t' && hitsD lb r
    | none => false
def dOkK (ks : List (Key × T)) : Bool := ks.all fun p => dOk p.2
theorem hits_dl {X : Cx} {pins : List (Addr × Obj)} {σ : L2.St} {H : Hp} {s : Shared} (I : Inv X pins σ H s) {A : Around} (hu : A.units + 64 < cLine) {ltb : List (Key × T)} {lvb : List (Key × V)} {vb : List (Key × Value)} (rb : RepsK X.K H ltb lvb) (kb : KV lvb vb) (ob : dOkK ltb = true) :
    ∀ {lta : List (Key × T)} {lva : List (Key × V)} {va : List (Key × Value)}, RepsK X.K H lta lva → KV lva va → dOkK lta = true → PySem.W.KeqHits A s vb va (hitsD ltb lta)
  | [], lva, va, h, hk, _ => by
    unfold RepsK at h
    subst h
    cases hk
    exact .nil
  | (ky, t) :: r, lva, va, h, hk, ho => by
    unfold RepsK at h
    obtain ⟨v, lr, rfl, h1, h2⟩ := h
    cases hk with
    | @cons a b l₁ l₂ hr hrest =>
      obtain ⟨k', u⟩ := b
      obtain ⟨ek, ru⟩ := hr
      cases ek
      unfold dOkK at ho
      rw [List.all_cons, Bool.and_eq_true] at ho
      have ih := hits_dl I hu rb kb ob h2 hrest ho.2
      have kv := kb.val ky
      show PySem.W.KeqHits A s vb ((ky, u) :: _) (hitsD ltb ((ky, t) :: r))
      unfold hitsD
      cases e : lookT ltb ky with
      | none =>
        rw [(look_val rb).2 e] at kv
        cases e2 : valueAt vb ky with
        | none => exact .miss e2
        | some z => rw [e2] at kv; exact kv.elim
      | some t' =>
        obtain ⟨v', ev, rv'⟩ := (look_val rb).1 t' e
        rw [ev] at kv
        cases e2 : valueAt vb ky with
        | none => rw [e2] at kv; exact kv.elim
        | some z =>
          rw [e2] at kv
          have ot' : dOk t' = true := by
            have : ∀ {l : List (Key × T)}, lookT l ky = some t' → dOkK l = true → dOk t' = true := by
              intro l
              induction l with
              | nil => intro h; cases h
              | cons p l ih =>
                obtain ⟨k2, t2⟩ := p
                intro h ho
                unfold dOkK at ho
                rw [List.all_cons, Bool.and_eq_true] at ho
                unfold lookT at h
                split at h
                · cases h; exact ho.1
                · exact ih h ho.2
            exact this e ob
          have o1 := ho.1
          simp only [dOk, Bool.and_eq_true] at o1 ot'
          obtain ⟨as, r1⟩ := Dp.reads I (toD t) v u (rep_dp t v o1.1 h1) ru
          obtain ⟨bs, r2⟩ := Dp.reads I (toD t') v' z (rep_dp t' v' ot'.1 rv') kv
          exact .hit e2 (SeqAt.eqAt_reads _ _ A s u z as bs r1 r2 (SeqAt.canLay_of_shaped o1.2) (SeqAt.canLay_of_shaped ot'.2) (SeqAt.room_of_shaped o1.2 hu)) ih
def rEqDD (X : Cx) (neg : Bool) : R2 := fun x y H Q => ∃ a b lta lva ltb lvb, x = .ref a ∧ y = .ref b ∧ Rd H a (.dK lva) ∧ Rd H b (.dK lvb) ∧ RepsK X.K H lta lva ∧ RepsK X.K H ltb lvb ∧ dOkK lta = true ∧ dOkK ltb = true ∧ Q (.bl (xor neg (lta.length == ltb.length && hitsD ltb lta))) H
theorem op_eqDD {X : Cx} (hu : X.A.units + 65 < cLine) : OpR X (compareOp .Eq) (rEqDD X false) := by
  intro pins s σ H x y v u Q I rx ry h
  obtain ⟨a, b, lta, lva, ltb, lvb, rfl, rfl, ha, hb, ra, rb, oa, ob, q⟩ := h
  obtain rfl : v = Value.ref a := rx
  obtain rfl : u = Value.ref b := ry
  obtain ⟨_, ya, va, ka, da⟩ := dk_rd I.hok ha
  obtain ⟨_, yb, vb, kb, db⟩ := dk_rd I.hok hb
  have la : va.length = lta.length := by rw [ra.length, ka.length]
  have lb : vb.length = ltb.length := by rw [rb.length, kb.length]
  refine PySem.W.keq_eq (knd := mixKind X.prog X.w) (r := hitsD ltb lta) ya yb da db (by omega) (fun _ => hits_dl I (by show X.A.units + 1 + 64 < _; omega) rb kb ob ra ka oa) (fin_bl I q ?_)
  rw [la, lb]; simp
theorem op_neDD {X : Cx} (hu : X.A.units + 65 < cLine) : OpR X (compareOp .NotEq) (rEqDD X true) := by
  intro pins s σ H x y v u Q I rx ry h
  obtain ⟨a, b, lta, lva, ltb, lvb, rfl, rfl, ha, hb, ra, rb, oa, ob, q⟩ := h
  obtain rfl : v = Value.ref a := rx
  obtain rfl : u = Value.ref b := ry
  obtain ⟨_, ya, va, ka, da⟩ := dk_rd I.hok ha
  obtain ⟨_, yb, vb, kb, db⟩ := dk_rd I.hok hb
  have la : va.length = lta.length := by rw [ra.length, ka.length]
  have lb : vb.length = ltb.length := by rw [rb.length, kb.length]
  refine PySem.W.keq_ne (knd := mixKind X.prog X.w) (r := hitsD ltb lta) ya yb da db (by omega) (fun _ => hits_dl I (by show X.A.units + 1 + 64 < _; omega) rb kb ob ra ka oa) (fin_bl I q ?_)
  rw [la, lb]; simp
/-- == of whatever: data, dicts, types -/
def eqDic (a b : List (Key × T)) : Bool := a.length == b.length && hitsD b a
def gEqA (neg : Bool) (x y : T) : Option T := match x, y with
  | .dic a, .dic b => if (dOkK a && dOkK b) = true then some (.bl (xor neg (eqDic a b))) else none
  | .raw _, .raw _ => if neg = true then none else gEqTy x y
  | x, y => if (dOk x && dOk y) = true then some (.bl (xor neg (eqT x y))) else none
theorem room65 {A : Around} {k : Nat} (r : Room k A) : A.units + 65 < cLine := by have := r.un; omega
theorem s_eqA (hG : Fm G K mg base P w N sc k) : OpS G K (compareOp .Eq) (gEqA false) := by
  intro H x y v u τ Q e rx ry hq
  unfold gEqA at e
  split at e
  · split at e
    · rename_i a b c
      cases e
      simp only [Bool.and_eq_true] at c
      obtain ⟨p, ks, rfl, h1, r1⟩ := rep_dic.mp rx
      obtain ⟨p', ks', rfl, h2, r2⟩ := rep_dic.mp ry
      refine ⟨fun x y H Q => ∃ a b lta lva ltb lvb, x = .ref a ∧ y = .ref b ∧ Rd H a (.dK lva) ∧ Rd H b (.dK lvb) ∧ RepsK K H lta lva ∧ RepsK K H ltb lvb ∧ dOkK lta = true ∧ dOkK ltb = true ∧ Q (.bl (xor false (lta.length == ltb.length && hitsD ltb lta))) H, fun i => ?_, p, p', a, ks, b, ks', rfl, rfl, h1, h2, r1, r2, c.1, c.2, hq _ H (Same.refl H) (rep_bl.mpr rfl)⟩
      rw [← hG.K i]
      exact op_eqDD (room65 (hG.room i))
    · cases e
  · split at e
    · cases e
    · exact s_eqTy H _ _ v u τ Q e rx ry hq
  · split at e
    · rename_i c
      cases e
      refine s_eq hG H x y v u _ Q (by unfold gEq; rw [if_pos c]) rx ry ?_
      simpa using hq
    · cases e
theorem s_neA (hG : Fm G K mg base P w N sc k) : OpS G K (compareOp .NotEq) (gEqA true) := by
  intro H x y v u τ Q e rx ry hq
  unfold gEqA at e
  split at e
  · split at e
    · rename_i a b c
      cases e
      simp only [Bool.and_eq_true] at c
      obtain ⟨p, ks, rfl, h1, r1⟩ := rep_dic.mp rx
      obtain ⟨p', ks', rfl, h2, r2⟩ := rep_dic.mp ry
      refine ⟨fun x y H Q => ∃ a b lta lva ltb lvb, x = .ref a ∧ y = .ref b ∧ Rd H a (.dK lva) ∧ Rd H b (.dK lvb) ∧ RepsK K H lta lva ∧ RepsK K H ltb lvb ∧ dOkK lta = true ∧ dOkK ltb = true ∧ Q (.bl (xor true (lta.length == ltb.length && hitsD ltb lta))) H, fun i => ?_, p, p', a, ks, b, ks', rfl, rfl, h1, h2, r1, r2, c.1, c.2, hq _ H (Same.refl H) (rep_bl.mpr rfl)⟩
      rw [← hG.K i]
      exact op_neDD (room65 (hG.room i))
    · cases e
  · split at e
    · cases e
    · rename_i h; simp at h
  · split at e
    · rename_i c
      cases e
      refine s_ne hG H x y v u _ Q (by unfold gNe; rw [if_pos c]) rx ry ?_
      simpa using hq
    · cases e

/-! ### in, of whatever -/
theorem op_inDv {X : Cx} (hu : X.A.units + 1 < cLine) : OpR X (compareOp .In) (fun y x H Q => ∃ a o, x = .ref a ∧ DGet H a y o ∧ Q (.bl o.isSome) H) := by
  intro pins s σ H y x v u Q I ry rx h
  obtain ⟨a, o, rfl, g, q⟩ := h
  obtain rfl : u = Value.ref a := rx
  exact d_in hu I g ry fun s' I' => ⟨.bl o.isSome, H, I', rfl, q⟩
theorem op_notInDv {X : Cx} (hu : X.A.units + 1 < cLine) : OpR X (compareOp .NotIn) (fun y x H Q => ∃ a o, x = .ref a ∧ DGet H a y o ∧ Q (.bl (!o.isSome)) H) := by
  intro pins s σ H y x v u Q I ry rx h
  obtain ⟨a, o, rfl, g, q⟩ := h
  obtain rfl : u = Value.ref a := rx
  exact d_notIn hu I g ry fun s' I' => ⟨.bl (!o.isSome), H, I', rfl, q⟩
def gInA (neg : Bool) (x y : T) : Option T := match y with
  | .dic kts => (keyOf x).map fun ky => .bl (xor neg (lookT kts ky).isSome)
  | y => gIn neg x y
theorem s_inA (hG : Fm G K mg base P w N sc k) : OpS G K (compareOp .In) (gInA false) := by
  intro H x y v u τ Q e rx ry hq
  unfold gInA at e
  split at e
  · rename_i kts
    cases e4 : keyOf x with
    | none => rw [e4] at e; cases e
    | some ky =>
      rw [e4] at e
      cases e
      obtain ⟨q, kvs, rfl, hrd, rr⟩ := rep_dic.mp ry
      refine ⟨_, fun i => op_inDv (hG.hu i), q, valV kvs ky, rfl, .inl ⟨kvs, ky, hrd, keyOf_rep e4 rx, rfl⟩, ?_⟩
      rw [look_isSome rr]
      exact hq _ H (Same.refl H) (rep_bl.mpr (by simp))
  · exact s_in hG.K H x y v u τ Q e rx ry hq
theorem s_notinA (hG : Fm G K mg base P w N sc k) : OpS G K (compareOp .NotIn) (gInA true) := by
  intro H x y v u τ Q e rx ry hq
  unfold gInA at e
  split at e
  · rename_i kts
    cases e4 : keyOf x with
    | none => rw [e4] at e; cases e
    | some ky =>
      rw [e4] at e
      cases e
      obtain ⟨q, kvs, rfl, hrd, rr⟩ := rep_dic.mp ry
      refine ⟨_, fun i => op_notInDv (hG.hu i), q, valV kvs ky, rfl, .inl ⟨kvs, ky, hrd, keyOf_rep e4 rx, rfl⟩, ?_⟩
      rw [look_isSome rr]
      exact hq _ H (Same.refl H) (rep_bl.mpr (by simp))
  · exact s_notin hG.K H x y v u τ Q e rx ry hq

/-! ### max(d, default=n) of a dict of int keys -/
def maxL (d : Int) : List Int → Int
  | [] => d
  | n :: ns => ns.foldl (fun a y => if a < y then y else a) n
theorem call_maxDD {X : Cx} (hcalm : X.calm = true) : CallRK X (.builtin "max") [Str.ofString "default"] (fun xs zs H Q => ∃ (a : Addr) (kvs : List (Key × V)) (ks : List Int) (d : Int), xs = [.ref a] ∧ zs = [.int d] ∧ Rd H a (.dK kvs) ∧ kvs.map (·.1) = ks.map Sum.inl ∧ Q (.int (maxL d ks)) H) := by
  intro pins s σ H xs zs us ws Q I r rz q
  obtain ⟨a, kvs, ks, d, ex, ez, hd, hks, q⟩ := q
  subst ex
  subst ez
  obtain ⟨u, eu, rx⟩ := vals1 r
  subst eu
  cases rx
  obtain ⟨w1, ew, rw1⟩ := vals1 rz
  subst ew
  obtain ⟨tk0, rfl⟩ := (show ∃ t, w1 = Value.int d t from rw1)
  obtain ⟨z, lo, vs, rel, dd⟩ := dk_rd I.hok hd
  obtain ⟨ep, hat⟩ := dd.dictAt
  have hkeys : vs.map (·.1) = ks.map Sum.inl := rel.keys.symm.trans hks
  have hl : vs.length = ks.length := by
    have e := congrArg List.length hkeys
    rw [List.length_map, List.length_map] at e
    exact e
  have KS := PySem.W.kdl_dict (prog := X.prog) (w := X.w) (knd := mixKind X.prog X.w) (kvs := vs) (ep := ep) lo
  obtain ⟨oI, St, hit, W, st⟩ := KS.iter X.A.in1 s (I.ok.hd hcalm) hat
  have keyAt : ∀ (i : Nat) (v : Value), (∃ k x, vs[i]? = some (k, x) ∧ (mixKind X.prog X.w).is k v = true) → ∃ (n : Int) (t : Tok), ks[i]? = some n ∧ v = .int n t := by
    rintro i v ⟨k, x, e1, e2⟩
    have e3 : (vs.map (·.1))[i]? = some k := by rw [List.getElem?_map, e1]; rfl
    rw [hkeys, List.getElem?_map] at e3
    cases e4 : ks[i]? with
    | none => rw [e4] at e3; cases e3
    | some y =>
      rw [e4] at e3
      have e5 : Sum.inl y = k := Option.some.inj e3
      subst e5
      rcases keyIs_shape (show keyIs (Sum.inl y) v = true from e2) with ⟨i, t, ek, ev⟩ | ⟨z, t, ek, ev⟩
      · cases ek
        exact ⟨y, t, rfl, ev⟩
      · cases ek
  show wpAny (model X.prog X.w) X.A (call (.builtin "max") [.ref a] [(Str.ofString "default", .int d tk0)]) _ _ _
  refine PySem.call_max_walkD (hit _ _ ⟨s.heap.objs.size, _, _, _, _, _, _, s.heap, fun i j => decide (ks.getD j 0 < ks.getD i 0), rfl, W.toS, st, fun b hb => ?_, fun b o e => ?_, fun b o e => Heap.get?_push_of_some _ e, fun hz s' m => ?_, fun hp => ⟨?_, fun v s' hP m => ?_⟩⟩)
  · show b < (s.heap.push oI).objs.size
    rw [size_push']
    rcases List.mem_cons.mp hb with e | hb
    · rw [e]; exact Nat.lt_succ_self _
    · rw [List.mem_singleton.mp hb]; exact Nat.lt_succ_of_lt (KS.there _ hat).2
  · intro hm
    rw [List.mem_singleton.mp hm] at e
    exact absurd (Heap.lt_size e) (Nat.lt_irrefl _)
  · obtain ⟨h', tk, rfl, hk'⟩ := PySem.W.moved_old (s := s) (o := oI) rfl rfl m
    have : ks = [] := List.eq_nil_of_length_eq_zero (by omega)
    subst this
    exact ⟨.int d, H, I.kept (t' := tk) hk', ⟨_, rfl⟩, q⟩
  · intro i j vi vj s2 Q2 E2 _ hi hj hq
    obtain ⟨n, t, e1, rfl⟩ := keyAt i vi hi
    obtain ⟨n', t', e2, rfl⟩ := keyAt j vj hj
    have g1 : ks.getD i 0 = n := by rw [List.getD_eq_getElem?_getD, e1]; rfl
    have g2 : ks.getD j 0 = n' := by rw [List.getD_eq_getElem?_getD, e2]; rfl
    dsimp only at hq
    rw [g1, g2] at hq
    show wpAny _ _ (compareOp .Gt _ _) _ _ _
    exact gt_int hq
  · obtain ⟨h', tk, rfl, hk'⟩ := PySem.W.moved_old (s := s) (o := oI) rfl rfl m
    obtain ⟨n, t, e1, rfl⟩ := keyAt _ v hP
    cases ks with
    | nil => rw [hl] at hp; exact absurd hp (Nat.lt_irrefl 0)
    | cons y ys =>
      have e2 := (PySem.W.argBest_fold (fun a b => decide (b < a)) (0 : Int) y ys ys.length (Nat.le_refl _)).2
      rw [List.take_length] at e2
      have e3 : vs.length - 1 = ys.length := by rw [hl]; rfl
      rw [e3] at e1
      have e4 : n = maxL d (y :: ys) := by
        have : (y :: ys).getD (argBest (fun i j => decide ((y :: ys).getD j 0 < (y :: ys).getD i 0)) ys.length) 0 = n := by
          rw [List.getD_eq_getElem?_getD, e1]; rfl
        rw [← this, e2]
        unfold maxL
        simp
      subst e4
      exact ⟨.int _, H, I.kept (t' := tk) hk', ⟨_, rfl⟩, q⟩
variable {e : Expr} {de : Env' → Option T} {pos p : Pos}
def gMaxD (d : Int) (o : Option T) : Option T := match o with
  | some (.dic kts) => (keysI kts).map fun ns => .int (maxL d ns)
  | _ => none
theorem ev_maxD (hG : Fm G K mg base P w N sc k) {kp kpos : Pos} {j : Nat} {d : Int} (hm : mg "max" = none) (ha : EV G K e de) (hg : glB sc "max" = true := by rfl)
    (he : ∀ i, backTo pos (starEach [e] (G i).env) = (false, eval e (G i).env) :: backTo pos (starEach [] (G i).env) := by intro _; rfl) (hpl : ∀ i, (backTo pos (starEach [e] (G i).env)).any (·.1) = false := by intro _; rfl)
    (hs1 : ∀ i, starEach [e] (G i).env = (false, eval e (G i).env) :: starEach [] (G i).env := by intro _; rfl)
    (hall : ∀ i, (backToKw pos (keywordEach [⟨some "default", .Constant (.int d) j kp, kpos⟩] (G i).env)).all (·.1.isSome) = true := by intro _; rfl) (hnone : ∀ i, (backToKw pos (keywordEach [⟨some "default", .Constant (.int d) j kp, kpos⟩] (G i).env)).any (·.1.isNone) = false := by intro _; rfl) (hks : ∀ i, (backToKw pos (keywordEach [⟨some "default", .Constant (.int d) j kp, kpos⟩] (G i).env)).filterMap (·.1) = [Str.ofString "default"] := by intro _; rfl) :
    EV G K (.Call (.Name "max" p) [e] [⟨some "default", .Constant (.int d) j kp, kpos⟩] pos) (fun ρ => gMaxD d (de ρ)) := by
  intro ρ σ H τ Q hE hd hq
  dsimp only at hd
  unfold gMaxD at hd
  split at hd
  · rename_i kts e1
    cases e2 : keysI kts with
    | none => rw [e2] at hd; cases hd
    | some ns =>
      rw [e2] at hd
      cases hd
      refine ⟨_, fun i => pe_callBK (call_maxDD (hG.calm i)) (gl_of hG hg i) (by rw [hG.mg i]; exact hm) (by decide +kernel) (pa_cons (pe_ts i) pa_nil (hs1 i)) (pk_cons pe_int pk_nil) (by decide) (by decide) (he i) (hpl i) (hall i) (hnone i) (hks i), ?_⟩
      refine ha ρ σ H _ _ hE e1 fun v H1 s1 r1 => ?_
      obtain ⟨q, kvs, rfl, hrd, rr⟩ := rep_dic.mp r1
      exact ⟨q, kvs, ns, d, rfl, rfl, hrd, keysI_rep e2 rr, hq _ H1 s1 (rep_int.mpr rfl)⟩
  · cases hd
end DL
namespace DL
open PySem PySem.Spec PyProof.Rows L2
variable {ι : Type} {G : ι → Cx} {K : PySem.W.Frag} {mg : Str → Option Value} {base : Heap} {P : Program} {w : World} {N : List Str} {sc : Scope} {k : Nat}
variable {fr : Bool} {ow ow' owl : List Nat}

/-! ### a text from behind -/
def revS (z : Str) : Str := ⟨z.cps.toList.reverse.toArray⟩
theorem krv_all' (a : Array Nat) : (List.range a.size).filterMap (a[·]?) = a.toList := by
  obtain ⟨l⟩ := a
  induction l with
  | nil => rfl
  | cons x xs ih =>
    simp only [List.size_toArray, List.length_cons, List.range_succ_eq_map, List.filterMap_cons, List.filterMap_map] at ih ⊢
    simp only [Function.comp_def, List.getElem?_toArray, List.getElem?_cons_zero, List.getElem?_cons_succ] at ih ⊢
    rw [ih]
theorem rev_picked (z : Str) : ((Builtin.Str.strSliceIndices none none (-1) z.length).filterMap (z.cps[·]?)).toArray = (revS z).cps := by
  show ((sliceRange ((z.cps.size : Int) - 1) (-1) (-1)).filterMap (z.cps[·]?)).toArray = _
  rw [PySem.W.krv_sliceRange, PySem.W.krv_range, List.filterMap_reverse, krv_all']
  rfl
variable {e : Expr} {de : Env' → Option T} {pos p1 p2 p3 : Pos} {j : Nat}
def tRevA (K : PySem.W.Frag) (te : TE) : TE := fun σ H Q => te σ H fun x H1 => ∃ z, x = .str z ∧ z.length ≤ sizeLine ∧ Q (.str (revS z)) H1
theorem pe_revS {X : Cx} {te : TE} (he : PE X e te) : PE X (.Subscript e (.Slice none none (some (.UnaryOp .USub (.Constant (.int 1) j p1) p2)) p3) pos) (tRevA X.K te) := by
  refine ⟨fun pins s σ H Q I h => ?_⟩
  refine Subscript_ (thn (he.run pins s σ H _ I h) fun v s1 ⟨x, H1, I1, r1, q1⟩ => ?_)
  obtain ⟨z, ex, hz, q⟩ := q1
  subst ex
  obtain ⟨t, rfl⟩ := r1
  have hst : PO X (some (.UnaryOp .USub (.Constant (.int 1) j p1) p2)) (tPart (tUn (rU fun i => .int (-i)) (tC (.int 1)))) := po_some (pe_un un_neg pe_int)
  refine wpAny_Slice (thn (po_none.run pins s1 σ H1 (fun o H2 => o = none ∧ H2 = H1) I1 ⟨rfl, rfl⟩) fun vl s2 ⟨l, H2, I2, pl, el, e2⟩ => ?_)
  subst el e2
  refine thn (po_none.run pins s2 σ H2 (fun o H3 => o = none ∧ H3 = H2) I2 ⟨rfl, rfl⟩) fun vu s3 ⟨u, H3, I3, pu, eu, e3⟩ => ?_
  subst eu e3
  refine thn (hst.run pins s3 σ H3 (fun o H4 => o = some (-1) ∧ H4 = H3) I3 ⟨1, rfl, -1, rfl, rfl, rfl⟩) fun vs s4 ⟨o, H4, I4, ps, eo, e4⟩ => ?_
  subst eo e4
  have I5 : Inv X pins σ H4 { s4 with heap := s4.heap.push { cls := .type "slice", data := .fields #[vl, vu, vs] } } := I4.kept (t' := s4.toks) fun b ob q => Heap.get?_push_of_some _ q
  show wpAny (model X.prog X.w) X.A (subscriptTail e (.Slice none none (some (.UnaryOp .USub (.Constant (.int 1) j p1) p2)) p3) (.str z t) (.ref s4.heap.objs.size)) (EP X pins σ Q) X.xe { s4 with heap := s4.heap.push { cls := .type "slice", data := .fields #[vl, vu, vs] } }
  cases pl
  cases pu
  cases ps with
  | int _ tk =>
  refine tail_any (ops := [.str z t, .ref s4.heap.objs.size]) (typeIs_str _ _ _) (F.slot_str_getitem.lookup) ?_ (by with_unfolding_all rfl)
  refine wpAny_getItem_str_slice (l := none) (u := none) (st := some (-1, tk)) ⟨_, Heap.get?_push_size _ rfl, rfl, rfl⟩ rfl ?_
  show Made.post (if ((-1 : Int) == 1 && _) = true then _ else Made.str ⟨((Builtin.Str.strSliceIndices none none (-1) z.length).filterMap (z.cps[·]?)).toArray⟩) _ _
  rw [if_neg (by rw [show ((-1 : Int) == 1) = false from rfl, Bool.false_and]; exact Bool.false_ne_true), rev_picked]
  have hz' : z.cps.size ≤ sizeLine := hz
  exact ⟨by show (revS z).cps.size ≤ _; unfold revS; simpa using hz', .str (revS z), H4, I5.tok _, ⟨_, rfl⟩, q⟩
def revSD (o : Option T) : Option T := match o with
  | some (.str z) => if z.length ≤ sizeLine then some (.str (revS z)) else none
  | _ => none
theorem ev_revS (hK : ∀ i, (G i).K = K) (ha : EV G K e de) : EV G K (.Subscript e (.Slice none none (some (.UnaryOp .USub (.Constant (.int 1) j p1) p2)) p3) pos) (fun ρ => revSD (de ρ)) := by
  intro ρ σ H τ Q he hd hq
  dsimp only at hd
  unfold revSD at hd
  split at hd
  · split at hd
    · rename_i z e1 c
      cases hd
      refine ⟨tRevA K (ES G e), fun i => by rw [← hK i]; exact pe_revS (pe_ts i), ?_⟩
      exact ha ρ σ H _ _ he e1 fun v H1 s1 r1 => ⟨z, rep_str.mp r1, c, hq _ H1 s1 (rep_str.mpr rfl)⟩
    · cases hd
  · cases hd

/-! ### the whole of a tuple by a slice -/
theorem getItem_tuple_whole {prog : Program} {w : World} {A : Around} {E : Value → Shared → Prop} {s : Shared} {t sl : Addr} {items : Array Value} {vl vu : Value} {lo hi : Option Int} {Q : Value → Shared → Prop} (ht : IsTup s.heap t items) (hs : s.heap.IsSliceOf sl vl vu .none) (pl : IsPart vl lo) (pu : IsPart vu hi)
    (hw : HT.sIx items.size 0 lo = 0 ∧ HT.sIx items.size items.size hi = items.size) (h : Q (.ref t) s) : wpAny (model prog w) A (getItem (.ref t) (.ref sl)) Q E s := by
  obtain ⟨os, hos, hcs, hds⟩ := id hs
  have hTs : s.TypeIs (.ref sl) "slice" := ⟨os, hos, hcs⟩
  unfold getItem
  try with_reducible refine wpAny_holding ?_
  first | refine wpAny_bind (wpAny_pure ?_) | skip
  refine wpAny_bind (wpAny_sequenceKey ht.typeIs (by decide) ?_)
  refine wpAny_bind (wpAny_callSpecial?_slot (name := Str.ofString "__getitem__") ht.typeIs PyProof.Rows.slot_tuple_getitem
    (wpAny_call_entry PyProof.Rows.slot_tuple_getitem ht.typeIs entry_tuple_getitem ?_ (args_tuple_getitem _ _)))
  show wpAny _ _ (Builtin.Tuple.tupleItemsOf (.ref t) >>= _) _ _ s
  refine wpAny_bind (tupleItemsOf_ ht ?_)
  refine wpAny_bind (wpAny_typeOf hTs ?_)
  rw [if_pos (by decide)]
  refine wpAny_bind (HT.sliceApplied_gen hs pl pu ?_)
  show wpAny _ _ (if (((HT.sIx items.size 0 lo : Nat) : Int) == 0 && (1 : Int) == 1 && (HT.sIx items.size items.size hi - HT.sIx items.size 0 lo) == items.size) = true then _ else _) _ _ s
  rw [if_pos (by rw [hw.1, hw.2]; simp)]
  have hex : ∀ (Q' : Bool → Shared → Prop), Q' true s → wpAny (model prog w) A.in1 (Builtin.Tuple.tupleIsExact (.ref t)) Q' E s := fun Q' hq => by
    unfold Builtin.Tuple.tupleIsExact
    refine wpAny_bind (wpAny_typeOf ht.typeIs (wpAny_pure ?_))
    simpa using hq
  refine wpAny_bind (hex _ ?_)
  rw [if_pos rfl]
  exact wpAny_bind (wpAny_rule (wpAny_pure ⟨_, rfl, wpAny_pure h⟩))
theorem sl_tupA {X : Cx} : SlR X (rSlA X.K) := by
  intro pins s σ H x v vl vu lo hi sl Q I rx hs pl pu h
  obtain ⟨a, xs, rfl, hx, h⟩ := h
  rcases h with ⟨hw, q⟩ | ⟨hw, q⟩
  · exact sl_tup pins s σ H _ v vl vu lo hi sl Q I rx hs pl pu ⟨a, xs, rfl, hx, hw, q⟩
  · cases rx
    obtain ⟨its, r, ht, hz⟩ := I.tuple hx
    have hlen : its.toArray.size = xs.length := by rw [List.size_toArray]; exact r.length.symm
    refine ⟨"tuple", _, PyProof.Rows.slot_tuple_getitem.lookup, ht.typeIs, ?_⟩
    exact getItem_tuple_whole ht hs pl pu (by rw [hlen]; exact hw) ⟨.ref a, H, I, rfl, q⟩
variable {a : Expr} {da : Env' → Option T} {lo hi : Option Expr} {dl dh : Env' → Option (Option Int)}
theorem ev_slc (hK : ∀ i, (G i).K = K) (ha : EV G K a da) (hl : PV G K lo dl) (hh : PV G K hi dh) : EV G K (.Subscript a (.Slice lo hi none p2) pos) (fun ρ => b3 gSl (da ρ) (dl ρ) (dh ρ)) := ev_slice hK ha hl hh fun i => sl_tupA
end DL
namespace DL
open PySem PySem.Spec PyProof.Rows L2
variable {ι : Type} {G : ι → Cx} {K : PySem.W.Frag} {mg : Str → Option Value} {base : Heap} {P : Program} {w : World} {N : List Str} {sc : Scope} {k : Nat}
variable {fr : Bool} {ow ow' owl : List Nat}
/-! ### the loops' denotations by name -/
def forI (bd : Env' → T → Option Env') (db : Env' → Out) (o : Option (List T)) (ρ : Env') : Out := match o with
  | some τs => forD bd db τs ρ
  | none => .er
def forK (lst : List (Key × T) → List T) (bd : Env' → T → Option Env') (db : Env' → Out) (o : Option T) (ρ : Env') : Out := match dicOf o with
  | some kts => forD bd db (lst kts) ρ
  | none => .er
def unpD (free : Bool) (bd : Env' → T → Option Env') (o : Option T) (ρ : Env') : Out := match o with
  | some τ => if (free || imm τ) = true then (match bd ρ τ with | some ρ' => .nx ρ' | none => .er) else .er
  | none => .er
variable {tg iter e : Expr} {bd : Env' → T → Option Env'} {body : List Stmt} {db : Env' → Out} {dl : Env' → Option (List T)} {de : Env' → Option T} {pos : Pos} {vs ts : List Nat}
theorem sv_forI (hG : Fm G K mg base P w N sc k) (hpo : ∀ i, PassesOwn (model (G i).prog (G i).w) (G i).A (G i).env (G i).xe) (hi : IV G K ow tg iter dl) (ht : TV G K ow tg vs bd) (hb : SV K fr ow ow ow (TSs G body) db)
    (hs : ∀ i x, foldedSetIterable iter (G i).env x = pure x := by intro _ _; rfl) : SV K fr ow ow owl (TSt G (.For tg iter body [] pos)) (fun ρ => forI bd db (dl ρ) ρ) := sv_for hG hpo hi ht hb hs
theorem sv_forKs {lst : List (Key × T) → List T} (hG : Fm G K mg base P w N sc k) (hpo : ∀ i, PassesOwn (model (G i).prog (G i).w) (G i).A (G i).env (G i).xe) (j : Nat) (nj : j ∉ ow) (hi : KI G K j tg iter lst) (ht : TV G K ow tg vs bd) (hb : SV K fr ow ow ow (TSs G body) db)
    (hs : ∀ i x, foldedSetIterable iter (G i).env x = pure x := by intro _ _; rfl) : SV K fr ow ow owl (TSt G (.For tg iter body [] pos)) (fun ρ => forK lst bd db (nd j ρ) ρ) := sv_forK hG hpo j nj hi ht hb hs
theorem sv_unp (h : EV G K e de) (ht : TV G K ow tg ts bd) (hs : ∀ i, swapsWithSole [tg] e pos.line (G i).env = pure false := by intro _; rfl) (hw : ∀ i, swappedStores [tg] e (G i).env = pure none := by intro _; rfl)
    (h1 : ∀ i, (assignEach [tg] (G i).env).map (·.2) = [assign tg (G i).env] := by intro _; rfl) : SV K fr ow ow owl (TSt G (.Assign [tg] e pos)) (fun ρ => unpD ow.isEmpty bd (de ρ) ρ) := sv_unpack h ht hs hw h1
end DL
namespace DL
open PySem PySem.Spec PyProof.Rows L2
variable {ι : Type} {G : ι → Cx} {K : PySem.W.Frag} {mg : Str → Option Value} {base : Heap} {P : Program} {w : World} {N : List Str} {sc : Scope} {k : Nat}
variable {fr : Bool} {ow ow' owl : List Nat}
/-- the promise of a def, at its own function object -/
theorem fn_ok {x : Str} {st : Stmt} {f : Addr} {fd : FuncData} {ps : List Str} {d : Env' → Out} {df : List T → Option T} (F : Fun K x x st f fd) (S : FnScope N ps (defScope st)) {ow' : List Nat}
    (body : ∀ (G : Unit → Cx), Fb G K mg base P w N (defScope st) k → SV K fr [] ow' [] (TSs G (defBody st)) d) (hd : ∀ ts, ts.length = ps.length → ∀ τ, df ts = some τ → fnD N fr d ts = some τ) :
    FnOk P w K mg base CX0 (k + 1) f fd ps (spD K ps.length fr df) := by
  have hpl : ps.length ≤ N.length := by
    have := congrArg List.length S.pre
    rw [List.length_take] at this
    omega
  refine F.ok S (fun vs H Q E h => ?_) (fun cdv A outer s H vs Q E hr h => ?_)
  · obtain ⟨ts, τ, r, hl, _⟩ := h
    rw [← r.length]; exact hl
  · obtain ⟨ts, τ, r, hl, e, q⟩ := h
    have e := hd ts hl τ e
    have hF : Fb (fun _ : Unit => (cxOf CX0 P w K mg base N x (defScope st) f cdv A outer s H E).nox) K mg base P w N (defScope st) k :=
      { K := fun _ => rfl, mg := fun _ => rfl, base := fun _ => rfl, P := fun _ => rfl, w := fun _ => rfl, N := fun _ => rfl, sc := fun _ => rfl, calm := fun _ => rfl, room := fun _ => hr,
        po := fun _ => PassesOwn.never, fb := ⟨fun _ _ => .inl rfl⟩ }
    refine ⟨_, pss_ss (G := fun _ : Unit => (cxOf CX0 P w K mg base N x (defScope st) f cdv A outer s H E).nox) (), ?_⟩
    refine body _ hF H (rho0 N ts) (L2.start N vs) H _ ⟨H, Same.refl H, start_str r (by omega)⟩ ?_
    unfold fnD at e
    split at e
    · rename_i t eo
      cases e
      rw [eo]
      exact fun v H' s r => q v H' s r
    · rename_i ρ' eo
      rw [eo]
      split at e
      · cases e
      · rename_i c
        cases e
        refine fun σ' H' hr' => q _ H' hr'.sm ?_
        unfold RtR
        rw [if_neg c]
        exact rep_non.mpr rfl
    · cases e
/-- a def that is never called -/
theorem cl_none {x : Str} {st : Stmt} {f : Addr} {fd : FuncData} {ps : List Str} {j n : Nat} (F : Fun K x x st f fd) (hm : mg x = some (.ref f)) (hb : Binds K fd ps []) : Cl P w K mg base j x (spD K n fr fun _ => none) :=
  ⟨⟨f, fd, ps, ⟨fun vs H Q E h => (by obtain ⟨ts, τ, r, hl, e, _⟩ := h; cases e), fun A outer s H args us vs Q E hr he hb hv h => (by obtain ⟨ts, τ, r, hl, e, _⟩ := h; cases e)⟩, hm, F.kp, hb⟩⟩
/-- list(d) too -/
def gListA : List T → Option T
  | [.dic kts] => some (.lst (kts.map fun p => keyT p.1))
  | ts => gList ts
theorem reps_keys {H : Hp} : ∀ {kts : List (Key × T)} {kvs : List (Key × V)}, RepsK K H kts kvs → Reps K H (kts.map fun p => keyT p.1) (kvs.map fun kv => kV kv.1)
  | [], kvs, h => by
    unfold RepsK at h
    subst h
    exact .nil
  | (ky, t) :: r, kvs, h => by
    unfold RepsK at h
    obtain ⟨v, kr, rfl, h1, h2⟩ := h
    exact .cons (keyT_rep ky) (reps_keys h2)
theorem c_listA (hG : Fm G K mg base P w N sc k) : ClF G K (.type "list") gListA := by
  intro H ts vs τ Q e r hq
  unfold gListA at e
  split at e
  · rename_i kts
    cases e
    obtain ⟨v, rfl, rv⟩ := reps1 r
    obtain ⟨a, kvs, rfl, q, rr⟩ := rep_dic.mp rv
    exact ⟨_, fun i => call_listD (hG.calm i), a, kvs, rfl, q, fun p np => hq p _ _ (same_upd' np) np upd_same (.inl ⟨_, _, rfl, rfl, (reps_keys rr).same (same_upd' np)⟩)⟩
  · exact c_list hG.K H ts vs τ Q e r hq
/-- the law's promise, from its denotation -/
theorem law_sp {K : PySem.W.Frag} {df : List T → Option T} (h : ∀ ns : List Int, ns.length ≤ 63 → df [.scr (ns.map T.int)] = some (.bl true)) (H : Hp) (a : Addr) (ns : List Int) (hl : ns.length ≤ 63) (hS : SqL K H a (ns.map V.int)) :
    spD K 1 false df [.ref a] H (fun v _ => v = .bl true) fun _ _ _ => False := by
  refine ⟨[.scr (ns.map T.int)], .bl true, ?_, rfl, h ns hl, fun v H' s r => rep_bl.mp (show Rep K H' (.bl true) v from r)⟩
  exact .cons (rep_scr.mpr ⟨a, _, rfl, hS, reps_ints ns⟩) .nil
end DL
namespace DL
open PySem PySem.Spec PyProof.Rows L2
section
variable {X : Cx}
/-! ### xs[a::n] -/
def stepIx (c : Nat) (lo : Option Int) (n : Nat) : List Nat :=
  sliceRange (sliceBounds lo none (some (c : Int)) n).1 (sliceBounds lo none (some (c : Int)) n).2.1 (sliceBounds lo none (some (c : Int)) n).2.2
theorem stepRange_len {c n : Nat} (hc : 0 < c) {st : Int} (hst : 0 ≤ st) : (sliceRange st n c).length ≤ n := by
  have h0 : (0 : Int) < c := by omega
  have h1 : (c : Int) > 0 := h0
  unfold sliceRange
  simp only [h1, if_true, List.length_map, List.length_range]
  by_cases h : st < (n : Int)
  · rw [if_pos h]
    have h2 : (n : Int) - st + c - 1 ≤ n * c := by
      have := Int.mul_nonneg (show (0 : Int) ≤ (n : Int) - 1 by omega) (show (0 : Int) ≤ (c : Int) - 1 by omega)
      rw [Int.sub_mul, Int.mul_sub] at this
      omega
    have := Int.ediv_le_of_le_mul h0 h2
    omega
  · rw [if_neg h]; simp
theorem stepIx_len {c : Nat} (hc : 0 < c) (lo : Option Int) (n : Nat) : (stepIx c lo n).length ≤ n := by
  have h1 : (c : Int) > 0 := by omega
  unfold stepIx sliceBounds
  cases lo with
  | none => simp only [Option.getD_some, h1, if_true]; exact stepRange_len hc (by omega)
  | some i => simp only [Option.getD_some, h1, if_true]; exact stepRange_len hc (by omega)
/-- every c-th item from lo on -/
def stepA {α : Type} (c : Nat) (lo : Option Int) (xs : List α) : List α := (stepIx c lo xs.length).filterMap (xs[·]?)
theorem paired_step {α β : Type} {R : α → β → Prop} {xs : List α} {ys : List β} (h : Paired R xs ys) : ∀ is : List Nat, Paired R (is.filterMap (xs[·]?)) (is.filterMap (ys[·]?))
  | [] => .nil
  | i :: is => by
    have ih := paired_step h is
    have hi : (∃ x y, xs[i]? = some x ∧ ys[i]? = some y ∧ R x y) ∨ (xs[i]? = none ∧ ys[i]? = none) := by
      clear ih
      induction h generalizing i with
      | nil => exact .inr ⟨by simp, by simp⟩
      | cons h1 h2 ihh =>
        cases i with
        | zero => exact .inl ⟨_, _, rfl, rfl, h1⟩
        | succ i => simpa using ihh i
    rcases hi with ⟨x, y, e1, e2, r⟩ | ⟨e1, e2⟩
    · rw [List.filterMap_cons_some e1, List.filterMap_cons_some e2]; exact .cons r ih
    · rw [List.filterMap_cons_none e1, List.filterMap_cons_none e2]; exact ih
def tStepL (K : PySem.W.Frag) (c : Nat) (te : TE) (tl : TO) : TE := fun σ H Q => te σ H fun x H1 => tl σ H1 fun lo H2 => ∃ a xs, x = .ref a ∧ SqL K H2 a xs ∧ ∀ p, H2 p = none → Q (.ref p) (upd H2 p (.lst (stepA c lo xs)))
theorem pe_stepL {e : Expr} {lo : Option Expr} {te : TE} {tl : TO} {c : Nat} {j : Nat} {p1 p3 pos : Pos} (hc : (c : Int) ≠ 0) (he : PE X e te) (hl : PO X lo tl) : PE X (.Subscript e (.Slice lo none (some (.Constant (.int (c : Int)) j p1)) p3) pos) (tStepL X.K c te tl) := by
  refine ⟨fun pins s σ H Q I h => ?_⟩
  refine Subscript_ (thn (he.run pins s σ H _ I h) fun v s1 ⟨x, H1, I1, r1, q1⟩ => ?_)
  have hst : PO X (some (.Constant (.int (c : Int)) j p1)) (tPart (tC (.int (c : Int)))) := po_some pe_int
  refine wpAny_Slice (thn (hl.run pins s1 σ H1 _ I1 q1) fun vl s2 ⟨l, H2, I2, pl, a, xs, ex, hx, q⟩ => ?_)
  subst ex
  cases r1
  refine thn (po_none.run pins s2 σ H2 (fun o H3 => o = none ∧ H3 = H2) I2 ⟨rfl, rfl⟩) fun vu s3 ⟨u, H3, I3, pu, eu, e3⟩ => ?_
  subst eu e3
  refine thn (hst.run pins s3 σ H3 (fun o H4 => o = some (c : Int) ∧ H4 = H3) I3 ⟨(c : Int), rfl, rfl, rfl⟩) fun vs s4 ⟨o, H4, I4, ps, eo, e4⟩ => ?_
  subst eo e4
  have I5 : Inv X pins σ H4 { s4 with heap := s4.heap.push { cls := .type "slice", data := .fields #[vl, vu, vs] } } := I4.kept (t' := s4.toks) fun b ob q => Heap.get?_push_of_some _ q
  obtain ⟨its, r, ht, hz⟩ := I5.list hx
  have hlen := r.length
  show wpAny (model X.prog X.w) X.A (subscriptTail e (.Slice lo none (some (.Constant (.int (c : Int)) j p1)) p3) (.ref a) (.ref s4.heap.objs.size)) (EP X pins σ Q) X.xe { s4 with heap := s4.heap.push { cls := .type "slice", data := .fields #[vl, vu, vs] } }
  refine tail_any (ops := [.ref a, .ref s4.heap.objs.size]) ht.isList.typeIs (PySem.slot_list_getitem.lookup) ?_ (by with_unfolding_all rfl)
  refine wpAny_getItem_list_slice ht.isList (Heap.IsSliceOf.new _ vl vu vs) pl pu ps (by intro z; cases z; exact hc rfl) ?_ (by rw [List.size_toArray]; omega)
  have hp : slicePick its.toArray l none (some (c : Int)) = (stepA c l its).toArray := by
    unfold slicePick stepA stepIx
    simp
  rw [hp]
  have hr : Vals (stepA c l xs) (stepA c l its) := by
    unfold stepA
    rw [hlen]
    exact paired_step r _
  have hle : (stepA c l xs).length ≤ sizeLine := by
    exact Nat.le_trans (Nat.le_trans (List.length_filterMap_le _ _) (stepIx_len (by omega) _ _)) hz
  refine ⟨.ref _, _, I5.laid (t' := s4.toks) (o := .lst (stepA c l xs)) (fun b ob q => Heap.get?_push_of_some _ q) (Nat.le_refl _) ?_, rfl, q _ (I5.hok.fresh (Nat.le_refl _))⟩
  exact ⟨hle, _, 0, hr, Heap.get?_push_size _ rfl⟩

/-! ### list(d.values()) -/
def tListVals (td : TE) : TE := fun σ H Q => td σ H fun x H1 => ∃ a kvs, x = V.ref a ∧ Rd H1 a (.dK kvs) ∧ ∀ p, H1 p = none → Q (.ref p) (upd H1 p (.lst (kvs.map fun kv => kv.2)))
theorem kv_snd {kvs : List (Key × V)} {vs : List (Key × Value)} (h : KV kvs vs) : Vals (kvs.map fun kv => kv.2) (vs.map fun kv => kv.2) := by
  unfold KV at h
  induction h with
  | nil => exact .nil
  | cons h1 _ ih => exact .cons h1.2 ih
theorem pe_listVals {o : Expr} {p pos apos mpos : Pos} {td : TE} (hc : X.calm = true) (hg : Gl X "list") (hm : X.mg "list" = none) (hd : PE X o td) (hbase : attributeBase o "values" X.env (eval o X.env) = eval o X.env := by rfl) (hline : (apos.endLine == mpos.line) = true := by rfl)
    (hse : starEach [Expr.Call (.Attribute o "values" apos) [] [] mpos] X.env = [(false, eval (Expr.Call (.Attribute o "values" apos) [] [] mpos) X.env)] := by rfl) :
    PE X (.Call (.Name "list" p) [.Call (.Attribute o "values" apos) [] [] mpos] [] pos) (tListVals td) := by
  refine ⟨fun pins s σ H Q I h => ?_⟩
  refine wpAny_Call_Name_kw (ld_blt I hg hm (u := .type "list") (by first | rfl | decide +kernel) ?_ (by first | decide +kernel | decide) (by first | decide +kernel | decide))
  rw [hse]
  refine PySem.callWith_type1 (wpAny_Call_method0_late hbase hline (thn (hd.run pins s σ H _ I h) fun v s1 ⟨x, H1, I1, r1, a, kvs, ex, ha, q⟩ => ?_))
  subst ex
  obtain rfl : v = Value.ref a := r1
  obtain ⟨hz, hsys, vs, rel, dof⟩ := dk_rd I1.hok ha
  obtain ⟨ep, dat⟩ := dof.dictAt
  have dat' := dat
  obtain ⟨ob, es, ho, ex, hdat, hko, hpr, hnd⟩ := dat'
  refine ⟨"dict", "dict.values", F.plainAttrs_dict, F.slot_dict_values, F.type_dict_values, ⟨ob, ho, ex.1⟩, fun b e => ?_, Calls.callWith_builtin rfl (PySem.evalArgs_none ?_)⟩
  · cases e
    exact ⟨ob, ho, ex.2.1⟩
  refine call_meetsIn F.slot_dict_values ⟨ob, ho, ex.1⟩ F.entry_dict_values (F.args_dict_values_1 _) (meets_dict_values (mixKind X.prog X.w) a hsys) ⟨⟨vs, dof⟩, ?_⟩
  have dat1 : (s1.heap.push { cls := .type "dict_values", data := .fields #[.ref a] }).DictAt (mixKind X.prog X.w) a vs ep := dat.keep fun b u e => Heap.get?_push_of_some _ e
  refine PySem.W.kdl_call (PySem.W.kdl_values (knd := mixKind X.prog X.w) (kvs := vs) (ep := ep) (r := s1.heap.objs.size)) (I.ok.hd hc) ⟨⟨_, Heap.get?_push_size _ rfl, rfl, rfl⟩, dat1⟩ (by rw [← rel.length]; exact hz) fun h' tk acc c' hk hD hacc => ?_
  have hvs : acc.toList = vs.map fun kv => kv.2 := PySem.W.kdl_vals_eq acc.toList (by rw [Array.length_toList]; exact hacc.1) fun j v e => hacc.2 j v (by rw [← Array.getElem?_toList]; exact e)
  have hsz : (s1.heap.push { cls := .type "dict_values", data := .fields #[.ref a] }).objs.size = s1.heap.objs.size + 1 := Heap.size_push _ _
  have keep : ∀ b o, s1.heap.get? b = some o → h'.get? b = some o := fun b o e => hk b o (Heap.get?_push_of_some _ e)
  have hfree : H1 (s1.heap.objs.size + 1) = none := I1.hok.fresh (Nat.le_succ _)
  rw [hsz] at hD
  refine ⟨.ref (s1.heap.objs.size + 1), upd H1 (s1.heap.objs.size + 1) (.lst (kvs.map fun kv => kv.2)), ?_, by rw [hsz]; rfl, q _ hfree⟩
  exact I1.laid (t' := tk) (o := .lst (kvs.map fun kv => kv.2)) keep (Nat.le_succ _) ⟨by rw [List.length_map]; exact hz, acc.toList, c', by rw [hvs]; exact kv_snd rel, by rw [Array.toArray_toList]; exact hD⟩
end
variable {ι : Type} {G : ι → Cx} {K : PySem.W.Frag} {mg : Str → Option Value} {base : Heap} {P : Program} {w : World} {N : List Str} {sc : Scope} {k : Nat}
theorem Reps.step {H : Hp} {ts : List T} {vs : List V} (h : Reps K H ts vs) (c : Nat) (lo : Option Int) : Reps K H (stepA c lo ts) (stepA c lo vs) := by
  unfold stepA
  rw [h.length]
  exact Reps.paired.mpr (paired_step (Reps.paired.mp h) _)
def stepD (c : Nat) (o : Option T) (l : Option (Option Int)) : Option T := match o, l with
  | some (.lst ts), some lo => if 0 < c then some (.lst (stepA c lo ts)) else none
  | _, _ => none
theorem evf_step (hK : ∀ i, (G i).K = K) {a : Expr} {da : Env' → Option T} {lo : Option Expr} {dl : Env' → Option (Option Int)} {c : Nat} {j : Nat} {p1 p3 pos : Pos} (ha : EV G K a da) (hl : PV G K lo dl) :
    EVF G K (.Subscript a (.Slice lo none (some (.Constant (.int (c : Int)) j p1)) p3) pos) (fun ρ => stepD c (da ρ) (dl ρ)) := by
  intro ρ σ H τ Q he hd hq
  dsimp only at hd
  unfold stepD at hd
  split at hd
  · rename_i ts l e1 e2
    split at hd
    · rename_i hc
      cases hd
      refine ⟨tStepL K c (ES G a) (OTs G lo), fun i => by rw [← hK i]; exact pe_stepL (by omega) (pe_ts i) (po_ot i), ?_⟩
      refine ha ρ σ H _ _ he e1 fun v H1 s1 r1 => ?_
      refine hl ρ σ H1 _ _ (he.same s1) e2 fun H2 s2 => ?_
      obtain ⟨p, vs, rfl, q, rr⟩ := rep_lst.mp (Rep.same s2 r1)
      exact ⟨p, vs, rfl, .inl (.inl q), fun p' np => hq p' _ _ ((s1.trans s2).trans (same_upd' np)) ((s1.trans s2).free np) upd_same (.inl ⟨_, _, rfl, rfl, (rr.step c l).same (same_upd' np)⟩)⟩
    · cases hd
  · cases hd
def valsD (o : Option T) : Option T := match o with
  | some (.dic kts) => some (.lst (kts.map fun p => p.2))
  | _ => none
theorem reps_vals {H : Hp} : ∀ {kts : List (Key × T)} {kvs : List (Key × V)}, RepsK K H kts kvs → Reps K H (kts.map fun p => p.2) (kvs.map fun kv => kv.2)
  | [], kvs, h => by
    unfold RepsK at h
    subst h
    exact .nil
  | (ky, t) :: r, kvs, h => by
    unfold RepsK at h
    obtain ⟨v, kr, rfl, h1, h2⟩ := h
    exact .cons h1 (reps_vals h2)
theorem evf_listvals (hG : Fm G K mg base P w N sc k) {o : Expr} {p pos apos mpos : Pos} {da : Env' → Option T} (hm : mg "list" = none) (ha : EV G K o da) (hg : glB sc "list" = true := by rfl)
    (hbase : ∀ i, attributeBase o "values" (G i).env (eval o (G i).env) = eval o (G i).env := by intro _; rfl) (hline : (apos.endLine == mpos.line) = true := by rfl)
    (hse : ∀ i, starEach [Expr.Call (.Attribute o "values" apos) [] [] mpos] (G i).env = [(false, eval (Expr.Call (.Attribute o "values" apos) [] [] mpos) (G i).env)] := by intro _; rfl) :
    EVF G K (.Call (.Name "list" p) [.Call (.Attribute o "values" apos) [] [] mpos] [] pos) (fun ρ => valsD (da ρ)) := by
  intro ρ σ H τ Q he hd hq
  dsimp only at hd
  unfold valsD at hd
  split at hd
  · rename_i kts e1
    cases hd
    refine ⟨tListVals (ES G o), fun i => pe_listVals (hG.calm i) (gl_of hG hg i) (by rw [hG.mg i]; exact hm) (pe_ts i) (hbase i) hline (hse i), ?_⟩
    refine ha ρ σ H _ _ he e1 fun v H1 s1 r1 => ?_
    obtain ⟨a, kvs, rfl, q, rr⟩ := rep_dic.mp r1
    exact ⟨a, kvs, rfl, q, fun p np => hq p _ _ (s1.trans (same_upd' np)) (s1.free np) upd_same (.inl ⟨_, _, rfl, rfl, (reps_vals rr).same (same_upd' np)⟩)⟩
  · cases hd
end DL
namespace DL
open PySem PySem.Spec PyProof.Rows L2
variable {ι : Type} {G : ι → Cx} {K : PySem.W.Frag} {mg : Str → Option Value} {base : Heap} {P : Program} {w : World} {N : List Str} {sc : Scope} {k : Nat}
variable {fr : Bool} {ow ow' owl : List Nat}
/-! ### zip -/
theorem walks_zipT {B : Hp} {a b : Addr} {xs ys : List T} {us vs : List V} (qa : SqT K B a us) (ra : Reps K B xs us) (qb : SqT K B b vs) (rb : Reps K B ys vs) : Walks K (RZ.ItzT K a b) B (zipL xs ys) := by
  refine ⟨fun i H s hi => ?_, fun i H s hi => ?_, fun i t H v H' s e y => ?_⟩
  · rw [zipL_length] at hi
    obtain ⟨u, e1, _⟩ := ra.get (i := i) (List.getElem?_eq_getElem (by omega))
    obtain ⟨v, e2, _⟩ := rb.get (i := i) (List.getElem?_eq_getElem (by omega))
    exact ⟨us, vs, u, v, same_sqT s qa, same_sqT s qb, e1, e2⟩
  · rw [zipL_length] at hi
    refine ⟨us, vs, same_sqT s qa, same_sqT s qb, ?_⟩
    rw [← ra.length, ← rb.length]
    omega
  · obtain ⟨t', u, v', rfl, nt, rfl, f1, f2⟩ := y
    obtain ⟨x, z, e1, e2, rfl⟩ := zipL_get e
    obtain ⟨u2, eu, ru⟩ := ra.get e1
    obtain ⟨v2, ev, rv⟩ := rb.get e2
    have h1 := f1 us (same_sqT s qa)
    have h2 := f2 vs (same_sqT s qb)
    rw [eu] at h1; cases h1
    rw [ev] at h2; cases h2
    refine ⟨same_upd' nt, rep_tup.mpr ⟨t', _, rfl, .inl (.inl (addT_newtup s nt)), ?_⟩⟩
    exact .cons (ru.same same_addT) (.cons (rv.same same_addT) .nil)
def zipI (a b : Option T) : Option (List T) := match a, b with
  | some (.lst xs), some (.lst ys) => some (zipL xs ys)
  | some (.tup xs), some (.tup ys) => some (zipL xs ys)
  | _, _ => none
theorem iv_zip (hG : Fm G K mg base P w N sc k) {elts : List Expr} {kk : Nat} {tpos : Pos} {a b : Expr} {da db : Env' → Option T} {p pos : Pos} (hm : mg "zip" = none) (h : EV G K a da) (h' : EV G K b db) (hg : glB sc "zip" = true := by rfl)
    (hs : ∀ i, starEach [a, b] (G i).env = [(false, eval a (G i).env), (false, eval b (G i).env)] := by intro _; rfl) (hs2 : ∀ i, starEach [b] (G i).env = [(false, eval b (G i).env)] := by intro _; rfl) :
    IV G K [] (.Tuple elts kk tpos) (.Call (.Name "zip" p) [a, b] [] pos) (fun ρ => zipI (da ρ) (db ρ)) := by
  intro B ρ σ H τs hr hd R hR
  dsimp only at hd
  have key : ∀ (τ τ' : T) (Q : V → V → Hp → Prop), da ρ = some τ → db ρ = some τ' →
      (∀ v v' H2 B2, Same B B2 → Same H H2 → StR' K B2 [] ρ σ H2 → Rep K B2 τ v → Rep K B2 τ' v' → Q v v' H2) →
      ES G a σ H fun v H1 => ES G b σ H1 fun v' H2 => Q v v' H2 := by
    intro τ τ' Q e1 e2 hQ
    refine h ρ σ H τ _ hr.env e1 fun v H1 s r => ?_
    refine h' ρ σ H1 τ' _ (hr.grow s).env e2 fun v' H2 s2 r2 => ?_
    obtain ⟨B1, sb1, q1, r1⟩ := (hr.grow (s.trans s2)).settle (.inl rfl) (Rep.same s2 r)
    obtain ⟨B2, sb2, q2, r3⟩ := q1.settle (.inl rfl) r2
    exact hQ v v' H2 B2 (sb1.trans sb2) (s.trans s2) q2 (Rep.same sb2 r1) r3
  unfold zipI at hd
  split at hd
  · rename_i xs ys e1 e2
    cases hd
    refine ⟨RZ.iZipA K (tCons (ES G a) (tCons (ES G b) tNil)), fun i => by rw [← hG.K i]; exact RZ.pi_zipA (gl_of hG hg i) (by rw [hG.mg i]; exact hm) (pa_cons (pe_ts i) (pa_cons (pe_ts i) pa_nil (hs2 i)) (by rw [hs i, hs2 i])) (by rw [hs i, hs2 i]) (by rw [hs2 i]; rfl), ?_⟩
    refine key _ _ _ e1 e2 fun v v' H2 B2 sb sh q r r' => ?_
    obtain ⟨x, us, rfl, qx, rx⟩ := rep_lst.mp r
    obtain ⟨y, vs, rfl, qy, ry⟩ := rep_lst.mp r'
    exact ⟨x, y, us, vs, rfl, .inl ⟨q.sm.seq (.inl (.inl qx)), q.sm.seq (.inl (.inl qy)), hR _ H2 B2 sb sh q (walks_zip (.inl (.inl qx)) rx (.inl (.inl qy)) ry)⟩⟩
  · rename_i xs ys e1 e2
    cases hd
    refine ⟨RZ.iZipA K (tCons (ES G a) (tCons (ES G b) tNil)), fun i => by rw [← hG.K i]; exact RZ.pi_zipA (gl_of hG hg i) (by rw [hG.mg i]; exact hm) (pa_cons (pe_ts i) (pa_cons (pe_ts i) pa_nil (hs2 i)) (by rw [hs i, hs2 i])) (by rw [hs i, hs2 i]) (by rw [hs2 i]; rfl), ?_⟩
    refine key _ _ _ e1 e2 fun v v' H2 B2 sb sh q r r' => ?_
    obtain ⟨x, us, rfl, qx, rx⟩ := rep_tup.mp r
    obtain ⟨y, vs, rfl, qy, ry⟩ := rep_tup.mp r'
    exact ⟨x, y, us, vs, rfl, .inr ⟨same_sqT q.sm qx, same_sqT q.sm qy, hR _ H2 B2 sb sh q (walks_zipT qx rx qy ry)⟩⟩
  · cases hd
end DL
/-! DL18: list(zip(xs, ys)) of two lists. -/
namespace ZL
open PySem PySem.Calls PyProof.Rows PySem.Spec PySem.W
theorem zip_no_len : typeLookup (.type "zip") "__len__" = pure none := am_miss_of_fast (by decide +kernel)
theorem zip_no_hint : typeLookup (.type "zip") "__length_hint__" = pure none := am_miss_of_fast (by decide +kernel)
section
variable {prog : Program} {w : World} {A : Around} {E : Value → Shared → Prop} {s : Shared}
theorem hint {r : Addr} (hT : s.TypeIs (.ref r) "zip") {Q : Bool → Shared → Prop} (h : Q true s) : wpAny (model prog w) A (Builtin.List.listLengthHint (.ref r)) Q E s := by
  unfold Builtin.List.listLengthHint
  refine wpAny_bind (wpAny_specialOf hT zip_no_len ?_)
  refine wpAny_ite_split (fun hab => absurd hab (by decide)) (fun _ => ?_)
  refine wpAny_ite_split (fun hab => absurd hab (by decide)) (fun _ => ?_)
  refine wpAny_bind (wpAny_specialOf hT zip_no_hint ?_)
  exact wpAny_pure h
end
/-- a zip in its turn i, while the list S is being filled -/
structure St (z TI TO i1 i2 l1 l2 S : Addr) (xs ys : Array Value) (i : Nat) (h : Heap) : Prop where
  pTI : IsPair h TI (.ref i1) (.ref i2)
  la : h.IsListIter i1 l1 i
  lb : h.IsListIter i2 l2 i
  lx : h.IsList l1 xs
  ly : h.IsList l2 ys
  zp : (IsZip h z TI TO .none ∧ ∃ a b, IsPair h TO a b) ∨ ∃ T f oT, IsZipHeld h z TI TO T f ∧ h.get? T = some oT ∧ T ≠ z ∧ T ≠ i1 ∧ T ≠ i2 ∧ T ≠ S
/-- S is none of the zip's own things -/
structure Off (z TI TO i1 i2 l1 l2 S : Addr) : Prop where
  z : z ≠ S
  TI : TI ≠ S
  TO : TO ≠ S
  a : i1 ≠ S
  b : i2 ≠ S
  x : l1 ≠ S
  y : l2 ≠ S
section
variable {z TI TO i1 i2 l1 l2 S : Addr} {xs ys : Array Value}
theorem St.frame (o : Off z TI TO i1 i2 l1 l2 S) {i : Nat} {h h' : Heap} (st : St z TI TO i1 i2 l1 l2 S xs ys i h) (hk : ∀ b o, b ≠ S → h.get? b = some o → h'.get? b = some o) : St z TI TO i1 i2 l1 l2 S xs ys i h' := by
  refine ⟨hk _ _ o.TI st.pTI, st.la.at fun q e => hk _ q o.a e, st.lb.at fun q e => hk _ q o.b e, st.lx.at fun q e => hk _ q o.x e, st.ly.at fun q e => hk _ q o.y e, ?_⟩
  rcases st.zp with ⟨hz, a, b, hTO⟩ | ⟨T, f, oT, hz, hT, r1, r2, r3, r4⟩
  · exact .inl ⟨hk _ _ o.z hz, a, b, hk _ _ o.TO hTO⟩
  · exact .inr ⟨T, f, oT, hk _ _ o.z hz, hk _ _ r4 hT, r1, r2, r3, r4⟩
variable {prog : Program} {w : World} {A : Around} {E : Value → Shared → Prop} {s : Shared}
theorem item (D : ZipApart z TI TO i1 i2 l1 l2) {i : Nat} {x y : Value} {Q : Option Value → Shared → Prop} (st : St z TI TO i1 i2 l1 l2 S xs ys i s.heap) (hS : S < s.heap.objs.size) (ex : xs[i]? = some x) (ey : ys[i]? = some y)
    (hQ : ∀ h', St z TI TO i1 i2 l1 l2 S xs ys (i + 1) h' → IsPair h' s.heap.objs.size x y → h'.objs.size = s.heap.objs.size + 1 → (∀ c o, c ≠ z → c ≠ TO → c ≠ i1 → c ≠ i2 → s.heap.get? c = some o → h'.get? c = some o) → Q (some (.ref s.heap.objs.size)) { s with heap := h' }) :
    wpAny (model prog w) A (pyNext (.ref z)) Q E s := by
  obtain ⟨hTI, h1, h2, hl1, hl2, hz⟩ := st
  have lt : ∀ {c o}, s.heap.get? c = some o → s.heap.objs.size ≠ c := fun e => Nat.ne_of_gt (Heap.lt_size e)
  have n1 : s.heap.objs.size ≠ i1 := let ⟨_, e, _⟩ := h1; lt e
  have n2 : s.heap.objs.size ≠ i2 := let ⟨_, e, _⟩ := h2; lt e
  rcases hz with ⟨hz, a, b, hTO⟩ | ⟨T, f, oT, hz, hT, r1, r2, r3, r4⟩
  · refine wpAny_pyNext_zip_item D hz hTI hTO h1 h2 hl1 hl2 ex ey fun h' a1 a2 a3 a4 a5 a6 hk => ?_
    exact hQ h' ⟨hk _ _ D.TIz D.TITO D.TIi1 D.TIi2 hTI, a3, a4, hl1.at fun o e => hk _ o D.l1z D.l1TO D.l1i1 D.l1i2 e, hl2.at fun o e => hk _ o D.l2z D.l2TO D.l2i1 D.l2i2 e,
        .inr ⟨s.heap.objs.size, false, _, a1, a5, lt hz, n1, n2, Nat.ne_of_gt hS⟩⟩ a5 a6 hk
  · refine wpAny_pyNext_zip_item_held D hz hT hTI h1 h2 hl1 hl2 ex ey fun h' a1 a3 a4 a5 a6 hk => ?_
    exact hQ h' ⟨hk _ _ D.TIz D.TIi1 D.TIi2 hTI, a3, a4, hl1.at fun o e => hk _ o D.l1z D.l1i1 D.l1i2 e, hl2.at fun o e => hk _ o D.l2z D.l2i1 D.l2i2 e,
        .inr ⟨T, true, oT, a1, hk _ _ r1 r2 r3 hT, r1, r2, r3, r4⟩⟩ a5 a6 fun c o c1 _ c3 c4 e => hk c o c1 c3 c4 e
theorem done (hA : A.handled = none) (D : ZipApart z TI TO i1 i2 l1 l2) {i : Nat} {Q : Option Value → Shared → Prop} (st : St z TI TO i1 i2 l1 l2 S xs ys i s.heap) (hend : xs[i]? = none ∨ ys[i]? = none)
    (hQ : ∀ h', (∀ c o, c ≠ z → c ≠ TO → c ≠ i1 → c ≠ i2 → s.heap.get? c = some o → h'.get? c = some o) → Q none { s with heap := h' }) :
    wpAny (model prog w) A (pyNext (.ref z)) Q E s := by
  obtain ⟨hTI, h1, h2, hl1, hl2, hz⟩ := st
  rcases hz with ⟨hz, a, b, hTO⟩ | ⟨T, f, oT, hz, hT, r1, r2, r3, r4⟩
  · exact wpAny_pyNext_zip_end hA D hz hTI hTO h1 h2 hl1 hl2 hend fun h' hk => hQ h' fun c o c1 c2 c3 c4 e => hk c o c1 c2 c3 c4 e
  · exact wpAny_pyNext_zip_end_held hA D hz hT hTI h1 h2 hl1 hl2 hend fun h' hk => hQ h' fun c o c1 _ c3 c4 e => hk c o c1 c3 c4 e
end
/-- as hold the pairs, in order -/
structure Got (xs ys : Array Value) (lo : Addr) (h : Heap) (as : List Addr) : Prop where
  rise : as.Pairwise (· < ·)
  above : ∀ a ∈ as, lo ≤ a
  pairs : ∀ (j : Nat) (a : Addr), as[j]? = some a → ∃ x y, xs[j]? = some x ∧ ys[j]? = some y ∧ IsPair h a x y
section
variable {prog : Program} {w : World} {A : Around} {s : Shared} {R : Result → Shared → Prop} {z TI TO i1 i2 l1 l2 S : Addr} {xs ys : Array Value}
theorem loop (hh : A.handled = none) (D : ZipApart z TI TO i1 i2 l1 l2) (o : Off z TI TO i1 i2 l1 l2 S) (hn : min xs.size ys.size ≤ sizeLine) (res : Value) {h₁ : Heap} {lo : Nat} (hlo : S < lo) (hz : z < lo) (hTO : TO < lo) (ha : i1 < lo) (hb : i2 < lo)
    (hR : ∀ h' tk acc c as, (∀ b o, b ≠ S → b ≠ z → b ≠ TO → b ≠ i1 → b ≠ i2 → h₁.get? b = some o → h'.get? b = some o) → h'.get? S = some { cls := .type "list", dict := none, data := .seq acc c, slots := #[] } → as.length = min xs.size ys.size → Got xs ys lo h' as →
      acc.toList = as.map Value.ref → R (.ok (.ret res)) { s with heap := h', toks := tk }) :
    ∀ (k i : Nat) (h : Heap) (tk c : Nat) (acc : Array Value) (as : List Addr), min xs.size ys.size - i = k → i ≤ min xs.size ys.size → St z TI TO i1 i2 l1 l2 S xs ys i h → (∀ b o, b ≠ S → b ≠ z → b ≠ TO → b ≠ i1 → b ≠ i2 → h₁.get? b = some o → h.get? b = some o) →
      h.get? S = some { cls := .type "list", dict := none, data := .seq acc c, slots := #[] } → acc.toList = as.map Value.ref → as.length = i → Got xs ys lo h as → lo ≤ h.objs.size →
      codeAny (model prog w) A (.builtin "list.extend.loop" ⟨[.ref S, .ref z, res], []⟩) R { s with heap := h, toks := tk } := by
  intro k
  induction k with
  | zero =>
    intro i h tk c acc as hk hi hst hkeep hS hacc hal hG hIs
    refine codeAny_builtin PySem.F.entry_extend_loop ?_
    rw [Around.under_plainId PySem.F.plain_extend_loop _]
    show wpAny _ A.in1 (pyNext (.ref z) >>= _) _ _ _
    have hend : xs[i]? = none ∨ ys[i]? = none := by
      rcases Nat.le_total xs.size ys.size with q | q
      · exact .inl (Array.getElem?_eq_none (by omega))
      · exact .inr (Array.getElem?_eq_none (by omega))
    refine wpAny_bind (done (s := { s with heap := h, toks := tk }) (A := A.in1) hh D hst hend fun h' he => ?_)
    refine wpAny_pure (hR h' tk acc c as (fun b q b1 b2 b3 b4 b5 e => he b q b2 b3 b4 b5 (hkeep b q b1 b2 b3 b4 b5 e)) (he S _ (Ne.symm o.z) (Ne.symm o.TO) (Ne.symm o.a) (Ne.symm o.b) hS) (by omega) ⟨hG.rise, hG.above, fun j a hj => ?_⟩ hacc)
    obtain ⟨x, y, e1, e2, e3⟩ := hG.pairs j a hj
    have hab := hG.above a (List.mem_of_getElem? hj)
    exact ⟨x, y, e1, e2, he a _ (Nat.ne_of_gt (Nat.lt_of_lt_of_le hz hab)) (Nat.ne_of_gt (Nat.lt_of_lt_of_le hTO hab)) (Nat.ne_of_gt (Nat.lt_of_lt_of_le ha hab)) (Nat.ne_of_gt (Nat.lt_of_lt_of_le hb hab)) e3⟩
  | succ k ih =>
    intro i h tk c acc as hk hi hst hkeep hS hacc hal hG hIs
    have hlx : i < xs.size := by omega
    have hly : i < ys.size := by omega
    have hsz : acc.size = i := by rw [← Array.length_toList, hacc, List.length_map, hal]
    refine codeAny_builtin PySem.F.entry_extend_loop ?_
    rw [Around.under_plainId PySem.F.plain_extend_loop _]
    show wpAny _ A.in1 (pyNext (.ref z) >>= _) _ _ _
    refine wpAny_bind (item (s := { s with heap := h, toks := tk }) (S := S) D hst (Heap.lt_size hS) (Array.getElem?_eq_getElem hlx) (Array.getElem?_eq_getElem hly) fun h' hst' ht hz' hkp => ?_)
    dsimp only at ht hz' hkp ⊢
    have hS' := hkp S _ (Ne.symm o.z) (Ne.symm o.TO) (Ne.symm o.a) (Ne.symm o.b) hS
    have up : ∀ b q, b ≠ S → h'.get? b = some q → (h'.update S (Obj.mapSeq (·.push (Value.ref h.objs.size)))).get? b = some q := fun b q hb e => (Heap.get?_update_other _ _ (Ne.symm hb)).trans e
    have hSl : S < h.objs.size := Heap.lt_size hS
    show wpAny _ A.in1 (updateSeq S (·.push (Value.ref h.objs.size)) >>= _) _ _ _
    refine wpAny_bind ?_
    refine wpAny_updateSeq hS' rfl (wpAny_pure ⟨plainId_quiet PySem.F.plain_extend_loop _, ih (i + 1) _ tk _ (acc.push (Value.ref h.objs.size)) (as ++ [h.objs.size]) (by omega) (by omega) (hst'.frame o up)
      (fun b q b1 b2 b3 b4 b5 e => up b q b1 (hkp b q b2 b3 b4 b5 (hkeep b q b1 b2 b3 b4 b5 e))) (Heap.get?_update_self _ hS' rfl) (by rw [Array.toList_push, hacc, List.map_append]; rfl) (by rw [List.length_append, hal]; rfl) ⟨?_, ?_, ?_⟩ ?_⟩) (by rw [hsz]; omega) (by show (acc.push (Value.ref h.objs.size)).size ≤ sizeLine + 1; rw [Array.size_push, hsz]; omega)
    · refine List.pairwise_append.mpr ⟨hG.rise, List.pairwise_singleton _ _, fun a hm b hb' => ?_⟩
      rw [List.mem_singleton.mp hb']
      obtain ⟨j, hj⟩ := List.mem_iff_getElem?.mp hm
      obtain ⟨_, _, _, _, e3⟩ := hG.pairs j a hj
      exact Heap.lt_size e3
    · intro a hm
      rcases List.mem_append.mp hm with hm | hm
      · exact hG.above a hm
      · rw [List.mem_singleton.mp hm]; exact hIs
    · intro j b hj
      rcases Nat.lt_trichotomy j as.length with h1 | h1 | h1
      · rw [List.getElem?_append_left h1] at hj
        obtain ⟨x, y, e1, e2, e3⟩ := hG.pairs j b hj
        have hab := hG.above b (List.mem_of_getElem? hj)
        exact ⟨x, y, e1, e2, up b _ (Nat.ne_of_gt (Nat.lt_of_lt_of_le hlo hab)) (hkp b _ (Nat.ne_of_gt (Nat.lt_of_lt_of_le hz hab)) (Nat.ne_of_gt (Nat.lt_of_lt_of_le hTO hab)) (Nat.ne_of_gt (Nat.lt_of_lt_of_le ha hab)) (Nat.ne_of_gt (Nat.lt_of_lt_of_le hb hab)) e3)⟩
      · subst h1
        have hbq : h.objs.size = b := by simpa using hj
        subst hbq
        subst hal
        exact ⟨_, _, Array.getElem?_eq_getElem hlx, Array.getElem?_eq_getElem hly, up _ _ (Nat.ne_of_gt hSl) ht⟩
      · have hnone : (as ++ [h.objs.size])[j]? = none := List.getElem?_eq_none (by rw [List.length_append, List.length_singleton]; omega)
        rw [hnone] at hj; cases hj
    · have e : (h'.update S (Obj.mapSeq (·.push (Value.ref h.objs.size)))).get? h.objs.size = _ := up _ _ (Nat.ne_of_gt hSl) ht
      exact Nat.le_trans hIs (Nat.le_of_lt (Heap.lt_size e))
end
section
variable {prog : Program} {w : World} {A : Around} {E : Value → Shared → Prop} {s : Shared} {z TI TO i1 i2 l1 l2 : Addr} {xs ys : Array Value}
theorem extend {R : Result → Shared → Prop} (hh : A.handled = none) (D : ZipApart z TI TO i1 i2 l1 l2) {S : Addr} (o : Off z TI TO i1 i2 l1 l2 S) (hst : St z TI TO i1 i2 l1 l2 S xs ys 0 s.heap) (hz : IsZip s.heap z TI TO .none) (res : Value) (c₀ : Nat) (hS : s.heap.get? S = some { cls := .type "list", data := .seq #[] c₀ }) (hTOl : TO < s.heap.objs.size)
    (hR : ∀ h' tk acc c as, (∀ b o, b ≠ S → b ≠ z → b ≠ TO → b ≠ i1 → b ≠ i2 → s.heap.get? b = some o → h'.get? b = some o) → h'.get? S = some { cls := .type "list", dict := none, data := .seq acc c, slots := #[] } → as.length = min xs.size ys.size → Got xs ys s.heap.objs.size h' as →
      acc.toList = as.map Value.ref → R (.ok (.ret res)) { s with heap := h', toks := tk }) (hn : min xs.size ys.size ≤ sizeLine) :
    wpAny (model prog w) A.in1 (Builtin.List.listExtendWith (.ref S) (.ref z) res)
      (fun fin s' => match fin with | .done f => R (.ok f) s' | .again c' => c'.quiet = true ∧ codeAny (model prog w) A c' R s') (fun e s' => R (.error e) s') s := by
  have hT : s.TypeIs (.ref z) "zip" := ⟨_, hz, rfl⟩
  have hzl : z < s.heap.objs.size := Heap.lt_size hz
  have hSl : S < s.heap.objs.size := Heap.lt_size hS
  have hal : i1 < s.heap.objs.size := let ⟨_, e, _⟩ := hst.la; Heap.lt_size e
  have hbl : i2 < s.heap.objs.size := let ⟨_, e, _⟩ := hst.lb; Heap.lt_size e
  unfold Builtin.List.listExtendWith
  refine wpAny_bind (wpAny_typeOf (T := "zip") hT ?_)
  have h1 : Builtin.List.listSameRef (.ref S) (.ref z) = false := by simp [Builtin.List.listSameRef, Ne.symm o.z]
  have h2 : (Value.type "zip" == Value.type "list") = false := by decide
  have h3 : (Value.type "zip" == Value.type "tuple") = false := by decide
  simp only [h1, h2, h3, Bool.or_false, Bool.false_eq_true, if_false]
  refine wpAny_bind (wpAny_pyIter_zip hz ?_)
  refine wpAny_bind (wpAny_holding (hint hT ?_))
  refine wpAny_ite_split (fun _ => ?_) (fun hab => absurd hab (by simp))
  refine wpAny_bind (wpAny_rule ?_)
  refine wpAny_bind ?_
  show wpAny _ _ (updateSeq S (·.push .none) >>= fun _ => updateSeq S (·.pop)) _ _ _
  refine wpAny_bind (wpAny_updateSeq hS rfl ?_)
  have hS₂ := Heap.get?_update_self (Obj.mapSeq (·.push Value.none)) hS rfl
  refine wpAny_updateSeq (hz := by seq_fits) hS₂ rfl ?_
  have hS₃ := Heap.get?_update_self (Obj.mapSeq (·.pop)) hS₂ rfl
  have hk : ∀ b q, b ≠ S → s.heap.get? b = some q → ((s.heap.update S (Obj.mapSeq (·.push Value.none))).update S (Obj.mapSeq (·.pop))).get? b = some q := fun b q hb e =>
    (Heap.get?_update_other _ _ (Ne.symm hb)).trans ((Heap.get?_update_other _ _ (Ne.symm hb)).trans e)
  refine wpAny_pure ⟨plainId_quiet PySem.F.plain_extend_loop _, ?_⟩
  refine loop (s := s) (h₁ := s.heap) (lo := s.heap.objs.size) hh D o hn res hSl hzl hTOl hal hbl hR (min xs.size ys.size) 0 _ _ _ #[] [] (Nat.sub_zero _) (Nat.zero_le _) (hst.frame o hk) (fun b q b1 _ _ _ _ e => hk b q b1 e) hS₃ rfl rfl ⟨List.Pairwise.nil, (fun _ hm => nomatch hm), fun j a hj => by simp at hj⟩ ?_
  rw [Heap.size_update, Heap.size_update]
  exact Nat.le_refl _

theorem St.init {z TI TO i1 i2 l1 l2 S : Addr} {xs ys : Array Value} {h : Heap} (hz : IsZip h z TI TO .none) (hTI : IsPair h TI (.ref i1) (.ref i2)) (hTO : IsPair h TO .none .none) (h1 : h.IsListIter i1 l1 0) (h2 : h.IsListIter i2 l2 0) (hx : h.IsList l1 xs) (hy : h.IsList l2 ys) : St z TI TO i1 i2 l1 l2 S xs ys 0 h :=
  ⟨hTI, h1, h2, hx, hy, .inl ⟨hz, _, _, hTO⟩⟩
theorem init {R : Result → Shared → Prop} (hh : A.handled = none) (D : ZipApart z TI TO i1 i2 l1 l2) {S : Addr} (o : Off z TI TO i1 i2 l1 l2 S) (hst : St z TI TO i1 i2 l1 l2 S xs ys 0 s.heap) (hz : IsZip s.heap z TI TO .none) (hTOl : TO < s.heap.objs.size) (hS : s.heap.get? S = some { cls := .type "list", data := .seq #[] })
    (hR : ∀ h' tk acc c as, (∀ b o, b ≠ S → b ≠ z → b ≠ TO → b ≠ i1 → b ≠ i2 → s.heap.get? b = some o → h'.get? b = some o) → h'.get? S = some { cls := .type "list", dict := none, data := .seq acc c, slots := #[] } → as.length = min xs.size ys.size → Got xs ys s.heap.objs.size h' as →
      acc.toList = as.map Value.ref → R (.ok (.ret .none)) { s with heap := h', toks := tk }) (hn : min xs.size ys.size ≤ sizeLine) :
    wpAny (model prog w) A.in1 (Builtin.«list.__init__» ⟨[.ref S, .ref z], []⟩)
      (fun fin s' => match fin with | .done f => R (.ok f) s' | .again c' => c'.quiet = true ∧ codeAny (model prog w) A c' R s') (fun e s' => R (.error e) s') s := by
  show wpAny _ _ (do let old ← Builtin.List.listItems (.ref S); Builtin.List.listUpdate (.ref S) (fun _ => #[]); letGo old.toList.reverse; Builtin.List.listExtendWith (.ref S) (.ref z) .none) _ _ s
  refine wpAny_bind ?_
  unfold Builtin.List.listItems
  refine wpAny_bind (wpAny_seqItems hS rfl (wpAny_pure ?_))
  show wpAny _ _ (updateSeq S (fun _ => #[]) >>= fun _ => letGo (#[] : Array Value).toList.reverse >>= fun _ => Builtin.List.listExtendWith (.ref S) (.ref z) .none) _ _ s
  refine wpAny_bind (wpAny_updateSeq hS rfl ?_)
  have hS₂ := Heap.get?_update_self (Obj.mapSeq (fun _ => (#[] : Array Value))) hS rfl
  have oth : ∀ b o, b ≠ S → s.heap.get? b = some o → (s.heap.update S (Obj.mapSeq (fun _ => (#[] : Array Value)))).get? b = some o :=
    fun b o hb e => (Heap.get?_update_other _ _ (Ne.symm hb)).trans e
  have hsz : (s.heap.update S (Obj.mapSeq (fun _ => (#[] : Array Value)))).objs.size = s.heap.objs.size := Heap.size_update ..
  refine wpAny_bind (wpAny_letGo ?_)
  refine extend hh D o (hst.frame o oth) (oth _ _ o.z hz) .none _ hS₂ (by rw [hsz]; exact hTOl) (fun h' tk acc c as hk hS' hl hG hacc => ?_) hn
  dsimp only at hG
  rw [hsz] at hG
  exact hR h' tk acc c as (fun b q b1 b2 b3 b4 b5 e => hk b q b1 b2 b3 b4 b5 (oth b q b1 e)) hS' hl hG hacc
theorem call_list {Q : Value → Shared → Prop} (hh : A.handled = none) (D : ZipApart z TI TO i1 i2 l1 l2) (hz : IsZip s.heap z TI TO .none) (hTI : IsPair s.heap TI (.ref i1) (.ref i2)) (hTO : IsPair s.heap TO .none .none) (h1 : s.heap.IsListIter i1 l1 0) (h2 : s.heap.IsListIter i2 l2 0) (hx : s.heap.IsList l1 xs) (hy : s.heap.IsList l2 ys) (hn : min xs.size ys.size ≤ sizeLine)
    (hQ : ∀ h' tk acc c as, (∀ b o, b ≠ z → b ≠ TO → b ≠ i1 → b ≠ i2 → s.heap.get? b = some o → h'.get? b = some o) → h'.get? s.heap.objs.size = some { cls := .type "list", dict := none, data := .seq acc c, slots := #[] } → as.length = min xs.size ys.size → Got xs ys (s.heap.objs.size + 1) h' as →
      acc.toList = as.map Value.ref → Q (.ref s.heap.objs.size) { s with heap := h', toks := tk }) :
    wpAny (model prog w) A (call (.type "list") [.ref z]) Q E s := by
  have lt : ∀ {c q}, s.heap.get? c = some q → c ≠ s.heap.objs.size := fun e => Nat.ne_of_lt (Heap.lt_size e)
  have o : Off z TI TO i1 i2 l1 l2 s.heap.objs.size := ⟨lt hz, lt hTI, lt hTO, let ⟨_, e, _⟩ := h1; lt e, let ⟨_, e, _⟩ := h2; lt e, let ⟨_, e, _⟩ := hx; lt e, let ⟨_, e, _⟩ := hy; lt e⟩
  refine callType_codes (Q₁ := fun obj s₁ => obj = .ref s.heap.objs.size ∧ s₁ = { s with heap := s.heap.push { cls := .type "list", data := .seq #[] } }) PySem.F.called_list (PySem.F.typeCall_list_1 _) PySem.F.entry_list_init
    (code_list_new _ ⟨rfl, rfl⟩) fun obj s₁ h₁ => ?_
  obtain ⟨rfl, rfl⟩ := h₁
  have hS : (s.heap.push { cls := .type "list", data := .seq #[] }).get? s.heap.objs.size = some { cls := .type "list", data := .seq #[] } := Heap.get?_push_size _ rfl
  have up : ∀ b q, s.heap.get? b = some q → (s.heap.push { cls := .type "list", data := .seq #[] }).get? b = some q := fun b q e => Heap.get?_push_of_some _ e
  have hsz : (s.heap.push { cls := .type "list", data := .seq #[] }).objs.size = s.heap.objs.size + 1 := Heap.size_push _ _
  refine ⟨⟨_, hS, rfl⟩, PySem.F.args_list_init_2 _ _, init (A := A.in1) hh D o ((St.init hz hTI hTO h1 h2 hx hy).frame o fun b q _ e => up b q e) (up _ _ hz) (by rw [hsz]; exact Nat.lt_succ_of_lt (Heap.lt_size hTO)) hS (fun h' tk acc c as hk hS' hl hG hacc => ?_) hn⟩
  dsimp only at hG
  rw [hsz] at hG
  exact ⟨rfl, hQ h' tk acc c as (fun b q b2 b3 b4 b5 e => hk b q (lt e) b2 b3 b4 b5 (up b q e)) hS' hl hG hacc⟩
end
end ZL
namespace DL
open PySem PySem.Spec PyProof.Rows L2
section
/-- many new things laid at once -/
theorem un_many {fs ex : List Addr} {H H' : Hp} {h h' : Heap} (k : ∀ b u, h.get? b = some u → h'.get? b = some u) (hE : ∀ b o, h.get? b = some o → H' b = H b) (hS : Same H H') : Un fs ex H H' h h' where
  keep := fun b u q _ _ _ => k b u q
  slot := fun b u q _ _ _ => ⟨u.slots, k b u q⟩
  free := fun b u q n _ => by rw [hE b u q]; exact n
  there := fun b u q _ => ⟨u, k b u q⟩
  tups := fun b xs q => hS b _ q
  frzs := fun b u xs q => hS b _ q
  tbls := fun b ps q => ⟨#[], by rw [hS b _ q]; simp⟩
theorem hok_many {P : Program} {w : World} {H H' : Hp} {h h' : Heap} (x : HOk P w H h) (k : ∀ b u, h.get? b = some u → h'.get? b = some u) (hS : Same H H') (new : ∀ b o, H b = none → H' b = some o → ObjOk P w H' h' b o) : HOk P w H' h' := fun b u e => by
  cases q : H b with
  | none => exact new b u q e
  | some u' =>
    have := hS b u' q
    rw [e] at this
    cases this
    exact (x b u q).stay (fun c v _ q => k c v q) (fun c q => hS c _ q) fun c xs q => hS c _ q
variable {X : Cx}
def tListZip (K : PySem.W.Frag) (ta : TA) : TE := fun σ H Q => ta σ H fun vs H1 => ∃ (a b : Addr) (xs ys : List V), vs = [.ref a, .ref b] ∧ SqL K H1 a xs ∧ SqL K H1 b ys ∧
  ∀ (p : Addr) (H' : Hp) (as : List Addr), Same H1 H' → H1 p = none → H' p = some (.lst (as.map V.ref)) → as.length = min xs.length ys.length →
    (∀ (j : Nat) (c : Addr) (x y : V), as[j]? = some c → xs[j]? = some x → ys[j]? = some y → H' c = some (.tup [x, y])) → Q (.ref p) H'
theorem idx_of {as : List Addr} (h : as.Pairwise (· < ·)) {j : Nat} {c : Addr} (e : as[j]? = some c) : as.idxOf c = j := by
  obtain ⟨hj, rfl⟩ := List.getElem?_eq_some_iff.mp e
  have hn : as.Nodup := h.imp fun hlt he => by subst he; exact Nat.lt_irrefl _ hlt
  exact hn.idxOf_getElem j hj
theorem pe_listZip {e e2 : Expr} {ta : TA} {p p2 pos pos2 : Pos} (hc : X.calm = true) (hg : Gl X "list") (hm : X.mg "list" = none) (hgz : Gl X "zip") (hmz : X.mg "zip" = none) (ha : PA X [e, e2] ta)
    (hse : starEach [Expr.Call (.Name "zip" p2) [e, e2] [] pos2] X.env = [(false, eval (Expr.Call (.Name "zip" p2) [e, e2] [] pos2) X.env)] := by rfl)
    (hs : starEach [e, e2] X.env = (false, eval e X.env) :: starEach [e2] X.env := by rfl) (hpl : (backTo pos2 (starEach [e2] X.env)).any (·.1) = false := by rfl) :
    PE X (.Call (.Name "list" p) [.Call (.Name "zip" p2) [e, e2] [] pos2] [] pos) (tListZip X.K ta) := by
  refine ⟨fun pins s σ H Q I h => ?_⟩
  refine wpAny_Call_Name_kw (ld_blt I hg hm (u := .type "list") (by first | rfl | decide +kernel) ?_ (by first | decide +kernel | decide) (by first | decide +kernel | decide))
  rw [hse]
  refine PySem.callWith_type1 (Call_ (ld_blt I hgz hmz PyProof.Rows.boot_zip (PyProof.Rows.callWith_type1 (thn (ha.run pos2 pins s σ H _ I h) fun us s1 ⟨vs, H1, I1, r1, q1⟩ => ?_) hs hpl)))
  obtain ⟨a, b, xs, ys, ex, qx, qy, q⟩ := q1
  subst ex
  cases r1 with
  | cons r rr =>
    cases rr with
    | cons r' rr =>
      cases rr
      cases r
      cases r'
      obtain ⟨its, rv, p1, z1⟩ := I1.list qx
      obtain ⟨its2, rv2, p2', z2⟩ := I1.list qy
      have l1 := rv.length
      have l2 := rv2.length
      refine call_zip_2 p1.isList p2'.isList fun h' hz hTI hTO h1 h2 hsz hk => ?_
      have D := PySem.W.ktu_apart s1.heap.objs.size a b p1.lt p2'.lt
      refine ZL.call_list (s := { s1 with heap := h' }) (I1.ok.hd hc) D hz hTI hTO h1 h2 (p1.isList.at fun o e => hk _ o e) (p2'.isList.at fun o e => hk _ o e) (by simp only [List.size_toArray]; omega) fun h2' tk acc c as hk2 hD hl hG hacc => ?_
      dsimp only at hk2 hD hG ⊢
      have lt : ∀ {c : Addr} {q}, s1.heap.get? c = some q → c < s1.heap.objs.size := fun e => Heap.lt_size e
      have keep : ∀ b u, s1.heap.get? b = some u → h2'.get? b = some u := fun b u e => by
        have hb := lt e
        exact hk2 b u (Nat.ne_of_lt (Nat.lt_of_lt_of_le hb (Nat.le_add_right _ _))) (Nat.ne_of_lt (Nat.lt_of_lt_of_le hb (Nat.le_add_right _ _))) (Nat.ne_of_lt hb) (Nat.ne_of_lt (Nat.lt_of_lt_of_le hb (Nat.le_add_right _ _))) (hk b u e)
      obtain ⟨S, hS⟩ : ∃ S : Addr, S = h'.objs.size := ⟨_, rfl⟩
      have hS1 : s1.heap.objs.size ≤ S := by rw [hS, hsz]; exact Nat.le_add_right _ _
      rw [← hS] at hD hG ⊢
      obtain ⟨H', hH'⟩ : ∃ H' : Hp, H' = fun c => if c = S then some (.lst (as.map V.ref)) else if c ∈ as then some (.tup [xs.getD (as.idxOf c) .non, ys.getD (as.idxOf c) .non]) else H1 c := ⟨_, rfl⟩
      have hnew : ∀ c, c = S ∨ c ∈ as → s1.heap.objs.size ≤ c := fun c hc => by
        rcases hc with rfl | hc
        · exact hS1
        · exact Nat.le_trans hS1 (Nat.le_trans (Nat.le_succ _) (hG.above c hc))
      have hold : ∀ c, ¬ (c = S ∨ c ∈ as) → H' c = H1 c := fun c hc => by
        rw [hH']
        dsimp only
        rw [if_neg fun z => hc (.inl z), if_neg fun z => hc (.inr z)]
      have same : Same H1 H' := fun c o e => by
        rw [hold c fun hc => by rw [I1.hok.fresh (hnew c hc)] at e; cases e]
        exact e
      have hlist : H' S = some (.lst (as.map V.ref)) := by rw [hH']; dsimp only; rw [if_pos rfl]
      have hlx : as.length ≤ its.length ∧ as.length ≤ its2.length := by rw [hl]; simp only [List.size_toArray]; omega
      have htup : ∀ (j : Nat) (c : Addr) (x y : V), as[j]? = some c → xs[j]? = some x → ys[j]? = some y → H' c = some (.tup [x, y]) := fun j c x y ec e1 e2 => by
        have hm := List.mem_of_getElem? ec
        have hcS : c ≠ S := Nat.ne_of_gt (hG.above c hm)
        rw [hH']
        dsimp only
        rw [if_neg hcS, if_pos hm, idx_of hG.rise ec, List.getD_eq_getElem?_getD, List.getD_eq_getElem?_getD, e1, e2]; rfl
      have I2 : Inv X pins σ H' { s1 with heap := h2', toks := tk } := by
        refine I1.un (un_many keep (fun c o e => hold c fun hc => absurd (hnew c hc) (Nat.not_le.mpr (lt e))) same) (hok_many I1.hok keep same fun c o hn e => ?_)
        by_cases hcS : c = S
        · subst hcS
          rw [hlist] at e
          cases e
          refine ⟨by rw [List.length_map]; omega, acc.toList, _, ?_, by rw [Array.toArray_toList]; exact hD⟩
          rw [hacc]
          have : ∀ l : List Addr, Vals (l.map V.ref) (l.map Value.ref) := fun l => by
            induction l with
            | nil => exact .nil
            | cons _ _ ih => exact .cons rfl ih
          exact this as
        · by_cases hm : c ∈ as
          · obtain ⟨j, ec⟩ := List.mem_iff_getElem?.mp hm
            have hj : j < as.length := (List.getElem?_eq_some_iff.mp ec).1
            obtain ⟨x, hx⟩ : ∃ x, xs[j]? = some x := ⟨xs[j]'(by omega), List.getElem?_eq_getElem _⟩
            obtain ⟨y, hy⟩ : ∃ y, ys[j]? = some y := ⟨ys[j]'(by omega), List.getElem?_eq_getElem _⟩
            rw [htup j c x y ec hx hy] at e
            cases e
            obtain ⟨u, v, e1, e2, e3⟩ := hG.pairs j c ec
            obtain ⟨u', hu', ru⟩ := rv.get hx
            obtain ⟨v', hv', rv'⟩ := rv2.get hy
            have e1' : its[j]? = some u := by simpa using e1
            have e2' : its2[j]? = some v := by simpa using e2
            rw [hu'] at e1'; cases e1'
            rw [hv'] at e2'; cases e2'
            exact ⟨by show 2 ≤ sizeLine; decide, [u, v], .cons ru (.cons rv' .nil), ⟨_, e3, rfl, _, rfl⟩⟩
          · rw [hold c (fun z => z.elim hcS hm), hn] at e
            cases e
      exact ⟨.ref S, H', I2, rfl, q S H' as same (I1.hok.fresh hS1) hlist (by rw [hl]; simp only [List.size_toArray]; omega) htup⟩
end
variable {ι : Type} {G : ι → Cx} {K : PySem.W.Frag} {mg : Str → Option Value} {base : Heap} {P : Program} {w : World} {N : List Str} {sc : Scope} {k : Nat}
def zipD (a b : Option T) : Option T := match a, b with
  | some (.lst xs), some (.lst ys) => some (.lst (zipL xs ys))
  | _, _ => none
theorem reps_pairs {H : Hp} {xs ys : List T} {us vs : List V} (ra : Reps K H xs us) (rb : Reps K H ys vs) : ∀ {as : List Addr}, as.length = min us.length vs.length →
    (∀ (j : Nat) (c : Addr) (x y : V), as[j]? = some c → us[j]? = some x → vs[j]? = some y → H c = some (.tup [x, y])) → Reps K H (zipL xs ys) (as.map V.ref) := by
  induction xs generalizing ys us vs with
  | nil =>
    intro as hl _
    unfold Reps at ra
    subst ra
    obtain rfl : as = [] := List.length_eq_zero_iff.mp (by rw [hl]; simp)
    exact .nil
  | cons x xs ih =>
    intro as hl ht
    unfold Reps at ra
    obtain ⟨u, us', rfl, r1, r2⟩ := ra
    cases ys with
    | nil =>
      unfold Reps at rb
      subst rb
      obtain rfl : as = [] := List.length_eq_zero_iff.mp (by rw [hl]; simp)
      exact .nil
    | cons y ys =>
      unfold Reps at rb
      obtain ⟨v, vs', rfl, r3, r4⟩ := rb
      cases as with
      | nil => simp at hl
      | cons c as =>
        refine .cons (rep_tup.mpr ⟨c, _, rfl, .inl (.inl (ht 0 c u v rfl rfl rfl)), .cons r1 (.cons r3 .nil)⟩) ?_
        exact ih r2 r4 (by simp at hl; omega) fun j c' x' y' e1 e2 e3 => ht (j + 1) c' x' y' (by simpa using e1) (by simpa using e2) (by simpa using e3)
theorem evf_listzip (hG : Fm G K mg base P w N sc k) {a b : Expr} {p p2 pos pos2 : Pos} {da db : Env' → Option T} (hm : mg "list" = none) (hmz : mg "zip" = none) (ha : EV G K a da) (hb : EV G K b db) (hg : glB sc "list" = true := by rfl) (hgz : glB sc "zip" = true := by rfl)
    (hse : ∀ i, starEach [Expr.Call (.Name "zip" p2) [a, b] [] pos2] (G i).env = [(false, eval (Expr.Call (.Name "zip" p2) [a, b] [] pos2) (G i).env)] := by intro _; rfl)
    (hs : ∀ i, starEach [a, b] (G i).env = [(false, eval a (G i).env), (false, eval b (G i).env)] := by intro _; rfl) (hs2 : ∀ i, starEach [b] (G i).env = [(false, eval b (G i).env)] := by intro _; rfl) :
    EVF G K (.Call (.Name "list" p) [.Call (.Name "zip" p2) [a, b] [] pos2] [] pos) (fun ρ => zipD (da ρ) (db ρ)) := by
  intro ρ σ H τ Q he hd hq
  dsimp only at hd
  unfold zipD at hd
  split at hd
  · rename_i xs ys e1 e2
    cases hd
    refine ⟨tListZip K (tCons (ES G a) (tCons (ES G b) tNil)), fun i => by rw [← hG.K i]; exact pe_listZip (hG.calm i) (gl_of hG hg i) (by rw [hG.mg i]; exact hm) (gl_of hG hgz i) (by rw [hG.mg i]; exact hmz) (pa_cons (pe_ts i) (pa_cons (pe_ts i) pa_nil (hs2 i)) (by rw [hs i, hs2 i])) (hse i) (by rw [hs i, hs2 i]) (by rw [hs2 i]; rfl), ?_⟩
    refine ha ρ σ H _ _ he e1 fun v H1 s1 r1 => ?_
    refine hb ρ σ H1 _ _ (he.same s1) e2 fun v' H2 s2 r2 => ?_
    obtain ⟨x, us, rfl, qx, rx⟩ := rep_lst.mp (Rep.same s2 r1)
    obtain ⟨y, vs, rfl, qy, ry⟩ := rep_lst.mp r2
    refine ⟨x, y, us, vs, rfl, .inl (.inl qx), .inl (.inl qy), fun p H' as sm np el hl ht => ?_⟩
    exact hq p _ H' ((s1.trans s2).trans sm) ((s1.trans s2).free np) el (.inl ⟨_, _, rfl, rfl, reps_pairs (rx.same sm) (ry.same sm) hl ht⟩)
  · cases hd
end DL
namespace DL
open PySem PySem.Spec PyProof.Rows L2
variable {ι : Type} {G : ι → Cx} {K : PySem.W.Frag} {mg : Str → Option Value} {base : Heap} {P : Program} {w : World} {N : List Str} {sc : Scope} {k : Nat}
/-! ### truth -/
def truD (o : Option T) : Option Bool := match o with
  | some .non => some false
  | some (.bl b) => some b
  | some (.int i) => some (i != 0)
  | some (.lst ts) => some (!ts.isEmpty)
  | some (.scr ts) => some (!ts.isEmpty)
  | some (.tup ts) => some (!ts.isEmpty)
  | _ => none
theorem empty_len {ts : List T} {vs : List V} (h : ts.length = vs.length) : (!ts.isEmpty) = !vs.isEmpty := by
  cases ts <;> cases vs <;> simp_all
theorem bv_tru (hK : ∀ i, (G i).K = K) {e : Expr} {d : Env' → Option T} (h : EV G K e d) (he : ∀ i whole, isTrue e (G i).env whole = (do let v ← whole; standAt e.pos; holding [v] (truthy v)) := by intro _ _; rfl) : BV G K e (fun ρ => truD (d ρ)) := by
  intro ρ σ H b Q hE hd hq
  dsimp only at hd
  refine ⟨fun σ H Q => ES G e σ H fun x H' => ∃ k, TruV K x H' k ∧ Q k H', fun i => by rw [← hK i]; exact pt_truth (pe_ts i) (he i), ?_⟩
  cases e1 : d ρ with
  | none => rw [e1] at hd; cases hd
  | some t =>
    rw [e1] at hd
    refine h ρ σ H t _ hE e1 fun v H1 s r => ⟨b, ?_, hq H1 s⟩
    cases t with
    | non => cases hd; cases rep_non.mp r; rfl
    | bl c => cases hd; cases rep_bl.mp r; rfl
    | int c => cases hd; cases rep_int.mp r; rfl
    | lst ts =>
      cases hd
      obtain ⟨a, vs, rfl, q, rr⟩ := rep_lst.mp r
      exact .inl ⟨vs, .inl (.inl q), empty_len rr.length⟩
    | scr ts =>
      cases hd
      obtain ⟨a, vs, rfl, q, rr⟩ := rep_scr.mp r
      exact .inl ⟨vs, q, empty_len rr.length⟩
    | tup ts =>
      cases hd
      obtain ⟨a, vs, rfl, q, rr⟩ := rep_tup.mp r
      exact .inr (.inl ⟨vs, q, empty_len rr.length⟩)
    | _ => cases hd
/-! ### three comparisons in a row, as a test -/
def tChain3 (r r' r'' : R2) (ta tb tc td : TE) : TT := fun σ H Q => ta σ H fun x H1 => tb σ H1 fun y H2 => r x y H2 fun z H3 => ∃ k, z = .bl k ∧
  (if k = true then tc σ H3 fun u H4 => r' y u H4 fun z' H5 => ∃ k', z' = .bl k' ∧ (if k' = true then td σ H5 fun v H6 => r'' u v H6 fun z2 H7 => ∃ k2, z2 = .bl k2 ∧ Q k2 H7 else Q false H5) else Q false H3)
theorem pt_chain3 {X : Cx} {op op' op'' : CmpOp} {r r' r'' : R2} {a b c d : Expr} {pos : Pos} {ta tb tc td : TE} (ho : OpR X (compareOp op) r) (ho' : OpR X (compareOp op') r') (ho'' : OpR X (compareOp op'') r'') (ha : PE X a ta) (hb : PE X b tb) (hc : PE X c tc) (hd : PE X d td)
    (hm : lastMarks [op, op', op''] [b, c, d] = false := by with_unfolding_all rfl) : PT X (.Compare a [op, op', op''] [b, c, d] pos) (tChain3 r r' r'' ta tb tc td) := by
  refine ⟨fun pins s σ H Q I h => ?_⟩
  refine isTrue_chain (thn (ha.run pins s σ H _ I h) fun v s1 ⟨x, H1, I1, r1, q1⟩ => test_link (thn (hb.run pins s1 σ H1 _ I1 q1) fun u s2 ⟨y, H2, I2, r2, q2⟩ =>
    thn (ho pins s2 σ H2 x y v u _ I2 r1 r2 q2) fun d s3 ⟨z, H3, I3, r3, k, e, q3⟩ => ?_)) hm
  subst e
  cases r3
  refine wpAny_truthy_bool ?_
  cases k with
  | false => exact ite_ff ⟨H3, I3, q3⟩
  | true =>
    refine ite_tt (test_link (thn (hc.run pins s3 σ H3 _ I3 q3) fun w' s4 ⟨z', H4, I4, r4, q4⟩ => thn (ho' pins s4 σ H4 y z' u w' _ I4 r2 r4 q4) fun d' s5 ⟨z2, H5, I5, r5, k2, e2, q5⟩ => ?_))
    subst e2
    cases r5
    refine wpAny_truthy_bool ?_
    cases k2 with
    | false => exact ite_ff ⟨H5, I5, q5⟩
    | true =>
      refine ite_tt (test_last (thn (hd.run pins s5 σ H5 _ I5 q5) fun w2 s6 ⟨z3, H6, I6, r6, q6⟩ => thn (ho'' pins s6 σ H6 z' z3 w' w2 _ I6 r4 r6 q6) fun d2 s7 ⟨z4, H7, I7, r7, k3, e3, q7⟩ => ?_))
      subst e3
      cases r7
      exact wpAny_truthy_bool ⟨H7, I7, q7⟩
def chD3 (g g' g'' : T → T → Option T) (a b c d : Option T) : Option T := match b2 g a b with
  | some (.bl true) => chD g' g'' b c d
  | some (.bl false) => some (.bl false)
  | _ => none
theorem bv_chain3 {a b c d : Expr} {op op' op'' : CmpOp} {g g' g'' : T → T → Option T} {da db dc dd : Env' → Option T} {pos : Pos} (ho : OpS G K (compareOp op) g) (ho' : OpS G K (compareOp op') g') (ho'' : OpS G K (compareOp op'') g'') (ha : EV G K a da) (hb : EV G K b db) (hc : EV G K c dc) (hd' : EV G K d dd)
    (hm : lastMarks [op, op', op''] [b, c, d] = false := by with_unfolding_all rfl) : BV G K (.Compare a [op, op', op''] [b, c, d] pos) (fun ρ => asB (chD3 g g' g'' (da ρ) (db ρ) (dc ρ) (dd ρ))) := by
  intro ρ σ H τ Q he hd hq
  refine ⟨_, fun i => pt_chain3 (op_ops i) (op_ops i) (op_ops i) (pe_ts i) (pe_ts i) (pe_ts i) (pe_ts i) hm, ?_⟩
  have hd := asB_some hd
  unfold chD3 at hd
  split at hd
  · rename_i e1
    obtain ⟨x, y, ea, eb, eg⟩ := b2_some e1
    refine ha ρ σ H x _ he ea fun v H1 s1 r1 => hb ρ σ H1 y _ (he.same s1) eb fun u H2 s2 r2 => ?_
    refine ho H2 x y v u _ _ eg (r1.same s2) r2 fun q H3 s3 r3 => ⟨true, rep_bl.mp r3, ?_⟩
    rw [if_pos rfl]
    have s123 := (s1.trans s2).trans s3
    unfold chD at hd
    split at hd
    · rename_i e2
      obtain ⟨y', z, eb', ec, eg'⟩ := b2_some e2
      obtain ⟨z2, t, ec', ed, eg2⟩ := b2_some hd
      rw [eb] at eb'; cases eb'
      rw [ec] at ec'; cases ec'
      refine hc ρ σ H3 z _ (he.same s123) ec fun t4 H4 s4 r4 => ?_
      refine ho' H4 y z u t4 _ _ eg' (r2.same (s3.trans s4)) r4 fun q' H5 s5 r5 => ⟨true, rep_bl.mp r5, ?_⟩
      rw [if_pos rfl]
      refine hd' ρ σ H5 t _ (he.same ((s123.trans s4).trans s5)) ed fun t6 H6 s6 r6 => ?_
      exact ho'' H6 z t t4 t6 _ _ eg2 (r4.same (s5.trans s6)) r6 fun q2 H7 s7 r7 => ⟨_, rep_bl.mp r7, hq H7 ((((s123.trans s4).trans s5).trans s6).trans s7)⟩
    · rename_i e2
      obtain ⟨y', z, eb', ec, eg'⟩ := b2_some e2
      rw [eb] at eb'; cases eb'
      cases hd
      refine hc ρ σ H3 z _ (he.same s123) ec fun t4 H4 s4 r4 => ?_
      refine ho' H4 y z u t4 _ _ eg' (r2.same (s3.trans s4)) r4 fun q' H5 s5 r5 => ⟨false, rep_bl.mp r5, ?_⟩
      rw [if_neg (by decide)]
      exact hq H5 ((s123.trans s4).trans s5)
    · cases hd
  · rename_i e1
    cases hd
    obtain ⟨x, y, ea, eb, eg⟩ := b2_some e1
    refine ha ρ σ H x _ he ea fun v H1 s1 r1 => hb ρ σ H1 y _ (he.same s1) eb fun u H2 s2 r2 => ?_
    refine ho H2 x y v u _ _ eg (r1.same s2) r2 fun q H3 s3 r3 => ⟨false, rep_bl.mp r3, ?_⟩
    rw [if_neg (by decide)]
    exact hq H3 ((s1.trans s2).trans s3)
  · cases hd
/-! ### {k: v, ..}, flat values -/
def consP (a b : Option T) (r : Option (List (T × T))) : Option (List (T × T)) := match a, b, r with
  | some x, some y, some ps => some ((x, y) :: ps)
  | _, _, _ => none
def keysP : List (T × T) → Option (List (Key × T))
  | [] => some []
  | (a, b) :: r => match keyOf a, keysP r with
    | some y, some ys => if flatT b = true then some ((y, b) :: ys) else none
    | _, _ => none
def dispD (o : Option (List (T × T))) : Option T := match o with
  | some ps => if 0 < ps.length ∧ ps.length ≤ 15 then (keysP ps).map fun ks => .dic (mergeT [] ks) else none
  | none => none
inductive Pr (K : PySem.W.Frag) (H : Hp) : List (T × T) → List (V × V) → Prop
  | nil : Pr K H [] []
  | cons {a b : T} {x y : V} {ps : List (T × T)} {qs : List (V × V)} (h1 : Rep K H a x) (h2 : Rep K H b y) (h : Pr K H ps qs) : Pr K H ((a, b) :: ps) ((x, y) :: qs)
structure PPV (G : ι → Cx) (K : PySem.W.Frag) (keys : List (Option Expr)) (vals : List Expr) (d : Env' → Option (List (T × T))) : Prop where
  all : keys.all (·.isSome) = true
  len : keys.length = vals.length
  size : ∀ ρ ps, d ρ = some ps → ps.length = keys.length
  run : ∀ ρ ps, d ρ = some ps → ∃ trs : List (TE × TE), (∀ i pos, PPs (G i) pos keys vals trs) ∧ ∀ σ H Q, EnvR K H σ ρ → (∀ qs H', Same H H' → Pr K H' ps qs → Q qs H') → tPairs trs σ H Q
theorem Pr.same {H H' : Hp} (s : Same H H') {ps : List (T × T)} {qs : List (V × V)} (h : Pr K H ps qs) : Pr K H' ps qs := by
  induction h with
  | nil => exact .nil
  | cons h1 h2 _ ih => exact .cons (h1.same s) (h2.same s) ih
theorem ppv_nil : PPV G K [] [] (fun _ => some []) :=
  ⟨rfl, rfl, fun _ ps h => by cases h; rfl, fun _ ps h => by
    cases h
    exact ⟨[], fun _ _ => pps_nil, fun σ H Q _ hq => hq [] H (Same.refl H) .nil⟩⟩
theorem ppv_cons {a b : Expr} {ks : List (Option Expr)} {vs : List Expr} {da db : Env' → Option T} {dr : Env' → Option (List (T × T))} (ha : EV G K a da) (hb : EV G K b db) (hr : PPV G K ks vs dr) : PPV G K (some a :: ks) (b :: vs) (fun ρ => consP (da ρ) (db ρ) (dr ρ)) := by
  have key : ∀ ρ ps, consP (da ρ) (db ρ) (dr ρ) = some ps → ∃ x y r, da ρ = some x ∧ db ρ = some y ∧ dr ρ = some r ∧ ps = (x, y) :: r := by
    intro ρ ps h
    unfold consP at h
    split at h
    · cases h; exact ⟨_, _, _, by assumption, by assumption, by assumption, rfl⟩
    · cases h
  refine ⟨by rw [List.all_cons, hr.all]; rfl, by rw [List.length_cons, List.length_cons, hr.len], fun ρ ps h => ?_, fun ρ ps h => ?_⟩
  · obtain ⟨x, y, r, _, _, e3, rfl⟩ := key ρ ps h
    rw [List.length_cons, List.length_cons, hr.size ρ r e3]
  · obtain ⟨x, y, r, e1, e2, e3, rfl⟩ := key ρ ps h
    obtain ⟨trs, ht, hrun⟩ := hr.run ρ r e3
    refine ⟨(ES G a, ES G b) :: trs, fun i pos => pps_cons (pe_ts i) (pe_ts i) (ht i pos), fun σ H Q he hq => ?_⟩
    refine ha ρ σ H x _ he e1 fun v H1 s1 r1 => hb ρ σ H1 y _ (he.same s1) e2 fun u H2 s2 r2 => ?_
    refine hrun σ H2 _ (he.same (s1.trans s2)) fun qs H3 s3 r3 => ?_
    exact hq _ H3 ((s1.trans s2).trans s3) (.cons (r1.same (s2.trans s3)) (r2.same s3) r3)
theorem flat_move {H H' : Hp} {t : T} {v : V} (h : flatT t = true) (r : Rep K H t v) : Rep K H' t v := by
  cases t <;> first | (simp [flatT] at h; done) | (unfold Rep at r ⊢; exact r)
theorem pr_keys {H H' : Hp} {ps : List (T × T)} {qs : List (V × V)} (h : Pr K H ps qs) : ∀ {ks : List (Key × T)}, keysP ps = some ks → ∃ kvs : List (Key × V), qs = kvs.map (fun kv => (kV kv.1, kv.2)) ∧ RepsK K H' ks kvs ∧ kvs.length = ps.length := by
  induction h with
  | nil =>
    intro ks e
    cases e
    exact ⟨[], rfl, by unfold RepsK; rfl, rfl⟩
  | @cons a b x y ps qs h1 h2 h ih =>
    intro ks e
    unfold keysP at e
    split at e
    · rename_i y' ys e1 e2
      split at e
      · rename_i hf
        cases e
        obtain ⟨kvs, rfl, rk, hl⟩ := ih e2
        refine ⟨(y', y) :: kvs, ?_, ?_, by rw [List.length_cons, List.length_cons, hl]⟩
        · rw [List.map_cons, keyOf_rep e1 h1]
        · unfold RepsK
          exact ⟨y, kvs, rfl, flat_move hf h2, rk⟩
      · cases e
    · cases e
theorem evf_dict {keys : List (Option Expr)} {vals : List Expr} {pos : Pos} {d : Env' → Option (List (T × T))} (h : PPV G K keys vals d) : EVF G K (.Dict keys vals pos) (fun ρ => dispD (d ρ)) := by
  intro ρ σ H τ Q he hd hq
  dsimp only at hd
  unfold dispD at hd
  split at hd
  · rename_i ps e1
    split at hd
    · rename_i hl
      cases e2 : keysP ps with
      | none => rw [e2] at hd; cases hd
      | some ks =>
        rw [e2] at hd
        cases hd
        obtain ⟨trs, ht, hrun⟩ := h.run ρ ps e1
        have hsz := h.size ρ ps e1
        refine ⟨tDisp trs, fun i => pe_disp (ht i pos) h.all h.len (fun z => by rw [z] at hsz; rw [hsz] at hl; exact absurd hl.1 (by simp)) (by omega), fun p np => ?_⟩
        refine hrun σ _ _ (he.same (same_upd' np)) fun qs H2 s2 r2 => ⟨s2 p _ upd_same, ?_⟩
        have sH : ∀ o, Same H (upd H2 p o) := fun o b x e => by
          rw [upd_ne (ne_of_none e np)]
          exact s2 b x (same_upd' np b x e)
        obtain ⟨kvs, hk, _, hkl⟩ := pr_keys (H' := H2) r2 e2
        obtain ⟨kvs', hk', rk', _⟩ := pr_keys (H' := upd H2 p (.dK (mergeK [] kvs))) r2 e2
        have hkk : kvs' = kvs := by
          have e : kvs'.map (fun kv => (kV kv.1, kv.2)) = kvs.map (fun kv => (kV kv.1, kv.2)) := by rw [← hk', ← hk]
          refine List.map_inj_right ?_ |>.mp e
          rintro ⟨k1, v1⟩ ⟨k2, v2⟩ q
          simp only [Prod.mk.injEq] at q
          refine Prod.ext ?_ q.2
          have q1 := q.1
          cases k1 <;> cases k2 <;> simp_all [kV]
        subst hkk
        refine ⟨kvs', hk, by omega, ?_⟩
        exact hq p _ _ (sH _) np upd_same (.inr ⟨_, _, rfl, rfl, mergeT_rep rk' (by unfold RepsK; rfl) (by simp)⟩)
    · cases hd
  · cases hd
end DL
namespace Q
open PySem PySem.Spec L2 DL

/-! ### how the combinators step -/
theorem fn_rt {N : List Str} {fr : Bool} {d : Env' → Out} {ts : List T} {t : T} {ρ : Env'} (e : rho0 N ts = ρ) (h : d ρ = .rt t) : fnD N fr d ts = some t := by
  unfold fnD; rw [e, h]
theorem fn_nx {N : List Str} {d : Env' → Out} {ts : List T} {ρ ρ' : Env'} (e : rho0 N ts = ρ) (h : d ρ = .nx ρ') : fnD N false d ts = some .non := by
  unfold fnD; rw [e, h]; rfl
theorem sq {d1 d2 : Env' → Out} {ρ ρ' : Env'} {o : Out} (h1 : d1 ρ = .nx ρ') (h2 : d2 ρ' = o) : seqD d1 d2 ρ = o := by
  unfold seqD; rw [h1]; exact h2
theorem sqt {d1 d2 : Env' → Out} {ρ : Env'} {t : T} (h1 : d1 ρ = .rt t) : seqD d1 d2 ρ = .rt t := by
  unfold seqD; rw [h1]
theorem seqD_nx {d2 : Env' → Out} {ρ ρ' : Env'} : seqD (fun _ => .nx ρ') d2 ρ = d2 ρ' := rfl

section
variable {ρ : Env'} {i : Nat} {τ : T} {d a b : Env' → Out} {fr : Bool}
@[simp] theorem seq_eq {d1 d2 : Env' → Out} {ρ : Env'} : seqD d1 d2 ρ = (match d1 ρ with | .nx ρ' => d2 ρ' | o => o) := (rfl)
@[simp] theorem set_im : setD true i (some τ) ρ = .nx (ρ.set i (some τ)) := (rfl)
@[simp] theorem set_int {x : Int} : setD fr i (some (.int x)) ρ = .nx (ρ.set i (some (.int x))) := by cases fr <;> rfl
@[simp] theorem set_str {x : Str} : setD fr i (some (.str x)) ρ = .nx (ρ.set i (some (.str x))) := by cases fr <;> rfl
@[simp] theorem set_bl {x : Bool} : setD fr i (some (.bl x)) ρ = .nx (ρ.set i (some (.bl x))) := by cases fr <;> rfl
@[simp] theorem set_non : setD fr i (some .non) ρ = .nx (ρ.set i (some .non)) := by cases fr <;> rfl
@[simp] theorem if_t : ifD (some true) a b ρ = a ρ := (rfl)
@[simp] theorem if_f : ifD (some false) a b ρ = b ρ := (rfl)
@[simp] theorem rt_some : rtD (some τ) = .rt τ := (rfl)
@[simp] theorem b2_some {f : T → T → Option T} {x y : T} : b2 f (some x) (some y) = f x y := (rfl)
@[simp] theorem cons_some {x : T} {xs : List T} : consD (some x) (some xs) = some (x :: xs) := (rfl)
theorem nd_eq : nd i ρ = (ρ[i]?).join := rfl
@[simp] theorem nd_zero {x : Option T} {r : Env'} : nd 0 (x :: r) = x := by cases x <;> rfl
@[simp] theorem nd_succ {x : Option T} {r : Env'} {n : Nat} : nd (n + 1) (x :: r) = nd n r := (rfl)
@[simp] theorem asB_bl {c : Bool} : asB (some (.bl c)) = some c := (rfl)
@[simp] theorem asI_int {c : Int} : asI (some (.int c)) = some (some c) := (rfl)
@[simp] theorem and_t {c : Option Bool} : andD (some true) c = c := (rfl)
@[simp] theorem and_f {c : Option Bool} : andD (some false) c = some false := (rfl)
@[simp] theorem and_s {b c : Bool} : andD (some b) (some c) = some (b && c) := by cases b <;> rfl
@[simp] theorem or_t {c : Option Bool} : orD (some true) c = some true := (rfl)
@[simp] theorem or_f {c : Option Bool} : orD (some false) c = c := (rfl)
@[simp] theorem or_s {b c : Bool} : orD (some b) (some c) = some (b || c) := by cases b <;> rfl
@[simp] theorem andV_t {c : Option T} : andV (some (.bl true)) c = c := (rfl)
@[simp] theorem andV_f {c : Option T} : andV (some (.bl false)) c = some (.bl false) := (rfl)
@[simp] theorem orV_t {c : Option T} : orV (some (.bl true)) c = some (.bl true) := (rfl)
@[simp] theorem orV_f {c : Option T} : orV (some (.bl false)) c = c := (rfl)
@[simp] theorem notV_bl {c : Bool} : notV (some (.bl c)) = some (.bl (!c)) := (rfl)
@[simp] theorem ifV_t {x y : Option T} : ifV (some true) x y = x := (rfl)
@[simp] theorem ifV_f {x y : Option T} : ifV (some false) x y = y := (rfl)
@[simp] theorem un1_int {f : Int → Int} {x : Int} : un1 f (some (.int x)) = some (.int (f x)) := (rfl)
@[simp] theorem gI_int {f : Int → Int → Int} {x y : Int} : gI f (.int x) (.int y) = some (.int (f x y)) := (rfl)
@[simp] theorem gIb_int {f : Int → Int → Bool} {x y : Int} : gIb f (.int x) (.int y) = some (.bl (f x y)) := (rfl)
@[simp] theorem gLt_int {x y : Int} : gLt (.int x) (.int y) = some (.bl (decide (x < y))) := (rfl)
@[simp] theorem gLe_int {x y : Int} : gLe (.int x) (.int y) = some (.bl (decide (x ≤ y))) := (rfl)
@[simp] theorem gAdd_int {x y : Int} : gAdd (.int x) (.int y) = some (.int (x + y)) := (rfl)
@[simp] theorem gMin_int {x y : Int} : gMin [.int x, .int y] = some (.int (min x y)) := by
  show some (T.int (if y < x then y else x)) = _
  congr 2; omega
@[simp] theorem gMax_int {x y : Int} : gMax [.int x, .int y] = some (.int (max x y)) := by
  show some (T.int (if y > x then y else x)) = _
  congr 2; omega
@[simp] theorem gInt_int {x : Int} : gInt [.int x] = some (.int x) := (rfl)
@[simp] theorem gInt_bl {x : Bool} : gInt [.bl x] = some (.int (if x then 1 else 0)) := (rfl)
theorem mul_l {x y : Int} (h : -18446744073709551616 < x ∧ x < 18446744073709551616) : gMul (.int x) (.int y) = some (.int (x * y)) := by
  have : cMul x y = true := by simp only [cMul, Bool.or_eq_true, Bool.and_eq_true, decide_eq_true_eq]; exact .inl h
  simp [gMul, gIc, this]
theorem mul_r {x y : Int} (h : -18446744073709551616 < y ∧ y < 18446744073709551616) : gMul (.int x) (.int y) = some (.int (x * y)) := by
  have : cMul x y = true := by simp only [cMul, Bool.or_eq_true, Bool.and_eq_true, decide_eq_true_eq]; exact .inr h
  simp [gMul, gIc, this]
theorem div_s {x y : Int} (h : 0 < y ∧ y < 1073741824) : gDiv (.int x) (.int y) = some (.int (x / y)) := by
  simp [gDiv, gIc, cDiv, h]
theorem mod_s {x y : Int} (h : 0 < y) : gMod (.int x) (.int y) = some (.int (x % y)) := by
  simp [gMod, gIc, cMod, h]
@[simp] theorem ch_s {x y z : Int} : chD gLt gLe (some (.int x)) (some (.int y)) (some (.int z)) = some (.bl (decide (x < y) && decide (y ≤ z))) := by
  unfold chD; simp only [b2_some, gLt_int, gLe_int]; cases decide (x < y) <;> rfl
@[simp] theorem ch_s2 {x y z : Int} : chD gLe gLe (some (.int x)) (some (.int y)) (some (.int z)) = some (.bl (decide (x ≤ y) && decide (y ≤ z))) := by
  unfold chD; simp only [b2_some, gLe_int]; cases decide (x ≤ y) <;> rfl
theorem tup_some {ts : List T} (h : ts.length ≤ sizeLine) : tupD (some ts) = some (.tup ts) := by unfold tupD; simp [h]
theorem lst_some {ts : List T} (h : ts.length ≤ sizeLine) : lstD (some ts) = some (.lst ts) := by unfold lstD; simp [h]
theorem szl : sizeLine = 16777216 := rfl
@[simp] theorem tup_n0 : tupD (some []) = some (.tup []) := tup_some (by decide)
@[simp] theorem tup_n1 {a : T} : tupD (some [a]) = some (.tup [a]) := tup_some (by simp [szl])
@[simp] theorem tup_n2 {a b : T} : tupD (some [a, b]) = some (.tup [a, b]) := tup_some (by simp [szl])
@[simp] theorem tup_n3 {a b c : T} : tupD (some [a, b, c]) = some (.tup [a, b, c]) := tup_some (by simp [szl])
@[simp] theorem tup_n4 {a b c d : T} : tupD (some [a, b, c, d]) = some (.tup [a, b, c, d]) := tup_some (by simp [szl])
@[simp] theorem tup_n5 {a b c d e : T} : tupD (some [a, b, c, d, e]) = some (.tup [a, b, c, d, e]) := tup_some (by simp [szl])
@[simp] theorem lst_n0 : lstD (some []) = some (.lst []) := lst_some (by decide)
@[simp] theorem lst_n1 {a : T} : lstD (some [a]) = some (.lst [a]) := lst_some (by simp [szl])
@[simp] theorem lst_n2 {a b : T} : lstD (some [a, b]) = some (.lst [a, b]) := lst_some (by simp [szl])
@[simp] theorem lst_n3 {a b c : T} : lstD (some [a, b, c]) = some (.lst [a, b, c]) := lst_some (by simp [szl])
@[simp] theorem lst_n4 {a b c d : T} : lstD (some [a, b, c, d]) = some (.lst [a, b, c, d]) := lst_some (by simp [szl])
@[simp] theorem lst_n6 {a b c d e f : T} : lstD (some [a, b, c, d, e, f]) = some (.lst [a, b, c, d, e, f]) := lst_some (by simp [szl])
@[simp] theorem lst_n8 {a b c d e f g h : T} : lstD (some [a, b, c, d, e, f, g, h]) = some (.lst [a, b, c, d, e, f, g, h]) := lst_some (by simp [szl])
end
/-! ### places -/
theorem atI_some {α : Type} {xs : List α} {i : Int} (h0 : 0 ≤ i) (h : i < xs.length) : atI xs i = xs[i.toNat]? := by
  unfold atI ixN; simp [h0, h]
theorem subs_lst {ts : List T} {i : Int} (h0 : 0 ≤ i) (h : i < ts.length) : gSubs (.lst ts) (.int i) = ts[i.toNat]? := atI_some h0 h
theorem subs_tup {ts : List T} {i : Int} (h0 : 0 ≤ i) (h : i < ts.length) : gSubs (.tup ts) (.int i) = ts[i.toNat]? := atI_some h0 h
theorem subs_ints (is : List Int) {i : Int} (h0 : 0 ≤ i) (h : i < is.length) : ∃ v, v ∈ is ∧ gSubs (.lst (is.map T.int)) (.int i) = some (.int v) := by
  have hl : i.toNat < is.length := by omega
  refine ⟨is[i.toNat], List.getElem_mem hl, ?_⟩
  rw [subs_lst h0 (by simpa using h)]
  simp [hl]
theorem subs_strs (is : List Str) {i : Int} (h0 : 0 ≤ i) (h : i < is.length) : ∃ v, v ∈ is ∧ gSubs (.lst (is.map T.str)) (.int i) = some (.str v) := by
  have hl : i.toNat < is.length := by omega
  refine ⟨is[i.toNat], List.getElem_mem hl, ?_⟩
  rw [subs_lst h0 (by simpa using h)]
  simp [hl]
/-! ### equality -/
@[simp] theorem eqT_int {i j : Int} : eqT (.int i) (.int j) = decide (i = j) := by
  simp only [eqT, toD, PyData.eqv]; exact Bool.beq_eq_decide_eq i j
@[simp] theorem eqT_str {i j : Str} : eqT (.str i) (.str j) = decide (i = j) := by
  simp only [eqT, toD, PyData.eqv]; exact Bool.beq_eq_decide_eq i j
@[simp] theorem eqT_str_int {i : Str} {j : Int} : eqT (.str i) (.int j) = false := by simp [eqT, toD, PyData.eqv]
@[simp] theorem eqT_int_str {i : Int} {j : Str} : eqT (.int i) (.str j) = false := by simp [eqT, toD, PyData.eqv]
@[simp] theorem eqT_non_int {i : Int} : eqT .non (.int i) = false := by simp [eqT, toD, PyData.eqv]
@[simp] theorem eqT_int_non {i : Int} : eqT (.int i) .non = false := by simp [eqT, toD, PyData.eqv]
@[simp] theorem eqT_non_non : eqT .non .non = true := by simp [eqT, toD, PyData.eqv]
def eqTs (xs ys : List T) : Bool := PyData.eqvAll (toDs xs) (toDs ys)
@[simp] theorem eqTs_nil : eqTs [] [] = true := by simp [eqTs, toDs, PyData.eqvAll]
@[simp] theorem eqTs_cons {x y : T} {xs ys : List T} : eqTs (x :: xs) (y :: ys) = (eqT x y && eqTs xs ys) := by simp [eqTs, eqT, toDs, PyData.eqvAll]
@[simp] theorem eqTs_nc {y : T} {ys : List T} : eqTs [] (y :: ys) = false := by simp [eqTs, toDs, PyData.eqvAll]
@[simp] theorem eqTs_cn {y : T} {ys : List T} : eqTs (y :: ys) [] = false := by simp [eqTs, toDs, PyData.eqvAll]
@[simp] theorem eqT_tup {xs ys : List T} : eqT (.tup xs) (.tup ys) = eqTs xs ys := by simp [eqTs, eqT, toD, PyData.eqv]
@[simp] theorem eqT_lst {xs ys : List T} : eqT (.lst xs) (.lst ys) = eqTs xs ys := by simp [eqTs, eqT, toD, PyData.eqv]
mutual
theorem eqv_refl : ∀ t : T, PyData.eqv (toD t) (toD t) = true
  | .non => by simp [toD, PyData.eqv]
  | .bl _ => by simp [toD, PyData.eqv]
  | .int _ => by simp [toD, PyData.eqv]
  | .str _ => by simp [toD, PyData.eqv]
  | .raw _ => by simp [toD, PyData.eqv]
  | .scr ts => by simp [toD, PyData.eqv, eqvs_refl ts]
  | .clo _ => by simp [toD, PyData.eqv]
  | .dic _ => by simp [toD, PyData.eqv]
  | .lst ts => by simp [toD, PyData.eqv, eqvs_refl ts]
  | .tup ts => by simp [toD, PyData.eqv, eqvs_refl ts]
theorem eqvs_refl : ∀ t : List T, PyData.eqvAll (toDs t) (toDs t) = true
  | [] => by simp [toDs, PyData.eqvAll]
  | t :: ts => by simp [toDs, PyData.eqvAll, eqv_refl t, eqvs_refl ts]
end
theorem eqT_refl (t : T) : eqT t t = true := eqv_refl t
theorem eqTs_ints : ∀ xs ys : List Int, eqTs (xs.map T.int) (ys.map T.int) = decide (xs = ys)
  | [], [] => by simp
  | [], _ :: _ => by simp
  | _ :: _, [] => by simp
  | x :: xs, y :: ys => by
    simp [eqTs_ints xs ys]
/-- a value of depth at most n that may be compared as data -/
def okN (n : Nat) (t : T) : Bool := isD t && ((toD t).canLay0 && decide ((toD t).depth ≤ n))
theorem okN_mono {n m : Nat} {t : T} (h : n ≤ m) (o : okN n t = true) : okN m t = true := by
  simp only [okN, Bool.and_eq_true, decide_eq_true_eq] at o ⊢
  exact ⟨o.1, o.2.1, by omega⟩
theorem dOk_of {n : Nat} {t : T} (o : okN n t = true) (h : n ≤ 64 := by decide) : dOk t = true := by
  have := okN_mono h o
  simp only [okN, dOk, SeqAt.shaped, Bool.and_eq_true, decide_eq_true_eq] at this ⊢
  exact this
theorem okN_all {n : Nat} : ∀ {ts : List T}, (∀ t ∈ ts, okN n t = true) → isDs ts = true ∧ PyData.canLayAll0 (toDs ts) = true ∧ PyData.depthAll (toDs ts) ≤ n
  | [], _ => by simp [isDs, toDs, PyData.canLayAll0, PyData.depthAll]
  | t :: ts, h => by
    have h1 := h t (by simp)
    have ih := okN_all (n := n) (ts := ts) fun x hx => h x (by simp [hx])
    simp only [okN, Bool.and_eq_true, decide_eq_true_eq] at h1
    simp only [isDs, toDs, PyData.canLayAll0, PyData.depthAll, Bool.and_eq_true]
    exact ⟨⟨h1.1, ih.1⟩, ⟨h1.2.1, ih.2.1⟩, by omega⟩
theorem okN_tup {n : Nat} {ts : List T} (h : ∀ t ∈ ts, okN n t = true) : okN (n + 1) (.tup ts) = true := by
  obtain ⟨h1, h2, h3⟩ := okN_all h
  simp only [okN, isD, toD, PyData.canLay0, PyData.depth, Bool.and_eq_true, decide_eq_true_eq]
  exact ⟨h1, h2, by omega⟩
theorem okN_lst {n : Nat} {ts : List T} (h : ∀ t ∈ ts, okN n t = true) : okN (n + 1) (.lst ts) = true := by
  obtain ⟨h1, h2, h3⟩ := okN_all h
  simp only [okN, isD, toD, PyData.canLay0, PyData.depth, Bool.and_eq_true, decide_eq_true_eq]
  exact ⟨h1, h2, by omega⟩
@[simp] theorem okN_int {n : Nat} {i : Int} : okN n (.int i) = true := by simp [okN, isD, toD, PyData.canLay0, PyData.depth]
@[simp] theorem okN_non {n : Nat} : okN n .non = true := by simp [okN, isD, toD, PyData.canLay0, PyData.depth]
@[simp] theorem okN_bl {n : Nat} {i : Bool} : okN n (.bl i) = true := by simp [okN, isD, toD, PyData.canLay0, PyData.depth]
@[simp] theorem okN_str {n : Nat} {i : Str} : okN n (.str i) = PyData.strOk i := by simp [okN, isD, toD, PyData.canLay0, PyData.depth]
@[simp] theorem dOk_int {i : Int} : dOk (.int i) = true := dOk_of (n := 0) (by simp)
@[simp] theorem dOk_non : dOk .non = true := dOk_of (n := 0) (by simp)
@[simp] theorem dOk_bl {i : Bool} : dOk (.bl i) = true := dOk_of (n := 0) (by simp)
theorem dOk_str {i : Str} (h : PyData.strOk i = true) : dOk (.str i) = true := dOk_of (n := 0) (by simp [h])
theorem okN_ints {n : Nat} {xs : List Int} : okN (n + 1) (.lst (xs.map T.int)) = true := okN_lst fun t ht => by
  obtain ⟨a, _, rfl⟩ := List.mem_map.mp ht
  simp
@[simp] theorem dOk_ints {xs : List Int} : dOk (.lst (xs.map T.int)) = true := dOk_of (okN_ints (n := 0))
@[simp] theorem gEqA_int {neg : Bool} {i j : Int} : gEqA neg (.int i) (.int j) = some (.bl (xor neg (decide (i = j)))) := by
  show (if (dOk (.int i) && dOk (.int j)) = true then some (T.bl (xor neg (eqT (.int i) (.int j)))) else none) = _
  rw [dOk_int, dOk_int, eqT_int]; rfl
theorem gEqA_data {neg : Bool} {x y : T} (hx : dOk x = true) (hy : dOk y = true) : gEqA neg x y = some (.bl (xor neg (eqT x y))) := by
  have hr : ∀ v, y ≠ .raw v := fun v e => by subst e; simp [dOk, isD] at hy
  have hd : ∀ v, y ≠ .dic v := fun v e => by subst e; simp [dOk, isD] at hy
  unfold gEqA
  split
  · exact absurd rfl (hd _)
  · exact absurd rfl (hr _)
  · rw [hx, hy]; rfl
theorem gEqA_str {neg : Bool} {i j : Str} (hx : PyData.strOk i = true) (hy : PyData.strOk j = true) : gEqA neg (.str i) (.str j) = some (.bl (xor neg (decide (i = j)))) := by
  rw [gEqA_data (dOk_str hx) (dOk_str hy), eqT_str]
end Q
namespace Q
open PySem PySem.Spec L2 DL

/-! ### what holds behind a statement -/
@[irreducible] def W (N B C : Env' → Prop) (R : T → Prop) : Out → Prop
  | .nx ρ => N ρ
  | .bk ρ => B ρ
  | .ct ρ => C ρ
  | .rt t => R t
  | .er => False
section
variable {N B C : Env' → Prop} {R : T → Prop} {ρ : Env'}
@[simp] theorem w_nx : W N B C R (.nx ρ) = N ρ := by unfold W; rfl
@[simp] theorem w_bk : W N B C R (.bk ρ) = B ρ := by unfold W; rfl
@[simp] theorem w_ct : W N B C R (.ct ρ) = C ρ := by unfold W; rfl
@[simp] theorem w_rt {t : T} : W N B C R (.rt t) = R t := by unfold W; rfl
theorem w_er : W N B C R .er = False := by unfold W; rfl
@[simp] theorem w_seq {a b : Env' → Out} : W N B C R (seqD a b ρ) = W (fun ρ' => W N B C R (b ρ')) B C R (a ρ) := by
  unfold seqD; cases a ρ <;> simp only [w_nx, w_bk, w_ct, w_rt, w_er]
theorem w_mono {N' B' C' : Env' → Prop} {R' : T → Prop} {o : Out} (h : W N B C R o) (hN : ∀ ρ, N ρ → N' ρ) (hB : ∀ ρ, B ρ → B' ρ) (hC : ∀ ρ, C ρ → C' ρ) (hR : ∀ ρ, R ρ → R' ρ) : W N' B' C' R' o := by
  cases o
  · rw [w_nx] at h ⊢; exact hN _ h
  · rw [w_rt] at h ⊢; exact hR _ h
  · rw [w_bk] at h ⊢; exact hB _ h
  · rw [w_ct] at h ⊢; exact hC _ h
  · rw [w_er] at h; exact h.elim
theorem w_cut {P : Env' → Prop} {o : Out} (h : W P (fun _ => False) (fun _ => False) (fun _ => False) o) (k : ∀ ρ, P ρ → N ρ) : W N B C R o :=
  w_mono h k (fun _ h => h.elim) (fun _ h => h.elim) (fun _ h => h.elim)
theorem w_if {c : Option Bool} {a b : Env' → Out} {x : Bool} (h : c = some x) (ha : x = true → W N B C R (a ρ)) (hb : x = false → W N B C R (b ρ)) : W N B C R (ifD c a b ρ) := by
  subst h
  cases x
  · exact hb rfl
  · exact ha rfl
theorem w_fn {M : List Str} {fr : Bool} {d : Env' → Out} {ts : List T} (h : W (fun _ => False) (fun _ => False) (fun _ => False) R (d (rho0 M ts))) : ∃ t, fnD M fr d ts = some t ∧ R t := by
  unfold fnD
  cases e : d (rho0 M ts) <;> rw [e] at h
  · rw [w_nx] at h; exact h.elim
  · rw [w_rt] at h; exact ⟨_, rfl, h⟩
  · rw [w_bk] at h; exact h.elim
  · rw [w_ct] at h; exact h.elim
  · rw [w_er] at h; exact h.elim
theorem w_eq {M : List Str} {fr : Bool} {d : Env' → Out} {ts : List T} {t : T} (h : W (fun _ => False) (fun _ => False) (fun _ => False) (fun x => x = t) (d (rho0 M ts))) : fnD M fr d ts = some t := by
  obtain ⟨x, e, rfl⟩ := w_fn (fr := fr) h
  exact e
/-- a loop, by what holds with a rest still to go -/
theorem w_for {bd : Env' → T → Option Env'} {body : Env' → Out} (I : List T → Env' → Prop) (hn : ∀ ρ, I [] ρ → N ρ)
    (hc : ∀ t ts ρ, I (t :: ts) ρ → ∃ ρ1, bd ρ t = some ρ1 ∧ W (I ts) N (I ts) R (body ρ1)) : ∀ (ts : List T) (ρ : Env'), I ts ρ → W N B C R (forD bd body ts ρ)
  | [], ρ, h => by
    unfold forD
    rw [w_nx]; exact hn ρ h
  | t :: ts, ρ, h => by
    obtain ⟨ρ1, e, w⟩ := hc t ts ρ h
    unfold forD
    rw [e]
    cases hb : body ρ1 <;> rw [hb] at w
    · rw [w_nx] at w; simp only [hb]; exact w_for I hn hc ts _ w
    · rw [w_rt] at w; simp only [hb, w_rt]; exact w
    · rw [w_bk] at w; simp only [hb, w_nx]; exact w
    · rw [w_ct] at w; simp only [hb]; exact w_for I hn hc ts _ w
    · rw [w_er] at w; exact w.elim
theorem w_forI {bd : Env' → T → Option Env'} {body : Env' → Out} {o : Option (List T)} {ts : List T} (e : o = some ts) (I : List T → Env' → Prop) (h0 : I ts ρ) (hn : ∀ ρ, I [] ρ → N ρ)
    (hc : ∀ t ts ρ, I (t :: ts) ρ → ∃ ρ1, bd ρ t = some ρ1 ∧ W (I ts) N (I ts) R (body ρ1)) : W N B C R (forI bd body o ρ) := by
  subst e; exact w_for I hn hc ts ρ h0
theorem w_forK {lst : List (Key × T) → List T} {bd : Env' → T → Option Env'} {body : Env' → Out} {o : Option T} {kts : List (Key × T)} (e : o = some (.dic kts)) (I : List T → Env' → Prop) (h0 : I (lst kts) ρ) (hn : ∀ ρ, I [] ρ → N ρ)
    (hc : ∀ t ts ρ, I (t :: ts) ρ → ∃ ρ1, bd ρ t = some ρ1 ∧ W (I ts) N (I ts) R (body ρ1)) : W N B C R (forK lst bd body o ρ) := by
  subst e; exact w_for I hn hc _ ρ h0
/-- a loop that is neither left nor returned from -/
theorem w_forS {bd : Env' → T → Option Env'} {body : Env' → Out} {o : Option (List T)} {ts : List T} (e : o = some ts) (I : List T → Env' → Prop) (h0 : I ts ρ)
    (hc : ∀ t ts ρ, I (t :: ts) ρ → ∃ ρ1, bd ρ t = some ρ1 ∧ W (I ts) (fun _ => False) (I ts) (fun _ => False) (body ρ1)) (hn : ∀ ρ, I [] ρ → N ρ) : W N B C R (forI bd body o ρ) :=
  w_forI e I h0 hn fun t ts ρ h => by
    obtain ⟨ρ1, e, w⟩ := hc t ts ρ h
    exact ⟨ρ1, e, w_mono w (fun _ h => h) (fun _ h => h.elim) (fun _ h => h) (fun _ h => h.elim)⟩
theorem w_forKS {lst : List (Key × T) → List T} {bd : Env' → T → Option Env'} {body : Env' → Out} {o : Option T} {kts : List (Key × T)} (e : o = some (.dic kts)) (I : List T → Env' → Prop) (h0 : I (lst kts) ρ)
    (hc : ∀ t ts ρ, I (t :: ts) ρ → ∃ ρ1, bd ρ t = some ρ1 ∧ W (I ts) (fun _ => False) (I ts) (fun _ => False) (body ρ1)) (hn : ∀ ρ, I [] ρ → N ρ) : W N B C R (forK lst bd body o ρ) :=
  w_forK e I h0 hn fun t ts ρ h => by
    obtain ⟨ρ1, e, w⟩ := hc t ts ρ h
    exact ⟨ρ1, e, w_mono w (fun _ h => h) (fun _ h => h.elim) (fun _ h => h) (fun _ h => h.elim)⟩
theorem w_setE {P : T → Prop} {free : Bool} {i : Nat} {o : Option T} (h : ∃ τ, o = some τ ∧ P τ) (k : ∀ τ, P τ → (free || imm τ) = true ∧ N (ρ.set i (some τ))) : W N B C R (setD free i o ρ) := by
  obtain ⟨τ, rfl, p⟩ := h
  obtain ⟨k1, k2⟩ := k τ p
  simp only [setD, k1, if_true, w_nx]
  exact k2
theorem w_ownE {P : T → Prop} {i : Nat} {o : Option T} (h : ∃ τ, o = some τ ∧ P τ) (k : ∀ τ, P τ → immE τ = true ∧ N (ρ.set i (some τ))) : W N B C R (ownD i o ρ) := by
  obtain ⟨τ, rfl, p⟩ := h
  obtain ⟨k1, k2⟩ := k τ p
  simp only [ownD, k1, if_true, w_nx]
  exact k2
theorem w_rtE {o : Option T} (h : ∃ τ, o = some τ ∧ R τ) : W N B C R (rtD o) := by
  obtain ⟨τ, rfl, p⟩ := h
  rw [rt_some, w_rt]; exact p
theorem w_app {i : Nat} {o : Option T} {ts : List T} {P : T → Prop} (hn : nd i ρ = some (.lst ts)) (hl : ts.length < sizeLine) (h : ∃ τ, o = some τ ∧ P τ) (k : ∀ τ, P τ → imm τ = true ∧ N (ρ.set i (some (.lst (ts ++ [τ]))))) : W N B C R (appD i o ρ) := by
  obtain ⟨τ, rfl, p⟩ := h
  obtain ⟨k1, k2⟩ := k τ p
  unfold appD; rw [hn]
  simp only [k1, hl, and_self, if_true, w_nx]
  exact k2
end
theorem sIx_some {n d : Nat} {A : Int} (h : 0 ≤ A) : HT.sIx n d (some A) = min A.toNat n := by
  have : ¬ A < 0 := by omega
  simp [HT.sIx, this]
/-! ### comprehensions -/
theorem comp_some {bd : Env' → T → Option Env'} {c : Env' → Option Bool} {e : Env' → Option T} {ρ : Env'} (p : T → Bool) (g : T → T) : ∀ {τs : List T}, (∀ t ∈ τs, ∃ ρ1, bd ρ t = some ρ1 ∧ c ρ1 = some (p t) ∧ (p t = true → e ρ1 = some (g t))) → compD bd c e ρ τs = some ((τs.filter p).map g)
  | [], _ => rfl
  | t :: ts, h => by
    obtain ⟨ρ1, h1, h2, h3⟩ := h t (by simp)
    have ih := comp_some p g (τs := ts) fun x hx => h x (by simp [hx])
    unfold compD
    rw [h1]
    simp only [h2]
    cases hp : p t
    · simp [ih, hp]
    · simp [ih, hp, h3 hp]
theorem lc_some {bd : Env' → T → Option Env'} {c : Env' → Option Bool} {e : Env' → Option T} {vs : List Nat} {ρ : Env'} {o : Option (List T)} {τs : List T} (ho : o = some τs) (hl : τs.length ≤ sizeLine) (p : T → Bool) (g : T → T) (h : ∀ t ∈ τs, ∃ ρ1, bd (wipeD ρ vs) t = some ρ1 ∧ c ρ1 = some (p t) ∧ (p t = true → e ρ1 = some (g t))) (hi : immL ((τs.filter p).map g) = true) :
    lcD bd c e vs ρ o = some (.lst ((τs.filter p).map g)) := by
  subst ho
  have := comp_some p g h
  simp only [lcD, hl, if_true, this, hi]
theorem immL_all : ∀ {ts : List T}, (∀ t ∈ ts, imm t = true) → immL ts = true
  | [], _ => by simp [immL]
  | t :: ts, h => by
    have ih : immL ts = true := immL_all fun x hx => h x (List.mem_cons_of_mem _ hx)
    simp [immL, h t (by simp), ih]
theorem immL_ints {xs : List Int} : immL (xs.map T.int) = true := immL_all fun t ht => by
  obtain ⟨a, _, rfl⟩ := List.mem_map.mp ht
  simp [imm]
theorem immL_strs {xs : List Str} : immL (xs.map T.str) = true := immL_all fun t ht => by
  obtain ⟨a, _, rfl⟩ := List.mem_map.mp ht
  simp [imm]
@[simp] theorem imm_non : imm .non = true := by simp [imm]
@[simp] theorem imm_bl {b : Bool} : imm (.bl b) = true := by simp [imm]
@[simp] theorem imm_int {b : Int} : imm (.int b) = true := by simp [imm]
@[simp] theorem imm_str {b : Str} : imm (.str b) = true := by simp [imm]
@[simp] theorem imm_tup {ts : List T} : imm (.tup ts) = immL ts := by simp [imm]
@[simp] theorem immL_nil : immL [] = true := by simp [immL]
@[simp] theorem immL_cons {t : T} {ts : List T} : immL (t :: ts) = (imm t && immL ts) := by simp [immL]
@[simp] theorem immK_nil : immK [] = true := by simp [immK]
@[simp] theorem immE_lst {ts : List T} : immE (.lst ts) = immL ts := (rfl)
@[simp] theorem immE_dic {ts : List (Key × T)} : immE (.dic ts) = immK ts := (rfl)
@[simp] theorem imm_ints {xs : List Int} : immL (xs.map T.int) = true := immL_ints
@[simp] theorem imm_strs {xs : List Str} : immL (xs.map T.str) = true := immL_strs
theorem own_s {i : Nat} {τ : T} {ρ : Env'} (h : immE τ = true) : ownD i (some τ) ρ = .nx (ρ.set i (some τ)) := by simp only [ownD, h, if_true]
@[simp] theorem own_nil {i : Nat} {ρ : Env'} : ownD i (some (.lst [])) ρ = .nx (ρ.set i (some (.lst []))) := by simp [ownD]
@[simp] theorem own_dnil {i : Nat} {ρ : Env'} : ownD i (some (.dic [])) ρ = .nx (ρ.set i (some (.dic []))) := by simp [ownD]
theorem app_s {i : Nat} {o : Option T} {τ : T} {ts : List T} {ρ : Env'} (hn : nd i ρ = some (.lst ts)) (ho : o = some τ) (hi : imm τ = true) (hl : ts.length < sizeLine) : appD i o ρ = .nx (ρ.set i (some (.lst (ts ++ [τ])))) := by
  unfold appD; rw [hn, ho]; simp [hi, hl]
theorem rng1_s {j : Int} (h : -(2 ^ 62) ≤ j ∧ j < 2 ^ 62) : rng1 (some (.int j)) = some (rngL 0 j.toNat) := by
  have : r62 j = true := by simp only [r62, Bool.and_eq_true, decide_eq_true_eq]; exact h
  simp [rng1, this]
theorem rngL_mem {lo : Int} {n : Nat} {t : T} (h : t ∈ rngL lo n) : ∃ i : Int, t = .int i ∧ lo ≤ i ∧ i < lo + n := by
  unfold rngL at h
  obtain ⟨a, ha, rfl⟩ := List.mem_map.mp h
  have := List.mem_range.mp ha
  exact ⟨lo + a, rfl, by omega, by omega⟩
theorem rngL_cons {lo : Int} {n : Nat} : rngL lo (n + 1) = .int lo :: rngL (lo + 1) n := by
  unfold rngL
  rw [List.range_succ_eq_map]
  simp only [List.map_cons, List.map_map, Int.ofNat_zero]
  congr 1
  · simp
  · apply List.map_congr_left
    intro a _
    show T.int (lo + ((a + 1 : Nat) : Int)) = T.int (lo + 1 + a)
    congr 1; omega
@[simp] theorem rngL_zero {lo : Int} : rngL lo 0 = [] := (rfl)

/-! ### texts -/
/-- of n small letters -/
def Lets (n : Nat) (x : Str) : Prop := x.cps.toList.length = n ∧ ∀ c ∈ x.cps.toList, 97 ≤ c ∧ c ≤ 122
theorem Lets.len {n : Nat} {x : Str} (h : Lets n x) : x.length = n := by
  have := h.1
  simpa [PySem.Str.length] using this
theorem Lets.ok {n : Nat} {x : Str} (h : Lets n x) : PyData.strOk x = true := by
  unfold PyData.strOk
  rw [← Array.all_toList]
  rw [List.all_eq_true]
  intro c hc
  have := h.2 c hc
  simp; omega
theorem app_list (a b : Str) : (a ++ b).cps.toList = a.cps.toList ++ b.cps.toList := by
  show (a.cps ++ b.cps).toList = _
  simp
theorem Lets.app {n m : Nat} {x y : Str} (h : Lets n x) (k : Lets m y) : Lets (n + m) (x ++ y) := by
  unfold Lets
  rw [app_list]
  refine ⟨by simp [h.1, k.1], fun c hc => ?_⟩
  rcases List.mem_append.mp hc with q | q
  · exact h.2 c q
  · exact k.2 c q
theorem Lets.cut {n : Nat} {x : Str} (h : Lets n x) (lo hi : Option Int) : ∃ m, m = min (HT.sIx n n hi - HT.sIx n 0 lo) (n - HT.sIx n 0 lo) ∧ Lets m (cutS x lo hi) := by
  refine ⟨_, rfl, ?_, fun c hc => ?_⟩
  · unfold cutS
    rw [h.len]
    simp only [List.length_take, List.length_drop, h.1]
  · unfold cutS at hc
    exact h.2 c (List.mem_of_mem_drop (List.mem_of_mem_take hc))
theorem glued_list (ys : List Str) : ∀ a : Array Nat, (List.foldl (fun acc (p : Str) => acc ++ Str.empty.cps ++ p.cps) a ys).toList = a.toList ++ (ys.map fun y => y.cps.toList).flatten := by
  induction ys with
  | nil => intro a; simp
  | cons y ys ih =>
    intro a
    rw [List.foldl_cons, ih]
    simp [Str.empty]
theorem join_list (z : Str) (hz : z = Str.empty) (ys : List Str) : (Txt.join z ys).cps.toList = (ys.map fun y => y.cps.toList).flatten := by
  subst hz
  unfold Txt.join Builtin.Str.glued
  cases ys with
  | nil => simp [Str.empty]
  | cons y ys =>
    show (List.foldl _ y.cps (List.drop 1 (y :: ys))).toList = _
    rw [List.drop_one, List.tail_cons, glued_list]
    simp
end Q
namespace Q
open PySem PySem.Spec PyProof.Rows L2 DL
abbrev N_counting : List Str := ["book", "n", "undone", "falling", "number", "entry"]
def D_counting : Env' → Out := (seqD (fun ρ => ownD 2 (some (.dic [])) ρ)
  (seqD (fun ρ => ownD 3 (lstD (some [])) ρ)
  (seqD (fun ρ => forI (bdN 4)
    (seqD (fun ρ => ifD (orD (asB (b2 gGt (nd 4 ρ) (nd 1 ρ))) (asB (b2 (gInA false) (nd 4 ρ) (nd 2 ρ))))
    (fun ρ => .ct ρ)
    (fun ρ => .nx ρ) ρ)
  (seqD (fun ρ => setD false 5 (b2 gSubs (nd 0 ρ) (nd 4 ρ)) ρ)
  (seqD (fun ρ => ifD (asB (b2 (gEqA false) (b2 gSubs (nd 5 ρ) (some (.int 0))) (some (.str "undo"))))
    (fun ρ => stD 2 (some (.bl true)) (b2 gSubs (nd 5 ρ) (some (.int 1))) ρ)
    (fun ρ => .nx ρ) ρ)
  (fun ρ => appD 3 (nd 4 ρ) ρ)))) (itF ((nd 0 ρ).bind fun t => gSortedR [t])) ρ)
  (fun ρ => rtD (revD (nd 3 ρ))))))
def f_counting : List T → Option T := fnD N_counting true D_counting
abbrev N__law_of : List Str := ["_law_script", "_law_k"]
def D__law_of : Env' → Out := (fun ρ => rtD (b2 gSubs (b2 gAdd (b3 gSlL (nd 0 ρ) (asI (nd 1 ρ)) (asI (b2 gAdd (nd 1 ρ) (some (.int 1))))) (lstD (consD (some (.int 0)) (some [])))) (some (.int 0))))
def f__law_of : List T → Option T := fnD N__law_of false D__law_of
abbrev N__law_names : List Str := ["_law_cell", "_law_many", "_law_some", "_law_names_here", "_law_k", "_law_more", "_law_word", "_law_at", "_law_j"]
def D__law_names : Env' → Out := (seqD (fun ρ => setD true 2 (some (.str "abcdefghijklmnopqrstuvwxy")) ρ)
  (seqD (fun ρ => ownD 3 (lstD (some [])) ρ)
  (seqD (fun ρ => forI (bdN 4)
    (seqD (fun ρ => setD false 5 (b2 gAdd (b2 gDiv (nd 0 ρ) (some (.int 2))) (b2 gMul (b2 gMul (nd 4 ρ) (some (.int 48271))) (b2 gMod (nd 0 ρ) (some (.int 2))))) ρ)
  (seqD (fun ρ => setD false 6 (b2 gJoin (some (.str "")) (lcD (bdN 8) (fun _ => some true) (fun ρ => b2 gSubs (nd 2 ρ) (b2 gMod (b2 gAdd (b2 gDiv (nd 5 ρ) (some (.int 7))) (b2 gMul (some (.int 6)) (nd 8 ρ))) (some (.int 25)))) [8] ρ (rng1 (b2 gMod (nd 5 ρ) (some (.int 7)))))) ρ)
  (seqD (fun ρ => setD false 7 (b2 gMod (b2 gDiv (nd 5 ρ) (some (.int 175))) (b2 gAdd ((consD (nd 6 ρ) (some [])).bind gLen) (some (.int 1)))) ρ)
  (fun ρ => appD 3 (b2 gAdd (b2 gAdd (b2 gAdd (b3 gSl (nd 6 ρ) (some none) (asI (nd 7 ρ))) (some (.str "z"))) (b2 gSubs (nd 2 ρ) (nd 4 ρ))) (b3 gSl (nd 6 ρ) (asI (nd 7 ρ)) (some none))) ρ)))) (rng1 (nd 1 ρ)) ρ)
  (seqD (fun ρ => ifD (andD (asB (b2 (gEqA false) (b2 gMod (nd 0 ρ) (some (.int 5))) (some (.int 3)))) (asB (b2 (gInA true) (revSD (b2 gSubs (nd 3 ρ) (some (.int 0)))) (nd 3 ρ))))
    (fun ρ => stD 3 (revSD (b2 gSubs (nd 3 ρ) (some (.int 0)))) (some (.int 1)) ρ)
    (fun ρ => .nx ρ) ρ)
  (fun ρ => rtD (nd 3 ρ))))))
def f__law_names : List T → Option T := fnD N__law_names true D__law_names
abbrev N__law_entry : List Str := ["_law_names_here", "_law_base_here", "_law_n", "_law_number", "_law_low", "_law_high", "_law_name"]
def D__law_entry : Env' → Out := (seqD (fun ρ => setD true 2 (b2 gMod (b2 gMul (nd 2 ρ) (some (.int 48271))) (some (.int 2147483647))) ρ)
  (seqD (fun ρ => setD true 4 ((consD (some (.int 1000000)) (consD (b2 gAdd (nd 1 ρ) (b2 gMod (b2 gDiv (nd 2 ρ) (some (.int 24))) (b2 gSubs (lstD (consD (some (.int 10)) (consD (some (.int 900000)) (some [])))) ((consD (b2 (gEqA false) (b2 gMod (b2 gDiv (nd 2 ρ) (some (.int 11520))) (some (.int 5))) (some (.int 1))) (some [])).bind gInt)))) (some []))).bind gMin) ρ)
  (seqD (fun ρ => setD true 5 ((consD (some (.int 1000000)) (consD (b2 gAdd (nd 4 ρ) (b2 gSubs (lstD (consD (some (.int 0)) (consD (some (.int 1)) (consD (some (.int 3)) (consD (some (.int 9)) (consD (some (.int 35)) (consD (some (.int 700)) (consD (some (.int 1000000)) (consD (some (.int 9)) (some [])))))))))) (b2 gMod (b2 gDiv (nd 2 ρ) (some (.int 240))) (some (.int 8))))) (some []))).bind gMin) ρ)
  (seqD (fun ρ => setD true 6 (b2 gSubs (nd 0 ρ) (b2 gMod (b2 gDiv (nd 2 ρ) (some (.int 8))) (some (.int 3)))) ρ)
  (seqD (fun ρ => ifD (andD (asB (b2 gGt (b2 gMod (nd 2 ρ) (some (.int 8))) (some (.int 5)))) (asB (b2 gGt (nd 3 ρ) (some (.int 1)))))
    (fun ρ => rtD (tupD (consD (some (.str "undo")) (consD (b2 gAdd (some (.int 1)) (b2 gMod (b2 gDiv (nd 2 ρ) (some (.int 8))) (b2 gSub (nd 3 ρ) (some (.int 1))))) (some [])))))
    (fun ρ => .nx ρ) ρ)
  (seqD (fun ρ => ifD (asB (b2 (gEqA false) (b2 gMod (nd 2 ρ) (some (.int 8))) (some (.int 3))))
    (fun ρ => rtD (tupD (consD (some (.str "clear")) (consD (nd 6 ρ) (consD (nd 4 ρ) (consD (nd 5 ρ) (some [])))))))
    (fun ρ => .nx ρ) ρ)
  (seqD (fun ρ => ifD (asB (b2 (gInA false) (b2 gMod (nd 2 ρ) (some (.int 8))) (tupD (consD (some (.int 4)) (consD (some (.int 5)) (some []))))))
    (fun ρ => rtD (tupD (consD (some (.str "like")) (consD (nd 6 ρ) (consD (nd 4 ρ) (consD (nd 5 ρ) (consD (b2 gSubs (nd 0 ρ) (b2 gMod (b2 gDiv (nd 2 ρ) (some (.int 1920))) (some (.int 3)))) (some []))))))))
    (fun ρ => .nx ρ) ρ)
  (fun ρ => rtD (tupD (consD (some (.str "tell")) (consD (nd 6 ρ) (consD (nd 4 ρ) (consD (nd 5 ρ) (consD (b2 gSubs (lstD (consD (some (.int 1)) (consD (some (.int 2)) (consD (some (.int 1)) (consD (some (.int 0)) (consD (un1 (fun i => -i) (some (.int 1))) (consD (b2 gSub (b2 gMod (nd 2 ρ) (some (.int 2000000001))) (some (.int 1000000000))) (some [])))))))) (b2 gMod (b2 gDiv (nd 2 ρ) (some (.int 1920))) (some (.int 6)))) (some [])))))))))))))))
def f__law_entry : List T → Option T := fnD N__law_entry false D__law_entry
abbrev N__law_base : List Str := ["_law_script"]
def D__law_base : Env' → Out := (fun ρ => rtD (b2 gSubs (lstD (consD (some (.int 0)) (consD (some (.int 7)) (consD (some (.int 300)) (consD (some (.int 999982)) (some [])))))) (b2 gMod ((consD (nd 0 ρ) (consD (some (.int 0)) (some []))).bind f__law_of) (some (.int 4)))))
def f__law_base : List T → Option T := fnD N__law_base false D__law_base
abbrev N__law_book : List Str := ["_law_script", "_law_many", "_law_names_here", "_law_gap", "_law_rows", "_law_k", "_law_number", "_law_cut"]
def D__law_book : Env' → Out := (seqD (fun ρ => setD true 2 ((consD ((consD (nd 0 ρ) (consD (some (.int 1)) (some []))).bind f__law_of) (consD (some (.int 3)) (some []))).bind f__law_names) ρ)
  (seqD (fun ρ => setD true 3 (b2 gAdd (some (.int 1)) (b2 gMod (b2 gDiv ((consD (nd 0 ρ) (consD (some (.int 0)) (some []))).bind f__law_of) (some (.int 4))) (some (.int 3)))) ρ)
  (seqD (fun ρ => ownD 4 (lstD (some [])) ρ)
  (seqD (fun ρ => forI (bdN 5)
    (seqD (fun ρ => setD false 6 (b2 gAdd (some (.int 1)) (b2 gMul (nd 5 ρ) (nd 3 ρ))) ρ)
  (fun ρ => appD 4 (tupD (consD (nd 6 ρ) (consD ((consD (nd 2 ρ) (consD ((consD (nd 0 ρ) (some [])).bind f__law_base) (consD (b2 gAdd (b2 gSubs (nd 0 ρ) (b2 gAdd (some (.int 4)) (nd 5 ρ))) (b2 gMul (some (.int 7)) (nd 5 ρ))) (consD (nd 6 ρ) (some []))))).bind f__law_entry) (some [])))) ρ)) (rng1 ((consD (nd 1 ρ) (consD (b2 gSub ((consD (nd 0 ρ) (some [])).bind gLen) (some (.int 4))) (some []))).bind gMin)) ρ)
  (seqD (fun ρ => setD false 7 (b2 gMod (b2 gDiv ((consD (nd 0 ρ) (consD (some (.int 0)) (some []))).bind f__law_of) (some (.int 12))) (b2 gAdd ((consD (nd 4 ρ) (some [])).bind gLen) (some (.int 1)))) ρ)
  (fun ρ => rtD ((consD (b2 gAdd (b3 gSlL (nd 4 ρ) (asI (nd 7 ρ)) (some none)) (b3 gSlL (nd 4 ρ) (some none) (asI (nd 7 ρ)))) (some [])).bind gDict)))))))
def f__law_book : List T → Option T := fnD N__law_book true D__law_book
end Q
namespace Q
open PySem PySem.Spec L2 DL

/-! ### _law_of -/
theorem of_eq (ns : List Int) (k : Nat) (hk : k < 1000) (h : ns.length ≤ 63) : f__law_of [.scr (ns.map T.int), .int k] = some (.int (ns.getD k 0)) := by
  have hc : cutT (ns.map T.int) (some (k : Int)) (some ((k : Int) + 1)) = ((ns.drop k).take 1).map T.int := by
    unfold cutT
    have h1 : HT.sIx (ns.map T.int).length 0 (some (k : Int)) = min k ns.length := by
      unfold HT.sIx
      have : ¬ ((k : Int) < 0) := by omega
      simp [this]
    have h2 : HT.sIx (ns.map T.int).length (ns.map T.int).length (some ((k : Int) + 1)) = min (k + 1) ns.length := by
      unfold HT.sIx
      have : ¬ ((k : Int) + 1 < 0) := by omega
      simp [this]
      try omega
    rw [h1, h2]
    rw [← List.map_drop, ← List.map_take]
    congr 1
    by_cases hl : k < ns.length
    · have e1 : min k ns.length = k := by omega
      have e2 : min (k + 1) ns.length - k = 1 := by omega
      rw [e1, e2]
    · have e1 : min k ns.length = ns.length := by omega
      have e2 : ns.drop k = [] := List.drop_eq_nil_of_le (by omega)
      rw [e1, e2]; simp
  refine fn_rt rfl ?_
  show rtD (b2 gSubs (b2 gAdd (b3 gSlL (some (.scr (ns.map T.int))) (asI (some (.int k))) (asI (b2 gAdd (some (.int k)) (some (.int 1))))) (lstD (consD (some (.int 0)) (some [])))) (some (.int 0))) = _
  simp only [b2_some, gAdd_int, asI_int, cons_some, lst_n1, b3, gSlL, hc]
  have hl : ((ns.drop k).take 1).length ≤ 1 := by simp; omega
  have hg : gAdd (.lst (((ns.drop k).take 1).map T.int)) (.lst [.int 0]) = some (.lst (((ns.drop k).take 1).map T.int ++ [.int 0])) := by
    unfold gAdd
    have : (((ns.drop k).take 1).map T.int).length + [T.int 0].length ≤ sizeLine := by simp [szl]; omega
    simp only [this, if_true]
  rw [hg, b2_some, subs_lst (by decide) (by simp)]
  by_cases hk : k < ns.length
  · have e : (ns.drop k).take 1 = [ns[k]] := by rw [List.drop_eq_getElem_cons hk]; rfl
    rw [e]
    simp [List.getD, hk]
  · rw [List.drop_eq_nil_of_le (by omega)]
    have : ns[k]? = none := List.getElem?_eq_none (by omega)
    simp [List.getD, this]

/-! ### names -/
abbrev abc : Str := "abcdefghijklmnopqrstuvwxy"
theorem abc_list : abc.cps.toList = [97,98,99,100,101,102,103,104,105,106,107,108,109,110,111,112,113,114,115,116,117,118,119,120,121] := by decide +kernel
theorem abc_at {i : Int} (h0 : 0 ≤ i) (h : i < 25) : ∃ x, gSubs (.str abc) (.int i) = some (.str x) ∧ Lets 1 x := by
  have hl : abc.length ≤ sizeLine := by decide +kernel
  have e : gSubs (.str abc) (.int i) = (atI abc.cps.toList i).map fun c => T.str ⟨#[c]⟩ := by
    simp only [gSubs, hl, if_true]
  rw [e, abc_list, atI_some h0 (by simpa using h)]
  have hl : i.toNat < 25 := by omega
  rw [List.getElem?_eq_getElem (by simpa using hl)]
  refine ⟨_, rfl, by simp, fun c hc => ?_⟩
  have : ∀ c ∈ [97,98,99,100,101,102,103,104,105,106,107,108,109,110,111,112,113,114,115,116,117,118,119,120,121], 97 ≤ c ∧ c ≤ 122 := by decide
  simp only [List.mem_singleton] at hc
  subst hc
  exact this _ (List.getElem_mem _)
theorem len_str {x : Str} (h : x.length ≤ sizeLine) : gLen [.str x] = some (.int x.length) := by simp [gLen, h]
theorem slS {x : Str} (h : x.length ≤ sizeLine) (lo hi : Option Int) : gSl (.str x) lo hi = some (.str (cutS x lo hi)) := by simp [gSl, h]
theorem add_str {x y : Str} {n m : Nat} (hx : Lets n x) (hy : Lets m y) (h : n + m ≤ sizeLine := by simp [szl]; omega) : gAdd (.str x) (.str y) = some (.str (x ++ y)) := by
  have : x.length + y.length ≤ sizeLine := by rw [hx.len, hy.len]; exact h
  simp only [gAdd, this, if_true]
def Name (x : Str) : Prop := ∃ n, 2 ≤ n ∧ n ≤ 8 ∧ Lets n x
theorem Name.ok {x : Str} (h : Name x) : PyData.strOk x = true := by obtain ⟨n, _, _, h⟩ := h; exact h.ok
theorem rev_name {x : Str} (h : Name x) : Name (revS x) := by
  obtain ⟨n, h1, h2, h3, h4⟩ := h
  refine ⟨n, h1, h2, ?_, fun c hc => h4 c ?_⟩
  · simp [revS, h3]
  · simpa [revS] using hc
theorem strsOf_map : ∀ xs : List Str, strsOf (xs.map T.str) = some xs
  | [] => rfl
  | x :: xs => by simp [strsOf, strsOf_map xs]
theorem join_lets {xs : List Str} (h : ∀ x ∈ xs, Lets 1 x) : Lets xs.length (Txt.join "" xs) := by
  have e := join_list "" (by decide +kernel) xs
  unfold Lets
  rw [e]
  induction xs with
  | nil => simp
  | cons x xs ih =>
    have := h x (by simp)
    obtain ⟨i1, i2⟩ := ih (fun y hy => h y (by simp [hy])) (join_list "" (by decide +kernel) xs)
    simp only [List.map_cons, List.flatten_cons, List.length_append, List.length_cons]
    refine ⟨by rw [i1, this.1]; omega, fun c hc => ?_⟩
    rcases List.mem_append.mp hc with q | q
    · exact this.2 c q
    · exact i2 c q
theorem inA_strs {x : Str} {xs : List Str} {neg : Bool} : ∃ b, gInA neg (.str x) (.lst (xs.map T.str)) = some (.bl b) := by
  refine ⟨xor neg (inV (vOf (.str x)) ((xs.map T.str).map vOf)), ?_⟩
  · have : (xs.map T.str).all flatT = true := by
      rw [List.all_eq_true]; intro t ht
      obtain ⟨a, _, rfl⟩ := List.mem_map.mp ht
      rfl
    show gIn neg (.str x) (.lst (xs.map T.str)) = _
    unfold gIn
    simp only [seqT]
    rw [if_pos ⟨rfl, this⟩]
theorem join_lc {e : Env' → Option T} {v n : Nat} {ρ : Env'} (hn : n ≤ 100) (h : ∀ i : Int, 0 ≤ i → i < n → ∃ x, e ((wipeD ρ [v]).set v (some (.int i))) = some (.str x) ∧ Lets 1 x) :
    ∃ τ, b2 gJoin (some (.str "")) (lcD (bdN v) (fun _ => some true) e [v] ρ (some (rngL 0 n))) = some τ ∧ ∃ w, τ = .str w ∧ Lets n w := by
  classical
  let g : T → T := fun t => match t with
    | .int i => if h' : 0 ≤ i ∧ i < n then .str (h i h'.1 h'.2).choose else .non
    | _ => .non
  have hg : ∀ t ∈ rngL 0 n, ∃ x, g t = .str x ∧ Lets 1 x ∧ e ((wipeD ρ [v]).set v (some t)) = some (g t) := fun t ht => by
    obtain ⟨i, rfl, h0, h1⟩ := rngL_mem ht
    have hb : 0 ≤ i ∧ i < (n : Int) := ⟨h0, by omega⟩
    have q := (h i hb.1 hb.2).choose_spec
    have e1 : g (.int i) = .str (h i hb.1 hb.2).choose := by simp only [g, hb, and_self, dif_pos]
    exact ⟨_, e1, q.2, by rw [e1]; exact q.1⟩
  have hl : (rngL 0 n).length = n := by simp [rngL]
  obtain ⟨xs, hx, hL⟩ : ∃ xs : List Str, (rngL 0 n).map g = xs.map T.str ∧ ∀ x ∈ xs, Lets 1 x := by
    have : ∀ l : List T, (∀ t ∈ l, ∃ x, g t = .str x ∧ Lets 1 x) → ∃ xs : List Str, l.map g = xs.map T.str ∧ ∀ x ∈ xs, Lets 1 x := by
      intro l
      induction l with
      | nil => exact fun _ => ⟨[], rfl, by simp⟩
      | cons t l ih =>
        intro h
        obtain ⟨x, e1, e2⟩ := h t (by simp)
        obtain ⟨xs, e3, e4⟩ := ih fun y hy => h y (by simp [hy])
        refine ⟨x :: xs, by simp [e1, e3], fun y hy => ?_⟩
        rcases List.mem_cons.mp hy with rfl | q
        · exact e2
        · exact e4 y q
    exact this _ fun t ht => by obtain ⟨x, e1, e2, _⟩ := hg t ht; exact ⟨x, e1, e2⟩
  have hxl : xs.length = n := by
    have := congrArg List.length hx
    simp only [List.length_map] at this
    omega
  have hf : (rngL 0 n).filter (fun _ => true) = rngL 0 n := List.filter_eq_self.mpr fun _ _ => rfl
  have hlc := lc_some (bd := bdN v) (c := fun _ => some true) (e := e) (vs := [v]) (ρ := ρ) (o := some (rngL 0 n)) rfl (by rw [hl, szl]; omega) (fun _ => true) g (fun t ht => by
    obtain ⟨x, _, _, e3⟩ := hg t ht
    exact ⟨_, rfl, rfl, fun _ => e3⟩) (by rw [hf, hx]; exact imm_strs)
  rw [hlc, hf, hx, b2_some]
  have hs : ((xs.map (·.length)).sum + xs.length * Str.length "") ≤ 16777216 := by
    have : ∀ ys : List Str, (∀ x ∈ ys, Lets 1 x) → (ys.map (·.length)).sum = ys.length := by
      intro ys
      induction ys with
      | nil => intro _; rfl
      | cons y ys ih =>
        intro h
        rw [List.map_cons, List.sum_cons, ih fun z hz => h z (by simp [hz]), (h y (by simp)).len]
        simp; omega
    rw [this xs hL, hxl]
    have : Str.length "" = 0 := by decide +kernel
    rw [this]; omega
  refine ⟨.str (Txt.join "" xs), ?_, _, rfl, ?_⟩
  · unfold gJoin
    simp only [strsOf_map, Option.bind_some, hs, if_true]
  · rw [← hxl]; exact join_lets hL
theorem names_ex (c : Int) : ∃ t, f__law_names [.int c, .int 3] = some t ∧ ∃ a b d, t = .lst ([a, b, d].map T.str) ∧ Name a ∧ Name b ∧ Name d := by
  refine w_fn ?_
  show W _ _ _ _ (D__law_names [some (.int c), some (.int 3), none, none, none, none, none, none, none])
  unfold D__law_names
  simp only [w_seq, set_im, lst_n0, own_nil, w_nx, List.set_cons_succ, List.set_cons_zero]
  obtain ⟨I, hI⟩ : ∃ I : List T → Env' → Prop, I = fun ts ρ => ∃ (m : Nat) (ns : List Str) (p q r s u : Option T), m ≤ 3 ∧ ns.length = m ∧ ts = rngL m (3 - m) ∧ (∀ x ∈ ns, Name x) ∧ ρ = [some (.int c), some (.int 3), some (.str abc), some (.lst (ns.map T.str)), p, q, r, s, u] := ⟨_, rfl⟩
  refine w_forS (ts := rngL 0 3) ?_ I ?_ ?_ ?_
  · simp [rng1_s]
  · rw [hI]; exact ⟨0, [], none, none, none, none, none, by simp, rfl, rfl, by simp, rfl⟩
  · intro t ts ρ h
    rw [hI] at h
    obtain ⟨m, ns, p, q, r, s, u, hm, hl, ht, hn, rfl⟩ := h
    cases e : 3 - m with
    | zero => rw [e] at ht; cases ht
    | succ k =>
      rw [e, rngL_cons] at ht
      obtain ⟨rfl, rfl⟩ : t = .int m ∧ ts = rngL (m + 1) k := by cases ht; exact ⟨rfl, rfl⟩
      refine ⟨_, rfl, ?_⟩
      have hm2 : (m : Int) < 3 := by omega
      simp only [w_seq, bdN, List.set_cons_succ, List.set_cons_zero, nd_zero, nd_succ, b2_some, div_s (show (0 : Int) < 2 ∧ (2 : Int) < 1073741824 by decide), mod_s (show (0 : Int) < 2 by decide), mul_r (show -18446744073709551616 < (48271 : Int) ∧ (48271 : Int) < 18446744073709551616 by omega), mul_r (show -18446744073709551616 < (c % 2 : Int) ∧ (c % 2 : Int) < 18446744073709551616 by omega), gAdd_int, set_int, w_nx]
      obtain ⟨M, hM⟩ : ∃ M, M = c / 2 + ↑m * 48271 * (c % 2) := ⟨_, rfl⟩
      rw [← hM]
      simp only [mod_s (show (0 : Int) < 7 by decide), rng1_s (show -(2 ^ 62) ≤ (M % 7 : Int) ∧ (M % 7 : Int) < 2 ^ 62 by omega), b2_some]
      refine w_setE (join_lc (by omega) fun i h0 h1 => ?_) ?_
      · simp only [wipeD, List.set_cons_succ, List.set_cons_zero, nd_zero, nd_succ, b2_some, div_s (show (0 : Int) < 7 ∧ (7 : Int) < 1073741824 by decide), mul_l (show -18446744073709551616 < (6 : Int) ∧ (6 : Int) < 18446744073709551616 by omega), gAdd_int, mod_s (show (0 : Int) < 25 by decide)]
        exact abc_at (by omega) (by omega)
      · rintro _ ⟨w, rfl, hw⟩
        refine ⟨rfl, ?_⟩
        have hws : w.length ≤ sizeLine := by rw [hw.len, szl]; omega
        simp only [List.set_cons_succ, List.set_cons_zero, nd_zero, nd_succ, b2_some, cons_some, Option.bind_some, len_str hws, gAdd_int, div_s (show (0 : Int) < 175 ∧ (175 : Int) < 1073741824 by decide), mod_s (show (0 : Int) < (w.length : Int) + 1 by omega), set_int, w_nx]
        obtain ⟨A, hA, hA0, hA1⟩ : ∃ A, A = M / 175 % ((w.length : Int) + 1) ∧ 0 ≤ A ∧ A < (w.length : Int) + 1 := ⟨_, rfl, Int.emod_nonneg _ (by omega), Int.emod_lt_of_pos _ (by omega)⟩
        rw [← hA]
        rw [hw.len] at hA1
        obtain ⟨ch, ec, hc⟩ := abc_at (i := m) (by omega) (by omega)
        refine w_app (ts := ns.map T.str) rfl (by simp [szl, hl]; omega) (P := fun t => ∃ x, t = .str x ∧ Name x) ?_ ?_
        · simp only [List.set_cons_succ, List.set_cons_zero, nd_zero, nd_succ, b2_some, b3, asI_int, slS hws, ec]
          obtain ⟨m1, e1, l1⟩ := hw.cut none (some A)
          obtain ⟨m2, e2, l2⟩ := hw.cut (some A) none
          have hz : Lets 1 "z" := by constructor <;> decide +kernel
          have s1 : HT.sIx (M % 7).toNat (M % 7).toNat (some A) = A.toNat := by rw [sIx_some hA0]; omega
          have s2 : HT.sIx (M % 7).toNat 0 (some A) = A.toNat := by rw [sIx_some hA0]; omega
          have s3 : HT.sIx (M % 7).toNat 0 none = 0 := rfl
          have s4 : HT.sIx (M % 7).toNat (M % 7).toNat none = (M % 7).toNat := rfl
          rw [s1, s3] at e1
          rw [s2, s4] at e2
          rw [add_str l1 hz, b2_some, add_str (l1.app hz) hc, b2_some, add_str ((l1.app hz).app hc) l2]
          exact ⟨_, rfl, _, rfl, _, by omega, by omega, ((l1.app hz).app hc).app l2⟩
        · rintro _ ⟨x, rfl, hx⟩
          refine ⟨rfl, ?_⟩
          rw [hI]
          exact ⟨m + 1, ns ++ [x], some (.int m), some (.int M), some (.str w), some (.int A), u, by omega, by simp [hl], by rw [show 3 - (m + 1) = k by omega]; rfl, fun y hy => by
            rcases List.mem_append.mp hy with q | q
            · exact hn y q
            · simp at q; subst q; exact hx, by simp⟩
  · intro ρ h
    rw [hI] at h
    obtain ⟨m, ns, p, q, r, s, u, hm, hl, ht, hn, rfl⟩ := h
    have hm3 : 3 - m = 0 := by
      cases e : 3 - m with
      | zero => rfl
      | succ n => rw [e, rngL_cons] at ht; cases ht
    obtain rfl : m = 3 := by omega
    match ns, hl with
    | [a, b, d], _ =>
      have ha := hn a (by simp)
      have hb := hn b (by simp)
      have hd := hn d (by simp)
      have hra : a.length ≤ sizeLine := by obtain ⟨n, _, _, h⟩ := ha; rw [h.len, szl]; omega
      have e0 : gSubs (.lst ([a, b, d].map T.str)) (.int 0) = some (.str a) := by rw [subs_lst (by decide) (by simp)]; rfl
      have er : revSD (some (.str a)) = some (.str (revS a)) := by simp [revSD, hra]
      obtain ⟨z, ez⟩ := inA_strs (x := revS a) (xs := [a, b, d]) (neg := true)
      simp only [nd_zero, nd_succ, mod_s (show (0 : Int) < 5 by decide), b2_some, gEqA_int, asB_bl, e0, er, ez, and_s, Bool.false_xor]
      refine w_if rfl (fun _ => ?_) (fun _ => ?_)
      · have e1 : stD 3 (some (.str (revS a))) (some (.int 1)) [some (.int c), some (.int 3), some (.str abc), some (.lst ([a, b, d].map T.str)), p, q, r, s, u] = .nx [some (.int c), some (.int 3), some (.str abc), some (.lst ([a, revS a, d].map T.str)), p, q, r, s, u] := rfl
        simp only [nd_zero, nd_succ, b2_some, e0, er]
        rw [e1]
        simp only [w_nx, nd_zero, nd_succ, rt_some, w_rt]
        exact ⟨a, revS a, d, rfl, ha, rev_name ha, hd⟩
      · simp only [w_nx, nd_zero, nd_succ, rt_some, w_rt]
        exact ⟨a, b, d, rfl, ha, hb, hd⟩
end Q
namespace Q
open PySem PySem.Spec L2 DL

/-! ### entries -/
inductive Ent where
  | tell (name : Str) (lo hi w : Int)
  | clear (name : Str) (lo hi : Int)
  | like (name : Str) (lo hi : Int) (other : Str)
  | undo (k : Int)
  deriving DecidableEq
def encE : Ent → T
  | .tell x lo hi w => .tup [.str "tell", .str x, .int lo, .int hi, .int w]
  | .clear x lo hi => .tup [.str "clear", .str x, .int lo, .int hi]
  | .like x lo hi y => .tup [.str "like", .str x, .int lo, .int hi, .str y]
  | .undo k => .tup [.str "undo", .int k]
/-- names and bounds -/
def okE : Ent → Prop
  | .tell x lo hi w => Name x ∧ 0 ≤ lo ∧ lo ≤ hi ∧ hi ≤ 1000000 ∧ -1000000000 ≤ w ∧ w ≤ 1000000000
  | .clear x lo hi => Name x ∧ 0 ≤ lo ∧ lo ≤ hi ∧ hi ≤ 1000000
  | .like x lo hi y => Name x ∧ 0 ≤ lo ∧ lo ≤ hi ∧ hi ≤ 1000000 ∧ Name y
  | .undo k => 1 ≤ k
def belowE (n : Int) : Ent → Prop
  | .undo k => k < n
  | _ => True
theorem gMod_ex {x y : Int} (h : 0 < y) : ∃ r, gMod (.int x) (.int y) = some (.int r) ∧ 0 ≤ r ∧ r < y := ⟨x % y, mod_s h, Int.emod_nonneg _ (by omega), Int.emod_lt_of_pos _ h⟩
theorem gInA_ints {i : Int} {xs : List Int} {neg : Bool} : gInA neg (.int i) (.tup (xs.map T.int)) = some (.bl (xor neg (inV (.int i) (xs.map V.int)))) := by
  have : (xs.map T.int).all flatT = true := by
    rw [List.all_eq_true]; intro t ht
    obtain ⟨a, _, rfl⟩ := List.mem_map.mp ht
    rfl
  show gIn neg (.int i) (.tup (xs.map T.int)) = _
  unfold gIn
  simp only [seqT]
  rw [if_pos ⟨rfl, this⟩]
  simp only [List.map_map]
  rfl
theorem entry_ex (a b d : Str) (ha : Name a) (hb : Name b) (hd : Name d) (base n number : Int) (h0 : 0 ≤ base) (h1 : 1 ≤ number) :
    ∃ t, f__law_entry [.lst ([a, b, d].map T.str), .int base, .int n, .int number] = some t ∧ ∃ e, t = encE e ∧ okE e ∧ belowE number e := by
  refine w_fn ?_
  show W _ _ _ _ (D__law_entry [some (.lst ([a, b, d].map T.str)), some (.int base), some (.int n), some (.int number), none, none, none])
  unfold D__law_entry
  simp only [w_seq, nd_zero, nd_succ, b2_some, mul_r (show -18446744073709551616 < (48271 : Int) ∧ (48271 : Int) < 18446744073709551616 by omega), mod_s (show (0 : Int) < 2147483647 by decide), set_int, w_nx, List.set_cons_succ, List.set_cons_zero]
  obtain ⟨m, hm, hm0, hm1⟩ : ∃ m, m = n * 48271 % 2147483647 ∧ 0 ≤ m ∧ m < 2147483647 := ⟨_, rfl, Int.emod_nonneg _ (by decide), Int.emod_lt_of_pos _ (by decide)⟩
  rw [← hm]
  have hnm : ∀ j : Int, ∃ x, gSubs (.lst ([a, b, d].map T.str)) (.int (j % 3)) = some (.str x) ∧ Name x := fun j => by
    obtain ⟨x, hx, e⟩ := subs_strs [a, b, d] (i := j % 3) (Int.emod_nonneg _ (by decide)) (Int.emod_lt_of_pos _ (by decide))
    refine ⟨x, e, ?_⟩
    simp only [List.mem_cons, List.not_mem_nil, or_false] at hx
    rcases hx with rfl | rfl | rfl
    · exact ha
    · exact hb
    · exact hd
  -- the first day
  refine w_setE (P := fun t => ∃ lo, t = .int lo ∧ 0 ≤ lo ∧ lo ≤ 1000000) ?_ ?_
  · simp only [b2_some, div_s (show (0 : Int) < 24 ∧ (24 : Int) < 1073741824 by decide), div_s (show (0 : Int) < 11520 ∧ (11520 : Int) < 1073741824 by decide), mod_s (show (0 : Int) < 5 by decide), gEqA_int, cons_some, lst_n2, Option.bind_some, gInt_bl]
    obtain ⟨v, hv, e⟩ := subs_ints [10, 900000] (i := if (false ^^ decide (m / 11520 % 5 = 1)) = true then 1 else 0) (by split <;> decide) (by split <;> decide)
    simp only [List.map_cons, List.map_nil] at e
    have hv' : 0 < v := by
      simp only [List.mem_cons, List.not_mem_nil, or_false] at hv
      omega
    simp only [e, b2_some, mod_s hv', gAdd_int, cons_some, Option.bind_some, gMin_int]
    have := Int.emod_nonneg (m / 24) (b := v) (by omega)
    exact ⟨_, rfl, _, rfl, by omega, by omega⟩
  rintro _ ⟨lo, rfl, hl0, hl1⟩
  refine ⟨rfl, ?_⟩
  -- the last day
  simp only [List.set_cons_succ, List.set_cons_zero]
  refine w_setE (P := fun t => ∃ hi, t = .int hi ∧ lo ≤ hi ∧ hi ≤ 1000000) ?_ ?_
  · simp only [nd_zero, nd_succ, b2_some, div_s (show (0 : Int) < 240 ∧ (240 : Int) < 1073741824 by decide), mod_s (show (0 : Int) < 8 by decide), cons_some, lst_n8]
    obtain ⟨v, hv, e⟩ := subs_ints [0, 1, 3, 9, 35, 700, 1000000, 9] (i := m / 240 % 8) (Int.emod_nonneg _ (by decide)) (Int.emod_lt_of_pos _ (by decide))
    simp only [List.map_cons, List.map_nil] at e
    have hv' : 0 ≤ v := by
      simp only [List.mem_cons, List.not_mem_nil, or_false] at hv
      omega
    simp only [e, b2_some, gAdd_int, cons_some, Option.bind_some, gMin_int]
    exact ⟨_, rfl, _, rfl, by omega, by omega⟩
  rintro _ ⟨hi, rfl, hh0, hh1⟩
  refine ⟨rfl, ?_⟩
  simp only [List.set_cons_succ, List.set_cons_zero, nd_zero, nd_succ, b2_some, div_s (show (0 : Int) < 8 ∧ (8 : Int) < 1073741824 by decide), mod_s (show (0 : Int) < 3 by decide)]
  obtain ⟨x, ex, hx⟩ := hnm (m / 8)
  simp only [ex, set_str, w_nx, List.set_cons_succ, List.set_cons_zero, nd_zero, nd_succ, b2_some, mod_s (show (0 : Int) < 8 by decide), gIb_int, asB_bl, and_s]
  refine w_if rfl (fun hc => ?_) (fun _ => ?_)
  · have hc2 : 1 < number := by simp only [Bool.and_eq_true, decide_eq_true_eq] at hc; exact hc.2
    simp only [nd_zero, nd_succ, b2_some, div_s (show (0 : Int) < 8 ∧ (8 : Int) < 1073741824 by decide), gI_int, mod_s (show (0 : Int) < number - 1 by omega), gAdd_int, cons_some, tup_n2, rt_some, w_rt]
    have q1 := Int.emod_nonneg (m / 8) (b := number - 1) (by omega)
    have q2 := Int.emod_lt_of_pos (m / 8) (b := number - 1) (by omega)
    exact ⟨.undo (1 + m / 8 % (number - 1)), rfl, by show 1 ≤ 1 + _; omega, by show 1 + _ < number; omega⟩
  simp only [w_nx, nd_zero, nd_succ, b2_some, mod_s (show (0 : Int) < 8 by decide), gEqA_int, asB_bl]
  refine w_if rfl (fun hc => ?_) (fun _ => ?_)
  · simp only [nd_zero, nd_succ, cons_some, tup_n4, rt_some, w_rt]
    exact ⟨.clear x lo hi, rfl, ⟨hx, hl0, hh0, hh1⟩, trivial⟩
  simp only [w_nx, nd_zero, nd_succ, b2_some, mod_s (show (0 : Int) < 8 by decide), cons_some, tup_n2]
  have e45 := gInA_ints (i := m % 8) (xs := [4, 5]) (neg := false)
  simp only [List.map_cons, List.map_nil] at e45
  simp only [e45, asB_bl]
  refine w_if rfl (fun hc => ?_) (fun _ => ?_)
  · obtain ⟨y, ey, hy⟩ := hnm (m / 1920)
    simp only [nd_zero, nd_succ, b2_some, div_s (show (0 : Int) < 1920 ∧ (1920 : Int) < 1073741824 by decide), mod_s (show (0 : Int) < 3 by decide), ey, cons_some, tup_n5, rt_some, w_rt]
    exact ⟨.like x lo hi y, rfl, ⟨hx, hl0, hh0, hh1, hy⟩, trivial⟩
  · obtain ⟨v, hv, e⟩ := subs_ints [1, 2, 1, 0, -1, m % 2000000001 - 1000000000] (i := m / 1920 % 6) (Int.emod_nonneg _ (by decide)) (Int.emod_lt_of_pos _ (by decide))
    simp only [List.map_cons, List.map_nil] at e
    simp only [w_nx, nd_zero, nd_succ, b2_some, un1_int, div_s (show (0 : Int) < 1920 ∧ (1920 : Int) < 1073741824 by decide), mod_s (show (0 : Int) < 6 by decide), mod_s (show (0 : Int) < 2000000001 by decide), gI_int, cons_some, lst_n6, e, tup_n5, rt_some, w_rt]
    refine ⟨.tell x lo hi v, rfl, ⟨hx, hl0, hh0, hh1, ?_, ?_⟩, trivial⟩
    · simp only [List.mem_cons, List.not_mem_nil, or_false] at hv; omega
    · simp only [List.mem_cons, List.not_mem_nil, or_false] at hv; omega
end Q
namespace Q
open PySem PySem.Spec L2 DL

/-! ### books -/
abbrev Bk := List (Int × Ent)
def encK (b : Bk) : List (Key × T) := b.map fun p => (.inl p.1, encE p.2)
def encB (b : Bk) : T := .dic (encK b)
def encR (p : Int × Ent) : T := .tup [.int p.1, encE p.2]
@[simp] theorem imm_encE (e : Ent) : imm (encE e) = true := by cases e <;> simp [encE]
theorem immK_all : ∀ {ts : List (Key × T)}, (∀ t ∈ ts, imm t.2 = true) → immK ts = true
  | [], _ => by simp [immK]
  | (k, t) :: ts, h => by
    have ih : immK ts = true := immK_all fun x hx => h x (List.mem_cons_of_mem _ hx)
    simp [immK, h (k, t) (by simp), ih]
@[simp] theorem immE_encB (b : Bk) : immE (encB b) = true := by
  show immK (encK b) = true
  refine immK_all fun t ht => ?_
  obtain ⟨p, _, rfl⟩ := List.mem_map.mp ht
  simp
theorem immL_encR (l : Bk) : immL (l.map encR) = true := immL_all fun t ht => by
  obtain ⟨p, _, rfl⟩ := List.mem_map.mp ht
  simp [encR]
theorem keys_encK (b : Bk) : (encK b).map (·.1) = b.map fun p => (Sum.inl p.1 : Key) := by
  simp [encK, List.map_map, Function.comp_def]
theorem keysI_encK : ∀ b : Bk, keysI (encK b) = some (b.map (·.1))
  | [] => rfl
  | (k, e) :: r => by
    show (keysI (encK r)).map (k :: ·) = _
    rw [keysI_encK r]; rfl
/-- keys apart -/
def Apart (b : Bk) : Prop := (b.map (·.1)).Nodup
theorem Apart.enc {b : Bk} (h : Apart b) : ((encK b).map (·.1)).Nodup := by
  rw [keys_encK]
  have : (b.map fun p => (Sum.inl p.1 : Key)) = (b.map (·.1)).map Sum.inl := by simp [List.map_map, Function.comp_def]
  rw [this]
  exact List.Pairwise.map _ (fun x y hxy e => hxy (by cases e; rfl)) h
/-! what stands under a number -/
def at? : Bk → Int → Option Ent
  | [], _ => none
  | (k', t) :: r, k => if k' = k then some t else at? r k
theorem lookT_enc : ∀ (b : Bk) (k : Int), lookT (encK b) (.inl k) = (at? b k).map encE
  | [], _ => rfl
  | (k', e) :: r, k => by
    show (if (Sum.inl k' : Key) = .inl k then some (encE e) else lookT (encK r) (.inl k)) = Option.map encE (if k' = k then some e else at? r k)
    rw [lookT_enc r k]
    by_cases h : k' = k
    · subst h; simp
    · have : ¬ (Sum.inl k' : Key) = .inl k := fun e => h (by cases e; rfl)
      simp [h, this]
theorem at_mem {b : Bk} {k : Int} {e : Ent} (h : at? b k = some e) : (k, e) ∈ b := by
  induction b with
  | nil => cases h
  | cons p r ih =>
    obtain ⟨k', e'⟩ := p
    unfold at? at h
    split at h
    · rename_i q; subst q; cases h; simp
    · exact List.mem_cons_of_mem _ (ih h)
theorem at_of_mem {b : Bk} (ha : Apart b) {k : Int} {e : Ent} (h : (k, e) ∈ b) : at? b k = some e := by
  induction b with
  | nil => cases h
  | cons p r ih =>
    obtain ⟨k', e'⟩ := p
    unfold at?
    have ha' := List.nodup_cons.mp (show ((k' :: r.map (·.1)).Nodup) from ha)
    rcases List.mem_cons.mp h with q | q
    · cases q; simp
    · have : k' ≠ k := fun e' => ha'.1 (by subst e'; exact List.mem_map.mpr ⟨_, q, rfl⟩)
      simp [this, ih ha'.2 q]
theorem at_none {b : Bk} {k : Int} : at? b k = none ↔ k ∉ b.map (·.1) := by
  induction b with
  | nil => simp [at?]
  | cons p r ih =>
    obtain ⟨k', e'⟩ := p
    unfold at?
    by_cases h : k' = k
    · simp [h]
    · simp only [if_neg h, ih, List.map_cons, List.mem_cons, not_or]
      exact ⟨fun q => ⟨fun e => h e.symm, q⟩, fun q => q.2⟩
theorem subs_book {b : Bk} {k : Int} {e : Ent} (h : at? b k = some e) : gSubs (encB b) (.int k) = some (encE e) := by
  show (keyOf (.int k)).bind (lookT (encK b)) = _
  show lookT (encK b) (.inl k) = _
  rw [lookT_enc, h]; rfl
/-! put -/
def put : Bk → Int → Ent → Bk
  | [], k, t => [(k, t)]
  | (k', t') :: r, k, t => if k' = k then (k, t) :: r else (k', t') :: put r k t
theorem putT_enc : ∀ (b : Bk) (k : Int) (e : Ent), putT (encK b) (.inl k) (encE e) = encK (put b k e)
  | [], _, _ => rfl
  | (k', e') :: r, k, e => by
    show (if (Sum.inl k' : Key) = .inl k then ((Sum.inl k : Key), encE e) :: encK r else (.inl k', encE e') :: putT (encK r) (.inl k) (encE e)) = encK (if k' = k then (k, e) :: r else (k', e') :: put r k e)
    rw [putT_enc r k]
    by_cases h : k' = k
    · subst h; simp [encK]
    · have : ¬ (Sum.inl k' : Key) = .inl k := fun e => h (by cases e; rfl)
      simp [h, this, encK]
theorem at_put {b : Bk} {k j : Int} {e : Ent} : at? (put b k e) j = if k = j then some e else at? b j := by
  induction b with
  | nil => simp [put, at?]
  | cons p r ih =>
    obtain ⟨k', e'⟩ := p
    unfold put
    by_cases h : k' = k
    · subst h
      simp only [if_true]
      unfold at?
      by_cases q : k' = j
      · simp [q]
      · simp [q]
    · simp only [if_neg h]
      unfold at?
      rw [ih]
      by_cases q : k' = j
      · subst q; simp [Ne.symm h]
      · simp [q]
theorem keys_put {b : Bk} {k : Int} {e : Ent} : (put b k e).map (·.1) = if k ∈ b.map (·.1) then b.map (·.1) else b.map (·.1) ++ [k] := by
  induction b with
  | nil => simp [put]
  | cons p r ih =>
    obtain ⟨k', e'⟩ := p
    unfold put
    by_cases h : k' = k
    · subst h; simp
    · simp only [if_neg h, List.map_cons, ih, List.mem_cons]
      by_cases q : k ∈ r.map (·.1)
      · simp [q, Ne.symm h]
      · simp [q, Ne.symm h]
theorem Apart.put {b : Bk} (h : Apart b) (k : Int) (e : Ent) : Apart (put b k e) := by
  unfold Apart
  rw [keys_put]
  split
  · exact h
  · rename_i q
    rw [List.nodup_append]
    exact ⟨h, by simp, fun a ha b hb e => q (by simp at hb; subst hb; subst e; exact ha)⟩
theorem put_mem {b : Bk} {k : Int} {e : Ent} {p : Int × Ent} (h : p ∈ put b k e) : p = (k, e) ∨ p ∈ b := by
  induction b with
  | nil => simpa [Q.put] using h
  | cons q r ih =>
    obtain ⟨k', e'⟩ := q
    unfold Q.put at h
    split at h
    · rcases List.mem_cons.mp h with q | q
      · exact .inl q
      · exact .inr (List.mem_cons_of_mem _ q)
    · rcases List.mem_cons.mp h with q | q
      · exact .inr (by rw [q]; simp)
      · rcases ih q with q | q
        · exact .inl q
        · exact .inr (List.mem_cons_of_mem _ q)
theorem put_len {b : Bk} {k : Int} {e : Ent} : (put b k e).length = if k ∈ b.map (·.1) then b.length else b.length + 1 := by
  have := congrArg List.length (keys_put (b := b) (k := k) (e := e))
  rw [List.length_map] at this
  rw [this]
  split <;> simp
theorem store_enc {i : Nat} {ρ : Env'} {b : Bk} {k : Int} {e : Ent} (hn : nd i ρ = some (encB b)) (ha : Apart b) (hl : b.length < 1000) : stD i (some (encE e)) (some (.int k)) ρ = .nx (ρ.set i (some (encB (put b k e)))) := by
  unfold stD
  rw [hn]
  have h1 : (encK b).length < sizeLine := by simp [encK, szl]; omega
  show (if imm (encE e) = true ∧ (List.map (fun p : Key × T => p.1) (encK b)).Nodup ∧ (encK b).length < sizeLine then Out.nx (ρ.set i (some (.dic (putT (encK b) (.inl k) (encE e))))) else .er) = _
  rw [if_pos ⟨imm_encE e, ha.enc, h1⟩, putT_enc]
  rfl
/-! dict() of rows -/
theorem pairs_enc : ∀ l : Bk, pairsT (l.map encR) = some (encK l)
  | [] => rfl
  | (k, e) :: r => by
    show (match keyOf (.int k), pairsT (r.map encR) with | some y, some ys => some ((y, encE e) :: ys) | _, _ => none) = _
    rw [pairs_enc r]; rfl
theorem putT_new {acc : List (Key × T)} {k : Key} {t : T} (h : k ∉ acc.map (·.1)) : putT acc k t = acc ++ [(k, t)] := by
  induction acc with
  | nil => rfl
  | cons p r ih =>
    obtain ⟨k', t'⟩ := p
    simp only [List.map_cons, List.mem_cons, not_or] at h
    unfold putT
    rw [if_neg (Ne.symm h.1), ih h.2]; rfl
theorem merge_new : ∀ (ps acc : List (Key × T)), (List.map (fun p : Key × T => p.1) (acc ++ ps)).Nodup → mergeT acc ps = acc ++ ps
  | [], acc, _ => by simp [mergeT]
  | (k, t) :: r, acc, h => by
    have hk : k ∉ acc.map (·.1) := by
      rw [List.map_append, List.nodup_append] at h
      exact fun q => h.2.2 k q k (by simp) rfl
    show mergeT (putT acc k t) r = _
    rw [putT_new hk, merge_new r _ (by simpa using h)]
    simp
theorem dict_rows {l : Bk} (h : Apart l) : gDict [.lst (l.map encR)] = some (encB l) := by
  show (pairsT (l.map encR)).map (fun ps => T.dic (mergeT [] ps)) = _
  rw [pairs_enc]
  show some (T.dic (mergeT [] (encK l))) = _
  rw [merge_new _ _ (by simpa using h.enc)]
  rfl
structure BookOk (many : Nat) (b : Bk) : Prop where
  ap : Apart b
  len : b.length ≤ many
  pos : ∀ p ∈ b, 1 ≤ p.1
  top : ∀ p ∈ b, p.1 ≤ 1 + 3 * many
  ok : ∀ p ∈ b, okE p.2 ∧ belowE p.1 p.2

theorem base_ex (ns : List Int) (h : ns.length ≤ 63) : ∃ t, f__law_base [.scr (ns.map T.int)] = some t ∧ ∃ v, t = .int v ∧ 0 ≤ v ∧ v ≤ 1000000 := by
  refine w_fn ?_
  show W _ _ _ _ (D__law_base [some (.scr (ns.map T.int))])
  unfold D__law_base
  have e0 := of_eq ns 0 (by omega) h
  simp only [Int.ofNat_zero] at e0
  have e0' : f__law_of [.scr (ns.map T.int), .int 0] = some (.int (ns.getD 0 0)) := e0
  simp only [nd_zero, cons_some, Option.bind_some, e0', b2_some, mod_s (show (0 : Int) < 4 by decide), lst_n4]
  obtain ⟨v, hv, e⟩ := subs_ints [0, 7, 300, 999982] (i := ns.getD 0 0 % 4) (Int.emod_nonneg _ (by decide)) (Int.emod_lt_of_pos _ (by decide))
  simp only [List.map_cons, List.map_nil] at e
  rw [e]
  refine w_rtE ⟨_, rfl, v, rfl, ?_, ?_⟩
  · simp only [List.mem_cons, List.not_mem_nil, or_false] at hv; omega
  · simp only [List.mem_cons, List.not_mem_nil, or_false] at hv; omega
theorem base_top (ns : List Int) (h : ns.length ≤ 63) : ∃ t, f__law_base [.scr (ns.map T.int)] = some t ∧ ∃ v, t = .int v ∧ 0 ≤ v ∧ v ≤ 999982 := by
  refine w_fn ?_
  show W _ _ _ _ (D__law_base [some (.scr (ns.map T.int))])
  unfold D__law_base
  have e0' : f__law_of [.scr (ns.map T.int), .int 0] = some (.int (ns.getD 0 0)) := of_eq ns 0 (by omega) h
  simp only [nd_zero, cons_some, Option.bind_some, e0', b2_some, mod_s (show (0 : Int) < 4 by decide), lst_n4]
  obtain ⟨v, hv, e⟩ := subs_ints [0, 7, 300, 999982] (i := ns.getD 0 0 % 4) (Int.emod_nonneg _ (by decide)) (Int.emod_lt_of_pos _ (by decide))
  simp only [List.map_cons, List.map_nil] at e
  rw [e]
  refine w_rtE ⟨_, rfl, v, rfl, ?_, ?_⟩
  · simp only [List.mem_cons, List.not_mem_nil, or_false] at hv; omega
  · simp only [List.mem_cons, List.not_mem_nil, or_false] at hv; omega
theorem subs_scr {ns : List Int} {i : Int} (h0 : 0 ≤ i) (h : i < ns.length) : gSubs (.scr (ns.map T.int)) (.int i) = some (.int (ns.getD i.toNat 0)) := by
  show atI (ns.map T.int) i = _
  rw [atI_some h0 (by simpa using h)]
  have : i.toNat < ns.length := by omega
  simp [List.getD, this]
theorem len_scr {ns : List Int} : gLen [.scr (ns.map T.int)] = some (.int ns.length) := by simp [gLen]
theorem len_lst {ts : List T} : gLen [.lst ts] = some (.int ts.length) := rfl
theorem cutT_drop {ts : List T} {c : Int} (h0 : 0 ≤ c) : cutT ts (some c) none = ts.drop c.toNat := by
  unfold cutT
  rw [sIx_some h0]
  show (ts.drop (min c.toNat ts.length)).take (ts.length - min c.toNat ts.length) = _
  by_cases h : c.toNat ≤ ts.length
  · rw [Nat.min_eq_left h, List.take_of_length_le (by simp)]
  · rw [Nat.min_eq_right (by omega), List.drop_eq_nil_of_le (Nat.le_refl _), List.drop_eq_nil_of_le (by omega)]; simp
theorem cutT_take {ts : List T} {c : Int} (h0 : 0 ≤ c) : cutT ts none (some c) = ts.take c.toNat := by
  unfold cutT
  rw [sIx_some h0]
  show (ts.drop 0).take (min c.toNat ts.length - 0) = _
  rw [List.drop_zero, Nat.sub_zero]
  by_cases h : c.toNat ≤ ts.length
  · rw [Nat.min_eq_left h]
  · rw [Nat.min_eq_right (by omega), List.take_of_length_le (Nat.le_refl _), List.take_of_length_le (by omega)]
theorem gAdd_lst {xs ys : List T} (h : xs.length + ys.length ≤ sizeLine) : gAdd (.lst xs) (.lst ys) = some (.lst (xs ++ ys)) := by
  simp only [gAdd, h, if_true]
theorem book_ex (ns : List Int) (h : ns.length ≤ 63) (many : Nat) (hm : many ≤ 30) : ∃ t, f__law_book [.scr (ns.map T.int), .int many] = some t ∧ ∃ b, t = encB b ∧ BookOk many b := by
  refine w_fn ?_
  show W _ _ _ _ (D__law_book [some (.scr (ns.map T.int)), some (.int many), none, none, none, none, none, none])
  unfold D__law_book
  have e0 : f__law_of [.scr (ns.map T.int), .int 0] = some (.int (ns.getD 0 0)) := of_eq ns 0 (by omega) h
  have e1 : f__law_of [.scr (ns.map T.int), .int 1] = some (.int (ns.getD 1 0)) := of_eq ns 1 (by omega) h
  obtain ⟨_, en, a, b, d, rfl, ha, hb, hd⟩ := names_ex (ns.getD 1 0)
  obtain ⟨_, eb, base, rfl, hb0, hb1⟩ := base_ex ns h
  simp only [w_seq, nd_zero, nd_succ, cons_some, Option.bind_some, e0, e1, en, set_im, w_nx, List.set_cons_succ, List.set_cons_zero, b2_some, div_s (show (0 : Int) < 4 ∧ (4 : Int) < 1073741824 by decide), mod_s (show (0 : Int) < 3 by decide), gAdd_int, lst_n0, own_nil]
  obtain ⟨gap, hg, hg1, hg3⟩ : ∃ gap, gap = 1 + ns.getD 0 0 / 4 % 3 ∧ 1 ≤ gap ∧ gap ≤ 3 := ⟨_, rfl, by omega, by omega⟩
  rw [← hg]
  obtain ⟨top, ht, ht0⟩ : ∃ top : Nat, rng1 (some (.int (min (many : Int) (ns.length - 4)))) = some (rngL 0 top) ∧ (top : Int) ≤ max 0 (min (many : Int) (ns.length - 4)) := ⟨_, rng1_s (by omega), by omega⟩
  simp only [len_scr, b2_some, cons_some, Option.bind_some, gI_int, gMin_int, ht]
  obtain ⟨I, hI⟩ : ∃ I : List T → Env' → Prop, I = fun ts ρ => ∃ (m : Nat) (rows : Bk) (p q r : Option T), m ≤ top ∧ rows.length = m ∧ ts = rngL m (top - m) ∧ rows.map (·.1) = (List.range m).map (fun i : Nat => 1 + (i : Int) * gap) ∧ (∀ x ∈ rows, okE x.2 ∧ belowE x.1 x.2) ∧ ρ = [some (.scr (ns.map T.int)), some (.int many), some (.lst ([a, b, d].map T.str)), some (.int gap), some (.lst (rows.map encR)), p, q, r] := ⟨_, rfl⟩
  refine w_forS (ts := rngL 0 top) ?_ I ?_ ?_ ?_
  · rfl
  · rw [hI]; exact ⟨0, [], none, none, none, by omega, rfl, rfl, rfl, by simp, rfl⟩
  · intro t ts ρ hi
    rw [hI] at hi
    obtain ⟨m, rows, p, q, r, hm1, hl, hts, hk, hr, rfl⟩ := hi
    cases e : top - m with
    | zero => rw [e] at hts; cases hts
    | succ k =>
      rw [e, rngL_cons] at hts
      obtain ⟨rfl, rfl⟩ : t = .int m ∧ ts = rngL (m + 1) k := by cases hts; exact ⟨rfl, rfl⟩
      refine ⟨_, rfl, ?_⟩
      have hms : (4 : Int) + m < ns.length := by omega
      have hn1 : 1 ≤ 1 + (m : Int) * gap := by have := Int.mul_nonneg (show (0 : Int) ≤ m by omega) (show 0 ≤ gap by omega); omega
      obtain ⟨_, ee, ent, rfl, ho1, ho2⟩ := entry_ex a b d ha hb hd base (ns.getD ((4 : Int) + m).toNat 0 + 7 * m) (1 + m * gap) hb0 hn1
      simp only [w_seq, bdN, List.set_cons_succ, List.set_cons_zero, nd_zero, nd_succ, b2_some, mul_r (show -18446744073709551616 < gap ∧ gap < 18446744073709551616 by omega), mul_l (show -18446744073709551616 < (7 : Int) ∧ (7 : Int) < 18446744073709551616 by omega), gAdd_int, set_int, w_nx]
      simp only [subs_scr (show (0 : Int) ≤ 4 + m by omega) hms, b2_some, cons_some, Option.bind_some, eb, gAdd_int, ee, tup_n2]
      refine w_app (ts := rows.map encR) (P := fun t => t = encR (1 + m * gap, ent)) rfl (by simp [szl, hl]; omega) ⟨_, rfl, rfl⟩ ?_
      rintro _ rfl
      refine ⟨by simp [encR], ?_⟩
      rw [hI]
      refine ⟨m + 1, rows ++ [(1 + m * gap, ent)], some (.int m), some (.int (1 + m * gap)), r, by omega, by simp [hl], by rw [show top - (m + 1) = k by omega]; rfl, ?_, ?_, by simp⟩
      · rw [List.map_append, hk, List.range_succ, List.map_append]; rfl
      · intro x hx
        rcases List.mem_append.mp hx with q | q
        · exact hr x q
        · simp only [List.mem_singleton] at q; subst q; exact ⟨ho1, ho2⟩
  · intro ρ hi
    rw [hI] at hi
    obtain ⟨m, rows, p, q, r, hm1, hl, hts, hk, hr, rfl⟩ := hi
    have hmt : top - m = 0 := by
      cases e : top - m with
      | zero => rfl
      | succ n => rw [e, rngL_cons] at hts; cases hts
    obtain rfl : m = top := by omega
    simp only [nd_zero, nd_succ, cons_some, Option.bind_some, e0, len_lst, b2_some, gAdd_int, div_s (show (0 : Int) < 12 ∧ (12 : Int) < 1073741824 by decide), mod_s (show (0 : Int) < ((rows.map encR).length : Int) + 1 by omega), set_int, w_nx, List.set_cons_succ, List.set_cons_zero, asI_int, b3, gSlL]
    obtain ⟨cut, hc, hc0, hc1⟩ : ∃ cut, cut = ns.getD 0 0 / 12 % (((rows.map encR).length : Int) + 1) ∧ 0 ≤ cut ∧ cut < ((rows.map encR).length : Int) + 1 := ⟨_, rfl, Int.emod_nonneg _ (by omega), Int.emod_lt_of_pos _ (by omega)⟩
    rw [← hc, cutT_drop hc0, cutT_take hc0, ← List.map_drop, ← List.map_take, gAdd_lst (by simp [szl]; omega), ← List.map_append]
    have hap : Apart (rows.drop cut.toNat ++ rows.take cut.toNat) := by
      have h1 : Apart rows := by
        unfold Apart
        rw [hk]
        refine List.Pairwise.map _ ?_ List.nodup_range
        intro x y hxy e
        apply hxy
        have e' : (x : Int) * gap = y * gap := by omega
        have := Int.eq_of_mul_eq_mul_right (show gap ≠ 0 by omega) e'
        omega
      have h2 : (rows.drop cut.toNat ++ rows.take cut.toNat).Perm rows := by
        refine (List.perm_append_comm).trans ?_
        rw [List.take_append_drop]
      unfold Apart
      exact ((h2.map (fun p : Int × Ent => p.1)).nodup_iff).mpr h1
    have hmem : ∀ x, x ∈ rows.drop cut.toNat ++ rows.take cut.toNat → x ∈ rows := fun x hx => by
      rcases List.mem_append.mp hx with q | q
      · exact List.mem_of_mem_drop q
      · exact List.mem_of_mem_take q
    rw [cons_some, Option.bind_some, dict_rows hap]
    have hkey : ∀ x ∈ rows, ∃ i : Nat, i < m ∧ x.1 = 1 + (i : Int) * gap := fun x hx => by
      have : x.1 ∈ rows.map (·.1) := List.mem_map.mpr ⟨_, hx, rfl⟩
      rw [hk] at this
      obtain ⟨i, hi, e⟩ := List.mem_map.mp this
      exact ⟨i, List.mem_range.mp hi, e.symm⟩
    refine w_rtE ⟨_, rfl, _, rfl, ?_⟩
    constructor
    · exact hap
    · simp; omega
    · intro x hx
      obtain ⟨i, _, e⟩ := hkey x (hmem x hx)
      have := Int.mul_nonneg (show (0 : Int) ≤ i by omega) (show 0 ≤ gap by omega); omega
    · intro x hx
      obtain ⟨i, hi, e⟩ := hkey x (hmem x hx)
      have h1 : (i : Int) * gap ≤ i * 3 := Int.mul_le_mul_of_nonneg_left hg3 (by omega)
      omega
    · exact fun x hx => hr x (hmem x hx)
end Q
namespace Q
open PySem PySem.Spec L2 DL

/-! ### order -/
theorem insI_perm (x : Int) : ∀ l : List Int, (insI x l).Perm (x :: l)
  | [] => .refl _
  | y :: ys => by
    unfold insI
    split
    · exact .refl _
    · exact ((insI_perm x ys).cons y).trans (.swap x y ys)
theorem sortI_perm : ∀ l : List Int, (sortI l).Perm l
  | [] => .refl _
  | x :: xs => by
    unfold sortI
    exact (insI_perm x _).trans ((sortI_perm xs).cons x)
theorem insI_sorted (x : Int) : ∀ {l : List Int}, l.Pairwise (· ≤ ·) → (insI x l).Pairwise (· ≤ ·)
  | [], _ => by simp [insI]
  | y :: ys, h => by
    unfold insI
    split
    · rename_i hxy
      refine List.pairwise_cons.mpr ⟨fun z hz => ?_, h⟩
      rcases List.mem_cons.mp hz with rfl | q
      · exact hxy
      · have := (List.pairwise_cons.mp h).1 z q; omega
    · rename_i hxy
      refine List.pairwise_cons.mpr ⟨fun z hz => ?_, insI_sorted x (List.pairwise_cons.mp h).2⟩
      rcases List.mem_cons.mp ((insI_perm x ys).mem_iff.mp hz) with rfl | q
      · omega
      · exact (List.pairwise_cons.mp h).1 z q
theorem sortI_sorted : ∀ l : List Int, (sortI l).Pairwise (· ≤ ·)
  | [] => by simp [sortI]
  | x :: xs => by
    unfold sortI
    exact insI_sorted x (sortI_sorted xs)
theorem sortI_mem {l : List Int} {k : Int} : k ∈ sortI l ↔ k ∈ l := (sortI_perm l).mem_iff
theorem sortI_len (l : List Int) : (sortI l).length = l.length := (sortI_perm l).length_eq
theorem sortI_strict {l : List Int} (h : l.Nodup) : (sortI l).Pairwise (· < ·) := by
  have h1 : (sortI l).Nodup := (sortI_perm l).nodup_iff.mpr h
  have h2 := sortI_sorted l
  have h1' : (sortI l).Pairwise (· ≠ ·) := h1
  exact (h2.and h1').imp fun ⟨a, b⟩ => by omega
/-- rising lists with the same numbers are the same -/
theorem strict_ext : ∀ {xs ys : List Int}, xs.Pairwise (· < ·) → ys.Pairwise (· < ·) → (∀ k, k ∈ xs ↔ k ∈ ys) → xs = ys
  | [], [], _, _, _ => rfl
  | [], y :: _, _, _, h => absurd ((h y).mpr (by simp)) (by simp)
  | x :: _, [], _, _, h => absurd ((h x).mp (by simp)) (by simp)
  | x :: xs, y :: ys, hx, hy, h => by
    obtain ⟨hx1, hx2⟩ := List.pairwise_cons.mp hx
    obtain ⟨hy1, hy2⟩ := List.pairwise_cons.mp hy
    have e : x = y := by
      rcases List.mem_cons.mp ((h x).mp (by simp)) with q | q
      · exact q
      · rcases List.mem_cons.mp ((h y).mpr (by simp)) with q' | q'
        · exact q'.symm
        · have := hy1 x q; have := hx1 y q'; omega
    subst e
    congr 1
    refine strict_ext hx2 hy2 fun k => ⟨fun hk => ?_, fun hk => ?_⟩
    · rcases List.mem_cons.mp ((h k).mp (List.mem_cons_of_mem _ hk)) with q | q
      · have := hx1 k hk; omega
      · exact q
    · rcases List.mem_cons.mp ((h k).mpr (List.mem_cons_of_mem _ hk)) with q | q
      · have := hy1 k hk; omega
      · exact q

/-! ### which count -/
def undT (us : List Int) : Option Ent → List Int
  | some (.undo t) => if t ∈ us then us else us ++ [t]
  | _ => us
/-- from the greatest number down: those that count, the undone ones noted -/
def cntD (b : Bk) (n : Int) : List Int → List Int → List Int
  | [], _ => []
  | d :: ds, us => if n < d ∨ d ∈ us then cntD b n ds us else d :: cntD b n ds (undT us (at? b d))
def keysB (b : Bk) : List Int := b.map (·.1)
/-- the numbers of the entries that count behind n, falling -/
def cntF (b : Bk) (n : Int) : List Int := cntD b n (sortI (keysB b)).reverse []
/-- rising -/
def cntU (b : Bk) (n : Int) : List Int := (cntF b n).reverse
theorem cntD_sub {b : Bk} {n : Int} : ∀ {ds us : List Int}, (cntD b n ds us).Sublist ds
  | [], _ => .refl _
  | d :: ds, us => by
    unfold cntD
    split
    · exact cntD_sub.cons d
    · exact cntD_sub.cons₂ d
theorem undT_mem {us : List Int} {o : Option Ent} {k : Int} : k ∈ undT us o ↔ k ∈ us ∨ o = some (.undo k) := by
  unfold undT
  split
  · rename_i t
    split
    · rename_i h
      constructor
      · exact .inl
      · rintro (h | h)
        · exact h
        · cases h; assumption
    · simp only [List.mem_append, List.mem_singleton]
      constructor
      · rintro (h | rfl)
        · exact .inl h
        · exact .inr rfl
      · rintro (h | h)
        · exact .inl h
        · cases h; exact .inr rfl
  · rename_i h
    constructor
    · exact .inl
    · rintro (q | q)
      · exact q
      · exact absurd q (h _)
theorem cntD_spec {b : Bk} {n : Int} : ∀ {ds us : List Int}, ds.Pairwise (· > ·) → ∀ k ∈ ds, k ∈ cntD b n ds us ↔ k ≤ n ∧ k ∉ us ∧ ¬ ∃ l ∈ cntD b n ds us, k < l ∧ at? b l = some (.undo k)
  | [], _, _, k, hk => absurd hk (by simp)
  | d :: ds, us, hp, k, hk => by
    obtain ⟨hp1, hp2⟩ := List.pairwise_cons.mp hp
    have hlt : ∀ us', ∀ l ∈ cntD b n ds us', l < d := fun us' l hl => hp1 l (cntD_sub.subset hl)
    unfold cntD
    split
    · rename_i hc
      rcases List.mem_cons.mp hk with rfl | hk
      · constructor
        · intro h; have := hlt us _ h; omega
        · rintro ⟨h1, h2, _⟩
          rcases hc with q | q
          · omega
          · exact absurd q h2
      · exact cntD_spec hp2 k hk
    · rename_i hc
      have hc1 : ¬ n < d := fun q => hc (.inl q)
      have hc2 : d ∉ us := fun q => hc (.inr q)
      rcases List.mem_cons.mp hk with rfl | hk'
      · constructor
        · intro _
          refine ⟨by omega, hc2, ?_⟩
          rintro ⟨l, hl, hl2, _⟩
          rcases List.mem_cons.mp hl with rfl | q
          · omega
          · have := hlt _ _ q; omega
        · intro _; simp
      · have hkd := hp1 k hk'
        have ih := cntD_spec (b := b) (n := n) (us := undT us (at? b d)) hp2 k hk'
        rw [undT_mem] at ih
        constructor
        · intro h
          rcases List.mem_cons.mp h with q | q
          · omega
          obtain ⟨h1, h2, h3⟩ := ih.mp q
          refine ⟨h1, fun q => h2 (.inl q), ?_⟩
          rintro ⟨l, hl, hl2, hl3⟩
          rcases List.mem_cons.mp hl with rfl | q
          · exact h2 (.inr hl3)
          · exact h3 ⟨l, q, hl2, hl3⟩
        · rintro ⟨h1, h2, h3⟩
          refine List.mem_cons_of_mem _ (ih.mpr ⟨h1, ?_, ?_⟩)
          · rintro (q | q)
            · exact h2 q
            · exact h3 ⟨d, by simp, by omega, q⟩
          · rintro ⟨l, hl, hl2, hl3⟩
            exact h3 ⟨l, List.mem_cons_of_mem _ hl, hl2, hl3⟩
theorem cntU_mem {b : Bk} {n k : Int} : k ∈ cntU b n ↔ k ∈ cntF b n := by simp [cntU]
theorem desc_keys {b : Bk} (h : Apart b) : (sortI (keysB b)).reverse.Pairwise (· > ·) := by
  rw [List.pairwise_reverse]
  exact sortI_strict h
theorem cntF_keys {b : Bk} {n k : Int} (h : k ∈ cntF b n) : k ∈ keysB b := by
  have := cntD_sub.subset h
  rw [List.mem_reverse] at this
  exact sortI_mem.mp this
theorem cntU_spec {b : Bk} (h : Apart b) {n k : Int} (hk : k ∈ keysB b) : k ∈ cntU b n ↔ k ≤ n ∧ ¬ ∃ l ∈ cntU b n, k < l ∧ at? b l = some (.undo k) := by
  have := cntD_spec (b := b) (n := n) (us := []) (desc_keys h) k (by rw [List.mem_reverse]; exact sortI_mem.mpr hk)
  rw [cntU_mem]
  unfold cntF
  rw [this]
  simp only [List.not_mem_nil, not_false_eq_true, true_and]
  constructor
  · rintro ⟨h1, h2⟩
    exact ⟨h1, fun ⟨l, hl, q⟩ => h2 ⟨l, cntU_mem.mp hl, q⟩⟩
  · rintro ⟨h1, h2⟩
    exact ⟨h1, fun ⟨l, hl, q⟩ => h2 ⟨l, cntU_mem.mpr hl, q⟩⟩
theorem cntU_strict {b : Bk} (h : Apart b) (n : Int) : (cntU b n).Pairwise (· < ·) := by
  unfold cntU
  rw [List.pairwise_reverse]
  exact (desc_keys h).sublist cntD_sub
theorem cntU_le {b : Bk} (h : Apart b) {n k : Int} (hk : k ∈ cntU b n) : k ≤ n := ((cntU_spec h (cntF_keys (cntU_mem.mp hk))).mp hk).1
theorem cntU_filter {b : Bk} (h : Apart b) (n : Int) (p : Int → Bool) (hp : ∀ k ∈ keysB b, p k = true ↔ k ∈ cntU b n) : (sortI (keysB b)).filter p = cntU b n := by
  refine strict_ext ((sortI_strict h).filter _) (cntU_strict h n) fun k => ?_
  rw [List.mem_filter]
  constructor
  · rintro ⟨h1, h2⟩
    exact (hp k (sortI_mem.mp h1)).mp h2
  · intro h1
    have := cntF_keys (cntU_mem.mp h1)
    exact ⟨sortI_mem.mpr this, (hp k this).mpr h1⟩
/-- only what stands under numbers up to n matters -/
theorem cntD_congr {b b' : Bk} {n : Int} : ∀ {ds us : List Int}, (∀ k ∈ ds, k ≤ n → at? b k = at? b' k) → cntD b n ds us = cntD b' n ds us
  | [], _, _ => rfl
  | d :: ds, us, h => by
    have ih : ∀ us, cntD b n ds us = cntD b' n ds us := fun us => cntD_congr fun k hk => h k (List.mem_cons_of_mem _ hk)
    unfold cntD
    split
    · exact ih us
    · rename_i hc
      rw [h d (by simp) (by have : ¬ n < d := fun q => hc (.inl q); omega), ih]
theorem cntD_le {b : Bk} {n : Int} : ∀ {ds us : List Int}, cntD b n ds us = cntD b n (ds.filter (decide <| · ≤ n)) us
  | [], _ => rfl
  | d :: ds, us => by
    by_cases h : d ≤ n
    · rw [List.filter_cons_of_pos (by simpa using h)]
      unfold cntD
      rw [cntD_le (ds := ds) (us := us), cntD_le (ds := ds) (us := undT us (at? b d))]
    · rw [List.filter_cons_of_neg (by simpa using h)]
      conv => lhs; unfold cntD
      rw [if_pos (.inl (by omega))]
      exact cntD_le
theorem cnt_congr {b b' : Bk} {n : Int} (h : Apart b) (h' : Apart b') (e : ∀ k, k ≤ n → at? b k = at? b' k) : cntU b n = cntU b' n := by
  unfold cntU cntF
  rw [cntD_le (b := b), cntD_le (b := b')]
  have hk : ∀ k, k ≤ n → (k ∈ keysB b ↔ k ∈ keysB b') := fun k hk => by
    have h1 := at_none (b := b) (k := k)
    have h2 := at_none (b := b') (k := k)
    rw [e k hk] at h1
    unfold keysB
    constructor
    · intro q
      exact Classical.byContradiction fun z => (h1.mp (h2.mpr z)) q
    · intro q
      exact Classical.byContradiction fun z => (h2.mp (h1.mpr z)) q
  have hd : (sortI (keysB b)).reverse.filter (decide <| · ≤ n) = (sortI (keysB b')).reverse.filter (decide <| · ≤ n) := by
    rw [List.filter_reverse, List.filter_reverse]
    congr 1
    refine strict_ext ((sortI_strict h).filter _) ((sortI_strict h').filter _) fun k => ?_
    simp only [List.mem_filter, sortI_mem, decide_eq_true_eq]
    constructor
    · rintro ⟨h1, h2⟩; exact ⟨(hk k h2).mp h1, h2⟩
    · rintro ⟨h1, h2⟩; exact ⟨(hk k h2).mpr h1, h2⟩
  rw [hd]
  congr 1
  refine cntD_congr fun k hk hn => e k hn

/-! ### the words of entries -/
def word : Ent → Str
  | .tell .. => "tell"
  | .clear .. => "clear"
  | .like .. => "like"
  | .undo _ => "undo"
def isUndo : Ent → Bool
  | .undo _ => true
  | _ => false
theorem words_ok : PyData.strOk "tell" = true ∧ PyData.strOk "clear" = true ∧ PyData.strOk "like" = true ∧ PyData.strOk "undo" = true := by decide +kernel
theorem words_ne : ("tell" : Str) ≠ "undo" ∧ ("clear" : Str) ≠ "undo" ∧ ("like" : Str) ≠ "undo" ∧ ("clear" : Str) ≠ "tell" ∧ ("like" : Str) ≠ "tell" ∧ ("undo" : Str) ≠ "tell" ∧ ("like" : Str) ≠ "clear" ∧ ("undo" : Str) ≠ "clear" ∧ ("tell" : Str) ≠ "clear" := by decide +kernel
theorem word_ok (e : Ent) : PyData.strOk (word e) = true := by
  cases e
  · exact words_ok.1
  · exact words_ok.2.1
  · exact words_ok.2.2.1
  · exact words_ok.2.2.2
theorem subs_word (e : Ent) : gSubs (encE e) (.int 0) = some (.str (word e)) := by
  cases e <;> (unfold encE word; rw [subs_tup (by decide) (by simp)]; rfl)
theorem word_undo (e : Ent) : decide (word e = "undo") = isUndo e := by
  cases e
  · exact decide_eq_false words_ne.1
  · exact decide_eq_false words_ne.2.1
  · exact decide_eq_false words_ne.2.2.1
  · exact decide_eq_true rfl
theorem eq_undo (neg : Bool) (e : Ent) : gEqA neg (.str (word e)) (.str "undo") = some (.bl (xor neg (isUndo e))) := by
  rw [gEqA_str (word_ok e) (by decide +kernel), word_undo]

/-! ### the program's own going -/
def encU (us : List Int) : T := .dic (us.map fun k => ((.inl k : Key), T.bl true))
theorem lookU : ∀ (us : List Int) (k : Int), (lookT (us.map fun k => ((.inl k : Key), T.bl true)) (.inl k)).isSome = decide (k ∈ us)
  | [], _ => rfl
  | u :: us, k => by
    show (if (Sum.inl u : Key) = .inl k then some (T.bl true) else lookT (us.map fun k => ((.inl k : Key), T.bl true)) (.inl k)).isSome = _
    by_cases h : u = k
    · subst h; simp
    · have h1 : ¬ (Sum.inl u : Key) = .inl k := fun e => h (by cases e; rfl)
      have h2 : ¬ k = u := fun e => h e.symm
      simp only [h1, if_false, lookU us k, List.mem_cons, h2, false_or]
theorem putU : ∀ (us : List Int) (k : Int), putT (us.map fun k => ((.inl k : Key), T.bl true)) (.inl k) (.bl true) = (if k ∈ us then us else us ++ [k]).map fun k => ((.inl k : Key), T.bl true)
  | [], _ => rfl
  | u :: us, k => by
    show (if (Sum.inl u : Key) = .inl k then (Sum.inl k, T.bl true) :: us.map _ else (Sum.inl u, T.bl true) :: putT (us.map _) (.inl k) (.bl true)) = _
    by_cases h : u = k
    · subst h; simp
    · have h1 : ¬ (Sum.inl u : Key) = .inl k := fun e => h (by cases e; rfl)
      have h2 : ¬ k = u := fun e => h e.symm
      rw [if_neg h1, putU us k]
      by_cases q : k ∈ us
      · simp [q]
      · simp [q, h2]
theorem in_U {us : List Int} {k : Int} {neg : Bool} : gInA neg (.int k) (encU us) = some (.bl (xor neg (decide (k ∈ us)))) := by
  show (keyOf (.int k)).map (fun ky => T.bl (xor neg (lookT (us.map fun k => ((.inl k : Key), T.bl true)) ky).isSome)) = _
  show some (T.bl (xor neg (lookT (us.map fun k => ((.inl k : Key), T.bl true)) (.inl k)).isSome)) = _
  rw [lookU]
theorem store_U {i : Nat} {ρ : Env'} {us : List Int} {k : Int} (hn : nd i ρ = some (encU us)) (ha : us.Nodup) (hl : us.length < 1000) : stD i (some (.bl true)) (some (.int k)) ρ = .nx (ρ.set i (some (encU (if k ∈ us then us else us ++ [k])))) := by
  unfold stD
  rw [hn]
  have h1 : (us.map fun k => ((.inl k : Key), T.bl true)).length < sizeLine := by simp [szl]; omega
  have h2 : (List.map (fun p : Key × T => p.1) (us.map fun k => ((.inl k : Key), T.bl true))).Nodup := by
    rw [List.map_map]
    exact List.Pairwise.map _ (fun x y hxy e => hxy (by cases e; rfl)) ha
  show (if imm (.bl true) = true ∧ (List.map (fun p : Key × T => p.1) (us.map fun k => ((.inl k : Key), T.bl true))).Nodup ∧ (us.map fun k => ((.inl k : Key), T.bl true)).length < sizeLine then Out.nx (ρ.set i (some (.dic (putT (us.map fun k => ((.inl k : Key), T.bl true)) (.inl k) (.bl true))))) else .er) = _
  rw [if_pos ⟨by simp, h2, h1⟩, putU]
  rfl
theorem counting_eq {b : Bk} (h : Apart b) (hl : b.length < 64) (n : Int) : f_counting [encB b, .int n] = some (.lst ((cntU b n).map T.int)) := by
  refine w_eq ?_
  show W _ _ _ _ (D_counting [some (encB b), some (.int n), none, none, none, none])
  unfold D_counting
  have hs : gSortedR [encB b] = some (.lst ((sortI (keysB b)).reverse.map T.int)) := by
    show (keysI (encK b)).bind (fun ns => if ns.length < 64 then some (T.lst ((sortI ns).reverse.map T.int)) else none) = _
    rw [keysI_encK]
    show (if (b.map (·.1)).length < 64 then _ else none) = _
    rw [if_pos (by simpa using hl)]; rfl
  simp only [w_seq, lst_n0, own_nil, own_dnil, w_nx, List.set_cons_succ, List.set_cons_zero, nd_zero, nd_succ, Option.bind_some, hs]
  obtain ⟨I, hI⟩ : ∃ I : List T → Env' → Prop, I = fun ts ρ => ∃ (ds us fs : List Int) (p q : Option T), ts = ds.map T.int ∧ (∀ k ∈ ds, k ∈ keysB b) ∧ us.Nodup ∧ us.length + ds.length ≤ b.length ∧ fs.length + ds.length ≤ b.length ∧ fs ++ cntD b n ds us = cntF b n ∧ ρ = [some (encB b), some (.int n), some (encU us), some (.lst (fs.map T.int)), p, q] := ⟨_, rfl⟩
  refine w_forS (ts := (sortI (keysB b)).reverse.map T.int) ?_ I ?_ ?_ ?_
  · show (if immE (.lst ((sortI (keysB b)).reverse.map T.int)) = true then seqOf (.lst ((sortI (keysB b)).reverse.map T.int)) else none) = _
    rw [if_pos (by show immL _ = true; exact immL_ints)]; rfl
  · rw [hI]
    refine ⟨(sortI (keysB b)).reverse, [], [], none, none, rfl, fun k hk => sortI_mem.mp (List.mem_reverse.mp hk), .nil, ?_, ?_, rfl, rfl⟩
    · simp [sortI_len, keysB]
    · simp [sortI_len, keysB]
  · intro t ts ρ hi
    rw [hI] at hi
    obtain ⟨ds, us, fs, p, q, hts, hk, hu, hul, hfl, hc, rfl⟩ := hi
    cases ds with
    | nil => cases hts
    | cons d ds =>
      obtain ⟨rfl, rfl⟩ : t = .int d ∧ ts = ds.map T.int := by cases hts; exact ⟨rfl, rfl⟩
      refine ⟨_, rfl, ?_⟩
      have hd : d ∈ keysB b := hk d (by simp)
      obtain ⟨e, he⟩ : ∃ e, at? b d = some e := by
        cases h' : at? b d with
        | none => exact absurd hd (at_none.mp h')
        | some e => exact ⟨e, rfl⟩
      simp only [w_seq, bdN, List.set_cons_succ, List.set_cons_zero, nd_zero, nd_succ, b2_some, gIb_int, asB_bl, in_U, Bool.false_xor, or_s]
      unfold cntD at hc
      refine w_if rfl (fun hx => ?_) (fun hx => ?_)
      · simp only [Bool.or_eq_true, decide_eq_true_eq] at hx
        rw [if_pos hx] at hc
        rw [w_ct, hI]
        simp only [List.length_cons] at hul hfl
        exact ⟨ds, us, fs, some (.int d), q, rfl, fun k hk' => hk k (by simp [hk']), hu, by omega, by omega, hc, rfl⟩
      · simp only [Bool.or_eq_false_iff, decide_eq_false_iff_not] at hx
        rw [if_neg (by rintro (z | z); exact hx.1 z; exact hx.2 z)] at hc
        simp only [List.length_cons] at hul hfl
        have himm : imm (encE e) = true := imm_encE e
        have hset : ∀ ρ : Env', setD false 5 (some (encE e)) ρ = .nx (ρ.set 5 (some (encE e))) := fun ρ => by simp only [setD, himm, Bool.or_true, if_true]
        simp only [w_nx, w_seq, nd_zero, nd_succ, b2_some, subs_book he, hset, List.set_cons_succ, List.set_cons_zero, subs_word, eq_undo, asB_bl, Bool.false_xor]
        refine w_if rfl (fun hx => ?_) (fun hx => ?_)
        · cases e with
          | undo t =>
            have e1 : gSubs (encE (.undo t)) (.int 1) = some (.int t) := by unfold encE; rw [subs_tup (by decide) (by simp)]; rfl
            have hU := store_U (i := 2) (k := t) (us := us) (ρ := [some (encB b), some (.int n), some (encU us), some (.lst (fs.map T.int)), some (.int d), some (encE (.undo t))]) rfl hu (by omega)
            simp only [nd_zero, nd_succ, b2_some, e1, hU, w_nx, List.set_cons_succ, List.set_cons_zero]
            refine w_app (ts := fs.map T.int) (P := fun t => t = .int d) rfl (by simp [szl]; omega) ⟨_, rfl, rfl⟩ ?_
            rintro _ rfl
            refine ⟨by simp, ?_⟩
            rw [hI]
            refine ⟨ds, if t ∈ us then us else us ++ [t], fs ++ [d], some (.int d), some (encE (.undo t)), rfl, fun k hk' => hk k (by simp [hk']), ?_, ?_, by simp; omega, ?_, by simp⟩
            · split
              · exact hu
              · rename_i q
                rw [List.nodup_append]
                exact ⟨hu, by simp, fun a ha b hb e => q (by simp at hb; subst hb; subst e; exact ha)⟩
            · split
              · omega
              · simp; omega
            · rw [← hc, he]
              simp [undT]
          | _ => simp [isUndo] at hx
        · have hcu : undT us (at? b d) = us := by
            rw [he]
            cases e with
            | undo t => simp [isUndo] at hx
            | _ => rfl
          rw [hcu] at hc
          simp only [w_nx, nd_zero, nd_succ]
          refine w_app (ts := fs.map T.int) (P := fun t => t = .int d) rfl (by simp [szl]; omega) ⟨_, rfl, rfl⟩ ?_
          rintro _ rfl
          refine ⟨by simp, ?_⟩
          rw [hI]
          exact ⟨ds, us, fs ++ [d], some (.int d), some (encE e), rfl, fun k hk' => hk k (by simp [hk']), hu, by omega, by simp; omega, by rw [← hc]; simp, by simp⟩
  · intro ρ hi
    rw [hI] at hi
    obtain ⟨ds, us, fs, p, q, hts, hk, hu, hul, hfl, hc, rfl⟩ := hi
    obtain rfl : ds = [] := by
      cases ds with
      | nil => rfl
      | cons => cases hts
    have : fs = cntF b n := by rw [← hc]; simp [cntD]
    subst this
    simp only [nd_zero, nd_succ, revD, rt_some, w_rt, cntU, List.map_reverse]
end Q
namespace Q
open PySem PySem.Spec PyProof.Rows L2 DL
abbrev N_standing : List Str := ["book", "n", "entries", "number", "entry"]
def D_standing : Env' → Out := (seqD (fun ρ => ownD 2 (lcD (bdN 3) (fun _ => some true) (fun ρ => b2 gSubs (nd 0 ρ) (nd 3 ρ)) [3] ρ (itD true ((consD (nd 0 ρ) (consD (nd 1 ρ) (some []))).bind f_counting))) ρ)
  (fun ρ => rtD (lcD (bdN 4) (fun ρ => asB (b2 (gEqA true) (b2 gSubs (nd 4 ρ) (some (.int 0))) (some (.str "undo")))) (fun ρ => nd 4 ρ) [4] ρ (itD true (revD (nd 2 ρ))))))
def f_standing : List T → Option T := fnD N_standing true D_standing
abbrev N_worth_by : List Str := ["entries", "name", "day", "sought", "entry"]
def D_worth_by : Env' → Out := (seqD (fun ρ => setD true 3 (nd 1 ρ) ρ)
  (seqD (fun ρ => forI (bdN 4)
    (seqD (fun ρ => ifD (orD (asB (b2 (gEqA true) (b2 gSubs (nd 4 ρ) (some (.int 1))) (nd 3 ρ))) ((asB (chD gLe gLe (b2 gSubs (nd 4 ρ) (some (.int 2))) (nd 2 ρ) (b2 gSubs (nd 4 ρ) (some (.int 3))))).map (!·)))
    (fun ρ => .ct ρ)
    (fun ρ => .nx ρ) ρ)
  (seqD (fun ρ => ifD (asB (b2 (gEqA false) (b2 gSubs (nd 4 ρ) (some (.int 0))) (some (.str "tell"))))
    (fun ρ => rtD (b2 gSubs (nd 4 ρ) (some (.int 4))))
    (fun ρ => .nx ρ) ρ)
  (seqD (fun ρ => ifD (asB (b2 (gEqA false) (b2 gSubs (nd 4 ρ) (some (.int 0))) (some (.str "clear"))))
    (fun ρ => rtD (some .non))
    (fun ρ => .nx ρ) ρ)
  (fun ρ => setD true 3 (b2 gSubs (nd 4 ρ) (some (.int 4))) ρ)))) (itD true (nd 0 ρ)) ρ)
  (fun ρ => rtD (some .non))))
def f_worth_by : List T → Option T := fnD N_worth_by false D_worth_by
abbrev N_worth_of : List Str := ["book", "n", "name", "day"]
def D_worth_of : Env' → Out := (fun ρ => rtD ((consD ((consD (nd 0 ρ) (consD (nd 1 ρ) (some []))).bind f_standing) (consD (nd 2 ρ) (consD (nd 3 ρ) (some [])))).bind f_worth_by))
def f_worth_of : List T → Option T := fnD N_worth_of false D_worth_of
abbrev N__law_counting : List Str := ["_law_book_here", "_law_n", "_law_undone", "_law_found", "_law_number"]
def D__law_counting : Env' → Out := (seqD (fun ρ => ownD 2 (lstD (some [])) ρ)
  (seqD (fun ρ => ownD 3 (lstD (some [])) ρ)
  (seqD (fun ρ => forI (bdN 4)
    (fun ρ => ifD (andD (asB (b2 gLe (nd 4 ρ) (nd 1 ρ))) (asB (b2 (gInA true) (nd 4 ρ) (nd 2 ρ))))
    (seqD (fun ρ => appD 3 (nd 4 ρ) ρ)
  (fun ρ => ifD (asB (b2 (gEqA false) (b2 gSubs (b2 gSubs (nd 0 ρ) (nd 4 ρ)) (some (.int 0))) (some (.str "undo"))))
    (fun ρ => appD 2 (b2 gSubs (b2 gSubs (nd 0 ρ) (nd 4 ρ)) (some (.int 1))) ρ)
    (fun ρ => .nx ρ) ρ))
    (fun ρ => .nx ρ) ρ) (itF ((nd 0 ρ).bind fun t => gSortedR [t])) ρ)
  (fun ρ => rtD (revD (nd 3 ρ))))))
def f__law_counting : List T → Option T := fnD N__law_counting true D__law_counting
abbrev N__law_said : List Str := ["_law_book_here", "_law_n", "_law_day", "_law_table", "_law_number", "_law_entry_here"]
def D__law_said : Env' → Out := (seqD (fun ρ => ownD 3 (some (.dic [])) ρ)
  (seqD (fun ρ => forI (bdN 4)
    (seqD (fun ρ => setD false 5 (b2 gSubs (nd 0 ρ) (nd 4 ρ)) ρ)
  (fun ρ => ifD (andD (asB (b2 (gEqA true) (b2 gSubs (nd 5 ρ) (some (.int 0))) (some (.str "undo")))) (asB (chD gLe gLe (b2 gSubs (nd 5 ρ) (some (.int 2))) (nd 2 ρ) (b2 gSubs (nd 5 ρ) (some (.int 3))))))
    (fun ρ => ifD (asB (b2 (gEqA false) (b2 gSubs (nd 5 ρ) (some (.int 0))) (some (.str "tell"))))
    (fun ρ => stD 3 (b2 gSubs (nd 5 ρ) (some (.int 4))) (b2 gSubs (nd 5 ρ) (some (.int 1))) ρ)
    (fun ρ => ifD (asB (b2 (gEqA false) (b2 gSubs (nd 5 ρ) (some (.int 0))) (some (.str "clear"))))
    (fun ρ => stD 3 (some .non) (b2 gSubs (nd 5 ρ) (some (.int 1))) ρ)
    (fun ρ => stD 3 (gGet (nd 3 ρ) (b2 gSubs (nd 5 ρ) (some (.int 4))) (some .non)) (b2 gSubs (nd 5 ρ) (some (.int 1))) ρ) ρ) ρ)
    (fun ρ => .nx ρ) ρ)) (itF ((consD (nd 0 ρ) (consD (nd 1 ρ) (some []))).bind f__law_counting)) ρ)
  (fun ρ => rtD (nd 3 ρ))))
def f__law_said : List T → Option T := fnD N__law_said true D__law_said
end Q
namespace Q
open PySem PySem.Spec L2 DL

/-! ### strOk of texts, entries fit to be read -/
/-- fit to be compared -/
def fitE : Ent → Prop
  | .tell x _ _ _ => PyData.strOk x = true
  | .clear x _ _ => PyData.strOk x = true
  | .like x _ _ y => PyData.strOk x = true ∧ PyData.strOk y = true
  | .undo _ => True
theorem okE_fit {e : Ent} (h : okE e) : fitE e := by
  cases e with
  | tell => exact h.1.ok
  | clear => exact h.1.ok
  | like => exact ⟨h.1.ok, h.2.2.2.2.ok⟩
  | undo => trivial
def nameE : Ent → Str
  | .tell x _ _ _ => x
  | .clear x _ _ => x
  | .like x _ _ _ => x
  | .undo _ => ""
def loE : Ent → Int
  | .tell _ l _ _ => l
  | .clear _ l _ => l
  | .like _ l _ _ => l
  | .undo _ => 0
def hiE : Ent → Int
  | .tell _ _ h _ => h
  | .clear _ _ h => h
  | .like _ _ h _ => h
  | .undo _ => 0
section
variable {e : Ent}
theorem subs_name (h : isUndo e = false) : gSubs (encE e) (.int 1) = some (.str (nameE e)) := by
  cases e with
  | undo => cases h
  | _ => unfold encE; rw [subs_tup (by decide) (by simp)]; rfl
theorem subs_lo (h : isUndo e = false) : gSubs (encE e) (.int 2) = some (.int (loE e)) := by
  cases e with
  | undo => cases h
  | _ => unfold encE; rw [subs_tup (by decide) (by simp)]; rfl
theorem subs_hi (h : isUndo e = false) : gSubs (encE e) (.int 3) = some (.int (hiE e)) := by
  cases e with
  | undo => cases h
  | _ => unfold encE; rw [subs_tup (by decide) (by simp)]; rfl
theorem name_fit (h : fitE e) : PyData.strOk (nameE e) = true := by
  cases e with
  | undo => show PyData.strOk "" = true; decide +kernel
  | tell => exact h
  | clear => exact h
  | like => exact h.1
end
def isTell : Ent → Bool
  | .tell .. => true
  | _ => false
def isClear : Ent → Bool
  | .clear .. => true
  | _ => false
theorem eq_tell (neg : Bool) (e : Ent) : gEqA neg (.str (word e)) (.str "tell") = some (.bl (xor neg (isTell e))) := by
  rw [gEqA_str (word_ok e) (by decide +kernel)]
  congr 3
  cases e with
  | tell => exact decide_eq_true rfl
  | clear => exact decide_eq_false words_ne.2.2.2.1
  | like => exact decide_eq_false words_ne.2.2.2.2.1
  | undo => exact decide_eq_false words_ne.2.2.2.2.2.1
theorem eq_clear (neg : Bool) (e : Ent) : gEqA neg (.str (word e)) (.str "clear") = some (.bl (xor neg (isClear e))) := by
  rw [gEqA_str (word_ok e) (by decide +kernel)]
  congr 3
  cases e with
  | clear => exact decide_eq_true rfl
  | like => exact decide_eq_false words_ne.2.2.2.2.2.2.1
  | undo => exact decide_eq_false words_ne.2.2.2.2.2.2.2.1
  | tell => exact decide_eq_false words_ne.2.2.2.2.2.2.2.2

/-! ### what a name has, by entries from the greatest number down -/
def onE (e : Ent) (s : Str) (d : Int) : Bool := decide (nameE e = s) && (decide (loE e ≤ d) && decide (d ≤ hiE e))
def wby : List Ent → Str → Int → Option Int
  | [], _, _ => none
  | e :: es, s, d => if onE e s d then (match e with
    | .tell _ _ _ w => some w
    | .clear .. => none
    | .like _ _ _ y => wby es y d
    | .undo _ => none) else wby es s d
def encW : Option Int → T
  | none => .non
  | some w => .int w
@[simp] theorem imm_encW (o : Option Int) : imm (encW o) = true := by cases o <;> simp [encW]
theorem seq_lst {ts : List T} : itD true (some (.lst ts)) = some ts := rfl
theorem wby_eq {es : List Ent} (hf : ∀ e ∈ es, fitE e ∧ isUndo e = false) {s : Str} (hs : PyData.strOk s = true) (d : Int) : f_worth_by [.lst (es.map encE), .str s, .int d] = some (encW (wby es s d)) := by
  refine w_eq ?_
  show W _ _ _ _ (D_worth_by [some (.lst (es.map encE)), some (.str s), some (.int d), none, none])
  unfold D_worth_by
  simp only [w_seq, nd_zero, nd_succ, set_str, w_nx, List.set_cons_succ, List.set_cons_zero, seq_lst]
  obtain ⟨I, hI⟩ : ∃ I : List T → Env' → Prop, I = fun ts ρ => ∃ (r : List Ent) (s' : Str) (p : Option T), ts = r.map encE ∧ (∀ e ∈ r, fitE e ∧ isUndo e = false) ∧ PyData.strOk s' = true ∧ wby r s' d = wby es s d ∧ ρ = [some (.lst (es.map encE)), some (.str s), some (.int d), some (.str s'), p] := ⟨_, rfl⟩
  refine w_forI (ts := es.map encE) ?_ I ?_ ?_ ?_
  · rfl
  · rw [hI]; exact ⟨es, s, none, rfl, hf, hs, rfl, rfl⟩
  · intro ρ hi
    rw [hI] at hi
    obtain ⟨r, s', p, ht, hr, hs', hw, rfl⟩ := hi
    obtain rfl : r = [] := by
      cases r with
      | nil => rfl
      | cons => cases ht
    simp only [rt_some, w_rt]
    rw [← hw]; rfl
  · intro t ts ρ hi
    rw [hI] at hi
    obtain ⟨r, s', p, ht, hr, hs', hw, rfl⟩ := hi
    cases r with
    | nil => cases ht
    | cons e r =>
      obtain ⟨rfl, rfl⟩ : t = encE e ∧ ts = r.map encE := by cases ht; exact ⟨rfl, rfl⟩
      refine ⟨_, rfl, ?_⟩
      obtain ⟨hfe, hue⟩ := hr e (by simp)
      have hr' : ∀ e ∈ r, fitE e ∧ isUndo e = false := fun e he => hr e (by simp [he])
      have hon : orD (some (xor true (decide (nameE e = s')))) (Option.map (fun x => !x) (some (decide (loE e ≤ d) && decide (d ≤ hiE e)))) = some (!onE e s' d) := by
        rw [Option.map_some, or_s]
        unfold onE
        cases decide (nameE e = s') <;> simp
      simp only [w_seq, bdN, List.set_cons_succ, List.set_cons_zero, nd_zero, nd_succ, b2_some, subs_name hue, subs_lo hue, subs_hi hue, gEqA_str (name_fit hfe) hs', ch_s2, asB_bl, hon]
      refine w_if rfl (fun hx => ?_) (fun hx => ?_)
      · have hx' : onE e s' d = false := by simpa using hx
        rw [w_ct, hI]
        refine ⟨r, s', _, rfl, hr', hs', ?_, rfl⟩
        rw [← hw]
        simp [wby, hx']
      · have hx' : onE e s' d = true := by simpa using hx
        simp only [w_nx, nd_zero, nd_succ, b2_some, subs_word, eq_tell, eq_clear, asB_bl, Bool.false_xor]
        cases e with
        | undo k => cases hue
        | tell x lo hi w =>
          refine w_if rfl (fun _ => ?_) (fun hz => absurd hz (by simp [isTell]))
          have e4 : gSubs (encE (.tell x lo hi w)) (.int 4) = some (.int w) := by unfold encE; rw [subs_tup (by decide) (by simp)]; rfl
          simp only [nd_zero, nd_succ, b2_some, e4, rt_some, w_rt]
          rw [← hw]
          simp [wby, hx', encW]
        | clear x lo hi =>
          refine w_if rfl (fun hz => absurd hz (by simp [isTell])) (fun _ => ?_)
          simp only [w_nx, nd_zero, nd_succ, b2_some, subs_word, eq_clear, asB_bl, Bool.false_xor]
          refine w_if rfl (fun _ => ?_) (fun hz => absurd hz (by simp [isClear]))
          simp only [rt_some, w_rt]
          rw [← hw]
          simp [wby, hx', encW]
        | like x lo hi y =>
          refine w_if rfl (fun hz => absurd hz (by simp [isTell])) (fun _ => ?_)
          simp only [w_nx, nd_zero, nd_succ, b2_some, subs_word, eq_clear, asB_bl, Bool.false_xor]
          refine w_if rfl (fun hz => absurd hz (by simp [isClear])) (fun _ => ?_)
          have e4 : gSubs (encE (.like x lo hi y)) (.int 4) = some (.str y) := by unfold encE; rw [subs_tup (by decide) (by simp)]; rfl
          simp only [w_nx, nd_zero, nd_succ, b2_some, e4, set_str, List.set_cons_succ, List.set_cons_zero]
          rw [hI]
          refine ⟨r, y, _, rfl, hr', hfe.2, ?_, rfl⟩
          rw [← hw]
          simp [wby, hx']

/-! ### the standing entries -/
/-- the entries under these numbers -/
def entB (b : Bk) (ks : List Int) : List Ent := ks.filterMap (at? b)
theorem entB_map {b : Bk} {ks : List Int} (h : ∀ k ∈ ks, k ∈ keysB b) : ks.map (fun k => (at? b k).getD (.undo 0)) = entB b ks := by
  induction ks with
  | nil => rfl
  | cons k ks ih =>
    obtain ⟨e, he⟩ : ∃ e, at? b k = some e := by
      cases h' : at? b k with
      | none => exact absurd (h k (by simp)) (at_none.mp h')
      | some e => exact ⟨e, rfl⟩
    unfold entB
    rw [List.filterMap_cons_some he, List.map_cons, ih fun j hj => h j (by simp [hj]), he]; rfl
theorem entB_mem {b : Bk} {ks : List Int} {e : Ent} (h : e ∈ entB b ks) : ∃ k, (k, e) ∈ b := by
  obtain ⟨k, _, hk⟩ := List.mem_filterMap.mp h
  exact ⟨k, at_mem hk⟩
def stB (b : Bk) (n : Int) : List Ent := (entB b (cntF b n)).filter fun e => !isUndo e
theorem cntF_len (b : Bk) (n : Int) : (cntF b n).length ≤ b.length := by
  have := (cntD_sub (b := b) (n := n) (ds := (sortI (keysB b)).reverse) (us := [])).length_le
  simp only [List.length_reverse, sortI_len, keysB, List.length_map] at this
  exact this
theorem entB_len (b : Bk) (ks : List Int) : (entB b ks).length ≤ ks.length := List.length_filterMap_le _ _
theorem immL_ents (l : List Ent) : immL (l.map encE) = true := immL_all fun t ht => by
  obtain ⟨e, _, rfl⟩ := List.mem_map.mp ht
  exact imm_encE e
theorem standing_eq {b : Bk} (h : Apart b) (hl : b.length < 64) (n : Int) : f_standing [encB b, .int n] = some (.lst ((stB b n).map encE)) := by
  refine w_eq ?_
  show W _ _ _ _ (D_standing [some (encB b), some (.int n), none, none, none])
  unfold D_standing
  have hkeys : ∀ k ∈ cntU b n, k ∈ keysB b := fun k hk => cntF_keys (cntU_mem.mp hk)
  have hlU : (cntU b n).length ≤ b.length := by unfold cntU; rw [List.length_reverse]; exact cntF_len b n
  have h1 := lc_some (bd := bdN 3) (c := fun _ => some true) (e := fun ρ => b2 gSubs (nd 0 ρ) (nd 3 ρ)) (vs := [3]) (ρ := [some (encB b), some (.int n), none, none, none]) (o := itD true (some (.lst ((cntU b n).map T.int)))) (τs := (cntU b n).map T.int) rfl (by simp [szl]; omega) (fun _ => true) (fun t => match t with | .int k => encE ((at? b k).getD (.undo 0)) | _ => .non) (fun t ht => by
      obtain ⟨k, hk, rfl⟩ := List.mem_map.mp ht
      refine ⟨_, rfl, rfl, fun _ => ?_⟩
      obtain ⟨e, he⟩ : ∃ e, at? b k = some e := by
        cases h' : at? b k with
        | none => exact absurd (hkeys k hk) (at_none.mp h')
        | some e => exact ⟨e, rfl⟩
      simp only [bdN, wipeD, List.set_cons_succ, List.set_cons_zero, nd_zero, nd_succ, b2_some, subs_book he, he, Option.getD_some]) (by
        rw [List.filter_eq_self.mpr fun _ _ => rfl, List.map_map]
        refine immL_all fun t ht => ?_
        obtain ⟨k, _, rfl⟩ := List.mem_map.mp ht
        exact imm_encE _)
  rw [List.filter_eq_self.mpr fun _ _ => rfl, List.map_map] at h1
  have h2 : ((fun t => match t with | T.int k => encE ((at? b k).getD (.undo 0)) | _ => T.non) ∘ T.int) = encE ∘ fun k => (at? b k).getD (.undo 0) := rfl
  rw [h2, ← List.map_map, entB_map hkeys] at h1
  have hown : ∀ (l : List Ent) (i : Nat) (ρ : Env'), ownD i (some (.lst (l.map encE))) ρ = .nx (ρ.set i (some (.lst (l.map encE)))) := fun l i ρ => own_s (immL_ents l)
  have hrev : (entB b (cntU b n)).reverse = entB b (cntF b n) := by unfold entB cntU; rw [List.filterMap_reverse, List.reverse_reverse]
  simp only [w_seq, nd_zero, nd_succ, cons_some, Option.bind_some, counting_eq h hl n, h1, hown, w_nx, List.set_cons_succ, List.set_cons_zero, revD, ← List.map_reverse, hrev]
  have hlE : (entB b (cntF b n)).length ≤ b.length := Nat.le_trans (entB_len _ _) (cntF_len b n)
  have hfm : ((entB b (cntF b n)).map encE).filter (fun t => match gSubs t (.int 0) with | some (.str x) => !(decide (x = "undo")) | _ => false) = (stB b n).map encE := by
    rw [List.filter_map]
    unfold stB
    congr 1
    apply List.filter_congr
    intro e _
    show (match gSubs (encE e) (.int 0) with | some (.str x) => !(decide (x = "undo")) | _ => false) = _
    rw [subs_word]
    show (!(decide (word e = "undo"))) = _
    rw [word_undo]
  have h3 := lc_some (bd := bdN 4) (c := fun ρ => asB (b2 (gEqA true) (b2 gSubs (nd 4 ρ) (some (.int 0))) (some (.str "undo")))) (e := fun ρ => nd 4 ρ) (vs := [4]) (ρ := [some (encB b), some (.int n), some (.lst ((entB b (cntU b n)).map encE)), none, none]) (o := itD true (some (.lst ((entB b (cntF b n)).map encE)))) (τs := (entB b (cntF b n)).map encE) rfl (by simp [szl]; omega) (fun t => match gSubs t (.int 0) with | some (.str x) => !(decide (x = "undo")) | _ => false) _root_.id (fun t ht => by
      obtain ⟨e, he, rfl⟩ := List.mem_map.mp ht
      refine ⟨_, rfl, ?_, fun _ => rfl⟩
      simp only [bdN, wipeD, List.set_cons_succ, List.set_cons_zero, nd_zero, nd_succ, b2_some, subs_word, eq_undo, asB_bl, word_undo, Bool.true_xor]) (by
        rw [hfm, List.map_id]; exact immL_ents _)
  rw [hfm, List.map_id] at h3
  rw [h3, rt_some, w_rt]
theorem stB_fit {b : Bk} (hf : ∀ p ∈ b, fitE p.2) (n : Int) : ∀ e ∈ stB b n, fitE e ∧ isUndo e = false := fun e he => by
  have := List.mem_filter.mp he
  obtain ⟨k, hk⟩ := entB_mem this.1
  exact ⟨hf _ hk, by simpa using this.2⟩
theorem worth_of_eq {b : Bk} (h : Apart b) (hl : b.length < 64) (hf : ∀ p ∈ b, fitE p.2) (n : Int) {s : Str} (hs : PyData.strOk s = true) (d : Int) : f_worth_of [encB b, .int n, .str s, .int d] = some (encW (wby (stB b n) s d)) := by
  refine w_eq ?_
  show W _ _ _ _ (D_worth_of [some (encB b), some (.int n), some (.str s), some (.int d)])
  unfold D_worth_of
  simp only [nd_zero, nd_succ, cons_some, Option.bind_some, standing_eq h hl n, wby_eq (stB_fit hf n) hs d, rt_some, w_rt]

/-! ### the law's own counting -/
theorem cntD_mem_congr {b : Bk} {n : Int} : ∀ {ds us us' : List Int}, (∀ k, k ∈ us ↔ k ∈ us') → cntD b n ds us = cntD b n ds us'
  | [], _, _, _ => rfl
  | d :: ds, us, us', h => by
    unfold cntD
    by_cases hc : n < d ∨ d ∈ us
    · rw [if_pos hc, if_pos (hc.imp_right (h d).mp)]
      exact cntD_mem_congr h
    · rw [if_neg hc, if_neg (fun q => hc (q.imp_right (h d).mpr))]
      congr 1
      refine cntD_mem_congr fun k => ?_
      rw [undT_mem, undT_mem, h k]
theorem inV_ints (k : Int) (us : List Int) : inV (.int k) (us.map V.int) = decide (k ∈ us) := by
  induction us with
  | nil => rfl
  | cons u us ih =>
    unfold inV at ih ⊢
    rw [List.map_cons, List.any_cons, ih]
    show ((u == k) || decide (k ∈ us)) = _
    by_cases h : u = k
    · subst h; simp
    · have h2 : ¬ k = u := fun e => h e.symm
      have h3 : (u == k) = false := by simpa using h
      rw [h3]; simp [h2]
theorem in_ints {k : Int} {us : List Int} {neg : Bool} : gInA neg (.int k) (.lst (us.map T.int)) = some (.bl (xor neg (decide (k ∈ us)))) := by
  have : (us.map T.int).all flatT = true := by
    rw [List.all_eq_true]; intro t ht
    obtain ⟨a, _, rfl⟩ := List.mem_map.mp ht
    rfl
  show gIn neg (.int k) (.lst (us.map T.int)) = _
  unfold gIn
  simp only [seqT]
  rw [if_pos ⟨rfl, this⟩]
  show some (T.bl (xor neg (inV (.int k) ((us.map T.int).map vOf)))) = _
  rw [List.map_map]
  show some (T.bl (xor neg (inV (.int k) (us.map V.int)))) = _
  rw [inV_ints]
theorem lcounting_eq {b : Bk} (h : Apart b) (hl : b.length < 64) (n : Int) : f__law_counting [encB b, .int n] = some (.lst ((cntU b n).map T.int)) := by
  refine w_eq ?_
  show W _ _ _ _ (D__law_counting [some (encB b), some (.int n), none, none, none])
  unfold D__law_counting
  have hs : gSortedR [encB b] = some (.lst ((sortI (keysB b)).reverse.map T.int)) := by
    show (keysI (encK b)).bind (fun ns => if ns.length < 64 then some (T.lst ((sortI ns).reverse.map T.int)) else none) = _
    rw [keysI_encK]
    show (if (b.map (·.1)).length < 64 then _ else none) = _
    rw [if_pos (by simpa using hl)]; rfl
  simp only [w_seq, lst_n0, own_nil, w_nx, List.set_cons_succ, List.set_cons_zero, nd_zero, nd_succ, Option.bind_some, hs]
  obtain ⟨I, hI⟩ : ∃ I : List T → Env' → Prop, I = fun ts ρ => ∃ (ds us fs : List Int) (p : Option T), ts = ds.map T.int ∧ (∀ k ∈ ds, k ∈ keysB b) ∧ us.length + ds.length ≤ b.length ∧ fs.length + ds.length ≤ b.length ∧ fs ++ cntD b n ds us = cntF b n ∧ ρ = [some (encB b), some (.int n), some (.lst (us.map T.int)), some (.lst (fs.map T.int)), p] := ⟨_, rfl⟩
  refine w_forS (ts := (sortI (keysB b)).reverse.map T.int) ?_ I ?_ ?_ ?_
  · show (if immE (.lst ((sortI (keysB b)).reverse.map T.int)) = true then seqOf (.lst ((sortI (keysB b)).reverse.map T.int)) else none) = _
    rw [if_pos (by show immL _ = true; exact immL_ints)]; rfl
  · rw [hI]
    refine ⟨(sortI (keysB b)).reverse, [], [], none, rfl, fun k hk => sortI_mem.mp (List.mem_reverse.mp hk), ?_, ?_, rfl, rfl⟩
    · simp [sortI_len, keysB]
    · simp [sortI_len, keysB]
  · intro t ts ρ hi
    rw [hI] at hi
    obtain ⟨ds, us, fs, p, hts, hk, hul, hfl, hc, rfl⟩ := hi
    cases ds with
    | nil => cases hts
    | cons d ds =>
      obtain ⟨rfl, rfl⟩ : t = .int d ∧ ts = ds.map T.int := by cases hts; exact ⟨rfl, rfl⟩
      refine ⟨_, rfl, ?_⟩
      have hd : d ∈ keysB b := hk d (by simp)
      obtain ⟨e, he⟩ : ∃ e, at? b d = some e := by
        cases h' : at? b d with
        | none => exact absurd hd (at_none.mp h')
        | some e => exact ⟨e, rfl⟩
      simp only [bdN, List.set_cons_succ, List.set_cons_zero, nd_zero, nd_succ, b2_some, gLe_int, asB_bl, in_ints, Bool.true_xor, and_s]
      unfold cntD at hc
      simp only [List.length_cons] at hul hfl
      refine w_if rfl (fun hx => ?_) (fun hx => ?_)
      · simp only [Bool.and_eq_true, decide_eq_true_eq, Bool.not_eq_true', decide_eq_false_iff_not] at hx
        rw [if_neg (by rintro (z | z); omega; exact hx.2 z)] at hc
        rw [w_seq]
        refine w_app (ts := fs.map T.int) (P := fun t => t = .int d) rfl (by simp [szl]; omega) ⟨_, rfl, rfl⟩ ?_
        rintro _ rfl
        refine ⟨by simp, ?_⟩
        simp only [List.set_cons_succ, List.set_cons_zero, nd_zero, nd_succ, b2_some, subs_book he, subs_word, eq_undo, asB_bl, Bool.false_xor]
        refine w_if rfl (fun hx => ?_) (fun hx => ?_)
        · cases e with
          | undo t =>
            have e1 : gSubs (encE (.undo t)) (.int 1) = some (.int t) := by unfold encE; rw [subs_tup (by decide) (by simp)]; rfl
            simp only [nd_zero, nd_succ, b2_some, subs_book he, e1]
            refine w_app (ts := us.map T.int) (P := fun x => x = .int t) rfl (by simp [szl]; omega) ⟨_, rfl, rfl⟩ ?_
            rintro _ rfl
            refine ⟨by simp, ?_⟩
            rw [hI]
            refine ⟨ds, us ++ [t], fs ++ [d], some (.int d), rfl, fun k hk' => hk k (by simp [hk']), by simp; omega, by simp; omega, ?_, by simp⟩
            rw [← hc, he, List.append_assoc]
            congr 1
            show d :: cntD b n ds (us ++ [t]) = _
            congr 1
            refine cntD_mem_congr fun k => ?_
            rw [undT_mem]
            simp only [List.mem_append, List.mem_singleton, Option.some.injEq, Ent.undo.injEq]
            constructor
            · rintro (q | rfl)
              · exact .inl q
              · exact .inr rfl
            · rintro (q | rfl)
              · exact .inl q
              · exact .inr rfl
          | _ => simp [isUndo] at hx
        · have hcu : undT us (at? b d) = us := by
            rw [he]
            cases e with
            | undo t => simp [isUndo] at hx
            | _ => rfl
          rw [hcu] at hc
          rw [w_nx, hI]
          exact ⟨ds, us, fs ++ [d], some (.int d), rfl, fun k hk' => hk k (by simp [hk']), by omega, by simp; omega, by rw [← hc]; simp, by simp⟩
      · have hx' : n < d ∨ d ∈ us := by
          by_cases h1 : d ≤ n
          · refine .inr (Classical.byContradiction fun q => ?_)
            simp [h1, q] at hx
          · exact .inl (by omega)
        rw [if_pos hx'] at hc
        rw [w_nx, hI]
        exact ⟨ds, us, fs, some (.int d), rfl, fun k hk' => hk k (by simp [hk']), by omega, by omega, hc, rfl⟩
  · intro ρ hi
    rw [hI] at hi
    obtain ⟨ds, us, fs, p, hts, hk, hul, hfl, hc, rfl⟩ := hi
    obtain rfl : ds = [] := by
      cases ds with
      | nil => rfl
      | cons => cases hts
    have : fs = cntF b n := by rw [← hc]; simp [cntD]
    subst this
    simp only [nd_zero, nd_succ, revD, rt_some, w_rt, cntU, List.map_reverse]
end Q
namespace Q
open PySem PySem.Spec L2 DL

/-! ### tables by names -/
abbrev Tb := List (Str × Option Int)
def encTb (t : Tb) : T := .dic (t.map fun p => ((.inr p.1 : Key), encW p.2))
def getB : Tb → Str → Option Int
  | [], _ => none
  | (s', w) :: r, s => if s' = s then w else getB r s
def putB : Tb → Str → Option Int → Tb
  | [], s, w => [(s, w)]
  | (s', w') :: r, s, w => if s' = s then (s, w) :: r else (s', w') :: putB r s w
theorem getB_put {t : Tb} {s x : Str} {w : Option Int} : getB (putB t s w) x = if s = x then w else getB t x := by
  induction t with
  | nil => simp [putB, getB]
  | cons p r ih =>
    obtain ⟨s', w'⟩ := p
    unfold putB
    by_cases h : s' = s
    · subst h
      simp only [if_true]
      unfold getB
      by_cases q : s' = x
      · simp [q]
      · simp [q]
    · simp only [if_neg h]
      unfold getB
      rw [ih]
      by_cases q : s' = x
      · subst q; simp [Ne.symm h]
      · simp [q]
theorem keysTb_put {t : Tb} {s : Str} {w : Option Int} : (putB t s w).map (·.1) = if s ∈ t.map (·.1) then t.map (·.1) else t.map (·.1) ++ [s] := by
  induction t with
  | nil => simp [putB]
  | cons p r ih =>
    obtain ⟨k', e'⟩ := p
    unfold putB
    by_cases h : k' = s
    · subst h; simp
    · simp only [if_neg h, List.map_cons, ih, List.mem_cons]
      by_cases q : s ∈ r.map (·.1)
      · simp [q, Ne.symm h]
      · simp [q, Ne.symm h]
theorem lookTb : ∀ (t : Tb) (s : Str), (lookT (t.map fun p => ((.inr p.1 : Key), encW p.2)) (.inr s)).getD .non = encW (getB t s)
  | [], _ => rfl
  | (s', w) :: r, s => by
    show (if (Sum.inr s' : Key) = .inr s then some (encW w) else lookT (r.map fun p => ((.inr p.1 : Key), encW p.2)) (.inr s)).getD .non = encW (if s' = s then w else getB r s)
    by_cases h : s' = s
    · subst h; simp
    · have : ¬ (Sum.inr s' : Key) = .inr s := fun e => h (by cases e; rfl)
      rw [if_neg this, if_neg h]
      exact lookTb r s
theorem get_Tb (t : Tb) (s : Str) : gGet (some (encTb t)) (some (.str s)) (some .non) = some (encW (getB t s)) := by
  show (keyOf (.str s)).map (fun ky => (lookT (t.map fun p => ((.inr p.1 : Key), encW p.2)) ky).getD .non) = _
  show some ((lookT (t.map fun p => ((.inr p.1 : Key), encW p.2)) (.inr s)).getD .non) = _
  rw [lookTb]
theorem putTb : ∀ (t : Tb) (s : Str) (w : Option Int), putT (t.map fun p => ((.inr p.1 : Key), encW p.2)) (.inr s) (encW w) = (putB t s w).map fun p => ((.inr p.1 : Key), encW p.2)
  | [], _, _ => rfl
  | (s', w') :: r, s, w => by
    show (if (Sum.inr s' : Key) = .inr s then (Sum.inr s, encW w) :: r.map _ else (Sum.inr s', encW w') :: putT (r.map _) (.inr s) (encW w)) = (if s' = s then (s, w) :: r else (s', w') :: putB r s w).map _
    by_cases h : s' = s
    · subst h; simp
    · have : ¬ (Sum.inr s' : Key) = .inr s := fun e => h (by cases e; rfl)
      rw [if_neg this, if_neg h, putTb r s w]; rfl
theorem store_Tb {i : Nat} {ρ : Env'} {t : Tb} {s : Str} {w : Option Int} {o : Option T} (ho : o = some (encW w)) (hn : nd i ρ = some (encTb t)) (ha : (t.map (·.1)).Nodup) (hl : t.length < 1000) : stD i o (some (.str s)) ρ = .nx (ρ.set i (some (encTb (putB t s w)))) := by
  subst ho
  unfold stD
  rw [hn]
  have h1 : (t.map fun p => ((.inr p.1 : Key), encW p.2)).length < sizeLine := by simp [szl]; omega
  have h2 : (List.map (fun p : Key × T => p.1) (t.map fun p => ((.inr p.1 : Key), encW p.2))).Nodup := by
    have e : (List.map (fun p : Key × T => p.1) (t.map fun p => ((.inr p.1 : Key), encW p.2))) = (t.map (·.1)).map Sum.inr := by simp [List.map_map, Function.comp_def]
    rw [e]
    exact List.Pairwise.map _ (fun x y hxy e => hxy (by cases e; rfl)) ha
  show (if imm (encW w) = true ∧ (List.map (fun p : Key × T => p.1) (t.map fun p => ((.inr p.1 : Key), encW p.2))).Nodup ∧ (t.map fun p => ((.inr p.1 : Key), encW p.2)).length < sizeLine then Out.nx (ρ.set i (some (.dic (putT (t.map fun p => ((.inr p.1 : Key), encW p.2)) (.inr s) (encW w))))) else .er) = _
  rw [if_pos ⟨imm_encW w, h2, h1⟩, putTb]
  rfl
/-- one entry more, by rising numbers -/
def stepB (d : Int) (t : Tb) (e : Ent) : Tb := if (!isUndo e && (decide (loE e ≤ d) && decide (d ≤ hiE e))) = true then (match e with
  | .tell x _ _ w => putB t x (some w)
  | .clear x _ _ => putB t x none
  | .like x _ _ y => putB t x (getB t y)
  | .undo _ => t) else t
theorem stepB_keys {d : Int} {t : Tb} {e : Ent} (h : (t.map (·.1)).Nodup) : ((stepB d t e).map (·.1)).Nodup := by
  have hp : ∀ s w, ((putB t s w).map (·.1)).Nodup := fun s w => by
    rw [keysTb_put]
    split
    · exact h
    · rename_i q
      rw [List.nodup_append]
      exact ⟨h, by simp, fun a ha b hb e => q (by simp at hb; subst hb; subst e; exact ha)⟩
  unfold stepB
  split
  · cases e <;> first | exact hp _ _ | exact h
  · exact h
theorem putB_len {t : Tb} {s : Str} {w : Option Int} : (putB t s w).length ≤ t.length + 1 := by
  have := congrArg List.length (keysTb_put (t := t) (s := s) (w := w))
  rw [List.length_map] at this
  rw [this]
  split <;> simp
theorem stepB_len {d : Int} {t : Tb} {e : Ent} : (stepB d t e).length ≤ t.length + 1 := by
  unfold stepB
  split
  · cases e <;> first | exact putB_len | exact Nat.le_succ _
  · exact Nat.le_succ _
/-- going through from the first on is looking from the last on -/
theorem stepB_get {d : Int} {t : Tb} {e : Ent} {es : List Ent} (hu : isUndo e = false) (h : ∀ s, getB t s = wby es s d) (s : Str) : getB (stepB d t e) s = wby (e :: es) s d := by
  have hs := h s
  cases e with
  | undo => cases hu
  | tell x lo hi w =>
    show getB (if (decide (lo ≤ d) && decide (d ≤ hi)) = true then putB t x (some w) else t) s = if (decide (x = s) && (decide (lo ≤ d) && decide (d ≤ hi))) = true then some w else wby es s d
    cases decide (lo ≤ d) && decide (d ≤ hi)
    · simpa using hs
    · by_cases hx : x = s
      · simp [getB_put, hx]
      · simp [getB_put, hx, hs]
  | clear x lo hi =>
    show getB (if (decide (lo ≤ d) && decide (d ≤ hi)) = true then putB t x none else t) s = if (decide (x = s) && (decide (lo ≤ d) && decide (d ≤ hi))) = true then none else wby es s d
    cases decide (lo ≤ d) && decide (d ≤ hi)
    · simpa using hs
    · by_cases hx : x = s
      · simp [getB_put, hx]
      · simp [getB_put, hx, hs]
  | like x lo hi y =>
    show getB (if (decide (lo ≤ d) && decide (d ≤ hi)) = true then putB t x (getB t y) else t) s = if (decide (x = s) && (decide (lo ≤ d) && decide (d ≤ hi))) = true then wby es y d else wby es s d
    cases decide (lo ≤ d) && decide (d ≤ hi)
    · simpa using hs
    · by_cases hx : x = s
      · simp [getB_put, hx, h y]
      · simp [getB_put, hx, hs]
theorem stepB_undo {d : Int} {t : Tb} {e : Ent} (hu : isUndo e = true) : stepB d t e = t := by
  unfold stepB
  rw [hu]; rfl
theorem fold_get {d : Int} : ∀ (es : List Ent) (t : Tb) (acc : List Ent), (∀ s, getB t s = wby acc s d) → ∀ s, getB (es.foldl (stepB d) t) s = wby ((es.filter fun e => !isUndo e).reverse ++ acc) s d
  | [], _, _, h, s => by simpa using h s
  | e :: es, t, acc, h, s => by
    rw [List.foldl_cons]
    by_cases hu : isUndo e = true
    · rw [stepB_undo hu, List.filter_cons_of_neg (by simp [hu])]
      exact fold_get es t acc h s
    · have hu' : isUndo e = false := by simpa using hu
      rw [List.filter_cons_of_pos (by simp [hu']), fold_get es (stepB d t e) (e :: acc) (stepB_get hu' h) s]
      simp
def saidB (b : Bk) (n d : Int) : Tb := (entB b (cntU b n)).foldl (stepB d) []
theorem said_get (b : Bk) (n d : Int) (s : Str) : getB (saidB b n d) s = wby (stB b n) s d := by
  unfold saidB
  rw [fold_get _ [] [] (fun _ => rfl) s, List.append_nil]
  unfold stB cntU entB
  rw [← List.filter_reverse, List.filterMap_reverse, List.reverse_reverse]
theorem immE_Tb (t : Tb) : immE (encTb t) = true := by
  show immK _ = true
  refine immK_all fun p hp => ?_
  obtain ⟨q, _, rfl⟩ := List.mem_map.mp hp
  exact imm_encW _
theorem said_eq {b : Bk} (h : Apart b) (hl : b.length < 64) (n d : Int) : f__law_said [encB b, .int n, .int d] = some (encTb (saidB b n d)) := by
  refine w_eq ?_
  show W _ _ _ _ (D__law_said [some (encB b), some (.int n), some (.int d), none, none, none])
  unfold D__law_said
  simp only [w_seq, own_dnil, w_nx, List.set_cons_succ, List.set_cons_zero, nd_zero, nd_succ, cons_some, Option.bind_some, lcounting_eq h hl n]
  have hlU : (cntU b n).length ≤ b.length := by unfold cntU; rw [List.length_reverse]; exact cntF_len b n
  obtain ⟨I, hI⟩ : ∃ I : List T → Env' → Prop, I = fun ts ρ => ∃ (ks : List Int) (t : Tb) (p q : Option T), ts = ks.map T.int ∧ (∀ k ∈ ks, k ∈ keysB b) ∧ (t.map (·.1)).Nodup ∧ t.length + ks.length ≤ b.length ∧ (entB b ks).foldl (stepB d) t = saidB b n d ∧ ρ = [some (encB b), some (.int n), some (.int d), some (encTb t), p, q] := ⟨_, rfl⟩
  refine w_forS (ts := (cntU b n).map T.int) ?_ I ?_ ?_ ?_
  · show (if immE (.lst ((cntU b n).map T.int)) = true then seqOf (.lst ((cntU b n).map T.int)) else none) = _
    rw [if_pos (by show immL _ = true; exact immL_ints)]; rfl
  · rw [hI]
    exact ⟨cntU b n, [], none, none, rfl, fun k hk => cntF_keys (cntU_mem.mp hk), .nil, by simpa using hlU, rfl, rfl⟩
  · intro t ts ρ hi
    rw [hI] at hi
    obtain ⟨ks, tb, p, q, hts, hk, hnd, htl, hf, rfl⟩ := hi
    cases ks with
    | nil => cases hts
    | cons k ks =>
      obtain ⟨rfl, rfl⟩ : t = .int k ∧ ts = ks.map T.int := by cases hts; exact ⟨rfl, rfl⟩
      refine ⟨_, rfl, ?_⟩
      obtain ⟨e, he⟩ : ∃ e, at? b k = some e := by
        cases h' : at? b k with
        | none => exact absurd (hk k (by simp)) (at_none.mp h')
        | some e => exact ⟨e, rfl⟩
      have hset : ∀ ρ : Env', setD false 5 (some (encE e)) ρ = .nx (ρ.set 5 (some (encE e))) := fun ρ => by simp only [setD, imm_encE, Bool.or_true, if_true]
      have hent : entB b (k :: ks) = e :: entB b ks := by unfold entB; rw [List.filterMap_cons_some he]
      rw [hent, List.foldl_cons] at hf
      simp only [List.length_cons] at htl
      have fin : ∀ q', stepB d tb e = q' → W (I (ks.map T.int)) (fun _ => False) (I (ks.map T.int)) (fun _ => False) (.nx [some (encB b), some (.int n), some (.int d), some (encTb q'), some (.int k), some (encE e)]) := by
        rintro q' rfl
        rw [w_nx, hI]
        exact ⟨ks, stepB d tb e, _, _, rfl, fun j hj => hk j (by simp [hj]), stepB_keys hnd, by have := stepB_len (d := d) (t := tb) (e := e); omega, hf, rfl⟩
      simp only [w_seq, bdN, List.set_cons_succ, List.set_cons_zero, nd_zero, nd_succ, b2_some, subs_book he, hset, w_nx, subs_word, eq_undo, asB_bl]
      cases hu : isUndo e with
      | true =>
        simp only [Bool.true_xor, Bool.not_true, and_f]
        refine w_if rfl (fun hz => absurd hz (by simp)) (fun _ => ?_)
        exact fin _ (stepB_undo hu)
      | false =>
        simp only [Bool.true_xor, Bool.not_false, and_t, subs_lo hu, subs_hi hu, ch_s2, asB_bl]
        refine w_if rfl (fun hz => ?_) (fun hz => ?_)
        · have hstore := fun (o : Option T) (w : Option Int) (ho : o = some (encW w)) => store_Tb (i := 3) (ρ := [some (encB b), some (.int n), some (.int d), some (encTb tb), some (.int k), some (encE e)]) (s := nameE e) ho rfl hnd (by omega)
          have hon : (!isUndo e && (decide (loE e ≤ d) && decide (d ≤ hiE e))) = true := by rw [hu, hz]; rfl
          simp only [nd_zero, nd_succ, b2_some, subs_word, eq_tell, asB_bl, Bool.false_xor]
          cases e with
          | undo => cases hu
          | tell x lo hi w =>
            refine w_if rfl (fun _ => ?_) (fun hz => absurd hz (by simp [isTell]))
            have e4 : gSubs (encE (.tell x lo hi w)) (.int 4) = some (.int w) := by unfold encE; rw [subs_tup (by decide) (by simp)]; rfl
            simp only [nd_zero, nd_succ, b2_some, e4, subs_name hu]
            rw [hstore (some (.int w)) (some w) rfl]
            exact fin _ (by unfold stepB; rw [if_pos hon]; rfl)
          | clear x lo hi =>
            refine w_if rfl (fun hz => absurd hz (by simp [isTell])) (fun _ => ?_)
            simp only [nd_zero, nd_succ, b2_some, subs_word, eq_clear, asB_bl, Bool.false_xor]
            refine w_if rfl (fun _ => ?_) (fun hz => absurd hz (by simp [isClear]))
            simp only [nd_zero, nd_succ, b2_some, subs_name hu]
            rw [hstore (some .non) none rfl]
            exact fin _ (by unfold stepB; rw [if_pos hon]; rfl)
          | like x lo hi y =>
            refine w_if rfl (fun hz => absurd hz (by simp [isTell])) (fun _ => ?_)
            simp only [nd_zero, nd_succ, b2_some, subs_word, eq_clear, asB_bl, Bool.false_xor]
            refine w_if rfl (fun hz => absurd hz (by simp [isClear])) (fun _ => ?_)
            have e4 : gSubs (encE (.like x lo hi y)) (.int 4) = some (.str y) := by unfold encE; rw [subs_tup (by decide) (by simp)]; rfl
            simp only [nd_zero, nd_succ, b2_some, e4, subs_name hu, get_Tb]
            rw [hstore _ (getB tb y) rfl]
            exact fin _ (by unfold stepB; rw [if_pos hon]; rfl)
        · refine fin _ ?_
          unfold stepB
          rw [hu, hz]; rfl
  · intro ρ hi
    rw [hI] at hi
    obtain ⟨ks, tb, p, q, hts, hk, hnd, htl, hf, rfl⟩ := hi
    obtain rfl : ks = [] := by
      cases ks with
      | nil => rfl
      | cons => cases hts
    simp only [nd_zero, nd_succ, rt_some, w_rt]
    rw [← hf]; rfl
end Q
namespace Q
open PySem PySem.Spec L2 DL

theorem okE_d {e : Ent} (h : okE e) : okN 1 (encE e) = true := by
  have hw := word_ok e
  cases e with
  | tell x lo hi w =>
    exact okN_tup fun t ht => by
      simp only [List.mem_cons, List.not_mem_nil, or_false] at ht
      rcases ht with rfl | rfl | rfl | rfl | rfl
      · rw [okN_str]; exact hw
      · rw [okN_str]; exact h.1.ok
      all_goals simp
  | clear x lo hi =>
    exact okN_tup fun t ht => by
      simp only [List.mem_cons, List.not_mem_nil, or_false] at ht
      rcases ht with rfl | rfl | rfl | rfl
      · rw [okN_str]; exact hw
      · rw [okN_str]; exact h.1.ok
      all_goals simp
  | like x lo hi y =>
    exact okN_tup fun t ht => by
      simp only [List.mem_cons, List.not_mem_nil, or_false] at ht
      rcases ht with rfl | rfl | rfl | rfl | rfl
      · rw [okN_str]; exact hw
      · rw [okN_str]; exact h.1.ok
      · simp
      · simp
      · rw [okN_str]; exact h.2.2.2.2.ok
  | undo k =>
    exact okN_tup fun t ht => by
      simp only [List.mem_cons, List.not_mem_nil, or_false] at ht
      rcases ht with rfl | rfl
      · rw [okN_str]; exact hw
      · simp
theorem maxL_ge {d : Int} {ns : List Int} (hd : 0 ≤ d) (h : ∀ n ∈ ns, 0 ≤ n) : 0 ≤ maxL d ns := by
  cases ns with
  | nil => exact hd
  | cons n ns =>
    show 0 ≤ ns.foldl (fun a y => if a < y then y else a) n
    have h0 := h n (by simp)
    have : ∀ (l : List Int) (a : Int), 0 ≤ a → 0 ≤ l.foldl (fun a y => if a < y then y else a) a := by
      intro l
      induction l with
      | nil => exact fun a h => h
      | cons y l ih =>
        intro a ha
        rw [List.foldl_cons]
        apply ih
        split <;> omega
    exact this ns n h0
theorem hits_self : ∀ {l m : List (Key × T)}, (∀ p ∈ m, lookT l p.1 = some p.2) → hitsD l m = true
  | _, [], _ => rfl
  | l, (k, t) :: r, h => by
    unfold hitsD
    have := h (k, t) (by simp)
    simp only at this
    rw [this]
    simp only [eqT_refl, Bool.true_and]
    exact hits_self fun p hp => h p (List.mem_cons_of_mem _ hp)
theorem eq_book {b : Bk} (h : Apart b) (ho : ∀ p ∈ b, okE p.2) (neg : Bool) : gEqA neg (encB b) (encB b) = some (.bl (xor neg true)) := by
  have hd : dOkK (encK b) = true := by
    unfold dOkK
    rw [List.all_eq_true]
    intro p hp
    obtain ⟨q, hq, rfl⟩ := List.mem_map.mp hp
    exact dOk_of (okE_d (ho q hq))
  show (if (dOkK (encK b) && dOkK (encK b)) = true then some (T.bl (xor neg (eqDic (encK b) (encK b)))) else none) = _
  rw [hd]
  have : eqDic (encK b) (encK b) = true := by
    unfold eqDic
    rw [hits_self fun p hp => ?_]
    · simp
    · obtain ⟨q, hq, rfl⟩ := List.mem_map.mp hp
      show lookT (encK b) (.inl q.1) = some (encE q.2)
      rw [lookT_enc, at_of_mem h (e := q.2) hq]; rfl
  rw [this]; rfl
theorem eq_ints (neg : Bool) (xs ys : List Int) : gEqA neg (.lst (xs.map T.int)) (.lst (ys.map T.int)) = some (.bl (xor neg (decide (xs = ys)))) := by
  rw [gEqA_data dOk_ints dOk_ints, eqT_lst, eqTs_ints]
theorem blsOf_true : ∀ n : Nat, blsOf (List.replicate n (T.bl true)) = some (List.replicate n true)
  | 0 => rfl
  | n + 1 => by
    rw [List.replicate_succ, List.replicate_succ]
    show (blsOf (List.replicate n (T.bl true))).map (true :: ·) = _
    rw [blsOf_true n]; rfl
end Q
/-! DL21: types compared by !=. -/
namespace TN
open PySem PyProof.Rows
theorem slot_ne : Slot "type" (cmpInfo .NotEq).2.1 "object.__ne__" :=
  .of (owner := "object") (n := "__ne__") (by rw [typeLookup_type, builtinLookup_eq_fast]; kernel_rfl) (by decide +kernel) (by decide +kernel) (by decide +kernel)
    (by first | exact .inl (by decide +kernel) | exact .inr (by decide +kernel)) (by rw [isSubtype_type]; kernel_rfl)
theorem slot_ne_refl : Slot "type" (cmpInfo .NotEq).2.2 "object.__ne__" :=
  .of (owner := "object") (n := "__ne__") (by rw [typeLookup_type, builtinLookup_eq_fast]; kernel_rfl) (by decide +kernel) (by decide +kernel) (by decide +kernel)
    (by first | exact .inl (by decide +kernel) | exact .inr (by decide +kernel)) (by rw [isSubtype_type]; kernel_rfl)
theorem slot_eq : Slot "type" "__eq__" "object.__eq__" := PySem.TypeEq.slot_type_eq
def negV : Value → Value
  | .bool b => .bool (!b)
  | _ => .notImplemented
section
variable {prog : Program} {w : World} {A : Around} {E : Value → Shared → Prop} {s : Shared}
theorem ne_entry {X Y : String} {v : Value} (hX : ∀ s' : Shared, s'.TypeIs (.type X) "type") {Q : Fin → Shared → Prop}
    (hc : ∀ {A : Around} {Q : Value → Shared → Prop}, Q v s → wpAny (model prog w) A (call (.builtin "object.__eq__") [.type X, .type Y]) Q E s)
    (h : Q (.done (.ret (negV v))) s) (hv : (∃ b, v = .bool b) ∨ v = .notImplemented) :
    wpAny (model prog w) A (Builtin.«object.__ne__» ⟨[.type X, .type Y], []⟩) Q E s := by
  show wpAny _ _ (cRoomFor "comparison" [.type X, .type Y] >>= fun _ => callSpecialIfBound? (.type X) "__eq__" [.type Y] >>= _) _ _ _
  refine wpAny_bind (wpAny_cRoomFor_or (.inl rfl) ?_)
  refine wpAny_bind (wpAny_callSpecialIfBound?_slot (hX s) slot_eq (hc ?_))
  rcases hv with ⟨b, rfl⟩ | rfl
  · show wpAny _ _ (truthy (.bool b) >>= _) _ _ _
    refine wpAny_bind (wpAny_truthy_bool ?_)
    exact wpAny_pure h
  · exact wpAny_pure h
theorem call_ne {X Y : String} {v : Value} (hX : ∀ s' : Shared, s'.TypeIs (.type X) "type") {Q : Value → Shared → Prop}
    (hc : ∀ {A : Around} {E : Value → Shared → Prop} {Q : Value → Shared → Prop}, Q v s → wpAny (model prog w) A (call (.builtin "object.__eq__") [.type X, .type Y]) Q E s)
    (hv : (∃ b, v = .bool b) ∨ v = .notImplemented) (h : Q (negV v) s) : wpAny (model prog w) A (call (.builtin "object.__ne__") [.type X, .type Y]) Q E s := by
  refine wpAny_call_entry slot_ne (hX s) PySem.F.cmpEntry_ne ?_ (PySem.F.cmpArgs_ne _ _)
  exact ne_entry hX (fun q => hc q) ⟨_, rfl, h⟩ hv
theorem decline {a b : Value} {T id : String} {k : Bool} {Q : Value → Shared → Prop} (ha : ∀ s' : Shared, s'.TypeIs a T) (hb : ∀ s' : Shared, s'.TypeIs b T)
    (h1 : Slot T (cmpInfo .NotEq).2.1 id) (h2 : Slot T (cmpInfo .NotEq).2.2 id) (hv : [a, b].any Value.onHeap = false) (hk : isSame a b = pure k)
    (hc : wpAny (model prog w) A (call (.builtin id) [a, b]) (fun v s₁ => v = .notImplemented ∧ wpAny (model prog w) A (call (.builtin id) [b, a]) (fun v s₂ => v = .notImplemented ∧ Q (.bool (!k)) s₂) E s₁) E s) :
    wpAny (model prog w) A (richCompare .NotEq a b) Q E s := by
  rcases hi : cmpInfo CmpOp.NotEq with ⟨sym, f, r⟩
  rw [hi] at h1 h2
  simp only [richCompare, hi, (ha s).oneThing_none]
  try with_reducible refine wpAny_holding ?_
  refine wpAny_bind (wpAny_cRoomFor_or (.inl hv) ?_)
  refine wpAny_bind (wpAny_typeOf (ha s) (wpAny_bind (wpAny_typeOf (hb s) ?_)))
  simp only [bne_self_eq_false, Bool.false_eq_true, if_false, pure_bind, Bool.not_false, if_true]
  refine wpAny_bind (m := tryCompare a _ b) (wpAny_tryCompare_declines (ha s) h1 (wpAny_mono hc (fun v s₁ h₁ => ⟨h₁.1, ?_⟩) fun _ _ x => x))
  refine wpAny_bind (m := tryCompare b _ a) (wpAny_tryCompare_declines (hb s₁) h2 (wpAny_mono h₁.2 (fun v s₂ h₂ => ⟨h₂.1, ?_⟩) fun _ _ x => x))
  exact wpAny_bind (wpAny_rule (wpAny_bind (wpAny_of_eq hk (wpAny_pure h₂.2))))
theorem eq_call {X Y : String} (hX : ∀ s' : Shared, s'.TypeIs (.type X) "type") {A : Around} {E : Value → Shared → Prop} {Q : Value → Shared → Prop} (h : Q (if X = Y then .bool true else .notImplemented) s) :
    wpAny (model prog w) A (call (.builtin "object.__eq__") [.type X, .type Y]) Q E s := by
  by_cases e : X = Y
  · subst e
    rw [if_pos rfl] at h
    exact call_gives PySem.TypeEq.slot_type_eq (hX s) PySem.F.entry_object_eq (PySem.F.args_object_eq_2 _ _) (PySem.TypeEq.object_eq_same rfl (by simp)) h
  · rw [if_neg e] at h
    exact call_gives PySem.TypeEq.slot_type_eq (hX s) PySem.F.entry_object_eq (PySem.F.args_object_eq_2 _ _) (PySem.TypeEq.object_eq_other rfl (by simpa using e)) h
theorem ne_same {X : String} (hX : ∀ s' : Shared, s'.TypeIs (.type X) "type") {Q : Value → Shared → Prop} (h : Q (.bool false) s) : wpAny (model prog w) A (compareOp .NotEq (.type X) (.type X)) Q E s := by
  show wpAny _ A (richCompare .NotEq _ _) Q E s
  refine wpAny_richCompare_same (T := "type") (hX s) (hX s) slot_ne (call_ne (v := .bool true) hX (fun q => eq_call hX (by rw [if_pos rfl]; exact q)) (.inl ⟨_, rfl⟩) ⟨(by intro e; cases e), h⟩)
theorem ne_other {X Y : String} (hX : ∀ s' : Shared, s'.TypeIs (.type X) "type") (hY : ∀ s' : Shared, s'.TypeIs (.type Y) "type") (hne : X ≠ Y) {Q : Value → Shared → Prop} (h : Q (.bool true) s) : wpAny (model prog w) A (compareOp .NotEq (.type X) (.type Y)) Q E s := by
  show wpAny _ A (richCompare .NotEq _ _) Q E s
  have hs : isSame (.type X) (.type Y) = pure false := by
    have : (Value.type X == Value.type Y) = false := by simpa using hne
    rw [PySem.isSame_plain rfl, this]
  refine decline (T := "type") (k := false) hX hY slot_ne slot_ne_refl rfl hs ?_
  refine call_ne (v := .notImplemented) hX (fun q => eq_call hX (by rw [if_neg hne]; exact q)) (.inr rfl) ⟨rfl, ?_⟩
  exact call_ne (v := .notImplemented) hY (fun q => eq_call hY (by rw [if_neg (Ne.symm hne)]; exact q)) (.inr rfl) ⟨rfl, h⟩
end
end TN
namespace DL
open PySem PySem.Spec PyProof.Rows L2
variable {ι : Type} {G : ι → Cx} {K : PySem.W.Frag}
theorem op_neT {X : Cx} : OpR X (compareOp .NotEq) (fun x y H Q => ∃ a b, x = .ty a ∧ y = .ty b ∧ a ∈ tys ∧ b ∈ tys ∧ Q (.bl (!decide (a = b))) H) := by
  intro pins s σ H x y v u Q I rx ry h
  obtain ⟨a, b, rfl, rfl, ha, hb, q⟩ := h
  cases (show v = Value.type a from rx)
  cases (show u = Value.type b from ry)
  by_cases e : a = b
  · subst e
    exact TN.ne_same (meta_of ha) ⟨.bl false, H, I, rfl, by simpa using q⟩
  · exact TN.ne_other (meta_of ha) (meta_of hb) e ⟨.bl true, H, I, rfl, by simpa [e] using q⟩
def gNeTy (x y : T) : Option T := match x, y with
  | .raw (.ty a), .raw (.ty b) => if a ∈ tys ∧ b ∈ tys then some (.bl (!decide (a = b))) else none
  | _, _ => none
theorem s_neTy : OpS G K (compareOp .NotEq) gNeTy := by
  intro H x y v u τ Q e rx ry hq
  unfold gNeTy at e
  split at e
  · split at e
    · rename_i c
      cases e
      exact ⟨_, fun i => op_neT, _, _, rep_raw.mp rx, rep_raw.mp ry, c.1, c.2, hq _ H (Same.refl H) (rep_bl.mpr rfl)⟩
    · cases e
  · cases e
end DL
/-! DL22: membership of data of any depth; a written dict of defs; a local name that holds one of several defs, called. -/
namespace DL
open PySem PySem.Spec PyProof.Rows L2
variable {ι : Type} {G : ι → Cx} {K : PySem.W.Frag} {mg : Str → Option Value} {base : Heap} {P : Program} {w : World} {N : List Str} {sc : Scope} {k : Nat}
variable {fr : Bool} {ow ow' owl : List Nat}

/-! ### x in xs, data of any depth -/
theorem op_inTD {X : Cx} (hu : X.A.units + 65 < cLine) : OpR X (compareOp .In) (fun x y H Q => ∃ d ds, Dp X.K H x d ∧ Dp X.K H y (.tuple ds) ∧ SeqAt.shaped d = true ∧ SeqAt.shaped (.tuple ds) = true ∧ Q (.bl (ds.any fun z => PyData.eqv z d)) H) := by
  intro pins s σ H x y v u Q I rx ry h
  obtain ⟨d, ds, hd, he, sd, se, q⟩ := h
  obtain ⟨as, r1⟩ := Dp.reads I d x v hd rx
  obtain ⟨bs, r2⟩ := Dp.reads I (.tuple ds) y u he ry
  exact SeqAt.in_tuple_reads r2 r1 (SeqAt.canLay_of_shaped se) (SeqAt.canLay_of_shaped sd) (room_in_shaped sd hu) ⟨.bl _, H, I, rfl, q⟩
theorem op_notInTD {X : Cx} (hu : X.A.units + 65 < cLine) : OpR X (compareOp .NotIn) (fun x y H Q => ∃ d ds, Dp X.K H x d ∧ Dp X.K H y (.tuple ds) ∧ SeqAt.shaped d = true ∧ SeqAt.shaped (.tuple ds) = true ∧ Q (.bl (!ds.any fun z => PyData.eqv z d)) H) := by
  intro pins s σ H x y v u Q I rx ry h
  obtain ⟨d, ds, hd, he, sd, se, q⟩ := h
  obtain ⟨as, r1⟩ := Dp.reads I d x v hd rx
  obtain ⟨bs, r2⟩ := Dp.reads I (.tuple ds) y u he ry
  exact SeqAt.notIn_tuple_reads r2 r1 (SeqAt.canLay_of_shaped se) (SeqAt.canLay_of_shaped sd) (room_in_shaped sd hu) ⟨.bl _, H, I, rfl, q⟩
def gInC (neg : Bool) (x y : T) : Option T := match gInA neg x y with
  | some τ => some τ
  | none => match y with
    | .tup ts => if (dOk x && dOk (.tup ts)) = true then some (.bl (xor neg (ts.any fun z => eqT z x))) else none
    | .lst ts => if (dOk x && dOk (.lst ts)) = true then some (.bl (xor neg (ts.any fun z => eqT z x))) else none
    | _ => none
theorem any_toDs (x : T) : ∀ ts : List T, ((toDs ts).any fun z => PyData.eqv z (toD x)) = ts.any fun z => eqT z x
  | [] => by simp [toDs]
  | t :: ts => by simp only [toDs, List.any_cons, any_toDs x ts]; rfl
theorem s_inC (hG : Fm G K mg base P w N sc k) : OpS G K (compareOp .In) (gInC false) := by
  intro H x y v u τ Q e rx ry hq
  unfold gInC at e
  split at e
  · rename_i τ' e1
    cases e
    exact s_inA hG H x y v u _ Q e1 rx ry hq
  · split at e
    · split at e
      · rename_i ts _ c
        cases e
        simp only [dOk, Bool.and_eq_true] at c
        refine ⟨fun x y H Q => ∃ d ds, Dp K H x d ∧ Dp K H y (.tuple ds) ∧ SeqAt.shaped d = true ∧ SeqAt.shaped (.tuple ds) = true ∧ Q (.bl (ds.any fun z => PyData.eqv z d)) H, fun i => by rw [← hG.K i]; exact op_inTD (room65 (hG.room i)), toD x, toDs ts, rep_dp x v c.1.1 rx, ?_, c.1.2, ?_, ?_⟩
        · have := rep_dp _ u c.2.1 ry; simpa [toD] using this
        · have := c.2.2; simpa [toD] using this
        · rw [any_toDs]; exact hq _ H (Same.refl H) (rep_bl.mpr (by simp))
      · cases e
    · split at e
      · rename_i ts _ c
        cases e
        simp only [dOk, Bool.and_eq_true] at c
        refine ⟨rInD K, fun i => by rw [← hG.K i]; exact op_inD (room65 (hG.room i)), toD x, toDs ts, rep_dp x v c.1.1 rx, ?_, c.1.2, ?_, ?_⟩
        · have := rep_dp _ u c.2.1 ry; simpa [toD] using this
        · have := c.2.2; simpa [toD] using this
        · rw [any_toDs]; exact hq _ H (Same.refl H) (rep_bl.mpr (by simp))
      · cases e
    · cases e
theorem s_notinC (hG : Fm G K mg base P w N sc k) : OpS G K (compareOp .NotIn) (gInC true) := by
  intro H x y v u τ Q e rx ry hq
  unfold gInC at e
  split at e
  · rename_i τ' e1
    cases e
    exact s_notinA hG H x y v u _ Q e1 rx ry hq
  · split at e
    · split at e
      · rename_i ts _ c
        cases e
        simp only [dOk, Bool.and_eq_true] at c
        refine ⟨fun x y H Q => ∃ d ds, Dp K H x d ∧ Dp K H y (.tuple ds) ∧ SeqAt.shaped d = true ∧ SeqAt.shaped (.tuple ds) = true ∧ Q (.bl (!ds.any fun z => PyData.eqv z d)) H, fun i => by rw [← hG.K i]; exact op_notInTD (room65 (hG.room i)), toD x, toDs ts, rep_dp x v c.1.1 rx, ?_, c.1.2, ?_, ?_⟩
        · have := rep_dp _ u c.2.1 ry; simpa [toD] using this
        · have := c.2.2; simpa [toD] using this
        · rw [any_toDs]; exact hq _ H (Same.refl H) (rep_bl.mpr (by simp))
      · cases e
    · split at e
      · rename_i ts _ c
        cases e
        simp only [dOk, Bool.and_eq_true] at c
        refine ⟨rNotInD K, fun i => by rw [← hG.K i]; exact op_notInD (room65 (hG.room i)), toD x, toDs ts, rep_dp x v c.1.1 rx, ?_, c.1.2, ?_, ?_⟩
        · have := rep_dp _ u c.2.1 ry; simpa [toD] using this
        · have := c.2.2; simpa [toD] using this
        · rw [any_toDs]; exact hq _ H (Same.refl H) (rep_bl.mpr (by simp))
      · cases e
    · cases e

/-! ### == of types too -/
def gEqB (neg : Bool) (x y : T) : Option T := match x, y with
  | .raw _, .raw _ => if neg = true then gNeTy x y else gEqTy x y
  | _, _ => none
theorem op_isTy {X : Cx} : OpR X (compareOp .Is) (fun x y H Q => ∃ a b, x = .ty a ∧ y = .ty b ∧ Q (.bl (decide (a = b))) H) := by
  intro pins s σ H x y v u Q I rx ry h
  obtain ⟨a, b, rfl, rfl, q⟩ := h
  cases (show v = Value.type a from rx)
  cases (show u = Value.type b from ry)
  by_cases e : a = b
  · subst e
    exact wpAny_is_self rfl ⟨.bl true, H, I, rfl, by simpa using q⟩
  · exact wpAny_is_other rfl (fun z => e (Value.type.inj z)) ⟨.bl false, H, I, rfl, by simpa [e] using q⟩
theorem op_isntTy {X : Cx} : OpR X (compareOp .IsNot) (fun x y H Q => ∃ a b, x = .ty a ∧ y = .ty b ∧ Q (.bl (!decide (a = b))) H) := by
  intro pins s σ H x y v u Q I rx ry h
  obtain ⟨a, b, rfl, rfl, q⟩ := h
  cases (show v = Value.type a from rx)
  cases (show u = Value.type b from ry)
  by_cases e : a = b
  · subst e
    exact wpAny_isNot_self rfl ⟨.bl false, H, I, rfl, by simpa using q⟩
  · exact wpAny_isNot_other rfl (fun z => e (Value.type.inj z)) ⟨.bl true, H, I, rfl, by simpa [e] using q⟩
theorem s_isTy : OpS G K (compareOp .Is) gEqTy := by
  intro H x y v u τ Q e rx ry hq
  unfold gEqTy at e
  split at e
  · split at e
    · cases e
      exact ⟨_, fun i => op_isTy, _, _, rep_raw.mp rx, rep_raw.mp ry, hq _ H (Same.refl H) (rep_bl.mpr rfl)⟩
    · cases e
  · cases e
theorem s_isntTy : OpS G K (compareOp .IsNot) gNeTy := by
  intro H x y v u τ Q e rx ry hq
  unfold gNeTy at e
  split at e
  · split at e
    · cases e
      exact ⟨_, fun i => op_isntTy, _, _, rep_raw.mp rx, rep_raw.mp ry, hq _ H (Same.refl H) (rep_bl.mpr rfl)⟩
    · cases e
  · cases e
theorem s_eqB (hG : Fm G K mg base P w N sc k) : OpS G K (compareOp .Is) (gEqB false) := by
  intro H x y v u τ Q e rx ry hq
  unfold gEqB at e
  split at e
  · simp only [Bool.false_eq_true, if_false] at e
    exact s_isTy H _ _ v u τ Q e rx ry hq
  · cases e
theorem s_neB (hG : Fm G K mg base P w N sc k) : OpS G K (compareOp .IsNot) (gEqB true) := by
  intro H x y v u τ Q e rx ry hq
  unfold gEqB at e
  split at e
  · simp only [if_true] at e
    exact s_isntTy H _ _ v u τ Q e rx ry hq
  · cases e

/-! ### a written dict of defs -/
structure KTab (K : PySem.W.Frag) (w : World) (d : Addr) (tab : List (Str × Addr)) : Prop where
  ex : ∃ es n, KDict K w d es n
  at_ : ∀ z, PySem.W.nsIn K d z = some ((tab.lookup z).map Value.ref)
def gNotInK (dF : Addr) (tab : List (Str × Addr)) (x y : T) : Option T := match x, y with
  | .str z, .raw (.ref d) => if d = dF then some (.bl (!(tab.lookup z).isSome)) else none
  | _, _ => none
theorem s_notInK {dF : Addr} {tab : List (Str × Addr)} (hG : Fm G K mg base P w N sc k) (hT : KTab K w dF tab) : OpS G K (compareOp .NotIn) (gNotInK dF tab) := by
  intro H x y v u τ Q e rx ry hq
  unfold gNotInK at e
  split at e
  · rename_i z d
    split at e
    · rename_i hd
      subst hd
      cases e
      obtain ⟨es, n, D⟩ := hT.ex
      refine ⟨fun x y H Q => ∃ (z : Str) (r : Option Value), x = .str z ∧ y = .ref d ∧ PySem.W.nsIn K d z = some r ∧ Q (.bl (!r.isSome)) H, fun i => ?_, z, _, rep_str.mp rx, rep_raw.mp ry, hT.at_ z, ?_⟩
      · have D' : KDict (G i).K (G i).w d es n := by rw [hG.K i, hG.w i]; exact D
        have := op_notIn_kd D'
        rw [hG.K i] at this
        exact this
      · rw [Option.isSome_map]
        exact hq _ H (Same.refl H) (rep_bl.mpr rfl)
    · cases e
  · cases e
def gItemK (dF : Addr) (tab : List (Str × Addr)) (x y : T) : Option T := match x, y with
  | .raw (.ref d), .str z => if d = dF then (tab.lookup z).map (fun f => .raw (.ref f)) else none
  | _, _ => none
variable {a b e : Expr} {da db de : Env' → Option T} {pos : Pos}
theorem ev_itemK {dF : Addr} {tab : List (Str × Addr)} (hG : Fm G K mg base P w N sc k) (hT : KTab K w dF tab) (ha : EV G K a da) (hb : EV G K b db) (hs : PlainIx b := by intro _ _; rfl) : EV G K (.Subscript a b pos) (fun ρ => b2 (gItemK dF tab) (da ρ) (db ρ)) := by
  intro ρ σ H τ Q he hd hq
  obtain ⟨x, y, ea, eb, eg⟩ := b2_some hd
  unfold gItemK at eg
  split at eg
  · rename_i d z
    split at eg
    · rename_i hdd
      subst hdd
      cases e1 : tab.lookup z with
      | none => rw [e1] at eg; cases eg
      | some f =>
        rw [e1] at eg
        cases eg
        obtain ⟨es, n, D⟩ := hT.ex
        refine ⟨tOp (rIxD K w) (ES G a) (ES G b), fun i => pe_ix (by rw [← hG.K i, ← hG.w i]; exact ix_kdict) (pe_ts i) (pe_ts i) hs, ?_⟩
        refine ha ρ σ H _ _ he ea fun v H1 s1 r1 => hb ρ σ H1 _ _ (he.same s1) eb fun u H2 s2 r2 => ?_
        refine ⟨d, z, .ref f, rep_raw.mp r1, rep_str.mp r2, ⟨es, n, .ref f, D.at_, D.lit, ?_, rfl⟩, hq _ _ (s1.trans s2) (rep_raw.mpr rfl)⟩
        rw [hT.at_ z, e1]; rfl
    · cases eg
  · cases eg
/-- four words -/
def tab4 (n1 n2 n3 n4 : Str) (f1 f2 f3 f4 : Addr) : List (Str × Addr) := [(n1, f1), (n2, f2), (n3, f3), (n4, f4)]
theorem ktab4 {d : Addr} {n1 n2 n3 n4 : Str} {f1 f2 f3 f4 : Addr} {h1 h2 h3 h4 : Int} {t1 t2 t3 t4 : Tok} {n : Nat}
    (l : K.lookup d = some ⟨.type "dict", none, .dict #[⟨h1, .str n1 t1, .ref f1⟩, ⟨h2, .str n2 t2, .ref f2⟩, ⟨h3, .str n3 t3, .ref f3⟩, ⟨h4, .str n4 t4, .ref f4⟩] n, #[]⟩)
    (e1 : h1 = PyData.keyHash w.params n1) (e2 : h2 = PyData.keyHash w.params n2) (e3 : h3 = PyData.keyHash w.params n3) (e4 : h4 = PyData.keyHash w.params n4) (low : (d == sysModules) = false) : KTab K w d (tab4 n1 n2 n3 n4 f1 f2 f3 f4) := by
  refine ⟨⟨_, n, l, ⟨⟨_, _, rfl, e1⟩, ⟨_, _, rfl, e2⟩, ⟨_, _, rfl, e3⟩, ⟨_, _, rfl, e4⟩, trivial⟩, low⟩, fun z => ?_⟩
  unfold PySem.W.nsIn
  rw [l]
  dsimp only
  have q : ∀ (m : Str) (t : Tok), (Value.str m t).isStr z = (z == m) := fun m t => by
    show (m == z) = (z == m)
    exact Bool.beq_comm
  unfold tab4
  simp only [List.find?, q, List.lookup]
  by_cases c1 : z == n1
  · simp [c1]
  · by_cases c2 : z == n2
    · simp [c1, c2]
    · by_cases c3 : z == n3
      · simp [c1, c2, c3]
      · by_cases c4 : z == n4
        · simp [c1, c2, c3, c4]
        · simp [c1, c2, c3, c4, DictEntry.refKey]
/-- a def, by its address -/
structure ClA (P : Program) (w : World) (K : PySem.W.Frag) (mg : Str → Option Value) (base : Heap) (k : Nat) (f : Addr) (sp : Sp) : Prop where
  ex : ∃ (fd : FuncData) (ps : List Str), FnOk P w K mg base CX0 k f fd ps sp ∧ PySem.W.keepIn K (.ref f) = true ∧ Binds K fd ps []
theorem Cl.at_ {x : Str} {sp : Sp} {f : Addr} (c : Cl P w K mg base k x sp) (g : mg x = some (.ref f)) : ClA P w K mg base k f sp := by
  obtain ⟨f', fd, ps, F, hm, kp, b⟩ := c.ex
  rw [g] at hm
  cases hm
  exact ⟨fd, ps, F, kp, b⟩
def fitD (tab : List (Str × Addr)) (ft : Str → Option (List T → Option T)) (o o' : Option T) (d : Option (List T)) : Option T := match o, o' with
  | some (.str z), some (.raw (.ref f)) => if tab.lookup z = some f then (ft z).bind fun φ => d.bind φ else none
  | _, _ => none
theorem ev_callAt {x : Str} {p : Pos} {es : List Expr} {dr : Env' → Option (List T)} {m n : Nat} {tab : List (Str × Addr)} {ft : Str → Option (List T → Option T)} (hG : Fm G K mg base P w N sc k) (iw j : Nat)
    (hc : ∀ z f φ, tab.lookup z = some f → ft z = some φ → ClA P w K mg base m f (spD K n false φ)) (ha : AV G K (e :: es) dr) (hjk : m ≤ k := by decide) (hN : N[j]? = some x := by rfl) (hv : visB sc x = true := by rfl)
    (hdb : (x == ("__debug__" : Str)) = false := by decide) (hcd : (x == ("__classdict__" : Str)) = false := by decide)
    (he : ∀ i, starEach (e :: es) (G i).env = (false, eval e (G i).env) :: starEach es (G i).env := by intro _; rfl) (hpl : ∀ i, (backTo pos (starEach es (G i).env)).any (·.1) = false := by intro _; rfl)
    (hn : (e :: es).length = n := by rfl) : EV G K (.Call (.Name x p) (e :: es) [] pos) (fun ρ => fitD tab ft (nd iw ρ) (nd j ρ) (dr ρ)) := by
  intro ρ σ H τ Q hE hd hq
  dsimp only at hd
  unfold fitD at hd
  split at hd
  · rename_i z f e1 e2
    split at hd
    · rename_i e3
      cases e4 : ft z with
      | none => rw [e4] at hd; cases hd
      | some φ =>
        rw [e4] at hd
        cases e5 : dr ρ with
        | none => rw [e5] at hd; cases hd
        | some ts =>
          rw [e5] at hd
          obtain ⟨fd, ps, F, kp, b⟩ := (hc z f φ e3 e4).ex
          refine ⟨tCallL j f (spD K n false φ) [] E0 (TAs G (e :: es)), fun i => ?_, ?_⟩
          · refine pe_callL (k := k) (CX := CX0) (fd := fd) (ps := ps) (ds := []) ?_ (hG.room i) (by rw [hG.N i]; exact hN) (by rw [hG.sc i]; exact vis_of hv) (by rw [hG.K i]; exact kp) (by rw [hG.K i]; exact b) .nil pass0 (pa_ts i) hdb hcd (he i) (hpl i)
            rw [hG.P i, hG.w i, hG.K i, hG.mg i, hG.base i]
            exact F.mono hjk
          · obtain ⟨v, e6, r6⟩ := hE.2 j _ (nd_some e2)
            rw [rep_raw.mp r6] at e6
            refine ⟨e6, ?_⟩
            refine ha.2 ρ σ H ts _ hE e5 fun vs H1 s1 r => ?_
            rw [List.append_nil]
            exact ⟨ts, τ, r, (ha.1 ρ ts e5).trans hn, hd, fun v H' s2 r2 => hq v H' (s1.trans s2) r2⟩
    · cases hd
  · cases hd
end DL
/-! DL23: what raises; a suite that catches it and tells its class. -/
namespace DL
open PySem PySem.Spec PyProof.Rows L2
variable {ι : Type} {G : ι → Cx} {K : PySem.W.Frag} {mg : Str → Option Value} {base : Heap} {P : Program} {w : World} {N : List Str} {sc : Scope} {k : Nat}
variable {fr : Bool} {ow ow' ow2 owl : List Nat}

/-! ### an own class of errors, over ValueError -/
structure ExcT (K : PySem.W.Frag) (mg : Str → Option Value) (x : Str) (C : Addr) : Prop where
  g : mg x = some (.ref C)
  q : PySem.W.excIn K C [.type "ValueError", .type "Exception", .type "BaseException", .type "object"] "ValueError.__new__" = true
  k : PySem.W.keepIn K (.ref C) = true
  s : PySem.W.subIn K (.ref C) (.type "BaseException") = some true
  t : PySem.W.typeIn K (.ref C) = some (.type "type")

/-! ### what raises -/
/-- where dx tells x, an error of the class x goes out -/
def SX (K : PySem.W.Frag) (W : WX) (mg : Str → Option Value) (ow : List Nat) (R : TS) (dx : Env' → Option Str) : Prop :=
  ∀ B ρ σ H D x, StR K B ow ρ σ H → dx ρ = some x → (∀ C σ' H', mg x = some (.ref C) → Same B H' → W (.ref C) none σ' H') → R D σ H
variable {W : WX} {R : TS} {st : Stmt} {sts : List Stmt} {dx d1x d2x : Env' → Option Str} {d1 d2 : Env' → Out}
theorem sx_none : SX K W mg ow R (fun _ => none) := fun _ _ _ _ _ _ _ h => nomatch h
theorem sx_raise {x m : Str} {j : Nat} {p p2 p3 pos : Pos} {C : Addr} (hG : Fm G K mg base P w N sc k) (hw : ∀ i, Takes (G i) W) (E : ExcT K mg x C) (hg : glB sc x = true := by rfl) (hdb : (x == ("__debug__" : Str)) = false := by decide) :
    SX K W mg ow (TSt G (.Raise (some (.Call (.Name x p) [.Constant (.str m) j p2] [] p3)) none pos)) (fun _ => some x) := by
  intro B ρ σ H D y hr hd hq
  cases hd
  refine ⟨_, fun i => ps_raise (hG.calm i) (hw i) (pmk_own PySem.F.excBase_ValueError (by rw [hG.K i]; exact E.q) (by rw [hG.mg i]; exact E.g) (by rw [hG.K i]; exact E.k) (raises_own (by rw [hG.K i]; exact E.s) (by rw [hG.K i]; exact E.t)) (gl_of hG hg i) hdb), ?_⟩
  exact hq C σ H E.g hr.sm
/-- a raise that is never come to -/
theorem sv_never : SV K fr ow ow' owl (TSt G st) (fun _ => .er) := fun _ _ _ _ _ _ h => h.elim
def seqX (d1x : Env' → Option Str) (d1 : Env' → Out) (d2x : Env' → Option Str) (ρ : Env') : Option Str := match d1x ρ with
  | some x => some x
  | none => match d1 ρ with
    | .nx ρ' => d2x ρ'
    | _ => none
theorem sx_cons (h1x : SX K W mg ow (TSt G st) d1x) (h1 : SV K fr ow ow2 owl (TSt G st) d1) (h2 : SX K W mg ow2 (TSs G sts) d2x) : SX K W mg ow (TSs G (st :: sts)) (seqX d1x d1 d2x) := by
  intro B ρ σ H D x hr hd hq
  refine ⟨tSeq (TSt G st) (TSs G sts), fun i => pss_cons (ps_st i) (pss_ss i), ?_⟩
  unfold seqX at hd
  split at hd
  · rename_i y e
    cases hd
    exact h1x B ρ σ H _ x hr e hq
  · split at hd
    · rename_i ρ' e
      refine h1 B ρ σ H _ hr ?_
      rw [e]
      exact fun σ' H' hr' => h2 B ρ' σ' H' D x hr' hd hq
    · cases hd
theorem sx_one (h : SX K W mg ow (TSt G st) dx) : SX K W mg ow (TSs G [st]) dx := fun B ρ σ H D x hr hd hq => ⟨_, fun i => pss_one (ps_st i), h B ρ σ H D x hr hd hq⟩
def ifX (c : Option Bool) (a b : Env' → Option Str) (ρ : Env') : Option Str := match c with
  | some true => a ρ
  | some false => b ρ
  | none => none
theorem sx_if {c : Expr} {a b : List Stmt} {dc : Env' → Option Bool} {pos : Pos} (hc : BV G K c dc) (ha : SX K W mg ow (TSs G a) d1x) (hb : SX K W mg ow (TSs G b) d2x) :
    SX K W mg ow (TSt G (.If c a b pos)) (fun ρ => ifX (dc ρ) d1x d2x ρ) := by
  intro B ρ σ H D x hr hd hq
  dsimp only at hd
  unfold ifX at hd
  refine ⟨_, fun i => ps_if (pt_ts i) (pss_ss i) (pss_ss i), ?_⟩
  split at hd
  · rename_i e1
    refine hc ρ σ H true _ hr.env e1 fun H1 s1 => ?_
    rw [if_pos rfl]
    exact ha B ρ σ H1 D x (hr.grow s1) hd hq
  · rename_i e1
    refine hc ρ σ H false _ hr.env e1 fun H1 s1 => ?_
    rw [if_neg Bool.false_ne_true]
    exact hb B ρ σ H1 D x (hr.grow s1) hd hq
  · cases hd
/-- the promise: n arguments, the class of the error by dx -/
def spX (K : PySem.W.Frag) (mg : Str → Option Value) (n : Nat) (df : List T → Option Str) : Sp := fun vs H Q E => ∃ ts x, Reps K H ts vs ∧ ts.length = n ∧ df ts = some x ∧ ∀ C H', mg x = some (.ref C) → Same H H' → E (.ref C) none H'
structure ClX (P : Program) (w : World) (K : PySem.W.Frag) (mg : Str → Option Value) (base : Heap) (k : Nat) (x : Str) (sp : Sp) : Prop where
  ex : ∃ (f : Addr) (fd : FuncData) (ps : List Str), FnOk P w K mg base (L2.CX P w) k f fd ps sp ∧ mg x = some (.ref f) ∧ PySem.W.keepIn K (.ref f) = true ∧ Binds K fd ps []
theorem fn_x {x : Str} {f : Addr} {fd : FuncData} {ps : List Str} {df : List T → Option Str} (F : Fun K x x st f fd) (S : FnScope N ps (defScope st)) (hm : mg x = some (.ref f)) (hb : Binds K fd ps [])
    (body : ∀ (G : Unit → Cx) (W : WX), Fb G K mg base P w N (defScope st) k → (∀ i, Takes (G i) W) → SX K W mg [] (TSs G (defBody st)) dx) (hd : ∀ ts, ts.length = ps.length → ∀ y, df ts = some y → dx (rho0 N ts) = some y) :
    ClX P w K mg base (k + 1) x (spX K mg ps.length df) := by
  have hpl : ps.length ≤ N.length := by
    have := congrArg List.length S.pre
    rw [List.length_take] at this
    omega
  refine ⟨f, fd, ps, ?_, hm, F.kp, hb⟩
  refine F.okX S (fun vs H Q E h => ?_) (fun cdv A outer s H vs Q E hr h => ?_)
  · obtain ⟨ts, y, r, hl, _⟩ := h
    rw [← r.length]; exact hl
  · obtain ⟨ts, y, r, hl, e, q⟩ := h
    have e := hd ts hl y e
    have hF : Fb (fun _ : Unit => cxOf (L2.CX P w) P w K mg base N x (defScope st) f cdv A outer s H E) K mg base P w N (defScope st) k :=
      { K := fun _ => rfl, mg := fun _ => rfl, base := fun _ => rfl, P := fun _ => rfl, w := fun _ => rfl, N := fun _ => rfl, sc := fun _ => rfl, calm := fun _ => rfl, room := fun _ => hr,
        po := fun _ => passes_of rfl, fb := ⟨fun _ _ => .inl rfl⟩ }
    refine ⟨_, pss_ss (G := fun _ : Unit => cxOf (L2.CX P w) P w K mg base N x (defScope st) f cdv A outer s H E) (), ?_⟩
    exact body _ (fun cls d _ H => E cls d H) hF (fun _ => takes_of rfl rfl rfl rfl) H (rho0 N ts) (L2.start N vs) H _ y ⟨H, Same.refl H, start_str r (by omega)⟩ e fun C σ' H' g s => q C H' g s

/-! ### the suite of a clause -/
structure Fs {ι : Type} (G : ι → Cx) (K : PySem.W.Frag) (mg : Str → Option Value) (N : List Str) (sc : Scope) : Prop where
  K : ∀ i, (G i).K = K
  mg : ∀ i, (G i).mg = mg
  N : ∀ i, (G i).N = N
  sc : ∀ i, (G i).env.scope = sc
theorem Fm.fs (hG : Fm G K mg base P w N sc k) : Fs G K mg N sc := ⟨hG.K, hG.mg, hG.N, hG.sc⟩
theorem gl_ofS (hG : Fs G K mg N sc) {x : Str} (h : glB sc x = true) (i : ι) : Gl (G i) x := by
  show (G i).env.scope.names.lookup x = some .globalImplicit
  rw [hG.sc i]
  unfold glB at h
  split at h
  · assumption
  · cases h
theorem ev_varS (hG : Fs G K mg N sc) (i : Nat) {x : Str} {pos : Pos} (hN : N[i]? = some x := by rfl) (hv : visB sc x = true := by rfl)
    (hd : (x == ("__debug__" : Str)) = false := by decide) (hcd : (x == ("__classdict__" : Str)) = false := by decide) : EV G K (.Name x pos) (nd i) := by
  intro ρ σ H τ Q he hd' hq
  refine ⟨tVar i, fun j => pe_var (by rw [hG.N j]; exact hN) (by rw [hG.sc j]; exact vis_of hv) hd hcd, ?_⟩
  obtain ⟨v, e, r⟩ := he.2 i τ (nd_some hd')
  exact ⟨v, e, hq v H (Same.refl H) r⟩
theorem sv_setS {e : Expr} {de : Env' → Option T} {pos : Pos} (hG : Fs G K mg N sc) (hN0 : N.Nodup) (hF : FnB G sc) (i : Nat) (ni : i ∉ ow) {x : Str} {pos' : Pos} (h : EV G K e de) (hN : N[i]? = some x := by rfl) (hv : locB sc x = true := by rfl)
    (hs : ∀ i, swapsWith e (some (.Name x pos')) pos.line (G i).env = pure false := by intro _; rfl) : SV K fr ow ow owl (TSt G (.Assign [.Name x pos'] e pos)) (fun ρ => setD ow.isEmpty i (de ρ) ρ) := by
  intro B ρ σ H D hr hp
  dsimp only at hp
  unfold setD at hp
  split at hp
  · rename_i τ e1
    split at hp
    · rename_i c
      refine ⟨_, fun j => ps_set (i := i) (by rw [hG.N j]; exact hN0) (by rw [hG.N j]; exact hN) (by rw [hG.sc j]; exact loc_of hv) (pe_ts j) (hs j) (hF.fn j x), ?_⟩
      refine h ρ σ H τ _ hr.env e1 fun v H' s r => ?_
      obtain ⟨B2, s2, q, r2⟩ := (hr.grow s).settle (by simpa using c) r
      exact hp _ H' ⟨B2, s2, q.set ni r2⟩
    · cases hp
  · cases hp
abbrev Su (ι : Type) (cls : Value) (d : Option Addr) := ι × {p : Obj × List (Addr × Obj) // Zc cls d p.1 ∧ ∃ vs, p.1.data = .fields vs}
def gSu (G : ι → Cx) (a : Addr) (cls : Value) (d : Option Addr) : Su ι cls d → Cx := fun q => (G q.1).suite a ((a, q.2.1.1) :: q.2.1.2)
theorem fs_su {a : Addr} {cls : Value} {d : Option Addr} (hG : Fm G K mg base P w N sc k) : Fs (gSu G a cls d) K mg N sc := ⟨fun q => hG.K q.1, fun q => hG.mg q.1, fun q => hG.N q.1, fun q => hG.sc q.1⟩
theorem fb_su {a : Addr} {cls : Value} {d : Option Addr} (hF : FnB G sc) : FnB (gSu G a cls d) sc := ⟨fun q x => hF.fn q.1 x⟩
/-- what a class beside C is to an instance of C -/
structure IsK (K : PySem.W.Frag) (C : Addr) (cv : V) (b : Bool) : Prop where
  ex : ∃ u : Value, (∀ u', RelV cv u' → u' = u) ∧ PySem.W.kitOne K (.ref C) u = some b
theorem isK_own {C D : Addr} {b : Bool} (h1 : PySem.W.isClsIn K D = true) (h2 : PySem.W.typeIn K (.ref D) = some (.type "type")) (h3 : PySem.W.subIn K (.ref C) (.ref D) = some b) (h4 : PySem.W.subIn K (.ref C) (.ref C) = some true) : IsK K C (.ref D) b := by
  refine ⟨.ref D, fun u h => h, ?_⟩
  unfold PySem.W.kitOne
  by_cases e : C = D
  · subst e
    rw [h3] at h4
    cases h4
    simp
  · rw [if_neg (by simp [e])]
    have h1' : (PySem.W.clsIn K D).isSome = true := h1
    show (if ((PySem.W.clsIn K D).isSome && PySem.W.typeIn K (.ref D) == some (.type "type")) = true then PySem.W.subIn K (.ref C) (.ref D) else none) = some b
    rw [if_pos (by rw [h1', h2]; rfl)]
    exact h3
theorem isK_val {C : Addr} {b : Bool} (h3 : PySem.W.subIn K (.ref C) (.type "ValueError") = some b) : IsK K C (.ty "ValueError") b := by
  refine ⟨.type "ValueError", fun u h => h, ?_⟩
  unfold PySem.W.kitOne
  rw [if_neg (by simp)]
  show (if PySem.W.kitMeta "ValueError" = true then PySem.W.subIn K (.ref C) (.type "ValueError") else none) = some b
  rw [if_pos (by decide +kernel)]
  exact h3
def isED (a : Addr) (b : Bool) (o : Option T) : Option T := match o with
  | some (.raw (.ref a')) => if a' = a then some (.bl b) else none
  | _ => none
variable {pos : Pos}
theorem ev_isE {a C : Addr} {b : Bool} {cv : V} (hG : Fm G K mg base P w N sc k) (hC : ExcC K C) (hm : mg "isinstance" = none) (ie : Nat) {n : Str} {p p1 : Pos} {ec : Expr} (hk : IsK K C cv b) (he : EV (gSu G a (.ref C) none) K ec (fun _ => some (.raw cv)))
    (hN : N[ie]? = some n := by rfl) (hv : visB sc n = true := by rfl) (hg : glB sc "isinstance" = true := by rfl) (hd : (n == ("__debug__" : Str)) = false := by decide) (hcd : (n == ("__classdict__" : Str)) = false := by decide)
    (hs1 : ∀ i, starEach [.Name n p1, ec] (gSu G a (.ref C) none i).env = (false, eval (.Name n p1) (gSu G a (.ref C) none i).env) :: starEach [ec] (gSu G a (.ref C) none i).env := by intro _; rfl)
    (hs2 : ∀ i, starEach [ec] (gSu G a (.ref C) none i).env = [(false, eval ec (gSu G a (.ref C) none i).env)] := by intro _; rfl)
    (hpl : ∀ i, (backTo pos (starEach [ec] (gSu G a (.ref C) none i).env)).any (·.1) = false := by intro _; rfl) :
    EV (gSu G a (.ref C) none) K (.Call (.Name "isinstance" p) [.Name n p1, ec] [] pos) (fun ρ => isED a b (nd ie ρ)) := by
  intro ρ σ H τ Q hE hd' hq
  dsimp only at hd'
  unfold isED at hd'
  split at hd'
  · rename_i a' e1
    split at hd'
    · rename_i ea
      subst ea
      cases hd'
      have hS := fs_su (a := a') (cls := .ref C) (d := none) hG
      obtain ⟨u, hu, hkit⟩ := hk.ex
      have hcr : ∀ i, CallR (gSu G a' (.ref C) none i) (.builtin "isinstance") (rIsE K C a') := fun i => by
        have := call_isE (X := G i.1) (a := a') (oe := i.2.1.1) (pn := i.2.1.2) (C := by rw [hG.K i.1]; exact hC) i.2.2.1 i.2.2.2
        rw [hG.K i.1] at this
        exact this
      refine ⟨tCB (rIsE K C a') (tCons (tVar ie) (tCons (ES (gSu G a' (.ref C) none) ec) tNil)), fun i => pe_callB (hcr i) (gl_ofS hS hg i) (by rw [hS.mg i]; exact hm) (by decide +kernel) (pa_cons (pe_var (by rw [hS.N i]; exact hN) (by rw [hS.sc i]; exact vis_of hv) hd hcd) (pa_cons (pe_ts i) pa_nil (hs2 i)) (hs1 i)) (by decide) (by decide) (hs1 i) (hpl i), ?_⟩
      obtain ⟨v, e2, r⟩ := hE.2 ie _ (nd_some e1)
      cases rep_raw.mp r
      refine ⟨_, e2, ?_⟩
      refine he ρ σ H _ _ hE rfl fun v2 H2 s2 r2 => ?_
      cases rep_raw.mp r2
      exact ⟨_, u, b, rfl, hu, hkit, hq _ H2 s2 (rep_bl.mpr rfl)⟩
    · cases hd'
  · cases hd'
theorem ev_globS (hG : Fs G K mg N sc) {x : Str} {v : V} {u : Value} {τ : T} {pos : Pos} (hm : mg x = some u) (r : RelV v u) (hτ : ∀ H, Rep K H τ v) (hg : glB sc x = true := by rfl) (hd : (x == ("__debug__" : Str)) = false := by decide) :
    EV G K (.Name x pos) (fun _ => some τ) := by
  intro ρ σ H τ' Q he hd' hq
  cases hd'
  exact ⟨_, fun i => pe_glob (gl_ofS hG hg i) (by rw [hG.mg i]; exact hm) r hd, hq _ _ (Same.refl H) (hτ H)⟩
theorem ev_bltnS (hG : Fs G K mg N sc) {x : Str} {v : V} {u : Value} {pos : Pos} (hm : mg x = none) (hv : bootBuiltins x = some u) (r : RelV v u) (hg : glB sc x = true := by rfl) (hn : x ≠ "__name__" := by decide) (hd : (x == ("__debug__" : Str)) = false := by decide) :
    EV G K (.Name x pos) (fun _ => some (.raw v)) := by
  intro ρ σ H τ' Q he hd' hq
  cases hd'
  exact ⟨_, fun i => pe_bltn (gl_ofS hG hg i) (by rw [hG.mg i]; exact hm) hv r hn hd, hq _ _ (Same.refl H) (rep_raw.mpr rfl)⟩

/-! ### try: f(x) except X as n: suite -/
/-- an own class in a clause -/
structure Hit (K : PySem.W.Frag) (C D : Addr) : Prop where
  ex : PySem.W.exmOne K (.ref C) (.ref D) = some true
theorem hit_of {C D : Addr} (h1 : PySem.W.subIn K (.ref D) (.type "BaseException") = some true) (h2 : PySem.W.hasDictIn K D = true) (h3 : PySem.W.typeIn K (.ref D) = some (.type "type")) (h4 : PySem.W.subIn K (.ref C) (.ref D) = some true) : Hit K C D := ⟨PySem.W.exm_ref h1 h2 h3 h4⟩
def tryD (ie : Nat) (dx : List T → Option Str) (suite : Str → Out) (o : Option T) (ρ : Env') : Out := if ie < ρ.length then (match o with
  | some t => match dx [t] with
    | some x => suite x
    | none => .er
  | none => .er) else .er
theorem sv_try {cal a n bk : Str} {ia ie j : Nat} {DB : Addr} {df : List T → Option Str} {ds : Str → Out} {b₀ : Stmt} {suite : List Stmt} {pf pa pc pe pb ph pt : Pos} (hG : Fm G K mg base P w N sc k) (hN0 : N.Nodup)
    (hst : ∀ i, (G i).stack = (G i).env :: (G i).outer) (hfm : ∀ i, (G i).env.frame = some (G i).env.locals) (c : ClX P w K mg base j cal (spX K mg 1 df)) (gB : mg bk = some (.ref DB))
    (hsu : ∀ (x : Str) (C : Addr) (a : Addr), mg x = some (.ref C) → ds x ≠ .er → Hit K C DB ∧ ∃ d : Env' → Out, SV K fr [] [] owl (TSs (gSu G a (.ref C) none) (b₀ :: suite)) d ∧ ∀ ρ : Env', ie < ρ.length → d (ρ.set ie (some (.raw (.ref a)))) = ds x)
    (hds : ∀ x ρ, ds x ≠ .nx ρ ∧ ds x ≠ .bk ρ ∧ ds x ≠ .ct ρ) (hgx : ∀ ts x, df ts = some x → ∃ C, mg x = some (.ref C))
    (hjk : j ≤ k := by decide) (hgf : glB sc cal = true := by rfl) (hgb : glB sc bk = true := by rfl) (hNa : N[ia]? = some a := by rfl) (hva : visB sc a = true := by rfl) (hNe : N[ie]? = some n := by rfl) (hve : sc.names.lookup n = some .local := by rfl)
    (hd1 : (cal == ("__debug__" : Str)) = false := by decide) (hd2 : (bk == ("__debug__" : Str)) = false := by decide) (hd3 : (a == ("__debug__" : Str)) = false := by decide) (hd4 : (a == ("__classdict__" : Str)) = false := by decide) :
    SV K fr [] [] owl (TSt G (.Try [.Expr (.Call (.Name cal pf) [.Name a pa] [] pc) pe] [.ExceptHandler (some (.Name bk pb)) (some n) (b₀ :: suite) ph] [] [] pt)) (fun ρ => tryD ie df ds (nd ia ρ) ρ) := by
  intro B ρ σ H D hr hp
  dsimp only at hp
  unfold tryD at hp
  split at hp
  rotate_left
  · exact hp.elim
  rename_i hlen
  split at hp
  · rename_i t e1
    split at hp
    · rename_i x e2
      obtain ⟨f, fd, ps, F, hm, kp, b⟩ := c.ex
      obtain ⟨C, hC⟩ := hgx _ _ e2
      have hne : ds x ≠ .er := fun z => by rw [z] at hp; exact hp
      refine ⟨fun D σ H => (tDrop (tCallS (spX K mg 1 df) (WE (wAs K (.ref DB) ie (fun a cls d => TSs (gSu G a cls d) (b₀ :: suite)) (fun _ _ _ _ => False) D)) (tCons (tVar ia) tNil))) D σ H, fun i => ?_, ?_⟩
      · have hl : (G i).env.kindOf n = some .local := by
          show (G i).env.scope.names.lookup n = some .local
          rw [hG.sc i]; exact hve
        have := ps_try_as (X := G i) (x := bk) (n := n) (c := .ref DB) (i := ie) (b₀ := b₀) (suite := suite) (np := pb) (pos := pt) (pos' := ph) (body := [.Expr (.Call (.Name cal pf) [.Name a pa] [] pc) pe])
          (tb := fun W => tDrop (tCallS (spX K mg 1 df) (WE W) (tCons (tVar ia) tNil))) (ts := fun a cls d => TSs (gSu G a cls d) (b₀ :: suite)) (Wout := fun _ _ _ _ => False)
          (hst i) (hfm i) (by rw [hG.N i]; exact hN0) (by rw [hG.N i]; exact hNe) hl ⟨gl_of hG hgb i, hd2, .inl (by rw [hG.mg i]; exact gB)⟩ takes0
          (fun W pn xe tk _ => pss_one (ps_expr (pe_callS (k := k) (f := f) (fd := fd) (ps := ps) (by
              show FnOk (G i).prog (G i).w (G i).K (G i).mg (G i).base (L2.CX (G i).prog (G i).w) k f fd ps _
              rw [hG.P i, hG.w i, hG.K i, hG.mg i, hG.base i]; exact F.mono hjk)
            (hG.room i) (gl_of hG hgf i) (by show (G i).mg cal = _; rw [hG.mg i]; exact hm) (by show PySem.W.keepIn (G i).K _ = _; rw [hG.K i]; exact kp) (by show Binds (G i).K _ _ _; rw [hG.K i]; exact b) (fun σ => passAt tk σ)
            (pa_cons (pe_var (by show (G i).N[ia]? = _; rw [hG.N i]; exact hNa) (by show Vis (G i).env.scope a; rw [hG.sc i]; exact vis_of hva) hd3 hd4) pa_nil) hd1)))
          (fun a oe cls d pn hz hf => pss_ss (G := gSu G a cls d) (i, ⟨(oe, pn), hz, hf⟩))
        rw [hG.K i] at this
        exact this
      · obtain ⟨v, e3, r3⟩ := hr.env.2 ia t (nd_some e1)
        refine ⟨v, e3, ?_⟩
        refine ⟨[t], x, .cons r3 .nil, rfl, e2, fun C' H' g s => ?_⟩
        rw [hC] at g
        cases g
        refine ⟨true, ((hsu x C 0 hC hne).1).ex, fun _ a na => ?_, fun q => nomatch q⟩
        obtain ⟨d, hs, hd⟩ := (hsu x C a hC hne).2
        have hr1 : StR K B [] ρ σ H' := hr.grow s
        obtain ⟨B', sB, q⟩ := hr1
        refine hs B (ρ.set ie (some (.raw (.ref a)))) (σ.set ie (some (.ref a))) H' _ ⟨B', sB, q.set (by simp) (rep_raw.mpr rfl)⟩ ?_
        rw [hd ρ hlen]
        cases e4 : ds x with
        | nx ρ' => exact absurd e4 (hds x ρ').1
        | bk ρ' => exact absurd e4 (hds x ρ').2.1
        | ct ρ' => exact absurd e4 (hds x ρ').2.2
        | er => exact absurd e4 hne
        | rt τ => rw [e4] at hp; exact hp
    · exact hp.elim
  · exact hp.elim
end DL
namespace DL
open PySem PySem.Spec PyProof.Rows L2
variable {K : PySem.W.Frag} {mg : Str → Option Value} {base : Heap} {P : Program} {w : World} {N : List Str} {k : Nat} {fr : Bool}
/-- as fn_dl, for a def with a try -/
theorem fn_dlT {x : Str} {st : Stmt} {f : Addr} {fd : FuncData} {ps : List Str} {d : Env' → Out} {df : List T → Option T} (F : Fun K x x st f fd) (S : FnScope N ps (defScope st)) (hm : mg x = some (.ref f)) (hb : Binds K fd ps []) {ow' : List Nat}
    (body : ∀ (G : Unit → Cx), Fb G K mg base P w N (defScope st) k → (∀ i, (G i).stack = (G i).env :: (G i).outer) → (∀ i, (G i).env.frame = some (G i).env.locals) → SV K fr [] ow' [] (TSs G (defBody st)) d) (hd : ∀ ts, ts.length = ps.length → ∀ τ, df ts = some τ → fnD N fr d ts = some τ) :
    Cl P w K mg base (k + 1) x (spD K ps.length fr df) := by
  have hpl : ps.length ≤ N.length := by
    have := congrArg List.length S.pre
    rw [List.length_take] at this
    omega
  refine ⟨f, fd, ps, ?_, hm, F.kp, hb⟩
  refine F.ok S (fun vs H Q E h => ?_) (fun cdv A outer s H vs Q E hr h => ?_)
  · obtain ⟨ts, τ, r, hl, _⟩ := h
    rw [← r.length]; exact hl
  · obtain ⟨ts, τ, r, hl, e, q⟩ := h
    have e := hd ts hl τ e
    have hF : Fb (fun _ : Unit => (cxOf CX0 P w K mg base N x (defScope st) f cdv A outer s H E).nox) K mg base P w N (defScope st) k :=
      { K := fun _ => rfl, mg := fun _ => rfl, base := fun _ => rfl, P := fun _ => rfl, w := fun _ => rfl, N := fun _ => rfl, sc := fun _ => rfl, calm := fun _ => rfl, room := fun _ => hr,
        po := fun _ => PassesOwn.never, fb := ⟨fun _ _ => .inl rfl⟩ }
    refine ⟨_, pss_ss (G := fun _ : Unit => (cxOf CX0 P w K mg base N x (defScope st) f cdv A outer s H E).nox) (), ?_⟩
    refine body _ hF (fun _ => rfl) (fun _ => rfl) H (rho0 N ts) (L2.start N vs) H _ ⟨H, Same.refl H, start_str r (by omega)⟩ ?_
    unfold fnD at e
    split at e
    · rename_i t eo
      cases e
      rw [eo]
      exact fun v H' s r => q v H' s r
    · rename_i ρ' eo
      rw [eo]
      split at e
      · cases e
      · rename_i c
        cases e
        refine fun σ' H' hr' => q _ H' hr'.sm ?_
        unfold RtR
        rw [if_neg c]
        exact rep_non.mpr rfl
    · cases e
/-- the suite's answer, whatever the error's address -/
theorem nd_set_self {ρ : Env'} {i : Nat} {x : T} (h : i < ρ.length) : nd i (ρ.set i (some x)) = some x := by
  unfold nd
  rw [List.getElem?_set_self h]; rfl
theorem nd_set_ne {ρ : Env'} {i j : Nat} {x : Option T} (h : i ≠ j) : nd j (ρ.set i x) = nd j ρ := by
  unfold nd
  rw [List.getElem?_set_ne h]
end DL
/-! DL24: a dict display with one ** and one pair. -/
namespace MM
open PySem PyProof.Rows
section
variable {prog : Program} {w : World} {K : Type} [DecidableEq K] {knd : KeyKind prog w K} {A : Around} {E : Value → Shared → Prop} {s : Shared}
theorem wpAny_dictPut_pairs {d : Addr} {kvs : List (K × Value)} {k : K} {key v : Value} {Q : Unit → Shared → Prop} (hkey : knd.is k key = true) (hm : s.heap.DictOf knd d kvs)
    (hQ : ∀ h', h'.DictOf knd d (stored kvs k v) → Heap.SameBut d s.heap h' → Q () { s with heap := h' })
    (hsz : kvs.length ≤ sizeLine) :
    wpAny (model prog w) A (dictPut d (knd.hash k) key v) Q E s := by
  obtain ⟨o, es, ep, ho, hc, hd, hk, hp, hn⟩ := hm
  have hes : es.size ≤ sizeLine := by have e1 := hp.length; have e2 : es.toList.length = es.size := by simp
                                      omega
  unfold dictPut
  refine wpAny_bind (wpAny_dictFind_of hkey ho hd hk ?_)
  have hidx : (es.findIdx? fun e => knd.is k e.key) = kvs.findIdx? fun kv => decide (kv.1 = k) := by
    rw [← hp.findIdx k]; obtain ⟨l⟩ := es; simp
  cases hi : es.findIdx? fun e => knd.is k e.key with
  | some i =>
    refine wpAny_updateDict ho hd (hQ _ ⟨_, _, ep, Heap.get?_update_self _ ho (Obj.isFreed_of_dict (Obj.data_mapDict hd _)),
      hc.mapDict _, Obj.data_mapDict hd _, hk.modify _ _, ?_, ?_⟩ (Heap.SameBut.update ..))
    · rw [stored, if_pos (any_of_findIdx_some (hidx ▸ hi))]
      have hl : (es.toList.findIdx? fun e => knd.is k e.key) = some i := by rw [← hi]; obtain ⟨l⟩ := es; simp
      have := hp.modify hn hl v
      obtain ⟨l⟩ := es
      simpa using this
    · rw [stored, if_pos (any_of_findIdx_some (hidx ▸ hi)), keys_map_store]; exact hn
  | none =>
    have hnot : k ∉ kvs.map (·.1) := not_mem_of_findIdx_none (hidx ▸ hi)
    have hany : ¬ (kvs.any fun kv => decide (kv.1 = k)) = true := by
      rw [List.any_eq_true]; rintro ⟨kv, hkv, he⟩
      exact hnot (List.mem_map.mpr ⟨kv, hkv, of_decide_eq_true he⟩)
    refine wpAny_updateDictKeys (hz := hes) ho hd (hQ _ ⟨_, _, ep + 1, Heap.get?_update_self _ ho (Obj.isFreed_of_dict (Obj.data_mapDictKeys hd _)),
      hc.mapDictKeys _, Obj.data_mapDictKeys hd _, hk.push hkey _, ?_, ?_⟩ (Heap.SameBut.update ..))
    · rw [stored, if_neg hany]
      have := hp.append hkey (knd.hash k) v
      obtain ⟨l⟩ := es
      simpa using this
    · rw [stored, if_neg hany, List.map_append, List.nodup_append]
      refine ⟨hn, by simp, ?_⟩
      intro a ha b hb
      simp only [List.map_cons, List.map_nil, List.mem_singleton] at hb
      subst hb
      exact fun e => hnot (e ▸ ha)
theorem wpAny_mergeMapping {d o : Addr} {kvs more : List (K × Value)} {Q : Unit → Shared → Prop} (hdo : d ≠ o) (hoS : (o == sysModules) = false)
    (hd : s.heap.DictOf knd d kvs) (ho : s.heap.DictOf knd o more) (hnr : ∀ (k : K) (a : Addr), knd.is k (.ref a) = false)
    (hQ : ∀ h', h'.DictOf knd d (merged kvs more) → Heap.SameBut d s.heap h' → Q () { s with heap := h' })
    (hsz : kvs.length + more.length ≤ sizeLine) :
    wpAny (model prog w) A (mergeMapping d (.ref o) false) Q E s := by
  obtain ⟨od, esd, epd, hod, hcd, hdd, hkd, hpd, hnd⟩ := id hd
  obtain ⟨oo, eso, epo, hoo, hco, hdo', hko, hpo, hno⟩ := id ho
  have hlen : more.length = eso.size := by rw [← hpo.length]; simp
  unfold mergeMapping
  refine wpAny_bind (wpAny_isInstance ho.typeIs isSubtype_dict_dict ?_)
  dsimp only
  rw [if_pos rfl]
  refine wpAny_bind (wpAny_specialOf ho.typeIs F.slot_dict_iter.lookup ?_)
  refine wpAny_bind (wpAny_pure ?_)
  simp only [beq_self_eq_true]
  rw [if_neg (by rw [hoS]; exact Bool.false_ne_true)]
  refine wpAny_bind (wpAny_dictEntries hod hdd ?_)
  have loop : wpAny (model prog w) A (do
      let l ← dictEntries o
      let epoch ← dictEpoch o
      forIn (List.range l.size) PUnit.unit fun i (_ : PUnit) => (do
          let l' ← dictEntries o
          match l'[i]? with
            | some e => do
              holding [e.key, e.val] (dictPut d e.hash e.key e.val)
              let ep' ← dictEpoch o
              if (ep' != epoch) = true then do
                  (unsupported "dict.changed-during-merge" : Sem PUnit)
                  pure (ForInStep.yield PUnit.unit)
                else pure (ForInStep.yield PUnit.unit)
            | _ => do
              (unsupported "dict.changed-during-merge" : Sem PUnit)
              pure (ForInStep.yield PUnit.unit) : Sem (ForInStep PUnit))
      pure ()) Q E s := by
    refine wpAny_bind (wpAny_dictEntries hoo hdo' ?_)
    refine wpAny_bind (wpAny_dictEpoch hoo hdo' ?_)
    refine wpAny_bind ?_
    rw [List.range_eq_range']
    refine wpAny_forIn_list _
      (fun rest _ s' => ∃ h' i, s' = { s with heap := h' } ∧ rest = List.range' i (eso.size - i) ∧ i ≤ eso.size ∧ h'.DictOf knd d (merged kvs (more.take i)) ∧ h'.get? o = some oo ∧ Heap.SameBut d s.heap h')
      _ ?_ ?_ _ _ ⟨s.heap, 0, rfl, by simp, Nat.zero_le _, by simpa [merged] using hd, hoo, Heap.SameBut.refl _ _⟩
    · rintro x rest b s' ⟨h', i, rfl, hr, hi, hd', hoo', hs'⟩
      have hlt : i < eso.size := by
        rcases Nat.lt_or_ge i eso.size with h | h
        · exact h
        · rw [Nat.sub_eq_zero_of_le h] at hr; simp at hr
      obtain ⟨rfl, hrest⟩ : x = i ∧ rest = List.range' (i + 1) (eso.size - (i + 1)) := by
        have e : eso.size - i = (eso.size - (i + 1)) + 1 := by omega
        rw [e, List.range'_succ] at hr
        injection hr with h1 h2
        exact ⟨h1, h2⟩
      refine wpAny_bind (wpAny_dictEntries hoo' hdo' ?_)
      rw [Array.getElem?_eq_getElem hlt]
      obtain ⟨kv, hkv⟩ : ∃ kv, more[x]? = some kv := ⟨more[x]'(by rw [hlen]; exact hlt), List.getElem?_eq_getElem _⟩
      obtain ⟨k, v⟩ := kv
      obtain ⟨hkey, hval⟩ := hpo.get? (e := eso[x]) (by simp [hlt]) hkv
      obtain ⟨k', hkey', hhash⟩ := hko eso[x] (Array.getElem_mem hlt)
      obtain rfl : k' = k := knd.inj _ _ _ hkey' hkey
      show wpAny _ _ (holding [eso[x].key, eso[x].val] (dictPut d eso[x].hash eso[x].key eso[x].val) >>= _) _ _ _
      rw [hhash, hval]
      have hmx : (merged kvs (more.take x)).length ≤ sizeLine := by
        have e1 := merged_length_le kvs (more.take x)
        have e2 : (more.take x).length ≤ more.length := by rw [List.length_take]; omega
        omega
      refine wpAny_bind (wpAny_holding (wpAny_dictPut_pairs (hsz := hmx) hkey hd' fun h'' hd'' hs'' => ?_))
      have hoo'' : h''.get? o = some oo := (hs''.2 o (Ne.symm hdo)).trans hoo'
      refine wpAny_bind (wpAny_dictEpoch hoo'' hdo' ?_)
      rw [if_neg (by simp)]
      exact wpAny_pure ⟨h'', x + 1, rfl, hrest, hlt, by rw [merged_take_succ kvs more x (k', v) hkv]; exact hd'', hoo'', hs'.trans hs''⟩
    · rintro b s' ⟨h', i, rfl, hr, hi, hd', hoo', hs'⟩
      have hin : i = eso.size := by
        rcases Nat.lt_or_ge i eso.size with h | h
        · have e : eso.size - i = (eso.size - (i + 1)) + 1 := by omega
          rw [e, List.range'_succ] at hr; exact nomatch hr
        · exact Nat.le_antisymm hi h
      refine wpAny_pure (hQ h' ?_ hs')
      rw [hin, ← hlen, List.take_length] at hd'; exact hd'
  split
  · refine wpAny_bind (wpAny_dictEntries hoo hdo' ?_)
    refine wpAny_bind ?_
    rw [← Array.forIn_toList]
    refine wpAny_forIn_list _ (fun rest _ s' => s' = s ∧ ∀ e ∈ rest, e ∈ eso.toList) _ ?_ ?_ _ _ ⟨rfl, fun _ h => h⟩
    · rintro e rest b s' ⟨rfl, hm⟩
      have he : e ∈ eso := by simpa using hm e (by simp)
      obtain ⟨k', hkey', _⟩ := hko e he
      have hne : ∀ a, e.key ≠ .ref a := fun a q => by
        rw [q, hnr] at hkey'
        cases hkey'
      have fin : wpAny (model prog w) A (pure (ForInStep.yield PUnit.unit) : Sem (ForInStep PUnit)) (fun r s'' => match r with | .yield b' => s'' = s' ∧ ∀ e ∈ rest, e ∈ eso.toList | .done b' => False) E s' := wpAny_pure ⟨rfl, fun x hx => hm x (List.mem_cons_of_mem _ hx)⟩
      split
      · rename_i a q
        exact absurd q (hne a)
      · exact wpAny_pure ⟨rfl, fun x hx => hm x (List.mem_cons_of_mem _ hx)⟩
    · rintro b s' ⟨rfl, _⟩
      exact loop
  · exact loop
end
section
open PySem.Spec L2
variable {X : Cx} {e0 k v : Expr} {pos : Pos} {te tk tv : TE}
/-- {**e0, k: v} -/
def tStar (te tk tv : TE) : TE := fun σ H Q => ∀ p, H p = none → te σ (upd H p (.dK [])) fun x H1 => ∃ (a : Addr) (kvs : List (Key × V)), x = .ref a ∧ a ≠ p ∧ Rd H1 a (.dK kvs) ∧ H1 p = some (.dK []) ∧ kvs.length < sizeLine ∧
  ∀ q, (upd H1 p (.dK kvs)) q = none → tk σ (upd (upd H1 p (.dK kvs)) q (.dK [])) fun y H2 => tv σ H2 fun z H3 => ∃ ky : Key, y = kV ky ∧ q ≠ p ∧ H3 p = some (.dK kvs) ∧ H3 q = some (.dK []) ∧ Q (.ref p) (upd (upd H3 q (.dK [(ky, z)])) p (.dK (putK kvs ky z)))
theorem subDict_ok {pins : List (Addr × Obj)} {s : Shared} {σ : L2.St} {H : Hp} (hk : PE X k tk) (hv : PE X v tv) {Q : Addr → Shared → Prop} (I : L2.Inv X pins σ H s)
    (R : Addr → V → V → Hp → Prop) (h : ∀ q, H q = none → tk σ (upd H q (.dK [])) fun y H2 => tv σ H2 fun z H3 => R q y z H3)
    (hR : ∀ q y z H3, R q y z H3 → ∃ ky : Key, y = kV ky ∧ H3 q = some (.dK []) ∧ ∀ s', L2.Inv X pins σ (upd H3 q (.dK [(ky, z)])) s' → Q q s') :
    wpAny (model X.prog X.w) X.A (subDict [(eval k X.env, do let x ← eval v X.env; standAt pos; pure x)]) Q X.xe s := by
  unfold subDict
  refine wpAny_bind (wpAny_alloc ?_)
  have hn := I.hok.fresh (Nat.le_refl s.heap.objs.size)
  have I1 := I.laid (a := s.heap.objs.size) (o := .dK []) (h' := s.heap.push { cls := .type "dict", data := .dict #[] }) (t' := s.toks) (fun _ _ q => Heap.get?_push_of_some _ q) (Nat.le_refl _) (dk_empty s.heap I.big)
  generalize hq : s.heap.objs.size = q at *
  refine wpAny_bind (wpAny_holding ?_)
  rw [if_pos (by simp)]
  refine wpAny_bind ?_
  refine evalPairs_cons (wpAny_mono (hk.run pins _ σ _ _ I1 (h q hn)) (fun u s2 h2 => ?_) fun _ _ e => e)
  obtain ⟨y, H2, I2, ry, q2⟩ := h2
  refine wpAny_bind (wpAny_mono (hv.run pins s2 σ H2 _ I2 q2) (fun r s3 h3 => ?_) fun _ _ e => e)
  obtain ⟨z, H3, I3, rz, hr⟩ := h3
  obtain ⟨ky, ey, e3, q3⟩ := hR q y z H3 hr
  subst ey
  refine wpAny_bind (wpAny_standAt (wpAny_pure ?_))
  refine evalPairs_nil ?_
  refine wpAny_holding ?_
  simp only [List.forIn_cons, List.forIn_nil]
  refine wpAny_bind (wpAny_bind (wpAny_bind (d_dictSet (kvs := []) I3 e3 (by decide) ry rz fun s' I4 => ?_)))
  refine wpAny_pure (wpAny_pure (wpAny_pure (wpAny_pure ?_)))
  exact q3 s' I4
theorem pe_star (he : PE X e0 te) (hk : PE X k tk) (hv : PE X v tv) : PE X (.Dict [none, some k] [e0, v] pos) (tStar te tk tv) := by
  refine ⟨fun pins s σ H Q I h => ?_⟩
  show wpAny _ _ (do standAt pos; dictDisplay _) _ _ _
  refine wpAny_bind (wpAny_standAt ?_)
  show wpAny _ _ (dictDisplay [(none, do let x ← eval e0 X.env; standAt pos; pure x), (some (eval k X.env), do let x ← eval v X.env; standAt pos; pure x)]) _ _ _
  unfold dictDisplay
  simp only [List.forIn_cons, List.forIn_nil]
  refine wpAny_bind ?_
  refine wpAny_bind (wpAny_bind ?_)
  simp only [List.isEmpty_nil, if_true]
  refine wpAny_pure ?_
  dsimp only
  refine wpAny_bind (wpAny_alloc ?_)
  have hn := I.hok.fresh (Nat.le_refl s.heap.objs.size)
  have I1 := I.laid (a := s.heap.objs.size) (o := .dK []) (h' := s.heap.push { cls := .type "dict", data := .dict #[] }) (t' := s.toks) (fun _ _ q => Heap.get?_push_of_some _ q) (Nat.le_refl _) (dk_empty s.heap I.big)
  generalize hp : s.heap.objs.size = p at *
  refine wpAny_bind (wpAny_holding ?_)
  refine wpAny_bind (wpAny_mono (he.run pins _ σ _ _ I1 (h p hn)) (fun u s2 h2 => ?_) fun _ _ e => e)
  obtain ⟨x, H1, I2, rx, a, kvs, ex, hap, hrd, ep, hl, q2⟩ := h2
  subst ex
  obtain rfl : u = Value.ref a := rx
  refine wpAny_bind (wpAny_standAt (wpAny_pure ?_))
  refine wpAny_bind (wpAny_onRaise (wpAny_tryCatch (wpAny_onRaise (wpAny_holding ?_))))
  obtain ⟨z1, hd1, vs1, r1, dd1⟩ := dk_of I2.hok ep
  cases r1
  obtain ⟨z2, hd2, vs2, r2, dd2⟩ := dk_rd I2.hok hrd
  have hnr : ∀ (k : Key) (a : Addr), (mixKind X.prog X.w).is k (.ref a) = false := fun k a => by cases k <;> rfl
  refine wpAny_mergeMapping (knd := mixKind X.prog X.w) (Ne.symm hap) hd2 dd1 dd2 hnr (fun h' dd' hs => ?_) (by rw [← r2.length]; simp; omega)
  obtain ⟨od2, es2, ep2, ho2, hc2, hdd2, hk2, hp2, hno2⟩ := id dd2
  rw [merged_nil_of_nodup vs2 hno2] at dd'
  have he' : ∃ q, h'.get? p = some q := let ⟨q, _, _, hq, _⟩ := dd'; ⟨q, hq⟩
  have I3 : L2.Inv X pins σ (upd H1 p (.dK kvs)) { s2 with heap := h', toks := s2.toks } := d_write I2 (by rw [ep]; exact True.intro) hs he' (dk_new z2 hd1 r2 dd')
  refine wpAny_pure ?_
  dsimp only
  simp only [List.nil_append, List.length_cons, List.length_nil, Nat.zero_add, show ((1 : Nat) == 17) = false from rfl, Bool.false_eq_true, if_false]
  refine wpAny_bind (wpAny_pure (wpAny_pure ?_))
  simp only [List.isEmpty_cons, Bool.false_eq_true, if_false]
  refine wpAny_bind (wpAny_bind (wpAny_holding ?_))
  refine subDict_ok hk hv I3 _ (fun q nq => q2 q nq) fun q y z H3 ⟨ky, ey, nqp, e3, e4, q3⟩ => ⟨ky, ey, e4, fun s' I4 => ?_⟩
  -- the pair's dict
  refine wpAny_bind (wpAny_onRaise (wpAny_holding ?_))
  have e5 : upd H3 q (.dK [(ky, z)]) p = some (.dK kvs) := by rw [upd_ne (Ne.symm nqp)]; exact e3
  have e6 : upd H3 q (.dK [(ky, z)]) q = some (.dK [(ky, z)]) := upd_same
  obtain ⟨z5, hd5, vs5, r5, dd5⟩ := dk_of I4.hok e5
  obtain ⟨z6, hd6, vs6, r6, dd6⟩ := dk_of I4.hok e6
  have hm : KV (putK kvs ky z) (merged vs5 vs6) := by
    have := KV.merge r6 r5
    exact this
  refine wpAny_mergeMapping (knd := mixKind X.prog X.w) (Ne.symm nqp) hd6 dd5 dd6 hnr (fun h2 dd7 hs7 => ?_) (by rw [← r5.length, ← r6.length]; simp; omega)
  have he7 : ∃ q, h2.get? p = some q := let ⟨q, _, _, hq, _⟩ := dd7; ⟨q, hq⟩
  have hl7 : (putK kvs ky z).length ≤ sizeLine := by have := length_putK kvs ky z; omega
  have I5 : L2.Inv X pins σ (upd (upd H3 q (.dK [(ky, z)])) p (.dK (putK kvs ky z))) { s' with heap := h2, toks := s'.toks } := d_write I4 (by rw [e5]; exact True.intro) hs7 he7 (dk_new hl7 hd5 hm dd7)
  refine wpAny_pure (wpAny_pure ?_)
  exact ⟨.ref p, _, I5, rfl, q3⟩
end
end MM
namespace DL
open PySem PySem.Spec PyProof.Rows L2
variable {ι : Type} {G : ι → Cx} {K : PySem.W.Frag} {mg : Str → Option Value} {base : Heap} {P : Program} {w : World} {N : List Str} {sc : Scope} {k : Nat}
variable {fr : Bool} {ow ow' owl : List Nat} {pos : Pos}
/-- {**x, k: v} -/
def starD (o ky t : Option T) : Option T := match o, ky, t with
  | some (.dic kts), some y, some τ => (keyOf y).bind fun kk => if (kts.map (·.1)).Nodup ∧ kts.length < sizeLine ∧ imm τ = true then some (.dic (putT kts kk τ)) else none
  | _, _, _ => none
theorem rd_upd {H : Hp} {a p : Addr} {o u : HO} (h : Rd H a u) (n : H p = none) : Rd (upd H p o) a u := by
  rcases h with h | ⟨ob, h⟩
  · exact .inl (by rw [upd_ne (ne_of_none h n)]; exact h)
  · exact .inr ⟨ob, by rw [upd_ne (ne_of_none h n)]; exact h⟩
theorem rd_ne {H : Hp} {a p : Addr} {u : HO} (h : Rd H a u) (n : H p = none) : a ≠ p := by
  rcases h with h | ⟨ob, h⟩
  · exact ne_of_none h n
  · exact ne_of_none h n
theorem evf_star {x : Str} {px : Pos} {ek ev : Expr} {dk dv : Env' → Option T} (hG : Fm G K mg base P w N sc k) (i : Nat) (hk : EV G K ek dk) (hv : EV G K ev dv) (hN : N[i]? = some x := by rfl) (hvx : visB sc x = true := by rfl)
    (hd : (x == ("__debug__" : Str)) = false := by decide) (hcd : (x == ("__classdict__" : Str)) = false := by decide) : EVF G K (.Dict [none, some ek] [.Name x px, ev] pos) (fun ρ => starD (nd i ρ) (dk ρ) (dv ρ)) := by
  intro ρ σ H τ Q hE hdd hq
  dsimp only at hdd
  unfold starD at hdd
  split at hdd
  · rename_i kts y t e1 e2 e3
    cases e4 : keyOf y with
    | none => rw [e4] at hdd; cases hdd
    | some kk =>
      rw [e4] at hdd
      dsimp only [Option.bind] at hdd
      split at hdd
      · rename_i c
        cases hdd
        refine ⟨MM.tStar (tVar i) (ES G ek) (ES G ev), fun j => MM.pe_star (pe_var (by rw [hG.N j]; exact hN) (by rw [hG.sc j]; exact vis_of hvx) hd hcd) (pe_ts j) (pe_ts j), fun p np => ?_⟩
        obtain ⟨v, ev', rv⟩ := hE.2 i _ (nd_some e1)
        obtain ⟨a, kvs, rfl, hrd, rk⟩ := rep_dic.mp rv
        have hap : a ≠ p := rd_ne hrd np
        have hl : kvs.length < sizeLine := by rw [← rk.length]; exact c.2.1
        refine ⟨_, ev', a, kvs, rfl, hap, rd_upd hrd np, upd_same, hl, fun q nq => ?_⟩
        have eu : upd (upd H p (.dK [])) p (.dK kvs) = upd H p (.dK kvs) := by
          funext b
          by_cases hb : b = p
          · subst hb; rw [upd_same, upd_same]
          · rw [upd_ne hb, upd_ne hb, upd_ne hb]
        rw [eu] at nq ⊢
        have nqH : H q = none := by
          by_cases hb : q = p
          · subst hb; rw [upd_same] at nq; cases nq
          · rw [upd_ne hb] at nq; exact nq
        have hqp : q ≠ p := fun z => by subst z; rw [upd_same] at nq; cases nq
        have s0 : Same H (upd (upd H p (.dK kvs)) q (.dK [])) := (same_upd' np).trans (same_upd' nq)
        refine hk ρ σ _ y _ (hE.same s0) e2 fun yv H2 s2 r2 => ?_
        refine hv ρ σ H2 t _ (hE.same (s0.trans s2)) e3 fun z H3 s3 r3 => ?_
        have e5 : H3 p = some (.dK kvs) := s3 _ _ (s2 _ _ (by rw [upd_ne (Ne.symm hqp)]; exact upd_same))
        have e6 : H3 q = some (.dK []) := s3 _ _ (s2 _ _ upd_same)
        refine ⟨kk, keyOf_rep e4 r2, hqp, e5, e6, ?_⟩
        -- what stood stands
        have sH : Same H (upd (upd H3 q (.dK [(kk, z)])) p (.dK (putK kvs kk z))) := fun b o e => by
          rw [upd_ne (ne_of_none e np), upd_ne (ne_of_none e nqH)]
          exact s3 _ _ (s2 _ _ (s0 _ _ e))
        have sT : Same (addT (fun _ => none) H3) (upd (upd H3 q (.dK [(kk, z)])) p (.dK (putK kvs kk z))) := fun b o e => by
          rw [addT_none rfl] at e
          have nb1 : b ≠ p := fun z => by subst z; rw [e5] at e; cases e
          have nb2 : b ≠ q := fun z => by subst z; rw [e6] at e; cases e
          rw [upd_ne nb1, upd_ne nb2]
          exact tupO_some e
        have rz := (imm_rep (K := K) (B := fun _ => none) (H := H3) (fun _ _ h => nomatch h) t z c.2.2 r3).same sT
        exact hq p _ _ sH np upd_same (.inr ⟨_, _, rfl, rfl, putT_rep rz (rk.same sH) c.1⟩)
      · cases hdd
  · cases hdd
end DL
/-! DL25: dict comprehensions over a dict's items. -/
namespace DL
open PySem PySem.Spec PyProof.Rows L2
variable {ι : Type} {G : ι → Cx} {K : PySem.W.Frag} {mg : Str → Option Value} {base : Heap} {P : Program} {w : World} {N : List Str} {sc : Scope} {k : Nat}
variable {fr : Bool} {ow ow' owl : List Nat} {pos : Pos}
/-- what a dict comprehension makes -/
def dcompD (bd : Env' → T → Option Env') (c : Env' → Option Bool) (ky e : Env' → Option T) (ρ : Env') : List T → List (Key × T) → Option (List (Key × T))
  | [], acc => some acc
  | t :: ts, acc => match bd ρ t with
    | none => none
    | some ρ1 => match c ρ1 with
      | some true => match (ky ρ1).bind keyOf, e ρ1 with
        | some kk, some τ => if imm τ = true then dcompD bd c ky e ρ ts (putT acc kk τ) else none
        | _, _ => none
      | some false => dcompD bd c ky e ρ ts acc
      | none => none
def dcD (bd : Env' → T → Option Env') (c : Env' → Option Bool) (ky e : Env' → Option T) (vs : List Nat) (ρ : Env') (o : Option (List T)) : Option T := match o with
  | some τs => if τs.length ≤ sizeLine then (dcompD bd c ky e (wipeD ρ vs) τs []).map T.dic else none
  | none => none
theorem addT_updK {B H : Hp} {D : Addr} {vs ws : List (Key × V)} (e : H D = some (.dK vs)) (n : B D = none) : addT B (upd H D (.dK ws)) = addT B H := by
  funext a
  by_cases h : a = D
  · subst h
    rw [addT_none n, addT_none n, upd_same, e]; rfl
  · cases q : B a with
    | some o => rw [addT_some q, addT_some q]
    | none => rw [addT_none q, addT_none q, upd_ne h]
theorem putT_len {kk : Key} {t : T} : ∀ {acc : List (Key × T)}, (putT acc kk t).length ≤ acc.length + 1
  | [] => by simp [putT]
  | (k', t') :: r => by
    unfold putT
    split
    · simp
    · have := putT_len (kk := kk) (t := t) (acc := r)
      simp; omega
theorem dc_read {scope : Scope} {tg iter kx elt : Expr} {ifs : List Expr} {own : List (Str × Nat)} {ts : List Nat} {bd : Env' → T → Option Env'} {dc : Env' → Option Bool} {dk de : Env' → Option T}
    (ht : TV (gBlk G scope) K [] tg ts bd) (hts : ∀ i ∈ ts, i ∈ own.map (·.2)) (hc : CV (gBlk G scope) K ifs dc) (hk : EV (gBlk G scope) K kx dk) (he : EV (gBlk G scope) K elt de) {ρ : Env'} {σ : St} {H : Hp} {τs : List T} {res : List (Key × T)} {Q : VK}
    (hE : EnvR K H σ ρ) (hi : IVat G K [] tg iter H ρ σ H τs) (hl : τs.length ≤ sizeLine) (hr : dcompD bd dc dk de (wipeD ρ (own.map (·.2))) τs [] = some res)
    (hq : ∀ p o H', Same H H' → H p = none → H' p = some o → FrO K H' (.dic res) o → Q (.ref p) H') :
    tDc (IT G tg iter) (GT (gBlk G scope) tg) (CTs (gBlk G scope) ifs) (ES (gBlk G scope) kx) (ES (gBlk G scope) elt) (own.map (·.2)) σ H Q := by
  refine hi _ fun J H1 B1 s1 sH hr1 wk => fun D nD => ?_
  have nB : B1 D = none := hr1.sm.free nD
  have hw := hr1.wipe (own.map (·.2))
  refine ⟨fun i m Hc => m = τs.length - i ∧ i ≤ τs.length ∧ Same H1 Hc ∧ ∃ acc vs, Hc D = some (.dK vs) ∧ RepsK K (addT B1 Hc) acc vs ∧ dcompD bd dc dk de (wipeD ρ (own.map (·.2))) (τs.drop i) acc = some res ∧ (acc.map (·.1)).Nodup ∧ acc.length ≤ i,
    ⟨_, rfl, Nat.zero_le _, same_upd' nD, [], [], upd_same, (by unfold RepsK; rfl), hr, List.nodup_nil, Nat.le_refl _⟩, ?_⟩
  rintro i m Hc ⟨rfl, hile, sc1, acc, vs, eD, racc, hrest, hnd, hlen⟩
  have sB : Same B1 Hc := hr1.sm.trans sc1
  by_cases hlt : i < τs.length
  · refine .inr ⟨wk.go i Hc sB hlt, fun H' => Same H1 H' ∧ ∃ acc vs, H' D = some (.dK vs) ∧ RepsK K (addT B1 H') acc vs ∧ dcompD bd dc dk de (wipeD ρ (own.map (·.2))) (τs.drop (i + 1)) acc = some res ∧ (acc.map (·.1)).Nodup ∧ acc.length ≤ i + 1,
      fun H' ⟨a, b⟩ => ⟨_, by omega, rfl, hlt, a, b⟩, fun x H' y => ?_⟩
    obtain ⟨sy, rx⟩ := wk.yld i _ Hc x H' sB (List.getElem?_eq_getElem hlt) y
    have ed : τs.drop i = τs[i] :: τs.drop (i + 1) := List.drop_eq_getElem_cons hlt
    rw [ed] at hrest
    unfold dcompD at hrest
    split at hrest
    · cases hrest
    · rename_i ρ1 e1
      have hw' : StR' K (addT B1 H') [] (wipeD ρ (own.map (·.2))) (L2.wipe σ (own.map (·.2))) H' := ((hw.grow sc1).grow sy).addT
      refine ht _ _ ρ1 _ H' _ x _ hw' rx e1 fun σ2 q2 off => ⟨wipe_off off hts, ?_⟩
      have eD' : H' D = some (.dK vs) := sy _ _ eD
      split at hrest
      · rename_i e2
        refine hc ρ1 σ2 H' true _ q2.env e2 fun H3 s3 => ?_
        rw [if_pos rfl]
        split at hrest
        · rename_i kk t ekk et
          split at hrest
          · rename_i im
            obtain ⟨yk, ey, eyk⟩ := Option.bind_eq_some_iff.mp ekk
            refine hk ρ1 σ2 H3 yk _ (q2.env.same s3) ey fun u H4 s4 r4 => ?_
            refine he ρ1 σ2 H4 t _ (q2.env.same (s3.trans s4)) et fun v H5 s5 r5 => ?_
            have eD5 : H5 D = some (.dK vs) := s5 _ _ (s4 _ _ (s3 _ _ eD'))
            refine ⟨vs, kk, keyOf_rep eyk r4, eD5, ?_, ?_, putT acc kk t, putK vs kk v, upd_same, ?_, hrest, ?_, ?_⟩
            · rw [← racc.length]; omega
            · intro b o z
              by_cases hb : b = D
              · subst hb; rw [nD] at z; cases z
              · rw [upd_ne hb]; exact s5 _ _ (s4 _ _ (s3 _ _ (sy _ _ (sc1 _ _ z))))
            · rw [addT_updK eD5 nB]
              have sB5 : Same B1 H5 := (((sB.trans sy).trans s3).trans s4).trans s5
              exact putT_rep (imm_rep sB5 t v im r5) (racc.same (addT_mono (((sy.trans s3).trans s4).trans s5))) hnd
            · exact (putT_keys hnd).1
            · have := putT_len (kk := kk) (t := t) (acc := acc); omega
          · cases hrest
        · cases hrest
      · rename_i e2
        refine hc ρ1 σ2 H' false _ q2.env e2 fun H3 s3 => ?_
        rw [if_neg Bool.false_ne_true]
        exact ⟨(sc1.trans sy).trans s3, acc, vs, s3 _ _ eD', racc.same (addT_mono (sy.trans s3)), hrest, hnd, by omega⟩
      · cases hrest
  · have e : i = τs.length := by omega
    subst e
    rw [List.drop_length] at hrest
    cases hrest
    refine .inl ⟨wk.stop _ Hc sB (Nat.le_refl _), ?_⟩
    exact hq D _ Hc (sH.trans sc1) (sH.free nD) eD (.inr ⟨_, _, rfl, rfl, racc.same (addT_same sB)⟩)
/-- {.. for .. in d.items() if ..} -/
theorem evf_dcK (hG : Fm G K mg base P w N sc k) (hN0 : N.Nodup) {scope : Scope} {tg iter kx elt : Expr} {ifs : List Expr} (own : List (Str × Nat)) {ts : List Nat} {bd : Env' → T → Option Env'} {dc : Env' → Option Bool} {dk de : Env' → Option T} {lst : List (Key × T) → List T}
    (j : Nat) (hi : KI G K j tg iter lst) (ht : TV (gBlk G scope) K [] tg ts bd) (hc : CV (gBlk G scope) K ifs dc) (hk : EV (gBlk G scope) K kx dk) (he : EV (gBlk G scope) K elt de) (hok : blkC N sc scope own = true := by decide +kernel) (hts : ∀ i ∈ ts, i ∈ own.map (·.2) := by decide)
    (hs : ∀ i x, foldedSetIterable iter (G i).env x = pure x := by intro _ _; rfl) : EVF G K (.DictComp kx elt [⟨tg, iter, ifs, 0⟩] scope pos) (fun ρ => dcD bd dc dk de (own.map (·.2)) ρ ((dicOf (nd j ρ)).map lst)) := by
  intro ρ σ H τ Q hE hd hq
  dsimp only at hd
  cases e : dicOf (nd j ρ) with
  | none => rw [e] at hd; cases hd
  | some kts =>
    rw [e] at hd
    have e1 : nd j ρ = some (.dic kts) := by
      unfold dicOf at e
      split at e
      · cases e; assumption
      · cases e
    unfold dcD at hd
    dsimp only [Option.map] at hd
    split at hd
    · rename_i hl
      cases e2 : dcompD bd dc dk de (wipeD ρ (own.map (·.2))) (lst kts) [] with
      | none => rw [e2] at hd; cases hd
      | some res =>
        rw [e2] at hd
        cases hd
        obtain ⟨v, es, rv⟩ := hE.2 j _ (nd_some e1)
        obtain ⟨d, kvs, rfl, rd, rk⟩ := rep_dic.mp rv
        have core : ∀ (H : Hp) (o : Obj) (Q : VK), EnvR K H σ ρ → H d = some (.frz o (.dK kvs)) → RepsK K H kts kvs → (∀ p o H', Same H H' → H p = none → H' p = some o → FrO K H' (.dic res) o → Q (.ref p) H') → ES G (.DictComp kx elt [⟨tg, iter, ifs, 0⟩] scope pos) σ H Q := by
          intro H o Q hE ed rk hq
          refine ⟨tDc (IT G tg iter) (GT (gBlk G scope) tg) (CTs (gBlk G scope) ifs) (ES (gBlk G scope) kx) (ES (gBlk G scope) elt) (own.map (·.2)), fun i => pe_dc (hG.calm i) (by rw [hG.N i]; exact hN0) (pi_it i) (by rw [hG.N i, hG.sc i]; exact blkOk_by hok)
            (fun s H C cl fp => pg_gt (G := gBlk G scope) (i, s, H, C, cl, fp)) (fun s H C cl fp => pts_cts (G := gBlk G scope) (i, s, H, C, cl, fp)) (fun s H C cl fp => pe_ts (G := gBlk G scope) (i, s, H, C, cl, fp)) (fun s H C cl fp => pe_ts (G := gBlk G scope) (i, s, H, C, cl, fp)) (hs i), ?_⟩
          refine dc_read ht hts hc hk he hE (fun R hR => ?_) hl e2 hq
          refine hi σ H R d o kvs es ed fun J hJ => ?_
          exact hR J H H (Same.refl H) (Same.refl H) hE.str (hJ H kts ed rk)
        rcases rd with rd | ⟨o, rd⟩
        · refine ⟨tLockE (ES G (.DictComp kx elt [⟨tg, iter, ifs, 0⟩] scope pos)), fun i => pe_lock (pe_ts i), d, .dK kvs, rd, trivial, fun od => ?_⟩
          have g := grow_dk (K := K) rd (.inl rfl) (.inr ⟨od, rfl⟩) (u' := .frz od (.dK kvs))
          refine core _ od _ (hE.str.relock rd (.inl rfl) (.inr ⟨od, rfl⟩)).env upd_same (RepsK.grow g _ _ rk) fun p o H' s np ep f => ?_
          have e3 : H' d = some (.frz od (.dK kvs)) := s _ _ upd_same
          have nd' : p ≠ d := by
            rintro rfl
            rw [upd_same] at np
            cases np
          refine ⟨e3, hq p o _ (same_relock (Same.refl H) rd s) (by rw [upd_ne nd'] at np; exact np) (by rw [upd_ne nd']; exact ep) (f.grow (grow_dk e3 (.inr ⟨od, rfl⟩) (.inl rfl)))⟩
        · exact core H o Q hE rd rk hq
    · cases hd

/-! ### while -/
def whileD (dc : Env' → Option Bool) (db : Env' → Out) : Nat → Env' → Out
  | 0, _ => .er
  | n + 1, ρ => match dc ρ with
    | some true => match db ρ with
      | .nx ρ2 => whileD dc db n ρ2
      | .ct ρ2 => whileD dc db n ρ2
      | .bk ρ2 => .nx ρ2
      | o => o
    | some false => .nx ρ
    | none => .er
theorem sv_while {c : Expr} {body : List Stmt} {dc : Env' → Option Bool} {db : Env' → Out} (hpo : ∀ i, PassesOwn (model (G i).prog (G i).w) (G i).A (G i).env (G i).xe) (hc : BV G K c dc) (hb : SV K fr ow ow ow (TSs G body) db) (n : Nat) :
    SV K fr ow ow owl (TSt G (.While c body [] pos)) (whileD dc db n) := by
  intro B ρ σ H D hr hp
  refine ⟨_, fun i => ps_while (hpo i) (pt_ts i) (pss_ss i), ?_⟩
  refine ⟨fun m σ H => ∃ ρ, StR K B ow ρ σ H ∧ Post K fr B D ow owl (whileD dc db m ρ), ⟨n, ρ, hr, hp⟩, ?_⟩
  rintro m σ H ⟨ρ, hr, hp⟩
  cases m with
  | zero => exact hp.elim
  | succ m =>
    unfold whileD at hp
    split at hp
    · rename_i e1
      refine hc ρ σ H true _ hr.env e1 fun H1 s1 => ?_
      rw [if_pos rfl]
      refine ⟨fun σ' H' => ∃ ρ', StR K B ow ρ' σ' H' ∧ Post K fr B D ow owl (whileD dc db m ρ'), fun σ' H' h => ⟨m, Nat.lt_succ_self m, h⟩, ?_⟩
      refine hb B ρ σ H1 _ (hr.grow s1) ?_
      split at hp
      · rename_i ρ2 e2
        rw [e2]
        exact fun σ2 H2 q => ⟨ρ2, q, hp⟩
      · rename_i ρ2 e2
        rw [e2]
        exact fun σ2 H2 q => ⟨ρ2, q, hp⟩
      · rename_i ρ2 e2
        rw [e2]
        exact fun σ2 H2 q => hp σ2 H2 q
      · rename_i o h1 h2 h3
        cases eo : db ρ with
        | nx ρ => exact absurd eo (h1 ρ)
        | ct ρ => exact absurd eo (h2 ρ)
        | bk ρ => exact absurd eo (h3 ρ)
        | rt t => rw [eo] at hp; exact hp
        | er => rw [eo] at hp; exact hp.elim
    · rename_i e1
      refine hc ρ σ H false _ hr.env e1 fun H1 s1 => ?_
      rw [if_neg Bool.false_ne_true]
      exact hp σ H1 (hr.grow s1)
    · exact hp.elim

/-! ### a parameter that holds a function -/
open Classical in
/-- f(es), f the name in slot j: its value is tS, worth φ -/
noncomputable def callV (tS : T) (φ : List T → Option T) (o : Option T) (d : Option (List T)) : Option T := if o = some tS then d.bind φ else none
/-- what the family may call -/
structure Calls (G : ι → Cx) (K : PySem.W.Frag) (N : List Str) (sc : Scope) (f : T) (n : Nat) (φ : List T → Option T) : Prop where
  ev : ∀ {x : Str} {p pos : Pos} {e : Expr} {es : List Expr} {da : Env' → Option (List T)} (j : Nat), AV G K (e :: es) da → N[j]? = some x → visB sc x = true → (x == ("__debug__" : Str)) = false → (x == ("__classdict__" : Str)) = false →
    (∀ i, starEach (e :: es) (G i).env = (false, eval e (G i).env) :: starEach es (G i).env) → (∀ i, (backTo pos (starEach es (G i).env)).any (·.1) = false) → (e :: es).length = n →
    EV G K (.Call (.Name x p) (e :: es) [] pos) (fun ρ => callV f φ (nd j ρ) (da ρ))
theorem ev_callV {f : T} {φ : List T → Option T} {n : Nat} (c : Calls G K N sc f n φ) {x : Str} {p : Pos} {e : Expr} {es : List Expr} {da : Env' → Option (List T)} (j : Nat) (ha : AV G K (e :: es) da) (hN : N[j]? = some x := by rfl) (hv : visB sc x = true := by rfl)
    (hdb : (x == ("__debug__" : Str)) = false := by decide) (hcd : (x == ("__classdict__" : Str)) = false := by decide)
    (he : ∀ i, starEach (e :: es) (G i).env = (false, eval e (G i).env) :: starEach es (G i).env := by intro _; rfl) (hpl : ∀ i, (backTo pos (starEach es (G i).env)).any (·.1) = false := by intro _; rfl)
    (hn : (e :: es).length = n := by rfl) : EV G K (.Call (.Name x p) (e :: es) [] pos) (fun ρ => callV f φ (nd j ρ) (da ρ)) := c.ev j ha hN hv hdb hcd he hpl hn
/-- a def of the module -/
theorem calls_mod {f : Addr} {φ : List T → Option T} {n m : Nat} (hG : Fm G K mg base P w N sc k) (c : ClA P w K mg base m f (spD K n false φ)) (hjk : m ≤ k) : Calls G K N sc (.raw (.ref f)) n φ := by
  refine ⟨fun {x p pos e es da} j ha hN hv hdb hcd he hpl hn => ?_⟩
  intro ρ σ H τ Q hE hd hq
  dsimp only at hd
  unfold callV at hd
  split at hd
  · rename_i e2
    cases e5 : da ρ with
    | none => rw [e5] at hd; cases hd
    | some ts =>
      rw [e5] at hd
      obtain ⟨fd, ps, F, kp, b⟩ := c.ex
      refine ⟨tCallL j f (spD K n false φ) [] E0 (TAs G (e :: es)), fun i => ?_, ?_⟩
      · refine pe_callL (k := k) (CX := CX0) (fd := fd) (ps := ps) (ds := []) ?_ (hG.room i) (by rw [hG.N i]; exact hN) (by rw [hG.sc i]; exact vis_of hv) (by rw [hG.K i]; exact kp) (by rw [hG.K i]; exact b) .nil pass0 (pa_ts i) hdb hcd (he i) (hpl i)
        rw [hG.P i, hG.w i, hG.K i, hG.mg i, hG.base i]
        exact F.mono hjk
      · obtain ⟨v, e6, r6⟩ := hE.2 j _ (nd_some e2)
        rw [rep_raw.mp r6] at e6
        refine ⟨e6, ?_⟩
        refine ha.2 ρ σ H ts _ hE e5 fun vs H1 s1 r => ?_
        rw [List.append_nil]
        exact ⟨ts, τ, r, (ha.1 ρ ts e5).trans hn, hd, fun v H' s2 r2 => hq v H' (s1.trans s2) r2⟩
  · cases hd
end DL
/-! DL26: slots that hold a new object, or the argument's own; what a def gives back of these. -/
namespace DL
open PySem PySem.Spec PyProof.Rows L2
variable {ι : Type} {G : ι → Cx} {K : PySem.W.Frag} {mg : Str → Option Value} {base : Heap} {P : Program} {w : World} {N : List Str} {sc : Scope} {k : Nat}
variable {pos : Pos}
/-- not in the base, or the argument's -/
def OwnA (B : Hp) (a0 : Option Addr) (a : Addr) : Prop := B a = none ∨ a0 = some a
structure StF (K : PySem.W.Frag) (B0 B : Hp) (a0 : Option Addr) (fs : List Nat) (ρ : Env') (σ : St) (H : Hp) : Prop where
  sb : Same B0 B
  st : StR K B [] ρ σ H
  fr : ∀ i ∈ fs, ∀ t, ρ[i]? = some (some t) → ∃ a o, σ[i]? = some (some (V.ref a)) ∧ OwnA B0 a0 a ∧ H a = some o ∧ FrO K H t o
theorem StF.grow {B0 B : Hp} {a0 : Option Addr} {fs : List Nat} {ρ : Env'} {σ : St} {H H' : Hp} (h : StF K B0 B a0 fs ρ σ H) (s : Same H H') : StF K B0 B a0 fs ρ σ H' :=
  ⟨h.sb, h.st.grow s, fun i m t e => let ⟨a, o, e1, e2, e3, f⟩ := h.fr i m t e; ⟨a, o, e1, e2, s _ _ e3, f.same s⟩⟩
theorem StF.sub {B0 B : Hp} {a0 : Option Addr} {fs fs' : List Nat} {ρ : Env'} {σ : St} {H : Hp} (h : StF K B0 B a0 fs ρ σ H) (hs : ∀ i ∈ fs', i ∈ fs) : StF K B0 B a0 fs' ρ σ H := ⟨h.sb, h.st, fun i m => h.fr i (hs i m)⟩
def PostF (K : PySem.W.Frag) (B0 B : Hp) (a0 : Option Addr) (D : Ends) (fs' fsl : List Nat) : Out → Prop
  | .nx ρ => ∀ σ H, StF K B0 B a0 fs' ρ σ H → D.nx σ H
  | .bk ρ => ∀ σ H, StF K B0 B a0 fsl ρ σ H → D.bk σ H
  | .ct ρ => ∀ σ H, StF K B0 B a0 fsl ρ σ H → D.ct σ H
  | .rt τ => ∀ v H, Same B H → (∃ p o, v = .ref p ∧ OwnA B0 a0 p ∧ H p = some o ∧ FrO K H τ o) → D.rt v H
  | .er => False
def SVF (K : PySem.W.Frag) (fs fs' fsl : List Nat) (R : TS) (d : Env' → Out) : Prop :=
  ∀ B0 B a0 ρ σ H D, StF K B0 B a0 fs ρ σ H → PostF K B0 B a0 D fs' fsl (d ρ) → R D σ H
variable {fs fs' fs2 fsl : List Nat} {R : TS} {d d1 d2 : Env' → Out} {st : Stmt} {sts : List Stmt} {e : Expr} {de : Env' → Option T}
theorem svf_nil : SVF K fs fs fsl (TSs G []) (fun ρ => .nx ρ) := fun B0 B a0 ρ σ H D hr hp => ⟨_, fun _ => pss_nil, hp σ H hr⟩
theorem svf_cons (h1 : SVF K fs fs2 fsl (TSt G st) d1) (h2 : SVF K fs2 fs' fsl (TSs G sts) d2) : SVF K fs fs' fsl (TSs G (st :: sts)) (seqD d1 d2) := by
  intro B0 B a0 ρ σ H D hr hp
  refine ⟨tSeq (TSt G st) (TSs G sts), fun i => pss_cons (ps_st i) (pss_ss i), ?_⟩
  refine h1 B0 B a0 ρ σ H _ hr ?_
  unfold seqD at hp
  split at hp
  · rename_i ρ' e
    rw [e]
    exact fun σ' H' hr' => h2 B0 B a0 ρ' σ' H' D hr' hp
  · rename_i ne
    cases e : d1 ρ with
    | nx ρ' => exact absurd e (ne ρ')
    | _ => rw [e] at hp; exact hp
theorem svf_one (h : SVF K fs fs' fsl (TSt G st) d) : SVF K fs fs' fsl (TSs G [st]) d := fun B0 B a0 ρ σ H D hr hp => ⟨_, fun i => pss_one (ps_st i), h B0 B a0 ρ σ H D hr hp⟩
theorem svf_sub (hs : ∀ i ∈ fs2, i ∈ fs) (h : SVF K fs2 fs' fsl R d) : SVF K fs fs' fsl R d := fun B0 B a0 ρ σ H D hr hp => h B0 B a0 ρ σ H D (hr.sub hs) hp
theorem svf_weak (hs : ∀ i ∈ fs2, i ∈ fs') (h : SVF K fs fs' fsl R d) : SVF K fs fs2 fsl R d := fun B0 B a0 ρ σ H D hr hp => h B0 B a0 ρ σ H D hr (by
  cases e : d ρ with
  | nx ρ' => rw [e] at hp; exact fun σ H q => hp σ H (q.sub hs)
  | _ => rw [e] at hp; exact hp)
theorem svf_if {c : Expr} {a b : List Stmt} {dc : Env' → Option Bool} (hc : BV G K c dc) (ha : SVF K fs fs' fsl (TSs G a) d1) (hb : SVF K fs fs' fsl (TSs G b) d2) :
    SVF K fs fs' fsl (TSt G (.If c a b pos)) (fun ρ => ifD (dc ρ) d1 d2 ρ) := by
  intro B0 B a0 ρ σ H D hr hp
  dsimp only at hp
  unfold ifD at hp
  refine ⟨_, fun i => ps_if (pt_ts i) (pss_ss i) (pss_ss i), ?_⟩
  split at hp
  · rename_i e1
    refine hc ρ σ H true _ hr.st.env e1 fun H1 s1 => ?_
    rw [if_pos rfl]
    exact ha B0 B a0 ρ σ H1 D (hr.grow s1) hp
  · rename_i e1
    refine hc ρ σ H false _ hr.st.env e1 fun H1 s1 => ?_
    rw [if_neg Bool.false_ne_true]
    exact hb B0 B a0 ρ σ H1 D (hr.grow s1) hp
  · cases hp
/-- e is worth d: a new object, or one of these -/
def EVR (G : ι → Cx) (K : PySem.W.Frag) (fs : List Nat) (e : Expr) (d : Env' → Option T) : Prop :=
  ∀ B0 B a0 ρ σ H τ Q, StF K B0 B a0 fs ρ σ H → d ρ = some τ → (∀ p o H', Same H H' → OwnA B0 a0 p → H' p = some o → FrO K H' τ o → Q (.ref p) H') → ES G e σ H Q
theorem EVF.evr (h : EVF G K e de) : EVR G K fs e de := fun B0 B a0 ρ σ H τ Q hr hd hq => h ρ σ H τ Q hr.st.env hd fun p o H' s np ep f => hq p o H' s (.inl (hr.sb.free (hr.st.sm.free np))) ep f
theorem evr_name (hG : Fm G K mg base P w N sc k) (i : Nat) (hi : i ∈ fs) {x : Str} (hN : N[i]? = some x := by rfl) (hv : visB sc x = true := by rfl)
    (hd : (x == ("__debug__" : Str)) = false := by decide) (hcd : (x == ("__classdict__" : Str)) = false := by decide) : EVR G K fs (.Name x pos) (nd i) := by
  intro B0 B a0 ρ σ H τ Q hr hd' hq
  refine ⟨tVar i, fun j => pe_var (by rw [hG.N j]; exact hN) (by rw [hG.sc j]; exact vis_of hv) hd hcd, ?_⟩
  obtain ⟨a, o, e1, e2, e3, f⟩ := hr.fr i hi τ (nd_some hd')
  exact ⟨_, e1, hq a o H (Same.refl H) e2 e3 f⟩
theorem svf_ret (h : EVR G K fs e de) : SVF K fs fs' fsl (TSt G (.Return (some e) pos)) (fun ρ => rtD (de ρ)) := by
  intro B0 B a0 ρ σ H D hr hp
  dsimp only at hp
  unfold rtD at hp
  split at hp
  · rename_i τ e1
    exact ⟨_, fun i => ps_ret (pe_ts i), h B0 B a0 ρ σ H τ _ hr e1 fun p o H' s ow ep f => hp _ H' (hr.st.sm.trans s) ⟨p, o, rfl, ow, ep, f⟩⟩
  · cases hp
/-- name = e -/
theorem svf_set (hG : Fm G K mg base P w N sc k) (hN0 : N.Nodup) (hF : FnB G sc) (i : Nat) (hfs : ∀ j ∈ fs', j ∈ fs ∧ j ≠ i) {x : Str} {pos' : Pos} (h : EV G K e de) (hN : N[i]? = some x := by rfl) (hv : locB sc x = true := by rfl)
    (hs : ∀ i, swapsWith e (some (.Name x pos')) pos.line (G i).env = pure false := by intro _; rfl) : SVF K fs fs' fsl (TSt G (.Assign [.Name x pos'] e pos)) (fun ρ => setD true i (de ρ) ρ) := by
  intro B0 B a0 ρ σ H D hr hp
  dsimp only at hp
  unfold setD at hp
  split at hp
  · rename_i τ e1
    rw [if_pos (by simp)] at hp
    refine ⟨_, fun j => ps_set (i := i) (by rw [hG.N j]; exact hN0) (by rw [hG.N j]; exact hN) (by rw [hG.sc j]; exact loc_of hv) (pe_ts j) (hs j) (hF.fn j x), ?_⟩
    refine h ρ σ H τ _ hr.st.env e1 fun v H' s r => ?_
    obtain ⟨B2, s2, q, r2⟩ := (hr.st.grow s).settle (.inl rfl) r
    refine hp _ H' ⟨hr.sb, ⟨B2, s2, q.set (by simp) r2⟩, fun j m t ej => ?_⟩
    obtain ⟨m1, nj⟩ := hfs j m
    rw [List.getElem?_set_ne (Ne.symm nj)] at ej
    obtain ⟨a, o, e2, e3, e4, f⟩ := hr.fr j m1 t ej
    exact ⟨a, o, by rw [List.getElem?_set_ne (Ne.symm nj)]; exact e2, e3, s _ _ e4, f.same s⟩
  · cases hp
/-- name = e, e new or one of these -/
theorem svf_setR (hG : Fm G K mg base P w N sc k) (hN0 : N.Nodup) (hF : FnB G sc) (i : Nat) (hfs : ∀ j ∈ fs', j = i ∨ (j ∈ fs ∧ j ≠ i)) {x : Str} {pos' : Pos} (h : EVR G K fs e de) (hN : N[i]? = some x := by rfl) (hv : locB sc x = true := by rfl)
    (hs : ∀ i, swapsWith e (some (.Name x pos')) pos.line (G i).env = pure false := by intro _; rfl) : SVF K fs fs' fsl (TSt G (.Assign [.Name x pos'] e pos)) (fun ρ => setD true i (de ρ) ρ) := by
  intro B0 B a0 ρ σ H D hr hp
  dsimp only at hp
  unfold setD at hp
  split at hp
  · rename_i τ e1
    rw [if_pos (by simp)] at hp
    refine ⟨_, fun j => ps_set (i := i) (by rw [hG.N j]; exact hN0) (by rw [hG.N j]; exact hN) (by rw [hG.sc j]; exact loc_of hv) (pe_ts j) (hs j) (hF.fn j x), ?_⟩
    refine h B0 B a0 ρ σ H τ _ hr e1 fun p o H' s ow ep f => ?_
    obtain ⟨B2, s2, q, r2⟩ := (hr.st.grow s).settle (.inl rfl) (f.rep ep)
    refine hp _ H' ⟨hr.sb, ⟨B2, s2, q.set (by simp) r2⟩, fun j m t ej => ?_⟩
    rcases set_get ej with ⟨rfl, e'⟩ | ⟨nj, e'⟩
    · cases e'
      have hl : j < σ.length := by
        rw [hr.st.env.1]
        have := (List.getElem?_eq_some_iff.mp ej).1
        simpa using this
      exact ⟨p, o, List.getElem?_set_self hl, ow, ep, f⟩
    · rcases hfs j m with z | ⟨m1, _⟩
      · exact absurd z nj
      · obtain ⟨a, o2, e2, e3, e4, f2⟩ := hr.fr j m1 t e'
        exact ⟨a, o2, by rw [List.getElem?_set_ne (Ne.symm nj)]; exact e2, e3, s _ _ e4, f2.same s⟩
  · cases hp
theorem StF.of {B0 B B1 : Hp} {a0 : Option Addr} {ρ : Env'} {σ : St} {H : Hp} (h : StF K B0 B1 a0 fs ρ σ H) (hb : Same B0 B) (s : Same B B1) : StF K B0 B a0 fs ρ σ H := ⟨hb, h.st.of s, h.fr⟩
theorem PostF.rebase {B0 B B1 : Hp} {a0 : Option Addr} {D : Ends} {o : Out} (hb : Same B0 B) (s : Same B B1) (h : PostF K B0 B a0 D fs' fsl o) : PostF K B0 B1 a0 D fs' fsl o := by
  cases o with
  | nx ρ => exact fun σ H q => h σ H (q.of hb s)
  | bk ρ => exact fun σ H q => h σ H (q.of hb s)
  | ct ρ => exact fun σ H q => h σ H (q.of hb s)
  | rt τ => exact fun v H q r => h v H (s.trans q) r
  | er => exact h
/-- for -/
theorem svf_forI {tg iter : Expr} {bd : Env' → T → Option Env'} {body : List Stmt} {db : Env' → Out} {dl : Env' → Option (List T)} (hG : Fm G K mg base P w N sc k) (hpo : ∀ i, PassesOwn (model (G i).prog (G i).w) (G i).A (G i).env (G i).xe)
    {vs : List Nat} (hi : IV G K [] tg iter dl) (ht : TV G K [] tg vs bd) (hvs : ∀ j ∈ fs, j ∉ vs) (hbd : ∀ ρ t ρ', bd ρ t = some ρ' → ∀ j, j ∉ vs → ρ'[j]? = ρ[j]?) (hb : SVF K fs fs fs (TSs G body) db) (hs : ∀ i x, foldedSetIterable iter (G i).env x = pure x := by intro _ _; rfl) :
    SVF K fs fs fsl (TSt G (.For tg iter body [] pos)) (fun ρ => forI bd db (dl ρ) ρ) := by
  intro B0 B a0 ρ σ H D hr hp
  dsimp only at hp
  unfold forI at hp
  split at hp
  · rename_i τs e
    obtain ⟨B', sB', q⟩ := id hr.st
    refine ⟨tFor (IT G tg iter) (GT G tg) (TSs G body), fun i => ps_for (hpo i) (hG.calm i) (pi_it i) (pg_gt i) (pss_ss i) (hs i), ?_⟩
    refine hi B' ρ σ H τs q e _ fun J H1 B1 s1 sH hr1 wk => ?_
    have sb1 : Same B0 B1 := hr.sb.trans (sB'.trans s1)
    have hr1' : StF K B0 B1 a0 fs ρ σ H1 := ⟨sb1, ⟨B1, Same.refl B1, hr1⟩, (hr.grow sH).fr⟩
    refine ⟨fun i m σ H => m = τs.length - i ∧ i ≤ τs.length ∧ ∃ ρi, StF K B0 B1 a0 fs ρi σ H ∧ PostF K B0 B1 a0 D fs fsl (forD bd db (τs.drop i) ρi), ⟨_, rfl, Nat.zero_le _, ρ, hr1', PostF.rebase hr.sb (sB'.trans s1) hp⟩, ?_⟩
    rintro i m σi Hi ⟨rfl, hile, ρi, hfi, hpi⟩
    by_cases hlt : i < τs.length
    · refine .inr ⟨wk.go i Hi hfi.st.sm hlt, fun σ' H' => ∃ ρ', StF K B0 B1 a0 fs ρ' σ' H' ∧ PostF K B0 B1 a0 D fs fsl (forD bd db (τs.drop (i + 1)) ρ'), fun σ' H' ⟨ρ', a, b⟩ => ⟨_, by omega, rfl, hlt, ρ', a, b⟩, fun x H' y => ?_⟩
      obtain ⟨sH', rx⟩ := wk.yld i _ Hi x H' hfi.st.sm (List.getElem?_eq_getElem hlt) y
      have ed : τs.drop i = τs[i] :: τs.drop (i + 1) := List.drop_eq_getElem_cons hlt
      rw [ed] at hpi
      unfold forD at hpi
      obtain ⟨B2, s2, q2⟩ := hfi.st.grow sH'
      have rx2 : Rep K (addT B2 H') τs[i] x := rx.same fun a o h => by
        cases e : B1 a with
        | some u =>
          rw [addT_some e] at h
          exact addT_some (by rw [← h]; exact s2 a u e)
        | none =>
          rw [addT_none e] at h
          cases e2 : B2 a with
          | some u =>
            rw [addT_some e2]
            have := q2.sm a u e2
            rw [tupO_some h] at this
            exact this.symm
          | none => rw [addT_none e2]; exact h
      split at hpi
      · cases hpi
      · rename_i ρ1 e1
        refine ht (addT B2 H') ρi ρ1 σi H' _ x _ q2.addT rx2 e1 fun σ1 q1 off => ?_
        have hf1 : StF K B0 B1 a0 fs ρ1 σ1 H' := by
          refine ⟨sb1, ⟨_, s2.trans same_addT, q1⟩, fun j m t ej => ?_⟩
          have nj := hvs j m
          rw [hbd ρi _ ρ1 e1 j nj] at ej
          obtain ⟨a, o, e2, e3, e4, f⟩ := (hfi.grow sH').fr j m t ej
          exact ⟨a, o, by rw [off.2 j nj]; exact e2, e3, e4, f⟩
        refine hb B0 B1 a0 ρ1 σ1 H' _ hf1 ?_
        split at hpi
        · rename_i ρ2 e2
          rw [e2]
          exact fun σ2 H2 q => ⟨ρ2, q, hpi⟩
        · rename_i ρ2 e2
          rw [e2]
          exact fun σ2 H2 q => ⟨ρ2, q, hpi⟩
        · rename_i ρ2 e2
          rw [e2]
          exact fun σ2 H2 q => hpi σ2 H2 q
        · rename_i o h1 h2 h3
          cases eo : db ρ1 with
          | nx ρ => exact absurd eo (h1 ρ)
          | ct ρ => exact absurd eo (h2 ρ)
          | bk ρ => exact absurd eo (h3 ρ)
          | rt t => rw [eo] at hpi; exact hpi
          | er => rw [eo] at hpi; exact hpi.elim
    · have e : i = τs.length := by omega
      subst e
      refine .inl ⟨wk.stop _ Hi hfi.st.sm (Nat.le_refl _), ?_⟩
      rw [List.drop_length] at hpi
      exact hpi σi Hi hfi
  · cases hp
theorem bdN_off {i : Nat} : ∀ (ρ : Env') (t : T) (ρ' : Env'), bdN i ρ t = some ρ' → ∀ j, j ∉ [i] → ρ'[j]? = ρ[j]? := by
  intro ρ t ρ' h j hj
  cases h
  exact List.getElem?_set_ne (fun z => hj (by simp [z]))
/-- while -/
theorem svf_while {c : Expr} {body : List Stmt} {dc : Env' → Option Bool} {db : Env' → Out} (hpo : ∀ i, PassesOwn (model (G i).prog (G i).w) (G i).A (G i).env (G i).xe) (hc : BV G K c dc) (hb : SVF K fs fs fs (TSs G body) db) (n : Nat) :
    SVF K fs fs fsl (TSt G (.While c body [] pos)) (whileD dc db n) := by
  intro B0 B a0 ρ σ H D hr hp
  refine ⟨_, fun i => ps_while (hpo i) (pt_ts i) (pss_ss i), ?_⟩
  refine ⟨fun m σ H => ∃ ρ, StF K B0 B a0 fs ρ σ H ∧ PostF K B0 B a0 D fs fsl (whileD dc db m ρ), ⟨n, ρ, hr, hp⟩, ?_⟩
  rintro m σ H ⟨ρ, hr, hp⟩
  cases m with
  | zero => exact hp.elim
  | succ m =>
    unfold whileD at hp
    split at hp
    · rename_i e1
      refine hc ρ σ H true _ hr.st.env e1 fun H1 s1 => ?_
      rw [if_pos rfl]
      refine ⟨fun σ' H' => ∃ ρ', StF K B0 B a0 fs ρ' σ' H' ∧ PostF K B0 B a0 D fs fsl (whileD dc db m ρ'), fun σ' H' h => ⟨m, Nat.lt_succ_self m, h⟩, ?_⟩
      refine hb B0 B a0 ρ σ H1 _ (hr.grow s1) ?_
      split at hp
      · rename_i ρ2 e2
        rw [e2]
        exact fun σ2 H2 q => ⟨ρ2, q, hp⟩
      · rename_i ρ2 e2
        rw [e2]
        exact fun σ2 H2 q => ⟨ρ2, q, hp⟩
      · rename_i ρ2 e2
        rw [e2]
        exact fun σ2 H2 q => hp σ2 H2 q
      · rename_i o h1 h2 h3
        cases eo : db ρ with
        | nx ρ => exact absurd eo (h1 ρ)
        | ct ρ => exact absurd eo (h2 ρ)
        | bk ρ => exact absurd eo (h3 ρ)
        | rt t => rw [eo] at hp; exact hp
        | er => rw [eo] at hp; exact hp.elim
    · rename_i e1
      refine hc ρ σ H false _ hr.st.env e1 fun H1 s1 => ?_
      rw [if_neg Bool.false_ne_true]
      exact hp σ H1 (hr.grow s1)
    · exact hp.elim

/-! ### a def that gives back its first argument or something new -/
/-- n arguments, worth df; the first is a list or dict that stands by itself -/
def spR (K : PySem.W.Frag) (n : Nat) (df : List T → Option T) : Sp := fun vs H Q _ => ∃ ts τ t0 p0 o0 rest, Reps K H ts vs ∧ ts.length = n ∧ df ts = some τ ∧ ts.head? = some t0 ∧ vs = .ref p0 :: rest ∧ H p0 = some o0 ∧ FrO K H t0 o0 ∧
  ∀ p o H', Same H H' → (H p = none ∨ p = p0) → H' p = some o → FrO K H' τ o → Q (.ref p) H'
/-- THE RULE -/
theorem fn_r {x : Str} {f : Addr} {fd : FuncData} {p1 : Str} {ps : List Str} {df : List T → Option T} (F : Fun K x x st f fd) (S : FnScope N (p1 :: ps) (defScope st)) (hm : mg x = some (.ref f)) (hb : Binds K fd (p1 :: ps) [])
    (body : ∀ (G : Unit → Cx), Fb G K mg base P w N (defScope st) k → SVF K [0] fs' [] (TSs G (defBody st)) d) (hd : ∀ ts, ts.length = ps.length + 1 → ∀ τ, df ts = some τ → d (rho0 N ts) = .rt τ) :
    Cl P w K mg base (k + 1) x (spR K (ps.length + 1) df) := by
  have hpl : ps.length + 1 ≤ N.length := by
    have := congrArg List.length S.pre
    rw [List.length_take] at this
    simp at this
    omega
  refine ⟨f, fd, p1 :: ps, ?_, hm, F.kp, hb⟩
  refine F.ok S (fun vs H Q E h => ?_) (fun cdv A outer s H vs Q E hr h => ?_)
  · obtain ⟨ts, τ, t0, p0, o0, rest, r, hl, _⟩ := h
    rw [← r.length]; exact hl
  · obtain ⟨ts, τ, t0, p0, o0, rest, r, hl, e, et, ev, e0, f0, q⟩ := h
    have e := hd ts hl τ e
    have hF : Fb (fun _ : Unit => (cxOf CX0 P w K mg base N x (defScope st) f cdv A outer s H E).nox) K mg base P w N (defScope st) k :=
      { K := fun _ => rfl, mg := fun _ => rfl, base := fun _ => rfl, P := fun _ => rfl, w := fun _ => rfl, N := fun _ => rfl, sc := fun _ => rfl, calm := fun _ => rfl, room := fun _ => hr,
        po := fun _ => PassesOwn.never, fb := ⟨fun _ _ => .inl rfl⟩ }
    refine ⟨_, pss_ss (G := fun _ : Unit => (cxOf CX0 P w K mg base N x (defScope st) f cdv A outer s H E).nox) (), ?_⟩
    have hs := start_str (N := N) r (by omega)
    refine body _ hF H H (some p0) (rho0 N ts) (L2.start N vs) H _ ⟨Same.refl H, ⟨H, Same.refl H, hs⟩, fun i m t ei => ?_⟩ ?_
    · have : i = 0 := by simpa using m
      subst this
      cases ts with
      | nil => cases et
      | cons t1 ts =>
        cases et
        have e1 : (rho0 N (t0 :: ts))[0]? = some (some t0) := by unfold rho0; rfl
        rw [e1] at ei
        cases ei
        refine ⟨p0, o0, ?_, .inr rfl, e0, f0⟩
        subst ev
        unfold L2.start; rfl
    · rw [e]
      rintro v H' s ⟨p, o, rfl, ow, ep, f⟩
      refine q p o H' s ?_ ep f
      rcases ow with z | z
      · exact .inl z
      · cases z; exact .inr rfl
variable {x : Str} {p : Pos} {es : List Expr} {da : Env' → Option (List T)} {d0 : Env' → Option T} {j n : Nat} {df : List T → Option T}
theorem evr_call (hG : Fm G K mg base P w N sc k) (c : Cl P w K mg base j x (spR K n df)) (h0 : EVR G K fs e d0) (ha : AV G K es da) (hjk : j ≤ k := by decide) (hg : glB sc x = true := by rfl) (hdb : (x == ("__debug__" : Str)) = false := by decide)
    (he : ∀ i, starEach (e :: es) (G i).env = (false, eval e (G i).env) :: starEach es (G i).env := by intro _; rfl) (hpl : ∀ i, (backTo pos (starEach es (G i).env)).any (·.1) = false := by intro _; rfl)
    (hn : (e :: es).length = n := by rfl) : EVR G K fs (.Call (.Name x p) (e :: es) [] pos) (fun ρ => (consD (d0 ρ) (da ρ)).bind df) := by
  intro B0 B a0 ρ σ H τ Q hr hd hq
  dsimp only at hd
  cases e1 : consD (d0 ρ) (da ρ) with
  | none => rw [e1] at hd; cases hd
  | some ts =>
    rw [e1] at hd
    obtain ⟨t0, tr, e2, e3, rfl⟩ := consD_some e1
    refine ⟨tCall (spR K n df) [] E0 (tCons (ES G e) (TAs G es)), fun i => pe_cl hG c i hjk hg hdb (pa_cons (pe_ts i) (pa_ts i) (he i)) (he i) (hpl i), ?_⟩
    refine h0 B0 B a0 ρ σ H t0 _ hr e2 fun p0 o0 H1 s1 ow ep f0 => ?_
    refine ha.2 ρ σ H1 tr _ (hr.grow s1).st.env e3 fun vs H2 s2 r => ?_
    show spR K n df ((V.ref p0 :: vs) ++ []) H2 Q E0
    rw [List.append_nil]
    refine ⟨t0 :: tr, τ, t0, p0, o0, vs, .cons ((f0.same s2).rep (s2 _ _ ep)) r, by have := ha.1 ρ tr e3; rw [← hn]; simp [this], hd, rfl, rfl, s2 _ _ ep, f0.same s2, fun p o H' s3 hp ep' f => ?_⟩
    refine hq p o H' ((s1.trans s2).trans s3) ?_ ep' f
    rcases hp with z | z
    · exact .inl (hr.sb.free (hr.st.sm.free ((s1.trans s2).free z)))
    · rw [z]; exact ow
/-- a def that gives back something new -/
theorem fn_f {x : Str} {f : Addr} {fd : FuncData} {ps : List Str} {df : List T → Option T} (F : Fun K x x st f fd) (S : FnScope N ps (defScope st)) (hm : mg x = some (.ref f)) (hb : Binds K fd ps [])
    (body : ∀ (G : Unit → Cx), Fb G K mg base P w N (defScope st) k → SVF K [] fs' [] (TSs G (defBody st)) d) (hd : ∀ ts, ts.length = ps.length → ∀ τ, df ts = some τ → d (rho0 N ts) = .rt τ) :
    Cl P w K mg base (k + 1) x (spD K ps.length true df) := by
  have hpl : ps.length ≤ N.length := by
    have := congrArg List.length S.pre
    rw [List.length_take] at this
    omega
  refine ⟨f, fd, ps, ?_, hm, F.kp, hb⟩
  refine F.ok S (fun vs H Q E h => ?_) (fun cdv A outer s H vs Q E hr h => ?_)
  · obtain ⟨ts, τ, r, hl, _⟩ := h
    rw [← r.length]; exact hl
  · obtain ⟨ts, τ, r, hl, e, q⟩ := h
    have e := hd ts hl τ e
    have hF : Fb (fun _ : Unit => (cxOf CX0 P w K mg base N x (defScope st) f cdv A outer s H E).nox) K mg base P w N (defScope st) k :=
      { K := fun _ => rfl, mg := fun _ => rfl, base := fun _ => rfl, P := fun _ => rfl, w := fun _ => rfl, N := fun _ => rfl, sc := fun _ => rfl, calm := fun _ => rfl, room := fun _ => hr,
        po := fun _ => PassesOwn.never, fb := ⟨fun _ _ => .inl rfl⟩ }
    refine ⟨_, pss_ss (G := fun _ : Unit => (cxOf CX0 P w K mg base N x (defScope st) f cdv A outer s H E).nox) (), ?_⟩
    refine body _ hF H H none (rho0 N ts) (L2.start N vs) H _ ⟨Same.refl H, ⟨H, Same.refl H, start_str r (by omega)⟩, fun i m => absurd m (by simp)⟩ ?_
    rw [e]
    rintro v H' s ⟨p, o, rfl, ow, ep, f⟩
    refine q _ H' s ?_
    rcases ow with z | z
    · exact ⟨p, o, rfl, z, ep, f⟩
    · cases z
/-- the promise read as that of a plain value -/
theorem spR_call : True := trivial
end DL
/-! DL27: a block that but reads: what was owned ahead of it is owned behind it; get with one argument. -/
namespace DL
open PySem PySem.Spec PyProof.Rows L2
variable {ι : Type} {G : ι → Cx} {K : PySem.W.Frag} {mg : Str → Option Value} {base : Heap} {P : Program} {w : World} {N : List Str} {sc : Scope} {k : Nat}
variable {pos : Pos} {ow owl : List Nat} {ts vs : List Nat} {R : TS} {d d1 d2 : Env' → Out} {st : Stmt} {sts : List Stmt} {e : Expr} {de : Env' → Option T}
theorem OffT.refl {σ : St} : OffT ts σ σ := ⟨rfl, fun _ _ => rfl⟩
theorem OffT.trans {σ σ1 σ2 : St} (a : OffT ts σ σ1) (b : OffT ts σ1 σ2) : OffT ts σ σ2 := ⟨b.1.trans a.1, fun j hj => (b.2 j hj).trans (a.2 j hj)⟩
theorem OffT.mono {σ σ1 : St} (a : OffT vs σ σ1) (h : ∀ i ∈ vs, i ∈ ts) : OffT ts σ σ1 := ⟨a.1, fun j hj => a.2 j fun z => hj (h j z)⟩
def PostO (K : PySem.W.Frag) (B : Hp) (σ0 : St) (D : Ends) (ts : List Nat) : Out → Prop
  | .nx ρ => ∀ σ H, StR K B [] ρ σ H → OffT ts σ0 σ → D.nx σ H
  | .bk ρ => ∀ σ H, StR K B [] ρ σ H → OffT ts σ0 σ → D.bk σ H
  | .ct ρ => ∀ σ H, StR K B [] ρ σ H → OffT ts σ0 σ → D.ct σ H
  | .rt τ => ∀ v H, Same B H → Rep K H τ v → D.rt v H
  | .er => False
/-- all but the slots ts stand, and all that stood stands -/
def SVO (K : PySem.W.Frag) (ts : List Nat) (R : TS) (d : Env' → Out) : Prop :=
  ∀ B ρ σ H D, StR K B [] ρ σ H → PostO K B σ D ts (d ρ) → R D σ H
theorem PostO.off {B : Hp} {σ0 σ1 : St} {D : Ends} {o : Out} (h : PostO K B σ0 D ts o) (f : OffT ts σ0 σ1) : PostO K B σ1 D ts o := by
  cases o with
  | nx ρ => exact fun σ H q g => h σ H q (f.trans g)
  | bk ρ => exact fun σ H q g => h σ H q (f.trans g)
  | ct ρ => exact fun σ H q g => h σ H q (f.trans g)
  | rt τ => exact h
  | er => exact h
theorem PostO.rebase {B B1 : Hp} {σ0 : St} {D : Ends} {o : Out} (s : Same B B1) (h : PostO K B σ0 D ts o) : PostO K B1 σ0 D ts o := by
  cases o with
  | nx ρ => exact fun σ H q g => h σ H (q.of s) g
  | bk ρ => exact fun σ H q g => h σ H (q.of s) g
  | ct ρ => exact fun σ H q g => h σ H (q.of s) g
  | rt τ => exact fun v H q r => h v H (s.trans q) r
  | er => exact h
theorem svo_nil : SVO K ts (TSs G []) (fun ρ => .nx ρ) := fun B ρ σ H D hr hp => ⟨_, fun _ => pss_nil, hp σ H hr .refl⟩
theorem svo_cons (h1 : SVO K ts (TSt G st) d1) (h2 : SVO K ts (TSs G sts) d2) : SVO K ts (TSs G (st :: sts)) (seqD d1 d2) := by
  intro B ρ σ H D hr hp
  refine ⟨tSeq (TSt G st) (TSs G sts), fun i => pss_cons (ps_st i) (pss_ss i), ?_⟩
  refine h1 B ρ σ H _ hr ?_
  unfold seqD at hp
  split at hp
  · rename_i ρ' e
    rw [e]
    exact fun σ' H' hr' f => h2 B ρ' σ' H' D hr' (hp.off f)
  · rename_i ne
    cases e : d1 ρ with
    | nx ρ' => exact absurd e (ne ρ')
    | _ => rw [e] at hp; exact hp
theorem svo_one (h : SVO K ts (TSt G st) d) : SVO K ts (TSs G [st]) d := fun B ρ σ H D hr hp => ⟨_, fun i => pss_one (ps_st i), h B ρ σ H D hr hp⟩
theorem svo_cont : SVO K ts (TSt G (.Continue pos)) (fun ρ => .ct ρ) := fun B ρ σ H D hr hp => ⟨_, fun _ => ps_continue, hp σ H hr .refl⟩
theorem svo_if {c : Expr} {a b : List Stmt} {dc : Env' → Option Bool} (hc : BV G K c dc) (ha : SVO K ts (TSs G a) d1) (hb : SVO K ts (TSs G b) d2) : SVO K ts (TSt G (.If c a b pos)) (fun ρ => ifD (dc ρ) d1 d2 ρ) := by
  intro B ρ σ H D hr hp
  dsimp only at hp
  unfold ifD at hp
  refine ⟨_, fun i => ps_if (pt_ts i) (pss_ss i) (pss_ss i), ?_⟩
  split at hp
  · rename_i e1
    refine hc ρ σ H true _ hr.env e1 fun H1 s1 => ?_
    rw [if_pos rfl]
    exact ha B ρ σ H1 D (hr.grow s1) hp
  · rename_i e1
    refine hc ρ σ H false _ hr.env e1 fun H1 s1 => ?_
    rw [if_neg Bool.false_ne_true]
    exact hb B ρ σ H1 D (hr.grow s1) hp
  · cases hp
theorem svo_ret (h : EV G K e de) : SVO K ts (TSt G (.Return (some e) pos)) (fun ρ => rtD (de ρ)) := by
  intro B ρ σ H D hr hp
  dsimp only at hp
  unfold rtD at hp
  split at hp
  · rename_i τ e1
    exact ⟨_, fun i => ps_ret (pe_ts i), h ρ σ H τ _ hr.env e1 fun v H' s r => hp v H' (hr.sm.trans s) r⟩
  · cases hp
theorem svo_set (hG : Fm G K mg base P w N sc k) (hN0 : N.Nodup) (hF : FnB G sc) (i : Nat) (hi : i ∈ ts) {x : Str} {pos' : Pos} (h : EV G K e de) (hN : N[i]? = some x := by rfl) (hv : locB sc x = true := by rfl)
    (hs : ∀ i, swapsWith e (some (.Name x pos')) pos.line (G i).env = pure false := by intro _; rfl) : SVO K ts (TSt G (.Assign [.Name x pos'] e pos)) (fun ρ => setD true i (de ρ) ρ) := by
  intro B ρ σ H D hr hp
  dsimp only at hp
  unfold setD at hp
  split at hp
  · rename_i τ e1
    rw [if_pos (by simp)] at hp
    refine ⟨_, fun j => ps_set (i := i) (by rw [hG.N j]; exact hN0) (by rw [hG.N j]; exact hN) (by rw [hG.sc j]; exact loc_of hv) (pe_ts j) (hs j) (hF.fn j x), ?_⟩
    refine h ρ σ H τ _ hr.env e1 fun v H' s r => ?_
    obtain ⟨B2, s2, q, r2⟩ := (hr.grow s).settle (.inl rfl) r
    exact hp _ H' ⟨B2, s2, q.set (by simp) r2⟩ ⟨by simp, fun j hj => List.getElem?_set_ne fun z => hj (by rw [← z]; exact hi)⟩
  · cases hp
theorem for_coreO {tg iter : Expr} {bd : Env' → T → Option Env'} {body : List Stmt} {db : Env' → Out} (hG : Fm G K mg base P w N sc k) (hpo : ∀ i, PassesOwn (model (G i).prog (G i).w) (G i).A (G i).env (G i).xe)
    (ht : TV G K [] tg vs bd) (hvs : ∀ i ∈ vs, i ∈ ts) (hb : SVO K ts (TSs G body) db) {B : Hp} {ρ : Env'} {σ : St} {H : Hp} {D : Ends} {τs : List T} (hi : IVat G K [] tg iter B ρ σ H τs)
    (hp : PostO K B σ D ts (forD bd db τs ρ)) (hs : ∀ i x, foldedSetIterable iter (G i).env x = pure x := by intro _ _; rfl) : TSt G (.For tg iter body [] pos) D σ H := by
  refine ⟨tFor (IT G tg iter) (GT G tg) (TSs G body), fun i => ps_for (hpo i) (hG.calm i) (pi_it i) (pg_gt i) (pss_ss i) (hs i), ?_⟩
  refine hi _ fun J H1 B1 s1 sH hr1 wk => ?_
  refine ⟨fun i m σ' H => m = τs.length - i ∧ i ≤ τs.length ∧ OffT ts σ σ' ∧ ∃ ρi, StR K B1 [] ρi σ' H ∧ PostO K B1 σ D ts (forD bd db (τs.drop i) ρi), ⟨_, rfl, Nat.zero_le _, .refl, ρ, ⟨B1, Same.refl B1, hr1⟩, PostO.rebase s1 hp⟩, ?_⟩
  rintro i m σi Hi ⟨rfl, hile, offi, ρi, hri, hpi⟩
  by_cases hlt : i < τs.length
  · refine .inr ⟨wk.go i Hi hri.sm hlt, fun σ' H' => OffT ts σ σ' ∧ ∃ ρ', StR K B1 [] ρ' σ' H' ∧ PostO K B1 σ D ts (forD bd db (τs.drop (i + 1)) ρ'), fun σ' H' ⟨o, ρ', a, b⟩ => ⟨_, by omega, rfl, hlt, o, ρ', a, b⟩, fun x H' y => ?_⟩
    obtain ⟨sH', rx⟩ := wk.yld i _ Hi x H' hri.sm (List.getElem?_eq_getElem hlt) y
    have ed : τs.drop i = τs[i] :: τs.drop (i + 1) := List.drop_eq_getElem_cons hlt
    rw [ed] at hpi
    unfold forD at hpi
    obtain ⟨B2, s2, q2⟩ := hri.grow sH'
    have rx2 : Rep K (addT B2 H') τs[i] x := rx.same fun a o h => by
      cases e : B1 a with
      | some u =>
        rw [addT_some e] at h
        exact addT_some (by rw [← h]; exact s2 a u e)
      | none =>
        rw [addT_none e] at h
        cases e2 : B2 a with
        | some u =>
          rw [addT_some e2]
          have := q2.sm a u e2
          rw [tupO_some h] at this
          exact this.symm
        | none => rw [addT_none e2]; exact h
    split at hpi
    · cases hpi
    · rename_i ρ1 e1
      refine ht (addT B2 H') ρi ρ1 σi H' _ x _ q2.addT rx2 e1 fun σ1 q1 off => ?_
      have hr1 : StR K B1 [] ρ1 σ1 H' := ⟨_, s2.trans same_addT, q1⟩
      have off1 : OffT ts σ σ1 := offi.trans (off.mono hvs)
      refine hb B1 ρ1 σ1 H' _ hr1 ?_
      split at hpi
      · rename_i ρ2 e2
        rw [e2]
        exact fun σ2 H2 q f => ⟨off1.trans f, ρ2, q, hpi⟩
      · rename_i ρ2 e2
        rw [e2]
        exact fun σ2 H2 q f => ⟨off1.trans f, ρ2, q, hpi⟩
      · rename_i ρ2 e2
        rw [e2]
        exact fun σ2 H2 q f => hpi σ2 H2 q (off1.trans f)
      · rename_i o h1 h2 h3
        cases eo : db ρ1 with
        | nx ρ => exact absurd eo (h1 ρ)
        | ct ρ => exact absurd eo (h2 ρ)
        | bk ρ => exact absurd eo (h3 ρ)
        | rt t => rw [eo] at hpi; exact hpi
        | er => rw [eo] at hpi; exact hpi.elim
  · have e : i = τs.length := by omega
    subst e
    refine .inl ⟨wk.stop _ Hi hri.sm (Nat.le_refl _), ?_⟩
    rw [List.drop_length] at hpi
    exact hpi σi Hi hri offi
theorem svo_forI {tg iter : Expr} {bd : Env' → T → Option Env'} {body : List Stmt} {db : Env' → Out} {dl : Env' → Option (List T)} (hG : Fm G K mg base P w N sc k) (hpo : ∀ i, PassesOwn (model (G i).prog (G i).w) (G i).A (G i).env (G i).xe)
    (hi : IV G K [] tg iter dl) (ht : TV G K [] tg vs bd) (hb : SVO K ts (TSs G body) db) (hvs : ∀ i ∈ vs, i ∈ ts := by decide) (hs : ∀ i x, foldedSetIterable iter (G i).env x = pure x := by intro _ _; rfl) :
    SVO K ts (TSt G (.For tg iter body [] pos)) (fun ρ => forI bd db (dl ρ) ρ) := by
  intro B ρ σ H D hr hp
  dsimp only at hp
  unfold forI at hp
  split at hp
  · rename_i τs e
    obtain ⟨B', s, q⟩ := hr
    exact for_coreO hG hpo ht hvs hb (hi B' ρ σ H τs q e) (PostO.rebase s hp) hs
  · cases hp
theorem PostO.lock {B : Hp} {σ0 : St} {D : Ends} {dd : Addr} {od : Obj} {kvs : List (Key × V)} {o : Out} (e : B dd = some (.dK kvs)) (h : PostO K B σ0 D ts o) : PostO K (upd B dd (.frz od (.dK kvs))) σ0 (lockD D dd od (.dK kvs)) ts o := by
  have back : ∀ {ρ : Env'} {σ : St} {H : Hp}, StR K (upd B dd (.frz od (.dK kvs))) [] ρ σ H → H dd = some (.frz od (.dK kvs)) ∧ StR K B [] ρ σ (upd H dd (.dK kvs)) := by
    rintro ρ σ H ⟨B2, s2, q⟩
    have e2 : B2 dd = some (.frz od (.dK kvs)) := s2 _ _ upd_same
    exact ⟨q.sm _ _ e2, upd B2 dd (.dK kvs), same_relock (Same.refl B) e s2, q.relock e2 (.inr ⟨od, rfl⟩) (.inl rfl)⟩
  cases o with
  | nx ρ => exact fun σ H q f => let ⟨a, b⟩ := back q; ⟨a, h σ _ b f⟩
  | bk ρ => exact fun σ H q f => let ⟨a, b⟩ := back q; ⟨a, h σ _ b f⟩
  | ct ρ => exact fun σ H q f => let ⟨a, b⟩ := back q; ⟨a, h σ _ b f⟩
  | rt τ =>
    intro v H s r
    have e2 : H dd = some (.frz od (.dK kvs)) := s _ _ upd_same
    have g : Grow K H (upd H dd (.dK kvs)) := grow_dk e2 (.inr ⟨od, rfl⟩) (.inl rfl)
    exact ⟨e2, h v _ (same_relock (Same.refl B) e s) (Rep.grow g _ _ r)⟩
  | er => exact h
theorem svo_forKs {tg iter : Expr} {bd : Env' → T → Option Env'} {body : List Stmt} {db : Env' → Out} {lst : List (Key × T) → List T} (hG : Fm G K mg base P w N sc k) (hpo : ∀ i, PassesOwn (model (G i).prog (G i).w) (G i).A (G i).env (G i).xe)
    (j : Nat) (hi : KI G K j tg iter lst) (ht : TV G K [] tg vs bd) (hb : SVO K ts (TSs G body) db) (hvs : ∀ i ∈ vs, i ∈ ts := by decide) (hs : ∀ i x, foldedSetIterable iter (G i).env x = pure x := by intro _ _; rfl) :
    SVO K ts (TSt G (.For tg iter body [] pos)) (fun ρ => forK lst bd db (nd j ρ) ρ) := by
  intro B ρ σ H D hr hp
  dsimp only at hp
  unfold forK at hp
  split at hp
  · rename_i kts e
    have e1 : nd j ρ = some (.dic kts) := by
      unfold dicOf at e
      split at e
      · cases e; assumption
      · cases e
    obtain ⟨B', s, q⟩ := hr
    obtain ⟨v, es, rv⟩ := q.val j _ (by simp) (nd_some e1)
    obtain ⟨d, kvs, rfl, rd, rk⟩ := rep_dic.mp rv
    have at_ : ∀ (B' : Hp) (H : Hp) (o : Obj) (D : Ends), StR' K B' [] ρ σ H → B' d = some (.frz o (.dK kvs)) → RepsK K B' kts kvs → PostO K B' σ D ts (forD bd db (lst kts) ρ) → TSt G (.For tg iter body [] pos) D σ H := by
      intro B' H o D q ed rk hp
      refine for_coreO hG hpo ht hvs hb (fun R hR => ?_) hp hs
      refine hi σ H R d o kvs es (q.sm _ _ ed) fun J hJ => ?_
      exact hR J H B' (Same.refl B') (Same.refl H) q (hJ B' kts ed rk)
    have hp' : PostO K B' σ D ts (forD bd db (lst kts) ρ) := PostO.rebase s hp
    rcases rd with rd | ⟨o, rd⟩
    · refine ⟨tLock (TSt G (.For tg iter body [] pos)), fun i => ps_lock (ps_st i), d, .dK kvs, q.sm _ _ rd, trivial, fun od => ?_⟩
      have q2 := q.relock rd (.inl rfl) (.inr ⟨od, rfl⟩) (u' := .frz od (.dK kvs))
      exact at_ _ _ od _ q2 upd_same (RepsK.grow (grow_dk rd (.inl rfl) (.inr ⟨od, rfl⟩)) _ _ rk) (PostO.lock rd hp')
    · exact at_ B' H o D q rd rk hp'
  · cases hp
theorem sv_keep (hso : ∀ i ∈ ow, i ∉ ts) (h : SVO K ts R d) : SV K false ow ow owl R (fun ρ => match d ρ with | .nx _ => .nx (wipeD ρ ts) | .rt t => .rt t | _ => .er) := by
  intro B ρ σ H D hr hp
  dsimp only at hp
  have hs := hr.env.str
  obtain ⟨B', sB, q⟩ := hr
  refine h H ρ σ H D ⟨H, Same.refl H, hs⟩ ?_
  cases eo : d ρ with
  | nx ρ' =>
    rw [eo] at hp
    intro σ' H' hr' off
    refine hp σ' H' ⟨B', sB, ?_⟩
    have sH : Same H H' := hr'.sm
    refine ⟨q.sm.trans sH, by rw [wipeD_length, off.1]; exact q.len, fun i t m e => ?_, fun i t m e => ?_, fun i j a ti tj mi mj ei ej fi fj => ?_⟩
    · obtain ⟨e1, e2⟩ := wipeD_some e
      obtain ⟨v, e3, r⟩ := q.val i t m e1
      exact ⟨v, by rw [off.2 i e2]; exact e3, r⟩
    · obtain ⟨e1, e2⟩ := wipeD_some e
      obtain ⟨a, o, e3, e4, e5, f⟩ := q.own i t m e1
      exact ⟨a, o, by rw [off.2 i e2]; exact e3, e4, sH _ _ e5, f⟩
    · obtain ⟨e1, n1⟩ := wipeD_some ei
      obtain ⟨e2, n2⟩ := wipeD_some ej
      rw [off.2 i n1] at fi
      rw [off.2 j n2] at fj
      exact q.inj i j a ti tj mi mj e1 e2 fi fj
  | rt τ =>
    rw [eo] at hp
    intro v H' s r
    exact hp v H' ((sB.trans q.sm).trans s) (show Rep K H' τ v from r)
  | bk ρ' => rw [eo] at hp; exact hp.elim
  | ct ρ' => rw [eo] at hp; exact hp.elim
  | er => rw [eo] at hp; exact hp.elim
def keepD (ts : List Nat) (ρ : Env') : Out → Out
  | .nx _ => .nx (wipeD ρ ts)
  | .rt t => .rt t
  | _ => .er
theorem sv_kept (hso : ∀ i ∈ ow, i ∉ ts) (h : SVO K ts R d) : SV K false ow ow owl R (fun ρ => keepD ts ρ (d ρ)) := by
  have := sv_keep (owl := owl) hso h
  intro B ρ σ H D hr hp
  refine this B ρ σ H D hr ?_
  dsimp only at hp ⊢
  cases e : d ρ <;> rw [e] at hp <;> exact hp
/-- a block in the middle of others -/
def TSb (G : ι → Cx) (sts : List Stmt) : TS := TSs G sts
theorem sv_split {fr : Bool} {ow' ow2 : List Nat} {a b : List Stmt} (h1 : SV K fr ow ow2 owl (TSs G a) d1) (h2 : SV K fr ow2 ow' owl (TSs G b) d2) (happ : ∀ i (t u : TS), PSs (G i) a t → PSs (G i) b u → PSs (G i) (a ++ b) (tSeq t u)) : SV K fr ow ow' owl (TSs G (a ++ b)) (seqD d1 d2) := by
  intro B ρ σ H D hr hp
  refine ⟨tSeq (TSs G a) (TSs G b), fun i => happ i _ _ (pss_ss i) (pss_ss i), ?_⟩
  refine h1 B ρ σ H _ hr ?_
  unfold seqD at hp
  split at hp
  · rename_i ρ' e
    rw [e]
    exact fun σ' H' hr' => h2 B ρ' σ' H' D hr' hp
  · rename_i ne
    cases e : d1 ρ with
    | nx ρ' => exact absurd e (ne ρ')
    | _ => rw [e] at hp; exact hp
/-- one statement kept -/
theorem sv_kept1 (hso : ∀ i ∈ ow, i ∉ ts) (h : SVO K ts (TSt G st) d) : SV K false ow ow owl (TSt G st) (fun ρ => keepD ts ρ (d ρ)) := sv_kept hso h
/-- d.get(k) -/
def gGet1 (x y : Option T) : Option T := match x, y with
  | some (.dic kts), some y => (keyOf y).map fun ky => (lookT kts ky).getD .non
  | _, _ => none
theorem ev_get1 {a b : Expr} {da db : Env' → Option T} (hG : Fm G K mg base P w N sc k) {apos cpos : Pos} (ha : EV G K a da) (hb : EV G K b db) (m : ∀ i, M1 (G i) a "get" apos b cpos := by intro _; exact ⟨rfl, rfl, rfl, rfl⟩) :
    EV G K (.Call (.Attribute a "get" apos) [b] [] cpos) (fun ρ => gGet1 (da ρ) (db ρ)) := by
  intro ρ σ H τ Q hE hd hq
  dsimp only at hd
  unfold gGet1 at hd
  split at hd
  · rename_i kts y e1 e2
    cases e4 : keyOf y with
    | none => rw [e4] at hd; cases hd
    | some ky =>
      rw [e4] at hd
      cases hd
      refine ⟨tDGet1 (ES G a) (ES G b), fun i => pe_dget1 (hG.hu i) (pe_ts i) (pe_ts i) (m i), ?_⟩
      refine ha ρ σ H _ _ hE e1 fun v H1 s1 r1 => ?_
      obtain ⟨q, kvs, rfl, hrd, rr⟩ := rep_dic.mp r1
      refine ⟨q, rfl, .inl ⟨kvs, hrd⟩, hb ρ σ H1 _ _ (hE.same s1) e2 fun u H2 s2 r2 => ?_⟩
      have rr3 := rr.same s2
      refine ⟨valV kvs ky, .inl ⟨kvs, ky, same_rd s2 hrd, keyOf_rep e4 r2, rfl⟩, ?_⟩
      cases e5 : lookT kts ky with
      | none =>
        rw [(look_val rr3).2 e5]
        refine hq _ _ (s1.trans s2) ?_
        dsimp only
        rw [e5]
        exact rep_non.mpr rfl
      | some t =>
        obtain ⟨v, ev, rv⟩ := (look_val rr3).1 t e5
        rw [ev]
        refine hq _ _ (s1.trans s2) ?_
        dsimp only
        rw [e5]
        exact rv
  · cases hd
/-! ### xs.append(e), e a new list or dict -/
def appFD (i : Nat) (o : Option T) (ρ : Env') : Out := match nd i ρ, o with
  | some (.lst ts), some τ => if immE τ = true ∧ ts.length < sizeLine then .nx (ρ.set i (some (.lst (ts ++ [τ])))) else .er
  | _, _ => .er
theorem sv_appendF {fr : Bool} (hG : Fm G K mg base P w N sc k) (i : Nat) (hi : i ∈ ow) {x : Str} {px ap cp : Pos} (h : EVF G K e de) (hN : N[i]? = some x := by rfl) (hv : visB sc x = true := by rfl)
    (hd : (x == ("__debug__" : Str)) = false := by decide) (hcd : (x == ("__classdict__" : Str)) = false := by decide)
    (hbm : ∀ j to te, PE (G j) (.Name x px) to → PE (G j) e te → PE (G j) (.Call (.Attribute (.Name x px) "append" ap) [e] [] cp) (tBM (G j).K "list" rAppend to (tCons te tNil)) := by
      intro j to te h1 h2; exact pe_bm PySem.F.plainAttrs_list PySem.F.slot_list_append PySem.F.type_list_append mt_append h1 (pa_cons h2 pa_nil))
    (hs : ∀ i, swapsWith (.Call (.Attribute (.Name x px) "append" ap) [e] [] cp) none pos.line (G i).env = pure false := by intro _; rfl) :
    SV K fr ow ow owl (TSt G (.Expr (.Call (.Attribute (.Name x px) "append" ap) [e] [] cp) pos)) (fun ρ => appFD i (de ρ) ρ) := by
  intro B ρ σ H D hr hp
  dsimp only at hp
  unfold appFD at hp
  split at hp
  · rename_i ts τ e1 e2
    split at hp
    · rename_i c
      obtain ⟨B', sB, q⟩ := id hr
      obtain ⟨a, o, s1, s2, s3, f⟩ := q.own i _ hi (nd_some e1)
      refine ⟨tDrop (tBM K "list" rAppend (tVar i) (tCons (ES G e) tNil)), fun j => ps_expr ?_ (hs j), ?_⟩
      · have := hbm j (tVar i) (ES G e) (pe_var (by rw [hG.N j]; exact hN) (by rw [hG.sc j]; exact vis_of hv) hd hcd) (pe_ts j)
        rw [hG.K j] at this
        exact this
      · have f' := f
        rcases f' with ⟨ts', vs, et, eo, r⟩ | ⟨_, _, et, _⟩
        · cases et
          subst eo
          refine ⟨_, s1, .inl ⟨rfl, vs, .inl (.inl s3)⟩, ?_⟩
          refine h ρ σ H τ _ hr.env e2 fun p op H1 z1 np ep fp => ?_
          refine ⟨a, vs, .ref p, rfl, rfl, z1 _ _ s3, by rw [← r.length]; exact c.2, ?_⟩
          have q1 := (q.grow z1).addT
          have nBp : B' p = none := q.sm.free np
          have nB1 : addT B' H1 p = none := by rw [addT_none nBp, ep]; exact fp.tupO
          have fp2 : FrO K (addT B' H1) τ op := imm_frO (q.sm.trans z1) c.1 fp
          have sU : Same (addT B' H1) (upd (addT B' H1) p op) := same_upd' nB1
          -- the base takes the new object
          have q2 : StR' K (upd (addT B' H1) p op) ow ρ σ H1 := by
            refine ⟨fun b ob z => ?_, q1.len, fun i t m z => ?_, fun j t m z => ?_, q1.inj⟩
            · by_cases hb : b = p
              · subst hb
                rw [upd_same] at z
                cases z
                exact ep
              · rw [upd_ne hb] at z
                exact q1.sm b ob z
            · obtain ⟨v, e2, r⟩ := q1.val i t m z
              exact ⟨v, e2, r.same sU⟩
            · obtain ⟨b, ob, e2, e3, e4, f3⟩ := q1.own j t m z
              refine ⟨b, ob, e2, ?_, e4, f3.same sU⟩
              have hb : b ≠ p := by
                rintro rfl
                obtain ⟨b', ob', e2', _, e4', _⟩ := q.own j t m z
                rw [e2] at e2'
                cases e2'
                rw [np] at e4'
                cases e4'
              rw [upd_ne hb]
              exact e3
          refine hp σ _ ⟨_, sB.trans (same_addT.trans sU), q2.write hi (nd_some e1) s1 ?_⟩
          exact .inl ⟨_, _, rfl, rfl, (r.same (same_addT.trans sU)).snoc ((fp2.same sU).rep upd_same)⟩
        · cases et
    · cases hp
  · cases hp
/-! ### the law's promise, whatever its addresses -/
open Classical in
noncomputable def lawT : List T → Option T := fun ts => if ∃ ns : List Int, ns.length ≤ 63 ∧ ts = [.scr (ns.map T.int)] then some (.bl true) else none
theorem lawT_true (ns : List Int) (h : ns.length ≤ 63) : lawT [.scr (ns.map T.int)] = some (.bl true) := if_pos ⟨ns, h, rfl⟩
theorem lawT_ok {df : List T → Option T} (h : ∀ ns : List Int, ns.length ≤ 63 → df [.scr (ns.map T.int)] = some (.bl true)) (ts : List T) (τ : T) (e : lawT ts = some τ) : df ts = some τ := by
  unfold lawT at e
  split at e
  · rename_i c
    obtain ⟨ns, hl, rfl⟩ := c
    cases e
    exact h ns hl
  · cases e
theorem fnD_rt {N : List Str} {d : Env' → Out} {ts : List T} {τ : T} (h : fnD N true d ts = some τ) : d (rho0 N ts) = .rt τ := by
  unfold fnD at h
  split at h
  · rename_i t e
    cases h
    exact e
  · rw [if_pos rfl] at h; cases h
  · cases h
end DL
/-! DL28: dict.update on a dict of one's own, range of three. -/
namespace MM
open PySem PySem.Spec PyProof.Rows L2
variable {X : Cx}
theorem length_mergeK : ∀ (more kvs : List (Key × V)), (more.foldl (fun acc kv => putK acc kv.1 kv.2) kvs).length ≤ kvs.length + more.length
  | [], kvs => Nat.le_refl _
  | p :: more, kvs => by
    rw [List.foldl_cons, List.length_cons]
    have h1 := length_mergeK more (putK kvs p.1 p.2)
    have h2 := length_putK kvs p.1 p.2
    omega
def rUpd : V → List V → Hp → VK → Prop := fun x vs H Q => ∃ (d o : Addr) (kvs more : List (Key × V)), x = .ref d ∧ vs = [.ref o] ∧ H d = some (.dK kvs) ∧ Rd H o (.dK more) ∧ d ≠ o ∧ kvs.length + more.length ≤ sizeLine ∧ Q .non (upd H d (.dK (more.foldl (fun acc kv => putK acc kv.1 kv.2) kvs)))
theorem mt_update : MtM X "dict.update" rUpd := by
  intro pins s σ H x vs v us Q I rx rv h
  obtain ⟨d, o, kvs, more, rfl, rfl, hd, ho, hne, hl, q⟩ := h
  cases rx
  obtain ⟨u, rfl, ru⟩ := rv.one
  cases ru
  obtain ⟨z1, hd1, vs1, r1, dd1⟩ := dk_of I.hok hd
  obtain ⟨z2, hd2, vs2, r2, dd2⟩ := dk_rd I.hok ho
  refine call_meetsIn PySem.F.slot_dict_update dd1.typeIs PySem.F.entry_dict_update (PySem.F.args_dict_update_2 _ _) (meets_dict_update (mixKind X.prog X.w) d o hne hd2) ⟨vs1, vs2, dd1, dd2, by rw [← r1.length, ← r2.length]; exact hl, fun h' dd1' dd2' hs => ?_⟩
  have he' : ∃ q, h'.get? d = some q := let ⟨q, _, _, hq, _⟩ := dd1'; ⟨q, hq⟩
  have hm : KV (more.foldl (fun acc kv => putK acc kv.1 kv.2) kvs) (merged vs1 vs2) := KV.merge r2 r1
  exact ⟨.non, _, d_write I (by rw [hd]; exact True.intro) hs he' (dk_new (Nat.le_trans (length_mergeK more kvs) hl) hd1 hm dd1'), rfl, q⟩
end MM
namespace DL
open PySem PySem.Spec PyProof.Rows L2
variable {ι : Type} {G : ι → Cx} {K : PySem.W.Frag} {mg : Str → Option Value} {base : Heap} {P : Program} {w : World} {N : List Str} {sc : Scope} {k : Nat}
variable {fr : Bool} {ow ow' owl : List Nat} {pos : Pos}
/-- x.update(y), y another name -/
def updD (i j : Nat) (ρ : Env') : Out := match nd i ρ, nd j ρ with
  | some (.dic kts), some (.dic more) => if (kts.map (·.1)).Nodup ∧ kts.length + more.length ≤ sizeLine then .nx (ρ.set i (some (.dic (mergeT kts more)))) else .er
  | _, _ => .er
theorem sv_update (hG : Fm G K mg base P w N sc k) (i j : Nat) (hi : i ∈ ow) (hj : j ∉ ow) {x y : Str} {px py ap cp : Pos} (hN : N[i]? = some x := by rfl) (hv : visB sc x = true := by rfl) (hN' : N[j]? = some y := by rfl) (hv' : visB sc y = true := by rfl)
    (hd : (x == ("__debug__" : Str)) = false := by decide) (hcd : (x == ("__classdict__" : Str)) = false := by decide) (hd' : (y == ("__debug__" : Str)) = false := by decide) (hcd' : (y == ("__classdict__" : Str)) = false := by decide)
    (hbm : ∀ j to te, PE (G j) (.Name x px) to → PE (G j) (.Name y py) te → PE (G j) (.Call (.Attribute (.Name x px) "update" ap) [.Name y py] [] cp) (tBM (G j).K "dict" MM.rUpd to (tCons te tNil)) := by
      intro j to te h1 h2; exact pe_bm PySem.F.plainAttrs_dict PySem.F.slot_dict_update PySem.F.type_dict_update MM.mt_update h1 (pa_cons h2 pa_nil))
    (hs : ∀ i, swapsWith (.Call (.Attribute (.Name x px) "update" ap) [.Name y py] [] cp) none pos.line (G i).env = pure false := by intro _; rfl) :
    SV K fr ow ow owl (TSt G (.Expr (.Call (.Attribute (.Name x px) "update" ap) [.Name y py] [] cp) pos)) (fun ρ => updD i j ρ) := by
  intro B ρ σ H D hr hp
  dsimp only at hp
  unfold updD at hp
  split at hp
  · rename_i kts more e1 e2
    split at hp
    · rename_i c
      obtain ⟨B', sB, q⟩ := id hr
      obtain ⟨a, o, s1, s2, s3, f⟩ := q.own i _ hi (nd_some e1)
      obtain ⟨v, ev', rv⟩ := q.val j _ hj (nd_some e2)
      obtain ⟨b, mvs, rfl, hrd, rm⟩ := rep_dic.mp rv
      refine ⟨tDrop (tBM K "dict" MM.rUpd (tVar i) (tCons (tVar j) tNil)), fun l => ps_expr ?_ (hs l), ?_⟩
      · have := hbm l (tVar i) (tVar j) (pe_var (by rw [hG.N l]; exact hN) (by rw [hG.sc l]; exact vis_of hv) hd hcd) (pe_var (by rw [hG.N l]; exact hN') (by rw [hG.sc l]; exact vis_of hv') hd' hcd')
        rw [hG.K l] at this
        exact this
      · rcases id f with ⟨_, _, et, _⟩ | ⟨ts', vs, et, eo, r⟩
        · cases et
        · cases et
          subst eo
          refine ⟨_, s1, .inr (.inr (.inl ⟨rfl, .inl ⟨vs, s3⟩⟩)), ?_⟩
          refine ⟨_, ev', ?_⟩
          have hab : a ≠ b := by
            rintro rfl
            rcases hrd with z | ⟨ob, z⟩ <;> rw [s2] at z <;> cases z
          refine ⟨a, b, vs, mvs, rfl, rfl, s3, ?_, hab, by rw [← r.length, ← rm.length]; exact c.2, ?_⟩
          · rcases hrd with z | ⟨ob, z⟩
            · exact .inl (q.sm _ _ z)
            · exact .inr ⟨ob, q.sm _ _ z⟩
          refine hp σ _ ⟨B', sB, q.write hi (nd_some e1) s1 ?_⟩
          exact .inr ⟨_, _, rfl, rfl, mergeT_rep rm r c.1⟩
    · cases hp
  · cases hp
/-- range(i, j, c) -/
def rngC (lo c : Int) (n : Nat) : List T := (List.range n).map fun (i : Nat) => .int (lo + (i : Nat) * c)
theorem walks_rngC {B : Hp} {lo c : Int} {n : Nat} : Walks K (Itc lo c n) B (rngC lo c n) := by
  refine ⟨fun i H s hi => by simpa [rngC, Itc] using hi, fun i H s hi => by simpa [rngC, Itc] using hi, fun i t H v H' s e y => ?_⟩
  obtain ⟨rfl, rfl⟩ := y
  unfold rngC at e
  rw [List.getElem?_map] at e
  cases e2 : (List.range n)[i]? with
  | none => rw [e2] at e; cases e
  | some j =>
    rw [e2] at e
    obtain ⟨_, hj⟩ := List.getElem?_eq_some_iff.mp e2
    simp at hj
    subst hj
    cases e
    exact ⟨Same.refl _, rep_int.mpr rfl⟩
def rng3 (o o' o'' : Option T) : Option (List T) := match o, o', o'' with
  | some (.int i), some (.int j), some (.int c) => if (r62 i = true ∧ r62 j = true) ∧ 0 < c ∧ c < 1073741824 ∧ Builtin.Range.small i j c = true then some (rngC i c (if i < j then ((j - i - 1) / c + 1).toNat else 0)) else none
  | _, _, _ => none
theorem iv_rng3 (hG : Fm G K mg base P w N sc k) {a b c : Expr} {da db dc : Env' → Option T} {p pos : Pos} (hm : mg "range" = none) (h : EV G K a da) (h' : EV G K b db) (h'' : EV G K c dc) (hg : glB sc "range" = true := by rfl)
    (hs : ∀ i, starEach [a, b, c] (G i).env = (false, eval a (G i).env) :: starEach [b, c] (G i).env := by intro _; rfl) (hs2 : ∀ i, starEach [b, c] (G i).env = [(false, eval b (G i).env), (false, eval c (G i).env)] := by intro _; rfl) (hs3 : ∀ i, starEach [c] (G i).env = [(false, eval c (G i).env)] := by intro _; rfl)
    (hpl : ∀ i, ((backTo pos (starEach [b, c] (G i).env)).any fun x => x.fst) = false := by intro _; rfl) :
    IV G K ow tg (.Call (.Name "range" p) [a, b, c] [] pos) (fun ρ => rng3 (da ρ) (db ρ) (dc ρ)) := by
  intro B ρ σ H τs hr hd R hR
  dsimp only at hd
  unfold rng3 at hd
  split at hd
  · rename_i i j d e1 e2 e3
    split at hd
    · rename_i cc
      cases hd
      refine ⟨_, fun l => pi_range3 (gl_of hG hg l) (by rw [hG.mg l]; exact hm) (pa_cons (pe_ts l) (pa_cons (pe_ts l) (pa_cons (pe_ts l) pa_nil (hs3 l)) (by rw [hs2 l, hs3 l])) (hs l)) (hs l) (hpl l), ?_⟩
      refine h ρ σ H _ _ hr.env e1 fun v H1 s r => ?_
      refine h' ρ σ H1 _ _ (hr.grow s).env e2 fun v' H2 s2 r2 => ?_
      refine h'' ρ σ H2 _ _ ((hr.grow s).grow s2).env e3 fun v'' H3 s3 r3 => ?_
      cases rep_int.mp r
      cases rep_int.mp r2
      cases rep_int.mp r3
      refine ⟨i, j, d, _, rfl, ⟨by omega, by omega, cc.2.2.2, ?_⟩, hR _ H3 B (Same.refl B) ((s.trans s2).trans s3) (((hr.grow s).grow s2).grow s3) walks_rngC⟩
      unfold Builtin.Range.rangeSize
      rw [if_pos cc.2.1]
      by_cases hij : i < j
      · rw [if_pos hij, if_pos hij]
        have := Int.ediv_nonneg (show 0 ≤ j - i - 1 by omega) (show 0 ≤ d by omega)
        omega
      · rw [if_neg hij, if_neg hij]; rfl
    · cases hd
  · cases hd
end DL
/-! DL29: a nested function handed on: its cells known to all frames behind. -/
namespace DL
open PySem PySem.Spec PyProof.Rows L2 NdefX LamX
variable {ι : Type} {G : ι → Cx} {K : PySem.W.Frag} {mg : Str → Option Value} {base : Heap} {P : Program} {w : World} {N : List Str} {sc : Scope} {k : Nat}
/-! ### known for a while -/
def wipeA (cs : List Addr) (H : Hp) : Hp := fun b => if b ∈ cs then none else H b
def backA (cs : List Addr) (H H2 : Hp) : Hp := fun b => if b ∈ cs then H b else H2 b
theorem wipA_in {cs : List Addr} {H : Hp} {b : Addr} (h : b ∈ cs) : wipeA cs H b = none := if_pos h
theorem wipA_out {cs : List Addr} {H : Hp} {b : Addr} (h : b ∉ cs) : wipeA cs H b = H b := if_neg h
theorem back_in {cs : List Addr} {H H2 : Hp} {b : Addr} (h : b ∈ cs) : backA cs H H2 b = H b := if_pos h
theorem back_out {cs : List Addr} {H H2 : Hp} {b : Addr} (h : b ∉ cs) : backA cs H H2 b = H2 b := if_neg h
section
variable {cs fs : List Addr} {H H2 : Hp} {h h' : Heap}
theorem hok_wipe (hc : ∀ b ∈ cs, ∀ o, H b = some o → ∃ ob u, o = .frz ob u) (ok : HOk P w H h) : HOk P w (wipeA cs H) h := fun b o e => by
  by_cases hb : b ∈ cs
  · rw [wipA_in hb] at e; cases e
  · rw [wipA_out hb] at e
    refine (ok b o e).stay (fun _ _ _ q => q) (fun c q => ?_) fun c xs q => ?_
    · rw [wipA_out]
      · exact q
      · intro z; obtain ⟨_, _, z⟩ := hc c z _ q; cases z
    · rw [wipA_out]
      · exact q
      · intro z; obtain ⟨_, _, z⟩ := hc c z _ q; cases z
/-- a call at an abstract heap that knows less -/
theorem un_wipe (hc : ∀ b ∈ cs, ∃ o φ, H b = some (.frz o (.ext φ))) (ok : HOk P w H h) (nf : ∀ b ∈ cs, b ∉ fs) (u : Un fs [] (wipeA cs H) H2 h h') (ok2 : HOk P w H2 h') :
    Un fs [] H (backA cs H H2) h h' ∧ HOk P w (backA cs H H2) h' ∧ ∀ b ∈ cs, H2 b = none := by
  have nc : ∀ {b o}, H b = some o → (∀ ob φ, o ≠ .frz ob (.ext φ)) → b ∉ cs := fun {b o} e n z => by
    obtain ⟨ob, φ, q⟩ := hc b z
    rw [e] at q
    cases q
    exact n _ _ rfl
  have nn : ∀ {b}, H b = none → b ∉ cs := fun {b} e z => by
    obtain ⟨ob, φ, q⟩ := hc b z
    rw [e] at q
    cases q
  have at_ : ∀ b ∈ cs, ∃ o, h.get? b = some o := fun b z => by
    obtain ⟨o, φ, q⟩ := hc b z
    exact ⟨o, (ok b _ q).1⟩
  have h2n : ∀ b ∈ cs, H2 b = none := fun b z => by
    obtain ⟨o, e⟩ := at_ b z
    exact u.free b o e (wipA_in z) (by simp)
  refine ⟨⟨fun b o e n hb hx => u.keep b o e (by rw [wipA_out (nn n)]; exact n) hb hx, fun b o e n hb hx => u.slot b o e (by rw [wipA_out (nn n)]; exact n) hb hx, fun b o e n hx => ?_, u.there, fun b xs e => ?_, fun b o x e => ?_, fun b ps e => ?_⟩, fun b o e => ?_, h2n⟩
  · rw [back_out (nn n)]
    exact u.free b o e (by rw [wipA_out (nn n)]; exact n) hx
  · have := nc e (fun _ _ z => nomatch z)
    rw [back_out this]
    exact u.tups b xs (by rw [wipA_out this]; exact e)
  · by_cases hb : b ∈ cs
    · rw [back_in hb]; exact e
    · rw [back_out hb]
      exact u.frzs b o x (by rw [wipA_out hb]; exact e)
  · have := nc e (fun _ _ z => nomatch z)
    obtain ⟨m, q⟩ := u.tbls b ps (by rw [wipA_out this]; exact e)
    exact ⟨m, by rw [back_out this]; exact q⟩
  · by_cases hb : b ∈ cs
    · rw [back_in hb] at e
      obtain ⟨ob, φ, q⟩ := hc b hb
      rw [e] at q
      cases q
      obtain ⟨e1, p, ⟨o1, e2⟩, st⟩ := ok b _ e
      have e3 := u.keep b ob e1 (wipA_in hb) (nf b hb) (by simp)
      exact ⟨e3, st h h' p (fun o z => by rw [e1] at z; cases z; exact e3), ⟨_, e3⟩, st⟩
    · rw [back_out hb] at e
      have mv : ∀ c o, H2 c = some o → backA cs H H2 c = some o := fun c o q => by
        rw [back_out]
        · exact q
        · intro z; rw [h2n c z] at q; cases q
      exact (ok2 b o e).stay (fun _ _ _ q => q) (fun c q => mv c _ q) fun c xs q => mv c _ q
/-- a call at an abstract heap that knows more -/
theorem un_add {fz : Hp} (hc : ∀ b ∈ cs, H b = none) (hf : ∀ b ∈ cs, ∃ o φ, fz b = some (.frz o (.ext φ)) ∧ h.get? b = some o) (nf : ∀ b ∈ cs, b ∉ fs) (u : Un fs [] (backA cs fz H) H2 h h') (ok2 : HOk P w H2 h') :
    Un fs [] H (wipeA cs H2) h h' ∧ HOk P w (wipeA cs H2) h' := by
  have nc : ∀ {b o}, H b = some o → b ∉ cs := fun {b o} e z => by rw [hc b z] at e; cases e
  have h2 : ∀ b ∈ cs, ∃ o φ, H2 b = some (.frz o (.ext φ)) ∧ h.get? b = some o := fun b z => by
    obtain ⟨o, φ, e1, e2⟩ := hf b z
    exact ⟨o, φ, u.frzs b o _ (by rw [back_in z]; exact e1), e2⟩
  refine ⟨⟨fun b o e n hb hx => ?_, fun b o e n hb hx => ?_, fun b o e n hx => ?_, u.there, fun b xs e => ?_, fun b o x e => ?_, fun b ps e => ?_⟩, hok_wipe (fun b z o e => ?_) ok2⟩
  · by_cases z : b ∈ cs
    · obtain ⟨o', φ, e1, e2⟩ := h2 b z
      rw [e] at e2
      cases e2
      exact (ok2 b _ e1).1
    · exact u.keep b o e (by rw [back_out z]; exact n) hb hx
  · have z : b ∉ cs := fun z => nf b z hb
    exact u.slot b o e (by rw [back_out z]; exact n) hb hx
  · by_cases z : b ∈ cs
    · exact wipA_in z
    · rw [wipA_out z]
      exact u.free b o e (by rw [back_out z]; exact n) hx
  · rw [wipA_out (nc e)]
    exact u.tups b xs (by rw [back_out (nc e)]; exact e)
  · rw [wipA_out (nc e)]
    exact u.frzs b o x (by rw [back_out (nc e)]; exact e)
  · obtain ⟨m, q⟩ := u.tbls b ps (by rw [back_out (nc e)]; exact e)
    exact ⟨m, by rw [wipA_out (nc e)]; exact q⟩
  · obtain ⟨o', φ, e1, _⟩ := h2 b z
    rw [e] at e1
    cases e1
    exact ⟨_, _, rfl⟩
/-- what may go where some objects are not known -/
def okC : T → Bool
  | .dic l => immK l | .scr l => immL l | .lst l => immL l | t => imm t
theorem rep_wipe (hc : ∀ b ∈ cs, ∃ o φ, H b = some (.frz o (.ext φ))) {t : T} {v : V} (ht : okC t = true) (r : Rep K H t v) : Rep K (wipeA cs H) t v := by
  have nc : ∀ {b o}, H b = some o → (∀ ob φ, o ≠ .frz ob (.ext φ)) → b ∉ cs := fun {b o} e n z => by
    obtain ⟨ob, φ, q⟩ := hc b z
    rw [e] at q
    cases q
    exact n _ _ rfl
  have rd : ∀ {a : Addr} {u : HO}, (∀ φ, u ≠ .ext φ) → (∀ ob φ, u ≠ .frz ob (.ext φ)) → Rd H a u → Rd (wipeA cs H) a u := fun {a u} n1 n2 q => by
    rcases q with q | ⟨o, q⟩
    · exact .inl (by rw [wipA_out (nc q n2)]; exact q)
    · exact .inr ⟨o, by rw [wipA_out (nc q (fun ob φ z => n1 φ (by cases z; rfl)))]; exact q⟩
  have s0 : Same (addT (fun _ => none) H) (wipeA cs H) := fun b o e => by
    rw [addT_none rfl] at e
    have e' := tupO_some e
    rw [wipA_out]
    · exact e'
    · refine nc e' fun ob φ z => ?_
      subst z
      rw [e'] at e
      cases e
  have im : ∀ {t : T} {v : V}, imm t = true → Rep K H t v → Rep K (wipeA cs H) t v := fun h r => (imm_rep (K := K) (B := fun _ => none) (fun _ _ h => nomatch h) _ _ h r).same s0
  cases t with
  | dic l =>
    obtain ⟨a, vs, rfl, q, r⟩ := rep_dic.mp r
    exact rep_dic.mpr ⟨a, vs, rfl, rd (fun _ z => nomatch z) (fun _ _ z => nomatch z) q, (imm_repsK (K := K) (B := fun _ => none) (fun _ _ h => nomatch h) _ _ ht r).same s0⟩
  | scr l =>
    obtain ⟨a, vs, rfl, q, r⟩ := rep_scr.mp r
    refine rep_scr.mpr ⟨a, vs, rfl, ?_, (imm_reps (K := K) (B := fun _ => none) (fun _ _ h => nomatch h) _ _ ht r).same s0⟩
    rcases q with q | q
    · exact .inl (rd (fun _ z => nomatch z) (fun _ _ z => nomatch z) q)
    · exact .inr q
  | lst l =>
    obtain ⟨a, vs, rfl, q, r⟩ := rep_lst.mp r
    exact rep_lst.mpr ⟨a, vs, rfl, by rw [wipA_out (nc q (fun _ _ z => nomatch z))]; exact q, (imm_reps (K := K) (B := fun _ => none) (fun _ _ h => nomatch h) _ _ ht r).same s0⟩
  | tup l => exact im ht r
  | non => exact im rfl r
  | bl b => exact im rfl r
  | int b => exact im rfl r
  | str b => exact im rfl r
  | raw b => exact im rfl r
  | clo S => cases ht
theorem reps_wipe (hc : ∀ b ∈ cs, ∃ o φ, H b = some (.frz o (.ext φ))) : ∀ {ts : List T} {vs : List V}, ts.all okC = true → Reps K H ts vs → Reps K (wipeA cs H) ts vs
  | [], vs, _, r => by unfold Reps at r ⊢; exact r
  | t :: ts, vs, ht, r => by
    unfold Reps at r
    obtain ⟨v, q, rfl, r1, r2⟩ := r
    rw [List.all_cons, Bool.and_eq_true] at ht
    exact .cons (rep_wipe hc ht.1 r1) (reps_wipe hc ht.2 r2)
end
/-! ### a nested function and what it captured -/
/-- its cells -/
def cellsL (cl : List (Str × Addr)) : List Addr := (cl.map (·.1)).filterMap fun y => cl.lookup y
theorem mem_cellsL {cl : List (Str × Addr)} {b : Addr} : b ∈ cellsL cl ↔ ∃ y, cl.lookup y = some b := by
  unfold cellsL
  rw [List.mem_filterMap]
  constructor
  · rintro ⟨y, _, h⟩; exact ⟨y, h⟩
  · rintro ⟨y, h⟩; exact ⟨y, List.mem_map.mpr ⟨_, PySem.mem_of_lookup h, rfl⟩, h⟩
def CellO (a : Addr) (v : Option Value) : HO := .ext fun h => h.IsCell a v
/-- the words of a nested def -/
def NFd (st : Stmt) (name qual : Str) (cl : List (Str × Addr)) (c : Addr) : NF := ⟨name, qual, defArgs st, defBody st, defScope st, cl, c⟩
/-- the function at f, over B: st's, its captured names fr hold cap -/
structure CloOk (K : PySem.W.Frag) (st : Stmt) (name qual : Str) (fr : List Str) (cap : List T) (B : Hp) (f : Addr) : Prop where
  ex : ∃ (cl : List (Str × Addr)) (c : Addr) (fobj : Obj) (cob : Obj) (ws : List V), B c = some (.frz cob (CodeO c qual)) ∧ B f = some (.frz fobj (FnO f (NFd st name qual cl c))) ∧
    (∀ y a, cl.lookup y = some a → ∃ o v, B a = some (.frz o (CellO a v))) ∧ (∀ x y a, cl.lookup x = some a → cl.lookup y = some a → x = y) ∧
    (∀ (i : Nat) (y : Str), fr[i]? = some y → ∃ a, cl.lookup y = some a ∧ ∀ v, ws[i]? = some v → ∃ u o, RelV v u ∧ B a = some (.frz o (CellO a (some u)))) ∧ ws.length = fr.length ∧ Reps K B cap ws
/-- its value -/
def cloT (K : PySem.W.Frag) (st : Stmt) (name qual : Str) (fr : List Str) (cap : List T) : T := .clo fun B v => ∃ f, v = .ref f ∧ CloOk K st name qual fr cap B f
theorem startF_eq {N : List Str} {vs ws : List V} : startF N vs (ws.map some) = L2.start N (vs ++ ws) := by
  unfold startF L2.start
  rw [List.map_append, List.append_assoc, List.length_map, List.length_append, Nat.sub_sub]
theorem reps_app {H : Hp} : ∀ {ts ts' : List T} {vs vs' : List V}, Reps K H ts vs → Reps K H ts' vs' → Reps K H (ts ++ ts') (vs ++ vs')
  | [], _, _, _, h, h' => by unfold Reps at h; subst h; exact h'
  | t :: ts, _, _, _, h, h' => by
    unfold Reps at h
    obtain ⟨v, r, rfl, h1, h2⟩ := h
    exact .cons h1 (reps_app h2 h')
/-- its call -/
theorem clo_code {st : Stmt} {name qual : Str} {ps fr : List Str} {d : Env' → Out} {cap : List T} {ow' : List Nat} (S : NScope N ps fr (defScope st))
    (hb : ∀ (cl : List (Str × Addr)) (c : Addr) (doc pm ctv : Value) (us : List Value), us.length = ps.length → bindArgs ((NFd st name qual cl c).fd doc pm ctv) ⟨us, []⟩ = pure (ps.zip us))
    (body : ∀ (G : Unit → Cx), Fm G K mg base P w N (defScope st) k → SV K false [] ow' [] (TSs G (defBody st)) d)
    {B : Hp} {f : Addr} (C : CloOk K st name qual fr cap B f) {A : Around} {outer : List Env} {s : Shared} {H : Hp} {us : List Value} {vs : List V} {ts : List T} {τ : T} {Q : VK} (hr : Room (k + 1) A) (e0 : Env0 P w K mg base A outer s H)
    (sB : Same B H) (r : Reps K H ts vs) (hl : ts.length = ps.length) (hoc : (ts ++ cap).all okC = true) (rv : Vals vs us) (e : fnD N false d (ts ++ cap) = some τ) (hq : ∀ v H', Same H H' → Rep K H' τ v → Q v H') :
    codeAny (model P w) A (.call (.ref f) ⟨us, []⟩) (CR CX0 outer P w H s Q E0) s := by
  obtain ⟨cl, c, fobj, cob, ws, hcd, hf, hcl, hinj, hcap, hwl, rc⟩ := C.ex
  obtain ⟨cs, hcs⟩ : ∃ cs, cs = cellsL cl := ⟨_, rfl⟩
  have hc : ∀ b ∈ cs, ∃ o φ, H b = some (.frz o (.ext φ)) := fun b hb => by
    rw [hcs] at hb
    obtain ⟨y, hy⟩ := mem_cellsL.mp hb
    obtain ⟨o, v, q⟩ := hcl y b hy
    exact ⟨o, _, sB _ _ q⟩
  have hin : ∀ {y : Str} {a : Addr}, cl.lookup y = some a → a ∈ cs := fun {y a} q => by
    rw [hcs]
    exact mem_cellsL.mpr ⟨y, q⟩
  have nf : ∀ b ∈ cs, b ∉ frs outer := fun b hb z => by
    obtain ⟨o, φ, q⟩ := hc b hb
    rw [e0.frf b z] at q
    cases q
  have hok0 : HOk P w (wipeA cs H) s.heap := hok_wipe (fun b hb o q => by
    obtain ⟨o', φ, q'⟩ := hc b hb
    rw [q] at q'
    cases q'
    exact ⟨_, _, rfl⟩) e0.hok
  have wn : ∀ {b : Addr}, H b = none → wipeA cs H b = none := fun {b} q => by
    unfold wipeA
    split
    · rfl
    · exact q
  have e00 : Env0 P w K mg base A outer s (wipeA cs H) := ⟨e0.frames, e0.mod, fun b o q => ⟨(e0.bs b o q).1, wn (e0.bs b o q).2⟩, e0.bsz, e0.funs, fun b hb => wn (e0.frf b hb), hok0, e0.bare⟩
  have cellAt : ∀ {a : Addr} {o : Obj} {v : Option Value}, B a = some (.frz o (CellO a v)) → s.heap.IsCell a v := fun {a o v} q => by
    obtain ⟨_, x⟩ := e0.hok a _ (sB _ _ q)
    exact x.1
  have hcells : CellsAt cl fr (ws.map some) s.heap (wipeA cs H) := by
    refine ⟨by rw [List.length_map]; exact hwl, fun y a q => ⟨wipA_in (hin q), ?_⟩, hinj, fun i y q => ?_⟩
    · obtain ⟨o, v, q'⟩ := hcl y a q
      exact ⟨v, cellAt q'⟩
    · obtain ⟨a, ha, hv⟩ := hcap i y q
      refine ⟨a, ha, fun v ev => ?_⟩
      rw [List.getElem?_map] at ev
      cases ew : ws[i]? with
      | none => rw [ew] at ev; cases ev
      | some w' =>
        rw [ew] at ev
        cases ev
        obtain ⟨u, o, ru, hu⟩ := hv v ew
        exact ⟨u, ru, cellAt hu⟩
  have KX : K.In s.heap := e0.mod.kin.keeps fun b o q => (e0.bs b o q).1
  have lim : s.heap.NoLimit := e0.mod.nolimit.keeps fun b o q => (e0.bs b o q).1
  obtain ⟨od, sl, doc, pm, ctv, ho⟩ : ∃ (od : Option Addr) (sl : Array (Option Value)) (doc pm ctv : Value), s.heap.get? f = some (⟨.type "function", od, .func ((NFd st name qual cl c).fd doc pm ctv), sl⟩ : Obj) := by
    obtain ⟨_, x⟩ := e0.hok f _ (sB _ _ hf)
    exact x.1
  have hrec : s.heap.CodeRec (.ref c) qual := by
    obtain ⟨_, x⟩ := e0.hok c _ (sB _ _ hcd)
    obtain ⟨oc, vs, t, h1, h2, h3⟩ := x.1
    exact ⟨c, oc, vs, t, rfl, h1, h2, h3⟩
  have hvl : vs.length = ps.length := by rw [← r.length]; exact hl
  rw [List.all_append, Bool.and_eq_true] at hoc
  have r0 : Reps K (wipeA cs H) (ts ++ cap) (vs ++ ws) := reps_app (reps_wipe hc hoc.1 r) (reps_wipe hc hoc.2 (rc.same sB))
  have hpl : ps.length + fr.length ≤ N.length := by
    have q := congrArg List.length S.pre
    rw [List.length_take, List.length_append] at q
    omega
  have hcl2 : cap.length = fr.length := by rw [rc.length]; exact hwl
  refine codeAny_mono (R := CR CX0 outer P w (wipeA cs H) s (fun v H2 => Same (wipeA cs H) H2 ∧ Rep K H2 τ v) E0) ?_ fun res s' hres => ?_
  · refine codeAny_call_function hr.depth ho rfl S.co S.gen rfl hrec ?_
    rw [hb cl c doc pm ctv us (by rw [← rv.length]; exact hvl)]
    refine wpAny_pure (wpAny_newFunctionEnv S.nocell (fun ⟨n, _⟩ hy => S.par n (List.of_mem_zip hy).1) (fun h₁ hns hsb => ⟨lim.fresh _ hsb, ?_⟩) S.kind)
    show codeAny _ _ (.func (NFd st name qual cl c).body (envF (NFd st name qual cl c) f s.heap.objs.size)) _ _
    refine codeAny_func ?_
    have kp : ∀ b o, s.heap.get? b = some o → h₁.get? b = some o := fun b o q => hsb.extBut b o (Nat.ne_of_lt (Heap.lt_size q)) (Heap.get?_push_of_some _ q)
    obtain ⟨X, hX⟩ : ∃ X : Cx, X = ncx CX0 P w K mg base N (NFd st name qual cl c) f A outer s (wipeA cs H) E0 := ⟨_, rfl⟩
    have hF : Fm (fun _ : Unit => X.nox) K mg base P w N (defScope st) k := by
      rw [hX]
      exact { K := fun _ => rfl, mg := fun _ => rfl, base := fun _ => rfl, P := fun _ => rfl, w := fun _ => rfl, N := fun _ => rfl, sc := fun _ => rfl, calm := fun _ => rfl, room := fun _ => hr.deeper _ }
    have hs := start_str (N := N) r0 (by rw [List.length_append]; omega)
    have hbody := body _ hF (wipeA cs H) (rho0 N (ts ++ cap)) (L2.start N (vs ++ ws)) (wipeA cs H) { nx := fun _ H' => (fun v H2 => Same (wipeA cs H) H2 ∧ Rep K H2 τ v) .non H', rt := fun v H2 => Same (wipeA cs H) H2 ∧ Rep K H2 τ v, bk := fun _ _ => False, ct := fun _ _ => False } ⟨_, Same.refl _, hs⟩ (by
      unfold fnD at e
      split at e
      · rename_i t eo
        cases e
        rw [eo]
        exact fun v H' s' q => ⟨s', q⟩
      · rename_i ρ' eo
        rw [eo]
        split at e
        · cases e
        · cases e
          refine fun σ' H' hr' => ⟨hr'.sm, rep_non.mpr rfl⟩
      · cases e)
    obtain ⟨t, ht, hq'⟩ := hbody
    have ht' : PSs X (defBody st) t := (ht ()).nox
    rw [← startF_eq] at hq'
    subst hX
    have I : Inv (ncx CX0 P w K mg base N (NFd st name qual cl c) f A outer s (wipeA cs H) E0) [] (startF N vs (ws.map some)) (wipeA cs H) { s with heap := h₁, toks := s.toks + (ps.zip us).length } := inv_startN S hr.hd e00 hvl rv hcells hns kp
    refine wpAny_mono (ht'.run [] _ (startF N vs (ws.map some)) (wipeA cs H) _ I hq') (fun fl s' hs => ?_) fun e s' hs => hs
    have fin : ∀ {σ' : L2.St} {H' : Hp} {v : V} {u : Value}, Inv (ncx CX0 P w K mg base N (NFd st name qual cl c) f A outer s (wipeA cs H) E0) [] σ' H' s' → RelV v u → (Same (wipeA cs H) H' ∧ Rep K H' τ v) → CE outer P w (wipeA cs H) s (fun v H2 => Same (wipeA cs H) H2 ∧ Rep K H2 τ v) u s' :=
      fun {σ' H' v u} J rv q => ⟨v, H', J.os, J.bare, J.base, J.hok, rv, q⟩
    cases fl with
    | ret u =>
      obtain ⟨v, σ', H', J, rv, q⟩ := hs
      exact fin J rv q
    | next =>
      obtain ⟨σ', H', J, q⟩ := hs
      exact fin (v := V.non) (u := Value.none) J rfl q
    | brk =>
      obtain ⟨_, _, _, q⟩ := hs
      exact False.elim q
    | cont =>
      obtain ⟨_, _, _, q⟩ := hs
      exact False.elim q
  · cases res with
    | error e => exact False.elim hres
    | ok fl =>
      cases fl with
      | ret u =>
        obtain ⟨v, H2, os, bare, un, hok2, rv', q1, q2⟩ := hres
        obtain ⟨un', hok', hn⟩ := un_wipe hc e0.hok nf un hok2
        refine ⟨v, backA cs H H2, os, bare, un', hok', rv', hq v _ (fun b o q => ?_) (q2.same fun b o q => ?_)⟩
        · by_cases hb : b ∈ cs
          · rw [back_in hb]; exact q
          · rw [back_out hb]; exact q1 b o (by rw [wipA_out hb]; exact q)
        · rw [back_out]
          · exact q
          · intro z; rw [hn b z] at q; cases q
      | next => exact False.elim hres
      | brk => exact False.elim hres
      | cont => exact False.elim hres
/-- what a call of it is worth -/
def cloF (N : List Str) (d : Env' → Out) (cap : List T) : List T → Option T := fun ts => if (ts ++ cap).all okC = true then fnD N false d (ts ++ cap) else none
theorem calls_clo {st : Stmt} {name qual : Str} {Nc ps fr : List Str} {d : Env' → Out} {cap : List T} {ow' : List Nat} {kc : Nat} (hG : Fm G K mg base P w N sc k) (S : NScope Nc ps fr (defScope st))
    (hb : ∀ (cl : List (Str × Addr)) (c : Addr) (doc pm ctv : Value) (us : List Value), us.length = ps.length → bindArgs ((NFd st name qual cl c).fd doc pm ctv) ⟨us, []⟩ = pure (ps.zip us))
    (body : ∀ (G : Unit → Cx), Fm G K mg base P w Nc (defScope st) kc → SV K false [] ow' [] (TSs G (defBody st)) d) (hjk : kc + 1 ≤ k) :
    Calls G K N sc (cloT K st name qual fr cap) ps.length (cloF Nc d cap) := by
  refine ⟨fun {x p pos e es da} j ha hN hv hdb hcd he hpl hn => ?_⟩
  intro ρ σ H τ Q hE hd hq
  dsimp only at hd
  unfold callV at hd
  split at hd
  · rename_i e2
    cases e5 : da ρ with
    | none => rw [e5] at hd; cases hd
    | some ts =>
      rw [e5] at hd
      have hd : (if (ts ++ cap).all okC = true then fnD Nc false d (ts ++ cap) else none) = some τ := hd
      split at hd
      · rename_i hoc
        obtain ⟨v, e6, r6⟩ := hE.2 j _ (nd_some e2)
        obtain ⟨B, hB, sB, f, rfl, C⟩ := rep_clo.mp r6
        refine ⟨fun σ H Q => σ[j]? = some (some (.ref f)) ∧ Same B H ∧ TAs G (e :: es) σ H fun vs H1 => Same B H1 ∧ Reps K H1 ts vs ∧ ∀ v H', Same H1 H' → Rep K H' τ v → Q v H', fun i => ?_, e6, sB, ?_⟩
        · refine ⟨fun pins s σ H Q I h => ?_⟩
          obtain ⟨hs, sB, ht⟩ := h
          have fnAt : ∀ {pins : List (Addr × Obj)} {σ : L2.St} {H : Hp} {s : Shared}, Inv (G i) pins σ H s → Same B H → PySem.W.FnAt f s.heap := fun {pins σ H s} I sB => by
            obtain ⟨cl, c, fobj, cob, ws, hcd, hf, _⟩ := C.ex
            obtain ⟨_, x⟩ := I.hok f _ (sB _ _ hf)
            obtain ⟨od, sl, doc, pm, ctv, ho⟩ := x.1
            exact ⟨_, od, _, sl, ho⟩
          refine wpAny_Call_Name_kw (thn ((pe_var (pos := p) (by rw [hG.N i]; exact hN) (by rw [hG.sc i]; exact vis_of hv) hdb hcd).run pins s σ H (fun v H1 => v = .ref f ∧ H1 = H) I ⟨.ref f, hs, rfl, rfl⟩) fun u s1 ⟨v, H1, I1, r1, q1⟩ => ?_)
          obtain ⟨ev, eH⟩ := q1
          subst ev
          rw [eH] at I1
          obtain rfl : u = Value.ref f := r1
          refine PySem.W.callWith_F (first := []) (fnAt I1 sB) (thn ((pa_ts i).run pos pins s1 σ H _ I1 ht) fun us s2 ⟨vs, H2, I2, r, sB2, rr, q⟩ => ⟨fnAt I2 sB2, ?_⟩) (he i) (hpl i)
          show wpAny _ _ (call (.ref f) us) _ _ _
          have e0 := I2.env0
          rw [hG.P i, hG.w i, hG.K i, hG.mg i, hG.base i] at e0
          have hc := clo_code S hb body C (Q := Q) ((hG.room i).mono hjk) e0 sB2 rr ((ha.1 ρ ts e5).trans hn) hoc r hd q
          refine wpAny_call (codeAny_mono (R := CR CX0 (G i).stack P w H2 s2 Q E0) ?_ fun res s' hres => ?_)
          · rw [hG.P i, hG.w i]; exact hc
          · cases res with
            | error e => exact False.elim hres
            | ok fl =>
              cases fl with
              | ret u => exact I2.after (by rw [hG.P i, hG.w i]; exact hres)
              | next => exact False.elim hres
              | brk => exact False.elim hres
              | cont => exact False.elim hres
        · exact ha.2 ρ σ H ts _ hE e5 fun vs H1 s1 r => ⟨sB.trans s1, r, fun v H' s2 r2 => hq v H' (s1.trans s2) r2⟩
      · cases hd
  · cases hd
end DL
/-! DL30: statements while a table of code objects grows. -/
namespace DL
open PySem PySem.Spec PyProof.Rows L2 NdefX LamX
variable {ι : Type} {G : ι → Cx} {K : PySem.W.Frag} {mg : Str → Option Value} {base : Heap} {P : Program} {w : World} {N : List Str} {sc : Scope} {k : Nat}
variable {fr : Bool} {ow ow' ow2 owl : List Nat} {pos : Pos}
/-- the table at p: what it tells bears the name q -/
abbrev TabQ (p : Addr) (q : Str) (H : Hp) : Prop := TabN H p (fun _ _ => q)
open Classical in
/-- B and H's tables and code objects -/
noncomputable def plusT (B H : Hp) : Hp := fun b => match B b with
  | some o => some o
  | none => if (∃ ps, H b = some (.tbl ps)) ∨ (∃ q, H b = some (CodeO b q)) then H b else none
section
variable {B H H' : Hp} {p a : Addr} {q : Str}
theorem plus_some {o : HO} (h : B a = some o) : plusT B H a = some o := by unfold plusT; rw [h]
theorem plus_same : Same B (plusT B H) := fun a o e => plus_some e
theorem plus_sub (s : Same B H) : Same (plusT B H) H := fun a o e => by
  cases h : B a with
  | some u =>
    rw [plus_some h] at e
    cases e
    exact s a _ h
  | none =>
    unfold plusT at e
    rw [h] at e
    dsimp only at e
    split at e
    · exact e
    · cases e
theorem plus_kept (s : Same B H) {o : HO} (e : H a = some o) (h : (∃ ps, o = .tbl ps) ∨ ∃ q, o = CodeO a q) : plusT B H a = some o := by
  cases hb : B a with
  | some u =>
    rw [plus_some hb]
    have := s a u hb
    rw [e] at this
    exact this.symm
  | none =>
    unfold plusT
    rw [hb]
    dsimp only
    rw [if_pos]
    · exact e
    · rcases h with ⟨ps, rfl⟩ | ⟨q, rfl⟩
      · exact .inl ⟨ps, e⟩
      · exact .inr ⟨q, e⟩
theorem plus_tab (s : Same B H) (h : TabQ p q H) : TabQ p q (plusT B H) := by
  obtain ⟨ps, h1, h2, h3⟩ := h
  refine ⟨ps, plus_kept s h1 (.inl ⟨ps, rfl⟩), h2, fun pos cv e => ?_⟩
  obtain ⟨c, e1, e2⟩ := h3 pos cv e
  exact ⟨c, e1, plus_kept s e2 (.inr ⟨_, rfl⟩)⟩
theorem plus_none {o : HO} (n : B a = none) (e : H a = some o) (ho : (∃ xs, o = .lst xs) ∨ ∃ kvs, o = .dK kvs) : plusT B H a = none := by
  unfold plusT
  rw [n]
  dsimp only
  rw [if_neg]
  rintro (⟨ps, z⟩ | ⟨q, z⟩)
  · rw [e] at z
    cases z
    rcases ho with ⟨_, z⟩ | ⟨_, z⟩ <;> cases z
  · rw [e] at z
    cases z
    rcases ho with ⟨_, z⟩ | ⟨_, z⟩ <;> cases z
theorem FrO.kind {τ : T} {o : HO} (f : FrO K H τ o) : (∃ xs, o = .lst xs) ∨ ∃ kvs, o = .dK kvs := by
  rcases f with ⟨_, vs, _, e, _⟩ | ⟨_, vs, _, e, _⟩
  · exact .inl ⟨vs, e⟩
  · exact .inr ⟨vs, e⟩
theorem StR.plus {ρ : Env'} {σ : L2.St} (h : StR K B ow ρ σ H) : StR K (plusT B H) ow ρ σ H := by
  obtain ⟨B', sB, r⟩ := h
  refine ⟨plusT B' H, fun a o e => ?_, plus_sub r.sm, r.len, fun i t m e => ?_, fun i t m e => ?_, r.inj⟩
  · cases hb : B a with
    | some u =>
      rw [plus_some hb] at e
      cases e
      exact plus_some (sB a _ hb)
    | none =>
      unfold plusT at e
      rw [hb] at e
      dsimp only at e
      split at e
      · rename_i c
        refine plus_kept r.sm e ?_
        rcases c with ⟨ps, z⟩ | ⟨q, z⟩
        · rw [e] at z; cases z; exact .inl ⟨ps, rfl⟩
        · rw [e] at z; cases z; exact .inr ⟨q, rfl⟩
      · cases e
  · obtain ⟨v, e1, e2⟩ := r.val i t m e
    exact ⟨v, e1, e2.same plus_same⟩
  · obtain ⟨a, o, e1, e2, e3, f⟩ := r.own i t m e
    exact ⟨a, o, e1, plus_none e2 e3 f.kind, e3, f.same plus_same⟩
end
def PostT (K : PySem.W.Frag) (p : Addr) (q : Str) (fr : Bool) (B : Hp) (D : Ends) (ow' owl : List Nat) : Out → Prop
  | .nx ρ => ∀ σ H, StR K B ow' ρ σ H → TabQ p q H → D.nx σ H
  | .bk ρ => ∀ σ H, StR K B owl ρ σ H → TabQ p q H → D.bk σ H
  | .ct ρ => ∀ σ H, StR K B owl ρ σ H → TabQ p q H → D.ct σ H
  | .rt τ => ∀ v H, Same B H → TabQ p q H → RtR K B fr τ v H → D.rt v H
  | .er => False
def SVT (K : PySem.W.Frag) (p : Addr) (q : Str) (fr : Bool) (ow ow' owl : List Nat) (R : TS) (d : Env' → Out) : Prop :=
  ∀ B ρ σ H D, (∀ a ps, B a ≠ some (.tbl ps)) → TabQ p q H → StR K B ow ρ σ H → PostT K p q fr B D ow' owl (d ρ) → R D σ H
section
variable {p : Addr} {q : Str} {R : TS} {d d1 d2 : Env' → Out} {st : Stmt} {sts : List Stmt}
theorem svt_of (h : SV K fr ow ow' owl R d) : SVT K p q fr ow ow' owl R d := by
  intro B ρ σ H D nP tq hr hp
  refine h (plusT B H) ρ σ H D hr.plus ?_
  have tB : TabQ p q (plusT B H) := plus_tab hr.sm tq
  cases e : d ρ with
  | nx ρ' => rw [e] at hp; exact fun σ' H' r => hp σ' H' (r.of plus_same) (tB.ext r.sm)
  | bk ρ' => rw [e] at hp; exact fun σ' H' r => hp σ' H' (r.of plus_same) (tB.ext r.sm)
  | ct ρ' => rw [e] at hp; exact fun σ' H' r => hp σ' H' (r.of plus_same) (tB.ext r.sm)
  | rt τ =>
    rw [e] at hp
    refine fun v H' s r => hp v H' (plus_same.trans s) (tB.ext s) ?_
    unfold RtR at r ⊢
    split at r
    · rename_i c
      rw [if_pos c]
      obtain ⟨pp, o, e1, e2, e3, f⟩ := r
      refine ⟨pp, o, e1, ?_, e3, f⟩
      cases hb : B pp with
      | none => rfl
      | some u => rw [plus_some hb] at e2; cases e2
    · rename_i c
      rw [if_neg c]
      exact r
  | er => rw [e] at hp; exact hp.elim
theorem svt_cons (h1 : SVT K p q fr ow ow2 owl (TSt G st) d1) (h2 : SVT K p q fr ow2 ow' owl (TSs G sts) d2) : SVT K p q fr ow ow' owl (TSs G (st :: sts)) (seqD d1 d2) := by
  intro B ρ σ H D nP tq hr hp
  refine ⟨tSeq (TSt G st) (TSs G sts), fun i => pss_cons (ps_st i) (pss_ss i), ?_⟩
  refine h1 B ρ σ H _ nP tq hr ?_
  unfold seqD at hp
  cases e : d1 ρ with
  | nx ρ' =>
    rw [e] at hp
    exact fun σ' H' r t => h2 B ρ' σ' H' D nP t r hp
  | bk ρ' => rw [e] at hp; exact hp
  | ct ρ' => rw [e] at hp; exact hp
  | rt τ => rw [e] at hp; exact hp
  | er => rw [e] at hp; exact hp
theorem svt_one (h : SVT K p q fr ow ow' owl (TSt G st) d) : SVT K p q fr ow ow' owl (TSs G [st]) d := fun B ρ σ H D nP tq hr hp => ⟨_, fun i => pss_one (ps_st i), h B ρ σ H D nP tq hr hp⟩
end
end DL
/-! DL31: a def within a def, handed to a def of the module. -/
namespace DL
open PySem PySem.Spec PyProof.Rows L2 NdefX LamX
/-- what is known of a frame's cells -/
structure FzOk (cl : List (Str × Addr)) (fr : List Str) (ws : List (Option V)) (fz : Hp) : Prop where
  all : ∀ y a, cl.lookup y = some a → ∃ o v, fz a = some (.frz o (CellO a v))
  inj : ∀ x y a, cl.lookup x = some a → cl.lookup y = some a → x = y
  has : ∀ (i : Nat) (y : Str), fr[i]? = some y → ∃ a, cl.lookup y = some a ∧ ∀ v, ws[i]? = some (some v) → ∃ u o, RelV v u ∧ fz a = some (.frz o (CellO a (some u)))
  len : ws.length = fr.length
/-- f(x, y): the frame's cells are known to f -/
def tCutC (cl : List (Str × Addr)) (fr : List Str) (js : List Nat) (i0 i1 : Nat) (sp : Sp) : TE := fun σ H Q => ∃ p0 f, σ[i0]? = some (some (.ref p0)) ∧ σ[i1]? = some (some (.ref f)) ∧
  ∀ fz, FzOk cl fr (js.map (slotAt σ)) fz → (∀ b ∈ cellsL cl, H b = none) → sp [.ref p0, .ref f] (backA (cellsL cl) fz H) (fun v H2 => Q v (wipeA (cellsL cl) H2)) E0
def fzOf (h : Heap) : Hp := fun b => match h.get? b with
  | some o => (match o.data with | .cell v => some (.frz o (CellO b v)) | _ => none)
  | none => none
theorem fzOf_cell {h : Heap} {b : Addr} {v : Option Value} (c : h.IsCell b v) : ∃ o, h.get? b = some o ∧ fzOf h b = some (.frz o (CellO b v)) := by
  obtain ⟨o, h1, h2⟩ := c
  refine ⟨o, h1, ?_⟩
  unfold fzOf
  rw [h1]
  dsimp only
  rw [h2]
section
variable {X : Cx} {k i0 i1 : Nat} {f : Addr} {fd : FuncData} {ps fr : List Str} {sp : Sp} {cl : List (Str × Addr)} {js : List Nat} {x y0 y1 : Str} {p p0 p1 pos : Pos}
theorem pe_cutC (F : FnOk X.prog X.w X.K X.mg X.base CX0 k f fd ps sp) (hr : Room k X.A) (hg : Gl X x) (hm : X.mg x = some (.ref f)) (hk : PySem.W.keepIn X.K (.ref f) = true) (hb : Binds X.K fd ps [])
    (cp : X.Ok → Caps X cl fr js) (hfn : ∀ y, X.fn y = true) (hN0 : X.N[i0]? = some y0) (hv0 : Vis X.env.scope y0) (hN1 : X.N[i1]? = some y1) (hv1 : Vis X.env.scope y1)
    (hdb : (x == ("__debug__" : Str)) = false) (hd0 : (y0 == ("__debug__" : Str)) = false) (hc0 : (y0 == ("__classdict__" : Str)) = false) (hd1 : (y1 == ("__debug__" : Str)) = false) (hc1 : (y1 == ("__classdict__" : Str)) = false)
    (he : starEach [.Name y0 p0, .Name y1 p1] X.env = (false, eval (.Name y0 p0) X.env) :: starEach [.Name y1 p1] X.env := by rfl) (he2 : starEach [.Name y1 p1] X.env = (false, eval (.Name y1 p1) X.env) :: starEach [] X.env := by rfl)
    (hpl : (backTo pos (starEach [.Name y1 p1] X.env)).any (·.1) = false := by rfl) : PE X (.Call (.Name x p) [.Name y0 p0, .Name y1 p1] [] pos) (tCutC cl fr js i0 i1 sp) := by
  refine ⟨fun pins s σ H Q I h => ?_⟩
  obtain ⟨a0, a1, e0, e1, hq⟩ := h
  refine wpAny_Call_Name_kw (ld_glob I hg hm ?_ hdb)
  refine PySem.W.callWith_K (h₀ := X.base) I.ok.mod.kin hk (thn ((pa_cons (pe_var (pos := p0) hN0 hv0 hd0 hc0) (pa_cons (pe_var (pos := p1) hN1 hv1 hd1 hc1) pa_nil he2) he).run pos pins s σ H (fun vs H1 => vs = [.ref a0, .ref a1] ∧ H1 = H) I ⟨.ref a0, e0, .ref a1, e1, rfl, rfl⟩) fun us s1 ⟨vs, H1, I1, r, q1⟩ => ⟨I1.kIn, ?_⟩) he hpl
  obtain ⟨ev, eH⟩ := q1
  subst ev
  rw [eH] at I1
  have hcp := cp I1.ok
  have C := cells_of I1 hcp
  obtain ⟨cs, hcs⟩ : ∃ cs, cs = cellsL cl := ⟨_, rfl⟩
  have hin : ∀ b ∈ cs, ∃ y, cl.lookup y = some b := fun b hb => by rw [hcs] at hb; exact mem_cellsL.mp hb
  have hnone : ∀ b ∈ cs, H b = none := fun b hb => by obtain ⟨y, hy⟩ := hin b hb; exact (C.all y b hy).1
  have hcell : ∀ b ∈ cs, ∃ v, s1.heap.IsCell b v := fun b hb => by obtain ⟨y, hy⟩ := hin b hb; exact (C.all y b hy).2
  have hcab : ∀ b ∈ cs, X.s_0.heap.objs.size ≤ b := fun b hb => by obtain ⟨y, hy⟩ := hin b hb; exact I1.ok.cab y b (hfn y) (hcp.sub y b hy)
  have nf : ∀ b ∈ cs, b ∉ frs X.stack := fun b hb z => by
    obtain ⟨y, hy⟩ := hin b hb
    rcases List.mem_cons.mp (I1.stkSub b z) with z | z
    · exact I1.cne y b (hcp.sub y b hy) z
    · obtain ⟨_, o, ho, _⟩ := I1.ok.funs.mem z
      exact absurd (Nat.lt_of_lt_of_le (Heap.lt_size ho) (hcab b hb)) (Nat.lt_irrefl _)
  have hfz : ∀ b ∈ cs, ∃ o v, fzOf s1.heap b = some (.frz o (CellO b v)) ∧ s1.heap.get? b = some o ∧ s1.heap.IsCell b v := fun b hb => by
    obtain ⟨v, c⟩ := hcell b hb
    obtain ⟨o, h1, h2⟩ := fzOf_cell c
    exact ⟨o, v, h2, h1, c⟩
  have hFz : FzOk cl fr (js.map (slotAt σ)) (fzOf s1.heap) := by
    refine ⟨fun y a e => ?_, C.inj, fun i y e => ?_, C.len⟩
    · obtain ⟨_, v, c⟩ := C.all y a e
      obtain ⟨o, _, h2⟩ := fzOf_cell c
      exact ⟨o, v, h2⟩
    · obtain ⟨a, ha, hv⟩ := C.has i y e
      refine ⟨a, ha, fun v ev => ?_⟩
      obtain ⟨u, ru, c⟩ := hv v ev
      obtain ⟨o, _, h2⟩ := fzOf_cell c
      exact ⟨u, o, ru, h2⟩
  have hq := hq (fzOf s1.heap) hFz (by rw [← hcs]; exact hnone)
  rw [← hcs] at hq
  have E := I1.env0
  have bo : ∀ b, b ∉ cs → backA cs (fzOf s1.heap) H b = H b := fun b hb => back_out hb
  have hok : HOk X.prog X.w (backA cs (fzOf s1.heap) H) s1.heap := fun b o e => by
    by_cases hb : b ∈ cs
    · rw [back_in hb] at e
      obtain ⟨o', v, e1, e2, c⟩ := hfz b hb
      rw [e] at e1
      cases e1
      refine ⟨e2, c, ⟨o', e2⟩, fun h1 h2 ⟨o1, z1, z2⟩ st => ⟨o1, st _ z1, z2⟩⟩
    · rw [bo b hb] at e
      refine (I1.hok b o e).stay (fun _ _ _ q => q) (fun c q => ?_) fun c xs q => ?_
      · rw [bo c fun z => by rw [hnone c z] at q; cases q]; exact q
      · rw [bo c fun z => by rw [hnone c z] at q; cases q]; exact q
  have E' : Env0 X.prog X.w X.K X.mg X.base X.A X.stack s1 (backA cs (fzOf s1.heap) H) := by
    refine ⟨E.frames, E.mod, fun b o e => ⟨(E.bs b o e).1, ?_⟩, E.bsz, E.funs, fun b hb => ?_, hok, E.bare⟩
    · rw [bo b fun z => ?_]
      · exact (E.bs b o e).2
      · have h1 := Heap.lt_size (I1.ok.bs b o e).1
        have h2 := hcab b z
        exact absurd (Nat.lt_of_lt_of_le h1 h2) (Nat.lt_irrefl _)
    · rw [bo b fun z => nf b z hb]
      exact E.frf b hb
  have hl : us.length = ps.length := by rw [← r.length]; exact F.len _ _ _ _ hq
  have hbt := hb s1 us I1.kIn (by rw [List.append_nil]; exact hl)
  rw [List.append_nil] at hbt
  refine wpAny_call (codeAny_mono (F.run X.A X.stack s1 _ ⟨us, []⟩ us [.ref a0, .ref a1] _ E0 hr E' hbt r hq) fun res s' hres => ?_)
  cases res with
  | error e => exact False.elim hres
  | ok fl =>
    cases fl with
    | ret u =>
      obtain ⟨v, H2, os, bare, un, hok2, rv', q1⟩ := hres
      obtain ⟨un', hok'⟩ := un_add hnone (fun b hb => by obtain ⟨o, v, z1, z2, _⟩ := hfz b hb; exact ⟨o, _, z1, z2⟩) nf un hok2
      exact I1.after ⟨v, wipeA cs H2, os, bare, un', hok', rv', q1⟩
    | next => exact False.elim hres
    | brk => exact False.elim hres
    | cont => exact False.elim hres
end
end DL
/-! DL32: def g(..) and return sorted(f(x, g)). -/
namespace DL
open PySem PySem.Spec PyProof.Rows L2 NdefX LamX
theorem fnO_code {f : Addr} {F : NF} {q : Str} : FnO f F ≠ CodeO f q := by
  intro z
  unfold FnO CodeO at z
  injection z with z
  obtain ⟨o, ho⟩ : ∃ o : Obj, o = ⟨.type "function", none, .func (F.fd .none .none .none), #[]⟩ := ⟨_, rfl⟩
  obtain ⟨h, hh⟩ : ∃ h : Heap, h.objs.size = f := ⟨⟨Array.replicate f default, {}⟩, by simp⟩
  have e1 : (h.push o).get? f = some o := by rw [← hh]; exact Heap.get?_push_size _ (by rw [ho]; rfl)
  have h1 := congrFun z (h.push o)
  have h2 := (iff_of_eq h1).mp ⟨none, #[], .none, .none, .none, by rw [e1, ho]⟩
  obtain ⟨oc, vs, t, e2, e3, _⟩ := h2
  rw [e1] at e2
  cases e2
  rw [ho] at e3
  cases e3
variable {K : PySem.W.Frag} {mg : Str → Option Value} {base : Heap} {P : Program} {w : World} {N : List Str} {sc : Scope} {k : Nat}
/-- what is captured: plain values, then a list -/
def capD (ja : List Nat) (jl : Nat) (ρ : Env') : Option (List T) := match ja.mapM (fun j => (nd j ρ).bind fun t => if imm t = true then some t else none), nd jl ρ with
  | some ts, some (.lst l) => if immL l = true then some (ts ++ [.scr l]) else none
  | _, _ => none
/-- sorted(f(x, g)) -/
def tailD (i0 i1 : Nat) (ja : List Nat) (jl : Nat) (tS : List T → T) (df : List T → List T → Option T) (ρ : Env') : Option T := if i1 < ρ.length then (capD ja jl ρ).bind fun cap => (nd i0 ρ).bind fun b => if immE b = true then (df cap [b, tS cap]).bind fun τ => if immE τ = true then gSorted [τ] else none else none else none
theorem slots_imm {B' : Hp} {ρ : Env'} {σ : L2.St} {H : Hp} {ow : List Nat} (r : StR' K B' ow ρ σ H) : ∀ {ja : List Nat} {ts : List T}, (∀ j ∈ ja, j ∉ ow) → ja.mapM (fun j => (nd j ρ).bind fun t => if imm t = true then some t else none) = some ts → ∃ vs : List V, ja.map (slotAt σ) = vs.map some ∧ Reps K H ts vs ∧ immL ts = true
  | [], ts, _, e => by
    cases e
    exact ⟨[], rfl, .nil, by simp [immL]⟩
  | j :: ja, ts, hj, e => by
    rw [List.mapM_cons] at e
    cases e1 : (nd j ρ).bind (fun t => if imm t = true then some t else none) with
    | none => rw [e1] at e; cases e
    | some t =>
      rw [e1] at e
      cases e2 : ja.mapM (fun j => (nd j ρ).bind fun t => if imm t = true then some t else none) with
      | none => rw [e2] at e; cases e
      | some tr =>
        rw [e2] at e
        cases e
        obtain ⟨vs, h1, h2, h3⟩ := slots_imm r (fun i hi => hj i (List.mem_cons_of_mem _ hi)) e2
        cases e3 : nd j ρ with
        | none => rw [e3] at e1; cases e1
        | some t' =>
          rw [e3] at e1
          dsimp only [Option.bind] at e1
          split at e1
          · rename_i c
            cases e1
            obtain ⟨v, e4, r4⟩ := r.val j t (hj j (by simp)) (nd_some e3)
            exact ⟨v :: vs, by rw [List.map_cons, List.map_cons, h1, slotAt_of e4], .cons (r4.same r.sm) h2, by simp [immL, c, h3]⟩
          · cases e1
theorem imm_allI (xs : List Int) : immL (xs.map T.int) = true := by
  induction xs with
  | nil => rfl
  | cons x xs ih => rw [List.map_cons]; unfold immL; rw [ih]; rfl
theorem gSorted_imm {t τ : T} (h : gSorted [t] = some τ) : immE τ = true := by
  unfold gSorted at h
  split at h
  · rename_i l _
    cases e : intsOf l with
    | none => rw [e] at h; cases h
    | some ns => rw [e] at h; cases h; exact imm_allI _
  · rename_i l _
    cases e : keysI l with
    | none => rw [e] at h; cases h
    | some ns =>
      rw [e] at h
      dsimp only [Option.bind] at h
      split at h
      · cases h; exact imm_allI _
      · cases h
  · cases h
/-- the part of H that no one changes -/
def stabP (H : Hp) (a : Addr) : Prop := ∃ o, H a = some o ∧ StO o
open Classical in
noncomputable def stabB (H : Hp) : Hp := fun a => if stabP H a then H a else none
theorem stab_ok {H : Hp} : StB (stabB H) := fun a o e => by
  unfold stabB at e
  split at e
  · rename_i c
    obtain ⟨u, h1, h2⟩ := c
    rw [h1] at e
    cases e
    exact h2
  · cases e
theorem stab_sub {H : Hp} : Same (stabB H) H := fun a o e => by
  unfold stabB at e
  split at e
  · exact e
  · cases e
theorem stab_at {H : Hp} {a : Addr} {o : HO} (e : H a = some o) (s : StO o) : stabB H a = some o := by
  unfold stabB
  rw [if_pos ⟨o, e, s⟩]
  exact e
theorem tupO_kind {x : Option HO} {o : HO} (h : tupO x = some o) : (∃ xs, o = .tup xs) ∨ ∃ ob xs, o = .frz ob (.tup xs) := by
  unfold tupO at h
  split at h
  · cases h; exact .inl ⟨_, rfl⟩
  · cases h; exact .inr ⟨_, _, rfl⟩
  · cases h
theorem okC_of {τ : T} (h : immE τ = true) : okC τ = true := by
  cases τ <;> first | exact h | cases h
theorem svt_tail {G : Unit → Cx} {q name x y0 : Str} {st : Stmt} {c Pt : Addr} {dpos rpos spos cpos p0 p1 px sp : Pos} {fr : List Str} {ja : List Nat} {jl i0 i1 j : Nat} {ow ow' owl : List Nat} {df : List T → List T → Option T}
    (hG : Fm G K mg base P w N sc k) (hN0 : N.Nodup) (hfn : ∀ y, (G ()).fn y = true) (hcode : (G ()).env.code = .ref c) (hqual : (G ()).env.qual ++ name = q) (TB : TabB base mg c Pt)
    (hst : st = .FunctionDef name (defArgs st) (defBody st) [] none [] (defScope st) none name dpos) (hd0 : (defArgs st).defaults = []) (hk0 : (defArgs st).kw_defaults = []) (ha : annTrees (defArgs st) none (G ()).env = [])
    (hnb : ndefB sc (defScope st) fr = true) (hi : N[i1]? = some name) (hx : locB sc name = true) (hv1 : visB sc name = true) (hjs : (ja ++ [jl]).map (fun j => N[j]?) = fr.map some)
    (ho0 : i0 ∈ ow) (hol : jl ∈ ow) (hoa : ∀ j ∈ ja, j ∉ ow) (n0l : i0 ≠ jl) (n01 : i0 ≠ i1) (nl1 : jl ≠ i1) (na1 : ∀ j ∈ ja, j ≠ i1) (hy0 : N[i0]? = some y0) (hv0 : visB sc y0 = true)
    (hcut : ∀ cap, Cl P w K mg base j x (spR K 2 (df cap))) (hjk : j ≤ k) (hg : glB sc x = true) (hms : mg "sorted" = none) (hgs : glB sc "sorted" = true)
    (hdb : (x == ("__debug__" : Str)) = false) (hda : (y0 == ("__debug__" : Str)) = false) (hca : (y0 == ("__classdict__" : Str)) = false) (hdc : (name == ("__debug__" : Str)) = false) (hcc : (name == ("__classdict__" : Str)) = false) :
    SVT K Pt q true ow ow' owl (TSs G [st, .Return (some (.Call (.Name "sorted" sp) [.Call (.Name x px) [.Name y0 p0, .Name name p1] [] cpos] [] spos)) rpos]) (fun ρ => rtD (tailD i0 i1 ja jl (fun cap => cloT K st name q fr cap) df ρ)) := by
  intro B ρ σ H D nB tq hr hp
  dsimp only at hp
  cases ed : tailD i0 i1 ja jl (fun cap => cloT K st name q fr cap) df ρ with
  | none => rw [ed] at hp; exact hp.elim
  | some τf =>
    rw [ed] at hp
    have hp : ∀ v H', Same B H' → TabQ Pt q H' → RtR K B true τf v H' → D.rt v H' := hp
    unfold tailD at ed
    split at ed
    case isFalse => cases ed
    case isTrue hi1 =>
    cases ecap : capD ja jl ρ with
    | none => rw [ecap] at ed; cases ed
    | some cap =>
    rw [ecap, Option.bind_some] at ed
    cases eb : nd i0 ρ with
    | none => rw [eb] at ed; cases ed
    | some b =>
    rw [eb, Option.bind_some] at ed
    split at ed
    case isFalse => cases ed
    case isTrue hib =>
    cases eτ : df cap [b, cloT K st name q fr cap] with
    | none => rw [eτ] at ed; cases ed
    | some τ =>
    rw [eτ, Option.bind_some] at ed
    split at ed
    case isFalse => cases ed
    case isTrue hiτ =>
    -- what is captured
    obtain ⟨ts, l, ets, el, hil, rfl⟩ : ∃ ts l, ja.mapM (fun j => (nd j ρ).bind fun t => if imm t = true then some t else none) = some ts ∧ nd jl ρ = some (.lst l) ∧ immL l = true ∧ cap = ts ++ [.scr l] := by
      unfold capD at ecap
      split at ecap
      · rename_i ts l e1 e2
        split at ecap
        · rename_i h3
          cases ecap
          exact ⟨ts, l, e1, e2, h3, rfl⟩
        · cases ecap
      · cases ecap
    obtain ⟨B', sB, r⟩ := hr
    obtain ⟨vs, hvs, rvs, hits⟩ := slots_imm r hoa ets
    obtain ⟨a0, o0, s0, n0, h0, f0⟩ := r.own i0 _ ho0 (nd_some eb)
    obtain ⟨al, ol, sl, nl, hl, fl⟩ := r.own jl _ hol (nd_some el)
    obtain ⟨ws, rfl, rl⟩ : ∃ ws, ol = .lst ws ∧ Reps K H l ws := by
      rcases fl with ⟨ts', vs', et, eo, rr⟩ | ⟨_, _, et, _⟩
      · cases et; exact ⟨vs', eo, rr.same r.sm⟩
      · cases et
    obtain ⟨cl, hcl⟩ : ∃ cl, cl = cloFrom (G ()).env.cells (defScope st).names [] := ⟨_, rfl⟩
    have hG1 := hG.N (); have hG2 := hG.sc ()
    have hfree : ∀ y ∈ (defScope st).names, y.2 = .free → (G ()).env.scope.names.lookup y.1 = some .cell ∨ (G ()).env.scope.names.lookup y.1 = some .free := by rw [hG2]; exact ndef_free hnb
    have cp : (G ()).Ok → Caps (G ()) cl fr (ja ++ [jl]) := fun ok => by
      rw [hcl]
      exact Caps.made ok hfree (ndef_fr hnb) (by rw [hG1]; exact hjs)
    obtain ⟨f2, fd2, ps2, F2, hm2, hk2, hb2⟩ := (hcut (ts ++ [.scr l])).ex
    have pdef : PS (G ()) st (tNdefM [(Pt, fun _ _ => q)] i1 fun c' => NFd st name q cl c') := by
      have h := ps_ndefM (X := G ()) (T := [(Pt, fun _ _ => q)]) (nm := fun _ _ => q) (c := c) (P := Pt) (name := name) (params := defArgs st) (body := defBody st) (scope := defScope st) (pos := dpos) (i := i1) (by rw [hG.base, hG.mg]; exact TB) hcode (by simp) hqual.symm (fun p hp _ => by simp only [List.mem_singleton] at hp; rw [hp]) hfree hd0 hk0 ha (by rw [hG1]; exact hN0) (by rw [hG1]; exact hi) (by rw [hG2]; exact loc_of hx) (.inl (hfn name))
      rw [← hst, hqual, ← hcl] at h
      exact h
    have pcut : PE (G ()) (.Call (.Name x px) [.Name y0 p0, .Name name p1] [] cpos) (tCutC cl fr (ja ++ [jl]) i0 i1 (spR K 2 (df (ts ++ [.scr l])))) := by
      refine pe_cutC (k := k) (f := f2) (fd := fd2) (ps := ps2) ?_ (hG.room ()) (gl_of hG hg ()) (by rw [hG.mg]; exact hm2) (by rw [hG.K]; exact hk2) (by rw [hG.K]; exact hb2) cp hfn (by rw [hG1]; exact hy0) (by rw [hG2]; exact vis_of hv0) (by rw [hG1]; exact hi) (by rw [hG2]; exact vis_of hv1) hdb hda hca hdc hcc
      rw [hG.P, hG.w, hG.K, hG.mg, hG.base]
      exact F2.mono hjk
    have psort : PE (G ()) (.Call (.Name "sorted" sp) [.Call (.Name x px) [.Name y0 p0, .Name name p1] [] cpos] [] spos) (tCB (CLS G (.builtin "sorted")) (tCons (tCutC cl fr (ja ++ [jl]) i0 i1 (spR K 2 (df (ts ++ [.scr l])))) tNil)) :=
      pe_callB (cr_cls ()) (gl_of hG hgs ()) (by rw [hG.mg]; exact hms) (by decide +kernel) (pa_cons pcut pa_nil) (by decide) (by decide)
    refine ⟨tSeq (tNdefM [(Pt, fun _ _ => q)] i1 fun c' => NFd st name q cl c') (tRet (tLockE (tLockE (tLockE (tCB (CLS G (.builtin "sorted")) (tCons (tCutC cl fr (ja ++ [jl]) i0 i1 (spR K 2 (df (ts ++ [.scr l])))) tNil)))))), fun _ => pss_cons pdef (pss_one (ps_ret (pe_lock (pe_lock (pe_lock psort))))), ?_⟩
    refine ⟨fun p hp' => by simp only [List.mem_singleton] at hp'; rw [hp']; exact tq, fun f c' H1 ext back T1 f0' f1 c1 => ?_⟩
    have c1 : H1 c' = some (CodeO c' q) := c1
    have nf1 : ∀ {b : Addr} {o : HO}, H b = some o → b ≠ f := fun e z => by subst z; rw [f0'] at e; cases e
    have ncode : ∀ {b : Addr} {o : HO}, H1 b = some o → (∀ φ, o ≠ .ext φ) → b ≠ c' := fun {b o} e n z => by
      subst z
      rw [c1] at e
      exact n _ (Option.some.inj e).symm
    have hfc : f ≠ c' := fun z => by
      subst z
      rw [f1] at c1
      exact fnO_code (Option.some.inj c1)
    have hl1 : H1 al = some (.lst ws) := ext al _ hl (fun ps z => nomatch z)
    have haf : al ≠ f := nf1 hl
    have hac : al ≠ c' := ncode hl1 (fun _ z => nomatch z)
    refine ⟨f, FnO f (NFd st name q cl c'), f1, True.intro, fun o1 => ?_⟩
    refine ⟨c', CodeO c' q, (upd_ne (Ne.symm hfc)).trans c1, True.intro, fun o2 => ?_⟩
    refine ⟨al, .lst ws, (upd_ne hac).trans ((upd_ne haf).trans hl1), True.intro, fun o3 => ?_⟩
    obtain ⟨H4, hH4⟩ : ∃ H4, H4 = upd (upd (upd H1 f (.frz o1 (FnO f (NFd st name q cl c')))) c' (.frz o2 (CodeO c' q))) al (.frz o3 (.lst ws)) := ⟨_, rfl⟩
    rw [← hH4]
    have h4al : H4 al = some (.frz o3 (.lst ws)) := by rw [hH4]; exact upd_same
    have h4c : H4 c' = some (.frz o2 (CodeO c' q)) := by rw [hH4, upd_ne (Ne.symm hac)]; exact upd_same
    have h4f : H4 f = some (.frz o1 (FnO f (NFd st name q cl c'))) := by rw [hH4, upd_ne (Ne.symm haf), upd_ne hfc]; exact upd_same
    have h4o : ∀ {b : Addr}, b ≠ al → b ≠ c' → b ≠ f → H4 b = H1 b := fun n1 n2 n3 => by rw [hH4, upd_ne n1, upd_ne n2, upd_ne n3]
    have h14 : ∀ {b : Addr} {o : HO}, H1 b = some o → ∃ u, H4 b = some u := fun {b o} e => by
      by_cases z1 : b = al
      · exact ⟨_, by rw [z1]; exact h4al⟩
      · by_cases z2 : b = c'
        · exact ⟨_, by rw [z2]; exact h4c⟩
        · by_cases z3 : b = f
          · exact ⟨_, by rw [z3]; exact h4f⟩
          · exact ⟨o, by rw [h4o z1 z2 z3]; exact e⟩
    refine ⟨a0, f, by rw [List.getElem?_set_ne (Ne.symm n01)]; exact s0, by rw [List.getElem?_set_self (by rw [r.len]; exact hi1)], fun fz hfz hcn => ?_⟩
    obtain ⟨cs, hcs⟩ : ∃ cs, cs = cellsL cl := ⟨_, rfl⟩
    rw [← hcs] at hcn ⊢
    have n4 : ∀ {b : Addr} {o : HO}, H4 b = some o → b ∉ cs := fun {b o} e z => by rw [hcn b z] at e; cases e
    obtain ⟨H5, hH5⟩ : ∃ H5, H5 = backA cs fz H4 := ⟨_, rfl⟩
    rw [← hH5]
    have h5 : ∀ {b : Addr} {o : HO}, H4 b = some o → H5 b = some o := fun {b o} e => by rw [hH5, back_out (n4 e)]; exact e
    have hcell5 : ∀ {y : Str} {a : Addr}, cl.lookup y = some a → H5 a = fz a := fun {y a} e => by rw [hH5]; exact back_in (by rw [hcs]; exact mem_cellsL.mpr ⟨y, e⟩)
    have tH1 : ∀ {a : Addr} {o : HO}, tupO (H a) = some o → H1 a = some o := fun {a o} e => by
      refine ext a o (tupO_some e) fun ps z => ?_
      rcases tupO_kind e with ⟨_, z2⟩ | ⟨_, _, z2⟩ <;> rw [z2] at z <;> cases z
    have sT5 : Same (addT (fun _ => none) H) H5 := fun a o e => by
      rw [addT_none rfl] at e
      have e1 := tH1 e
      refine h5 ?_
      rw [h4o]
      · exact e1
      · rintro rfl; rw [hl] at e; cases e
      · refine ncode e1 fun φ z => ?_
        rcases tupO_kind e with ⟨_, z2⟩ | ⟨_, _, z2⟩ <;> rw [z2] at z <;> cases z
      · exact nf1 (tupO_some e)
    have im0 : Same (fun _ => none) H := fun _ _ h => nomatch h
    have f5 : FrO K H5 b o0 := (imm_frO im0 hib (f0.same r.sm)).same sT5
    have h1a0 : H1 a0 = some o0 := ext a0 _ h0 (fun ps z => by rcases f0.kind with ⟨_, z2⟩ | ⟨_, z2⟩ <;> rw [z2] at z <;> cases z)
    have h5a0 : H5 a0 = some o0 := by
      refine h5 ?_
      rw [h4o]
      · exact h1a0
      · rintro rfl
        exact n0l (r.inj i0 jl _ _ _ ho0 hol (nd_some eb) (nd_some el) s0 sl)
      · exact ncode h1a0 (fun φ z => by rcases f0.kind with ⟨_, z2⟩ | ⟨_, z2⟩ <;> rw [z2] at z <;> cases z)
      · exact nf1 h0
    have hws : (ja ++ [jl]).map (slotAt (σ.set i1 (some (.ref f)))) = (vs ++ [V.ref al]).map some := by
      have sl1 : ∀ j, j ≠ i1 → slotAt (σ.set i1 (some (.ref f))) j = slotAt σ j := fun j hj => by
        unfold NdefX.slotAt
        rw [List.getElem?_set_ne (Ne.symm hj)]
      rw [List.map_append, List.map_append, ← hvs]
      congr 1
      · exact List.map_congr_left fun j hj => sl1 j (na1 j hj)
      · show [slotAt (σ.set i1 (some (.ref f))) jl] = [some (V.ref al)]
        rw [sl1 jl nl1, slotAt_of sl]
    have sTs : Same (addT (fun _ => none) H) (stabB H5) := fun a o e => by
      have e5 := sT5 a o e
      rw [addT_none rfl] at e
      refine stab_at e5 ?_
      rcases tupO_kind e with ⟨xs, z2⟩ | ⟨ob, xs, z2⟩
      · exact .inl ⟨xs, z2⟩
      · exact .inr (.inl ⟨ob, xs, z2⟩)
    have hclo : CloOk K st name q fr (ts ++ [.scr l]) (stabB H5) f := by
      refine ⟨cl, c', o1, o2, vs ++ [.ref al], stab_at (h5 h4c) (.inr (.inr (.inr ⟨o2, _, rfl⟩))), stab_at (h5 h4f) (.inr (.inr (.inr ⟨o1, _, rfl⟩))), fun y a e => ?_, hfz.inj, fun i y e => ?_, ?_, ?_⟩
      · obtain ⟨o, v, e2⟩ := hfz.all y a e
        exact ⟨o, v, stab_at (by rw [hcell5 e]; exact e2) (.inr (.inr (.inr ⟨o, _, rfl⟩)))⟩
      · obtain ⟨a, ha', hv⟩ := hfz.has i y e
        refine ⟨a, ha', fun v ev => ?_⟩
        obtain ⟨u, o, ru, e2⟩ := hv v (by rw [hws, List.getElem?_map, ev]; rfl)
        exact ⟨u, o, ru, stab_at (by rw [hcell5 ha']; exact e2) (.inr (.inr (.inr ⟨o, _, rfl⟩)))⟩
      · have := hfz.len
        rw [hws, List.length_map] at this
        exact this
      · exact reps_app ((imm_reps im0 _ _ hits rvs).same sTs) (.cons (rep_scr.mpr ⟨al, ws, rfl, .inl (.inr ⟨o3, stab_at (h5 h4al) (.inr (.inr (.inl ⟨o3, _, rfl⟩)))⟩), (imm_reps im0 _ _ hil rl).same sTs⟩) .nil)
    refine ⟨[b, cloT K st name q fr (ts ++ [.scr l])], τ, b, a0, o0, [.ref f], .cons (f5.rep h5a0) (.cons (rep_clo.mpr ⟨stabB H5, stab_ok, stab_sub, f, rfl, hclo⟩) .nil), rfl, eτ, rfl, rfl, h5a0, f5, fun p o H' s5 hp5 ep fp => ?_⟩
    have hc' : ∀ b ∈ cs, ∃ o φ, H' b = some (.frz o (.ext φ)) := fun b hb => by
      rw [hcs] at hb
      obtain ⟨y, hy⟩ := mem_cellsL.mp hb
      obtain ⟨o, v, e2⟩ := hfz.all y b hy
      exact ⟨o, _, s5 _ _ (by rw [hcell5 hy]; exact e2)⟩
    have rep6 : Rep K (wipeA cs H') τ (.ref p) := rep_wipe hc' (okC_of hiτ) (fp.rep ep)
    refine c_sorted hG (wipeA cs H') [τ] [.ref p] τf _ ed (.cons rep6 .nil) fun p' o' H7 s7 np' ep' f7 => ?_
    have t6 : ∀ {b : Addr} {o : HO}, H4 b = some o → wipeA cs H' b = some o := fun {b o} e => by rw [wipA_out (n4 e)]; exact s5 _ _ (h5 e)
    have t7 : ∀ {b : Addr} {o : HO}, H4 b = some o → H7 b = some o := fun e => s7 _ _ (t6 e)
    have new : ∀ {b : Addr} {o : HO}, H4 b = some o → p' ≠ b := fun {b o} e z => by
      subst z
      rw [t6 e] at np'
      cases np'
    obtain ⟨H9, hH9⟩ : ∃ H9, H9 = upd (upd (upd H7 al (.lst ws)) c' (CodeO c' q)) f (FnO f (NFd st name q cl c')) := ⟨_, rfl⟩
    have h9o : ∀ {b : Addr}, b ≠ al → b ≠ c' → b ≠ f → H9 b = H7 b := fun n1 n2 n3 => by rw [hH9, upd_ne n3, upd_ne n2, upd_ne n1]
    refine ⟨t7 h4al, (upd_ne (Ne.symm hac)).trans (t7 h4c), (upd_ne hfc).trans ((upd_ne (Ne.symm haf)).trans (t7 h4f)), ?_⟩
    show D.rt (.ref p') (upd (upd (upd H7 al (.lst ws)) c' (CodeO c' q)) f (FnO f (NFd st name q cl c')))
    rw [← hH9]
    have s19 : Same H1 H9 := fun b o e => by
      by_cases z3 : b = f
      · subst z3
        rw [f1] at e
        cases e
        rw [hH9]; exact upd_same
      · by_cases z2 : b = c'
        · subst z2
          rw [c1] at e
          cases e
          rw [hH9, upd_ne z3]; exact upd_same
        · by_cases z1 : b = al
          · subst z1
            rw [hl1] at e
            cases e
            rw [hH9, upd_ne z3, upd_ne z2]; exact upd_same
          · rw [h9o z1 z2 z3]
            exact t7 (by rw [h4o z1 z2 z3]; exact e)
    have sBH1 : Same B H1 := fun a o e => ext a o (r.sm a o (sB a o e)) fun ps z => nB a ps (by rw [e, z])
    refine hp _ H9 (sBH1.trans s19) ((T1 (Pt, fun _ _ => q) (by simp)).ext s19) ?_
    unfold RtR
    rw [if_pos rfl]
    refine ⟨p', o', rfl, ?_, ?_, ?_⟩
    · cases hb : B p' with
      | none => rfl
      | some u =>
        obtain ⟨u', e4⟩ := h14 (sBH1 _ _ hb)
        exact absurd rfl (new e4)
    · rw [h9o (new h4al) (new h4c) (new h4f)]
      exact ep'
    · refine (imm_frO (B := fun _ => none) (fun _ _ h => nomatch h) (gSorted_imm ed) f7).same fun a o e => ?_
      rw [addT_none rfl] at e
      have e7 := tupO_some e
      rw [h9o]
      · exact e7
      · rintro rfl; rw [t7 h4al] at e; cases e
      · rintro rfl; rw [t7 h4c] at e; cases e
      · rintro rfl; rw [t7 h4f] at e; cases e
end DL
/-! DL33: a def that makes another one, by its promise; its calls. -/
namespace DL
open PySem PySem.Spec PyProof.Rows L2 NdefX LamX
variable {ι : Type} {G : ι → Cx} {K : PySem.W.Frag} {mg : Str → Option Value} {base : Heap} {P : Program} {w : World} {N : List Str} {sc : Scope} {k : Nat}
variable {fr : Bool} {ow ow' owl : List Nat} {pos : Pos} {Pt : Addr} {q : Str}
/-- all but the tables stay -/
def SameN (H H' : Hp) : Prop := ∀ a o, (∀ ps, o ≠ .tbl ps) → H a = some o → H' a = some o
theorem SameN.of {H H' : Hp} (s : Same H H') : SameN H H' := fun a o _ e => s a o e
theorem SameN.trans {H H1 H2 : Hp} (s : SameN H H1) (t : SameN H1 H2) : SameN H H2 := fun a o n e => t a o n (s a o n e)
theorem SameN.grow {H H' : Hp} (s : SameN H H') : Grow K H H' := by
  have rd : ∀ {a : Addr} {u : HO}, (∀ ps, u ≠ .tbl ps) → Rd H a u → Rd H' a u := fun {a u} n q => by
    rcases q with q | ⟨o, q⟩
    · exact .inl (s _ _ n q)
    · exact .inr ⟨o, s _ _ (fun _ z => nomatch z) q⟩
  refine ⟨fun a vs h => ?_, fun a vs h => s _ _ (fun _ z => nomatch z) h, fun a vs h => ?_, fun a kvs h => rd (fun _ z => nomatch z) h, fun a o so h => s _ _ (fun ps z => ?_) h⟩
  · rcases h with h | h
    · exact .inl (rd (fun _ z => nomatch z) h)
    · exact .inr h
  · rcases h with h | h
    · exact .inl (rd (fun _ z => nomatch z) h)
    · exact .inr h
  · subst z
    rcases so with ⟨_, z⟩ | ⟨_, _, z⟩ | ⟨_, _, z⟩ | ⟨_, _, z⟩ <;> cases z
theorem EnvR.sameN {H H' : Hp} {σ : L2.St} {ρ : Env'} (h : EnvR K H σ ρ) (s : SameN H H') : EnvR K H' σ ρ := ⟨h.1, fun i t e => by
  obtain ⟨v, e1, e2⟩ := h.2 i t e
  exact ⟨v, e1, Rep.grow s.grow t v e2⟩⟩
def noTbl (H : Hp) : Hp := fun a => match H a with
  | some (.tbl _) => none
  | o => o
theorem noTbl_some {H : Hp} {a : Addr} {o : HO} (e : H a = some o) (n : ∀ ps, o ≠ .tbl ps) : noTbl H a = some o := by
  unfold noTbl
  rw [e]
  split
  · rename_i ps z
    cases z
    exact absurd rfl (n ps)
  · rfl
theorem noTbl_sub {H : Hp} : Same (noTbl H) H := fun a o e => by
  unfold noTbl at e
  split at e
  · cases e
  · exact e
theorem noTbl_no {H : Hp} {a : Addr} {ps : Array Value} : noTbl H a ≠ some (.tbl ps) := fun e => by
  unfold noTbl at e
  split at e
  · cases e
  · rename_i n
    exact n ps e
/-- the promise: n arguments, worth df; the table may grow -/
def spH (K : PySem.W.Frag) (Pt : Addr) (q : Str) (n : Nat) (df : List T → Option T) : Sp := fun vs H Q _ => ∃ ts τ, TabQ Pt q H ∧ Reps K H ts vs ∧ ts.length = n ∧ df ts = some τ ∧
  ∀ p o H', SameN H H' → TabQ Pt q H' → (∀ u, H p = some u → ∃ ps, u = .tbl ps) → H' p = some o → FrO K H' τ o → Q (.ref p) H'
theorem fn_h {x : Str} {st : Stmt} {f c : Addr} {oc kV doc pm ct : Value} {od an : Option Addr} {osl : Array (Option Value)} {ps : List Str} {d : Env' → Out} {df : List T → Option T}
    (lk : K.lookup f = some ⟨oc, od, .func (PySem.W.fnOf x x (defArgs st) (defBody st) (defScope st) .none kV doc pm an (.ref c) ct), osl⟩) (hcd : PySem.W.codeIn K (.ref c) x = true) (kp : PySem.W.keepIn K (.ref f) = true)
    (S : FnScope N ps (defScope st)) (hm : mg x = some (.ref f)) (hb : Binds K (PySem.W.fnOf x x (defArgs st) (defBody st) (defScope st) .none kV doc pm an (.ref c) ct) ps []) {ow' : List Nat}
    (body : ∀ (G : Unit → Cx), Fb G K mg base P w N (defScope st) k → (∀ y, (G ()).fn y = true) → (G ()).env.code = .ref c → (G ()).env.qual = x ++ ".<locals>." → SVT K Pt q true [] ow' [] (TSs G (defBody st)) d)
    (hd : ∀ ts, ts.length = ps.length → ∀ τ, df ts = some τ → d (rho0 N ts) = .rt τ) : Cl P w K mg base (k + 1) x (spH K Pt q ps.length df) := by
  have hpl : ps.length ≤ N.length := by
    have := congrArg List.length S.pre
    rw [List.length_take] at this
    omega
  refine ⟨f, _, ps, ?_, hm, kp, hb⟩
  refine fn_of lk hcd S (fun vs H Q E h => ?_) (fun A outer s H vs Q E hr h => ?_)
  · obtain ⟨ts, τ, _, r, hl, _⟩ := h
    rw [← r.length]; exact hl
  · obtain ⟨ts, τ, tq, r, hl, e, q⟩ := h
    have e := hd ts hl τ e
    have hF : Fb (fun _ : Unit => (cxOf CX0 P w K mg base N x (defScope st) f (.ref c) A outer s H E).nox) K mg base P w N (defScope st) k :=
      { K := fun _ => rfl, mg := fun _ => rfl, base := fun _ => rfl, P := fun _ => rfl, w := fun _ => rfl, N := fun _ => rfl, sc := fun _ => rfl, calm := fun _ => rfl, room := fun _ => hr,
        po := fun _ => PassesOwn.never, fb := ⟨fun _ _ => .inl rfl⟩ }
    have hbody := body _ hF (fun _ => rfl) rfl rfl (noTbl H) (rho0 N ts) (L2.start N vs) H { nx := fun _ H' => Q .non H', rt := Q, bk := fun _ _ => False, ct := fun _ _ => False } (fun a ps => noTbl_no) tq ⟨H, noTbl_sub, start_str r (by omega)⟩ (by
      rw [e]
      intro v H' s t rr
      unfold RtR at rr
      rw [if_pos rfl] at rr
      obtain ⟨p, o, rfl, np, ep, f⟩ := rr
      refine q p o H' (fun a u n z => s a u (noTbl_some z n)) t (fun u z => ?_) ep f
      refine Classical.byContradiction fun n => ?_
      rw [noTbl_some z fun ps z2 => n ⟨ps, z2⟩] at np
      cases np)
    obtain ⟨t, ht, hq⟩ := hbody
    exact ⟨t, (ht ()).nox, hq⟩
/-! ### expressions -/
def EVT (G : ι → Cx) (K : PySem.W.Frag) (Pt : Addr) (q : Str) (e : Expr) (d : Env' → Option T) : Prop :=
  ∀ ρ σ H τ Q, EnvR K H σ ρ → TabQ Pt q H → d ρ = some τ → (∀ v H', SameN H H' → TabQ Pt q H' → Rep K H' τ v → Q v H') → ES G e σ H Q
def EVTF (G : ι → Cx) (K : PySem.W.Frag) (Pt : Addr) (q : Str) (e : Expr) (d : Env' → Option T) : Prop :=
  ∀ ρ σ H τ Q, EnvR K H σ ρ → TabQ Pt q H → d ρ = some τ → (∀ p o H', SameN H H' → TabQ Pt q H' → (∀ u, H p = some u → ∃ ps, u = .tbl ps) → H' p = some o → FrO K H' τ o → Q (.ref p) H') → ES G e σ H Q
section
variable {a b e : Expr} {es rest : List Expr} {da db de : Env' → Option T}
theorem evt_of (h : EV G K e de) : EVT G K Pt q e de := fun ρ σ H τ Q he tq hd hq => h ρ σ H τ Q he hd fun v H' s r => hq v H' (.of s) (tq.ext s) r
theorem EVTF.evt (h : EVTF G K Pt q e de) : EVT G K Pt q e de := fun ρ σ H τ Q he tq hd hq => h ρ σ H τ Q he tq hd fun p o H' s t _ ep f => hq _ H' s t (f.rep ep)
theorem evtf_call {x : Str} {p : Pos} {da : Env' → Option (List T)} {j n : Nat} {df : List T → Option T} (hG : Fm G K mg base P w N sc k) (c : Cl P w K mg base j x (spH K Pt q n df)) (ha : AV G K (e :: es) da) (hjk : j ≤ k := by decide) (hg : glB sc x = true := by rfl) (hdb : (x == ("__debug__" : Str)) = false := by decide)
    (he : ∀ i, starEach (e :: es) (G i).env = (false, eval e (G i).env) :: starEach es (G i).env := by intro _; rfl) (hpl : ∀ i, (backTo pos (starEach es (G i).env)).any (·.1) = false := by intro _; rfl)
    (hn : (e :: es).length = n := by rfl) : EVTF G K Pt q (.Call (.Name x p) (e :: es) [] pos) (fun ρ => (da ρ).bind df) := by
  intro ρ σ H τ Q hE tq hd hq
  dsimp only at hd
  cases e1 : da ρ with
  | none => rw [e1] at hd; cases hd
  | some ts =>
    rw [e1] at hd
    refine ⟨tCall (spH K Pt q n df) [] E0 (TAs G (e :: es)), fun i => pe_cl hG c i hjk hg hdb (pa_ts i) (he i) (hpl i), ?_⟩
    refine ha.2 ρ σ H ts _ hE e1 fun vs H1 s1 r => ?_
    rw [List.append_nil]
    refine ⟨ts, τ, tq.ext s1, r, (ha.1 ρ ts e1).trans hn, hd, fun p o H' s2 t2 np ep f => ?_⟩
    exact hq p o H' (SameN.trans (.of s1) s2) t2 (fun u z => np u (s1 p u z)) ep f
theorem evt_cmp {op : CmpOp} {g : T → T → Option T} (ho : OpS G K (compareOp op) g) (ha : EVT G K Pt q a da) (hb : EV G K b db)
    (hm : behindInMarks op b = false := by first | exact nomark _ | rfl) : EVT G K Pt q (.Compare a [op] [b] pos) (fun ρ => b2 g (da ρ) (db ρ)) := by
  intro ρ σ H τ Q he tq hd hq
  obtain ⟨x, y, ea, eb, eg⟩ := b2_some hd
  refine ⟨tOp (OPS G (compareOp op)) (ES G a) (ES G b), fun i => pe_cmpR (op_ops i) (pe_ts i) (pe_ts i) hm, ?_⟩
  refine ha ρ σ H x _ he tq ea fun v H1 s1 t1 r1 => hb ρ σ H1 y _ (he.sameN s1) eb fun u H2 s2 r2 => ?_
  exact ho H2 x y v u τ Q eg (r1.same s2) r2 fun z H' s3 r3 => hq z H' (s1.trans (.of (s2.trans s3))) (t1.ext (s2.trans s3)) r3
theorem evt_and (ha : EVT G K Pt q a da) (hb : EV G K (.BoolOp .And (b :: rest) pos) db) : EVT G K Pt q (.BoolOp .And (a :: b :: rest) pos) (fun ρ => andV (da ρ) (db ρ)) := by
  intro ρ σ H c Q he tq hd hq
  refine ⟨_, fun i => pe_and (pe_ts i) (pe_ts i), ?_⟩
  dsimp only at hd
  unfold andV at hd
  split at hd
  · rename_i e
    refine ha ρ σ H _ _ he tq e fun v H1 s1 t1 r => ⟨true, rep_bl.mp r, ?_⟩
    rw [if_pos rfl]
    exact hb ρ σ H1 c Q (he.sameN s1) hd fun v H2 s2 r2 => hq v H2 (s1.trans (.of s2)) (t1.ext s2) r2
  · rename_i e
    cases hd
    refine ha ρ σ H _ _ he tq e fun v H1 s1 t1 r => ⟨false, rep_bl.mp r, ?_⟩
    rw [if_neg Bool.false_ne_true]
    exact hq _ H1 s1 t1 (rep_bl.mpr rfl)
  · cases hd
/-! ### statements -/
theorem StR.growN {B H H' : Hp} {ρ : Env'} {σ : L2.St} (nB : ∀ a ps, B a ≠ some (.tbl ps)) (h : StR K B ow ρ σ H) (s : SameN H H') : StR K B ow ρ σ H' := by
  obtain ⟨B', sB, r⟩ := h
  have g : Grow K B' (noTbl B') := SameN.grow fun a o n e => noTbl_some e n
  refine ⟨noTbl B', fun a o e => noTbl_some (sB a o e) fun ps z => nB a ps (by rw [e, z]), fun a o e => ?_, r.len, fun i t m e => ?_, fun i t m e => ?_, r.inj⟩
  · refine s a o (fun ps z => ?_) (r.sm a o (noTbl_sub a o e))
    subst z
    exact noTbl_no e
  · obtain ⟨v, e1, e2⟩ := r.val i t m e
    exact ⟨v, e1, Rep.grow g t v e2⟩
  · obtain ⟨a, o, e1, e2, e3, f⟩ := r.own i t m e
    refine ⟨a, o, e1, ?_, s a o (fun ps z => ?_) e3, f.grow g⟩
    · unfold noTbl; rw [e2]
    · rcases f.kind with ⟨_, z2⟩ | ⟨_, z2⟩ <;> rw [z2] at z <;> cases z
theorem svt_setO (hG : Fm G K mg base P w N sc k) (hN0 : N.Nodup) (hF : FnB G sc) (i : Nat) (ni : i ∉ ow) {x : Str} {pos' : Pos} (h : EVTF G K Pt q e de) (hN : N[i]? = some x := by rfl) (hv : locB sc x = true := by rfl)
    (hs : ∀ i, swapsWith e (some (.Name x pos')) pos.line (G i).env = pure false := by intro _; rfl) : SVT K Pt q fr ow (i :: ow) owl (TSt G (.Assign [.Name x pos'] e pos)) (fun ρ => ownD i (de ρ) ρ) := by
  intro B ρ σ H D nB tq hr hp
  dsimp only at hp
  unfold ownD at hp
  split at hp
  · rename_i τ e1
    split at hp
    · rename_i c
      refine ⟨_, fun j => ps_set (i := i) (by rw [hG.N j]; exact hN0) (by rw [hG.N j]; exact hN) (by rw [hG.sc j]; exact loc_of hv) (pe_ts j) (hs j) (hF.fn j x), ?_⟩
      refine h ρ σ H τ _ hr.env tq e1 fun p o H' s t np ep f => ?_
      have nown : ∀ (j : Nat) (tj : T) (a : Addr) (ob : HO), H a = some ob → ((∃ xs, ob = .lst xs) ∨ ∃ kvs, ob = .dK kvs) → p ≠ a := fun j tj a ob e2 kd z => by
        subst z
        obtain ⟨ps, z⟩ := np ob e2
        rcases kd with ⟨_, z2⟩ | ⟨_, z2⟩ <;> rw [z2] at z <;> cases z
      obtain ⟨B', sB, r⟩ := hr.growN nB s
      obtain ⟨B0, sB0, r0⟩ := hr
      have nB' : noTbl B0 p = none := by
        cases e2 : B0 p with
        | none => unfold noTbl; rw [e2]
        | some u =>
          obtain ⟨ps, rfl⟩ := np u (r0.sm _ _ e2)
          unfold noTbl; rw [e2]
      have r1 : StR' K (noTbl B0) ow ρ σ H' := by
        have g : Grow K B0 (noTbl B0) := SameN.grow fun a o n e => noTbl_some e n
        refine ⟨fun a o e => ?_, r0.len, fun i t m e => ?_, fun i t m e => ?_, r0.inj⟩
        · refine s a o (fun ps z => ?_) (r0.sm a o (noTbl_sub a o e))
          subst z
          exact noTbl_no e
        · obtain ⟨v, e1, e2⟩ := r0.val i t m e
          exact ⟨v, e1, Rep.grow g t v e2⟩
        · obtain ⟨a, o, e1, e2, e3, f⟩ := r0.own i t m e
          refine ⟨a, o, e1, ?_, s a o (fun ps z => ?_) e3, f.grow g⟩
          · unfold noTbl; rw [e2]
          · rcases f.kind with ⟨_, z2⟩ | ⟨_, z2⟩ <;> rw [z2] at z <;> cases z
      have sB1 : Same B (noTbl B0) := fun a o e => noTbl_some (sB0 a o e) fun ps z => nB a ps (by rw [e, z])
      refine hp _ H' ⟨addT (noTbl B0) H', sB1.trans same_addT, r1.addT.setO ni ?_ ?_ ep (imm_frO r1.sm c f)⟩ t
      · rw [addT_none nB', ep]
        exact f.tupO
      · intro j tj m ej z
        obtain ⟨b, ob, e2, _, e3, f3⟩ := r0.own j tj m ej
        rw [e2] at z
        cases z
        exact nown j tj _ ob e3 f3.kind rfl
    · cases hp
  · cases hp
theorem svt_ret (h : EVT G K Pt q e de) : SVT K Pt q false ow ow' owl (TSt G (.Return (some e) pos)) (fun ρ => rtD (de ρ)) := by
  intro B ρ σ H D nB tq hr hp
  dsimp only at hp
  unfold rtD at hp
  split at hp
  · rename_i τ e1
    refine ⟨_, fun i => ps_ret (pe_ts i), h ρ σ H τ _ hr.env tq e1 fun v H' s t r => hp v H' (fun a o e => ?_) t r⟩
    exact s a o (fun ps z => nB a ps (by rw [e, z])) (hr.sm a o e)
  · cases hp
end
theorem svt_weak {R : TS} {d : Env' → Out} {ow2 : List Nat} (hs : ∀ i ∈ ow2, i ∈ ow') (h : SVT K Pt q fr ow ow' owl R d) : SVT K Pt q fr ow ow2 owl R d := by
  intro B ρ σ H D nB tq hr hp
  refine h B ρ σ H D nB tq hr ?_
  cases e : d ρ with
  | nx ρ' => rw [e] at hp; exact fun σ' H' r t => hp σ' H' (r.drop hs) t
  | bk ρ' => rw [e] at hp; exact hp
  | ct ρ' => rw [e] at hp; exact hp
  | rt τ => rw [e] at hp; exact hp
  | er => rw [e] at hp; exact hp
end DL
set_option maxHeartbeats 2000000
/-! DL34: sorted(set(xs)), xs a list of ints. -/
namespace MM
open PySem PySem.Spec PyProof.Rows L2
section
variable {P : Program} {w : World} {A : Around} {E : Value → Shared → Prop} {s : Shared}
/-- set(xs), by the steps of the library's set of a tuple -/
theorem call_set_lstI {l : Addr} {items : Array Value} (ns : List Int) {Q : Value → Shared → Prop} (hh : A.handled = none) (hl : s.heap.IsList l items) (hit : IntsAre items.toList ns) (hb : ns.length + 1 < scanBound)
    (h : ∀ (h' : Heap) (tk c : Nat), SetR w h' s.heap.objs.size (fun j => decide (j ∈ ns)) c → c ≤ ns.length → (∀ b o, s.heap.get? b = some o → h'.get? b = some o) → Q (.ref s.heap.objs.size) { s with heap := h', toks := tk }) :
    wpAny (model P w) A (call (.type "set") [.ref l]) Q E s := by
  have hisz : items.size = ns.length := by
    have q := IntsAre.length hit
    rw [Array.length_toList] at q
    exact q
  obtain ⟨c, tl, hmro⟩ := F.called_set.mro
  have hmade := F.called_set.made
  have hsub := F.called_set.sub
  refine wpAny_call (codeAny_of_tree ?_)
  show wpAny _ _ (callAny (.type "set") _) _ _ _
  refine wpAny_pure ⟨Code.quiet_builtin _ (by decide +kernel), codeAny_builtin F.entry_type_call ?_⟩
  rw [Around.under_plain (weight_type_call_type "set" [.ref l] []) rfl]
  have h1 := F.called_set.notType
  have h2 := F.called_set.canCreate
  have hct := F.typeCall_set_1 (.ref l)
  repeat (any_goals (first | assumption | wp_step))

  refine codeAny_mono (code_set_led1 (.ref l) (E := E) (Q₁ := fun obj s₁ => obj = .ref s.heap.objs.size ∧ s₁ = { s with heap := s.heap.push { cls := .type "set", dict := none, data := .set #[] 0 (.fresh 0 0 (!w.params.followText "set-order")) } }) ⟨rfl, rfl⟩) fun r s₁ hr => ?_
  cases r with
  | error e => exact hr
  | ok fl =>
    cases fl with
    | ret obj =>
      obtain ⟨rfl, rfl⟩ := hr
      have hS : (s.heap.push { cls := .type "set", dict := none, data := .set #[] 0 (.fresh 0 0 (!w.params.followText "set-order")) }).get? s.heap.objs.size = some { cls := .type "set", dict := none, data := .set #[] 0 (.fresh 0 0 (!w.params.followText "set-order")) } := Heap.get?_push_size _ rfl
      have hT : Shared.TypeIs { s with heap := s.heap.push { cls := .type "set", dict := none, data := .set #[] 0 (.fresh 0 0 (!w.params.followText "set-order")) } } (.ref s.heap.objs.size) "set" := ⟨_, hS, rfl⟩
      have hli := F.called_set.init.lookup
      have hbi := F.called_set.init.bind (.ref s.heap.objs.size)
      repeat (any_goals (first | assumption | wp_step))

      refine codeAny_mono (codeAny_call_builtin (R := wants (fun r s₂ => r = .none ∧ ∃ h' tk c, s₂ = { s with heap := h', toks := tk } ∧ SetR w h' s.heap.objs.size (fun j => decide (j ∈ ns)) c ∧ c ≤ ns.length ∧
          (∀ b o, s.heap.get? b = some o → h'.get? b = some o)) E) F.called_set.init.plain F.entry_set_init (check_set_init_1 hT ?_)) fun r₂ s₂ hr₂ => ?_
      · obtain ⟨ol, hol, hcl, nl, hdl⟩ := hl
        obtain ⟨ocls, odict, odata, oslots⟩ := ol
        simp only at hcl hdl
        subst hcl; subst hdl
        have hol' : (s.heap.push { cls := .type "set", dict := none, data := .set #[] 0 (.fresh 0 0 (!w.params.followText "set-order")) }).get? l = some { cls := .type "list", dict := odict, data := .seq items nl, slots := oslots } := Heap.get?_push_of_some _ hol
        have hsls := F.sub_list_set
        have hslf := F.sub_list_frozenset
        have hne : (Value.type "list" == Value.type "dict") = false := by decide
        have hl1 : (s.heap.push { cls := .type "set", dict := none, data := .set #[] 0 (.fresh 0 0 (!w.params.followText "set-order")) }).IsList l items := ⟨_, hol', rfl, nl, rfl⟩
        unfold Builtin.«set.__init__» noKeywords Builtin.Frozenset.updateFrom
        generalize hPI : pyIter = PI
        wp_walk
        subst hPI

        refine wpAny_pyIter_list hl1 ?_
        refine wpAny_bind (wpAny_runValue ?_)
        have hlS : l < s.heap.objs.size := Heap.lt_size hol
        have hh3 : A.in1.in1.in1.handled = none := by simp [hh]
        have hz1 : (s.heap.push { cls := .type "set", dict := none, data := .set #[] 0 (.fresh 0 0 (!w.params.followText "set-order")) }).objs.size = s.heap.objs.size + 1 := Heap.size_push ..
        have hneI : l ≠ (s.heap.push { cls := .type "set", dict := none, data := .set #[] 0 (.fresh 0 0 (!w.params.followText "set-order")) }).objs.size := by
          rw [Heap.size_push]; exact Nat.ne_of_lt (Nat.lt_succ_of_lt hlS)
        have hSf : s.heap.objs.size ∉ [(s.heap.push { cls := .type "set", dict := none, data := .set #[] 0 (.fresh 0 0 (!w.params.followText "set-order")) }).objs.size, l] := by
          rw [Heap.size_push]; simp only [List.mem_cons, List.mem_singleton, List.not_mem_nil, or_false, not_or]
          exact ⟨Nat.ne_of_lt (Nat.lt_succ_self _), Nat.ne_of_gt hlS⟩
        have hval : ∀ (i : Nat) (v : Value), items[i]? = some v → ∃ k t, ns[i]? = some k ∧ v = .int k t := fun i v hv => by
          have hi : i < ns.length := by rw [← hisz]; exact (Array.getElem?_eq_some_iff.mp hv).1
          obtain ⟨t, e⟩ := PyProof.Rows.IntsAre.int_at hit i v (by rw [Array.getElem?_toList]; exact hv)
          refine ⟨ns[i], t, List.getElem?_eq_getElem hi, ?_⟩
          rw [e, List.getD_eq_getElem?_getD, List.getElem?_eq_getElem hi] <;> rfl
        refine set_update_ints ((Walks.list hh3 _ l hneI items).toS) s.heap.objs.size
          hSf ns hisz hb hval (items.size - 0) 0 _ (by omega) (Nat.zero_le _)
          ⟨⟨_, Heap.get?_push_size _ rfl, rfl, rfl⟩, (hl1.push _)⟩ ?hS0 ?hR
        case hS0 =>
          have hget : ((s.heap.push { cls := .type "set", dict := none, data := .set #[] 0 (.fresh 0 0 (!w.params.followText "set-order")) }).push { cls := .type "list_iterator", data := .fields #[.ref l, .int 0 0] }).get? s.heap.objs.size
              = some { cls := .type "set", dict := none, data := .set #[] 0 (.fresh 0 0 (!w.params.followText "set-order")) } := Heap.get?_push_of_some _ hS
          exact ⟨0, Nat.le_refl 0, setR_new_at hget⟩
        case hR =>
          intro s' c' hm hc' hS'
          obtain ⟨h', g2, d', tk', os'⟩ := s'
          have eg : g2 = s.gens := hm.gens
          have ed : d' = s.drawn := hm.drawn
          have eo : os' = s.os := hm.os
          subst eg; subst ed; subst eo
          show wpAny _ _ _ _ _ _
          refine wpAny_pure ?_
          show wpAny _ _ (ret Value.none) _ _ _
          rw [hisz] at hc'
          refine wpAny_pure ⟨rfl, h', tk', c', rfl, hS', hc', fun b o e => ?_⟩
          have hb0 : b < s.heap.objs.size := Heap.lt_size e
          have hb1 : b ≠ s.heap.objs.size := Nat.ne_of_lt hb0
          have hb2 : b ≠ (s.heap.push { cls := .type "set", dict := none, data := .set #[] 0 (.fresh 0 0 (!w.params.followText "set-order")) }).objs.size := by
            rw [Heap.size_push]; exact Nat.ne_of_lt (Nat.lt_succ_of_lt hb0)
          exact hm.heap b o (by simp only [List.mem_cons, List.mem_singleton, List.not_mem_nil, or_false, not_or]; exact ⟨hb1, hb2⟩) (Heap.get?_push_of_some _ (Heap.get?_push_of_some _ e))

      · cases r₂ with
        | error e => exact hr₂
        | ok fl₂ =>
          cases fl₂ with
          | ret r =>
            obtain ⟨rfl, h', tk, c', rfl, hS', hc', hk'⟩ := hr₂
            repeat (any_goals (first | assumption | wp_step))
            exact h _ _ _ hS' hc' hk'
          | _ => exact hr₂.elim
    | _ => exact hr.elim

end
end MM
/-! DL35: sorted(set(xs)) as an expression. -/
namespace MM
open PySem PySem.Spec PyProof.Rows L2
def tSortSet (K : PySem.W.Frag) (ta : TE) : TE := fun σ H Q => ta σ H fun x H1 => ∃ (l : Addr) (ns : List Int), x = .ref l ∧ SqL K H1 l (ns.map V.int) ∧ ns.length < 60 ∧
  ∀ (ys : List Int) (p : Addr), ys.Pairwise (· < ·) → (∀ k, k ∈ ys ↔ k ∈ ns) → H1 p = none → Q (.ref p) (upd H1 p (.lst (ys.map V.int)))
theorem pe_sortSet {X : Cx} {a : Expr} {ta : TE} {p p2 q pos : Pos} (hg : Gl X "sorted") (hm : X.mg "sorted" = none) (hg2 : Gl X "set") (hm2 : X.mg "set" = none) (ha : PE X a ta) (hc : X.calm = true)
    (na : starEach [a] X.env = (false, eval a X.env) :: starEach [] X.env := by rfl) : PE X (.Call (.Name "sorted" p) [.Call (.Name "set" p2) [a] [] q] [] pos) (tSortSet X.K ta) := by
  refine ⟨fun pins s σ H Q I h => ?_⟩
  refine Call_ (ld_blt I hg hm (show bootBuiltins "sorted" = some (.builtin "sorted") by decide +kernel) ?_)
  refine PyProof.Rows.callWith_builtin1 (PyProof.Rows.args_cons ?_ rfl) rfl rfl
  refine Call_ (ld_blt I hg2 hm2 PyProof.Rows.boot_set ?_)
  refine PyProof.Rows.callWith_type1 (PyProof.Rows.args_cons (thn (ha.run pins s σ H _ I h) fun v s1 ⟨x, H1, I1, r1, q1⟩ => PyProof.Rows.args_nil ?_) na) na rfl
  obtain ⟨l, ns, rfl, hq, hl, q1⟩ := q1
  cases r1
  obtain ⟨its, r, pl, hz⟩ := I1.list hq
  have hi : IntsAre its.toArray.toList ns := ints_of_vals r
  refine call_set_lstI ns (I1.ok.hd hc) pl.isList hi (by unfold scanBound; omega) fun h' tk c R1 hcn k1 => ?_
  refine PyProof.Rows.args_nil ?_
  have I2 : Inv X pins σ H1 { s1 with heap := h', toks := tk } := I1.kept fun b o e => k1 b o e
  generalize hs2 : ({ s1 with heap := h', toks := tk } : Shared) = s2 at I2 ⊢
  have R2 : SetR X.w s2.heap s1.heap.objs.size (fun j => decide (j ∈ ns)) c := by rw [← hs2]; exact R1
  refine sorted_set R2 (I2.ok.hd hc) (by omega) fun s' pp out cc ys k g o hp hg' hi' hs hmem hln => ?_
  have hlen : (ys.map V.int).length ≤ sizeLine := by rw [List.length_map, hln, sizeLine_eq]; omega
  have hn : H1 pp = none := I2.hok.fresh hp
  have J : Inv X pins σ (upd H1 pp (.lst (ys.map V.int))) { s2 with heap := s'.heap, gens := s'.gens, drawn := s'.drawn, toks := s'.toks } :=
    I2.call (ch := []) (Un.laid k hp hn) (I2.hok.laid k hp ⟨hlen, out.toList, cc, vals_of_ints hi', hg'⟩) (by rw [g]; exact I2.bare) (fun _ z => nomatch z)
  have e : s' = { s2 with heap := s'.heap, gens := s'.gens, drawn := s'.drawn, toks := s'.toks } := by
    cases s'
    cases s2
    cases o
    rfl
  rw [e]
  exact ⟨.ref pp, _, J, rfl, q1 ys pp hs (fun j => by rw [hmem j, decide_eq_true_eq]) hn⟩
end MM
namespace DL
open PySem PySem.Spec PyProof.Rows L2
variable {ι : Type} {G : ι → Cx} {K : PySem.W.Frag} {mg : Str → Option Value} {base : Heap} {P : Program} {w : World} {N : List Str} {sc : Scope} {k : Nat}
/-- without those that stand twice -/
def dedI : List Int → List Int
  | [] => []
  | x :: xs => if x ∈ xs then dedI xs else x :: dedI xs
theorem dedI_mem {k : Int} : ∀ {xs : List Int}, k ∈ dedI xs ↔ k ∈ xs
  | [] => Iff.rfl
  | x :: xs => by
    unfold dedI
    have ih := dedI_mem (k := k) (xs := xs)
    split
    · rename_i h
      rw [ih, List.mem_cons]
      constructor
      · exact .inr
      · rintro (rfl | q)
        · exact h
        · exact q
    · rw [List.mem_cons, List.mem_cons, ih]
theorem dedI_nodup : ∀ {xs : List Int}, (dedI xs).Nodup
  | [] => .nil
  | x :: xs => by
    unfold dedI
    split
    · exact dedI_nodup
    · rename_i h
      exact List.nodup_cons.mpr ⟨fun z => h (dedI_mem.mp z), dedI_nodup⟩
/-- sorted(set(xs)) -/
def sortSetD (o : Option T) : Option T := match o with
  | some (.lst l) => (intsOf l).bind fun ns => if ns.length < 60 then some (.lst ((sortI (dedI ns)).map T.int)) else none
  | _ => none
theorem evf_sortSet (hG : Fm G K mg base P w N sc k) {a : Expr} {da : Env' → Option T} {p p2 q pos : Pos} (hm : mg "sorted" = none) (hm2 : mg "set" = none) (h : EV G K a da) (hg : glB sc "sorted" = true := by rfl) (hg2 : glB sc "set" = true := by rfl)
    (na : ∀ i, starEach [a] (G i).env = (false, eval a (G i).env) :: starEach [] (G i).env := by intro _; rfl) : EVF G K (.Call (.Name "sorted" p) [.Call (.Name "set" p2) [a] [] q] [] pos) (fun ρ => sortSetD (da ρ)) := by
  intro ρ σ H τ Q hE hd hq
  dsimp only at hd
  unfold sortSetD at hd
  split at hd
  · rename_i l e1
    cases e2 : intsOf l with
    | none => rw [e2] at hd; cases hd
    | some ns =>
      rw [e2] at hd
      dsimp only [Option.bind] at hd
      split at hd
      · rename_i hl
        cases hd
        refine ⟨MM.tSortSet K (ES G a), fun i => by
          have := MM.pe_sortSet (X := G i) (p := p) (p2 := p2) (q := q) (pos := pos) (gl_of hG hg i) (by rw [hG.mg i]; exact hm) (gl_of hG hg2 i) (by rw [hG.mg i]; exact hm2) (pe_ts (e := a) i) (hG.calm i) (na i)
          rw [hG.K i] at this
          exact this, ?_⟩
        refine h ρ σ H _ _ hE e1 fun v H1 s1 r => ?_
        obtain ⟨a', ys, rfl, qq, rr⟩ := rep_lst.mp r
        have := intsOf_rep e2 rr
        subst this
        refine ⟨a', ns, rfl, .inl (.inl qq), hl, fun ys p' h1 h2 np => ?_⟩
        have hy : ys.Nodup := h1.imp fun hab e => by omega
        have hp : ys = sortI (dedI ns) := sortI_eq ((List.perm_ext_iff_of_nodup hy dedI_nodup).mpr fun k => by rw [h2 k, dedI_mem]) (h1.imp fun hab => by omega)
        rw [hp]
        exact hq p' _ _ (s1.trans (same_upd' np)) (s1.free np) upd_same (.inl ⟨_, _, rfl, rfl, reps_ints _⟩)
      · cases hd
  · cases hd
end DL
/-! DL36: x, y = (1, 2), written constants. -/
namespace DL
open PySem PySem.Spec PyProof.Rows L2
variable {ι : Type} {G : ι → Cx} {K : PySem.W.Frag} {fr : Bool} {ow owl : List Nat} {pos : Pos}
theorem sw_folded {ts vs : List Expr} {k kv p pv} {env : Env} (h : vs.all (foldedForSure 8) = true) : swappedStores [.Tuple ts k p] (.Tuple vs kv pv) env = pure none := by
  unfold swappedStores
  simp only [h, if_true]
  split
  · rfl
  · split
    · rfl
    · split
      · rfl
      · rfl
end DL
/-! DL37: the end of a law whose defs make another one. -/
namespace DL
open PySem PySem.Spec PyProof.Rows L2 NdefX LamX
variable {K : PySem.W.Frag} {mg : Str → Option Value} {base : Heap} {P : Program} {w : World} {N : List Str} {k : Nat} {Pt : Addr} {q : Str}
def spL (K : PySem.W.Frag) (Pt : Addr) (q : Str) (n : Nat) (df : List T → Option T) : Sp := fun vs H Q _ => ∃ ts τ, TabQ Pt q H ∧ Reps K H ts vs ∧ ts.length = n ∧ df ts = some τ ∧ ∀ v H', Rep K H' τ v → Q v H'
theorem fn_okT {x : Str} {st : Stmt} {f : Addr} {fd : FuncData} {ps : List Str} {d : Env' → Out} {df : List T → Option T} (F : Fun K x x st f fd) (S : FnScope N ps (defScope st)) {ow' : List Nat}
    (body : ∀ (G : Unit → Cx), Fb G K mg base P w N (defScope st) k → SVT K Pt q false [] ow' [] (TSs G (defBody st)) d) (hd : ∀ ts, ts.length = ps.length → ∀ τ, df ts = some τ → fnD N false d ts = some τ) :
    FnOk P w K mg base CX0 (k + 1) f fd ps (spL K Pt q ps.length df) := by
  have hpl : ps.length ≤ N.length := by
    have := congrArg List.length S.pre
    rw [List.length_take] at this
    omega
  refine F.ok S (fun vs H Q E h => ?_) (fun cdv A outer s H vs Q E hr h => ?_)
  · obtain ⟨ts, τ, _, r, hl, _⟩ := h
    rw [← r.length]; exact hl
  · obtain ⟨ts, τ, tq, r, hl, e, q⟩ := h
    have e := hd ts hl τ e
    have hF : Fb (fun _ : Unit => (cxOf CX0 P w K mg base N x (defScope st) f cdv A outer s H E).nox) K mg base P w N (defScope st) k :=
      { K := fun _ => rfl, mg := fun _ => rfl, base := fun _ => rfl, P := fun _ => rfl, w := fun _ => rfl, N := fun _ => rfl, sc := fun _ => rfl, calm := fun _ => rfl, room := fun _ => hr,
        po := fun _ => PassesOwn.never, fb := ⟨fun _ _ => .inl rfl⟩ }
    refine ⟨_, pss_ss (G := fun _ : Unit => (cxOf CX0 P w K mg base N x (defScope st) f cdv A outer s H E).nox) (), ?_⟩
    refine body _ hF (noTbl H) (rho0 N ts) (L2.start N vs) H _ (fun a ps => noTbl_no) tq ⟨H, noTbl_sub, start_str r (by omega)⟩ ?_
    unfold fnD at e
    split at e
    · rename_i t eo
      cases e
      rw [eo]
      intro v H' s t rr
      exact q v H' rr
    · rename_i ρ' eo
      rw [eo]
      split at e
      · cases e
      · cases e
        exact fun σ' H' hr' t => q _ H' (rep_non.mpr rfl)
    · cases e
/-- the table of the def nm is empty at the law's start -/
def NamTab (mg : Str → Option Value) (nm : Str) (h : Heap) : Prop := ∃ (f : Addr) (o : Obj) (fd : FuncData) (c Pt : Addr), mg nm = some (.ref f) ∧ h.get? f = some o ∧ o.data = .func fd ∧ fd.code = .ref c ∧ (∃ oc vc, h.get? c = some oc ∧ oc.data = .fields vc ∧ vc[11]? = some (.ref Pt)) ∧ h.get? Pt = some { cls := .none, data := .fields #[] }
theorem walk_ofNam {l : PySem.W.OpenLaw} {n k : Nat} {q : Program} {loose : List Str} {XP : (Str → Option Value) → Heap → Prop} {YP : World → Heap → Prop} {d : DefRec} {K : Params → PySem.W.Frag} {CX : World → CXT} {x nm : Str}
    (hn : l.most = some n) (hn2 : n ≤ sizeLine) (hdf : d.params.defaults = []) (hr : Room k callerA) (hrec : ((recsOf q).any fun e => e.name == nm) = true) (hY : ∀ (w : World) (h : Heap), YP w h → (K w.params).In h)
    (F : ∀ (w : World) (mg : Str → Option Value) (fa : Addr) (h : Heap), YP w h → (K w.params).In h → h.Ns mainGlobals mg → mg d.name = some (.ref fa) → NamTab mg nm h → LawAtS l w (K w.params) (CX w) k n x mg fa h)
    (hCX : ∀ (w : World) (H : Hp) (s : Shared) (e : Value) (s' : Shared), CX w [] H s (fun _ _ _ => False) e s' → False) :
    PySem.W.WalkO q loose XP YP l.row.toRowW d [] (fun f vs => PySem.call f vs) := by
  refine Att.attach_callB hn hdf fun w s₀ s₁ mg mb fa o pm cd doc a vs ns G Y ho hd hcd hmg hobj hints hlen hbits hg => ?_
  have KX := hY w _ Y
  have own : NamTab mg nm s₁.heap := by
    obtain ⟨dL, hm, hn1⟩ := List.any_eq_true.mp hrec
    have hn2 : dL.name = nm := beq_iff_eq.mp hn1
    obtain ⟨a', o', fd', c', P', h1, h2, h3, h4, h5, h6⟩ := G.T.tab dL hm
    rw [hn2] at h1
    obtain ⟨⟨oc, vc, e1, _, e3, e4⟩, hP⟩ := h6
    exact ⟨a', o', fd', c', P', h1, h2, h3, h4, ⟨oc, vc, e1, e3, e4⟩, hP⟩
  obtain ⟨fd, cs, sp, hT, nT, C, hb, hsp, hF⟩ := F w mg fa _ Y KX G.T.g hmg own
  exact law_callTs KX G.T.g G.T.b G.T.builtins G.T.nolimit hg hT nT C G.T.bmain hobj hints (Nat.le_trans hlen hn2) hr hF hb (fun H hH hS => hsp H a ns hlen hbits hH hS) fun H e s' => hCX w H s₁ e s'
theorem namtab_at {nm : Str} {h : Heap} {f c : Addr} {oc : Value} {od : Option Addr} {fd : FuncData} {osl : Array (Option Value)} (NT : NamTab mg nm h) (hm : mg nm = some (.ref f)) (KX : K.In h) (lk : K.lookup f = some ⟨oc, od, .func fd, osl⟩) (hc : fd.code = .ref c) (hd : PySem.W.CodeHd h c Pt) :
    h.get? Pt = some { cls := .none, data := .fields #[] } := by
  obtain ⟨f', o, fd', c', P', h1, h2, h3, h4, ⟨oc', vc, e1, e2, e3⟩, h5⟩ := NT
  rw [hm] at h1
  cases h1
  have g := KX _ _ lk
  rw [g] at h2
  cases h2
  cases h3
  rw [hc] at h4
  cases h4
  obtain ⟨o2, vs, _, _, _, _, _, _, _, f1, _, f3, f4, _⟩ := hd
  rw [e1] at f1
  cases f1
  rw [e2] at f3
  cases f3
  rw [e3] at f4
  cases f4
  exact h5
theorem law_spL {df : List T → Option T} (h : ∀ ns : List Int, ns.length ≤ 63 → df [.scr (ns.map T.int)] = some (.bl true)) (H : Hp) (a : Addr) (ns : List Int) (hl : ns.length ≤ 63) (hT : H Pt = some (.tbl #[])) (hS : SqL K H a (ns.map V.int)) :
    spL K Pt q 1 df [.ref a] H (fun v _ => v = .bl true) fun _ _ _ => False :=
  ⟨[.scr (ns.map T.int)], .bl true, TabN.nil hT, .cons (rep_scr.mpr ⟨a, _, rfl, hS, reps_ints ns⟩) .nil, rfl, h ns hl, fun v H' r => rep_bl.mp r⟩
end DL
/-! DL38: a key that is no int and no text (None, True, (1,)) put into a dict of ints' keys. -/
namespace MM
open PySem PySem.Spec PyProof.Rows L2
section
variable {P : Program} {w : World} {A : Around} {E : Value → Shared → Prop} {s : Shared}
theorem places_nil {es : Array DictEntry} {hk : Int} (hno : ∀ e ∈ es, e.hash ≠ hk) : placesWithHash es.size (fun i => es[i]?.map (·.hash)) hk = [] := by
  unfold placesWithHash
  rw [List.filter_eq_nil_iff]
  intro i hi h
  have hlt : i < es.size := List.mem_range.mp hi
  simp only [Array.getElem?_eq_getElem hlt, Option.map_some] at h
  exact hno es[i] (Array.getElem_mem hlt) (Option.some.inj (eq_of_beq h))
theorem dictFind_none {d : Addr} {o : Obj} {es : Array DictEntry} {ep : Nat} {key : Value} {hk : Int} {Q : Option Nat → Shared → Prop}
    (ho : s.heap.get? d = some o) (hd : o.data = .dict es ep) (hno : ∀ e ∈ es, e.hash ≠ hk) (hkey : ∀ e ∈ es, (e.key == key) = false) (hstr : ∀ x t, key ≠ .str x t) (h : Q none s) :
    wpAny (model P w) A (dictFind d key hk) Q E s := by
  unfold dictFind
  try with_reducible refine wpAny_holding ?_
  refine wpAny_bind (wpAny_dictEntries ho hd ?_)
  rw [places_nil hno]
  cases key with
  | str x t => exact absurd rfl (hstr x t)
  | ref a =>
    have hany : ¬ (es.any fun e => e.key == Value.ref a && e.hash != hk) = true := by
      rw [← Array.any_toList, List.any_eq_true]
      rintro ⟨e, hin, hc⟩
      rw [hkey e (Array.mem_toList_iff.mp hin)] at hc
      simp at hc
    dsimp only [List.filterMap_nil]
    split
    · rename_i hx; simp [carriedByValue] at hx
    · try rw [if_neg hany]
      have e0 : (([] : List Value) == [Value.ref a]) = false := rfl
      simp only [e0, Bool.false_eq_true, if_false]
      refine wpAny_bind ?_
      unfold tableMayTell
      refine wpAny_pure ?_
      simp only [Bool.false_and, Bool.false_eq_true, if_false]
      exact wpAny_pure h
  | _ =>
    show wpAny _ _ (dictWalkPlain d _ hk es []) Q E s
    unfold dictWalkPlain
    refine wpAny_bind ?_
    refine wpAny_pure ?_
    exact wpAny_pure h
theorem dictSet_raw {d : Addr} {o : Obj} {es : Array DictEntry} {ep : Nat} {key v : Value} {hk : Int} {tk : Nat} {Q : Unit → Shared → Prop}
    (ho : s.heap.get? d = some o) (hc : o.ExactDict) (hd : o.data = .dict es ep) (hz : es.size ≤ sizeLine)
    (hh : ∀ Q : Int → Shared → Prop, Q hk { s with toks := tk } → wpAny (model P w) A (pyHash key) Q E s)
    (hno : ∀ e ∈ es, e.hash ≠ hk) (hkey : ∀ e ∈ es, (e.key == key) = false) (hstr : ∀ x t, key ≠ .str x t)
    (hQ : ∀ h' o', h'.get? d = some o' → o'.ExactDict → o'.data = .dict (es.push ⟨hk, key, v⟩) (ep + 1) → Heap.SameBut d s.heap h' → Q () { s with heap := h', toks := tk }) :
    wpAny (model P w) A (dictSet d key v) Q E s := by
  unfold dictSet
  try with_reducible refine wpAny_holding ?_
  refine wpAny_bind (hh _ ?_)
  unfold dictSetHashed
  try with_reducible refine wpAny_holding ?_
  refine wpAny_bind (dictFind_none (s := { s with toks := tk }) ho hd hno hkey hstr ?_)
  exact wpAny_bind (wpAny_rule (wpAny_updateDictKeys (hz := hz) (s := { s with toks := tk }) ho hd (hQ _ _ (Heap.get?_update_self _ ho (Obj.isFreed_of_dict (Obj.data_mapDictKeys hd _)))
      (hc.mapDictKeys _) (Obj.data_mapDictKeys hd _) (Heap.SameBut.update ..))))
theorem setItem_raw {d : Addr} {o : Obj} {es : Array DictEntry} {ep : Nat} {key v : Value} {hk : Int} {tk : Nat} {Q : Unit → Shared → Prop}
    (ho : s.heap.get? d = some o) (hc : o.ExactDict) (hd : o.data = .dict es ep) (hz : es.size ≤ sizeLine)
    (hh : ∀ (E : Value → Shared → Prop) (Q : Int → Shared → Prop), Q hk { s with toks := tk } → wpAny (model P w) A.in1 (pyHash key) Q E s)
    (hno : ∀ e ∈ es, e.hash ≠ hk) (hkey : ∀ e ∈ es, (e.key == key) = false) (hstr : ∀ x t, key ≠ .str x t)
    (hQ : ∀ h' o', h'.get? d = some o' → o'.ExactDict → o'.data = .dict (es.push ⟨hk, key, v⟩) (ep + 1) → Heap.SameBut d s.heap h' → Q () { s with heap := h', toks := tk }) :
    wpAny (model P w) A (setItem (.ref d) key v) Q E s := by
  have hT : s.TypeIs (.ref d) "dict" := ⟨o, ho, hc.1⟩
  unfold setItem
  try with_reducible refine wpAny_holding ?_
  refine wpAny_bind (wpAny_sequenceKey hT (by decide) ?_)
  refine wpAny_bind (wpAny_callSpecial?_slot (name := Str.ofString "__setitem__") hT slot_dict_setitem
    (wpAny_call_entry slot_dict_setitem hT entry_dict_setitem ?_ (args_dict_setitem _ _ _)))
  show wpAny _ _ (Builtin.Dict.notOrdered "__setitem__" ⟨[.ref d, key, v], []⟩ >>= _) _ _ s
  refine wpAny_bind (wpAny_notOrdered_dict hT ?_)
  show wpAny _ _ (dictSet d key v >>= _) _ _ s
  exact wpAny_bind (dictSet_raw ho hc hd hz (fun Q h => hh _ Q h) hno hkey hstr fun h' o' a b c d' => wpAny_pure ⟨.none, rfl, wpAny_pure (hQ h' o' a b c d')⟩)
end
/-! ### the rule -/
theorem hashInt_small {j : Int} (h0 : 0 ≤ j) (h1 : j ≤ 1000) : hashInt j = j := by
  have e : rawHash j = j := by
    unfold rawHash
    have e1 : j.natAbs % (2 ^ 61 - 1) = j.natAbs := Nat.mod_eq_of_lt (by omega)
    have e2 : ((j.natAbs : Nat) : Int) = j := by omega
    have e3 : ((j.natAbs % (2 ^ 61 - 1 : Nat) : Nat) : Int) = j := by rw [e1, e2]
    show (if ((if j < 0 then -((j.natAbs % (2 ^ 61 - 1 : Nat) : Nat) : Int) else ((j.natAbs % (2 ^ 61 - 1 : Nat) : Nat) : Int)) == -1) = true then -2 else (if j < 0 then -((j.natAbs % (2 ^ 61 - 1 : Nat) : Nat) : Int) else ((j.natAbs % (2 ^ 61 - 1 : Nat) : Nat) : Int))) = j
    rw [e3, if_neg (by omega : ¬ j < 0)]
    rw [if_neg (by simp; omega)]
  unfold hashInt
  rw [e, if_neg (by simp; omega)]
def intK (lo : Int) (kvs : List (Key × V)) : Prop := ∀ p ∈ kvs, ∃ j : Int, p.1 = .inl j ∧ lo ≤ j ∧ j ≤ 1000
def OddY (K : PySem.W.Frag) (H : Hp) (y : V) (kvs : List (Key × V)) : Prop := (y = .non ∧ intK 1 kvs) ∨ (y = .bl true ∧ intK 2 kvs) ∨ ∃ b, y = .ref b ∧ SqT K H b [.int 1] ∧ intK 1 kvs
structure OddOb (ps : List (V × V)) (a : Addr) (ob : Obj) : Prop where
  ok : ob.ExactDict
  low : (a == sysModules) = false
  es : ∃ es ep, ob.data = .dict es ep ∧ Paired (fun (e : DictEntry) (p : V × V) => RelV p.1 e.key ∧ RelV p.2 e.val) es.toList ps
theorem pairs_mem {P : Program} {w : World} {es : List DictEntry} {vs : List (Key × Value)} (h : Pairs (mixKind P w) es vs) : ∀ e ∈ es, ∃ kv ∈ vs, keyIs kv.1 e.key = true := by
  induction h with
  | nil => intro e m; cases m
  | @cons e0 kv es kvs h1 h2 t ih =>
    intro e m
    rcases List.mem_cons.mp m with rfl | m
    · exact ⟨kv, List.mem_cons_self, h1⟩
    · obtain ⟨kv', m', q⟩ := ih e m
      exact ⟨kv', List.mem_cons_of_mem _ m', q⟩
theorem kv_mem {kvs : List (Key × V)} {vs : List (Key × Value)} (h : KV kvs vs) : ∀ kv ∈ vs, ∃ p ∈ kvs, p.1 = kv.1 := by
  induction h with
  | nil => intro e m; cases m
  | @cons a b l1 l2 r t ih =>
    intro e m
    rcases List.mem_cons.mp m with rfl | m
    · exact ⟨a, List.mem_cons_self, r.1⟩
    · obtain ⟨p, m', q⟩ := ih e m
      exact ⟨p, List.mem_cons_of_mem _ m', q⟩
theorem pairs_rel {P : Program} {w : World} {es : List DictEntry} {vs : List (Key × Value)} (h : Pairs (mixKind P w) es vs) : ∀ {kvs : List (Key × V)}, KV kvs vs →
    Paired (fun (e : DictEntry) (p : V × V) => RelV p.1 e.key ∧ RelV p.2 e.val) es (kvs.map fun p => (kV p.1, p.2)) := by
  induction h with
  | nil => intro kvs k; cases k; exact .nil
  | @cons e kv es vs h1 h2 t ih =>
    intro kvs k
    cases k with
    | @cons a _ l1 _ r k =>
      refine .cons ⟨?_, ?_⟩ (ih k)
      · show RelV (kV a.1) e.key
        rw [r.1]; exact relV_key h1
      · show RelV a.2 e.val
        rw [h2]; exact r.2
theorem paired_app {α β : Type} {F : α → β → Prop} : ∀ {a1 : List α} {b1 : List β} {a2 : List α} {b2 : List β}, Paired F a1 b1 → Paired F a2 b2 → Paired F (a1 ++ a2) (b1 ++ b2)
  | _, _, _, _, .nil, s => s
  | _, _, _, _, .cons r t, s => .cons r (paired_app t s)
theorem hash_tup {w : World} : ∀ j : Int, 0 ≤ j → j ≤ 1000 → j ≠ reduceHash (Builtin.Tuple.tupleHashOf [hashInt 1]) := by
  intro j h0 h1 e
  have : 1000 < reduceHash (Builtin.Tuple.tupleHashOf [hashInt 1]) ∨ reduceHash (Builtin.Tuple.tupleHashOf [hashInt 1]) < 0 := by decide +kernel
  omega
section
variable {X : Cx} {pins : List (Addr × Obj)} {σ : L2.St} {H : Hp} {s : Shared} {a : Addr} {kvs : List (Key × V)} {A : Around} {E : Value → Shared → Prop} {y v : V} {u r : Value}
theorem o_setItem {Q : Unit → Shared → Prop} (hu : A.units + 1 < cLine) (I : Inv X pins σ H s) (e : H a = some (.dK kvs)) (hl : kvs.length < sizeLine) (oy : OddY X.K H y kvs) (ry : RelV y u) (rv : RelV v r)
    (h : ∀ s' ob, OddOb (kvs.map (fun p => (kV p.1, p.2)) ++ [(y, v)]) a ob → Inv X pins σ (upd H a (.frz ob (.ext fun _ => True))) s' → Q () s') :
    wpAny (model X.prog X.w) A (setItem (.ref a) u r) Q E s := by
  obtain ⟨z, hd, vs, rel, o, es, ep, ho, hx, hdt, hk, hp, hn⟩ := dk_of I.hok e
  have ent : ∀ lo, intK lo kvs → ∀ en ∈ es, ∃ j t, lo ≤ j ∧ j ≤ 1000 ∧ en.key = .int j t ∧ en.hash = hashInt j := by
    intro lo hi en hen
    obtain ⟨k, k1, k2⟩ := hk en hen
    obtain ⟨kv, m, k3⟩ := pairs_mem hp en (Array.mem_toList_iff.mpr hen)
    obtain ⟨p, mp, ep⟩ := kv_mem rel kv m
    obtain ⟨j, ej, j1, j2⟩ := hi p mp
    have ek : k = kv.1 := (mixKind X.prog X.w).inj _ _ _ k1 k3
    rw [← ep, ej] at ek
    subst ek
    rcases keyIs_shape (show keyIs (.inl j) en.key = true from k1) with ⟨i, t, ei, eq⟩ | ⟨x, t, ei, eq⟩
    · cases ei
      exact ⟨j, t, j1, j2, eq, k2⟩
    · cases ei
  have hz : es.size ≤ sizeLine := by
    have l1 := hp.length
    have l2 : kvs.length = vs.length := Paired.length rel
    rw [Array.length_toList] at l1
    omega
  have fin : ∀ (hk' : Int) (tk : Nat) (h' : Heap) (o' : Obj), h'.get? a = some o' → o'.ExactDict → o'.data = .dict (es.push ⟨hk', u, r⟩) (ep + 1) → Heap.SameBut a s.heap h' → Q () { s with heap := h', toks := tk } := by
    intro hk' tk h' o' g1 g2 g3 g4
    refine h _ o' ⟨g2, hd, _, _, g3, ?_⟩ (d_write I (by rw [e]; exact True.intro) g4 ⟨_, g1⟩ ⟨g1, True.intro, ⟨_, g1⟩, fun _ _ _ _ => True.intro⟩)
    rw [Array.toList_push]
    exact paired_app (pairs_rel hp rel) (.cons ⟨ry, rv⟩ .nil)
  rcases oy with ⟨rfl, hi⟩ | ⟨rfl, hi⟩ | ⟨b, rfl, eb, hi⟩
  · obtain rfl : u = Value.none := ry
    refine setItem_raw (hk := reduceHash 0xFCA86420) (tk := s.toks + 1) ho hx hdt hz (fun E Q q => (noneKind X.prog X.w).pyHash (k := none) rfl q) (fun en hen q => ?_) (fun en hen => ?_) (fun _ _ z => nomatch z) (fun h' o' => fin _ _ h' o')
    · obtain ⟨j, t, j1, j2, k1, k2⟩ := ent 1 hi en hen
      rw [k2, hashInt_small (by omega) j2] at q
      have : reduceHash 0xFCA86420 = 4238894112 := by decide +kernel
      omega
    · obtain ⟨j, t, j1, j2, k1, k2⟩ := ent 1 hi en hen
      rw [k1]; rfl
  · obtain rfl : u = Value.bool true := ry
    refine setItem_raw (hk := PpSet.hB true) (tk := s.toks + 1) ho hx hdt hz (fun E Q q => PpSet.pyHash_bool q) (fun en hen q => ?_) (fun en hen => ?_) (fun _ _ z => nomatch z) (fun h' o' => fin _ _ h' o')
    · obtain ⟨j, t, j1, j2, k1, k2⟩ := ent 2 hi en hen
      rw [k2, hashInt_small (by omega) j2] at q
      have : PpSet.hB true = 1 := by decide +kernel
      omega
    · obtain ⟨j, t, j1, j2, k1, k2⟩ := ent 2 hi en hen
      rw [k1]; rfl
  · obtain rfl : u = Value.ref b := ry
    obtain ⟨its, rv1, ⟨ob, i1, i2, n, i3⟩, _⟩ := I.tuple eb
    have ik : IsTupleKey (mixKind X.prog X.w) s.heap [Sum.inl 1] b := ⟨ob, its.toArray, n, i1, i2, i3, by simpa using items_are (ks := [Sum.inl 1]) rv1⟩
    refine setItem_raw (hk := tupleKeyHash (mixKind X.prog X.w) [.inl 1]) (tk := s.toks + 2) ho hx hdt hz (fun E Q q => wpAny_pyHash_tuple (knd := mixKind X.prog X.w) (ks := [Sum.inl 1]) (tupleKind_room_in1 (knd := mixKind X.prog X.w) hu) ik q) (fun en hen q => ?_) (fun en hen => ?_) (fun _ _ z => nomatch z) (fun h' o' => fin _ _ h' o')
    · obtain ⟨j, t, j1, j2, k1, k2⟩ := ent 1 hi en hen
      rw [k2, hashInt_small (by omega) j2] at q
      exact hash_tup (w := X.w) j (by omega) j2 q
    · obtain ⟨j, t, j1, j2, k1, k2⟩ := ent 1 hi en hen
      rw [k1]; rfl
/-- d[y] = v, y an odd key -/
def sOPut (K : PySem.W.Frag) (td ty tv : TE) : TS := fun D σ H => tv σ H fun v H1 => td σ H1 fun x H2 => ty σ H2 fun y H3 => ∃ a kvs, x = .ref a ∧ H3 a = some (.dK kvs) ∧ kvs.length < sizeLine ∧ OddY K H3 y kvs ∧
  ∀ ob, OddOb (kvs.map (fun p => (kV p.1, p.2)) ++ [(y, v)]) a ob → D.nx σ (upd H3 a (.frz ob (.ext fun _ => True)))
theorem ps_oput {X : Cx} {o i value : Expr} {pos pos' : Pos} {td ty tv : TE} (hu : X.A.units + 1 < cLine) (ho : PE X o td) (hi : PE X i ty) (hv : PE X value tv) (hs : swapsWith value (some (.Subscript o i pos')) pos.line X.env = pure false) :
    PS X (.Assign [.Subscript o i pos'] value pos) (sOPut X.K td ty tv) := by
  refine ⟨fun pins s σ H D I h => ?_⟩
  refine wpAny_Assign_Subscript (thn (hv.run pins s σ H _ I h) fun r s1 ⟨v, H1, I1, rv, q1⟩ => thn (ho.run pins s1 σ H1 _ I1 q1) fun u s2 ⟨x, H2, I2, rx, q2⟩ => thn (hi.run pins s2 σ H2 _ I2 q2) fun iv s3 ⟨y, H3, I3, ry, a, kvs, ex, e, hl, oy, q3⟩ => ?_) hs
  subst ex
  obtain rfl : u = Value.ref a := rx
  exact o_setItem hu I3 e hl oy ry rv fun s4 ob od I4 => ⟨σ, _, I4, q3 ob od⟩
end
end MM
/-! DL39: the dict with an odd key: its type, its length, its items. -/
namespace MM
open PySem PySem.Spec PyProof.Rows L2
abbrev OX : HO := .ext fun _ => True
/-- the pairs, each a new tuple -/
def Ito (d : Addr) (o : Obj) (ps : List (V × V)) : It :=
  ⟨fun i H => H d = some (.frz o OX) ∧ i < ps.length, fun i H x H' => ∃ T k v, ps[i]? = some (k, v) ∧ x = .ref T ∧ H T = none ∧ H' = upd H T (.tup [k, v]), fun i H => H d = some (.frz o OX) ∧ ps.length ≤ i⟩
section
variable {P : Program} {w : World} {K : PySem.W.Frag} {d : Addr} {o : Obj} {ps : List (V × V)} {es : Array DictEntry} {ep : Nat}
theorem odd_raw {X : Cx} {pins : List (Addr × Obj)} {σ : L2.St} {H : Hp} {s : Shared} (I : Inv X pins σ H s) (h : H d = some (.frz o OX)) (hx : o.ExactDict) (hod : o.data = .dict es ep) : s.heap.DictRaw d es ep :=
  ⟨o, (I.hok d _ h).1, hx, hod⟩
theorem turn_o {elts : List Expr} {kk : Nat} {tpos : Pos} (it : Addr) (hx : o.ExactDict) (hod : o.data = .dict es ep) (pr : Paired (fun (e : DictEntry) (p : V × V) => RelV p.1 e.key ∧ RelV p.2 e.val) es.toList ps) :
    Turn P w K (.Tuple elts kk tpos) (Ito d o ps) [it] it (fun i h => ∃ ok ov, IsItemIter h it d i es.size ep ok ov) where
  mem := by simp
  obj := fun i h st b hb => by
    have e : b = it := by simpa using hb
    subst e
    obtain ⟨ok, ov, e⟩ := st
    exact ⟨_, e, fun v z => nomatch z⟩
  keep := fun i h h' st k => let ⟨ok, ov, e⟩ := st; ⟨ok, ov, k it (by simp) _ e⟩
  item := by
    intro X hP hw hK hc i pins s σ H E I hf st hg
    subst hP hw hK
    obtain ⟨hd, hi⟩ := hg
    have hm := odd_raw I hd hx hod
    have hl : es.size = ps.length := by have := Paired.length pr; rw [Array.length_toList] at this; exact this
    have hlt0 : i < es.size := by omega
    obtain ⟨⟨k, v⟩, hkv, rk, rv⟩ := paired_get pr (i := i) (a := es[i]) (by rw [Array.getElem?_toList]; exact Array.getElem?_eq_getElem hlt0)
    obtain ⟨ok, ov, he⟩ := st
    have hlt : it < s.heap.objs.size := Heap.lt_size he
    refine wpAny_pyNext_items_item_raw he hm hlt0 fun h' ho hT hz hk => ?_
    refine ⟨_, rfl, wpAny_letOwnedTupleGo_items (s := { s with heap := h' }) ho fun h'' he' sb => ?_⟩
    have hT2 : h''.get? s.heap.objs.size = some { cls := .type "tuple", data := .seq #[es[i].key, es[i].val] } := (sb.2 _ (Nat.ne_of_gt hlt)).trans hT
    have new : ObjOk X.prog X.w (upd H s.heap.objs.size (.tup [k, v])) h'' s.heap.objs.size (.tup [k, v]) :=
      ⟨by show 2 ≤ sizeLine; decide, [es[i].key, es[i].val], .cons rk (.cons rv .nil), ⟨_, hT2, rfl, _, rfl⟩⟩
    have I1 : Inv X pins σ (upd H s.heap.objs.size (.tup [k, v])) { s with heap := h'' } :=
      I.turnedNew (t' := s.toks) (ch := [it]) (fun b ob hb e => (sb.2 b (by simpa using hb)).trans (hk b ob (by simpa using hb) e)) hf (Nat.le_refl _) new
    refine ⟨.ref s.heap.objs.size, _, I1, rfl, ⟨_, k, v, hkv, rfl, I.hok.fresh (Nat.le_refl _), rfl⟩, ⟨es[i].key, es[i].val, he'⟩, fun b hb => ?_⟩
    have e : b = it := by simpa using hb
    rw [e, upd_ne (Nat.ne_of_lt hlt)]
    exact (hf it (by simp)).1
  done := by
    intro X hP hw hK hc i pins s σ H E I hf st hg
    subst hP hw hK
    obtain ⟨hd, hi⟩ := hg
    obtain ⟨f0, f1, f2, f3, f4, f5⟩ := hf it (by simp)
    have hm := odd_raw I hd hx hod
    have hl : es.size = ps.length := by have := Paired.length pr; rw [Array.length_toList] at this; exact this
    obtain ⟨ok, ov, he⟩ := st
    exact wpAny_pyNext_items_end_raw (I.ok.hd hc) he hm (by omega) fun h' eb => ⟨rfl, I.turned (t' := s.toks) (fun b ob hb e => eb b ob hb e) f0 f1 f3 f4 f5⟩
  self := fun A i s Q E st h => let ⟨_, _, e⟩ := st; PySem.W.kcp_self e h
def iItemsO (td : TE) : TI := fun σ H R => td σ H fun x H1 => ∃ d o ps, x = .ref d ∧ H1 d = some (.frz o OX) ∧ OddOb ps d o ∧ R (Ito d o ps) H1
theorem pi_itemsO {X : Cx} {e : Expr} {td : TE} {apos cpos : Pos} {elts : List Expr} {kk : Nat} {tpos : Pos} (he : PE X e td) (hbase : attributeBase e "items" X.env (eval e X.env) = eval e X.env := by rfl) (hline : (apos.endLine == cpos.line) = true := by rfl) :
    PI X (.Tuple elts kk tpos) (.Call (.Attribute e "items" apos) [] [] cpos) (iItemsO td) := by
  refine ⟨fun pins s σ H R I h => ?_⟩
  refine wpAny_Call_method (T := "dict") (id := "dict.items") hbase rfl hline F.plainAttrs_dict F.slot_dict_items F.type_dict_items (thn (he.run pins s σ H _ I h) fun u s1 ⟨x, H1, I1, rx, d, o, ps, ex, hd, od, q⟩ => ?_)
  subst ex
  obtain rfl : u = Value.ref d := rx
  obtain ⟨hx, hs, es, ep, hdt, pr⟩ := od
  have hm := odd_raw I1 hd hx hdt
  refine ⟨hm.typeIs, fun a e => by
    cases e
    obtain ⟨o, ho, hc, _⟩ := hm
    exact ⟨o, ho, hc.2.1⟩, ?_⟩
  have I2 : Inv X pins σ H1 { s1 with heap := s1.heap.push { cls := .type "dict_items", data := .fields #[.ref d] } } := I1.kept (t' := s1.toks) fun b ob q => Heap.get?_push_of_some _ q
  have fin : wpAny (model X.prog X.w) X.A (pyIter (.ref s1.heap.objs.size)) (PIE X pins σ (.Tuple elts kk tpos) R) X.xe { s1 with heap := s1.heap.push { cls := .type "dict_items", data := .fields #[.ref d] } } := by
    refine wpAny_pyIter_items_raw (d := d) ⟨_, Heap.get?_push_size _ rfl, rfl, rfl⟩ (hm.at fun o q => Heap.get?_push_of_some _ q) (pi_one (tk := s1.toks) I2 _ (turn_o _ hx hdt pr) ⟨.none, .none, ?_⟩ q)
    exact Heap.get?_push_size _ rfl
  show wpAny _ _ (callWith cpos (.builtin "dict.items") [.ref d] [] []) _ X.xe s1
  exact method_meetsIn F.slot_dict_items F.entry_dict_items rfl (PySem.evalArgs_none ⟨rfl, hm.typeIs, F.args_dict_items_1 _, _, meets_dict_items_raw d hs, ⟨_, _, hm⟩, fin⟩)
theorem len_body_raw {A : Around} {E : Value → Shared → Prop} {s : Shared} {Q : Value → Shared → Prop} (hd : (d == sysModules) = false) (hm : s.heap.DictRaw d es ep) (hfit : es.size ≤ 1000)
    (h : Q (.int es.size (s.toks + 1)) { s with toks := s.toks + 1 + 1 }) : wpAny (model P w) A (Builtin.«len» ⟨[.ref d], []⟩) (fun fin s' => ∃ r, fin = .done (.ret r) ∧ Q r s') E s := by
  unfold Builtin.«len»
  refine wpAny_bind (m := oneArg "len" _) (wpAny_pure ?_)
  refine wpAny_bind (m := callSpecial? (.ref d) (Str.ofString "__len__")) (wpAny_callSpecial?_slot (name := Str.ofString "__len__") hm.typeIs F.slot_dict_len
    (call_len_raw hd hm ?_))
  show wpAny _ _ _ _ _ { s with toks := s.toks + 1 }
  refine wpAny_bind (wpAny_holding (wpAny_pure ?_))
  refine wpAny_bind (wpAny_letGo ?_)
  show wpAny _ _ (if ((es.size : Nat) : Int) < 0 then _ else _) _ _ _
  rw [if_neg (by omega)]
  show wpAny _ _ (if ((es.size : Nat) : Int) ≥ 2 ^ 63 then _ else _) _ _ _
  rw [if_neg (by omega)]
  exact wpAny_bind (wpAny_mkInt (wpAny_pure ⟨_, rfl, h⟩))
theorem call_lenO {X : Cx} : CallR X (.builtin "len") (fun xs H Q => ∃ a o ps, xs = [V.ref a] ∧ H a = some (.frz o OX) ∧ OddOb ps a o ∧ ps.length ≤ 1000 ∧ Q (.int ps.length) H) := by
  intro pins s σ H xs us Q I r h
  obtain ⟨a, o, ps, rfl, ha, od, hp, q⟩ := h
  obtain ⟨u, rfl, ru⟩ := vals1 r
  cases ru
  obtain ⟨hx, hs, es, ep, hdt, pr⟩ := od
  have hm := odd_raw I ha hx hdt
  have hl : es.size = ps.length := by have := Paired.length pr; rw [Array.length_toList] at this; exact this
  refine Calls.call_function_entry kind_len plain_len entry_len (args_len1 _) (len_body_raw hs hm (by omega) ?_)
  rw [hl]
  exact ⟨.int ps.length, H, I.tok _, ⟨_, rfl⟩, q⟩
end
end MM
/-! DL40: what stands for a dict with an odd key; a def that is told by several denotations. -/
namespace DL
open PySem PySem.Spec PyProof.Rows L2
variable {ι : Type} {G : ι → Cx} {K : PySem.W.Frag} {mg : Str → Option Value} {base : Heap} {P : Program} {w : World} {N : List Str} {sc : Scope} {k : Nat}
variable {fr : Bool} {ow ow' owl : List Nat}
abbrev OddR (K : PySem.W.Frag) (B : Hp) : List (T × T) → List (V × V) → Prop := Paired (fun (kt : T × T) (p : V × V) => Rep K B kt.1 p.1 ∧ Rep K B kt.2 p.2)
def oddS (K : PySem.W.Frag) (kts : List (T × T)) : Hp → V → Prop := fun B v => ∃ a ob ps, v = .ref a ∧ B a = some (.frz ob MM.OX) ∧ MM.OddOb ps a ob ∧ OddR K B kts ps
def oddK (K : PySem.W.Frag) (kts : List (T × T)) : T := .clo (oddS K kts)
/-- some such dict that is ok -/
def oddA (K : PySem.W.Frag) (ok : List (T × T) → Prop) : Hp → V → Prop := fun B v => ∃ kts, ok kts ∧ oddS K kts B v
theorem OddR.same {B H : Hp} {kts : List (T × T)} {ps : List (V × V)} (h : OddR K B kts ps) (s : Same B H) : OddR K H kts ps := MM_mono h s
  where MM_mono : ∀ {kts : List (T × T)} {ps : List (V × V)}, OddR K B kts ps → Same B H → OddR K H kts ps
    | _, _, .nil, _ => .nil
    | _, _, .cons h t, s => .cons ⟨h.1.same s, h.2.same s⟩ (MM_mono t s)
theorem oddS.same {B H : Hp} {kts : List (T × T)} {v : V} (h : oddS K kts B v) (s : Same B H) : oddS K kts H v :=
  let ⟨a, ob, ps, e1, e2, e3, e4⟩ := h
  ⟨a, ob, ps, e1, s _ _ e2, e3, e4.same s⟩
theorem odd_get {H : Hp} {kts : List (T × T)} {v : V} (r : Rep K H (oddK K kts) v) : oddS K kts H v :=
  let ⟨B, _, s, h⟩ := rep_clo.mp r
  h.same s
theorem odd_pick {ok : List (T × T) → Prop} {H : Hp} {v : V} (r : Rep K H (.clo (oddA K ok)) v) : ∃ kts, ok kts ∧ Rep K H (oddK K kts) v :=
  let ⟨B, sb, s, kts, hok, h⟩ := rep_clo.mp r
  ⟨kts, hok, rep_clo.mpr ⟨B, sb, s, h⟩⟩
theorem OddR.length {H : Hp} {kts : List (T × T)} {ps : List (V × V)} (h : OddR K H kts ps) : kts.length = ps.length := Paired.length h
open Classical in
/-- type(..) of it -/
noncomputable def gTypeO (K : PySem.W.Frag) (kts : List (T × T)) (ts : List T) : Option T := if ts = [oddK K kts] then some (.raw (.ty "dict")) else none
open Classical in
noncomputable def gLenO (K : PySem.W.Frag) (kts : List (T × T)) (ts : List T) : Option T := if ts = [oddK K kts] ∧ kts.length ≤ 1000 then some (.int kts.length) else none
theorem c_typeO {kts : List (T × T)} : ClS G K (.type "type") (gTypeO K kts) := by
  intro H ts vs τ Q e r hq
  unfold gTypeO at e
  split at e
  · rename_i e1
    subst e1
    cases e
    obtain ⟨v, rfl, r1⟩ := reps1 r
    obtain ⟨a, ob, ps, rfl, e2, od, _⟩ := odd_get r1
    refine ⟨fun xs H' Q => xs = [.ref a] ∧ H' = H ∧ Q (.ty "dict") H', fun i => ?_, rfl, rfl, hq _ H (Same.refl H) (rep_raw.mpr rfl)⟩
    rintro pins s σ H' xs us Q I rv ⟨rfl, rfl, q⟩
    obtain ⟨u, rfl, rx⟩ := vals1 rv
    cases rx
    obtain ⟨hx, hs, es, ep, hdt, pr⟩ := od
    exact call_type_of (MM.odd_raw I e2 hx hdt).typeIs (by decide +kernel) ⟨.ty "dict", H', I, rfl, q⟩
  · cases e
theorem c_lenO {kts : List (T × T)} : ClS G K (.builtin "len") (gLenO K kts) := by
  intro H ts vs τ Q e r hq
  unfold gLenO at e
  split at e
  · rename_i e1
    obtain ⟨e1, hl⟩ := e1
    subst e1
    cases e
    obtain ⟨v, rfl, r1⟩ := reps1 r
    obtain ⟨a, ob, ps, rfl, e2, od, pr⟩ := odd_get r1
    exact ⟨_, fun i => MM.call_lenO, a, ob, ps, rfl, e2, od, by rw [← pr.length]; exact hl, hq _ H (Same.refl H) (rep_int.mpr (by rw [pr.length]))⟩
  · cases e
theorem walks_odd {B : Hp} {d : Addr} {o : Obj} {ps : List (V × V)} {kts : List (T × T)} (e : B d = some (.frz o MM.OX)) (r : OddR K B kts ps) : Walks K (MM.Ito d o ps) B (kts.map fun p => .tup [p.1, p.2]) := by
  refine ⟨fun i H s hi => ⟨s _ _ e, by rw [← r.length]; simpa using hi⟩, fun i H s hi => ⟨s _ _ e, by rw [← r.length]; simpa using hi⟩, fun i t H x H' s et y => ?_⟩
  obtain ⟨q, kk, v, ev, rfl, nq, rfl⟩ := y
  rw [List.getElem?_map] at et
  cases e2 : kts[i]? with
  | none => rw [e2] at et; cases et
  | some p =>
    rw [e2] at et
    cases et
    obtain ⟨b, hb, rk, rv⟩ := paired_get r e2
    rw [ev] at hb
    cases hb
    exact ⟨same_upd' nq, rep_tup.mpr ⟨q, _, rfl, .inl (.inl (addT_newtup s nq)), .cons (rk.same same_addT) (.cons (rv.same same_addT) .nil)⟩⟩
open Classical in
noncomputable def oD (K : PySem.W.Frag) (kts : List (T × T)) (o : Option T) : Option (List T) := if o = some (oddK K kts) then some (kts.map fun p => .tup [p.1, p.2]) else none
variable {tg : Expr} {x : Str} {pos : Pos}
/-- [.. for .. in d.items() ..] -/
theorem evf_lcO (hG : Fm G K mg base P w N sc k) (hN0 : N.Nodup) {scope : Scope} {elt : Expr} {ifs : List Expr} (own : List (Str × Nat)) {ts : List Nat} {bd : Env' → T → Option Env'} {dc : Env' → Option Bool} {de : Env' → Option T}
    (kts : List (T × T)) (j : Nat) {elts : List Expr} {kk : Nat} {px tpos apos cpos : Pos} (ht : TV (gBlk G scope) K [] (.Tuple elts kk tpos) ts bd) (hc : CV (gBlk G scope) K ifs dc) (he : EV (gBlk G scope) K elt de)
    (hN : N[j]? = some x := by rfl) (hv : visB sc x = true := by rfl) (hd : (x == ("__debug__" : Str)) = false := by decide) (hcd : (x == ("__classdict__" : Str)) = false := by decide)
    (hbase : ∀ i, attributeBase (.Name x px) "items" (G i).env (eval (.Name x px) (G i).env) = eval (.Name x px) (G i).env := by intro _; rfl) (hline : (apos.endLine == cpos.line) = true := by rfl)
    (hok : blkC N sc scope own = true := by decide +kernel) (hts : ∀ i ∈ ts, i ∈ own.map (·.2) := by decide)
    (hs : ∀ i y, foldedSetIterable (.Call (.Attribute (.Name x px) "items" apos) [] [] cpos) (G i).env y = pure y := by intro _ _; rfl) :
    EVF G K (.ListComp elt [⟨.Tuple elts kk tpos, .Call (.Attribute (.Name x px) "items" apos) [] [] cpos, ifs, 0⟩] scope pos) (fun ρ => lcD bd dc de (own.map (·.2)) ρ (oD K kts (nd j ρ))) := by
  intro ρ σ H τ Q hE hd0 hq
  dsimp only at hd0
  unfold oD at hd0
  split at hd0
  · rename_i e1
    unfold lcD at hd0
    dsimp only at hd0
    split at hd0
    · rename_i hl
      split at hd0
      · rename_i res e2
        split at hd0
        · rename_i hm
          cases hd0
          obtain ⟨v, es, rv⟩ := hE.2 j _ (nd_some e1)
          obtain ⟨a, ob, ps, rfl, ea, od, pr⟩ := odd_get rv
          refine ⟨tLc (IT G (.Tuple elts kk tpos) (.Call (.Attribute (.Name x px) "items" apos) [] [] cpos)) (GT (gBlk G scope) (.Tuple elts kk tpos)) (CTs (gBlk G scope) ifs) (ES (gBlk G scope) elt) (own.map (·.2)), fun i => pe_lc (hG.calm i) (by rw [hG.N i]; exact hN0) (pi_it i) (by rw [hG.N i, hG.sc i]; exact blkOk_by hok)
              (fun s H C cl fp => pg_gt (G := gBlk G scope) (i, s, H, C, cl, fp)) (fun s H C cl fp => pts_cts (G := gBlk G scope) (i, s, H, C, cl, fp)) (fun s H C cl fp => pe_ts (G := gBlk G scope) (i, s, H, C, cl, fp)) (hs i), ?_⟩
          refine lc_read ht hts hc he hE (fun R hR => ?_) hl e2 hm hq
          refine ⟨_, fun i => MM.pi_itemsO (pe_nm hG j hN hv hd hcd i) (hbase i) hline, _, es, a, ob, ps, rfl, ea, od, ?_⟩
          exact hR _ H H (Same.refl H) (Same.refl H) hE.str (walks_odd ea pr)
        · cases hd0
      · cases hd0
    · cases hd0
  · cases hd0
/-- THE RULE, with the denotation chosen at each call -/
theorem fn_dlX {x : Str} {st : Stmt} {f : Addr} {fd : FuncData} {ps : List Str} {df : List T → Option T} {Dok : (Env' → Out) → Prop} (F : Fun K x x st f fd) (S : FnScope N ps (defScope st)) (hm : mg x = some (.ref f)) (hb : Binds K fd ps [])
    (body : ∀ (G : Unit → Cx), Fb G K mg base P w N (defScope st) k → ∀ d, Dok d → ∃ ow', SV K fr [] ow' [] (TSs G (defBody st)) d)
    (hd : ∀ ts vs H τ, ts.length = ps.length → Reps K H ts vs → df ts = some τ → ∃ ts' d, ts'.length = ps.length ∧ Reps K H ts' vs ∧ Dok d ∧ fnD N fr d ts' = some τ) :
    Cl P w K mg base (k + 1) x (spD K ps.length fr df) := by
  have hpl : ps.length ≤ N.length := by
    have := congrArg List.length S.pre
    rw [List.length_take] at this
    omega
  refine ⟨f, fd, ps, ?_, hm, F.kp, hb⟩
  refine F.ok S (fun vs H Q E h => ?_) (fun cdv A outer s H vs Q E hr h => ?_)
  · obtain ⟨ts, τ, r, hl, _⟩ := h
    rw [← r.length]; exact hl
  · obtain ⟨ts0, τ, r0, hl0, e0, q⟩ := h
    obtain ⟨ts, d, hl, r, dok, e⟩ := hd ts0 vs H τ hl0 r0 e0
    have hF : Fb (fun _ : Unit => (cxOf CX0 P w K mg base N x (defScope st) f cdv A outer s H E).nox) K mg base P w N (defScope st) k :=
      { K := fun _ => rfl, mg := fun _ => rfl, base := fun _ => rfl, P := fun _ => rfl, w := fun _ => rfl, N := fun _ => rfl, sc := fun _ => rfl, calm := fun _ => rfl, room := fun _ => hr,
        po := fun _ => PassesOwn.never, fb := ⟨fun _ _ => .inl rfl⟩ }
    refine ⟨_, pss_ss (G := fun _ : Unit => (cxOf CX0 P w K mg base N x (defScope st) f cdv A outer s H E).nox) (), ?_⟩
    obtain ⟨ow', sv⟩ := body _ hF d dok
    refine sv H (rho0 N ts) (L2.start N vs) H _ ⟨H, Same.refl H, start_str r (by omega)⟩ ?_
    unfold fnD at e
    split at e
    · rename_i t eo
      cases e
      rw [eo]
      exact fun v H' s r => q v H' s r
    · rename_i ρ' eo
      rw [eo]
      split at e
      · cases e
      · rename_i c
        cases e
        refine fun σ' H' hr' => q _ H' hr'.sm ?_
        unfold RtR
        rw [if_neg c]
        exact rep_non.mpr rfl
    · cases e
/-- one denotation where the other says nothing -/
def altD (d1 d2 : Env' → Out) (ρ : Env') : Out := match d1 ρ with
  | .er => d2 ρ
  | o => o
theorem sv_alt {R : TS} {d1 d2 : Env' → Out} (h1 : SV K fr ow ow' owl R d1) (h2 : SV K fr ow ow' owl R d2) : SV K fr ow ow' owl R (altD d1 d2) := by
  intro B ρ σ H D hr hp
  unfold altD at hp
  split at hp
  · exact h2 B ρ σ H D hr hp
  · exact h1 B ρ σ H D hr hp
theorem sv_er {R : TS} : SV K fr ow ow' owl R (fun _ => .er) := fun B ρ σ H D hr hp => hp.elim
end DL
/-! DL41: a def that is handed a dict of the caller's own; stores that give the dict away; d.pop(k, x). -/
namespace DL
open PySem PySem.Spec PyProof.Rows L2
variable {ι : Type} {G : ι → Cx} {K : PySem.W.Frag} {mg : Str → Option Value} {base : Heap} {P : Program} {w : World} {N : List Str} {sc : Scope} {k : Nat}
variable {fr : Bool} {ow ow' owl : List Nat}
def wo (H : Hp) (p : Addr) : Hp := fun a => if a = p then none else H a
theorem wo_self {H : Hp} {p : Addr} : wo H p p = none := if_pos rfl
theorem wo_ne {H : Hp} {p a : Addr} (h : a ≠ p) : wo H p a = H a := if_neg h
theorem same_wo {H : Hp} {p : Addr} : Same (wo H p) H := fun a o h => by
  by_cases e : a = p
  · subst e; rw [wo_self] at h; cases h
  · rw [wo_ne e] at h; exact h
theorem to_wo {B H : Hp} {p : Addr} (s : Same B H) (n : B p = none) : Same B (wo H p) := fun a o h => by
  rw [wo_ne (ne_of_none h n)]
  exact s a o h
/-- n arguments, worth df; the first is a dict that no one else knows -/
def spM (K : PySem.W.Frag) (n : Nat) (fr : Bool) (df : List T → Option T) : Sp := fun vs H Q _ => ∃ kts ts τ p kvs rest, vs = .ref p :: rest ∧ H p = some (.dK kvs) ∧ RepsK K (wo H p) kts kvs ∧ Reps K (wo H p) ts rest ∧ ts.length + 1 = n ∧
  df (.dic kts :: ts) = some τ ∧ ∀ v H', Same (wo H p) H' → RtR K (wo H p) fr τ v H' → Q v H'
/-- THE RULE -/
theorem fn_m {x : Str} {st : Stmt} {f : Addr} {fd : FuncData} {p1 : Str} {ps : List Str} {d : Env' → Out} {df : List T → Option T} (F : Fun K x x st f fd) (S : FnScope N (p1 :: ps) (defScope st)) (hm : mg x = some (.ref f)) (hb : Binds K fd (p1 :: ps) [])
    (body : ∀ (G : Unit → Cx), Fb G K mg base P w N (defScope st) k → SV K fr [0] ow' [] (TSs G (defBody st)) d) (hd : ∀ ts, ts.length = ps.length + 1 → ∀ τ, df ts = some τ → d (rho0 N ts) = .rt τ) :
    Cl P w K mg base (k + 1) x (spM K (ps.length + 1) fr df) := by
  have hpl : ps.length + 1 ≤ N.length := by
    have := congrArg List.length S.pre
    rw [List.length_take] at this
    simp at this
    omega
  refine ⟨f, fd, p1 :: ps, ?_, hm, F.kp, hb⟩
  refine F.ok S (fun vs H Q E h => ?_) (fun cdv A outer s H vs Q E hr h => ?_)
  · obtain ⟨kts, ts, τ, p, kvs, rest, ev, e0, r0, r, hl, _⟩ := h
    subst ev
    have := r.length
    simp; omega
  · obtain ⟨kts, ts, τ, p, kvs, rest, ev, e0, r0, r, hl, e, q⟩ := h
    subst ev
    have e := hd (.dic kts :: ts) (by simp; omega) τ e
    have hF : Fb (fun _ : Unit => (cxOf CX0 P w K mg base N x (defScope st) f cdv A outer s H E).nox) K mg base P w N (defScope st) k :=
      { K := fun _ => rfl, mg := fun _ => rfl, base := fun _ => rfl, P := fun _ => rfl, w := fun _ => rfl, N := fun _ => rfl, sc := fun _ => rfl, calm := fun _ => rfl, room := fun _ => hr,
        po := fun _ => PassesOwn.never, fb := ⟨fun _ _ => .inl rfl⟩ }
    refine ⟨_, pss_ss (G := fun _ : Unit => (cxOf CX0 P w K mg base N x (defScope st) f cdv A outer s H E).nox) (), ?_⟩
    have rr : Reps K H (.dic kts :: ts) (V.ref p :: rest) := .cons (rep_dic.mpr ⟨p, kvs, rfl, .inl e0, r0.same same_wo⟩) (r.same same_wo)
    have hs := start_str (N := N) rr (by simp; omega)
    have at0 : (rho0 N (.dic kts :: ts))[0]? = some (some (.dic kts)) := by unfold rho0; rfl
    have st0 : (L2.start N (V.ref p :: rest))[0]? = some (some (V.ref p)) := by unfold L2.start; rfl
    have hst : StR' K (wo H p) [0] (rho0 N (.dic kts :: ts)) (L2.start N (V.ref p :: rest)) H := by
      refine ⟨same_wo, hs.len, fun i t m ei => ?_, fun i t m ei => ?_, fun i j a ti tj mi mj _ _ _ _ => ?_⟩
      · -- another argument
        have hi : i ≠ 0 := fun z => m (by simp [z])
        obtain ⟨i, rfl⟩ : ∃ j, i = j + 1 := ⟨i - 1, by omega⟩
        unfold rho0 at ei
        by_cases hlt : i + 1 < (T.dic kts :: ts).length
        · rw [List.getElem?_append_left (by simpa using hlt), List.map_cons, List.getElem?_cons_succ, List.getElem?_map] at ei
          cases q2 : ts[i]? with
          | none => rw [q2] at ei; cases ei
          | some t' =>
            rw [q2] at ei
            cases ei
            obtain ⟨v, ev, rv⟩ := r.get q2
            refine ⟨v, ?_, rv⟩
            unfold L2.start
            have l1 := r.length
            have l2 : i < ts.length := by simpa using hlt
            rw [List.getElem?_append_left (by simp; omega), List.map_cons, List.getElem?_cons_succ, List.getElem?_map, ev]
            rfl
        · rw [List.getElem?_append_right (by simpa using hlt), List.getElem?_replicate] at ei
          split at ei <;> cases ei
      · have : i = 0 := by simpa using m
        subst this
        rw [at0] at ei
        cases ei
        exact ⟨p, _, st0, wo_self, e0, .inr ⟨_, _, rfl, rfl, r0⟩⟩
      · have h1 : i = 0 := by simpa using mi
        have h2 : j = 0 := by simpa using mj
        rw [h1, h2]
    refine body _ hF (wo H p) (rho0 N (.dic kts :: ts)) (L2.start N (V.ref p :: rest)) H _ ⟨wo H p, Same.refl _, hst⟩ ?_
    rw [e]
    exact fun v H' s r => q v H' s r
variable {x fn : Str} {p px pos pos' pos2 : Pos} {es : List Expr} {da : Env' → Option (List T)} {j n : Nat} {df : List T → Option T}
/-- what the call leaves -/
def setMD (fr : Bool) (i : Nat) (df : List T → Option T) (o : Option (List T)) (ρ : Env') : Out := match nd i ρ, o with
  | some (.dic kts), some ts => if immL ts = true then (match df (.dic kts :: ts) with
    | some τ => if (!fr || immE τ) = true then .nx (ρ.set i (some τ)) else .er
    | none => .er) else .er
  | _, _ => .er
theorem imm_wo {B H : Hp} {a : Addr} {kvs : List (Key × V)} (s : Same B H) (n : B a = none) (e : H a = some (.dK kvs)) : Same (addT B H) (wo H a) :=
  to_wo (addT_same s) (by rw [addT_none n, e]; rfl)
/-- x = f(x, ..), x's dict handed over -/
theorem setM_core (hG : Fm G K mg base P w N sc k) (hN0 : N.Nodup) (hF : FnB G sc) (c : Cl P w K mg base j fn (spM K n fr df)) (i : Nat) (ha : AV G K es da) {B : Hp} {ρ : Env'} {σ : St} {H : Hp} {D : Ends} {B' : Hp} {ρ' : Env'} (q : StR' K B' [i] ρ σ H)
    (hp : setMD fr i df (da ρ) ρ = .nx ρ')
    (hD : ∀ H1 a τ v H', ρ' = ρ.set i (some τ) → (fr = true → immE τ = true) → Same H H1 → B' a = none → Same B' H1 → (∃ kvs, H1 a = some (.dK kvs)) → Same (wo H1 a) H' → RtR K (wo H1 a) fr τ v H' → D.nx (σ.set i (some v)) H')
    (hjk : j ≤ k) (hN : N[i]? = some x) (hv : locB sc x = true) (hvv : visB sc x = true)
    (hg : glB sc fn = true) (hdb : (fn == ("__debug__" : Str)) = false) (hd0 : (x == ("__debug__" : Str)) = false) (hcd : (x == ("__classdict__" : Str)) = false)
    (he : ∀ i, starEach (.Name x px :: es) (G i).env = (false, eval (.Name x px) (G i).env) :: starEach es (G i).env) (hpl : ∀ i, (backTo pos (starEach es (G i).env)).any (·.1) = false)
    (hn : (Expr.Name x px :: es).length = n)
    (hs : ∀ i, swapsWith (.Call (.Name fn p) (.Name x px :: es) [] pos) (some (.Name x pos')) pos2.line (G i).env = pure false) :
    TSt G (.Assign [.Name x pos'] (.Call (.Name fn p) (.Name x px :: es) [] pos) pos2) D σ H := by
  unfold setMD at hp
  split at hp
  · rename_i kts ts e1 e2
    split at hp
    · rename_i im
      split at hp
      · rename_i τ e3
        split at hp
        · rename_i cc
          cases hp
          obtain ⟨a, o, s1, s2, s3, f⟩ := q.own i _ (by simp) (nd_some e1)
          rcases id f with ⟨_, _, et, _⟩ | ⟨ts', vs, et, eo, r⟩
          · cases et
          cases et
          subst eo
          have pe : ∀ i', PE (G i') (.Call (.Name fn p) (.Name x px :: es) [] pos) (tCall (spM K n fr df) [] E0 (tCons (tVar i) (TAs G es))) := fun i' =>
            pe_cl hG c i' hjk hg hdb (pa_cons (pe_var (by rw [hG.N i']; exact hN) (by rw [hG.sc i']; exact vis_of hvv) hd0 hcd) (pa_ts i') (he i')) (he i') (hpl i')
          refine ⟨_, fun i' => ps_set (i := i) (by rw [hG.N i']; exact hN0) (by rw [hG.N i']; exact hN) (by rw [hG.sc i']; exact loc_of hv) (pe i') (hs i') (hF.fn i' x), ?_⟩
          refine ⟨_, s1, ?_⟩
          refine ha.2 ρ σ H ts _ q.env e2 fun us H1 z1 r1 => ?_
          show spM K n fr df ((V.ref a :: us) ++ []) H1 _ E0
          rw [List.append_nil]
          have sB : Same B' H1 := q.sm.trans z1
          have ea : H1 a = some (.dK vs) := z1 _ _ s3
          refine ⟨kts, ts, τ, a, vs, us, rfl, ea, r.same (to_wo sB s2), (imm_reps sB ts us im r1).same (imm_wo sB s2 ea), by have := ha.1 ρ ts e2; rw [← hn]; simp [this], e3, fun v H' s2' r2 => ?_⟩
          exact hD H1 a τ v H' rfl (fun z => by rw [z] at cc; simpa using cc) z1 s2 sB ⟨_, ea⟩ s2' r2
        · cases hp
      · cases hp
    · cases hp
  · cases hp
theorem setMD_nx {i : Nat} {o : Option (List T)} {ρ : Env'} : (∃ ρ', setMD fr i df o ρ = .nx ρ') ∨ setMD fr i df o ρ = .er := by
  unfold setMD
  split
  · split
    · split
      · split
        · exact .inl ⟨_, rfl⟩
        · exact .inr rfl
      · exact .inr rfl
    · exact .inr rfl
  · exact .inr rfl
/-- what comes back is anything -/
theorem sv_setM (hG : Fm G K mg base P w N sc k) (hN0 : N.Nodup) (hF : FnB G sc) (c : Cl P w K mg base j fn (spM K n false df)) (i : Nat) (ha : AV G K es da) (hjk : j ≤ k := by decide) (hN : N[i]? = some x := by rfl) (hv : locB sc x = true := by rfl) (hvv : visB sc x = true := by rfl)
    (hg : glB sc fn = true := by rfl) (hdb : (fn == ("__debug__" : Str)) = false := by decide) (hd0 : (x == ("__debug__" : Str)) = false := by decide) (hcd : (x == ("__classdict__" : Str)) = false := by decide)
    (he : ∀ i, starEach (.Name x px :: es) (G i).env = (false, eval (.Name x px) (G i).env) :: starEach es (G i).env := by intro _; rfl) (hpl : ∀ i, (backTo pos (starEach es (G i).env)).any (·.1) = false := by intro _; rfl)
    (hn : (Expr.Name x px :: es).length = n := by rfl)
    (hs : ∀ i, swapsWith (.Call (.Name fn p) (.Name x px :: es) [] pos) (some (.Name x pos')) pos2.line (G i).env = pure false := by intro _; rfl) :
    SV K fr [i] [] owl (TSt G (.Assign [.Name x pos'] (.Call (.Name fn p) (.Name x px :: es) [] pos) pos2)) (fun ρ => setMD false i df (da ρ) ρ) := by
  intro B ρ σ H D hr hp
  obtain ⟨B', sB, q⟩ := hr
  rcases setMD_nx (fr := false) (i := i) (df := df) (o := da ρ) (ρ := ρ) with ⟨ρ', e⟩ | e
  · dsimp only at hp
    rw [e] at hp
    refine setM_core (B := B) (D := D) hG hN0 hF c i ha q e (fun H1 a τ v H' eρ _ z1 na s1 _ s2 r2 => ?_) hjk hN hv hvv hg hdb hd0 hcd he hpl hn hs
    subst eρ
    have sH : Same B' H' := (to_wo s1 na).trans s2
    refine hp _ H' ⟨H', sB.trans sH, ⟨Same.refl _, by simpa using q.len, fun l t _ el => ?_, fun l t m => absurd m (by simp), fun l l2 a ti tj m => absurd m (by simp)⟩⟩
    rcases set_get el with ⟨rfl, e'⟩ | ⟨nl, e'⟩
    · cases e'
      have hl : l < σ.length := by
        rw [q.len]
        have := (List.getElem?_eq_some_iff.mp el).1
        simpa using this
      exact ⟨v, List.getElem?_set_self hl, r2⟩
    · obtain ⟨u, e1, r⟩ := q.val l t (by simpa using nl) e'
      exact ⟨u, by rw [List.getElem?_set_ne (Ne.symm nl)]; exact e1, r.same sH⟩
  · dsimp only at hp
    rw [e] at hp
    exact hp.elim
/-- what comes back is new or x's own dict -/
theorem sv_setMO (hG : Fm G K mg base P w N sc k) (hN0 : N.Nodup) (hF : FnB G sc) (c : Cl P w K mg base j fn (spM K n true df)) (i : Nat) (ha : AV G K es da) (hjk : j ≤ k := by decide) (hN : N[i]? = some x := by rfl) (hv : locB sc x = true := by rfl) (hvv : visB sc x = true := by rfl)
    (hg : glB sc fn = true := by rfl) (hdb : (fn == ("__debug__" : Str)) = false := by decide) (hd0 : (x == ("__debug__" : Str)) = false := by decide) (hcd : (x == ("__classdict__" : Str)) = false := by decide)
    (he : ∀ i, starEach (.Name x px :: es) (G i).env = (false, eval (.Name x px) (G i).env) :: starEach es (G i).env := by intro _; rfl) (hpl : ∀ i, (backTo pos (starEach es (G i).env)).any (·.1) = false := by intro _; rfl)
    (hn : (Expr.Name x px :: es).length = n := by rfl)
    (hs : ∀ i, swapsWith (.Call (.Name fn p) (.Name x px :: es) [] pos) (some (.Name x pos')) pos2.line (G i).env = pure false := by intro _; rfl) :
    SV K fr [i] [i] owl (TSt G (.Assign [.Name x pos'] (.Call (.Name fn p) (.Name x px :: es) [] pos) pos2)) (fun ρ => setMD true i df (da ρ) ρ) := by
  intro B ρ σ H D hr hp
  obtain ⟨B', sB, q⟩ := hr
  rcases setMD_nx (fr := true) (i := i) (df := df) (o := da ρ) (ρ := ρ) with ⟨ρ', e⟩ | e
  · dsimp only at hp
    rw [e] at hp
    refine setM_core (B := B) (D := D) hG hN0 hF c i ha q e (fun H1 a τ v H' eρ im z1 na s1 _ s2 r2 => ?_) hjk hN hv hvv hg hdb hd0 hcd he hpl hn hs
    subst eρ
    have sH : Same B' H' := (to_wo s1 na).trans s2
    obtain ⟨p', o', rfl, np, ep, f⟩ := r2
    have nB : B' p' = none := (to_wo s1 na).free np
    have n2 : addT B' H' p' = none := by rw [addT_none nB, ep]; exact f.tupO
    refine hp _ H' ⟨addT B' H', sB.trans same_addT, ⟨addT_same sH, by simpa using q.len, fun l t m el => ?_, fun l t m el => ?_, fun l l2 a ti tj m m2 _ _ _ _ => ?_⟩⟩
    · have nl : l ≠ i := by simpa using m
      rw [List.getElem?_set_ne (Ne.symm nl)] at el
      obtain ⟨u, e1, r⟩ := q.val l t m el
      exact ⟨u, by rw [List.getElem?_set_ne (Ne.symm nl)]; exact e1, r.same same_addT⟩
    · have : l = i := by simpa using m
      subst this
      have hl : l < σ.length := by
        rw [q.len]
        have := (List.getElem?_eq_some_iff.mp el).1
        simpa using this
      rcases set_get el with ⟨_, e'⟩ | ⟨nl, _⟩
      · cases e'
        exact ⟨p', o', List.getElem?_set_self hl, n2, ep, imm_frO sH (im rfl) f⟩
      · exact absurd rfl nl
    · have h1 : l = i := by simpa using m
      have h2 : l2 = i := by simpa using m2
      rw [h1, h2]
  · dsimp only at hp
    rw [e] at hp
    exact hp.elim
end DL
/-! DL42: stores after which the dict is no one's own; d.pop(k, x). -/
namespace DL
open PySem PySem.Spec PyProof.Rows L2
variable {ι : Type} {G : ι → Cx} {K : PySem.W.Frag} {mg : Str → Option Value} {base : Heap} {P : Program} {w : World} {N : List Str} {sc : Scope} {k : Nat}
variable {fr : Bool} {ow ow' owl : List Nat} {x : Str} {pos : Pos} {e a : Expr} {de da : Env' → Option T}
/-- a value that may be stored: what can't be changed, or a list of such things -/
def lstI : T → Bool
  | .lst ts => immL ts
  | t => imm t
def stGD (i : Nat) (o ky : Option T) (ρ : Env') : Out := match nd i ρ, o, ky with
  | some (.dic kts), some τ, some y => (match keyOf y with
    | some ky => if lstI τ = true ∧ (kts.map (·.1)).Nodup ∧ kts.length < sizeLine then .nx (ρ.set i (some (.dic (putT kts ky τ)))) else .er
    | none => .er)
  | _, _, _ => .er
theorem lstI_rep {B H : Hp} {a : Addr} {kvs : List (Key × V)} {u : HO} (s : Same B H) (n : B a = none) (ea : H a = some (.dK kvs)) {τ : T} {v : V} (c : lstI τ = true) (r : Rep K H τ v) : Rep K (upd H a u) τ v := by
  have s1 : Same (addT B H) (upd H a u) := fun b o h => by
    have hb : b ≠ a := by
      rintro rfl
      rw [addT_none n, ea] at h
      cases h
    rw [upd_ne hb]
    exact addT_same s b o h
  have im : ∀ {τ : T}, imm τ = true → Rep K H τ v → Rep K (upd H a u) τ v := fun c r => (imm_rep s _ v c r).same s1
  cases τ with
  | lst ts =>
    obtain ⟨p, vs, rfl, ep, rr⟩ := rep_lst.mp r
    have hp : p ≠ a := by
      rintro rfl
      rw [ea] at ep
      cases ep
    exact rep_lst.mpr ⟨p, vs, rfl, by rw [upd_ne hp]; exact ep, (imm_reps s ts vs c rr).same s1⟩
  | _ => exact im c r
/-- the frame once the dict at a is no one's own -/
theorem StR'.give {B B' : Hp} {ρ : Env'} {σ : St} {H H' : Hp} {i : Nat} {t : T} {ad : Addr} (sB : Same B B') (q : StR' K B' [i] ρ σ H) (es : σ[i]? = some (some (V.ref ad))) (s : Same B' H') (r : Rep K H' t (.ref ad)) : StR K B [] (ρ.set i (some t)) σ H' := by
  refine ⟨H', sB.trans s, ⟨Same.refl _, by simpa using q.len, fun l t' _ el => ?_, fun l t' m => absurd m (by simp), fun l l2 a ti tj m => absurd m (by simp)⟩⟩
  rcases set_get el with ⟨rfl, e'⟩ | ⟨nl, e'⟩
  · cases e'
    exact ⟨_, es, r⟩
  · obtain ⟨u, e1, r⟩ := q.val l t' (by simpa using nl) e'
    exact ⟨u, e1, r.same s⟩
theorem same_updn {B H : Hp} {a : Addr} {u : HO} (s : Same B H) (n : B a = none) : Same B (upd H a u) := fun b o h => by
  rw [upd_ne (ne_of_none h n)]
  exact s b o h
/-- x[k] = e, x given away -/
theorem sv_storeG (hG : Fm G K mg base P w N sc k) (i : Nat) {px tp : Pos} (h : EV G K e de) (hk : EV G K a da) (hN : N[i]? = some x := by rfl) (hv : visB sc x = true := by rfl)
    (hd0 : (x == ("__debug__" : Str)) = false := by decide) (hcd : (x == ("__classdict__" : Str)) = false := by decide)
    (hs : ∀ i, swapsWith e (some (.Subscript (.Name x px) a tp)) pos.line (G i).env = pure false := by intro _; rfl) :
    SV K fr [i] [] owl (TSt G (.Assign [.Subscript (.Name x px) a tp] e pos)) (fun ρ => stGD i (de ρ) (da ρ) ρ) := by
  intro B ρ σ H D hr hp
  dsimp only at hp
  unfold stGD at hp
  obtain ⟨B', sB, q⟩ := id hr
  have pvar : ∀ j, PE (G j) (.Name x px) (tVar i) := fun j => pe_var (by rw [hG.N j]; exact hN) (by rw [hG.sc j]; exact vis_of hv) hd0 hcd
  split at hp
  · rename_i kts τ y e1 e2 e3
    split at hp
    · rename_i ky ek
      split at hp
      · rename_i cc
        obtain ⟨ad, o, s1, s2, s3, f⟩ := q.own i _ (by simp) (nd_some e1)
        refine ⟨sDPut (tVar i) (ES G a) (ES G e), fun j => ps_dput (hG.hu j) (pvar j) (pe_ts j) (pe_ts j) (hs j), ?_⟩
        rcases id f with ⟨_, _, et, _⟩ | ⟨ts', vs, et, eo, r⟩
        · cases et
        · cases et
          subst eo
          refine h ρ σ H τ _ hr.env e2 fun v H1 z1 r1 => ⟨_, s1, hk ρ σ H1 _ _ (hr.env.same z1) e3 fun u H2 z2 r2 => ?_⟩
          have ea : H2 ad = some (.dK vs) := z2 _ _ (z1 _ _ s3)
          have sB2 : Same B' H2 := q.sm.trans (z1.trans z2)
          refine ⟨ad, _, rfl, .inl ⟨vs, ky, ea, keyOf_rep ek r2, by rw [← r.length]; exact cc.2.2, rfl⟩, ?_⟩
          have sH := same_updn (u := .dK (putK vs ky v)) sB2 s2
          refine hp σ _ (StR'.give sB q s1 sH ?_)
          exact rep_dic.mpr ⟨ad, _, rfl, .inl upd_same, putT_rep (lstI_rep sB2 s2 ea cc.1 (r1.same z2)) (r.same sH) cc.2.1⟩
      · cases hp
    · cases hp
  · cases hp
def keysIn (lo : Int) (kts : List (Key × T)) : Bool := kts.all fun p => match p.1 with
  | .inl j => decide (lo ≤ j) && decide (j ≤ 1000)
  | .inr _ => false
def oddC (y : T) (kts : List (Key × T)) : Bool := match y with
  | .non => keysIn 1 kts
  | .bl true => keysIn 2 kts
  | .tup [.int 1] => keysIn 1 kts
  | _ => false
theorem keysIn_intK {H : Hp} {lo : Int} : ∀ {kts : List (Key × T)} {vs : List (Key × V)}, RepsK K H kts vs → keysIn lo kts = true → MM.intK lo vs
  | [], vs, r, _ => by
    unfold RepsK at r
    subst r
    exact fun p m => by cases m
  | (ky, t) :: kts, vs, r, h => by
    unfold RepsK at r
    obtain ⟨v, r', rfl, _, h2⟩ := r
    unfold keysIn at h
    rw [List.all_cons, Bool.and_eq_true] at h
    have ih := keysIn_intK (lo := lo) h2 (by unfold keysIn; exact h.2)
    intro p m
    rcases List.mem_cons.mp m with rfl | m
    · have h1 := h.1
      cases ky with
      | inl j =>
        simp at h1
        exact ⟨j, rfl, h1.1, h1.2⟩
      | inr _ => cases h1
    · exact ih p m
theorem oddC_rep {H : Hp} {kts : List (Key × T)} {vs : List (Key × V)} {y : T} {u : V} (r : RepsK K H kts vs) (ry : Rep K H y u) (h : oddC y kts = true) : MM.OddY K H u vs := by
  unfold oddC at h
  split at h
  · cases rep_non.mp ry
    exact .inl ⟨rfl, keysIn_intK r h⟩
  · cases rep_bl.mp ry
    exact .inr (.inl ⟨rfl, keysIn_intK r h⟩)
  · obtain ⟨b, us, rfl, q, rr⟩ := rep_tup.mp ry
    obtain ⟨v, rfl, r1⟩ := reps1 rr
    cases rep_int.mp r1
    exact .inr (.inr ⟨b, rfl, q, keysIn_intK r h⟩)
  · cases h
theorem oddC_imm {y : T} {kts : List (Key × T)} (h : oddC y kts = true) : imm y = true := by
  unfold oddC at h
  split at h
  · rfl
  · rfl
  · rfl
  · cases h
/-- the pairs of a dict as a list of two -/
def prs (kts : List (Key × T)) : List (T × T) := kts.map fun p => (keyT p.1, p.2)
theorem prs_rep {B : Hp} : ∀ {kts : List (Key × T)} {vs : List (Key × V)}, RepsK K B kts vs → OddR K B (prs kts) (vs.map fun p => (kV p.1, p.2))
  | [], vs, r => by
    unfold RepsK at r
    subst r
    exact .nil
  | (ky, t) :: kts, vs, r => by
    unfold RepsK at r
    obtain ⟨v, r', rfl, h1, h2⟩ := r
    exact .cons ⟨keyT_rep ky, h1⟩ (prs_rep h2)
/-- nothing stands there -/
def noH : Hp := fun _ => none
theorem same_noH {H : Hp} : Same noH H := fun a o h => nomatch h
open Classical in
noncomputable def stOD (S : Hp → V → Prop) (ok : List (T × T) → Prop) (i : Nat) (o ky : Option T) (ρ : Env') : Out := match nd i ρ, o, ky with
  | some (.dic kts), some τ, some y => if oddC y kts = true ∧ imm τ = true ∧ immK kts = true ∧ kts.length < sizeLine ∧ ok (prs kts ++ [(y, τ)]) then .nx (ρ.set i (some (.clo S))) else .er
  | _, _, _ => .er
/-- x[k] = e, k an odd key -/
theorem sv_storeO (hG : Fm G K mg base P w N sc k) (ok : List (T × T) → Prop) (i : Nat) {px tp : Pos} (h : EV G K e de) (hk : EV G K a da) (hN : N[i]? = some x := by rfl) (hv : visB sc x = true := by rfl)
    (hd0 : (x == ("__debug__" : Str)) = false := by decide) (hcd : (x == ("__classdict__" : Str)) = false := by decide)
    (hs : ∀ i, swapsWith e (some (.Subscript (.Name x px) a tp)) pos.line (G i).env = pure false := by intro _; rfl) :
    SV K fr [i] [] owl (TSt G (.Assign [.Subscript (.Name x px) a tp] e pos)) (fun ρ => stOD (oddA K ok) ok i (de ρ) (da ρ) ρ) := by
  intro B ρ σ H D hr hp
  dsimp only at hp
  unfold stOD at hp
  obtain ⟨B', sB, q⟩ := id hr
  have pvar : ∀ j, PE (G j) (.Name x px) (tVar i) := fun j => pe_var (by rw [hG.N j]; exact hN) (by rw [hG.sc j]; exact vis_of hv) hd0 hcd
  split at hp
  · rename_i kts τ y e1 e2 e3
    split at hp
    · rename_i cc
      obtain ⟨c1, c2, c3, c4, c5⟩ := cc
      obtain ⟨ad, o, s1, s2, s3, f⟩ := q.own i _ (by simp) (nd_some e1)
      refine ⟨MM.sOPut K (tVar i) (ES G a) (ES G e), fun j => by rw [← hG.K j]; exact MM.ps_oput (hG.hu j) (pvar j) (pe_ts j) (pe_ts j) (hs j), ?_⟩
      rcases id f with ⟨_, _, et, _⟩ | ⟨ts', vs, et, eo, r⟩
      · cases et
      · cases et
        subst eo
        refine h ρ σ H τ _ hr.env e2 fun v H1 z1 r1 => ⟨_, s1, hk ρ σ H1 _ _ (hr.env.same z1) e3 fun u H2 z2 r2 => ?_⟩
        have ea : H2 ad = some (.dK vs) := z2 _ _ (z1 _ _ s3)
        have sB2 : Same B' H2 := q.sm.trans (z1.trans z2)
        refine ⟨ad, vs, rfl, ea, by rw [← r.length]; exact c4, oddC_rep (r.same sB2) r2 c1, fun ob od => ?_⟩
        have sH := same_updn (u := .frz ob MM.OX) sB2 s2
        refine hp σ _ (StR'.give sB q s1 sH ?_)
        have sT : Same (addT noH H2) (upd noH ad (.frz ob MM.OX) |> fun Z b => if b = ad then some (.frz ob MM.OX) else addT noH H2 b) := fun b o z => by
          have hb : b ≠ ad := by
            rintro rfl
            rw [addT_none rfl, ea] at z
            cases z
          show (if b = ad then some (.frz ob MM.OX) else addT noH H2 b) = some o
          rw [if_neg hb]
          exact z
        refine rep_clo.mpr ⟨fun b => if b = ad then some (.frz ob MM.OX) else addT noH H2 b, fun b o z => ?_, fun b o z => ?_, prs kts ++ [(y, τ)], c5, ad, ob, _, rfl, if_pos rfl, od, ?_⟩
        · dsimp only at z
          split at z
          · cases z
            exact .inr (.inr (.inr ⟨_, _, rfl⟩))
          · rw [addT_none rfl] at z
            unfold L2.Hp at *
            cases e9 : H2 b with
            | none => rw [e9] at z; cases z
            | some o9 =>
              rw [e9] at z
              unfold tupO at z
              split at z
              · cases z; exact .inl ⟨_, rfl⟩
              · cases z; exact .inr (.inl ⟨_, _, rfl⟩)
              · cases z
        · dsimp only at z
          split at z
          · rename_i hb
            subst hb
            cases z
            exact upd_same
          · rename_i hb
            rw [upd_ne hb]
            exact addT_same same_noH b o z
        · refine MM.paired_app (OddR.same (B := addT noH H2) (prs_rep (imm_repsK same_noH kts vs c3 (r.same sB2))) sT) (.cons ⟨?_, ?_⟩ .nil)
          · exact (imm_rep same_noH y u (oddC_imm c1) r2).same sT
          · exact (imm_rep same_noH τ v c2 (r1.same z2)).same sT
    · cases hp
  · cases hp
def dropT (kts : List (Key × T)) (ky : Key) : List (Key × T) := kts.filter fun p => decide (p.1 ≠ ky)
theorem dropT_rep {H : Hp} {ky : Key} : ∀ {kts : List (Key × T)} {vs : List (Key × V)}, RepsK K H kts vs → RepsK K H (dropT kts ky) (dropK vs ky)
  | [], vs, r => by
    unfold RepsK at r
    subst r
    unfold dropT dropK RepsK; rfl
  | (k', t) :: kts, vs, r => by
    unfold RepsK at r
    obtain ⟨v, r', rfl, h1, h2⟩ := r
    have ih := dropT_rep (ky := ky) h2
    unfold dropT dropK at ih ⊢
    by_cases c : k' = ky
    · rw [List.filter_cons_of_neg (by simpa using c), List.filter_cons_of_neg (by simpa using c)]
      exact ih
    · rw [List.filter_cons_of_pos (by simpa using c), List.filter_cons_of_pos (by simpa using c)]
      unfold RepsK
      exact ⟨v, _, rfl, h1, ih⟩
theorem dropK_none {ky : Key} : ∀ {vs : List (Key × V)}, valV vs ky = none → dropK vs ky = vs
  | [], _ => rfl
  | p :: vs, h => by
    by_cases c : p.1 = ky
    · rw [valV_pos c] at h; cases h
    · rw [valV_neg c] at h
      unfold dropK
      rw [List.filter_cons_of_pos (by simpa using c)]
      exact congrArg (p :: ·) (dropK_none h)
def popD (i : Nat) (ky o : Option T) (ρ : Env') : Out := match nd i ρ, ky, o with
  | some (.dic kts), some y, some _ => (match keyOf y with
    | some ky => .nx (ρ.set i (some (.dic (dropT kts ky))))
    | none => .er)
  | _, _, _ => .er
/-- d.pop(k, x) -/
theorem sv_popD (hG : Fm G K mg base P w N sc k) (i : Nat) (hi : i ∈ ow) {px apos cpos : Pos} (hk : EV G K a da) (h : EV G K e de) (hN : N[i]? = some x := by rfl) (hv : visB sc x = true := by rfl)
    (hd0 : (x == ("__debug__" : Str)) = false := by decide) (hcd : (x == ("__classdict__" : Str)) = false := by decide)
    (m : ∀ j, M2 (G j) (.Name x px) "pop" apos a e cpos := by intro _; exact ⟨rfl, rfl, rfl, rfl⟩)
    (hs : ∀ i, swapsWith (.Call (.Attribute (.Name x px) "pop" apos) [a, e] [] cpos) none pos.line (G i).env = pure false := by intro _; rfl) :
    SV K fr ow ow owl (TSt G (.Expr (.Call (.Attribute (.Name x px) "pop" apos) [a, e] [] cpos) pos)) (fun ρ => popD i (da ρ) (de ρ) ρ) := by
  intro B ρ σ H D hr hp
  dsimp only at hp
  unfold popD at hp
  obtain ⟨B', sB, q⟩ := id hr
  have pvar : ∀ j, PE (G j) (.Name x px) (tVar i) := fun j => pe_var (by rw [hG.N j]; exact hN) (by rw [hG.sc j]; exact vis_of hv) hd0 hcd
  split at hp
  · rename_i kts y τ e1 e3 e2
    split at hp
    · rename_i ky ek
      obtain ⟨ad, o, s1, s2, s3, f⟩ := q.own i _ hi (nd_some e1)
      refine ⟨_, fun j => ps_expr (pe_dpop2 (pvar j) (pe_ts j) (pe_ts j) (m j)) (hs j), ?_⟩
      rcases id f with ⟨_, _, et, _⟩ | ⟨ts', vs, et, eo, r⟩
      · cases et
      · cases et
        subst eo
        refine ⟨_, s1, ad, rfl, .inl ⟨vs, .inl s3⟩, hk ρ σ H _ _ hr.env e3 fun u H1 z1 r1 => h ρ σ H1 τ _ (hr.env.same z1) e2 fun v H2 z2 r2 => ?_⟩
        have ea : H2 ad = some (.dK vs) := z2 _ _ (z1 _ _ s3)
        have key : D.nx σ (upd H2 ad (.dK (dropK vs ky))) := by
          have q1 := (q.grow (z1.trans z2)).addT
          refine hp σ _ ⟨addT B' H2, sB.trans same_addT, q1.write hi (nd_some e1) s1 ?_⟩
          exact .inr ⟨_, _, rfl, rfl, dropT_rep (r.same same_addT)⟩
        refine ⟨vs, ky, ea, keyOf_rep ek r1, fun v' _ => key, fun hn => ?_⟩
        rw [dropK_none hn] at key
        have : upd H2 ad (.dK vs) = H2 := by
          funext b
          by_cases hb : b = ad
          · subst hb; rw [upd_same, ea]
          · rw [upd_ne hb]
        rw [this] at key
        exact key
    · cases hp
  · cases hp
end DL
/-! DL43: texts: str(x), f'..', split, partition, startswith, int(text), tuple(list). -/
namespace DL
open PySem PySem.Spec PyProof.Rows L2
variable {ι : Type} {G : ι → Cx} {K : PySem.W.Frag} {mg : Str → Option Value} {base : Heap} {P : Program} {w : World} {N : List Str} {sc : Scope} {k : Nat}
variable {a b c : Expr} {da db dc : Env' → Option T} {pos : Pos}
/-- str(x) -/
def strT : T → Option Str
  | .str x => if x.length ≤ sizeLine then some x else none
  | .int i => if i.natAbs.log2 < 1920 then some (toString i) else none
  | _ => none
def gStr : List T → Option T
  | [t] => (strT t).map T.str
  | _ => none
theorem call_str_strS {X : Cx} : CallR X (.type "str") (fun xs H Q => ∃ x, xs = [.str x] ∧ Q (.str x) H) := by
  intro pins s σ H xs us Q I r h
  obtain ⟨a, rfl, q⟩ := h
  obtain ⟨u, rfl, t, rfl⟩ := vals1 r
  exact PySem.P.str_of_str ⟨.str a, H, I, ⟨t, rfl⟩, q⟩
theorem c_str : ClS G K (.type "str") gStr := by
  intro H ts vs τ Q e r hq
  unfold gStr at e
  split at e
  · rename_i t
    obtain ⟨v, rfl, r1⟩ := reps1 r
    unfold strT at e
    split at e
    · rename_i x
      split at e
      · cases e
        cases rep_str.mp r1
        exact ⟨_, fun i => call_str_strS, _, rfl, hq _ H (Same.refl H) (rep_str.mpr rfl)⟩
      · cases e
    · rename_i j
      split at e
      · rename_i cc
        cases e
        cases rep_int.mp r1
        exact ⟨_, fun i => call_str_int, _, rfl, cc, hq _ H (Same.refl H) (rep_str.mpr rfl)⟩
      · cases e
    · cases e
  · cases e
/-- int(text) -/
def gIntS : List T → Option T
  | [.str x] => if x.length ≤ 640 then (PySem.intText? x).map T.int else none
  | _ => none
theorem c_intS : ClS G K (.type "int") gIntS := by
  intro H ts vs τ Q e r hq
  unfold gIntS at e
  split at e
  · rename_i x
    split at e
    · rename_i cc
      cases e1 : PySem.intText? x with
      | none => rw [e1] at e; cases e
      | some n =>
        rw [e1] at e
        cases e
        obtain ⟨v, rfl, r1⟩ := reps1 r
        cases rep_str.mp r1
        exact ⟨_, fun i => call_int_str, x, n, rfl, e1, cc, hq _ H (Same.refl H) (rep_int.mpr rfl)⟩
    · cases e
  · cases e
/-- tuple(list) -/
def gTuple : List T → Option T
  | [.lst ts] => some (.tup ts)
  | _ => none
theorem c_tuple (hK : ∀ i, (G i).K = K) : ClS G K (.type "tuple") gTuple := by
  intro H ts vs τ Q e r hq
  unfold gTuple at e
  split at e
  · rename_i ts
    cases e
    obtain ⟨v, rfl, r1⟩ := reps1 r
    obtain ⟨a, us, rfl, ea, rr⟩ := rep_lst.mp r1
    refine ⟨fun xs H Q => ∃ p ys, xs = [.ref p] ∧ ((SqL K H p ys ∧ ∀ l, H l = none → Q (.ref l) (upd H l (.tup ys))) ∨ (SqT K H p ys ∧ Q (.ref p) H)), fun i => by rw [← hK i]; exact call_tuple_of, a, us, rfl, .inl ⟨.inl (.inl ea), fun l nl => ?_⟩⟩
    exact hq _ _ (same_upd' nl) (rep_tup.mpr ⟨l, us, rfl, .inl (.inl upd_same), rr.same (same_upd' nl)⟩)
  · cases e
/-- {x} in an f-string -/
def fmtD (o : Option T) : Option T := match o with
  | some t => (strT t).map T.str
  | none => none
theorem ev_fmt (ha : EV G K a da) : EV G K (.FormattedValue a (-1) none pos) (fun ρ => fmtD (da ρ)) := by
  intro ρ σ H τ Q hE hd hq
  dsimp only at hd
  unfold fmtD at hd
  split at hd
  · rename_i t e1
    refine ⟨tFmt (ES G a), fun i => pe_fmt (pe_ts i), ?_⟩
    refine ha ρ σ H t _ hE e1 fun v H1 s1 r1 => ?_
    unfold strT at hd
    split at hd
    · rename_i x
      split at hd
      · rename_i cc
        cases hd
        cases rep_str.mp r1
        exact .inl ⟨_, rfl, cc, hq _ H1 s1 (rep_str.mpr rfl)⟩
      · cases hd
    · rename_i j
      split at hd
      · rename_i cc
        cases hd
        cases rep_int.mp r1
        exact .inr ⟨_, rfl, cc, hq _ H1 s1 (rep_str.mpr rfl)⟩
      · cases hd
    · cases hd
  · cases hd
/-- f'..' of three parts -/
def js3 (x y z : Option T) : Option T := match x, y, z with
  | some (.str x), some (.str y), some (.str z) => if x.length + y.length + z.length ≤ sizeLine then some (.str (Str.empty ++ x ++ y ++ z)) else none
  | _, _, _ => none
theorem ev_js3 (ha : EV G K a da) (hb : EV G K b db) (hc : EV G K c dc) : EV G K (.JoinedStr [a, b, c] pos) (fun ρ => js3 (da ρ) (db ρ) (dc ρ)) := by
  intro ρ σ H τ Q hE hd hq
  dsimp only at hd
  unfold js3 at hd
  split at hd
  · rename_i x y z e1 e2 e3
    split at hd
    · rename_i cc
      cases hd
      refine ⟨_, fun i => pe_joined (.cons (pe_ts i) (.cons (pe_ts i) (.cons (pe_ts i) .nil))), ?_⟩
      have l0 : (Str.empty ++ x).length = x.length := by rw [Str.length_append]; exact Nat.zero_add _
      refine ha ρ σ H _ _ hE e1 fun v H1 s1 r1 => ⟨x, rep_str.mp r1, by rw [l0]; omega, ?_⟩
      refine hb ρ σ H1 _ _ (hE.same s1) e2 fun v2 H2 s2 r2 => ⟨y, rep_str.mp r2, by rw [Str.length_append, l0]; omega, ?_⟩
      refine hc ρ σ H2 _ _ (hE.same (s1.trans s2)) e3 fun v3 H3 s3 r3 => ⟨z, rep_str.mp r3, by rw [Str.length_append, Str.length_append, l0]; omega, ?_⟩
      exact hq _ H3 ((s1.trans s2).trans s3) (rep_str.mpr rfl)
    · cases hd
  · cases hd
/-- s.startswith(t) -/
def gStarts (x y : T) : Option T := match x, y with
  | .str a, .str b => some (.bl (Txt.startswith a b))
  | _, _ => none
theorem ev_starts {apos cpos : Pos} (ha : EV G K a da) (hb : EV G K b db) (hs : ∀ i, starEach [b] (G i).env = [(false, eval b (G i).env)] := by intro _; rfl) (hbase : ∀ i, attributeBase a "startswith" (G i).env (eval a (G i).env) = eval a (G i).env := by intro _; rfl) (hline : (apos.endLine == cpos.line) = true := by rfl) :
    EV G K (.Call (.Attribute a "startswith" apos) [b] [] cpos) (fun ρ => b2 gStarts (da ρ) (db ρ)) := by
  intro ρ σ H τ Q hE hd hq
  obtain ⟨x, y, ea, eb, eg⟩ := b2_some hd
  unfold gStarts at eg
  split at eg
  · rename_i z t
    cases eg
    refine ⟨_, fun i => pe_m1 F.slot_str_startswith F.type_str_startswith mt_startswith (pe_ts i) (pe_ts i) (hs i) (hbase i) hline, ?_⟩
    refine ha ρ σ H _ _ hE ea fun v H1 s1 r1 => ⟨⟨z, rep_str.mp r1⟩, hb ρ σ H1 _ _ (hE.same s1) eb fun u H2 s2 r2 => ?_⟩
    exact ⟨z, t, rep_str.mp r1, by rw [rep_str.mp r2], hq _ H2 (s1.trans s2) (rep_bl.mpr rfl)⟩
  · cases eg
/-- s.split(t) -/
def gSplit (x y : T) : Option T := match x, y with
  | .str a, .str b => if (b.length == 0) = false ∧ a.length + 2 ≤ sizeLine then some (.lst ((Txt.split a b).map T.str)) else none
  | _, _ => none
theorem reps_strs {H : Hp} : ∀ {xs : List Str}, Reps K H (xs.map T.str) (xs.map V.str)
  | [] => .nil
  | _ :: _ => .cons (rep_str.mpr rfl) reps_strs
theorem evf_split {apos cpos : Pos} (ha : EV G K a da) (hb : EV G K b db) (hs : ∀ i, starEach [b] (G i).env = [(false, eval b (G i).env)] := by intro _; rfl) (hbase : ∀ i, attributeBase a "split" (G i).env (eval a (G i).env) = eval a (G i).env := by intro _; rfl) (hline : (apos.endLine == cpos.line) = true := by rfl) :
    EVF G K (.Call (.Attribute a "split" apos) [b] [] cpos) (fun ρ => b2 gSplit (da ρ) (db ρ)) := by
  intro ρ σ H τ Q hE hd hq
  obtain ⟨x, y, ea, eb, eg⟩ := b2_some hd
  unfold gSplit at eg
  split at eg
  · rename_i z t
    split at eg
    · rename_i cc
      cases eg
      refine ⟨_, fun i => pe_split (pe_ts i) (pe_ts i) (hs i) (hbase i) hline, ?_⟩
      refine ha ρ σ H _ _ hE ea fun v H1 s1 r1 => ⟨⟨z, rep_str.mp r1⟩, hb ρ σ H1 _ _ (hE.same s1) eb fun u H2 s2 r2 => ?_⟩
      refine ⟨z, t, rep_str.mp r1, by rw [rep_str.mp r2], cc.1, cc.2, fun p np => ?_⟩
      exact hq p _ _ ((s1.trans s2).trans (same_upd' np)) ((s1.trans s2).free np) upd_same (.inl ⟨_, _, rfl, rfl, reps_strs⟩)
    · cases eg
  · cases eg
/-- s.partition(t) -/
def gPart (x y : T) : Option T := match x, y with
  | .str a, .str b => if (b.length == 0) = false ∧ a.length ≤ sizeLine then some (.tup [.str (Txt.partition a b).1, .str (Txt.partition a b).2.1, .str (Txt.partition a b).2.2]) else none
  | _, _ => none
theorem ev_part {apos cpos : Pos} (ha : EV G K a da) (hb : EV G K b db) (hs : ∀ i, starEach [b] (G i).env = [(false, eval b (G i).env)] := by intro _; rfl) (hbase : ∀ i, attributeBase a "partition" (G i).env (eval a (G i).env) = eval a (G i).env := by intro _; rfl) (hline : (apos.endLine == cpos.line) = true := by rfl) :
    EV G K (.Call (.Attribute a "partition" apos) [b] [] cpos) (fun ρ => b2 gPart (da ρ) (db ρ)) := by
  intro ρ σ H τ Q hE hd hq
  obtain ⟨x, y, ea, eb, eg⟩ := b2_some hd
  unfold gPart at eg
  split at eg
  · rename_i z t
    split at eg
    · rename_i cc
      cases eg
      refine ⟨_, fun i => pe_partition (pe_ts i) (pe_ts i) (hs i) (hbase i) hline, ?_⟩
      refine ha ρ σ H _ _ hE ea fun v H1 s1 r1 => ⟨⟨z, rep_str.mp r1⟩, hb ρ σ H1 _ _ (hE.same s1) eb fun u H2 s2 r2 => ?_⟩
      refine ⟨z, t, rep_str.mp r1, by rw [rep_str.mp r2], cc.1, cc.2, fun p np => ?_⟩
      exact hq _ _ ((s1.trans s2).trans (same_upd' np)) (rep_tup.mpr ⟨p, _, rfl, .inl (.inl upd_same), .cons (rep_str.mpr rfl) (.cons (rep_str.mpr rfl) (.cons (rep_str.mpr rfl) .nil))⟩)
    · cases eg
  · cases eg
end DL
/-! DL44: a loop that puts a new dict into a list each time and writes into that dict afterwards. -/
namespace DL
open PySem PySem.Spec PyProof.Rows L2
variable {ι : Type} {G : ι → Cx} {K : PySem.W.Frag} {mg : Str → Option Value} {base : Heap} {P : Program} {w : World} {N : List Str} {sc : Scope} {k : Nat}
variable {owl : List Nat}
def heldL (iH iB : Nat) (ts : List Nat) (bd : Env' → T → Option Env') (de1 : Env' → Option T) (d : Env' → Out) (de5 da5 : Env' → Option T) : List T → List T → Env' → Out
  | [], acc, ρ => .nx (ρ.set iH (some (.lst acc)))
  | t :: τs, acc, ρ => match bd ρ t with
    | none => .er
    | some ρ1 => match de1 ρ1 with
      | some (.dic kts) => if immK kts = true ∧ acc.length < 1000 ∧ iB < ρ1.length then (match d (ρ1.set iB (some (.dic kts))) with
        | .nx ρ3 => (match de5 ρ3, da5 ρ3 with
          | some τ, some y => (match keyOf y with
            | some ky => if imm τ = true ∧ (kts.map (·.1)).Nodup ∧ kts.length < 1000 then heldL iH iB ts bd de1 d de5 da5 τs (acc ++ [.dic (putT kts ky τ)]) (wipeD (ρ1.set iB none) ts) else .er
            | none => .er)
          | _, _ => .er)
        | .rt τ => .rt τ
        | _ => .er) else .er
      | _ => .er
def heldD (iH iB : Nat) (ts : List Nat) (bd : Env' → T → Option Env') (de1 : Env' → Option T) (d : Env' → Out) (de5 da5 : Env' → Option T) (o : Option (List T)) (ρ : Env') : Out := match nd iH ρ, o with
  | some (.lst []), some τs => heldL iH iB ts bd de1 d de5 da5 τs [] (ρ.set iH none)
  | _, _ => .er
/-- the dicts of the list, each by itself -/
def HeldR (K : PySem.W.Frag) (B : Hp) (L : Addr) (H : Hp) : List T → List V → Prop := Paired fun t v => ∃ p kts kvs, t = .dic kts ∧ v = .ref p ∧ B p = none ∧ p ≠ L ∧ H p = some (.dK kvs) ∧ RepsK K B kts kvs
theorem HeldR.mono {B B2 H H2 : Hp} {L : Addr} : ∀ {acc : List T} {refs : List V}, HeldR K B L H acc refs → Same B B2 → (∀ p kvs, B p = none → p ≠ L → H p = some (.dK kvs) → B2 p = none ∧ H2 p = some (.dK kvs)) → HeldR K B2 L H2 acc refs
  | _, _, .nil, _, _ => .nil
  | _, _, .cons h t, s, g => by
    obtain ⟨p, kts, kvs, e1, e2, e3, e4, e5, e6⟩ := h
    obtain ⟨g1, g2⟩ := g p kvs e3 e4 e5
    exact .cons ⟨p, kts, kvs, e1, e2, g1, e4, g2, e6.same s⟩ (HeldR.mono t s g)
theorem HeldR.reps {B H : Hp} {L : Addr} (s : Same B H) : ∀ {acc : List T} {refs : List V}, HeldR K B L H acc refs → Reps K H acc refs
  | _, _, .nil => .nil
  | _, _, .cons h t => by
    obtain ⟨p, kts, kvs, rfl, rfl, e3, e4, e5, e6⟩ := h
    exact .cons (rep_dic.mpr ⟨p, kvs, rfl, .inl e5, e6.same s⟩) (HeldR.reps s t)
theorem HeldR.snoc {B H : Hp} {L : Addr} {acc : List T} {refs : List V} {t : T} {v : V} (h : HeldR K B L H acc refs) (g : ∃ p kts kvs, t = .dic kts ∧ v = .ref p ∧ B p = none ∧ p ≠ L ∧ H p = some (.dK kvs) ∧ RepsK K B kts kvs) : HeldR K B L H (acc ++ [t]) (refs ++ [v]) :=
  MM.paired_app h (.cons g .nil)
theorem addT_dk {B H : Hp} {p : Addr} {kvs : List (Key × V)} (n : B p = none) (e : H p = some (.dK kvs)) : addT B H p = none := by rw [addT_none n, e]; rfl
theorem addT_ls {B H : Hp} {p : Addr} {vs : List V} (n : B p = none) (e : H p = some (.lst vs)) : addT B H p = none := by rw [addT_none n, e]; rfl
theorem sv_held (hG : Fm G K mg base P w N sc k) (hN0 : N.Nodup) (hF : FnB G sc) (hpo : ∀ i, PassesOwn (model (G i).prog (G i).w) (G i).A (G i).env (G i).xe)
    (iH iB : Nat) (ts : List Nat) {vs : List Nat} {tg iter e1 e5 a5 : Expr} {s3 s4 : Stmt} {xB xH : Str} {p1 p2 p3 p4 p5 p6 p7 p8 ap cp pos : Pos} {bd : Env' → T → Option Env'} {dl : Env' → Option (List T)} {de1 de5 da5 : Env' → Option T} {d3 d4 : Env' → Out}
    (hi : IV G K [iH] tg iter dl) (ht : TV G K [] tg vs bd) (h1 : EVF G K e1 de1) (h3 : SVO K ts (TSt G s3) d3) (h4 : SVO K ts (TSt G s4) d4) (h5 : EV G K e5 de5) (h6 : EV G K a5 da5)
    (hne : iH ≠ iB := by decide) (hvs : iH ∉ vs ∧ iB ∉ vs := by decide) (hts : iH ∉ ts ∧ iB ∉ ts := by decide)
    (hNB : N[iB]? = some xB := by rfl) (hvB : visB sc xB = true := by rfl) (hlB : locB sc xB = true := by rfl) (hNH : N[iH]? = some xH := by rfl) (hvH : visB sc xH = true := by rfl)
    (hdB : (xB == ("__debug__" : Str)) = false := by decide) (hcB : (xB == ("__classdict__" : Str)) = false := by decide) (hdH : (xH == ("__debug__" : Str)) = false := by decide) (hcH : (xH == ("__classdict__" : Str)) = false := by decide)
    (hbm : ∀ j to te, PE (G j) (.Name xH p3) to → PE (G j) (.Name xB p4) te → PE (G j) (.Call (.Attribute (.Name xH p3) "append" ap) [.Name xB p4] [] cp) (tBM (G j).K "list" rAppend to (tCons te tNil)) := by
      intro j to te h1 h2; exact pe_bm PySem.F.plainAttrs_list PySem.F.slot_list_append PySem.F.type_list_append mt_append h1 (pa_cons h2 pa_nil))
    (hs1 : ∀ i, swapsWith e1 (some (.Name xB p1)) p2.line (G i).env = pure false := by intro _; rfl)
    (hs2 : ∀ i, swapsWith (.Call (.Attribute (.Name xH p3) "append" ap) [.Name xB p4] [] cp) none p5.line (G i).env = pure false := by intro _; rfl)
    (hs5 : ∀ i, swapsWith e5 (some (.Subscript (.Name xB p6) a5 p7)) p8.line (G i).env = pure false := by intro _; rfl)
    (hs : ∀ i x, foldedSetIterable iter (G i).env x = pure x := by intro _ _; rfl) :
    SV K false [iH] [] owl (TSt G (.For tg iter [.Assign [.Name xB p1] e1 p2, .Expr (.Call (.Attribute (.Name xH p3) "append" ap) [.Name xB p4] [] cp) p5, s3, s4, .Assign [.Subscript (.Name xB p6) a5 p7] e5 p8] [] pos))
      (fun ρ => heldD iH iB ts bd de1 (seqD d3 d4) de5 da5 (dl ρ) ρ) := by
  intro B ρ σ H D hr hp
  dsimp only at hp
  unfold heldD at hp
  split at hp
  · rename_i τs eH edl
    obtain ⟨B', sB, q⟩ := id hr
    refine ⟨tFor (IT G tg iter) (GT G tg) (TSs G _), fun i => ps_for (hpo i) (hG.calm i) (pi_it i) (pg_gt i) (pss_ss i) (hs i), ?_⟩
    refine hi B' ρ σ H τs q edl _ fun J H1 B1 s1 sH hr1 wk => ?_
    obtain ⟨L, oL, eL, nL, hL, fL⟩ := hr1.own iH _ (by simp) (nd_some eH)
    have hL0 : H1 L = some (.lst []) := by
      rcases id fL with ⟨ts', vs', et, eo, r⟩ | ⟨_, _, et, _⟩
      · cases et
        subst eo
        unfold Reps at r
        subst r
        exact hL
      · cases et
    have hr0 : StR' K B1 [] (ρ.set iH none) σ H1 := by
      refine ⟨hr1.sm, by simpa using hr1.len, fun l t _ el => ?_, fun l t m => absurd m (by simp), fun l l2 a ti tj m => absurd m (by simp)⟩
      rcases set_get el with ⟨_, z⟩ | ⟨nl, z⟩
      · cases z
      · exact hr1.val l t (by simpa using nl) z
    refine ⟨fun i m σ H => m = τs.length - i ∧ i ≤ τs.length ∧ ∃ ρi acc refs B2, Same B1 B2 ∧ StR' K B2 [] ρi σ H ∧ σ[iH]? = some (some (V.ref L)) ∧ B2 L = none ∧ H L = some (.lst refs) ∧ HeldR K B2 L H acc refs ∧ Post K false B1 D [] owl (heldL iH iB ts bd de1 (seqD d3 d4) de5 da5 (τs.drop i) acc ρi),
      ⟨_, rfl, Nat.zero_le _, ρ.set iH none, [], [], B1, Same.refl _, hr0, eL, nL, hL0, .nil, Post.rebase (sB.trans s1) hp⟩, ?_⟩
    rintro i m σi Hi ⟨rfl, hile, ρi, acc, refs, B2, sB2, qi, eLi, nLi, hLi, hh, hpi⟩
    by_cases hlt : i < τs.length
    · have sB1i : Same B1 Hi := sB2.trans qi.sm
      refine .inr ⟨wk.go i Hi sB1i hlt, fun σ' H' => ∃ ρ' acc refs B2, Same B1 B2 ∧ StR' K B2 [] ρ' σ' H' ∧ σ'[iH]? = some (some (V.ref L)) ∧ B2 L = none ∧ H' L = some (.lst refs) ∧ HeldR K B2 L H' acc refs ∧ Post K false B1 D [] owl (heldL iH iB ts bd de1 (seqD d3 d4) de5 da5 (τs.drop (i + 1)) acc ρ'),
        fun σ' H' ⟨ρ', a, b, c, d⟩ => ⟨_, by omega, rfl, hlt, ρ', a, b, c, d⟩, fun x H' y => ?_⟩
      obtain ⟨sH', rx⟩ := wk.yld i _ Hi x H' sB1i (List.getElem?_eq_getElem hlt) y
      have ed : τs.drop i = τs[i] :: τs.drop (i + 1) := List.drop_eq_getElem_cons hlt
      rw [ed] at hpi
      unfold heldL at hpi
      have q2 := (qi.grow sH').addT
      have rx2 : Rep K (addT B2 H') τs[i] x := rx.same fun a o h => by
        cases e : B1 a with
        | some u =>
          rw [addT_some e] at h
          exact addT_some (by rw [← h]; exact sB2 a u e)
        | none =>
          rw [addT_none e] at h
          cases e2 : B2 a with
          | some u =>
            rw [addT_some e2]
            have := (qi.grow sH').sm a u e2
            rw [tupO_some h] at this
            exact this.symm
          | none => rw [addT_none e2]; exact h
      have hL' : H' L = some (.lst refs) := sH' _ _ hLi
      have nL3 : addT B2 H' L = none := addT_ls nLi hL'
      split at hpi
      · cases hpi
      · rename_i ρ1 eb
        refine ht (addT B2 H') ρi ρ1 σi H' _ x _ q2 rx2 eb fun σ1 q1 off => ?_
        have eL1 : σ1[iH]? = some (some (V.ref L)) := by rw [off.2 iH hvs.1]; exact eLi
        split at hpi
        · rename_i kts e1'
          split at hpi
          · rename_i cc
            refine ⟨tSeq (TSt G _) (tSeq (TSt G _) (tSeq (TSt G s3) (tSeq (TSt G s4) (TSt G _)))), fun i => pss_cons (ps_st i) (pss_cons (ps_st i) (pss_cons (ps_st i) (pss_cons (ps_st i) (pss_one (ps_st i))))), ?_⟩
            refine ⟨_, fun j => ps_set (i := iB) (by rw [hG.N j]; exact hN0) (by rw [hG.N j]; exact hNB) (by rw [hG.sc j]; exact loc_of hlB) (pe_ts j) (hs1 j) (hF.fn j xB), ?_⟩
            refine h1 ρ1 σ1 H' _ _ q1.env e1' fun p o H2 sp np ep f => ?_
            rcases id f with ⟨_, _, et, _⟩ | ⟨kts', kvs, et, eo, r⟩
            · cases et
            cases et
            subst eo
            have hL2 : H2 L = some (.lst refs) := sp _ _ hL'
            have pL : p ≠ L := by rintro rfl; rw [hL'] at np; cases np
            have s32 : Same (addT B2 H') H2 := q1.sm.trans sp
            have n3p : addT B2 H' p = none := q1.sm.free np
            obtain ⟨c1, c2, c3⟩ := cc
            have hlB1 : iB < σ1.length := by rw [q1.len]; exact c3
            have r4 : RepsK K (addT (addT B2 H') H2) kts kvs := imm_repsK s32 kts kvs c1 r
            have n4p : addT (addT B2 H') H2 p = none := addT_dk n3p ep
            have n4L : addT (addT B2 H') H2 L = none := addT_ls nL3 hL2
            have s42 : Same (addT (addT B2 H') H2) H2 := addT_same s32
            -- the list takes it
            have eB2 : (σ1.set iB (some (V.ref p)))[iB]? = some (some (V.ref p)) := List.getElem?_set_self hlB1
            have eL2 : (σ1.set iB (some (V.ref p)))[iH]? = some (some (V.ref L)) := by rw [List.getElem?_set_ne (Ne.symm hne)]; exact eL1
            refine ⟨tDrop (tBM K "list" rAppend (tVar iH) (tCons (tVar iB) tNil)), fun j => ps_expr ?_ (hs2 j), ?_⟩
            · have := hbm j (tVar iH) (tVar iB) (pe_var (by rw [hG.N j]; exact hNH) (by rw [hG.sc j]; exact vis_of hvH) hdH hcH) (pe_var (by rw [hG.N j]; exact hNB) (by rw [hG.sc j]; exact vis_of hvB) hdB hcB)
              rw [hG.K j] at this
              exact this
            refine ⟨_, eL2, .inl ⟨rfl, refs, .inl (.inl hL2)⟩, _, eB2, L, refs, .ref p, rfl, rfl, hL2, by rw [← Paired.length hh]; simp [show sizeLine = 16777216 from by decide]; omega, ?_⟩
            -- the reading
            have s43 : Same (addT (addT B2 H') H2) (upd H2 L (.lst (refs ++ [.ref p]))) := same_updn s42 n4L
            have hp3 : upd H2 L (.lst (refs ++ [.ref p])) p = some (.dK kvs) := by rw [upd_ne pL]; exact ep
            have q3 : StR K (upd H2 L (.lst (refs ++ [.ref p]))) [] (ρ1.set iB (some (.dic kts))) (σ1.set iB (some (V.ref p))) (upd H2 L (.lst (refs ++ [.ref p]))) := by
              refine ⟨_, Same.refl _, Same.refl _, by simpa using q1.len, fun l t _ el => ?_, fun l t m => absurd m (by simp), fun l l2 a ti tj m => absurd m (by simp)⟩
              rcases set_get el with ⟨rfl, z⟩ | ⟨nl, z⟩
              · cases z
                exact ⟨_, eB2, rep_dic.mpr ⟨p, kvs, rfl, .inl hp3, r4.same s43⟩⟩
              · obtain ⟨v, ev, rv⟩ := q1.val l t (by simp) z
                exact ⟨v, by rw [List.getElem?_set_ne (Ne.symm nl)]; exact ev, (rv.same same_addT).same s43⟩
            have sB13 : Same B1 (upd H2 L (.lst (refs ++ [.ref p]))) := ((sB2.trans same_addT).trans same_addT).trans s43
            have rtO : ∀ τ, Post K false B1 D [] owl (.rt τ) → ∀ v H, Same (upd H2 L (.lst (refs ++ [.ref p]))) H → Rep K H τ v → D.rt v H := fun τ h v H s r => h v H (sB13.trans s) r
            -- what comes behind the reading
            have last : ∀ ρ3 σ3 H3, seqD d3 d4 (ρ1.set iB (some (.dic kts))) = .nx ρ3 → StR K (upd H2 L (.lst (refs ++ [.ref p]))) [] ρ3 σ3 H3 → OffT ts (σ1.set iB (some (V.ref p))) σ3 →
                TSt G (.Assign [.Subscript (.Name xB p6) a5 p7] e5 p8) ⟨fun σ' H' => ∃ ρ' acc refs B2, Same B1 B2 ∧ StR' K B2 [] ρ' σ' H' ∧ σ'[iH]? = some (some (V.ref L)) ∧ B2 L = none ∧ H' L = some (.lst refs) ∧ HeldR K B2 L H' acc refs ∧ Post K false B1 D [] owl (heldL iH iB ts bd de1 (seqD d3 d4) de5 da5 (τs.drop (i + 1)) acc ρ'), D.rt, D.nx, fun σ' H' => ∃ ρ' acc refs B2, Same B1 B2 ∧ StR' K B2 [] ρ' σ' H' ∧ σ'[iH]? = some (some (V.ref L)) ∧ B2 L = none ∧ H' L = some (.lst refs) ∧ HeldR K B2 L H' acc refs ∧ Post K false B1 D [] owl (heldL iH iB ts bd de1 (seqD d3 d4) de5 da5 (τs.drop (i + 1)) acc ρ')⟩ σ3 H3 := by
              intro ρ3 σ3 H3 es q4 off3
              rw [es] at hpi
              dsimp only at hpi
              split at hpi
              · rename_i τ y e5' e6'
                split at hpi
                · rename_i ky ek
                  split at hpi
                  · rename_i cc
                    obtain ⟨k1, k2, k3⟩ := cc
                    have pvar : ∀ j, PE (G j) (.Name xB p6) (tVar iB) := fun j => pe_var (by rw [hG.N j]; exact hNB) (by rw [hG.sc j]; exact vis_of hvB) hdB hcB
                    refine ⟨sDPut (tVar iB) (ES G a5) (ES G e5), fun j => ps_dput (hG.hu j) (pvar j) (pe_ts j) (pe_ts j) (hs5 j), ?_⟩
                    have s23 : Same (upd H2 L (.lst (refs ++ [.ref p]))) H3 := q4.sm
                    have eB3 : σ3[iB]? = some (some (V.ref p)) := by rw [off3.2 iB hts.2]; exact eB2
                    have eL3 : σ3[iH]? = some (some (V.ref L)) := by rw [off3.2 iH hts.1]; exact eL2
                    refine h5 ρ3 σ3 H3 _ _ q4.env e5' fun v H4 z1 r1 => ⟨_, eB3, h6 ρ3 σ3 H4 _ _ (q4.env.same z1) e6' fun u H5 z2 r2 => ?_⟩
                    have s25 : Same (upd H2 L (.lst (refs ++ [.ref p]))) H5 := s23.trans (z1.trans z2)
                    have ep5 : H5 p = some (.dK kvs) := s25 _ _ hp3
                    have eL5 : H5 L = some (.lst (refs ++ [.ref p])) := s25 _ _ upd_same
                    have s45 : Same (addT (addT B2 H') H2) H5 := s43.trans s25
                    have n6p : addT (addT (addT B2 H') H2) H5 p = none := addT_dk n4p ep5
                    have n6L : addT (addT (addT B2 H') H2) H5 L = none := addT_ls n4L eL5
                    have s65 : Same (addT (addT (addT B2 H') H2) H5) H5 := addT_same s45
                    refine ⟨p, _, rfl, .inl ⟨kvs, ky, ep5, keyOf_rep ek r2, by rw [← r.length]; simp [show sizeLine = 16777216 from by decide]; omega, rfl⟩, ?_⟩
                    have s6f : Same (addT (addT (addT B2 H') H2) H5) (upd H5 p (.dK (putK kvs ky v))) := same_updn s65 n6p
                    refine ⟨_, acc ++ [.dic (putT kts ky τ)], refs ++ [.ref p], addT (addT (addT B2 H') H2) H5, ((sB2.trans same_addT).trans same_addT).trans same_addT, ⟨s6f, ?_, fun l t _ el => ?_, fun l t m => absurd m (by simp), fun l l2 a ti tj m => absurd m (by simp)⟩, eL3, n6L, by rw [upd_ne (Ne.symm pL)]; exact eL5, HeldR.snoc (HeldR.mono hh ((same_addT.trans same_addT).trans same_addT) fun pj kj n nL' e => ?_) ⟨p, _, _, rfl, rfl, n6p, pL, upd_same, ?_⟩, hpi⟩
                    · rw [off3.1, wipeD_length]
                      simpa using q1.len
                    · obtain ⟨el', nt⟩ := wipeD_some el
                      rcases set_get el' with ⟨_, z⟩ | ⟨nl, z⟩
                      · cases z
                      · obtain ⟨v', ev', rv'⟩ := q1.val l t (by simp) z
                        refine ⟨v', ?_, (rv'.same same_addT).same same_addT⟩
                        rw [off3.2 l nt, List.getElem?_set_ne (Ne.symm nl)]
                        exact ev'
                    · have e1 : H' pj = some (.dK kj) := sH' _ _ e
                      have e2 : H2 pj = some (.dK kj) := sp _ _ e1
                      have e5'' : H5 pj = some (.dK kj) := s25 _ _ (by rw [upd_ne nL']; exact e2)
                      have hpp : pj ≠ p := by rintro rfl; rw [e1] at np; cases np
                      exact ⟨addT_dk (addT_dk (addT_dk n e1) e2) e5'', by rw [upd_ne hpp]; exact e5''⟩
                    · exact putT_rep (imm_rep s45 τ v k1 (r1.same z2)) (r4.same same_addT) k2
                  · cases hpi
                · cases hpi
              · cases hpi
            refine h3 _ (ρ1.set iB (some (.dic kts))) _ _ _ q3 ?_
            cases e3' : d3 (ρ1.set iB (some (.dic kts))) with
            | nx ρ2 =>
              intro σ2 H3 q4 off3
              refine h4 _ ρ2 σ2 H3 _ q4 ?_
              cases e4' : d4 ρ2 with
              | nx ρ3 => exact fun σ3 H4 q5 off4 => last ρ3 σ3 H4 (by unfold seqD; rw [e3']; exact e4') q5 (off3.trans off4)
              | rt τ =>
                have es : seqD d3 d4 (ρ1.set iB (some (.dic kts))) = .rt τ := by unfold seqD; rw [e3']; exact e4'
                rw [es] at hpi
                exact rtO τ hpi
              | bk ρ3 =>
                have es : seqD d3 d4 (ρ1.set iB (some (.dic kts))) = .bk ρ3 := by unfold seqD; rw [e3']; exact e4'
                rw [es] at hpi
                exact hpi.elim
              | ct ρ3 =>
                have es : seqD d3 d4 (ρ1.set iB (some (.dic kts))) = .ct ρ3 := by unfold seqD; rw [e3']; exact e4'
                rw [es] at hpi
                exact hpi.elim
              | er =>
                have es : seqD d3 d4 (ρ1.set iB (some (.dic kts))) = .er := by unfold seqD; rw [e3']; exact e4'
                rw [es] at hpi
                exact hpi.elim
            | rt τ =>
              have es : seqD d3 d4 (ρ1.set iB (some (.dic kts))) = .rt τ := by unfold seqD; rw [e3']
              rw [es] at hpi
              exact rtO τ hpi
            | bk ρ3 =>
              have es : seqD d3 d4 (ρ1.set iB (some (.dic kts))) = .bk ρ3 := by unfold seqD; rw [e3']
              rw [es] at hpi
              exact hpi.elim
            | ct ρ3 =>
              have es : seqD d3 d4 (ρ1.set iB (some (.dic kts))) = .ct ρ3 := by unfold seqD; rw [e3']
              rw [es] at hpi
              exact hpi.elim
            | er =>
              have es : seqD d3 d4 (ρ1.set iB (some (.dic kts))) = .er := by unfold seqD; rw [e3']
              rw [es] at hpi
              exact hpi.elim
          · cases hpi
        · cases hpi
    · have e : i = τs.length := by omega
      subst e
      refine .inl ⟨wk.stop _ Hi (sB2.trans qi.sm) (Nat.le_refl _), ?_⟩
      rw [List.drop_length] at hpi
      unfold heldL at hpi
      refine hpi σi Hi ⟨Hi, sB2.trans qi.sm, ⟨Same.refl _, by simpa using qi.len, fun l t _ el => ?_, fun l t m => absurd m (by simp), fun l l2 a ti tj m => absurd m (by simp)⟩⟩
      rcases set_get el with ⟨rfl, z⟩ | ⟨nl, z⟩
      · cases z
        exact ⟨_, eLi, rep_lst.mpr ⟨L, refs, rfl, hLi, HeldR.reps qi.sm hh⟩⟩
      · obtain ⟨v, ev, rv⟩ := qi.val l t (by simp) z
        exact ⟨v, ev, rv.same qi.sm⟩
  · cases hp
end DL
namespace Q
open PySem PySem.Spec PyProof.Rows L2 DL
noncomputable section
abbrev N_is_whole : List Str := ["thing"]
def D_is_whole : Env' → Out := (fun ρ => rtD (b2 (gEqB false) ((consD (nd 0 ρ) (some [])).bind gType) (some (.raw (.ty "int")))))
def f_is_whole : List T → Option T := fnD N_is_whole false D_is_whole
abbrev N_is_number : List Str := ["thing"]
def D_is_number : Env' → Out := (fun ρ => rtD (andV ((consD (nd 0 ρ) (some [])).bind f_is_whole) (b2 gGe (nd 0 ρ) (some (.int 1)))))
def f_is_number : List T → Option T := fnD N_is_number false D_is_number
abbrev N_is_name : List Str := ["thing", "sign"]
def D_is_name : Env' → Out := (seqD (fun ρ => ifD (orD (asB (b2 (gEqB true) ((consD (nd 0 ρ) (some [])).bind gType) (some (.raw (.ty "str"))))) ((asB (chD gLe gLe (some (.int 1)) ((consD (nd 0 ρ) (some [])).bind gLen) (some (.int 8)))).map (!·)))
    (fun ρ => rtD (some (.bl false)))
    (fun ρ => .nx ρ) ρ)
  (fun ρ => rtD ((consD (lcD (bdN 1) (fun _ => some true) (fun ρ => chD gLe gLe (some (.str "a")) (nd 1 ρ) (some (.str "z"))) [1] ρ (itD true (nd 0 ρ))) (some [])).bind gAll)))
def f_is_name : List T → Option T := fnD N_is_name false D_is_name
abbrev N_is_day : List Str := ["thing"]
def D_is_day : Env' → Out := (fun ρ => rtD (andV ((consD (nd 0 ρ) (some [])).bind f_is_whole) (chD gLe gLe (some (.int 0)) (nd 0 ρ) (some (.int 1000000)))))
def f_is_day : List T → Option T := fnD N_is_day false D_is_day
abbrev N_is_worth : List Str := ["thing"]
def D_is_worth : Env' → Out := (fun ρ => rtD (andV ((consD (nd 0 ρ) (some [])).bind f_is_whole) (chD gLe gLe (un1 (fun i => -i) (some (.int 1000000000))) (nd 0 ρ) (some (.int 1000000000)))))
def f_is_worth : List T → Option T := fnD N_is_worth false D_is_worth
abbrev N_are_days : List Str := ["low", "high"]
def D_are_days : Env' → Out := (fun ρ => rtD (andV ((consD (nd 0 ρ) (some [])).bind f_is_day) (andV ((consD (nd 1 ρ) (some [])).bind f_is_day) (b2 gLe (nd 0 ρ) (nd 1 ρ)))))
def f_are_days : List T → Option T := fnD N_are_days false D_are_days
abbrev N_is_tell : List Str := ["entry", "_", "name", "low", "high", "worth"]
def D_is_tell : Env' → Out := (seqD (fun ρ => ifD (asB (b2 (gEqA true) ((consD (nd 0 ρ) (some [])).bind gLen) (some (.int 5))))
    (fun ρ => rtD (some (.bl false)))
    (fun ρ => .nx ρ) ρ)
  (seqD (fun ρ => unpD true (bdT 5 (bdCons (bdN 1) (bdCons (bdN 2) (bdCons (bdN 3) (bdCons (bdN 4) (bdCons (bdN 5) bdNil)))))) (nd 0 ρ) ρ)
  (fun ρ => rtD (andV ((consD (nd 2 ρ) (some [])).bind f_is_name) (andV ((consD (nd 3 ρ) (consD (nd 4 ρ) (some []))).bind f_are_days) ((consD (nd 5 ρ) (some [])).bind f_is_worth))))))
def f_is_tell : List T → Option T := fnD N_is_tell false D_is_tell
abbrev N_is_clear : List Str := ["entry", "_", "name", "low", "high"]
def D_is_clear : Env' → Out := (seqD (fun ρ => ifD (asB (b2 (gEqA true) ((consD (nd 0 ρ) (some [])).bind gLen) (some (.int 4))))
    (fun ρ => rtD (some (.bl false)))
    (fun ρ => .nx ρ) ρ)
  (seqD (fun ρ => unpD true (bdT 4 (bdCons (bdN 1) (bdCons (bdN 2) (bdCons (bdN 3) (bdCons (bdN 4) bdNil))))) (nd 0 ρ) ρ)
  (fun ρ => rtD (andV ((consD (nd 2 ρ) (some [])).bind f_is_name) ((consD (nd 3 ρ) (consD (nd 4 ρ) (some []))).bind f_are_days)))))
def f_is_clear : List T → Option T := fnD N_is_clear false D_is_clear
abbrev N_is_like : List Str := ["entry", "_", "name", "low", "high", "other"]
def D_is_like : Env' → Out := (seqD (fun ρ => ifD (asB (b2 (gEqA true) ((consD (nd 0 ρ) (some [])).bind gLen) (some (.int 5))))
    (fun ρ => rtD (some (.bl false)))
    (fun ρ => .nx ρ) ρ)
  (seqD (fun ρ => unpD true (bdT 5 (bdCons (bdN 1) (bdCons (bdN 2) (bdCons (bdN 3) (bdCons (bdN 4) (bdCons (bdN 5) bdNil)))))) (nd 0 ρ) ρ)
  (fun ρ => rtD (andV ((consD (nd 2 ρ) (some [])).bind f_is_name) (andV ((consD (nd 3 ρ) (consD (nd 4 ρ) (some []))).bind f_are_days) ((consD (nd 5 ρ) (some [])).bind f_is_name))))))
def f_is_like : List T → Option T := fnD N_is_like false D_is_like
abbrev N_is_undo : List Str := ["entry"]
def D_is_undo : Env' → Out := (fun ρ => rtD (andV (b2 (gEqA false) ((consD (nd 0 ρ) (some [])).bind gLen) (some (.int 2))) ((consD (b2 gSubs (nd 0 ρ) (some (.int 1))) (some [])).bind f_is_number)))
def f_is_undo : List T → Option T := fnD N_is_undo false D_is_undo
abbrev N_is_entry : List Str := ["thing", "word", "fits"]
def formsF : Str → Option (List T → Option T) := fun z => if z = "tell" then some f_is_tell else if z = "clear" then some f_is_clear else if z = "like" then some f_is_like else if z = "undo" then some f_is_undo else none
def D_is_entry (dF : Addr) (tab : List (Str × Addr)) : Env' → Out := (seqD (fun ρ => ifD (orD (asB (b2 (gEqB true) ((consD (nd 0 ρ) (some [])).bind gType) (some (.raw (.ty "tuple"))))) (asB (b2 (gEqA false) ((consD (nd 0 ρ) (some [])).bind gLen) (some (.int 0)))))
    (fun ρ => rtD (some (.bl false)))
    (fun ρ => .nx ρ) ρ)
  (seqD (fun ρ => setD true 1 (b2 gSubs (nd 0 ρ) (some (.int 0))) ρ)
  (seqD (fun ρ => ifD (orD (asB (b2 (gEqB true) ((consD (nd 1 ρ) (some [])).bind gType) (some (.raw (.ty "str"))))) (asB (b2 (gNotInK dF tab) (nd 1 ρ) (some (.raw (.ref dF))))))
    (fun ρ => rtD (some (.bl false)))
    (fun ρ => .nx ρ) ρ)
  (seqD (fun ρ => setD true 2 (b2 (gItemK dF tab) (some (.raw (.ref dF))) (nd 1 ρ)) ρ)
  (fun ρ => rtD (fitD tab formsF (nd 1 ρ) (nd 2 ρ) (consD (nd 0 ρ) (some []))))))))
def f_is_entry : List T → Option T
  | [.tup []] => some (.bl false)
  | [.tup (.str z :: r)] => match formsF z with
    | some φ => φ [.tup (.str z :: r)]
    | none => some (.bl false)
  | [.tup (.raw _ :: _)] => none
  | [.tup (.clo _ :: _)] => none
  | [.tup (_ :: _)] => some (.bl false)
  | [.raw _] => none
  | [.clo _] => none
  | [_] => some (.bl false)
  | _ => none
abbrev N_may_stand : List Str := ["number", "entry"]
def D_may_stand : Env' → Out := (seqD (fun ρ => ifD (orD ((asB ((consD (nd 0 ρ) (some [])).bind f_is_number)).map (!·)) ((asB ((consD (nd 1 ρ) (some [])).bind f_is_entry)).map (!·)))
    (fun ρ => rtD (some (.bl false)))
    (fun ρ => .nx ρ) ρ)
  (fun ρ => rtD (orV (b2 (gEqA true) (b2 gSubs (nd 1 ρ) (some (.int 0))) (some (.str "undo"))) (b2 gLt (b2 gSubs (nd 1 ρ) (some (.int 1))) (nd 0 ρ)))))
def f_may_stand : List T → Option T := fnD N_may_stand false D_may_stand
abbrev N_is_book : List Str := ["thing", "number", "entry"]
def D_is_book : Env' → Out := (seqD (fun ρ => ifD (orD (asB (b2 (gEqB true) ((consD (nd 0 ρ) (some [])).bind gType) (some (.raw (.ty "dict"))))) (asB (b2 gGt ((consD (nd 0 ρ) (some [])).bind gLen) (some (.int 30)))))
    (fun ρ => rtD (some (.bl false)))
    (fun ρ => .nx ρ) ρ)
  (fun ρ => rtD ((consD (lcD (bdT 2 (bdCons (bdN 1) (bdCons (bdN 2) bdNil))) (fun _ => some true) (fun ρ => (consD (nd 1 ρ) (consD (nd 2 ρ) (some []))).bind f_may_stand) [1, 2] ρ ((dicOf (nd 0 ρ)).map (fun kts => kts.map fun p => .tup [keyT p.1, p.2]))) (some [])).bind gAll)))
def f_is_book : List T → Option T := fnD N_is_book false D_is_book
abbrev N_shown : List Str := ["entry", "part"]
def D_shown : Env' → Out := (fun ρ => rtD (b2 gJoin (some (.str " ")) (lcD (bdN 1) (fun _ => some true) (fun ρ => (consD (nd 1 ρ) (some [])).bind gStr) [1] ρ (itD true (nd 0 ρ)))))
def f_shown : List T → Option T := fnD N_shown false D_shown
abbrev N_written : List Str := ["book", "number"]
def D_written : Env' → Out := (fun ρ => rtD (b2 gJoin (some (.str "\n")) (lcD (bdN 1) (fun _ => some true) (fun ρ => js3 (fmtD (nd 1 ρ)) (some (.str ": ")) (fmtD ((consD (b2 gSubs (nd 0 ρ) (nd 1 ρ)) (some [])).bind f_shown))) [1] ρ (itD true ((consD (nd 0 ρ) (some [])).bind gSorted)))))
def f_written : List T → Option T := fnD N_written false D_written
abbrev N_part_of : List Str := ["word", "figures", "sign"]
def D_part_of : Env' → Out := (seqD (fun ρ => setD true 1 (ifV (asB (b2 gStarts (nd 0 ρ) (some (.str "-")))) (b3 gSl (nd 0 ρ) (asI (some (.int 1))) (some none)) (nd 0 ρ)) ρ)
  (seqD (fun ρ => ifD (orD (asB (b2 (gEqA false) (nd 1 ρ) (some (.str "")))) ((asB ((consD (lcD (bdN 2) (fun _ => some true) (fun ρ => chD gLe gLe (some (.str "0")) (nd 2 ρ) (some (.str "9"))) [2] ρ (itD true (nd 1 ρ))) (some [])).bind gAll)).map (!·)))
    (fun ρ => rtD (nd 0 ρ))
    (fun ρ => .nx ρ) ρ)
  (fun ρ => rtD ((consD (nd 0 ρ) (some [])).bind gIntS))))
def f_part_of : List T → Option T := fnD N_part_of false D_part_of
abbrev N_taken_apart : List Str := ["text", "found", "line", "number", "_", "entry", "word"]
def D_taken_apart : Env' → Out := (seqD (fun ρ => ownD 1 (some (.dic [])) ρ)
  (seqD (fun ρ => forI (bdN 2)
    (seqD (fun ρ => unpD false (bdT 3 (bdCons (bdN 3) (bdCons (bdN 4) (bdCons (bdN 5) bdNil)))) (b2 gPart (nd 2 ρ) (some (.str ": "))) ρ)
  (fun ρ => stD 1 ((consD (lcD (bdN 6) (fun _ => some true) (fun ρ => (consD (nd 6 ρ) (some [])).bind f_part_of) [6] ρ (itD true (b2 gSplit (nd 5 ρ) (some (.str " "))))) (some [])).bind gTuple) ((consD (nd 3 ρ) (some [])).bind f_part_of) ρ)) (itF (b2 gSplit (nd 0 ρ) (some (.str "\n")))) ρ)
  (fun ρ => rtD (nd 1 ρ))))
def f_taken_apart : List T → Option T := fnD N_taken_apart true D_taken_apart
abbrev N_read : List Str := ["text", "book"]
def D_read : Env' → Out := (seqD (fun ρ => ifD (asB (b2 (gEqB true) ((consD (nd 0 ρ) (some [])).bind gType) (some (.raw (.ty "str")))))
    (fun _ => .er)
    (fun ρ => .nx ρ) ρ)
  (seqD (fun ρ => ifD (asB (b2 (gEqA false) (nd 0 ρ) (some (.str ""))))
    (fun ρ => rtD (some (.dic [])))
    (fun ρ => .nx ρ) ρ)
  (seqD (fun ρ => ownD 1 ((consD (nd 0 ρ) (some [])).bind f_taken_apart) ρ)
  (seqD (fun ρ => ifD (orD ((asB ((consD (nd 1 ρ) (some [])).bind f_is_book)).map (!·)) (asB (b2 (gEqA true) ((consD (nd 1 ρ) (some [])).bind f_written) (nd 0 ρ))))
    (fun _ => .er)
    (fun ρ => .nx ρ) ρ)
  (fun ρ => rtD (nd 1 ρ))))))
def f_read : List T → Option T := fnD N_read true D_read
abbrev N__law_alike : List Str := ["_law_found", "_law_due", "_law_one", "_law_other"]
def D__law_alike (f__law_alike : List T → Option T) : Env' → Out := (seqD (fun ρ => ifD (orD (asB ((consD (nd 1 ρ) (consD (some (.raw (.ty "tuple"))) (some []))).bind gIsi)) (asB ((consD (nd 1 ρ) (consD (some (.raw (.ty "list"))) (some []))).bind gIsi)))
    (seqD (fun ρ => ifD (orD (asB (b2 (gEqA true) ((consD (nd 0 ρ) (consD (some (.raw (.ty "list"))) (some []))).bind gIsi) ((consD (nd 1 ρ) (consD (some (.raw (.ty "list"))) (some []))).bind gIsi))) (asB (b2 (gEqA true) ((consD (nd 0 ρ) (consD (some (.raw (.ty "tuple"))) (some []))).bind gIsi) ((consD (nd 1 ρ) (consD (some (.raw (.ty "tuple"))) (some []))).bind gIsi))))
    (fun ρ => rtD (some (.bl false)))
    (fun ρ => .nx ρ) ρ)
  (fun ρ => rtD (andV (b2 (gEqA false) ((consD (nd 0 ρ) (some [])).bind gLen) ((consD (nd 1 ρ) (some [])).bind gLen)) ((consD (lcD (bdT 2 (bdCons (bdN 2) (bdCons (bdN 3) bdNil))) (fun _ => some true) (fun ρ => (consD (nd 2 ρ) (consD (nd 3 ρ) (some []))).bind f__law_alike) [2, 3] ρ (zipI (nd 0 ρ) (nd 1 ρ))) (some [])).bind gAll))))
    (fun ρ => .nx ρ) ρ)
  (fun ρ => rtD (andV (b2 (gEqA false) ((consD (nd 0 ρ) (consD (some (.raw (.ty "bool"))) (some []))).bind gIsi) ((consD (nd 1 ρ) (consD (some (.raw (.ty "bool"))) (some []))).bind gIsi)) (b2 (gEqA false) (nd 0 ρ) (nd 1 ρ)))))
def f__law_alike : Nat → List T → Option T
  | 0 => fun _ => none
  | n + 1 => fnD N__law_alike false (D__law_alike (f__law_alike n))
abbrev N__law_line : List Str := ["_law_entry_here", "_law_found", "_law_part"]
def D__law_line : Env' → Out := (seqD (fun ρ => setD true 1 (b2 gSubs (nd 0 ρ) (some (.int 0))) ρ)
  (seqD (fun ρ => forI (bdN 2)
    (fun ρ => setD true 1 (b2 gAdd (b2 gAdd (nd 1 ρ) (some (.str " "))) ((consD (nd 2 ρ) (some [])).bind gStr)) ρ) (itD true (b3 gSl (nd 0 ρ) (asI (some (.int 1))) (some none))) ρ)
  (fun ρ => rtD (nd 1 ρ))))
def f__law_line : List T → Option T := fnD N__law_line false D__law_line
abbrev N_law : List Str := ["_law_script", "_law_book_here", "_law_kept", "_law_lines", "_law_number", "_law_told", "_law_found", "_law_held", "_law_turn", "_law_back"]
def D_law : Env' → Out := (seqD (fun ρ => setD true 1 ((consD (nd 0 ρ) (consD (some (.int 14)) (some []))).bind f__law_book) ρ)
  (seqD (fun ρ => setD true 2 ((consD (nd 1 ρ) (some [])).bind gDict) ρ)
  (seqD (fun ρ => ownD 3 (lstD (some [])) ρ)
  (seqD (fun ρ => forI (bdN 4)
    (seqD (fun ρ => setD false 5 ((consD (b2 gSubs (nd 1 ρ) (nd 4 ρ)) (some [])).bind f_shown) ρ)
  (seqD (fun ρ => ifD (orD ((asB ((consD (nd 5 ρ) (consD (some (.raw (.ty "str"))) (some []))).bind gIsi)).map (!·)) (asB (b2 (gEqA true) (nd 5 ρ) ((consD (b2 gSubs (nd 1 ρ) (nd 4 ρ)) (some [])).bind f__law_line))))
    (fun ρ => rtD (some (.bl false)))
    (fun ρ => .nx ρ) ρ)
  (fun ρ => appD 3 (b2 gAdd (b2 gAdd ((consD (nd 4 ρ) (some [])).bind gStr) (some (.str ": "))) ((consD (b2 gSubs (nd 1 ρ) (nd 4 ρ)) (some [])).bind f__law_line)) ρ))) (itF ((consD (nd 1 ρ) (some [])).bind gSorted)) ρ)
  (seqD (fun ρ => setD true 6 ((consD (nd 1 ρ) (some [])).bind f_written) ρ)
  (seqD (fun ρ => ifD (orD ((asB ((consD (nd 6 ρ) (consD (some (.raw (.ty "str"))) (some []))).bind gIsi)).map (!·)) (orD (asB (b2 (gEqA true) (nd 6 ρ) (b2 gJoin (some (.str "\n")) (nd 3 ρ)))) (asB (b2 (gEqA true) (nd 1 ρ) (nd 2 ρ)))))
    (fun ρ => rtD (some (.bl false)))
    (fun ρ => .nx ρ) ρ)
  (seqD (fun ρ => ownD 7 (lstD (some [])) ρ)
  (seqD (fun ρ => heldD 7 9 [4] (bdN 8) (fun ρ => (consD (nd 6 ρ) (some [])).bind f_read)
    (seqD (fun ρ => ifD (orD ((asB ((consD (nd 9 ρ) (consD (some (.raw (.ty "dict"))) (some []))).bind gIsi)).map (!·)) (asB (b2 (gEqA true) ((consD (nd 9 ρ) (some [])).bind gSorted) ((consD (nd 1 ρ) (some [])).bind gSorted))))
    (fun ρ => rtD (some (.bl false)))
    (fun ρ => .nx ρ) ρ)
    (fun ρ => forK (fun kts => kts.map fun p => keyT p.1) (bdN 4)
    (fun ρ => ifD (orD (asB ((consD (nd 4 ρ) (consD (some (.raw (.ty "bool"))) (some []))).bind gIsi)) ((asB ((consD (b2 gSubs (nd 9 ρ) (nd 4 ρ)) (consD (b2 gSubs (nd 1 ρ) (nd 4 ρ)) (some []))).bind (f__law_alike 3))).map (!·)))
    (fun ρ => rtD (some (.bl false)))
    (fun ρ => .nx ρ) ρ) (nd 9 ρ) ρ)) (fun ρ => tupD (consD (some (.str "undo")) (consD (nd 8 ρ) (some [])))) (fun ρ => some (.int 999)) (rng1 (some (.int 2))) ρ)
  (fun ρ => rtD (andV (b2 (gEqA false) (nd 1 ρ) (nd 2 ρ)) (b2 (gEqA false) (lcD (bdN 9) (fun _ => some true) (fun ρ => b2 gSubs (nd 9 ρ) (some (.int 999))) [9] ρ (itD true (nd 7 ρ))) (lstD (consD (tupD (consD (some (.str "undo")) (consD (some (.int 0)) (some [])))) (consD (tupD (consD (some (.str "undo")) (consD (some (.int 1)) (some [])))) (some [])))))))))))))))
def f_law : List T → Option T := fnD N_law false D_law
end
end Q
namespace Q
open PySem PySem.Spec L2 DL

/-! ### names, days, worths -/
def isI : T → Bool
  | .int _ => true
  | _ => false
def nameB : T → Bool
  | .str x => decide (1 ≤ x.length) && decide (x.length ≤ 8) && x.cps.toList.all fun c => decide (97 ≤ c) && decide (c ≤ 122)
  | _ => false
def wholeB (lo hi : Int) : T → Bool
  | .int i => decide (lo ≤ i) && decide (i ≤ hi)
  | _ => false
def leB : T → T → Bool
  | .int i, .int j => decide (i ≤ j)
  | _, _ => false
/-- what may stand in an entry here -/
structure Part (t : T) : Prop where
  ok : okN 2 t = true
  str : ∀ x, t = .str x → x.length ≤ 1000
  big : ∀ i, t = .int i → i ≤ 1000000000000000000000000000000
theorem Part.isD {t : T} (h : Part t) : isD t = true := by
  have := h.ok
  simp only [okN, Bool.and_eq_true] at this
  exact this.1
theorem Part.dOk {t : T} (h : Part t) : dOk t = true := dOk_of h.ok
theorem ty_ex {t : T} (h : isD t = true) : ∃ n, tyN t = some n ∧ n ∈ tys := by
  cases t <;> first | exact ⟨_, rfl, by decide⟩ | simp [isD] at h
theorem eqTy_s {a b : String} (ha : a ∈ tys) (hb : b ∈ tys) : gEqB false (.raw (.ty a)) (.raw (.ty b)) = some (.bl (decide (a = b))) := by
  simp [gEqB, gEqTy, ha, hb]
theorem neTy_s {a b : String} (ha : a ∈ tys) (hb : b ∈ tys) : gEqB true (.raw (.ty a)) (.raw (.ty b)) = some (.bl (!decide (a = b))) := by
  simp [gEqB, gNeTy, ha, hb]
theorem ty_int {t : T} {n : String} (h : tyN t = some n) : decide (n = "int") = isI t := by
  cases t <;> cases h <;> first | rfl | decide
theorem whole_is {t : T} (h : isD t = true) : f_is_whole [t] = some (.bl (isI t)) := by
  obtain ⟨n, e, hn⟩ := ty_ex h
  refine w_eq ?_
  show W _ _ _ _ (D_is_whole [some t])
  unfold D_is_whole
  have : gType [t] = some (.raw (.ty n)) := by show (tyN t).map _ = _; rw [e]; rfl
  simp only [nd_zero, cons_some, Option.bind_some, this, b2_some, eqTy_s hn (show "int" ∈ tys by decide), ty_int e, rt_some, w_rt]
def numB : T → Bool
  | .int i => decide (1 ≤ i)
  | _ => false
theorem number_is {t : T} (h : isD t = true) : f_is_number [t] = some (.bl (numB t)) := by
  refine w_eq ?_
  show W _ _ _ _ (D_is_number [some t])
  unfold D_is_number
  simp only [nd_zero, cons_some, Option.bind_some, whole_is h, b2_some]
  cases t with
  | int i => simp [isI, andV, gIb_int, numB]
  | _ => simp [isI, andV, numB]
theorem day_is {t : T} (h : isD t = true) : f_is_day [t] = some (.bl (wholeB 0 1000000 t)) := by
  refine w_eq ?_
  show W _ _ _ _ (D_is_day [some t])
  unfold D_is_day
  simp only [nd_zero, cons_some, Option.bind_some, whole_is h]
  cases t with
  | int i => simp [isI, andV, wholeB]
  | _ => simp [isI, andV, wholeB]
theorem worth_is {t : T} (h : isD t = true) : f_is_worth [t] = some (.bl (wholeB (-1000000000) 1000000000 t)) := by
  refine w_eq ?_
  show W _ _ _ _ (D_is_worth [some t])
  unfold D_is_worth
  simp only [nd_zero, cons_some, Option.bind_some, whole_is h, un1_int]
  cases t with
  | int i => simp [isI, andV, wholeB]
  | _ => simp [isI, andV, wholeB]
/-- one sign beside another -/
theorem sign_lt (a b : Nat) : strLt ⟨#[a]⟩ ⟨#[b]⟩ = decide (a < b) := by
  unfold strLt
  by_cases h : a < b
  · simp [h, List.cons_lt_cons_iff]
  · simp [h, List.cons_lt_cons_iff]
theorem str_a : ("a" : Str) = ⟨#[97]⟩ := by decide +kernel
theorem str_z : ("z" : Str) = ⟨#[122]⟩ := by decide +kernel
theorem sign_az (c : Nat) : chD gLe gLe (some (.str "a")) (some (.str ⟨#[c]⟩)) (some (.str "z")) = some (.bl (decide (97 ≤ c) && decide (c ≤ 122))) := by
  rw [str_a, str_z]
  unfold chD
  simp only [b2_some, gLe, sign_lt]
  by_cases h : c < 97
  · have : ¬ 97 ≤ c := by omega
    simp [h, this]
  · have : 97 ≤ c := by omega
    simp only [h, this, decide_true, decide_false, Bool.not_false, Bool.true_and]
    congr 2
    by_cases q : 122 < c
    · have : ¬ c ≤ 122 := by omega
      simp [q, this]
    · have : c ≤ 122 := by omega
      simp [q, this]
theorem blsOf_map {α : Type} (f : α → Bool) : ∀ xs : List α, blsOf (xs.map fun x => T.bl (f x)) = some (xs.map f)
  | [] => rfl
  | x :: xs => by
    show (blsOf (xs.map fun x => T.bl (f x))).map (f x :: ·) = _
    rw [blsOf_map f xs]; rfl
theorem comp_all {bd : Env' → T → Option Env'} {e : Env' → Option T} {ρ : Env'} {α : Type} (xs : List α) (mk : α → T) (g : α → T) (h : ∀ a ∈ xs, ∃ ρ1, bd ρ (mk a) = some ρ1 ∧ e ρ1 = some (g a)) : compD bd (fun _ => some true) e ρ (xs.map mk) = some (xs.map g) := by
  induction xs with
  | nil => rfl
  | cons a xs ih =>
    obtain ⟨ρ1, h1, h2⟩ := h a (by simp)
    rw [List.map_cons, List.map_cons]
    unfold compD
    rw [h1]
    simp only [h2, ih fun b hb => h b (by simp [hb]), cons_some]
theorem lc_all {bd : Env' → T → Option Env'} {e : Env' → Option T} {ρ : Env'} {α : Type} {vs : List Nat} {o : Option (List T)} (xs : List α) (mk : α → T) (g : α → T) (ho : o = some (xs.map mk)) (hl : xs.length ≤ sizeLine) (h : ∀ a ∈ xs, ∃ ρ1, bd (wipeD ρ vs) (mk a) = some ρ1 ∧ e ρ1 = some (g a)) (hi : ∀ a ∈ xs, imm (g a) = true) :
    lcD bd (fun _ => some true) e vs ρ o = some (.lst (xs.map g)) := by
  subst ho
  have h1 : (xs.map mk).length ≤ sizeLine := by simpa using hl
  have h2 : immL (xs.map g) = true := immL_all fun t ht => by
    obtain ⟨a, ha, rfl⟩ := List.mem_map.mp ht
    exact hi a ha
  simp only [lcD, h1, if_true, comp_all xs mk g h, h2]
theorem signs_map (x : Str) : signs x = x.cps.toList.map fun c => T.str ⟨#[c]⟩ := rfl
theorem all_bls {α : Type} (f : α → Bool) (xs : List α) : gAll [.lst (xs.map fun x => T.bl (f x))] = some (.bl (xs.all f)) := by
  show (blsOf _).map _ = _
  rw [blsOf_map]
  simp [List.all_map]
theorem ty_str {t : T} {n : String} (h : tyN t = some n) : decide (n = "str") = (match t with | .str _ => true | _ => false) := by
  cases t <;> cases h <;> first | rfl | decide
theorem name_is {t : T} (h : isD t = true) (hs : ∀ x, t = .str x → x.length ≤ 1000) : f_is_name [t] = some (.bl (nameB t)) := by
  obtain ⟨n, e, hn⟩ := ty_ex h
  refine w_eq ?_
  show W _ _ _ _ (D_is_name [some t, none])
  unfold D_is_name
  have : gType [t] = some (.raw (.ty n)) := by show (tyN t).map _ = _; rw [e]; rfl
  simp only [w_seq, nd_zero, cons_some, Option.bind_some, this, b2_some, neTy_s hn (show "str" ∈ tys by decide), ty_str e, asB_bl]
  cases t with
  | str x =>
    have hx : x.length ≤ sizeLine := by have := hs x rfl; simp [szl]; omega
    have hl : gLen [.str x] = some (.int x.length) := by simp [gLen, hx]
    simp only [hl, ch_s2, asB_bl, Option.map_some, orD, Bool.not_true]
    refine w_if rfl (fun hc => ?_) (fun hc => ?_)
    · rw [rt_some, w_rt]
      have : nameB (.str x) = false := by
        simp only [Bool.not_eq_true', Bool.and_eq_false_iff, decide_eq_false_iff_not] at hc
        simp only [nameB, Bool.and_eq_false_iff, decide_eq_false_iff_not]
        omega
      rw [this]
    · rw [w_nx]
      have e2 := lc_all (bd := bdN 1) (e := fun ρ => chD gLe gLe (some (.str "a")) (nd 1 ρ) (some (.str "z"))) (ρ := [some (.str x), none]) (vs := [1]) (o := itD true (some (.str x))) x.cps.toList (fun c => T.str ⟨#[c]⟩) (fun c => T.bl (decide (97 ≤ c) && decide (c ≤ 122))) rfl (by simpa [PySem.Str.length] using hx) (fun c _ => ⟨_, rfl, by
        simp only [wipeD, List.set_cons_succ, List.set_cons_zero, nd_succ, nd_zero]
        exact sign_az c⟩) (fun _ _ => imm_bl)
      rw [nd_zero, e2]
      simp only [cons_some, Option.bind_some, all_bls, rt_some, w_rt]
      have h1 : decide (1 ≤ x.length) = true ∧ decide (x.length ≤ 8) = true := by
        simp only [Bool.not_eq_false', Bool.and_eq_true, decide_eq_true_eq] at hc ⊢
        omega
      simp only [nameB, h1.1, h1.2, Bool.true_and]
  | _ => simp [orD, nameB]
theorem days_is {a b : T} (ha : isD a = true) (hb : isD b = true) : f_are_days [a, b] = some (.bl (wholeB 0 1000000 a && (wholeB 0 1000000 b && leB a b))) := by
  refine w_eq ?_
  show W _ _ _ _ (D_are_days [some a, some b])
  unfold D_are_days
  simp only [nd_zero, nd_succ, cons_some, Option.bind_some, day_is ha, day_is hb, b2_some]
  cases a with
  | int i =>
    cases b with
    | int j => cases h1 : wholeB 0 1000000 (.int i) <;> cases h2 : wholeB 0 1000000 (.int j) <;> simp [andV, leB]
    | _ => cases h1 : wholeB 0 1000000 (.int i) <;> simp [andV, wholeB]
  | _ => simp [andV, wholeB]
end Q
namespace Q
open PySem PySem.Spec L2 DL
theorem len5 {α : Type} {ts : List α} (h : ts.length = 5) : ∃ a b c d e, ts = [a, b, c, d, e] := by
  match ts, h with
  | [a, b, c, d, e], _ => exact ⟨a, b, c, d, e, rfl⟩
theorem len4 {α : Type} {ts : List α} (h : ts.length = 4) : ∃ a b c d, ts = [a, b, c, d] := by
  match ts, h with
  | [a, b, c, d], _ => exact ⟨a, b, c, d, rfl⟩
theorem len2 {α : Type} {ts : List α} (h : ts.length = 2) : ∃ a b, ts = [a, b] := by
  match ts, h with
  | [a, b], _ => exact ⟨a, b, rfl⟩
def daysB (a b : T) : Bool := wholeB 0 1000000 a && (wholeB 0 1000000 b && leB a b)
def tellB : List T → Bool
  | [_, a, b, c, d] => nameB a && (daysB b c && wholeB (-1000000000) 1000000000 d)
  | _ => false
def clearB : List T → Bool
  | [_, a, b, c] => nameB a && daysB b c
  | _ => false
def likeB : List T → Bool
  | [_, a, b, c, d] => nameB a && (daysB b c && nameB d)
  | _ => false
def undoB : List T → Bool
  | [_, a] => numB a
  | _ => false
def entOk : T → Bool
  | .tup (.str z :: r) => (decide (z = "tell") && tellB (.str z :: r)) || (decide (z = "clear") && clearB (.str z :: r)) || (decide (z = "like") && likeB (.str z :: r)) || (decide (z = "undo") && undoB (.str z :: r))
  | _ => false
/-- data, with texts that are no longer than a line -/
def Pd (t : T) : Prop := isD t = true ∧ ∀ x, t = .str x → x.length ≤ 1000
theorem Part.pd {t : T} (h : Part t) : Pd t := ⟨h.isD, h.str⟩
@[simp] theorem andV_bl {a b : Bool} : andV (some (.bl a)) (some (.bl b)) = some (.bl (a && b)) := by cases a <;> rfl
theorem andV_bl2 {a : Bool} {b : Option T} : andV (some (.bl a)) b = if a = true then b else some (.bl false) := by cases a <;> rfl
theorem gLen_tup {ts : List T} : gLen [.tup ts] = some (.int ts.length) := rfl
theorem nat_eq {n m : Nat} : decide ((n : Int) = (m : Int)) = decide (n = m) := by
  by_cases h : n = m
  · simp [h]
  · have : ¬ (n : Int) = m := by omega
    simp [h, this]
theorem tell_is {ts : List T} (h : ∀ t ∈ ts, Pd t) : f_is_tell [.tup ts] = some (.bl (tellB ts)) := by
  refine w_eq ?_
  show W _ _ _ _ (D_is_tell [some (.tup ts), none, none, none, none, none])
  unfold D_is_tell
  simp only [w_seq, nd_zero, cons_some, Option.bind_some, gLen_tup, b2_some, gEqA_int, asB_bl]
  refine w_if rfl (fun hc => ?_) (fun hc => ?_)
  · rw [rt_some, w_rt]
    have hl : ts.length ≠ 5 := by simp only [Bool.true_xor, Bool.not_eq_true', decide_eq_false_iff_not] at hc; omega
    unfold tellB
    split
    · exact absurd rfl hl
    · rfl
  · have hl : ts.length = 5 := by simp only [Bool.true_xor, Bool.not_eq_false', decide_eq_true_eq] at hc; omega
    obtain ⟨x, a, b, c, d, rfl⟩ := len5 hl
    simp only [w_nx]
    have ha := h a (by simp); have hb := h b (by simp); have hcc := h c (by simp); have hd := h d (by simp)
    simp only [unpD, nd_zero, Bool.true_or, if_true, bdT, List.length_cons, List.length_nil, bdCons, bdN, bdNil, List.set_cons_succ, List.set_cons_zero, w_nx, nd_succ, cons_some, Option.bind_some, name_is ha.1 ha.2, days_is hb.1 hcc.1, worth_is hd.1, andV_bl, rt_some, w_rt]
    rfl
theorem clear_is {ts : List T} (h : ∀ t ∈ ts, Pd t) : f_is_clear [.tup ts] = some (.bl (clearB ts)) := by
  refine w_eq ?_
  show W _ _ _ _ (D_is_clear [some (.tup ts), none, none, none, none])
  unfold D_is_clear
  simp only [w_seq, nd_zero, cons_some, Option.bind_some, gLen_tup, b2_some, gEqA_int, asB_bl]
  refine w_if rfl (fun hc => ?_) (fun hc => ?_)
  · rw [rt_some, w_rt]
    have hl : ts.length ≠ 4 := by simp only [Bool.true_xor, Bool.not_eq_true', decide_eq_false_iff_not] at hc; omega
    unfold clearB
    split
    · exact absurd rfl hl
    · rfl
  · have hl : ts.length = 4 := by simp only [Bool.true_xor, Bool.not_eq_false', decide_eq_true_eq] at hc; omega
    obtain ⟨x, a, b, c, rfl⟩ := len4 hl
    simp only [w_nx]
    have ha := h a (by simp); have hb := h b (by simp); have hcc := h c (by simp)
    simp only [unpD, nd_zero, Bool.true_or, if_true, bdT, List.length_cons, List.length_nil, bdCons, bdN, bdNil, List.set_cons_succ, List.set_cons_zero, w_nx, nd_succ, cons_some, Option.bind_some, name_is ha.1 ha.2, days_is hb.1 hcc.1, andV_bl, rt_some, w_rt]
    rfl
theorem like_is {ts : List T} (h : ∀ t ∈ ts, Pd t) : f_is_like [.tup ts] = some (.bl (likeB ts)) := by
  refine w_eq ?_
  show W _ _ _ _ (D_is_like [some (.tup ts), none, none, none, none, none])
  unfold D_is_like
  simp only [w_seq, nd_zero, cons_some, Option.bind_some, gLen_tup, b2_some, gEqA_int, asB_bl]
  refine w_if rfl (fun hc => ?_) (fun hc => ?_)
  · rw [rt_some, w_rt]
    have hl : ts.length ≠ 5 := by simp only [Bool.true_xor, Bool.not_eq_true', decide_eq_false_iff_not] at hc; omega
    unfold likeB
    split
    · exact absurd rfl hl
    · rfl
  · have hl : ts.length = 5 := by simp only [Bool.true_xor, Bool.not_eq_false', decide_eq_true_eq] at hc; omega
    obtain ⟨x, a, b, c, d, rfl⟩ := len5 hl
    simp only [w_nx]
    have ha := h a (by simp); have hb := h b (by simp); have hcc := h c (by simp); have hd := h d (by simp)
    simp only [unpD, nd_zero, Bool.true_or, if_true, bdT, List.length_cons, List.length_nil, bdCons, bdN, bdNil, List.set_cons_succ, List.set_cons_zero, w_nx, nd_succ, cons_some, Option.bind_some, name_is ha.1 ha.2, name_is hd.1 hd.2, days_is hb.1 hcc.1, andV_bl, rt_some, w_rt]
    rfl
theorem undo_is {ts : List T} (h : ∀ t ∈ ts, Pd t) : f_is_undo [.tup ts] = some (.bl (undoB ts)) := by
  refine w_eq ?_
  show W _ _ _ _ (D_is_undo [some (.tup ts)])
  unfold D_is_undo
  simp only [nd_zero, cons_some, Option.bind_some, gLen_tup, b2_some, gEqA_int, Bool.false_xor]
  by_cases hl : ts.length = 2
  · obtain ⟨x, a, rfl⟩ := len2 hl
    have ha := h a (by simp)
    have e1 : gSubs (.tup [x, a]) (.int 1) = some a := rfl
    simp only [e1, cons_some, Option.bind_some, number_is ha.1]
    show W _ _ _ _ (rtD (andV (some (.bl true)) _)) 
    simp only [andV_bl, Bool.true_and, rt_some, w_rt]
    rfl
  · have : decide ((ts.length : Int) = 2) = false := by simp; omega
    rw [this]
    simp only [andV, rt_some, w_rt]
    unfold undoB
    split
    · exact absurd rfl hl
    · rfl
theorem forms_none {z : Str} (h : formsF z = none) : z ≠ "tell" ∧ z ≠ "clear" ∧ z ≠ "like" ∧ z ≠ "undo" := by
  unfold formsF at h
  split at h
  · cases h
  · split at h
    · cases h
    · split at h
      · cases h
      · split at h
        · cases h
        · exact ⟨by assumption, by assumption, by assumption, by assumption⟩
theorem entry_is {t : T} (h : Pd t) (hp : ∀ ts, t = .tup ts → ∀ x ∈ ts, Pd x) : f_is_entry [t] = some (.bl (entOk t)) := by
  cases t with
  | tup ts =>
    have hp := hp ts rfl
    cases ts with
    | nil => rfl
    | cons x r =>
      cases x with
      | str z =>
        show (match formsF z with | some φ => φ [.tup (.str z :: r)] | none => some (.bl false)) = _
        cases e : formsF z with
        | none =>
          obtain ⟨h1, h2, h3, h4⟩ := forms_none e
          simp [entOk, h1, h2, h3, h4]
        | some φ =>
          unfold formsF at e
          split at e
          · rename_i hz; cases e; subst hz
            simp [tell_is hp, entOk, show ¬ ("tell" : Str) = "clear" by decide +kernel, show ¬ ("tell" : Str) = "like" by decide +kernel, show ¬ ("tell" : Str) = "undo" by decide +kernel]
          · split at e
            · rename_i hz; cases e; subst hz
              simp [clear_is hp, entOk, show ¬ ("clear" : Str) = "tell" by decide +kernel, show ¬ ("clear" : Str) = "like" by decide +kernel, show ¬ ("clear" : Str) = "undo" by decide +kernel]
            · split at e
              · rename_i hz; cases e; subst hz
                simp [like_is hp, entOk, show ¬ ("like" : Str) = "clear" by decide +kernel, show ¬ ("like" : Str) = "tell" by decide +kernel, show ¬ ("like" : Str) = "undo" by decide +kernel]
              · split at e
                · rename_i hz; cases e; subst hz
                  simp [undo_is hp, entOk, show ¬ ("undo" : Str) = "clear" by decide +kernel, show ¬ ("undo" : Str) = "like" by decide +kernel, show ¬ ("undo" : Str) = "tell" by decide +kernel]
                · cases e
      | raw v => have := (hp (.raw v) (by simp)).1; simp [isD] at this
      | clo v => have := (hp (.clo v) (by simp)).1; simp [isD] at this
      | _ => rfl
  | raw v => have := h.1; simp [isD] at this
  | clo v => have := h.1; simp [isD] at this
  | _ => rfl
/-! ### the call of the form -/
section
variable {K : PySem.W.Frag} {mg : Str → Option Value} {base : Heap} {P : Program} {w : World} {j1 j2 j3 j4 m : Nat} {f1 f2 f3 f4 : Addr}
theorem cla_mono {sp : L2.Sp} {j k : Nat} {f : Addr} (c : ClA P w K mg base j f sp) (h : j ≤ k) : ClA P w K mg base k f sp := by
  obtain ⟨fd, ps, F, kp, b⟩ := c.ex
  exact ⟨fd, ps, F.mono h, kp, b⟩
theorem lookup4 {n1 n2 n3 n4 z : Str} {f : Addr} (h : (tab4 n1 n2 n3 n4 f1 f2 f3 f4).lookup z = some f) : (z = n1 ∧ f = f1) ∨ (z = n2 ∧ f = f2) ∨ (z = n3 ∧ f = f3) ∨ (z = n4 ∧ f = f4) := by
  unfold tab4 at h
  simp only [List.lookup] at h
  split at h
  · rename_i e; cases h; exact .inl ⟨by simpa using e, rfl⟩
  · split at h
    · rename_i e; cases h; exact .inr (.inl ⟨by simpa using e, rfl⟩)
    · split at h
      · rename_i e; cases h; exact .inr (.inr (.inl ⟨by simpa using e, rfl⟩))
      · split at h
        · rename_i e; cases h; exact .inr (.inr (.inr ⟨by simpa using e, rfl⟩))
        · cases h
theorem forms_cl (c1 : Cl P w K mg base j1 "is_tell" (spD K 1 false f_is_tell)) (c2 : Cl P w K mg base j2 "is_clear" (spD K 1 false f_is_clear)) (c3 : Cl P w K mg base j3 "is_like" (spD K 1 false f_is_like)) (c4 : Cl P w K mg base j4 "is_undo" (spD K 1 false f_is_undo))
    (g1 : mg "is_tell" = some (.ref f1)) (g2 : mg "is_clear" = some (.ref f2)) (g3 : mg "is_like" = some (.ref f3)) (g4 : mg "is_undo" = some (.ref f4)) (h1 : j1 ≤ m := by decide) (h2 : j2 ≤ m := by decide) (h3 : j3 ≤ m := by decide) (h4 : j4 ≤ m := by decide) :
    ∀ z f φ, (tab4 "tell" "clear" "like" "undo" f1 f2 f3 f4).lookup z = some f → formsF z = some φ → ClA P w K mg base m f (spD K 1 false φ) := by
  intro z f φ h e
  rcases lookup4 h with ⟨rfl, rfl⟩ | ⟨rfl, rfl⟩ | ⟨rfl, rfl⟩ | ⟨rfl, rfl⟩
  · have : formsF "tell" = some f_is_tell := rfl
    rw [this] at e; cases e; exact cla_mono (c1.at_ g1) h1
  · have : formsF "clear" = some f_is_clear := by unfold formsF; rw [if_neg (by decide +kernel), if_pos rfl]
    rw [this] at e; cases e; exact cla_mono (c2.at_ g2) h2
  · have : formsF "like" = some f_is_like := by unfold formsF; rw [if_neg (by decide +kernel), if_neg (by decide +kernel), if_pos rfl]
    rw [this] at e; cases e; exact cla_mono (c3.at_ g3) h3
  · have : formsF "undo" = some f_is_undo := by unfold formsF; rw [if_neg (by decide +kernel), if_neg (by decide +kernel), if_neg (by decide +kernel), if_pos rfl]
    rw [this] at e; cases e; exact cla_mono (c4.at_ g4) h4
end
theorem tab_some {f1 f2 f3 f4 : Addr} {z : Str} {φ : List T → Option T} (h : formsF z = some φ) : ∃ f, (tab4 "tell" "clear" "like" "undo" f1 f2 f3 f4).lookup z = some f := by
  unfold formsF at h
  unfold tab4
  split at h
  · rename_i e; subst e; exact ⟨f1, by simp [List.lookup]⟩
  · rename_i n1
    split at h
    · rename_i e; subst e; exact ⟨f2, by simp [List.lookup, beq_eq_false_iff_ne.mpr n1]⟩
    · rename_i n2
      split at h
      · rename_i e; subst e; exact ⟨f3, by simp [List.lookup, beq_eq_false_iff_ne.mpr n1, beq_eq_false_iff_ne.mpr n2]⟩
      · rename_i n3
        split at h
        · rename_i e; subst e; exact ⟨f4, by simp [List.lookup, beq_eq_false_iff_ne.mpr n1, beq_eq_false_iff_ne.mpr n2, beq_eq_false_iff_ne.mpr n3]⟩
        · cases h
theorem tab_none {f1 f2 f3 f4 : Addr} {z : Str} (h : formsF z = none) : (tab4 "tell" "clear" "like" "undo" f1 f2 f3 f4).lookup z = none := by
  obtain ⟨h1, h2, h3, h4⟩ := forms_none h
  simp [tab4, List.lookup, beq_eq_false_iff_ne.mpr h1, beq_eq_false_iff_ne.mpr h2, beq_eq_false_iff_ne.mpr h3, beq_eq_false_iff_ne.mpr h4]
theorem is_entry_ref {dF f1 f2 f3 f4 : Addr} (ts : List T) (hl : ts.length = 1) (τ : T) (h : f_is_entry ts = some τ) : fnD N_is_entry false (D_is_entry dF (tab4 "tell" "clear" "like" "undo" f1 f2 f3 f4)) ts = some τ := by
  match ts, hl with
  | [t], _ =>
    refine w_eq ?_
    show W _ _ _ _ (D_is_entry dF _ [some t, none, none])
    unfold D_is_entry
    have ty : ∀ n, tyN t = some n → n ≠ "tuple" → τ = .bl false → W (fun _ => False) (fun _ => False) (fun _ => False) (fun x => x = τ) (D_is_entry dF (tab4 "tell" "clear" "like" "undo" f1 f2 f3 f4) [some t, none, none]) := fun n e hn ht => by
      unfold D_is_entry
      have hg : gType [t] = some (.raw (.ty n)) := by show (tyN t).map _ = _; rw [e]; rfl
      have hd : decide (n = "tuple") = false := by simp [hn]
      simp only [w_seq, nd_zero, cons_some, Option.bind_some, hg, b2_some, neTy_s (tyN_tys e) (show "tuple" ∈ tys by decide), hd, asB_bl, Bool.not_false, orD]
      refine w_if rfl (fun _ => ?_) (fun h => by cases h)
      rw [rt_some, w_rt, ht]
    cases t with
    | raw v => cases h
    | clo v => cases h
    | non => exact ty _ rfl (by decide) (by cases h; rfl)
    | bl b => exact ty _ rfl (by decide) (by cases h; rfl)
    | int b => exact ty _ rfl (by decide) (by cases h; rfl)
    | str b => exact ty _ rfl (by decide) (by cases h; rfl)
    | scr b => exact ty _ rfl (by decide) (by cases h; rfl)
    | lst b => exact ty _ rfl (by decide) (by cases h; rfl)
    | dic b => exact ty _ rfl (by decide) (by cases h; rfl)
    | tup ts =>
      have hg : gType [.tup ts] = some (.raw (.ty "tuple")) := rfl
      simp only [w_seq, nd_zero, nd_succ, cons_some, Option.bind_some, hg, b2_some, neTy_s (show "tuple" ∈ tys by decide) (show "tuple" ∈ tys by decide), decide_true, asB_bl, Bool.not_true, orD, gLen_tup, gEqA_int]
      cases ts with
      | nil =>
        cases h
        refine w_if rfl (fun _ => ?_) (fun h => by simp at h)
        rw [rt_some, w_rt]
      | cons x r =>
        refine w_if rfl (fun h => by simp at h <;> omega) (fun _ => ?_)
        have e0 : gSubs (.tup (x :: r)) (.int 0) = some x := by
          rw [subs_tup (by omega) (by simp)]; rfl
        rw [w_nx]
        simp only [nd_zero, e0, b2_some, set_im, w_nx, List.set_cons_succ, List.set_cons_zero]
        simp only [nd_succ, nd_zero, cons_some, Option.bind_some]
        have tyx : ∀ n, tyN x = some n → n ≠ "str" → τ = .bl false → W (fun ρ' => W (fun ρ' => W (fun _ => False) (fun _ => False) (fun _ => False) (fun x => x = τ) (rtD (fitD (tab4 "tell" "clear" "like" "undo" f1 f2 f3 f4) formsF (nd 1 ρ') (nd 2 ρ') (consD (nd 0 ρ') (some []))))) (fun _ => False) (fun _ => False) (fun x => x = τ) (setD true 2 (b2 (gItemK dF (tab4 "tell" "clear" "like" "undo" f1 f2 f3 f4)) (some (.raw (.ref dF))) (nd 1 ρ')) ρ')) (fun _ => False) (fun _ => False) (fun x => x = τ)
            (ifD (orD (asB (b2 (gEqB true) (gType [x]) (some (.raw (.ty "str"))))) (asB (b2 (gNotInK dF (tab4 "tell" "clear" "like" "undo" f1 f2 f3 f4)) (some x) (some (.raw (.ref dF)))))) (fun ρ => rtD (some (.bl false))) (fun ρ => .nx ρ) [some (.tup (x :: r)), some x, none]) := fun n e hn ht => by
          have hg : gType [x] = some (.raw (.ty n)) := by show (tyN x).map _ = _; rw [e]; rfl
          have hd : decide (n = "str") = false := by simp [hn]
          simp only [hg, b2_some, neTy_s (tyN_tys e) (show "str" ∈ tys by decide), hd, asB_bl, Bool.not_false, orD]
          refine w_if rfl (fun _ => ?_) (fun h => by cases h)
          rw [rt_some, w_rt, ht]
        cases x with
        | raw v => cases h
        | clo v => cases h
        | non => exact tyx _ rfl (by decide) (by cases h; rfl)
        | bl b => exact tyx _ rfl (by decide) (by cases h; rfl)
        | int b => exact tyx _ rfl (by decide) (by cases h; rfl)
        | scr b => exact tyx _ rfl (by decide) (by cases h; rfl)
        | lst b => exact tyx _ rfl (by decide) (by cases h; rfl)
        | tup b => exact tyx _ rfl (by decide) (by cases h; rfl)
        | dic b => exact tyx _ rfl (by decide) (by cases h; rfl)
        | str z =>
          have hg : gType [.str z] = some (.raw (.ty "str")) := rfl
          simp only [hg, b2_some, neTy_s (show "str" ∈ tys by decide) (show "str" ∈ tys by decide), decide_true, asB_bl, Bool.not_true, orD, gNotInK, if_true]
          have h : (match formsF z with | some φ => φ [.tup (.str z :: r)] | none => some (.bl false)) = some τ := h
          cases e : formsF z with
          | none =>
            rw [e] at h
            cases h
            rw [tab_none e]
            refine w_if rfl (fun _ => ?_) (fun h => by cases h)
            rw [rt_some, w_rt]
          | some φ =>
            rw [e] at h
            obtain ⟨f, hf⟩ := tab_some (f1 := f1) (f2 := f2) (f3 := f3) (f4 := f4) e
            rw [hf]
            refine w_if rfl (fun h => by cases h) (fun _ => ?_)
            simp only [w_nx, nd_zero, nd_succ, b2_some, gItemK, if_true, hf, Option.map_some, set_im, List.set_cons_succ, List.set_cons_zero, fitD, e, Option.bind_some, cons_some, h, rt_some, w_rt]
end Q
namespace Q
open PySem PySem.Spec L2 DL
theorem pd_int {i : Int} : Pd (.int i) := ⟨rfl, fun x e => by cases e⟩
theorem pd_str {x : Str} (h : PyData.strOk x = true) (hl : x.length ≤ 1000) : Pd (.str x) := ⟨by simp [isD, h], fun y e => by cases e; exact hl⟩
theorem pd_name {x : Str} (h : Name x) : Pd (.str x) := pd_str h.ok (by obtain ⟨n, _, h2, hl⟩ := h; rw [hl.len]; omega)
theorem isDs_pd : ∀ {l : List T}, (∀ x ∈ l, Pd x) → isDs l = true
  | [], _ => rfl
  | x :: l, h => by
    show (isD x && isDs l) = true
    rw [(h x (by simp)).1, isDs_pd fun y m => h y (by simp [m])]; rfl
theorem pd_tup {l : List T} (h : ∀ x ∈ l, Pd x) : Pd (.tup l) := ⟨isDs_pd h, fun y e => by cases e⟩
theorem nameB_of {x : Str} (h : Name x) : nameB (.str x) = true := by
  obtain ⟨n, h1, h2, h3⟩ := h
  have hl := h3.len
  unfold nameB
  rw [Bool.and_eq_true, Bool.and_eq_true, List.all_eq_true]
  refine ⟨⟨by simp; omega, by simp; omega⟩, fun c hc => ?_⟩
  have := h3.2 c hc
  simp; omega
def parts : Ent → List T
  | .tell x lo hi w => [.str "tell", .str x, .int lo, .int hi, .int w]
  | .clear x lo hi => [.str "clear", .str x, .int lo, .int hi]
  | .like x lo hi y => [.str "like", .str x, .int lo, .int hi, .str y]
  | .undo k => [.str "undo", .int k]
theorem enc_parts (e : Ent) : encE e = .tup (parts e) := by cases e <;> rfl
structure GoodE (n : Int) (e : Ent) : Prop where
  pos : 1 ≤ n
  pd : ∀ x ∈ parts e, Pd x
  ok : entOk (encE e) = true
  below : belowE n e
  d : okN 1 (encE e) = true
theorem pd_w {x : Str} (h : PyData.strOk x = true := by decide +kernel) (hl : x.length ≤ 1000 := by decide +kernel) : Pd (.str x) := pd_str h hl
theorem GoodE.of {n : Int} {e : Ent} (h1 : 1 ≤ n) (h : okE e) (hb : belowE n e) : GoodE n e := by
  refine ⟨h1, ?_, ?_, hb, okE_d h⟩
  · cases e with
    | tell x lo hi w =>
      intro t m
      simp only [parts, List.mem_cons, List.not_mem_nil, or_false] at m
      rcases m with rfl | rfl | rfl | rfl | rfl
      · exact pd_w
      · exact pd_name h.1
      all_goals exact pd_int
    | clear x lo hi =>
      intro t m
      simp only [parts, List.mem_cons, List.not_mem_nil, or_false] at m
      rcases m with rfl | rfl | rfl | rfl
      · exact pd_w
      · exact pd_name h.1
      all_goals exact pd_int
    | like x lo hi y =>
      intro t m
      simp only [parts, List.mem_cons, List.not_mem_nil, or_false] at m
      rcases m with rfl | rfl | rfl | rfl | rfl
      · exact pd_w
      · exact pd_name h.1
      · exact pd_int
      · exact pd_int
      · exact pd_name h.2.2.2.2
    | undo k =>
      intro t m
      simp only [parts, List.mem_cons, List.not_mem_nil, or_false] at m
      rcases m with rfl | rfl
      · exact pd_w
      · exact pd_int
  · cases e with
    | tell x lo hi w =>
      obtain ⟨a, b, c, d, e, f⟩ := h
      simp [encE, entOk, tellB, nameB_of a, daysB, wholeB, leB]
      omega
    | clear x lo hi =>
      obtain ⟨a, b, c, d⟩ := h
      have : ¬ ("clear" : Str) = "tell" := by decide +kernel
      simp [encE, entOk, clearB, nameB_of a, daysB, wholeB, leB]
      omega
    | like x lo hi y =>
      obtain ⟨a, b, c, d, e⟩ := h
      simp [encE, entOk, likeB, nameB_of a, nameB_of e, daysB, wholeB, leB]
      omega
    | undo k =>
      have h : 1 ≤ k := h
      simp [encE, entOk, undoB, numB, h]
theorem str_ne {neg : Bool} {a b : Str} (n : ¬ a = b) (ha : PyData.strOk a = true := by decide +kernel) (hb : PyData.strOk b = true := by decide +kernel) : gEqA neg (.str a) (.str b) = some (.bl (xor neg false)) := by
  rw [gEqA_str ha hb, decide_eq_false n]
theorem str_eq {neg : Bool} {a : Str} (ha : PyData.strOk a = true := by decide +kernel) : gEqA neg (.str a) (.str a) = some (.bl (xor neg true)) := by
  rw [gEqA_str ha ha, decide_eq_true rfl]
theorem may_at {n : Int} {e : Ent} (h1 : 1 ≤ n) (pd : ∀ x ∈ parts e, Pd x) (ok : entOk (encE e) = true) : f_may_stand [.int n, encE e] = some (.bl (match e with | .undo k => decide (k < n) | _ => true)) := by
  refine w_eq ?_
  show W _ _ _ _ (D_may_stand [some (.int n), some (encE e)])
  unfold D_may_stand
  have hn : f_is_number [.int n] = some (.bl true) := by
    rw [number_is rfl]
    simp [numB, h1]
  have he : f_is_entry [encE e] = some (.bl true) := by
    rw [entry_is (by rw [enc_parts]; exact pd_tup pd) (fun ts ets x m => by rw [enc_parts] at ets; cases ets; exact pd x m), ok]
  simp only [w_seq, nd_zero, nd_succ, cons_some, Option.bind_some, hn, he, asB_bl, Option.map_some, Bool.not_true, orD]
  refine w_if rfl (fun hc => by cases hc) (fun _ => ?_)
  rw [w_nx]
  cases e with
  | tell x lo hi w =>
    have e0 : gSubs (encE (.tell x lo hi w)) (.int 0) = some (.str "tell") := rfl
    simp only [nd_succ, nd_zero, b2_some, e0, str_ne (show ¬ ("tell" : Str) = "undo" by decide +kernel), orV, Bool.xor_false, rt_some, w_rt]
  | clear x lo hi =>
    have e0 : gSubs (encE (.clear x lo hi)) (.int 0) = some (.str "clear") := rfl
    simp only [nd_succ, nd_zero, b2_some, e0, str_ne (show ¬ ("clear" : Str) = "undo" by decide +kernel), orV, Bool.xor_false, rt_some, w_rt]
  | like x lo hi y =>
    have e0 : gSubs (encE (.like x lo hi y)) (.int 0) = some (.str "like") := rfl
    simp only [nd_succ, nd_zero, b2_some, e0, str_ne (show ¬ ("like" : Str) = "undo" by decide +kernel), orV, Bool.xor_false, rt_some, w_rt]
  | undo k =>
    have e0 : gSubs (encE (.undo k)) (.int 0) = some (.str "undo") := rfl
    have e1 : gSubs (encE (.undo k)) (.int 1) = some (.int k) := rfl
    simp only [nd_succ, nd_zero, b2_some, e0, e1, (str_eq : gEqA true (.str "undo") (.str "undo") = _), orV, Bool.xor_true, Bool.not_true, gLt_int, rt_some, w_rt]
theorem may_good {n : Int} {e : Ent} (h : GoodE n e) : f_may_stand [.int n, encE e] = some (.bl true) := by
  rw [may_at h.pos h.pd h.ok]
  cases e with
  | undo k =>
    have : k < n := h.below
    simp [this]
  | _ => rfl
/-- no number, or no entry -/
theorem may_no {t x : T} (ht : isD t = true) (h : numB t = false ∨ (Pd x ∧ (∀ ts, x = .tup ts → ∀ y ∈ ts, Pd y) ∧ entOk x = false)) : f_may_stand [t, x] = some (.bl false) := by
  refine w_eq ?_
  show W _ _ _ _ (D_may_stand [some t, some x])
  unfold D_may_stand
  simp only [w_seq, nd_zero, nd_succ, cons_some, Option.bind_some, number_is ht, asB_bl, Option.map_some]
  cases hn : numB t with
  | false =>
    refine w_if (x := true) rfl (fun _ => ?_) (fun hc => by cases hc)
    rw [rt_some, w_rt]
  | true =>
    rcases h with h | ⟨h1, h2, h3⟩
    · rw [hn] at h; cases h
    · refine w_if (x := true) ?_ (fun _ => ?_) (fun hc => by cases hc)
      · simp only [Bool.not_true, orD, entry_is h1 h2, h3, asB_bl, Option.map_some, Bool.not_false]
      · rw [rt_some, w_rt]
end Q
/-! The texts of entries and books. -/
namespace Q
open PySem PySem.Spec L2 DL TL
abbrev sI (i : Int) : Str := Str.ofString (toString i)
theorem tl_sI (i : Int) : tl (sI i) = if i < 0 then 45 :: numL i.natAbs else numL i.natAbs := by
  cases i with
  | ofNat n =>
    rw [if_neg (by simp)]
    exact tl_num n
  | negSucc n =>
    rw [if_pos (by omega)]
    have e : toString (Int.negSucc n) = "-" ++ toString (((n + 1 : Nat)) : Int) := rfl
    show tl (Str.ofString (toString (Int.negSucc n))) = _
    rw [e, tl_ofString, String.toList_append, List.map_append, ← tl_ofString (toString (((n + 1 : Nat)) : Int)), tl_num]
    rfl
theorem numL_le {n : Nat} (h : n < 10000000000) : (numL n).length ≤ 10 := numL_len (k := 10) (by decide) (by simpa using h)
theorem sI_len {i : Int} (h0 : -1000000000 ≤ i) (h1 : i ≤ 1000000000) : (sI i).length ≤ 11 := by
  rw [len_tl, tl_sI]
  have := numL_le (n := i.natAbs) (by omega)
  split
  · simp; omega
  · omega
theorem log_le {i : Int} (h0 : -1000000000 ≤ i) (h1 : i ≤ 1000000000) : i.natAbs.log2 < 1920 := by
  by_cases hz : i.natAbs = 0
  · rw [hz]; decide
  · have h2 : i.natAbs < 2 ^ 30 := by
      have : (2 : Nat) ^ 30 = 1073741824 := by decide
      omega
    have := (Nat.log2_lt hz).mpr h2
    omega
/-- what stands in an entry -/
def PP (t : T) : Prop := (∃ x n, t = .str x ∧ Lets n x ∧ 1 ≤ n ∧ n ≤ 8) ∨ ∃ i : Int, t = .int i ∧ -1000000000 ≤ i ∧ i ≤ 1000000000
def ptx : T → Str
  | .str x => x
  | .int i => sI i
  | _ => Str.empty
def Plain (c : Nat) : Prop := c = 45 ∨ (48 ≤ c ∧ c ≤ 57) ∨ (97 ≤ c ∧ c ≤ 122)
theorem sI_plain (i : Int) : ∀ c ∈ tl (sI i), Plain c := by
  intro c hc
  rw [tl_sI] at hc
  split at hc
  · rcases List.mem_cons.mp hc with rfl | hc
    · exact .inl rfl
    · exact .inr (.inl (numL_digits _ c hc))
  · exact .inr (.inl (numL_digits _ c hc))
theorem PP.plain {t : T} (h : PP t) : ∀ c ∈ tl (ptx t), Plain c := by
  rcases h with ⟨x, n, rfl, hx, _, _⟩ | ⟨i, rfl, _, _⟩
  · exact fun c hc => .inr (.inr (hx.2 c hc))
  · exact sI_plain i
theorem PP.len {t : T} (h : PP t) : (ptx t).length ≤ 11 := by
  rcases h with ⟨x, n, rfl, hx, _, h8⟩ | ⟨i, rfl, h0, h1⟩
  · show x.length ≤ 11
    rw [hx.len]; omega
  · exact sI_len h0 h1
theorem PP.str {t : T} (h : PP t) : gStr [t] = some (.str (ptx t)) := by
  rcases h with ⟨x, n, rfl, hx, _, h8⟩ | ⟨i, rfl, h0, h1⟩
  · have : x.length ≤ sizeLine := by rw [hx.len]; simp [szl]; omega
    simp [gStr, strT, this, ptx]
  · show (strT (.int i)).map T.str = _
    unfold strT
    simp only [log_le h0 h1, if_true]
    rfl
theorem PP.fmt {t : T} (h : PP t) : fmtD (some t) = some (.str (ptx t)) := h.str
theorem ok_of_plain {x : Str} (h : ∀ c ∈ tl x, c < 1114112) : PyData.strOk x = true := by
  unfold PyData.strOk
  rw [← Array.all_toList, List.all_eq_true]
  intro c hc
  have := h c hc
  simp; omega
theorem Plain.lt {c : Nat} (h : Plain c) : c < 1114112 := by rcases h with h | h | h <;> omega
/-! ### the parts read back -/
theorem str_0 : ("0" : Str) = ⟨#[48]⟩ := by decide +kernel
theorem str_9 : ("9" : Str) = ⟨#[57]⟩ := by decide +kernel
theorem sign_09 (c : Nat) : chD gLe gLe (some (.str "0")) (some (.str ⟨#[c]⟩)) (some (.str "9")) = some (.bl (decide (48 ≤ c) && decide (c ≤ 57))) := by
  rw [str_0, str_9]
  unfold chD
  simp only [b2_some, gLe, sign_lt]
  by_cases h : c < 48
  · have : ¬ 48 ≤ c := by omega
    simp [h, this]
  · have : 48 ≤ c := by omega
    simp only [h, this, decide_true, decide_false, Bool.not_false, Bool.true_and]
    congr 2
    by_cases q : 57 < c
    · have : ¬ c ≤ 57 := by omega
      simp [q, this]
    · have : c ≤ 57 := by omega
      simp [q, this]
theorem tl_minus : tl ("-" : Str) = [45] := by decide +kernel
theorem starts_minus (x : Str) : Txt.startswith x "-" = decide ((tl x).head? = some 45) := by
  have h := at_iff (x := x) (y := ("-" : Str)) (by rw [tl_minus]; simp) 0
  have e : Txt.startswith x "-" = true ↔ StrLaws.At x "-" x.length 0 := by
    unfold Txt.startswith StrLaws.At
    simp
  rw [Bool.eq_iff_iff, e, h, tl_minus, List.drop_zero]
  unfold pre
  cases tl x with
  | nil => simp
  | cons c r => simp
def digB (x : Str) : Bool := (tl x).all fun c => decide (48 ≤ c) && decide (c ≤ 57)
theorem digs_lc {x : Str} {w : T} {f : Option T} (h : x.length ≤ 1000) : (consD (lcD (bdN 2) (fun _ => some true) (fun ρ => chD gLe gLe (some (.str "0")) (nd 2 ρ) (some (.str "9"))) [2] [some w, f, none] (itD true (some (.str x)))) (some [])).bind gAll = some (.bl (digB x)) := by
  have hx : x.cps.toList.length ≤ sizeLine := by
    have : x.cps.toList.length = x.length := (len_tl x).symm
    rw [this]; simp [szl]; omega
  have e2 := lc_all (bd := bdN 2) (e := fun ρ => chD gLe gLe (some (.str "0")) (nd 2 ρ) (some (.str "9"))) (ρ := [some w, f, none]) (vs := [2]) (o := itD true (some (.str x))) x.cps.toList (fun c => T.str ⟨#[c]⟩) (fun c => T.bl (decide (48 ≤ c) && decide (c ≤ 57))) rfl hx (fun c _ => ⟨_, rfl, by
        simp only [wipeD, List.set_cons_succ, List.set_cons_zero, nd_succ, nd_zero]
        exact sign_09 c⟩) (fun _ _ => imm_bl)
  rw [e2]
  simp only [cons_some, Option.bind_some, all_bls]
  rfl
theorem cut1 {w : Str} (h : (tl w).head? = some 45) : cutS w (some 1) none = ⟨((tl w).drop 1).toArray⟩ := by
  have hn : 1 ≤ w.length := by
    rw [len_tl]
    cases e : tl w with
    | nil => rw [e] at h; cases h
    | cons c r => simp
  unfold cutS
  have e1 : HT.sIx w.length 0 (some 1) = 1 := by rw [sIx_some (by omega)]; simp; omega
  have e2 : HT.sIx w.length w.length none = w.length := rfl
  rw [e1, e2]
  congr 2
  refine List.take_of_length_le ?_
  rw [List.length_drop, ← len_tl]
  exact Nat.le_refl _
/-- what part_of makes -/
theorem part_eq {w x : Str} (hw : w.length ≤ 600) (hok : ∀ c ∈ tl w, c < 1114112) (hx : x = if (tl w).head? = some 45 then (⟨((tl w).drop 1).toArray⟩ : Str) else w) :
    f_part_of [.str w] = if x ≠ Str.empty ∧ digB x = true then (PySem.intText? w).map T.int else some (.str w) := by
  have hxl : x.length ≤ 600 := by
    subst hx
    split
    · rw [len_tl, tl_mk, List.length_drop, ← len_tl]; omega
    · exact hw
  have hxo : PyData.strOk x = true := by
    subst hx
    split
    · exact ok_of_plain fun c hc => hok c (List.mem_of_mem_drop hc)
    · exact ok_of_plain hok
  have s1 : ifV (asB (b2 gStarts (some (.str w)) (some (.str "-")))) (b3 gSl (some (.str w)) (asI (some (.int 1))) (some none)) (some (.str w)) = some (.str x) := by
    have : asB (b2 gStarts (some (.str w)) (some (.str "-"))) = some (decide ((tl w).head? = some 45)) := by
      rw [b2_some]
      show asB (some (.bl (Txt.startswith w "-"))) = _
      rw [starts_minus]; rfl
    rw [this]
    subst hx
    by_cases c : (tl w).head? = some 45
    · rw [if_pos c, decide_eq_true c, ifV_t]
      show gSl (.str w) (some 1) none = _
      rw [slS (by simp [szl]; omega), cut1 c]
    · rw [if_neg c, decide_eq_false c, ifV_f]
  have hmt : PyData.strOk ("" : Str) = true := by decide +kernel
  have hE : ("" : Str) = Str.empty := by decide +kernel
  by_cases hx0 : x = Str.empty
  · rw [if_neg (fun h => h.1 hx0)]
    refine w_eq ?_
    show W _ _ _ _ (D_part_of [some (.str w), none, none])
    unfold D_part_of
    simp only [w_seq, nd_zero, s1, set_im, w_nx, List.set_cons_succ, List.set_cons_zero, nd_succ]
    refine w_if (x := true) ?_ (fun _ => ?_) (fun h => by cases h)
    · rw [b2_some, gEqA_str hxo hmt, hE, decide_eq_true hx0]; rfl
    · rw [nd_zero, rt_some, w_rt]
  · have key : ∀ τ, (if digB x = true then (PySem.intText? w).map T.int else some (.str w)) = some τ → f_part_of [.str w] = some τ := by
      intro τ h
      refine w_eq ?_
      show W _ _ _ _ (D_part_of [some (.str w), none, none])
      unfold D_part_of
      simp only [w_seq, nd_zero, s1, set_im, w_nx, List.set_cons_succ, List.set_cons_zero, nd_succ]
      have e : orD (asB (b2 (gEqA false) (some (.str x)) (some (.str "")))) ((asB ((consD (lcD (bdN 2) (fun _ => some true) (fun ρ => chD gLe gLe (some (.str "0")) (nd 2 ρ) (some (.str "9"))) [2] [some (.str w), some (.str x), none] (itD true (some (.str x)))) (some [])).bind gAll)).map (!·)) = some (!digB x) := by
        rw [b2_some, gEqA_str hxo hmt, hE, decide_eq_false hx0, digs_lc (by omega)]; rfl
      rw [e]
      refine w_if rfl (fun hd => ?_) (fun hd => ?_)
      · have : digB x = false := by simpa using hd
        rw [this] at h
        rw [if_neg (by simp)] at h
        cases h
        rw [nd_zero, rt_some, w_rt]
      · have : digB x = true := by simpa using hd
        rw [this, if_pos rfl] at h
        simp only [w_nx, nd_zero, cons_some, Option.bind_some, gIntS]
        rw [if_pos (by omega), h, rt_some, w_rt]
    cases hd : digB x with
    | false =>
      rw [if_neg (fun h => by cases h.2)]
      exact key _ (by rw [hd]; rfl)
    | true =>
      rw [if_pos ⟨hx0, rfl⟩]
      cases e : PySem.intText? w with
      | some n => exact key _ (by rw [hd, e]; rfl)
      | none =>
        show f_part_of [.str w] = none
        show fnD N_part_of false D_part_of [.str w] = none
        have : D_part_of [some (.str w), none, none] = .er := by
          unfold D_part_of
          have e1 : orD (asB (b2 (gEqA false) (some (.str x)) (some (.str "")))) ((asB ((consD (lcD (bdN 2) (fun _ => some true) (fun ρ => chD gLe gLe (some (.str "0")) (nd 2 ρ) (some (.str "9"))) [2] [some (.str w), some (.str x), none] (itD true (some (.str x)))) (some [])).bind gAll)).map (!·)) = some false := by
            rw [b2_some, gEqA_str hxo hmt, hE, decide_eq_false hx0, digs_lc (by omega), hd]; rfl
          simp only [seqD, nd_zero, s1, set_im, List.set_cons_succ, List.set_cons_zero, nd_succ, e1, if_f, cons_some, Option.bind_some, gIntS]
          rw [if_pos (by omega), e]
          rfl
        show (match D_part_of [some (.str w), none, none] with | .rt t => some t | .nx _ => _ | _ => none) = none
        rw [this]
end Q
namespace Q
open PySem PySem.Spec L2 DL TL
theorem PP.lt {t : T} (h : PP t) : ∀ c ∈ tl (ptx t), c < 1114112 := fun c hc => (h.plain c hc).lt
theorem intText_sI {i : Int} (h0 : -1000000000 ≤ i) (h1 : i ≤ 1000000000) : PySem.intText? (sI i) = some i := by
  have hl := sI_len h0 h1
  have ht := tl_sI i
  by_cases c : i < 0
  · rw [if_pos c] at ht
    rw [intText_neg ht (numL_digits _) (numL_ne _) (by omega), numL_val]
    congr 1; omega
  · rw [if_neg c] at ht
    have ht' : (sI i).cps.toList = numL i.natAbs := ht
    rw [intText_digits (by rw [ht']; exact numL_digits _) (by rw [ht']; exact numL_ne _) (by omega), ht', numL_val]
    congr 1; omega
theorem all_digs {l : List Nat} (h : NumText.AllDigits l) : (l.all fun c => decide (48 ≤ c) && decide (c ≤ 57)) = true := by
  rw [List.all_eq_true]
  intro c hc
  have := h c hc
  simp; omega
theorem part_of {t : T} (h : PP t) : f_part_of [.str (ptx t)] = some t := by
  rw [part_eq (x := if (tl (ptx t)).head? = some 45 then (⟨((tl (ptx t)).drop 1).toArray⟩ : Str) else ptx t) (by have := h.len; omega) h.lt rfl]
  rcases h with ⟨x, n, rfl, hx, h1, h8⟩ | ⟨i, rfl, h0, h1⟩
  · -- a word
    have hne : tl x ≠ [] := fun e => by have := hx.1; rw [show x.cps.toList = [] from e] at this; simp at this; omega
    obtain ⟨c, r, ec⟩ : ∃ c r, tl x = c :: r := by
      cases e : tl x with
      | nil => exact absurd e hne
      | cons c r => exact ⟨c, r, rfl⟩
    have hc := hx.2 c (by show c ∈ tl x; rw [ec]; exact List.mem_cons_self)
    have hh : ¬ (tl (ptx (.str x))).head? = some 45 := by
      show ¬ (tl x).head? = some 45
      rw [ec]; simp; omega
    rw [if_neg hh]
    rw [if_neg]
    · rfl
    · rintro ⟨_, hd⟩
      have hd : (tl x).all (fun c => decide (48 ≤ c) && decide (c ≤ 57)) = true := hd
      rw [ec, List.all_cons, Bool.and_eq_true] at hd
      have := hd.1
      simp at this; omega
  · have ht := tl_sI i
    have hI := intText_sI h0 h1
    show (if (if (tl (sI i)).head? = some 45 then (⟨((tl (sI i)).drop 1).toArray⟩ : Str) else sI i) ≠ Str.empty ∧ digB (if (tl (sI i)).head? = some 45 then (⟨((tl (sI i)).drop 1).toArray⟩ : Str) else sI i) = true then (PySem.intText? (sI i)).map T.int else some (.str (sI i))) = some (.int i)
    rw [hI, if_pos]
    · rfl
    · by_cases c : i < 0
      · rw [if_pos c] at ht
        rw [ht]
        simp only [List.head?_cons, if_true, List.drop_succ_cons, List.drop_zero]
        refine ⟨fun e => numL_ne i.natAbs ?_, ?_⟩
        · have := congrArg tl e
          rw [tl_mk] at this
          exact this
        · show (tl ⟨(numL i.natAbs).toArray⟩).all _ = true
          rw [tl_mk]
          exact all_digs (numL_digits _)
      · rw [if_neg c] at ht
        have hh : ¬ (tl (sI i)).head? = some 45 := by
          rw [ht]
          intro e
          cases e2 : numL i.natAbs with
          | nil => exact numL_ne _ e2
          | cons d r =>
            rw [e2] at e
            have := numL_digits i.natAbs d (by rw [e2]; exact List.mem_cons_self)
            simp at e; omega
        rw [if_neg hh]
        refine ⟨fun e => numL_ne i.natAbs ?_, ?_⟩
        · rw [← ht, e]; rfl
        · show (tl (sI i)).all _ = true
          rw [ht]
          exact all_digs (numL_digits _)
/-! ### an entry's text -/
def shownS (e : Ent) : Str := Txt.join " " ((parts e).map ptx)
theorem tl_sp : tl (" " : Str) = [32] := by decide +kernel
theorem len_sp : (" " : Str).length = 1 := by decide +kernel
theorem tl_nl : tl ("\n" : Str) = [10] := by decide +kernel
theorem len_nl : ("\n" : Str).length = 1 := by decide +kernel
theorem tl_cs : tl (": " : Str) = [58, 32] := by decide +kernel
theorem len_cs : (": " : Str).length = 2 := by decide +kernel
theorem sum_le {l : List Nat} {k : Nat} (h : ∀ n ∈ l, n ≤ k) : l.sum ≤ l.length * k := by
  induction l with
  | nil => simp
  | cons n l ih =>
    have := h n (by simp)
    have := ih fun m hm => h m (by simp [hm])
    simp only [List.sum_cons, List.length_cons, Nat.succ_mul]
    omega
theorem parts_len (e : Ent) : 2 ≤ (parts e).length ∧ (parts e).length ≤ 5 := by cases e <;> simp [parts]
def EP (e : Ent) : Prop := ∀ t ∈ parts e, PP t
theorem EP.len {e : Ent} (h : EP e) : (shownS e).length ≤ 60 := by
  unfold shownS
  rw [join_eq]
  have h1 := StrLaws.join_length_le " " ((parts e).map ptx)
  rw [len_sp, List.length_map, List.map_map] at h1
  have h2 := sum_le (l := (parts e).map ((fun x => x.length) ∘ ptx)) (k := 11) (fun n hn => by
    obtain ⟨t, ht, rfl⟩ := List.mem_map.mp hn
    exact (h t ht).len)
  rw [List.length_map] at h2
  have := parts_len e
  omega
theorem gJoin_strs {z : Str} {ys : List Str} (h : (ys.map (·.length)).sum + ys.length * z.length ≤ 16777216) : gJoin (.str z) (.lst (ys.map T.str)) = some (.str (Txt.join z ys)) := by
  unfold gJoin
  simp only [strsOf_map, Option.bind_some]
  rw [if_pos h]
theorem shown_eq {e : Ent} (h : EP e) : f_shown [encE e] = some (.str (shownS e)) := by
  refine w_eq ?_
  show W _ _ _ _ (D_shown [some (encE e), none])
  unfold D_shown
  rw [nd_zero]
  have e1 := lc_all (bd := bdN 1) (e := fun ρ => (consD (nd 1 ρ) (some [])).bind gStr) (ρ := [some (encE e), none]) (vs := [1]) (o := itD true (some (encE e))) (parts e) id (fun t => T.str (ptx t)) (by rw [enc_parts, List.map_id]; rfl) (by have := parts_len e; simp [szl]; omega) (fun t m => ⟨_, rfl, by
    simp only [wipeD, List.set_cons_succ, List.set_cons_zero, nd_succ, nd_zero, cons_some, Option.bind_some, id]
    exact (h t m).str⟩) (fun _ _ => by simp [imm])
  rw [e1, b2_some]
  have e2 : (parts e).map (fun t => T.str (ptx t)) = ((parts e).map ptx).map T.str := by rw [List.map_map]; rfl
  rw [e2, gJoin_strs, rt_some, w_rt]
  · rfl
  · rw [len_sp, List.length_map, List.map_map]
    have h2 := sum_le (l := (parts e).map ((fun x => x.length) ∘ ptx)) (k := 11) (fun n hn => by
      obtain ⟨t, ht, rfl⟩ := List.mem_map.mp hn
      exact (h t ht).len)
    rw [List.length_map] at h2
    have := parts_len e
    omega
theorem joinL_mem {S : List Nat} {c : Nat} : ∀ {ps : List (List Nat)}, c ∈ joinL S ps → c ∈ S ∨ ∃ p ∈ ps, c ∈ p
  | [], h => by cases h
  | [p], h => .inr ⟨p, by simp, h⟩
  | p :: q :: r, h => by
    have h : c ∈ p ++ (S ++ joinL S (q :: r)) := h
    rcases List.mem_append.mp h with h | h
    · exact .inr ⟨p, by simp, h⟩
    · rcases List.mem_append.mp h with h | h
      · exact .inl h
      · rcases joinL_mem h with h | ⟨p', m, h⟩
        · exact .inl h
        · exact .inr ⟨p', List.mem_cons_of_mem _ m, h⟩
theorem shown_mem {e : Ent} (h : EP e) : ∀ c ∈ tl (shownS e), c = 32 ∨ Plain c := by
  intro c hc
  unfold shownS at hc
  rw [join_eq, tl_join, tl_sp] at hc
  rcases joinL_mem hc with hc | ⟨p, m, hc⟩
  · exact .inl (by simpa using hc)
  · obtain ⟨s, ms, rfl⟩ := List.mem_map.mp m
    obtain ⟨t, mt, rfl⟩ := List.mem_map.mp ms
    exact .inr ((h t mt).plain c hc)
theorem shown_split {e : Ent} (h : EP e) : Txt.split (shownS e) " " = (parts e).map ptx := by
  refine split_join tl_sp (by decide +kernel) (by have := parts_len e; intro z; rw [List.map_eq_nil_iff] at z; rw [z] at this; simp at this) fun p hp hc => ?_
  obtain ⟨t, mt, rfl⟩ := List.mem_map.mp hp
  rcases (h t mt).plain 32 hc with z | z | z <;> omega
/-! ### a line -/
def lineS (k : Int) (e : Ent) : Str := sI k ++ ": " ++ shownS e
theorem line_part {k : Int} {e : Ent} : Txt.partition (lineS k e) ": " = (sI k, (": " : Str), shownS e) :=
  partition_app tl_cs fun hc => by rcases sI_plain k 58 hc with z | z | z <;> omega
theorem line_len {k : Int} {e : Ent} (h0 : -1000000000 ≤ k) (h1 : k ≤ 1000000000) (h : EP e) : (lineS k e).length ≤ 80 := by
  unfold lineS
  rw [Str.length_append, Str.length_append, len_cs]
  have := sI_len h0 h1
  have := h.len
  omega
theorem line_mem {k : Int} {e : Ent} (h : EP e) : ∀ c ∈ tl (lineS k e), c = 32 ∨ c = 58 ∨ Plain c := by
  intro c hc
  unfold lineS at hc
  rw [tl_append, tl_append, tl_cs] at hc
  rcases List.mem_append.mp hc with hc | hc
  · rcases List.mem_append.mp hc with hc | hc
    · exact .inr (.inr (sI_plain k c hc))
    · simp at hc
      rcases hc with rfl | rfl
      · exact .inr (.inl rfl)
      · exact .inl rfl
  · rcases shown_mem h c hc with z | z
    · exact .inl z
    · exact .inr (.inr z)
end Q
namespace Q
open PySem PySem.Spec L2 DL TL
theorem gGt_i {x y : Int} : gGt (.int x) (.int y) = some (.bl (decide (y < x))) := (rfl)
def mb (p : T × T) : Bool := match f_may_stand [p.1, p.2] with
  | some (.bl b) => b
  | _ => false
theorem mb_of {p : T × T} {b : Bool} (h : f_may_stand [p.1, p.2] = some (.bl b)) : mb p = b := by unfold mb; rw [h]
def Tells (ps : List (T × T)) : Prop := ∀ p ∈ ps, ∃ b, f_may_stand [p.1, p.2] = some (.bl b)
theorem Tells.eq {ps : List (T × T)} (h : Tells ps) {p : T × T} (m : p ∈ ps) : f_may_stand [p.1, p.2] = some (.bl (mb p)) := by
  obtain ⟨b, e⟩ := h p m
  rw [mb_of e, e]
theorem bk_lc {t : T} {ps : List (T × T)} {o : Option (List T)} (ho : o = some (ps.map fun p => .tup [p.1, p.2])) (hl : ps.length ≤ 1000) (h : Tells ps) :
    (consD (lcD (bdT 2 (bdCons (bdN 1) (bdCons (bdN 2) bdNil))) (fun _ => some true) (fun ρ => (consD (nd 1 ρ) (consD (nd 2 ρ) (some []))).bind f_may_stand) [1, 2] [some t, none, none] o) (some [])).bind gAll = some (.bl (ps.all mb)) := by
  have e := lc_all (bd := bdT 2 (bdCons (bdN 1) (bdCons (bdN 2) bdNil))) (e := fun ρ => (consD (nd 1 ρ) (consD (nd 2 ρ) (some []))).bind f_may_stand) (ρ := [some t, none, none]) (vs := [1, 2]) (o := o) ps (fun p => .tup [p.1, p.2]) (fun p => T.bl (mb p)) ho (by simp [szl]; omega) (fun p m => ⟨[some t, some p.1, some p.2], rfl, by
    simp only [nd_succ, nd_zero, cons_some, Option.bind_some]
    exact h.eq m⟩) (fun _ _ => imm_bl)
  rw [e]
  simp only [cons_some, Option.bind_some, all_bls]
theorem isdict : gEqB true (.raw (.ty "dict")) (.raw (.ty "dict")) = some (.bl false) := by
  rw [neTy_s (show "dict" ∈ tys by decide) (show "dict" ∈ tys by decide)]; rfl
theorem book_is {kts : List (Key × T)} (hl : kts.length ≤ 50) (h : Tells (prs kts)) : f_is_book [.dic kts] = some (.bl (decide (kts.length ≤ 30) && (prs kts).all mb)) := by
  refine w_eq ?_
  show W _ _ _ _ (D_is_book [some (.dic kts), none, none])
  unfold D_is_book
  have e1 : gType [.dic kts] = some (.raw (.ty "dict")) := rfl
  have e2 : gLen [.dic kts] = some (.int kts.length) := rfl
  have e3 : Option.map (fun kts => List.map (fun p : Key × T => T.tup [keyT p.1, p.2]) kts) (dicOf (some (.dic kts))) = some ((prs kts).map fun p => .tup [p.1, p.2]) := by
    simp [dicOf, prs, List.map_map, Function.comp_def]
  simp only [w_seq, nd_zero, cons_some, Option.bind_some, e1, e2, b2_some, isdict, asB_bl, gGt_i, orD]
  refine w_if rfl (fun hc => ?_) (fun hc => ?_)
  · rw [rt_some, w_rt]
    have : decide (kts.length ≤ 30) = false := by simp at hc ⊢; omega
    rw [this]; rfl
  · have h30 : decide (kts.length ≤ 30) = true := by simp at hc ⊢; omega
    rw [w_nx, nd_zero, bk_lc e3 (by simp [prs]; omega) h, rt_some, w_rt, h30, Bool.true_and]
theorem prs_enc (b : Bk) : prs (encK b) = b.map fun p => (T.int p.1, encE p.2) := by
  simp [prs, encK, List.map_map, Function.comp_def, keyT]
theorem encK_len (b : Bk) : (encK b).length = b.length := by simp [encK]
/-! ### books -/
structure GB (b : Bk) : Prop where
  ap : Apart b
  ok : ∀ p ∈ b, GoodE p.1 p.2
  top : ∀ p ∈ b, p.1 ≤ 400
  ep : ∀ p ∈ b, EP p.2
  len : b.length ≤ 30
theorem lets_w {x : Str} {n : Nat} (h : (x.cps.toList.length == n && x.cps.toList.all fun c => decide (97 ≤ c) && decide (c ≤ 122)) = true) : Lets n x := by
  rw [Bool.and_eq_true] at h
  refine ⟨by simpa using h.1, fun c hc => ?_⟩
  have := List.all_eq_true.mp h.2 c hc
  simp at this
  exact this
theorem pp_w {x : Str} {n : Nat} (h : (x.cps.toList.length == n && x.cps.toList.all fun c => decide (97 ≤ c) && decide (c ≤ 122)) = true) (h1 : 1 ≤ n) (h8 : n ≤ 8) : PP (.str x) := .inl ⟨x, n, rfl, lets_w h, h1, h8⟩
theorem pp_name {x : Str} (h : Name x) : PP (.str x) := let ⟨n, h1, h2, h3⟩ := h; .inl ⟨x, n, rfl, h3, by omega, h2⟩
theorem pp_int {i : Int} (h0 : -1000000000 ≤ i) (h1 : i ≤ 1000000000) : PP (.int i) := .inr ⟨i, rfl, h0, h1⟩
theorem ep_of {n : Int} {e : Ent} (h : okE e) (hb : belowE n e) (hn : n ≤ 400) : EP e := by
  cases e with
  | tell x lo hi w =>
    obtain ⟨a, b, c, d, e, f⟩ := h
    intro t m
    simp only [parts, List.mem_cons, List.not_mem_nil, or_false] at m
    rcases m with rfl | rfl | rfl | rfl | rfl
    · exact pp_w (n := 4) (by decide +kernel) (by decide) (by decide)
    · exact pp_name a
    · exact pp_int (by omega) (by omega)
    · exact pp_int (by omega) (by omega)
    · exact pp_int (by omega) (by omega)
  | clear x lo hi =>
    obtain ⟨a, b, c, d⟩ := h
    intro t m
    simp only [parts, List.mem_cons, List.not_mem_nil, or_false] at m
    rcases m with rfl | rfl | rfl | rfl
    · exact pp_w (n := 5) (by decide +kernel) (by decide) (by decide)
    · exact pp_name a
    · exact pp_int (by omega) (by omega)
    · exact pp_int (by omega) (by omega)
  | like x lo hi y =>
    obtain ⟨a, b, c, d, e⟩ := h
    intro t m
    simp only [parts, List.mem_cons, List.not_mem_nil, or_false] at m
    rcases m with rfl | rfl | rfl | rfl | rfl
    · exact pp_w (n := 4) (by decide +kernel) (by decide) (by decide)
    · exact pp_name a
    · exact pp_int (by omega) (by omega)
    · exact pp_int (by omega) (by omega)
    · exact pp_name e
  | undo k =>
    have h : 1 ≤ k := h
    have hb : k < n := hb
    intro t m
    simp only [parts, List.mem_cons, List.not_mem_nil, or_false] at m
    rcases m with rfl | rfl
    · exact pp_w (n := 4) (by decide +kernel) (by decide) (by decide)
    · exact pp_int (by omega) (by omega)
theorem GB.of {b : Bk} (h : BookOk 14 b) : GB b :=
  ⟨h.ap, fun p m => .of (h.pos p m) (h.ok p m).1 (h.ok p m).2, fun p m => by have := h.top p m; omega, fun p m => ep_of (h.ok p m).1 (h.ok p m).2 (by have := h.top p m; omega), by have := h.len; omega⟩
theorem gb_tells {b : Bk} (h : ∀ p ∈ b, GoodE p.1 p.2) : ∀ p ∈ prs (encK b), f_may_stand [p.1, p.2] = some (.bl true) := by
  intro p m
  rw [prs_enc] at m
  obtain ⟨q, mq, rfl⟩ := List.mem_map.mp m
  exact may_good (h q mq)
theorem gb_book {b : Bk} (h : ∀ p ∈ b, GoodE p.1 p.2) (hl : b.length ≤ 30) : f_is_book [encB b] = some (.bl true) := by
  show f_is_book [.dic (encK b)] = _
  rw [book_is (by rw [encK_len]; omega) fun p m => ⟨true, gb_tells h p m⟩, encK_len]
  have : (prs (encK b)).all mb = true := by
    rw [List.all_eq_true]
    exact fun p m => mb_of (p := p) (gb_tells h p m)
  rw [this, Bool.and_true]
  simp [hl]
/-! ### in the order of the numbers -/
def sb (b : Bk) : Bk := (sortI (keysB b)).map fun k => (k, (at? b k).getD (.undo 1))
theorem keys_sb (b : Bk) : keysB (sb b) = sortI (keysB b) := by
  unfold sb keysB
  rw [List.map_map]
  exact (List.map_congr_left (fun k _ => rfl)).trans (List.map_id _)
theorem mem_sb {b : Bk} (h : Apart b) {p : Int × Ent} : p ∈ sb b ↔ p ∈ b := by
  unfold sb
  rw [List.mem_map]
  constructor
  · rintro ⟨k, mk, rfl⟩
    rw [sortI_mem] at mk
    obtain ⟨q, mq, rfl⟩ := List.mem_map.mp mk
    have := at_of_mem h (e := q.2) mq
    rw [this]
    exact mq
  · intro m
    refine ⟨p.1, sortI_mem.mpr (List.mem_map.mpr ⟨p, m, rfl⟩), ?_⟩
    have := at_of_mem h (k := p.1) (e := p.2) m
    rw [this]; rfl
theorem apart_sb {b : Bk} (h : Apart b) : Apart (sb b) := by
  show (keysB (sb b)).Nodup
  rw [keys_sb]
  exact (sortI_perm _).nodup_iff.mpr h
theorem len_sb (b : Bk) : (sb b).length = b.length := by
  unfold sb
  rw [List.length_map, sortI_len]
  simp [keysB]
theorem at_sb {b : Bk} (h : Apart b) (k : Int) : at? (sb b) k = at? b k := by
  cases e : at? b k with
  | none =>
    rw [at_none] at e ⊢
    show k ∉ keysB (sb b)
    rw [keys_sb, sortI_mem]
    exact e
  | some t => exact at_of_mem (apart_sb h) ((mem_sb h).mpr (at_mem e))
theorem GB.sb {b : Bk} (h : GB b) : GB (sb b) :=
  ⟨apart_sb h.ap, fun p m => h.ok p ((mem_sb h.ap).mp m), fun p m => h.top p ((mem_sb h.ap).mp m), fun p m => h.ep p ((mem_sb h.ap).mp m), by rw [len_sb]; exact h.len⟩
theorem sort_sort (l : List Int) : sortI (sortI l) = sortI l :=
  ((sortI_perm (sortI l)).eq_of_pairwise (fun a b _ _ h1 h2 => Int.le_antisymm h1 h2) (sortI_sorted _) (sortI_sorted _))
theorem sb_sb {b : Bk} (h : Apart b) : sb (sb b) = sb b := by
  show (sortI (keysB (sb b))).map _ = _
  rw [keys_sb, sort_sort]
  unfold sb
  refine List.map_congr_left fun k mk => ?_
  have := at_sb h k
  unfold sb at this
  rw [this]
/-! ### a book's text -/
def bookS (l : Bk) : Str := Txt.join "\n" (l.map fun p => lineS p.1 p.2)
theorem gSorted_b {b : Bk} (h : b.length < 64) : gSorted [encB b] = some (.lst ((sortI (keysB b)).map T.int)) := by
  show (keysI (encK b)).bind _ = _
  rw [keysI_encK]
  show (if (b.map (·.1)).length < 64 then _ else _) = _
  rw [if_pos (by simpa using h)]
  rfl
theorem lines_len {l : Bk} (h : ∀ p ∈ l, 1 ≤ p.1 ∧ p.1 ≤ 1000 ∧ EP p.2) (hl : l.length ≤ 40) : ((l.map fun p => lineS p.1 p.2).map (·.length)).sum + (l.map fun p => lineS p.1 p.2).length * ("\n" : Str).length ≤ 4000 := by
  rw [len_nl, List.length_map, List.map_map]
  have h2 := sum_le (l := l.map ((fun x => x.length) ∘ fun p : Int × Ent => lineS p.1 p.2)) (k := 80) (fun n hn => by
    obtain ⟨p, mp, rfl⟩ := List.mem_map.mp hn
    have := h p mp
    exact line_len (by omega) (by omega) this.2.2)
  rw [List.length_map] at h2
  omega
theorem GB.rows {b : Bk} (h : GB b) : ∀ p ∈ b, 1 ≤ p.1 ∧ p.1 ≤ 1000 ∧ EP p.2 := fun p m => ⟨(h.ok p m).pos, by have := h.top p m; omega, h.ep p m⟩
theorem empty_app (x : Str) : Str.empty ++ x = x := ext_tl (by rw [tl_append]; rfl)
theorem written_eq {b : Bk} (h : GB b) : f_written [encB b] = some (.str (bookS (sb b))) := by
  refine w_eq ?_
  show W _ _ _ _ (D_written [some (encB b), none])
  unfold D_written
  have hs := h.sb
  have hl := hs.len
  simp only [nd_zero, cons_some, Option.bind_some, gSorted_b (show b.length < 64 by have := h.len; omega)]
  have e1 := lc_all (bd := bdN 1) (e := fun ρ => js3 (fmtD (nd 1 ρ)) (some (.str ": ")) (fmtD ((consD (b2 gSubs (nd 0 ρ) (nd 1 ρ)) (some [])).bind f_shown))) (ρ := [some (encB b), none]) (vs := [1]) (o := itD true (some (.lst ((sortI (keysB b)).map T.int)))) (sb b) (fun p => T.int p.1) (fun p => T.str (lineS p.1 p.2)) (by
      show some ((sortI (keysB b)).map T.int) = _
      rw [← keys_sb]
      unfold keysB
      rw [List.map_map]; rfl) (by simp [szl]; omega) (fun p m => ⟨_, rfl, by
    have hp := hs.rows p m
    have ha : at? b p.1 = some p.2 := at_of_mem h.ap ((mem_sb h.ap).mp m)
    simp only [wipeD, List.set_cons_succ, List.set_cons_zero, nd_succ, nd_zero, b2_some, subs_book ha, cons_some, Option.bind_some, shown_eq hp.2.2]
    have f1 : fmtD (some (.int p.1)) = some (.str (sI p.1)) := (pp_int (by omega) (by omega)).fmt
    have f2 : fmtD (some (.str (shownS p.2))) = some (.str (shownS p.2)) := by
      have := hp.2.2.len
      show (strT (.str (shownS p.2))).map T.str = _
      unfold strT
      simp only
      rw [if_pos (by simp [szl]; omega)]; rfl
    rw [f1, f2]
    unfold js3
    simp only
    have l1 := sI_len (i := p.1) (by omega) (by omega)
    have l2 := hp.2.2.len
    rw [if_pos (by rw [len_cs]; simp [szl]; omega), empty_app]
    rfl⟩) (fun _ _ => by simp [imm])
  rw [e1, b2_some]
  have e2 : (sb b).map (fun p => T.str (lineS p.1 p.2)) = ((sb b).map fun p => lineS p.1 p.2).map T.str := by rw [List.map_map]; rfl
  rw [e2, gJoin_strs (by have := lines_len hs.rows (by omega); omega), rt_some, w_rt]
  rfl
theorem bookS_len {l : Bk} (h : ∀ p ∈ l, 1 ≤ p.1 ∧ p.1 ≤ 1000 ∧ EP p.2) (hl : l.length ≤ 40) : (bookS l).length ≤ 4000 := by
  unfold bookS
  rw [join_eq]
  exact Nat.le_trans (StrLaws.join_length_le _ _) (lines_len h hl)
theorem bookS_ok {l : Bk} (h : ∀ p ∈ l, 1 ≤ p.1 ∧ p.1 ≤ 1000 ∧ EP p.2) : ∀ c ∈ tl (bookS l), c < 1114112 := by
  intro c hc
  unfold bookS at hc
  rw [join_eq, tl_join, tl_nl] at hc
  rcases joinL_mem hc with hc | ⟨p, m, hc⟩
  · have : c = 10 := by simpa using hc
    omega
  · obtain ⟨s, ms, rfl⟩ := List.mem_map.mp m
    obtain ⟨q, mq, rfl⟩ := List.mem_map.mp ms
    rcases line_mem (h q mq).2.2 c hc with z | z | z
    · omega
    · omega
    · exact z.lt
theorem put_new {b : Bk} {k : Int} {e : Ent} (h : k ∉ keysB b) : put b k e = b ++ [(k, e)] := by
  induction b with
  | nil => rfl
  | cons p b ih =>
    obtain ⟨k', e'⟩ := p
    have h1 : k' ≠ k := fun z => h (by rw [z]; exact List.mem_map.mpr ⟨(k, e'), by simp, rfl⟩)
    have h2 : k ∉ keysB b := fun z => h (List.mem_cons_of_mem _ z)
    show (if k' = k then _ else _) = _
    rw [if_neg h1, ih h2]; rfl
/-- the text of rows is taken apart into these rows -/
theorem taken_eq {l : Bk} (hne : l ≠ []) (ha : Apart l) (h : ∀ p ∈ l, 1 ≤ p.1 ∧ p.1 ≤ 1000 ∧ EP p.2) (hl : l.length ≤ 40) : f_taken_apart [.str (bookS l)] = some (encB l) := by
  refine w_eq ?_
  show W _ _ _ _ (D_taken_apart [some (.str (bookS l)), none, none, none, none, none, none])
  unfold D_taken_apart
  have own0 : ownD 1 (some (.dic [])) [some (.str (bookS l)), none, none, none, none, none, none] = .nx [some (.str (bookS l)), some (encB []), none, none, none, none, none] := by
    unfold ownD
    simp only
    rw [if_pos (by decide)]
    rfl
  have hsp : gSplit (.str (bookS l)) (.str "\n") = some (.lst ((l.map fun p => lineS p.1 p.2).map T.str)) := by
    have hs : Txt.split (bookS l) "\n" = l.map fun p => lineS p.1 p.2 := split_join tl_nl (by decide +kernel) (by rw [Ne, List.map_eq_nil_iff]; exact hne) fun s ms hc => by
      obtain ⟨p, mp, rfl⟩ := List.mem_map.mp ms
      rcases line_mem (h p mp).2.2 10 hc with z | z | z
      · omega
      · omega
      · rcases z with z | z | z <;> omega
    unfold gSplit
    simp only
    rw [if_pos ⟨by rw [len_nl]; rfl, by have := bookS_len h hl; simp [szl]; omega⟩, hs]
  rw [w_seq, own0, w_nx, w_seq]
  simp only [nd_zero, b2_some, hsp]
  obtain ⟨I, hI⟩ : ∃ I : List T → Env' → Prop, I = fun ts ρ => ∃ (dn rs : Bk) (x a b c d : Option T), dn ++ rs = l ∧ ts = (rs.map fun p => lineS p.1 p.2).map T.str ∧ ρ = [some (.str (bookS l)), some (encB dn), x, a, b, c, d] := ⟨_, rfl⟩
  refine w_forS (ts := (l.map fun p => lineS p.1 p.2).map T.str) (by unfold itF; simp only; rw [if_pos (show immE (.lst _) = true from immL_strs)]; rfl) I ?_ ?_ ?_
  · rw [hI]; exact ⟨[], l, none, none, none, none, none, rfl, rfl, rfl⟩
  · intro t ts ρ hi
    rw [hI] at hi
    obtain ⟨dn, rs, x, a, b, c, d, hd, hts, rfl⟩ := hi
    cases rs with
    | nil => cases hts
    | cons p rs =>
      rw [List.map_cons, List.map_cons] at hts
      obtain ⟨rfl, rfl⟩ : t = .str (lineS p.1 p.2) ∧ ts = (rs.map fun p => lineS p.1 p.2).map T.str := by cases hts; exact ⟨rfl, rfl⟩
      have mp : p ∈ l := by rw [← hd]; simp
      have hp := h p mp
      refine ⟨_, rfl, ?_⟩
      have hpart : gPart (.str (lineS p.1 p.2)) (.str ": ") = some (.tup [.str (sI p.1), .str ": ", .str (shownS p.2)]) := by
        unfold gPart
        simp only
        rw [if_pos ⟨by rw [len_cs]; rfl, by have := line_len (k := p.1) (by omega) (by omega) hp.2.2; simp [szl]; omega⟩, line_part]
      have hun : unpD false (bdT 3 (bdCons (bdN 3) (bdCons (bdN 4) (bdCons (bdN 5) bdNil)))) (some (.tup [.str (sI p.1), .str ": ", .str (shownS p.2)])) [some (.str (bookS l)), some (encB dn), some (.str (lineS p.1 p.2)), a, b, c, d] =
          .nx [some (.str (bookS l)), some (encB dn), some (.str (lineS p.1 p.2)), some (.str (sI p.1)), some (.str ": "), some (.str (shownS p.2)), d] := by
        unfold unpD
        simp only
        rw [if_pos (by simp [imm, immL])]
        rfl
      simp only [w_seq, bdN, List.set_cons_succ, List.set_cons_zero, nd_zero, nd_succ, b2_some, hpart]
      rw [hun, w_nx]
      have hsp2 : gSplit (.str (shownS p.2)) (.str " ") = some (.lst (((parts p.2).map ptx).map T.str)) := by
        unfold gSplit
        simp only
        rw [if_pos ⟨by rw [len_sp]; rfl, by have := hp.2.2.len; simp [szl]; omega⟩, shown_split hp.2.2]
      have hlc := lc_all (bd := bdN 6) (e := fun ρ => (consD (nd 6 ρ) (some [])).bind f_part_of) (ρ := [some (.str (bookS l)), some (encB dn), some (.str (lineS p.1 p.2)), some (.str (sI p.1)), some (.str ": "), some (.str (shownS p.2)), d]) (vs := [6]) (o := itD true (some (.lst (((parts p.2).map ptx).map T.str)))) (parts p.2) (fun t => T.str (ptx t)) id (by
          show some (((parts p.2).map ptx).map T.str) = _
          rw [List.map_map]; rfl) (by have := parts_len p.2; simp [szl]; omega) (fun t m => ⟨_, rfl, by
        simp only [wipeD, List.set_cons_succ, List.set_cons_zero, nd_succ, nd_zero, cons_some, Option.bind_some]
        exact part_of (hp.2.2 t m)⟩) (fun t m => by
          rcases hp.2.2 t m with ⟨x, n, rfl, _⟩ | ⟨i, rfl, _⟩ <;> simp [imm])
      have hk : f_part_of [.str (sI p.1)] = some (.int p.1) := part_of (pp_int (by omega) (by omega))
      simp only [nd_zero, nd_succ, b2_some, hsp2, hlc, cons_some, Option.bind_some, hk, gTuple, List.map_id]
      have hkd : p.1 ∉ keysB dn := by
        intro m
        have hn : (keysB (dn ++ p :: rs)).Nodup := by rw [hd]; exact ha
        unfold keysB at hn m
        rw [List.map_append, List.nodup_append] at hn
        exact hn.2.2 p.1 m p.1 (by simp) rfl
      have hdl : dn.length < 1000 := by
        have := congrArg List.length hd
        simp at this; omega
      have hda : Apart dn := by
        have hn : (keysB (dn ++ p :: rs)).Nodup := by rw [hd]; exact ha
        unfold keysB at hn
        rw [List.map_append, List.nodup_append] at hn
        exact hn.1
      rw [← enc_parts, store_enc (b := dn) (k := p.1) (e := p.2) rfl hda hdl, w_nx, put_new hkd, hI]
      exact ⟨dn ++ [p], rs, _, _, _, _, _, by rw [List.append_assoc]; exact hd, rfl, rfl⟩
  · intro ρ hi
    rw [hI] at hi
    obtain ⟨dn, rs, x, a, b, c, d, hd, hts, rfl⟩ := hi
    have : rs = [] := by
      cases rs with
      | nil => rfl
      | cons p rs => cases hts
    subst this
    rw [List.append_nil] at hd
    subst hd
    simp only [nd_succ, nd_zero, rt_some, w_rt]
end Q
namespace Q
open PySem PySem.Spec L2 DL TL
theorem isi_x {t : T} {n m : String} {b : Bool} (e : tyN t = some n) (k : kitB n m = some b) : gIsi [t, .raw (.ty m)] = some (.bl b) := by
  unfold gIsi
  simp only [e, Option.bind_some, k, Option.map_some]
theorem eq_gb {b : Bk} (h : GB b) (neg : Bool) : gEqA neg (encB b) (encB b) = some (.bl (xor neg true)) := by
  have hd : dOkK (encK b) = true := by
    unfold dOkK
    rw [List.all_eq_true]
    intro p hp
    obtain ⟨q, hq, rfl⟩ := List.mem_map.mp hp
    exact dOk_of (h.ok q hq).d
  show (if (dOkK (encK b) && dOkK (encK b)) = true then some (T.bl (xor neg (eqDic (encK b) (encK b)))) else none) = _
  rw [hd]
  have : eqDic (encK b) (encK b) = true := by
    unfold eqDic
    rw [hits_self fun p hp => ?_]
    · simp
    · obtain ⟨q, hq, rfl⟩ := List.mem_map.mp hp
      show lookT (encK b) (.inl q.1) = some (encE q.2)
      rw [lookT_enc, at_of_mem h.ap (e := q.2) hq]; rfl
  rw [this]; rfl
theorem same_str {s : Str} {neg : Bool} (h : ∀ c ∈ tl s, c < 1114112) : gEqA neg (.str s) (.str s) = some (.bl (xor neg true)) := by
  rw [gEqA_str (ok_of_plain h) (ok_of_plain h), decide_eq_true rfl]
/-! ### read -/
theorem bookS_ne {p : Int × Ent} {l : Bk} : bookS (p :: l) ≠ Str.empty := by
  intro e
  have h := congrArg tl e
  unfold bookS at h
  rw [join_eq, tl_join] at h
  have h0 : tl (lineS p.1 p.2) ≠ [] := by
    unfold lineS
    rw [tl_append, tl_append, tl_cs]
    simp
  cases l with
  | nil => exact h0 h
  | cons q r =>
    have h : tl (lineS p.1 p.2) ++ _ = [] := h
    exact h0 (List.append_eq_nil_iff.mp h).1
theorem str_e : ("" : Str) = Str.empty := by decide +kernel
theorem isstr : gEqB true (.raw (.ty "str")) (.raw (.ty "str")) = some (.bl false) := by
  rw [neTy_s (show "str" ∈ tys by decide) (show "str" ∈ tys by decide)]; rfl
theorem read_eq {b : Bk} (h : GB b) : f_read [.str (bookS (sb b))] = some (encB (sb b)) := by
  have hs := h.sb
  have ok := bookS_ok hs.rows
  refine w_eq ?_
  show W _ _ _ _ (D_read [some (.str (bookS (sb b))), none])
  unfold D_read
  have e1 : gType [.str (bookS (sb b))] = some (.raw (.ty "str")) := rfl
  have e2 : gEqA false (.str (bookS (sb b))) (.str "") = some (.bl (decide (bookS (sb b) = Str.empty))) := by
    rw [gEqA_str (ok_of_plain ok) (by decide +kernel), str_e, Bool.false_xor]
  simp only [w_seq, nd_zero, cons_some, Option.bind_some, e1, b2_some, isstr, asB_bl]
  refine w_if rfl (fun hc => by cases hc) (fun _ => ?_)
  simp only [w_nx, nd_zero, b2_some, e2, asB_bl]
  cases el : sb b with
  | nil =>
    have : bookS [] = Str.empty := by decide +kernel
    rw [this]
    refine w_if (x := true) (by simp) (fun _ => ?_) (fun hc => by cases hc)
    rw [rt_some, w_rt]
    rfl
  | cons p l =>
    refine w_if (x := false) (by simp [bookS_ne]) (fun hc => by cases hc) (fun _ => ?_)
    rw [← el]
    have et : f_taken_apart [.str (bookS (sb b))] = some (encB (sb b)) := taken_eq (by rw [el]; simp) hs.ap hs.rows (by have := hs.len; omega)
    have ew : f_written [encB (sb b)] = some (.str (bookS (sb b))) := by rw [written_eq hs, sb_sb h.ap]
    have eb : f_is_book [encB (sb b)] = some (.bl true) := gb_book hs.ok hs.len
    simp only [w_nx, nd_zero, cons_some, Option.bind_some, et]
    refine w_ownE (P := fun t => t = encB (sb b)) ⟨_, rfl, rfl⟩ ?_
    rintro _ rfl
    refine ⟨immE_encB _, ?_⟩
    simp only [List.set_cons_succ, List.set_cons_zero, nd_zero, nd_succ, cons_some, Option.bind_some, eb, ew, asB_bl, Option.map_some, Bool.not_true, orD, b2_some, same_str ok, Bool.xor_true]
    refine w_if rfl (fun hc => by cases hc) (fun _ => ?_)
    simp only [w_nx, nd_zero, nd_succ, rt_some, w_rt]
/-! ### alike -/
theorem eq_bl {a b : Bool} : gEqA false (.bl a) (.bl b) = some (.bl (decide (a = b))) := by
  rw [gEqA_data rfl rfl]
  cases a <;> cases b <;> rfl
theorem ne_bl {a b : Bool} : gEqA true (.bl a) (.bl b) = some (.bl (!decide (a = b))) := by
  rw [gEqA_data rfl rfl]
  cases a <;> cases b <;> rfl
theorem PP.d {t : T} (h : PP t) : dOk t = true := by
  rcases h with ⟨x, n, rfl, hx, _⟩ | ⟨i, rfl, _⟩
  · exact dOk_of (n := 1) (by rw [okN_str]; exact hx.ok)
  · rfl
theorem alike_part {t : T} (h : PP t) {f : List T → Option T} : fnD N__law_alike false (D__law_alike f) [t, t] = some (.bl true) := by
  refine w_eq ?_
  show W _ _ _ _ (D__law_alike f [some t, some t, none, none])
  unfold D__law_alike
  obtain ⟨i1, i2, i3⟩ : gIsi [t, .raw (.ty "tuple")] = some (.bl false) ∧ gIsi [t, .raw (.ty "list")] = some (.bl false) ∧ gIsi [t, .raw (.ty "bool")] = some (.bl false) := by
    rcases h with ⟨x, n, rfl, hx, _⟩ | ⟨i, rfl, _⟩
    · exact ⟨isi_x (n := "str") rfl (by decide +kernel), isi_x (n := "str") rfl (by decide +kernel), isi_x (n := "str") rfl (by decide +kernel)⟩
    · exact ⟨isi_x (n := "int") rfl (by decide +kernel), isi_x (n := "int") rfl (by decide +kernel), isi_x (n := "int") rfl (by decide +kernel)⟩
  have ed : gEqA false t t = some (.bl true) := by
    rw [gEqA_data h.d h.d, eqT_refl]; rfl
  simp only [w_seq, nd_zero, nd_succ, cons_some, Option.bind_some, i1, i2, asB_bl, orD]
  refine w_if rfl (fun hc => by cases hc) (fun _ => ?_)
  simp only [w_nx, nd_zero, nd_succ, cons_some, Option.bind_some, i3, b2_some, eq_bl, ed, decide_true, andV, rt_some, w_rt]
theorem alike_eq {e : Ent} (h : EP e) : f__law_alike 3 [encE e, encE e] = some (.bl true) := by
  show fnD N__law_alike false (D__law_alike (f__law_alike 2)) [encE e, encE e] = _
  refine w_eq ?_
  show W _ _ _ _ (D__law_alike (f__law_alike 2) [some (encE e), some (encE e), none, none])
  unfold D__law_alike
  have et : tyN (encE e) = some "tuple" := by rw [enc_parts]; rfl
  have i1 : gIsi [encE e, .raw (.ty "tuple")] = some (.bl true) := isi_x et (by decide +kernel)
  have i2 : gIsi [encE e, .raw (.ty "list")] = some (.bl false) := isi_x et (by decide +kernel)
  have el : gLen [encE e] = some (.int (parts e).length) := by rw [enc_parts]; rfl
  simp only [w_seq, nd_zero, nd_succ, cons_some, Option.bind_some, i1, asB_bl, orD]
  refine w_if rfl (fun _ => ?_) (fun hc => by cases hc)
  simp only [w_seq, nd_zero, nd_succ, cons_some, Option.bind_some, i1, i2, b2_some, ne_bl, decide_true, Bool.not_true, asB_bl, orD]
  refine w_if rfl (fun hc => by cases hc) (fun _ => ?_)
  have hz : zipI (some (encE e)) (some (encE e)) = some ((parts e).map fun t => .tup [t, t]) := by
    rw [enc_parts]
    show some (zipL (parts e) (parts e)) = _
    congr 1
    generalize parts e = l
    induction l with
    | nil => rfl
    | cons t l ih => show _ :: _ = _; rw [ih]; rfl
  have hlc := lc_all (bd := bdT 2 (bdCons (bdN 2) (bdCons (bdN 3) bdNil))) (e := fun ρ => (consD (nd 2 ρ) (consD (nd 3 ρ) (some []))).bind (f__law_alike 2)) (ρ := [some (encE e), some (encE e), none, none]) (vs := [2, 3]) (o := zipI (some (encE e)) (some (encE e))) (parts e) (fun t => T.tup [t, t]) (fun t => T.bl true) hz (by have := parts_len e; simp [szl]; omega) (fun t m => ⟨[some (encE e), some (encE e), some t, some t], rfl, by
    simp only [nd_succ, nd_zero, cons_some, Option.bind_some]
    exact alike_part (h t m)⟩) (fun _ _ => imm_bl)
  simp only [w_nx, nd_zero, nd_succ, cons_some, Option.bind_some, el, b2_some, gEqA_int, hlc, decide_true, Bool.false_xor, andV]
  have : gAll [.lst ((parts e).map fun _ => T.bl true)] = some (.bl true) := by
    rw [all_bls (fun _ => true)]
    simp
  rw [this, rt_some, w_rt]
/-! ### the law's line -/
theorem join_snoc {s : Str} : ∀ {l : List Str} {x : Str}, l ≠ [] → Str.join s (l ++ [x]) = Str.join s l ++ s ++ x
  | [a], x, _ => rfl
  | a :: b :: r, x, _ => by
    have ih := join_snoc (s := s) (l := b :: r) (x := x) (by simp)
    show a ++ s ++ Str.join s (b :: r ++ [x]) = a ++ s ++ Str.join s (b :: r) ++ s ++ x
    rw [ih]
    refine ext_tl ?_
    simp only [tl_append, List.append_assoc]
theorem add_s {x y : Str} (h : x.length + y.length ≤ 100000) : gAdd (.str x) (.str y) = some (.str (x ++ y)) := by
  unfold gAdd
  simp only
  rw [if_pos (by simp [szl]; omega)]
theorem parts_head (e : Ent) : ∃ w r, parts e = .str w :: r := by cases e <;> exact ⟨_, _, rfl⟩
theorem part_sum {l : List T} (h : ∀ t ∈ l, PP t) (hl : l.length ≤ 5) : (Str.join " " (l.map ptx)).length ≤ 60 := by
  have h1 := StrLaws.join_length_le " " (l.map ptx)
  rw [len_sp, List.length_map, List.map_map] at h1
  have h2 := sum_le (l := l.map ((fun x => x.length) ∘ ptx)) (k := 11) (fun n hn => by
    obtain ⟨t, ht, rfl⟩ := List.mem_map.mp hn
    exact (h t ht).len)
  rw [List.length_map] at h2
  omega
theorem line_eq {e : Ent} (h : EP e) : f__law_line [encE e] = some (.str (shownS e)) := by
  refine w_eq ?_
  show W _ _ _ _ (D__law_line [some (encE e), none, none])
  unfold D__law_line
  obtain ⟨w, r, ep⟩ := parts_head e
  have e0 : gSubs (encE e) (.int 0) = some (.str w) := by
    rw [enc_parts, ep, subs_tup (by omega) (by simp)]; rfl
  have e1 : itD true (b3 gSl (some (encE e)) (asI (some (.int 1))) (some none)) = some r := by
    rw [enc_parts, ep]
    show itD true (gSl (.tup (.str w :: r)) (some 1) none) = _
    show itD true (some (.tup (cutT (.str w :: r) (some 1) none))) = _
    rw [cutT_drop (by omega)]
    rfl
  simp only [w_seq, nd_zero, b2_some, e0, set_im, w_nx, List.set_cons_succ, List.set_cons_zero, e1]
  obtain ⟨I, hI⟩ : ∃ I : List T → Env' → Prop, I = fun ts ρ => ∃ (dn : List T) (x : Option T), .str w :: dn ++ ts = parts e ∧ ρ = [some (encE e), some (.str (Str.join " " ((.str w :: dn).map ptx))), x] := ⟨_, rfl⟩
  refine w_forS (ts := r) rfl I ?_ ?_ ?_
  · rw [hI]; exact ⟨[], none, ep.symm, rfl⟩
  · intro t ts ρ hi
    rw [hI] at hi
    obtain ⟨dn, x, hd, rfl⟩ := hi
    refine ⟨_, rfl, ?_⟩
    have mt : t ∈ parts e := by rw [← hd]; simp
    have hpt := h t mt
    have hpl := parts_len e
    have hlen : (T.str w :: dn).length ≤ 5 := by
      have := congrArg List.length hd
      simp at this ⊢; omega
    have hs := part_sum (l := .str w :: dn) (fun u mu => h u (by rw [← hd]; exact List.mem_append_left _ mu)) hlen
    have hp11 := hpt.len
    have a1 : gAdd (.str (Str.join " " ((T.str w :: dn).map ptx))) (.str " ") = some (.str (Str.join " " ((T.str w :: dn).map ptx) ++ " ")) := add_s (by rw [len_sp]; omega)
    have a2 : gAdd (.str (Str.join " " ((T.str w :: dn).map ptx) ++ " ")) (.str (ptx t)) = some (.str (Str.join " " ((T.str w :: dn).map ptx) ++ " " ++ ptx t)) := add_s (by rw [Str.length_append, len_sp]; omega)
    simp only [bdN, List.set_cons_succ, List.set_cons_zero, nd_zero, nd_succ, b2_some, a1, a2, cons_some, Option.bind_some, hpt.str, set_im, w_nx]
    rw [hI]
    refine ⟨dn ++ [t], some t, by rw [← hd]; simp, ?_⟩
    have := join_snoc (s := (" " : Str)) (l := (T.str w :: dn).map ptx) (x := ptx t) (by simp)
    rw [← this]
    simp
  · intro ρ hi
    rw [hI] at hi
    obtain ⟨dn, x, hd, rfl⟩ := hi
    rw [List.append_nil] at hd
    simp only [nd_succ, nd_zero, rt_some, w_rt]
    rw [hd]
    unfold shownS
    rw [join_eq]
end Q
namespace Q
open PySem PySem.Spec L2 DL TL
theorem w_nxE {N : Env' → Prop} {o : Out} (h : W N (fun _ => False) (fun _ => False) (fun _ => False) o) : ∃ ρ, o = .nx ρ ∧ N ρ := by
  cases o with
  | nx ρ => rw [w_nx] at h; exact ⟨ρ, rfl, h⟩
  | rt t => rw [w_rt] at h; exact h.elim
  | bk t => rw [w_bk] at h; exact h.elim
  | ct t => rw [w_ct] at h; exact h.elim
  | er => rw [w_er] at h; exact h.elim
/-- one turn of the list of dicts -/
theorem held_step {iH iB : Nat} {ts : List Nat} {bd : Env' → T → Option Env'} {de1 : Env' → Option T} {d : Env' → Out} {de5 da5 : Env' → Option T} {t : T} {τs acc : List T} {ρ ρ1 ρ3 : Env'} {b : Bk} {v : Ent} {k : Int}
    (hb : bd ρ t = some ρ1) (h1 : de1 ρ1 = some (encB b)) (ha : acc.length < 1000) (hB : iB < ρ1.length) (hd : d (ρ1.set iB (some (encB b))) = .nx ρ3) (h5 : de5 ρ3 = some (encE v)) (h6 : da5 ρ3 = some (.int k)) (hap : Apart b) (hl : b.length < 1000) :
    heldL iH iB ts bd de1 d de5 da5 (t :: τs) acc ρ = heldL iH iB ts bd de1 d de5 da5 τs (acc ++ [encB (put b k v)]) (wipeD (ρ1.set iB none) ts) := by
  have h1' : de1 ρ1 = some (.dic (encK b)) := h1
  have hd' : d (ρ1.set iB (some (.dic (encK b)))) = .nx ρ3 := hd
  have hk : keyOf (.int k) = some (.inl k) := rfl
  conv => lhs; unfold heldL
  rw [hb]
  simp only [h1']
  rw [if_pos ⟨immE_encB b, ha, hB⟩, hd']
  simp only [h5, h6, hk]
  rw [if_pos ⟨imm_encE v, hap.enc, by rw [encK_len]; exact hl⟩, putT_enc b k v]
  rfl
theorem w_of {N B C : Env' → Prop} {R : T → Prop} {o : Out} {ρ' : Env'} (h : o = .nx ρ') (k : N ρ') : W N B C R o := by rw [h, w_nx]; exact k
theorem undo_t2 {i : Int} : tupD (some [.str "undo", .int i]) = some (encE (.undo i)) := by rw [tup_n2]; rfl
theorem undo_tup {i : Int} : tupD (consD (some (.str "undo")) (consD (some (.int i)) (some []))) = some (encE (.undo i)) := by
  rw [cons_some, cons_some, tup_n2]; rfl
theorem app_str {i : Nat} {ρ : Env'} {l l2 : List Str} {s : Str} (e : l2 = l ++ [s]) (hn : nd i ρ = some (.lst (l.map T.str))) (hl : l.length < 1000) : appD i (some (.str s)) ρ = .nx (ρ.set i (some (.lst (l2.map T.str)))) := by
  subst e
  unfold appD
  rw [hn]
  simp only
  rw [if_pos ⟨by simp [imm], by rw [List.length_map]; simp [szl]; omega⟩, List.map_append]
  rfl
theorem lines_snoc {dn : Bk} {p : Int × Ent} : (dn ++ [p]).map (fun p => lineS p.1 p.2) = dn.map (fun p => lineS p.1 p.2) ++ [lineS p.1 p.2] := by rw [List.map_append]; rfl
theorem app_line {s b : T} {dn : Bk} {p : Int × Ent} (hl : dn.length ≤ 30) : appD 3 (some (.str (lineS p.1 p.2))) [some s, some b, some b, some (.lst ((dn.map fun p => lineS p.1 p.2).map T.str)), some (.int p.1), some (.str (shownS p.2)), none, none, none, none] = .nx [some s, some b, some b, some (.lst (((dn ++ [p]).map fun p => lineS p.1 p.2).map T.str)), some (.int p.1), some (.str (shownS p.2)), none, none, none, none] :=
          app_str lines_snoc rfl (by rw [List.length_map]; omega)
set_option maxHeartbeats 1000000 in
theorem law_true (ns : List Int) (h : ns.length ≤ 63) : f_law [.scr (ns.map T.int)] = some (.bl true) := by
  refine w_eq ?_
  show W _ _ _ _ (D_law [some (.scr (ns.map T.int)), none, none, none, none, none, none, none, none, none])
  unfold D_law
  obtain ⟨_, eb, b, rfl, hb⟩ := book_ex ns h 14 (by omega)
  have eb : f__law_book [.scr (ns.map T.int), .int 14] = some (encB b) := eb
  have g := GB.of hb
  have gs := g.sb
  have hl14 := hb.len
  have hs64 : b.length < 64 := by omega
  have hgD : gDict [encB b] = some (encB b) := rfl
  have ok := bookS_ok gs.rows
  simp only [w_seq, nd_zero, cons_some, Option.bind_some, eb, set_im, w_nx, List.set_cons_succ, List.set_cons_zero, nd_succ, hgD, lst_n0, own_nil, gSorted_b hs64]
  -- the lines
  refine w_cut (P := fun ρ => ∃ x y, ρ = [some (.scr (ns.map T.int)), some (encB b), some (encB b), some (.lst (((sb b).map fun p => lineS p.1 p.2).map T.str)), x, y, none, none, none, none]) ?_ ?_
  · obtain ⟨I, hI⟩ : ∃ I : List T → Env' → Prop, I = fun ts ρ => ∃ (dn rs : Bk) (x y : Option T), dn ++ rs = sb b ∧ ts = (keysB rs).map T.int ∧ ρ = [some (.scr (ns.map T.int)), some (encB b), some (encB b), some (.lst ((dn.map fun p => lineS p.1 p.2).map T.str)), x, y, none, none, none, none] := ⟨_, rfl⟩
    refine w_forS (ts := (keysB (sb b)).map T.int) (by rw [keys_sb]; unfold itF; simp only; rw [if_pos (show immE (.lst _) = true from immL_ints)]; rfl) I ?_ ?_ ?_
    · rw [hI]; exact ⟨[], sb b, none, none, rfl, rfl, rfl⟩
    · intro t ts ρ hi
      rw [hI] at hi
      obtain ⟨dn, rs, x, y, hd, hts, rfl⟩ := hi
      cases rs with
      | nil => cases hts
      | cons p rs =>
        obtain ⟨rfl, rfl⟩ : t = .int p.1 ∧ ts = (keysB rs).map T.int := by unfold keysB at hts ⊢; cases hts; exact ⟨rfl, rfl⟩
        have mp : p ∈ sb b := by rw [← hd]; simp
        have hp := gs.rows p mp
        have ha : at? b p.1 = some p.2 := at_of_mem g.ap ((mem_sb g.ap).mp mp)
        refine ⟨_, rfl, ?_⟩
        have e5 : setD false 5 (some (.str (shownS p.2))) [some (.scr (ns.map T.int)), some (encB b), some (encB b), some (.lst ((dn.map fun p => lineS p.1 p.2).map T.str)), some (.int p.1), y, none, none, none, none] = .nx [some (.scr (ns.map T.int)), some (encB b), some (encB b), some (.lst ((dn.map fun p => lineS p.1 p.2).map T.str)), some (.int p.1), some (.str (shownS p.2)), none, none, none, none] := by
          simp [setD, imm]
        simp only [w_seq, bdN, List.set_cons_succ, List.set_cons_zero, nd_zero, nd_succ, b2_some, subs_book ha, cons_some, Option.bind_some, shown_eq hp.2.2, e5, w_nx]
        have i1 : gIsi [.str (shownS p.2), .raw (.ty "str")] = some (.bl true) := isi_x (n := "str") rfl (by decide +kernel)
        have oks : ∀ c ∈ tl (shownS p.2), c < 1114112 := fun c hc => (shown_mem hp.2.2 c hc).elim (fun z => by omega) fun z => z.lt
        simp only [nd_zero, nd_succ, b2_some, subs_book ha, cons_some, Option.bind_some, line_eq hp.2.2, i1, asB_bl, Option.map_some, Bool.not_true, orD, same_str oks, Bool.xor_true]
        refine w_if rfl (fun hc => by cases hc) (fun _ => ?_)
        have l1 := sI_len (i := p.1) (by omega) (by omega)
        have l2 := hp.2.2.len
        have gk : gStr [.int p.1] = some (.str (sI p.1)) := (pp_int (by omega) (by omega)).str
        have a1 : gAdd (.str (sI p.1)) (.str ": ") = some (.str (sI p.1 ++ ": ")) := add_s (by rw [len_cs]; omega)
        have a2 : gAdd (.str (sI p.1 ++ ": ")) (.str (shownS p.2)) = some (.str (lineS p.1 p.2)) := add_s (by rw [Str.length_append, len_cs]; omega)
        simp only [w_nx, nd_zero, nd_succ, b2_some, subs_book ha, cons_some, Option.bind_some, line_eq hp.2.2, gk, a1, a2]
        have hdl : dn.length ≤ 30 := by
          have := congrArg List.length hd
          have := gs.len
          simp at *; omega
        rw [app_line hdl, w_nx, hI]
        exact ⟨dn ++ [p], rs, _, _, by rw [List.append_assoc]; exact hd, rfl, rfl⟩
    · intro ρ hi
      rw [hI] at hi
      obtain ⟨dn, rs, x, y, hd, hts, rfl⟩ := hi
      have : rs = [] := by
        cases rs with
        | nil => rfl
        | cons p rs => cases hts
      subst this
      rw [List.append_nil] at hd
      subst hd
      exact ⟨x, y, rfl⟩
  · rintro _ ⟨x4, x5, rfl⟩
    have jl : gJoin (.str "\n") (.lst (((sb b).map fun p => lineS p.1 p.2).map T.str)) = some (.str (bookS (sb b))) := gJoin_strs (by have := lines_len gs.rows (by have := gs.len; omega); omega)
    have i1 : gIsi [.str (bookS (sb b)), .raw (.ty "str")] = some (.bl true) := isi_x (n := "str") rfl (by decide +kernel)
    simp only [w_seq, nd_zero, nd_succ, cons_some, Option.bind_some, written_eq g, set_im, w_nx, List.set_cons_succ, List.set_cons_zero, i1, asB_bl, Option.map_some, Bool.not_true, orD, b2_some, jl, same_str ok, eq_gb g, Bool.xor_true]
    refine w_if rfl (fun hc => by cases hc) (fun _ => ?_)
    simp only [w_nx, lst_n0, own_nil, List.set_cons_succ, List.set_cons_zero]
    -- the two turns
    have turn : ∀ (i : Int) (z4 z9 : Option T), ∃ ρ3, (seqD (fun ρ => ifD (orD ((asB ((consD (nd 9 ρ) (consD (some (.raw (.ty "dict"))) (some []))).bind gIsi)).map (!·)) (asB (b2 (gEqA true) ((consD (nd 9 ρ) (some [])).bind gSorted) ((consD (nd 1 ρ) (some [])).bind gSorted))))
        (fun ρ => rtD (some (.bl false)))
        (fun ρ => .nx ρ) ρ)
        (fun ρ => forK (fun kts => kts.map fun p => keyT p.1) (bdN 4)
        (fun ρ => ifD (orD (asB ((consD (nd 4 ρ) (consD (some (.raw (.ty "bool"))) (some []))).bind gIsi)) ((asB ((consD (b2 gSubs (nd 9 ρ) (nd 4 ρ)) (consD (b2 gSubs (nd 1 ρ) (nd 4 ρ)) (some []))).bind (f__law_alike 3))).map (!·)))
        (fun ρ => rtD (some (.bl false)))
        (fun ρ => .nx ρ) ρ) (nd 9 ρ) ρ)) [some (.scr (ns.map T.int)), some (encB b), some (encB b), some (.lst (((sb b).map fun p => lineS p.1 p.2).map T.str)), z4, x5, some (.str (bookS (sb b))), none, some (.int i), some (encB (sb b))] = .nx ρ3 ∧ ∃ w4, ρ3 = [some (.scr (ns.map T.int)), some (encB b), some (encB b), some (.lst (((sb b).map fun p => lineS p.1 p.2).map T.str)), w4, x5, some (.str (bookS (sb b))), none, some (.int i), some (encB (sb b))] := by
      intro i z4 z9
      refine w_nxE ?_
      have hd : gIsi [encB (sb b), .raw (.ty "dict")] = some (.bl true) := isi_x (n := "dict") rfl (by decide +kernel)
      have s1 : gSorted [encB (sb b)] = some (.lst ((sortI (keysB b)).map T.int)) := by
        rw [gSorted_b (by rw [len_sb]; exact hs64), keys_sb, sort_sort]
      simp only [w_seq, nd_zero, nd_succ, cons_some, Option.bind_some, hd, asB_bl, Option.map_some, Bool.not_true, orD, s1, gSorted_b hs64, b2_some, eq_ints, decide_true, Bool.xor_true]
      refine w_if rfl (fun hc => by cases hc) (fun _ => ?_)
      rw [w_nx]
      obtain ⟨I, hI⟩ : ∃ I : List T → Env' → Prop, I = fun ts ρ => (∀ t ∈ ts, ∃ p ∈ sb b, t = .int p.1) ∧ ∃ w4, ρ = [some (.scr (ns.map T.int)), some (encB b), some (encB b), some (.lst (((sb b).map fun p => lineS p.1 p.2).map T.str)), w4, x5, some (.str (bookS (sb b))), none, some (.int i), some (encB (sb b))] := ⟨_, rfl⟩
      refine w_forKS (kts := encK (sb b)) rfl I ?_ ?_ ?_
      · rw [hI]
        refine ⟨fun t mt => ?_, z4, rfl⟩
        obtain ⟨q, mq, rfl⟩ := List.mem_map.mp mt
        obtain ⟨p, mp, rfl⟩ := List.mem_map.mp mq
        exact ⟨p, mp, rfl⟩
      · intro t ts ρ hi
        rw [hI] at hi
        obtain ⟨hts, w4, rfl⟩ := hi
        obtain ⟨p, mp, rfl⟩ := hts t (by simp)
        refine ⟨_, rfl, ?_⟩
        have ha : at? b p.1 = some p.2 := at_of_mem g.ap ((mem_sb g.ap).mp mp)
        have ha2 : at? (sb b) p.1 = some p.2 := at_of_mem gs.ap mp
        have ib : gIsi [.int p.1, .raw (.ty "bool")] = some (.bl false) := isi_x (n := "int") rfl (by decide +kernel)
        simp only [bdN, List.set_cons_succ, List.set_cons_zero, nd_zero, nd_succ, cons_some, Option.bind_some, ib, asB_bl, orD, b2_some, subs_book ha, subs_book ha2, alike_eq (gs.ep p mp), Option.map_some, Bool.not_true]
        refine w_if rfl (fun hc => by cases hc) (fun _ => ?_)
        rw [w_nx, hI]
        exact ⟨fun t mt => hts t (by simp [mt]), _, rfl⟩
      · intro ρ hi
        rw [hI] at hi
        exact hi.2
    have hr2 : rng1 (some (.int 2)) = some [.int 0, .int 1] := by
      rw [rng1_s (by omega)]; rfl
    obtain ⟨ρa, ha, w4, rfl⟩ := turn 0 x4 none
    obtain ⟨ρb, hb2, w5, rfl⟩ := turn 1 none none
    have held : heldD 7 9 [4] (bdN 8) (fun ρ => (consD (nd 6 ρ) (some [])).bind f_read)
        (seqD (fun ρ => ifD (orD ((asB ((consD (nd 9 ρ) (consD (some (.raw (.ty "dict"))) (some []))).bind gIsi)).map (!·)) (asB (b2 (gEqA true) ((consD (nd 9 ρ) (some [])).bind gSorted) ((consD (nd 1 ρ) (some [])).bind gSorted))))
        (fun ρ => rtD (some (.bl false)))
        (fun ρ => .nx ρ) ρ)
        (fun ρ => forK (fun kts => kts.map fun p => keyT p.1) (bdN 4)
        (fun ρ => ifD (orD (asB ((consD (nd 4 ρ) (consD (some (.raw (.ty "bool"))) (some []))).bind gIsi)) ((asB ((consD (b2 gSubs (nd 9 ρ) (nd 4 ρ)) (consD (b2 gSubs (nd 1 ρ) (nd 4 ρ)) (some []))).bind (f__law_alike 3))).map (!·)))
        (fun ρ => rtD (some (.bl false)))
        (fun ρ => .nx ρ) ρ) (nd 9 ρ) ρ)) (fun ρ => tupD (consD (some (.str "undo")) (consD (nd 8 ρ) (some [])))) (fun ρ => some (.int 999)) (rng1 (some (.int 2)))
        [some (.scr (ns.map T.int)), some (encB b), some (encB b), some (.lst (((sb b).map fun p => lineS p.1 p.2).map T.str)), x4, x5, some (.str (bookS (sb b))), some (.lst []), none, none] =
        .nx [some (.scr (ns.map T.int)), some (encB b), some (encB b), some (.lst (((sb b).map fun p => lineS p.1 p.2).map T.str)), none, x5, some (.str (bookS (sb b))), some (.lst [encB (put (sb b) 999 (.undo 0)), encB (put (sb b) 999 (.undo 1))]), some (.int 1), none] := by
      unfold heldD
      rw [hr2]
      simp only [nd_succ, nd_zero, List.set_cons_succ, List.set_cons_zero]
      have hl := gs.len
      rw [held_step (b := sb b) (v := .undo 0) (k := 999) rfl (by simp only [nd_succ, nd_zero, cons_some, Option.bind_some, List.set_cons_succ, List.set_cons_zero]; exact read_eq g) (by decide) (by simp) ha undo_tup rfl gs.ap (by omega)]
      rw [held_step (b := sb b) (v := .undo 1) (k := 999) rfl (by simp only [nd_succ, nd_zero, cons_some, Option.bind_some, List.set_cons_succ, List.set_cons_zero, wipeD]; exact read_eq g) (by simp) (by simp [wipeD]) hb2 undo_tup rfl gs.ap (by omega)]
      rfl
    refine w_of held ?_
    have hs0 : ∀ i : Int, gSubs (encB (put (sb b) 999 (.undo i))) (.int 999) = some (encE (.undo i)) := fun i => subs_book (by rw [at_put, if_pos rfl])
    have hlc := lc_all (bd := bdN 9) (e := fun ρ => b2 gSubs (nd 9 ρ) (some (.int 999))) (ρ := [some (.scr (ns.map T.int)), some (encB b), some (encB b), some (.lst (((sb b).map fun p => lineS p.1 p.2).map T.str)), none, x5, some (.str (bookS (sb b))), some (.lst [encB (put (sb b) 999 (.undo 0)), encB (put (sb b) 999 (.undo 1))]), some (.int 1), none]) (vs := [9]) (o := itD true (some (.lst [encB (put (sb b) 999 (.undo 0)), encB (put (sb b) 999 (.undo 1))]))) [(0 : Int), 1] (fun i => encB (put (sb b) 999 (.undo i))) (fun i => encE (.undo i)) rfl (by decide) (fun i _ => ⟨_, rfl, by
      simp only [wipeD, List.set_cons_succ, List.set_cons_zero, nd_succ, nd_zero, b2_some]
      exact hs0 i⟩) (fun i _ => imm_encE _)
    have hend : gEqA false (.lst [encE (.undo 0), encE (.undo 1)]) (.lst [encE (.undo 0), encE (.undo 1)]) = some (.bl true) := by
      have hd : dOk (.lst [encE (.undo 0), encE (.undo 1)]) = true := dOk_of (n := 3) (by decide +kernel)
      rw [gEqA_data hd hd, eqT_refl]; rfl
    simp only [nd_zero, nd_succ, b2_some, eq_gb g, Bool.false_xor, andV, hlc, undo_t2, cons_some, lst_n2, List.map_cons, List.map_nil, hend, rt_some, w_rt]
end Q
namespace Q
open PySem PySem.Spec PyProof.Rows L2 DL
def topS (i : Nat) : Stmt := PySem.Challenge.pw_saidthen_k13_books_written.main.body.getD i (.Pass ⟨0, 0, 0, 0⟩)
section
variable {P : Program} {w : World} {K : PySem.W.Frag} {mg : Str → Option Value} {base : Heap}
/-! ### is_whole -/
abbrev s_is_whole : Stmt := topS 8
theorem sc_is_whole : FnScope N_is_whole ["thing"] (defScope s_is_whole) := ⟨rfl, rfl, rfl, by decide +kernel, rfl, by decide +kernel, by decide +kernel⟩
theorem nd_is_whole : N_is_whole.Nodup := by decide +kernel
theorem sv_is_whole {ι : Type} {G : ι → Cx} (hG : Fb G K mg base P w N_is_whole (defScope s_is_whole) 0) (m_type : mg "type" = none) (m_int : mg "int" = none) :
    SV K false [] [] [] (TSs G (defBody s_is_whole)) D_is_whole := by
  unfold D_is_whole
  exact (sv_one (sv_ret (ev_cmp (s_eqB hG.toFm) (ev_bltT hG.toFm (c_type hG.toFm.K) m_type (av_cons (ev_var hG.toFm 0) av_nil)) (ev_bltn hG.toFm m_int (v := .ty "int") (by decide +kernel) rfl))))
theorem cl_is_whole {f : Addr} {fd : FuncData} (F : Fun K "is_whole" "is_whole" s_is_whole f fd) (hm : mg "is_whole" = some (.ref f)) (hb : Binds K fd ["thing"] []) (m_type : mg "type" = none) (m_int : mg "int" = none) : Cl P w K mg base 1 "is_whole" (spD K 1 false f_is_whole) :=
  fn_dl (ps := ["thing"]) F sc_is_whole hm hb (fun _ hG => sv_is_whole hG m_type m_int) fun _ _ _ h => h
/-! ### is_number -/
abbrev s_is_number : Stmt := topS 9
theorem sc_is_number : FnScope N_is_number ["thing"] (defScope s_is_number) := ⟨rfl, rfl, rfl, by decide +kernel, rfl, by decide +kernel, by decide +kernel⟩
theorem nd_is_number : N_is_number.Nodup := by decide +kernel
theorem sv_is_number {ι : Type} {G : ι → Cx} (hG : Fb G K mg base P w N_is_number (defScope s_is_number) 1) (c_is_whole : Cl P w K mg base 1 "is_whole" (spD K 1 false f_is_whole)) :
    SV K false [] [] [] (TSs G (defBody s_is_number)) D_is_number := by
  unfold D_is_number
  exact (sv_one (sv_ret (ev_and (ev_call hG.toFm c_is_whole (av_cons (ev_var hG.toFm 0) av_nil)) (ev_one (ev_cmp s_ge (ev_var hG.toFm 0) ev_int)))))
theorem cl_is_number {f : Addr} {fd : FuncData} (F : Fun K "is_number" "is_number" s_is_number f fd) (hm : mg "is_number" = some (.ref f)) (hb : Binds K fd ["thing"] []) (c_is_whole : Cl P w K mg base 1 "is_whole" (spD K 1 false f_is_whole)) : Cl P w K mg base 2 "is_number" (spD K 1 false f_is_number) :=
  fn_dl (ps := ["thing"]) F sc_is_number hm hb (fun _ hG => sv_is_number hG c_is_whole) fun _ _ _ h => h
/-! ### is_name -/
abbrev s_is_name : Stmt := topS 10
theorem sc_is_name : FnScope N_is_name ["thing"] (defScope s_is_name) := ⟨rfl, rfl, rfl, by decide +kernel, rfl, by decide +kernel, by decide +kernel⟩
theorem nd_is_name : N_is_name.Nodup := by decide +kernel
theorem sv_is_name {ι : Type} {G : ι → Cx} {t_LONGEST_NAME : Tok} (hG : Fb G K mg base P w N_is_name (defScope s_is_name) 0) (m_type : mg "type" = none) (m_str : mg "str" = none) (m_len : mg "len" = none) (m_all : mg "all" = none) (g_LONGEST_NAME : mg "LONGEST_NAME" = some (.int 8 t_LONGEST_NAME)) :
    SV K false [] [] [] (TSs G (defBody s_is_name)) D_is_name := by
  unfold D_is_name
  exact (sv_cons (sv_if (BW.bv (bw_or (bv_cmp (s_neB hG.toFm) (ev_bltT hG.toFm (c_type hG.toFm.K) m_type (av_cons (ev_var hG.toFm 0) av_nil)) (ev_bltn hG.toFm m_str (v := .ty "str") (by decide +kernel) rfl)) (bw_or1 (bv_not (bv_chain s_le s_le ev_int (ev_bltF hG.toFm (c_len hG.toFm.K) m_len (av_cons (ev_var hG.toFm 0) av_nil)) (ev_glob hG.toFm g_LONGEST_NAME (v := .int 8) ⟨_, rfl⟩ (fun _ => rep_int.mpr rfl)))))))
    (sv_one (sv_ret ev_bl))
    sv_nil)
  (sv_one (sv_ret (ev_bltF hG.toFm (c_all hG.toFm) m_all (av_cons (EVF.ev (evf_lc hG.toFm nd_is_name [("sign", 1)] (iv_val hG.toFm.K (ev_var hG.toFm 0)) (tv_nameB hG.toFm nd_is_name _ 1 (by decide)) cv_nil (ev_chain s_le s_le ev_str (ev_var (fm_blk hG.toFm _) 1) ev_str))) av_nil)))))
theorem cl_is_name {t_LONGEST_NAME : Tok} {f : Addr} {fd : FuncData} (F : Fun K "is_name" "is_name" s_is_name f fd) (hm : mg "is_name" = some (.ref f)) (hb : Binds K fd ["thing"] []) (m_type : mg "type" = none) (m_str : mg "str" = none) (m_len : mg "len" = none) (m_all : mg "all" = none) (g_LONGEST_NAME : mg "LONGEST_NAME" = some (.int 8 t_LONGEST_NAME)) : Cl P w K mg base 1 "is_name" (spD K 1 false f_is_name) :=
  fn_dl (ps := ["thing"]) F sc_is_name hm hb (fun _ hG => sv_is_name hG m_type m_str m_len m_all g_LONGEST_NAME) fun _ _ _ h => h
/-! ### is_day -/
abbrev s_is_day : Stmt := topS 11
theorem sc_is_day : FnScope N_is_day ["thing"] (defScope s_is_day) := ⟨rfl, rfl, rfl, by decide +kernel, rfl, by decide +kernel, by decide +kernel⟩
theorem nd_is_day : N_is_day.Nodup := by decide +kernel
theorem sv_is_day {ι : Type} {G : ι → Cx} {t_LAST_DAY : Tok} (hG : Fb G K mg base P w N_is_day (defScope s_is_day) 1) (g_LAST_DAY : mg "LAST_DAY" = some (.int 1000000 t_LAST_DAY)) (c_is_whole : Cl P w K mg base 1 "is_whole" (spD K 1 false f_is_whole)) :
    SV K false [] [] [] (TSs G (defBody s_is_day)) D_is_day := by
  unfold D_is_day
  exact (sv_one (sv_ret (ev_and (ev_call hG.toFm c_is_whole (av_cons (ev_var hG.toFm 0) av_nil)) (ev_one (ev_chain s_le s_le ev_int (ev_var hG.toFm 0) (ev_glob hG.toFm g_LAST_DAY (v := .int 1000000) ⟨_, rfl⟩ (fun _ => rep_int.mpr rfl)))))))
theorem cl_is_day {t_LAST_DAY : Tok} {f : Addr} {fd : FuncData} (F : Fun K "is_day" "is_day" s_is_day f fd) (hm : mg "is_day" = some (.ref f)) (hb : Binds K fd ["thing"] []) (g_LAST_DAY : mg "LAST_DAY" = some (.int 1000000 t_LAST_DAY)) (c_is_whole : Cl P w K mg base 1 "is_whole" (spD K 1 false f_is_whole)) : Cl P w K mg base 2 "is_day" (spD K 1 false f_is_day) :=
  fn_dl (ps := ["thing"]) F sc_is_day hm hb (fun _ hG => sv_is_day hG g_LAST_DAY c_is_whole) fun _ _ _ h => h
/-! ### is_worth -/
abbrev s_is_worth : Stmt := topS 12
theorem sc_is_worth : FnScope N_is_worth ["thing"] (defScope s_is_worth) := ⟨rfl, rfl, rfl, by decide +kernel, rfl, by decide +kernel, by decide +kernel⟩
theorem nd_is_worth : N_is_worth.Nodup := by decide +kernel
theorem sv_is_worth {ι : Type} {G : ι → Cx} {t_GREATEST_WORTH : Tok} (hG : Fb G K mg base P w N_is_worth (defScope s_is_worth) 1) (g_GREATEST_WORTH : mg "GREATEST_WORTH" = some (.int 1000000000 t_GREATEST_WORTH)) (c_is_whole : Cl P w K mg base 1 "is_whole" (spD K 1 false f_is_whole)) :
    SV K false [] [] [] (TSs G (defBody s_is_worth)) D_is_worth := by
  unfold D_is_worth
  exact (sv_one (sv_ret (ev_and (ev_call hG.toFm c_is_whole (av_cons (ev_var hG.toFm 0) av_nil)) (ev_one (ev_chain s_le s_le (ev_neg (ev_glob hG.toFm g_GREATEST_WORTH (v := .int 1000000000) ⟨_, rfl⟩ (fun _ => rep_int.mpr rfl))) (ev_var hG.toFm 0) (ev_glob hG.toFm g_GREATEST_WORTH (v := .int 1000000000) ⟨_, rfl⟩ (fun _ => rep_int.mpr rfl)))))))
theorem cl_is_worth {t_GREATEST_WORTH : Tok} {f : Addr} {fd : FuncData} (F : Fun K "is_worth" "is_worth" s_is_worth f fd) (hm : mg "is_worth" = some (.ref f)) (hb : Binds K fd ["thing"] []) (g_GREATEST_WORTH : mg "GREATEST_WORTH" = some (.int 1000000000 t_GREATEST_WORTH)) (c_is_whole : Cl P w K mg base 1 "is_whole" (spD K 1 false f_is_whole)) : Cl P w K mg base 2 "is_worth" (spD K 1 false f_is_worth) :=
  fn_dl (ps := ["thing"]) F sc_is_worth hm hb (fun _ hG => sv_is_worth hG g_GREATEST_WORTH c_is_whole) fun _ _ _ h => h
/-! ### are_days -/
abbrev s_are_days : Stmt := topS 13
theorem sc_are_days : FnScope N_are_days ["low", "high"] (defScope s_are_days) := ⟨rfl, rfl, rfl, by decide +kernel, rfl, by decide +kernel, by decide +kernel⟩
theorem nd_are_days : N_are_days.Nodup := by decide +kernel
theorem sv_are_days {ι : Type} {G : ι → Cx} (hG : Fb G K mg base P w N_are_days (defScope s_are_days) 2) (c_is_day : Cl P w K mg base 2 "is_day" (spD K 1 false f_is_day)) :
    SV K false [] [] [] (TSs G (defBody s_are_days)) D_are_days := by
  unfold D_are_days
  exact (sv_one (sv_ret (ev_and (ev_call hG.toFm c_is_day (av_cons (ev_var hG.toFm 0) av_nil)) (ev_and (ev_call hG.toFm c_is_day (av_cons (ev_var hG.toFm 1) av_nil)) (ev_one (ev_cmp s_le (ev_var hG.toFm 0) (ev_var hG.toFm 1)))))))
theorem cl_are_days {f : Addr} {fd : FuncData} (F : Fun K "are_days" "are_days" s_are_days f fd) (hm : mg "are_days" = some (.ref f)) (hb : Binds K fd ["low", "high"] []) (c_is_day : Cl P w K mg base 2 "is_day" (spD K 1 false f_is_day)) : Cl P w K mg base 3 "are_days" (spD K 2 false f_are_days) :=
  fn_dl (ps := ["low", "high"]) F sc_are_days hm hb (fun _ hG => sv_are_days hG c_is_day) fun _ _ _ h => h
/-! ### is_tell -/
abbrev s_is_tell : Stmt := topS 14
theorem sc_is_tell : FnScope N_is_tell ["entry"] (defScope s_is_tell) := ⟨rfl, rfl, rfl, by decide +kernel, rfl, by decide +kernel, by decide +kernel⟩
theorem nd_is_tell : N_is_tell.Nodup := by decide +kernel
theorem sv_is_tell {ι : Type} {G : ι → Cx} (hG : Fb G K mg base P w N_is_tell (defScope s_is_tell) 3) (m_len : mg "len" = none) (c_is_name : Cl P w K mg base 1 "is_name" (spD K 1 false f_is_name)) (c_are_days : Cl P w K mg base 3 "are_days" (spD K 2 false f_are_days)) (c_is_worth : Cl P w K mg base 2 "is_worth" (spD K 1 false f_is_worth)) :
    SV K false [] [] [] (TSs G (defBody s_is_tell)) D_is_tell := by
  unfold D_is_tell
  exact (sv_cons (sv_if (bv_cmp (s_neA hG.toFm) (ev_bltF hG.toFm (c_len hG.toFm.K) m_len (av_cons (ev_var hG.toFm 0) av_nil)) ev_int)
    (sv_one (sv_ret ev_bl))
    sv_nil)
  (sv_cons (sv_unp (ev_var hG.toFm 0) (tv_tup hG.toFm (tvs_cons (tv_name hG.toFm nd_is_tell hG.fb 1 (by decide)) (tvs_cons (tv_name hG.toFm nd_is_tell hG.fb 2 (by decide)) (tvs_cons (tv_name hG.toFm nd_is_tell hG.fb 3 (by decide)) (tvs_cons (tv_name hG.toFm nd_is_tell hG.fb 4 (by decide)) (tvs_cons (tv_name hG.toFm nd_is_tell hG.fb 5 (by decide)) tvs_nil)))))))
  (sv_one (sv_ret (ev_and (ev_call hG.toFm c_is_name (av_cons (ev_var hG.toFm 2) av_nil)) (ev_and (ev_call hG.toFm c_are_days (av_cons (ev_var hG.toFm 3) (av_cons (ev_var hG.toFm 4) av_nil))) (ev_one (ev_call hG.toFm c_is_worth (av_cons (ev_var hG.toFm 5) av_nil)))))))))
theorem cl_is_tell {f : Addr} {fd : FuncData} (F : Fun K "is_tell" "is_tell" s_is_tell f fd) (hm : mg "is_tell" = some (.ref f)) (hb : Binds K fd ["entry"] []) (m_len : mg "len" = none) (c_is_name : Cl P w K mg base 1 "is_name" (spD K 1 false f_is_name)) (c_are_days : Cl P w K mg base 3 "are_days" (spD K 2 false f_are_days)) (c_is_worth : Cl P w K mg base 2 "is_worth" (spD K 1 false f_is_worth)) : Cl P w K mg base 4 "is_tell" (spD K 1 false f_is_tell) :=
  fn_dl (ps := ["entry"]) F sc_is_tell hm hb (fun _ hG => sv_is_tell hG m_len c_is_name c_are_days c_is_worth) fun _ _ _ h => h
/-! ### is_clear -/
abbrev s_is_clear : Stmt := topS 15
theorem sc_is_clear : FnScope N_is_clear ["entry"] (defScope s_is_clear) := ⟨rfl, rfl, rfl, by decide +kernel, rfl, by decide +kernel, by decide +kernel⟩
theorem nd_is_clear : N_is_clear.Nodup := by decide +kernel
theorem sv_is_clear {ι : Type} {G : ι → Cx} (hG : Fb G K mg base P w N_is_clear (defScope s_is_clear) 3) (m_len : mg "len" = none) (c_is_name : Cl P w K mg base 1 "is_name" (spD K 1 false f_is_name)) (c_are_days : Cl P w K mg base 3 "are_days" (spD K 2 false f_are_days)) :
    SV K false [] [] [] (TSs G (defBody s_is_clear)) D_is_clear := by
  unfold D_is_clear
  exact (sv_cons (sv_if (bv_cmp (s_neA hG.toFm) (ev_bltF hG.toFm (c_len hG.toFm.K) m_len (av_cons (ev_var hG.toFm 0) av_nil)) ev_int)
    (sv_one (sv_ret ev_bl))
    sv_nil)
  (sv_cons (sv_unp (ev_var hG.toFm 0) (tv_tup hG.toFm (tvs_cons (tv_name hG.toFm nd_is_clear hG.fb 1 (by decide)) (tvs_cons (tv_name hG.toFm nd_is_clear hG.fb 2 (by decide)) (tvs_cons (tv_name hG.toFm nd_is_clear hG.fb 3 (by decide)) (tvs_cons (tv_name hG.toFm nd_is_clear hG.fb 4 (by decide)) tvs_nil))))))
  (sv_one (sv_ret (ev_and (ev_call hG.toFm c_is_name (av_cons (ev_var hG.toFm 2) av_nil)) (ev_one (ev_call hG.toFm c_are_days (av_cons (ev_var hG.toFm 3) (av_cons (ev_var hG.toFm 4) av_nil)))))))))
theorem cl_is_clear {f : Addr} {fd : FuncData} (F : Fun K "is_clear" "is_clear" s_is_clear f fd) (hm : mg "is_clear" = some (.ref f)) (hb : Binds K fd ["entry"] []) (m_len : mg "len" = none) (c_is_name : Cl P w K mg base 1 "is_name" (spD K 1 false f_is_name)) (c_are_days : Cl P w K mg base 3 "are_days" (spD K 2 false f_are_days)) : Cl P w K mg base 4 "is_clear" (spD K 1 false f_is_clear) :=
  fn_dl (ps := ["entry"]) F sc_is_clear hm hb (fun _ hG => sv_is_clear hG m_len c_is_name c_are_days) fun _ _ _ h => h
/-! ### is_like -/
abbrev s_is_like : Stmt := topS 16
theorem sc_is_like : FnScope N_is_like ["entry"] (defScope s_is_like) := ⟨rfl, rfl, rfl, by decide +kernel, rfl, by decide +kernel, by decide +kernel⟩
theorem nd_is_like : N_is_like.Nodup := by decide +kernel
theorem sv_is_like {ι : Type} {G : ι → Cx} (hG : Fb G K mg base P w N_is_like (defScope s_is_like) 3) (m_len : mg "len" = none) (c_is_name : Cl P w K mg base 1 "is_name" (spD K 1 false f_is_name)) (c_are_days : Cl P w K mg base 3 "are_days" (spD K 2 false f_are_days)) :
    SV K false [] [] [] (TSs G (defBody s_is_like)) D_is_like := by
  unfold D_is_like
  exact (sv_cons (sv_if (bv_cmp (s_neA hG.toFm) (ev_bltF hG.toFm (c_len hG.toFm.K) m_len (av_cons (ev_var hG.toFm 0) av_nil)) ev_int)
    (sv_one (sv_ret ev_bl))
    sv_nil)
  (sv_cons (sv_unp (ev_var hG.toFm 0) (tv_tup hG.toFm (tvs_cons (tv_name hG.toFm nd_is_like hG.fb 1 (by decide)) (tvs_cons (tv_name hG.toFm nd_is_like hG.fb 2 (by decide)) (tvs_cons (tv_name hG.toFm nd_is_like hG.fb 3 (by decide)) (tvs_cons (tv_name hG.toFm nd_is_like hG.fb 4 (by decide)) (tvs_cons (tv_name hG.toFm nd_is_like hG.fb 5 (by decide)) tvs_nil)))))))
  (sv_one (sv_ret (ev_and (ev_call hG.toFm c_is_name (av_cons (ev_var hG.toFm 2) av_nil)) (ev_and (ev_call hG.toFm c_are_days (av_cons (ev_var hG.toFm 3) (av_cons (ev_var hG.toFm 4) av_nil))) (ev_one (ev_call hG.toFm c_is_name (av_cons (ev_var hG.toFm 5) av_nil)))))))))
theorem cl_is_like {f : Addr} {fd : FuncData} (F : Fun K "is_like" "is_like" s_is_like f fd) (hm : mg "is_like" = some (.ref f)) (hb : Binds K fd ["entry"] []) (m_len : mg "len" = none) (c_is_name : Cl P w K mg base 1 "is_name" (spD K 1 false f_is_name)) (c_are_days : Cl P w K mg base 3 "are_days" (spD K 2 false f_are_days)) : Cl P w K mg base 4 "is_like" (spD K 1 false f_is_like) :=
  fn_dl (ps := ["entry"]) F sc_is_like hm hb (fun _ hG => sv_is_like hG m_len c_is_name c_are_days) fun _ _ _ h => h
/-! ### is_undo -/
abbrev s_is_undo : Stmt := topS 17
theorem sc_is_undo : FnScope N_is_undo ["entry"] (defScope s_is_undo) := ⟨rfl, rfl, rfl, by decide +kernel, rfl, by decide +kernel, by decide +kernel⟩
theorem nd_is_undo : N_is_undo.Nodup := by decide +kernel
theorem sv_is_undo {ι : Type} {G : ι → Cx} (hG : Fb G K mg base P w N_is_undo (defScope s_is_undo) 2) (m_len : mg "len" = none) (c_is_number : Cl P w K mg base 2 "is_number" (spD K 1 false f_is_number)) :
    SV K false [] [] [] (TSs G (defBody s_is_undo)) D_is_undo := by
  unfold D_is_undo
  exact (sv_one (sv_ret (ev_and (ev_cmp (s_eqA hG.toFm) (ev_bltF hG.toFm (c_len hG.toFm.K) m_len (av_cons (ev_var hG.toFm 0) av_nil)) ev_int) (ev_one (ev_call hG.toFm c_is_number (av_cons (ev_sub hG.toFm (ev_var hG.toFm 0) ev_int) av_nil))))))
theorem cl_is_undo {f : Addr} {fd : FuncData} (F : Fun K "is_undo" "is_undo" s_is_undo f fd) (hm : mg "is_undo" = some (.ref f)) (hb : Binds K fd ["entry"] []) (m_len : mg "len" = none) (c_is_number : Cl P w K mg base 2 "is_number" (spD K 1 false f_is_number)) : Cl P w K mg base 3 "is_undo" (spD K 1 false f_is_undo) :=
  fn_dl (ps := ["entry"]) F sc_is_undo hm hb (fun _ hG => sv_is_undo hG m_len c_is_number) fun _ _ _ h => h
/-! ### is_entry -/
abbrev s_is_entry : Stmt := topS 19
theorem sc_is_entry : FnScope N_is_entry ["thing"] (defScope s_is_entry) := ⟨rfl, rfl, rfl, by decide +kernel, rfl, by decide +kernel, by decide +kernel⟩
theorem nd_is_entry : N_is_entry.Nodup := by decide +kernel
theorem sv_is_entry {ι : Type} {G : ι → Cx}{dF f1 f2 f3 f4 : Addr} (hG : Fb G K mg base P w N_is_entry (defScope s_is_entry) 4) (m_type : mg "type" = none) (m_tuple : mg "tuple" = none) (m_len : mg "len" = none) (m_str : mg "str" = none) (hT : KTab K w dF (tab4 "tell" "clear" "like" "undo" f1 f2 f3 f4)) (g_FORMS : mg "FORMS" = some (.ref dF)) (hF : ∀ z f φ, (tab4 "tell" "clear" "like" "undo" f1 f2 f3 f4).lookup z = some f → formsF z = some φ → ClA P w K mg base 4 f (spD K 1 false φ)) :
    SV K false [] [] [] (TSs G (defBody s_is_entry)) (D_is_entry dF (tab4 "tell" "clear" "like" "undo" f1 f2 f3 f4)) := by
  unfold D_is_entry
  exact (sv_cons (sv_if (BW.bv (bw_or (bv_cmp (s_neB hG.toFm) (ev_bltT hG.toFm (c_type hG.toFm.K) m_type (av_cons (ev_var hG.toFm 0) av_nil)) (ev_bltn hG.toFm m_tuple (v := .ty "tuple") (by decide +kernel) rfl)) (bw_or1 (bv_cmp (s_eqA hG.toFm) (ev_bltF hG.toFm (c_len hG.toFm.K) m_len (av_cons (ev_var hG.toFm 0) av_nil)) ev_int))))
    (sv_one (sv_ret ev_bl))
    sv_nil)
  (sv_cons ((sv_set hG.toFm nd_is_entry hG.fb 1 (by decide) (ev_sub hG.toFm (ev_var hG.toFm 0) ev_int)))
  (sv_cons (sv_if (BW.bv (bw_or (bv_cmp (s_neB hG.toFm) (ev_bltT hG.toFm (c_type hG.toFm.K) m_type (av_cons (ev_var hG.toFm 1) av_nil)) (ev_bltn hG.toFm m_str (v := .ty "str") (by decide +kernel) rfl)) (bw_or1 (bv_cmp (s_notInK hG.toFm hT) (ev_var hG.toFm 1) (ev_glob hG.toFm g_FORMS (v := .ref dF) rfl (fun _ => rep_raw.mpr rfl))))))
    (sv_one (sv_ret ev_bl))
    sv_nil)
  (sv_cons ((sv_set hG.toFm nd_is_entry hG.fb 2 (by decide) (ev_itemK hG.toFm hT (ev_glob hG.toFm g_FORMS (v := .ref dF) rfl (fun _ => rep_raw.mpr rfl)) (ev_var hG.toFm 1))))
  (sv_one (sv_ret (ev_callAt (m := 4) hG.toFm 1 2 hF (av_cons (ev_var hG.toFm 0) av_nil))))))))
theorem cl_is_entry {f dF f1 f2 f3 f4 : Addr} {fd : FuncData} (F : Fun K "is_entry" "is_entry" s_is_entry f fd) (hm : mg "is_entry" = some (.ref f)) (hb : Binds K fd ["thing"] []) (m_type : mg "type" = none) (m_tuple : mg "tuple" = none) (m_len : mg "len" = none) (m_str : mg "str" = none) (hT : KTab K w dF (tab4 "tell" "clear" "like" "undo" f1 f2 f3 f4)) (g_FORMS : mg "FORMS" = some (.ref dF)) (c_is_tell : Cl P w K mg base 4 "is_tell" (spD K 1 false f_is_tell)) (g_is_tell : mg "is_tell" = some (.ref f1)) (c_is_clear : Cl P w K mg base 4 "is_clear" (spD K 1 false f_is_clear)) (g_is_clear : mg "is_clear" = some (.ref f2)) (c_is_like : Cl P w K mg base 4 "is_like" (spD K 1 false f_is_like)) (g_is_like : mg "is_like" = some (.ref f3)) (c_is_undo : Cl P w K mg base 3 "is_undo" (spD K 1 false f_is_undo)) (g_is_undo : mg "is_undo" = some (.ref f4)) : Cl P w K mg base 5 "is_entry" (spD K 1 false f_is_entry) :=
  fn_dl (ps := ["thing"]) F sc_is_entry hm hb (fun _ hG => sv_is_entry hG m_type m_tuple m_len m_str hT g_FORMS (forms_cl c_is_tell c_is_clear c_is_like c_is_undo g_is_tell g_is_clear g_is_like g_is_undo)) fun ts hl τ h => is_entry_ref ts hl τ h
/-! ### may_stand -/
abbrev s_may_stand : Stmt := topS 20
theorem sc_may_stand : FnScope N_may_stand ["number", "entry"] (defScope s_may_stand) := ⟨rfl, rfl, rfl, by decide +kernel, rfl, by decide +kernel, by decide +kernel⟩
theorem nd_may_stand : N_may_stand.Nodup := by decide +kernel
theorem sv_may_stand {ι : Type} {G : ι → Cx} (hG : Fb G K mg base P w N_may_stand (defScope s_may_stand) 5) (c_is_number : Cl P w K mg base 2 "is_number" (spD K 1 false f_is_number)) (c_is_entry : Cl P w K mg base 5 "is_entry" (spD K 1 false f_is_entry)) :
    SV K false [] [] [] (TSs G (defBody s_may_stand)) D_may_stand := by
  unfold D_may_stand
  exact (sv_cons (sv_if (BW.bv (bw_or (bv_not (bv_val (ev_call hG.toFm c_is_number (av_cons (ev_var hG.toFm 0) av_nil)))) (bw_or1 (bv_not (bv_val (ev_call hG.toFm c_is_entry (av_cons (ev_var hG.toFm 1) av_nil)))))))
    (sv_one (sv_ret ev_bl))
    sv_nil)
  (sv_one (sv_ret (ev_or (ev_cmp (s_neA hG.toFm) (ev_sub hG.toFm (ev_var hG.toFm 1) ev_int) ev_str) (ev_one (ev_cmp s_lt (ev_sub hG.toFm (ev_var hG.toFm 1) ev_int) (ev_var hG.toFm 0)))))))
theorem cl_may_stand {f : Addr} {fd : FuncData} (F : Fun K "may_stand" "may_stand" s_may_stand f fd) (hm : mg "may_stand" = some (.ref f)) (hb : Binds K fd ["number", "entry"] []) (c_is_number : Cl P w K mg base 2 "is_number" (spD K 1 false f_is_number)) (c_is_entry : Cl P w K mg base 5 "is_entry" (spD K 1 false f_is_entry)) : Cl P w K mg base 6 "may_stand" (spD K 2 false f_may_stand) :=
  fn_dl (ps := ["number", "entry"]) F sc_may_stand hm hb (fun _ hG => sv_may_stand hG c_is_number c_is_entry) fun _ _ _ h => h
/-! ### is_book -/
abbrev s_is_book : Stmt := topS 21
theorem sc_is_book : FnScope N_is_book ["thing"] (defScope s_is_book) := ⟨rfl, rfl, rfl, by decide +kernel, rfl, by decide +kernel, by decide +kernel⟩
theorem nd_is_book : N_is_book.Nodup := by decide +kernel
theorem sv_is_book {ι : Type} {G : ι → Cx} {t_MOST : Tok} (hG : Fb G K mg base P w N_is_book (defScope s_is_book) 6) (m_type : mg "type" = none) (m_dict : mg "dict" = none) (m_len : mg "len" = none) (m_all : mg "all" = none) (g_MOST : mg "MOST" = some (.int 30 t_MOST)) (c_may_stand : Cl P w K mg base 6 "may_stand" (spD K 2 false f_may_stand)) :
    SV K false [] [] [] (TSs G (defBody s_is_book)) D_is_book := by
  unfold D_is_book
  exact (sv_cons (sv_if (BW.bv (bw_or (bv_cmp (s_neB hG.toFm) (ev_bltT hG.toFm (c_type hG.toFm.K) m_type (av_cons (ev_var hG.toFm 0) av_nil)) (ev_bltn hG.toFm m_dict (v := .ty "dict") (by decide +kernel) rfl)) (bw_or1 (bv_cmp s_gt (ev_bltF hG.toFm (c_len hG.toFm.K) m_len (av_cons (ev_var hG.toFm 0) av_nil)) (ev_glob hG.toFm g_MOST (v := .int 30) ⟨_, rfl⟩ (fun _ => rep_int.mpr rfl))))))
    (sv_one (sv_ret ev_bl))
    sv_nil)
  (sv_one (sv_ret (ev_bltF hG.toFm (c_all hG.toFm) m_all (av_cons (EVF.ev (evf_lcK hG.toFm nd_is_book [("number", 1), ("entry", 2)] 0 (ki_items hG.toFm 0) (tv_tup (fm_blk hG.toFm _) (tvs_cons (tv_nameB hG.toFm nd_is_book _ 1 (by decide)) (tvs_cons (tv_nameB hG.toFm nd_is_book _ 2 (by decide)) tvs_nil))) cv_nil (ev_call (fm_blk hG.toFm _) c_may_stand (av_cons (ev_var (fm_blk hG.toFm _) 1) (av_cons (ev_var (fm_blk hG.toFm _) 2) av_nil))))) av_nil)))))
theorem cl_is_book {t_MOST : Tok} {f : Addr} {fd : FuncData} (F : Fun K "is_book" "is_book" s_is_book f fd) (hm : mg "is_book" = some (.ref f)) (hb : Binds K fd ["thing"] []) (m_type : mg "type" = none) (m_dict : mg "dict" = none) (m_len : mg "len" = none) (m_all : mg "all" = none) (g_MOST : mg "MOST" = some (.int 30 t_MOST)) (c_may_stand : Cl P w K mg base 6 "may_stand" (spD K 2 false f_may_stand)) : Cl P w K mg base 7 "is_book" (spD K 1 false f_is_book) :=
  fn_dl (ps := ["thing"]) F sc_is_book hm hb (fun _ hG => sv_is_book hG m_type m_dict m_len m_all g_MOST c_may_stand) fun _ _ _ h => h
/-! ### shown -/
abbrev s_shown : Stmt := topS 23
theorem sc_shown : FnScope N_shown ["entry"] (defScope s_shown) := ⟨rfl, rfl, rfl, by decide +kernel, rfl, by decide +kernel, by decide +kernel⟩
theorem nd_shown : N_shown.Nodup := by decide +kernel
theorem sv_shown {ι : Type} {G : ι → Cx} (hG : Fb G K mg base P w N_shown (defScope s_shown) 0) (m_str : mg "str" = none) :
    SV K false [] [] [] (TSs G (defBody s_shown)) D_shown := by
  unfold D_shown
  exact (sv_one (sv_ret (ev_join hG.toFm ev_str (EVF.ev (evf_lc hG.toFm nd_shown [("part", 1)] (iv_val hG.toFm.K (ev_var hG.toFm 0)) (tv_nameB hG.toFm nd_shown _ 1 (by decide)) cv_nil (ev_bltT (fm_blk hG.toFm _) c_str m_str (av_cons (ev_var (fm_blk hG.toFm _) 1) av_nil)))))))
theorem cl_shown {f : Addr} {fd : FuncData} (F : Fun K "shown" "shown" s_shown f fd) (hm : mg "shown" = some (.ref f)) (hb : Binds K fd ["entry"] []) (m_str : mg "str" = none) : Cl P w K mg base 1 "shown" (spD K 1 false f_shown) :=
  fn_dl (ps := ["entry"]) F sc_shown hm hb (fun _ hG => sv_shown hG m_str) fun _ _ _ h => h
/-! ### written -/
abbrev s_written : Stmt := topS 24
theorem sc_written : FnScope N_written ["book"] (defScope s_written) := ⟨rfl, rfl, rfl, by decide +kernel, rfl, by decide +kernel, by decide +kernel⟩
theorem nd_written : N_written.Nodup := by decide +kernel
theorem sv_written {ι : Type} {G : ι → Cx} (hG : Fb G K mg base P w N_written (defScope s_written) 1) (m_sorted : mg "sorted" = none) (c_shown : Cl P w K mg base 1 "shown" (spD K 1 false f_shown)) :
    SV K false [] [] [] (TSs G (defBody s_written)) D_written := by
  unfold D_written
  exact (sv_one (sv_ret (ev_join hG.toFm ev_str (EVF.ev (evf_lc hG.toFm nd_written [("number", 1)] (iv_val hG.toFm.K (EVF.ev (evf_bltF hG.toFm (c_sorted hG.toFm) m_sorted (av_cons (ev_var hG.toFm 0) av_nil)))) (tv_nameB hG.toFm nd_written _ 1 (by decide)) cv_nil (ev_js3 (ev_fmt (ev_var (fm_blk hG.toFm _) 1)) ev_str (ev_fmt (ev_call (fm_blk hG.toFm _) c_shown (av_cons (ev_sub (fm_blk hG.toFm _) (ev_var (fm_blk hG.toFm _) 0) (ev_var (fm_blk hG.toFm _) 1)) av_nil)))))))))
theorem cl_written {f : Addr} {fd : FuncData} (F : Fun K "written" "written" s_written f fd) (hm : mg "written" = some (.ref f)) (hb : Binds K fd ["book"] []) (m_sorted : mg "sorted" = none) (c_shown : Cl P w K mg base 1 "shown" (spD K 1 false f_shown)) : Cl P w K mg base 2 "written" (spD K 1 false f_written) :=
  fn_dl (ps := ["book"]) F sc_written hm hb (fun _ hG => sv_written hG m_sorted c_shown) fun _ _ _ h => h
/-! ### part_of -/
abbrev s_part_of : Stmt := topS 25
theorem sc_part_of : FnScope N_part_of ["word"] (defScope s_part_of) := ⟨rfl, rfl, rfl, by decide +kernel, rfl, by decide +kernel, by decide +kernel⟩
theorem nd_part_of : N_part_of.Nodup := by decide +kernel
theorem sv_part_of {ι : Type} {G : ι → Cx} (hG : Fb G K mg base P w N_part_of (defScope s_part_of) 0) (m_all : mg "all" = none) (m_int : mg "int" = none) :
    SV K false [] [] [] (TSs G (defBody s_part_of)) D_part_of := by
  unfold D_part_of
  exact (sv_cons ((sv_set hG.toFm nd_part_of hG.fb 1 (by decide) (ev_if (bv_val (ev_starts (ev_var hG.toFm 0) ev_str)) (ev_slc hG.toFm.K (ev_var hG.toFm 0) (pv_some ev_int) pv_none) (ev_var hG.toFm 0))))
  (sv_cons (sv_if (BW.bv (bw_or (bv_cmp (s_eqA hG.toFm) (ev_var hG.toFm 1) ev_str) (bw_or1 (bv_not (bv_val (ev_bltF hG.toFm (c_all hG.toFm) m_all (av_cons (EVF.ev (evf_lc hG.toFm nd_part_of [("sign", 2)] (iv_val hG.toFm.K (ev_var hG.toFm 1)) (tv_nameB hG.toFm nd_part_of _ 2 (by decide)) cv_nil (ev_chain s_le s_le ev_str (ev_var (fm_blk hG.toFm _) 2) ev_str))) av_nil)))))))
    (sv_one (sv_ret (ev_var hG.toFm 0)))
    sv_nil)
  (sv_one (sv_ret (ev_bltT hG.toFm c_intS m_int (av_cons (ev_var hG.toFm 0) av_nil))))))
theorem cl_part_of {f : Addr} {fd : FuncData} (F : Fun K "part_of" "part_of" s_part_of f fd) (hm : mg "part_of" = some (.ref f)) (hb : Binds K fd ["word"] []) (m_all : mg "all" = none) (m_int : mg "int" = none) : Cl P w K mg base 1 "part_of" (spD K 1 false f_part_of) :=
  fn_dl (ps := ["word"]) F sc_part_of hm hb (fun _ hG => sv_part_of hG m_all m_int) fun _ _ _ h => h
/-! ### taken_apart -/
abbrev s_taken_apart : Stmt := topS 26
theorem sc_taken_apart : FnScope N_taken_apart ["text"] (defScope s_taken_apart) := ⟨rfl, rfl, rfl, by decide +kernel, rfl, by decide +kernel, by decide +kernel⟩
theorem nd_taken_apart : N_taken_apart.Nodup := by decide +kernel
theorem sv_taken_apart {ι : Type} {G : ι → Cx} (hG : Fb G K mg base P w N_taken_apart (defScope s_taken_apart) 1) (m_tuple : mg "tuple" = none) (c_part_of : Cl P w K mg base 1 "part_of" (spD K 1 false f_part_of)) :
    SV K true [] [] [] (TSs G (defBody s_taken_apart)) D_taken_apart := by
  unfold D_taken_apart
  exact (sv_cons ((sv_setO hG.toFm nd_taken_apart hG.fb 1 (by decide) evf_dict0))
  (sv_cons ((sv_forI hG.toFm hG.po (iv_new hG.toFm.K (evf_split (ev_var hG.toFm 0) ev_str)) (tv_name hG.toFm nd_taken_apart hG.fb 2 (by decide))
    (sv_cons (sv_unp (ev_part (ev_var hG.toFm 2) ev_str) (tv_tup hG.toFm (tvs_cons (tv_name hG.toFm nd_taken_apart hG.fb 3 (by decide)) (tvs_cons (tv_name hG.toFm nd_taken_apart hG.fb 4 (by decide)) (tvs_cons (tv_name hG.toFm nd_taken_apart hG.fb 5 (by decide)) tvs_nil)))))
  (sv_one (sv_store hG.toFm 1 (by decide) (ev_bltT hG.toFm (c_tuple hG.toFm.K) m_tuple (av_cons (EVF.ev (evf_lc hG.toFm nd_taken_apart [("word", 6)] (iv_val hG.toFm.K (EVF.ev (evf_split (ev_var hG.toFm 5) ev_str))) (tv_nameB hG.toFm nd_taken_apart _ 6 (by decide)) cv_nil (ev_call (fm_blk hG.toFm _) c_part_of (av_cons (ev_var (fm_blk hG.toFm _) 6) av_nil)))) av_nil)) (ev_call hG.toFm c_part_of (av_cons (ev_var hG.toFm 3) av_nil)))))))
  (sv_one (sv_retO hG.toFm 1 (by decide)))))
theorem cl_taken_apart {f : Addr} {fd : FuncData} (F : Fun K "taken_apart" "taken_apart" s_taken_apart f fd) (hm : mg "taken_apart" = some (.ref f)) (hb : Binds K fd ["text"] []) (m_tuple : mg "tuple" = none) (c_part_of : Cl P w K mg base 1 "part_of" (spD K 1 false f_part_of)) : Cl P w K mg base 2 "taken_apart" (spD K 1 true f_taken_apart) :=
  fn_dl (ps := ["text"]) F sc_taken_apart hm hb (fun _ hG => sv_taken_apart hG m_tuple c_part_of) fun _ _ _ h => h
/-! ### read -/
abbrev s_read : Stmt := topS 27
theorem sc_read : FnScope N_read ["text"] (defScope s_read) := ⟨rfl, rfl, rfl, by decide +kernel, rfl, by decide +kernel, by decide +kernel⟩
theorem nd_read : N_read.Nodup := by decide +kernel
theorem sv_read {ι : Type} {G : ι → Cx} (hG : Fb G K mg base P w N_read (defScope s_read) 7) (m_type : mg "type" = none) (m_str : mg "str" = none) (c_taken_apart : Cl P w K mg base 2 "taken_apart" (spD K 1 true f_taken_apart)) (c_is_book : Cl P w K mg base 7 "is_book" (spD K 1 false f_is_book)) (c_written : Cl P w K mg base 2 "written" (spD K 1 false f_written)) :
    SV K true [] [] [] (TSs G (defBody s_read)) D_read := by
  unfold D_read
  exact (sv_cons (sv_if (bv_cmp (s_neB hG.toFm) (ev_bltT hG.toFm (c_type hG.toFm.K) m_type (av_cons (ev_var hG.toFm 0) av_nil)) (ev_bltn hG.toFm m_str (v := .ty "str") (by decide +kernel) rfl))
    (sv_one sv_never)
    sv_nil)
  (sv_cons (sv_if (bv_cmp (s_eqA hG.toFm) (ev_var hG.toFm 0) ev_str)
    (sv_one (sv_retF evf_dict0))
    sv_nil)
  (sv_cons ((sv_setO hG.toFm nd_read hG.fb 1 (by decide) (evf_call hG.toFm c_taken_apart (av_cons (ev_var hG.toFm 0) av_nil))))
  (sv_cons (sv_if (BW.bv (bw_or (bv_not (bv_val (ev_call hG.toFm c_is_book (av_cons (ev_var hG.toFm 1) av_nil)))) (bw_or1 (bv_cmp (s_neA hG.toFm) (ev_call hG.toFm c_written (av_cons (ev_var hG.toFm 1) av_nil)) (ev_var hG.toFm 0)))))
    (sv_one sv_never)
    sv_nil)
  (sv_one (sv_retO hG.toFm 1 (by decide)))))))
theorem cl_read {f : Addr} {fd : FuncData} (F : Fun K "read" "read" s_read f fd) (hm : mg "read" = some (.ref f)) (hb : Binds K fd ["text"] []) (m_type : mg "type" = none) (m_str : mg "str" = none) (c_taken_apart : Cl P w K mg base 2 "taken_apart" (spD K 1 true f_taken_apart)) (c_is_book : Cl P w K mg base 7 "is_book" (spD K 1 false f_is_book)) (c_written : Cl P w K mg base 2 "written" (spD K 1 false f_written)) : Cl P w K mg base 8 "read" (spD K 1 true f_read) :=
  fn_dl (ps := ["text"]) F sc_read hm hb (fun _ hG => sv_read hG m_type m_str c_taken_apart c_is_book c_written) fun _ _ _ h => h
/-! ### _law_of -/
abbrev s__law_of : Stmt := topS 29
theorem sc__law_of : FnScope N__law_of ["_law_script", "_law_k"] (defScope s__law_of) := ⟨rfl, rfl, rfl, by decide +kernel, rfl, by decide +kernel, by decide +kernel⟩
theorem nd__law_of : N__law_of.Nodup := by decide +kernel
theorem sv__law_of {ι : Type} {G : ι → Cx} (hG : Fb G K mg base P w N__law_of (defScope s__law_of) 0) :
    SV K false [] [] [] (TSs G (defBody s__law_of)) D__law_of := by
  unfold D__law_of
  exact (sv_one (sv_ret (ev_sub hG.toFm (ev_bin (s_add hG.toFm.K) (EVF.ev (evf_slice hG.toFm.K (ev_var hG.toFm 0) (pv_some (ev_var hG.toFm 1)) (pv_some (ev_bin (s_add hG.toFm.K) (ev_var hG.toFm 1) ev_int)))) (EVF.ev (evf_lst (av_cons ev_int av_nil)))) ev_int)))
theorem cl__law_of {f : Addr} {fd : FuncData} (F : Fun K "_law_of" "_law_of" s__law_of f fd) (hm : mg "_law_of" = some (.ref f)) (hb : Binds K fd ["_law_script", "_law_k"] []) : Cl P w K mg base 1 "_law_of" (spD K 2 false f__law_of) :=
  fn_dl (ps := ["_law_script", "_law_k"]) F sc__law_of hm hb (fun _ hG => sv__law_of hG) fun _ _ _ h => h
/-! ### _law_names -/
abbrev s__law_names : Stmt := topS 30
theorem sc__law_names : FnScope N__law_names ["_law_cell", "_law_many"] (defScope s__law_names) := ⟨rfl, rfl, rfl, by decide +kernel, rfl, by decide +kernel, by decide +kernel⟩
theorem nd__law_names : N__law_names.Nodup := by decide +kernel
theorem sv__law_names {ι : Type} {G : ι → Cx} (hG : Fb G K mg base P w N__law_names (defScope s__law_names) 0) (m_range : mg "range" = none) (m_len : mg "len" = none) :
    SV K true [] [] [] (TSs G (defBody s__law_names)) D__law_names := by
  unfold D__law_names
  exact (sv_cons ((sv_set hG.toFm nd__law_names hG.fb 2 (by decide) ev_str))
  (sv_cons ((sv_setO hG.toFm nd__law_names hG.fb 3 (by decide) (evf_lst av_nil)))
  (sv_cons ((sv_forI hG.toFm hG.po (iv_rng1 hG.toFm m_range (ev_var hG.toFm 1)) (tv_name hG.toFm nd__law_names hG.fb 4 (by decide))
    (sv_cons ((sv_set hG.toFm nd__law_names hG.fb 5 (by decide) (ev_bin (s_add hG.toFm.K) (ev_bin s_div (ev_var hG.toFm 0) ev_int) (ev_bin s_mul (ev_bin s_mul (ev_var hG.toFm 4) ev_int) (ev_bin s_mod (ev_var hG.toFm 0) ev_int)))))
  (sv_cons ((sv_set hG.toFm nd__law_names hG.fb 6 (by decide) (ev_join hG.toFm ev_str (EVF.ev (evf_lc hG.toFm nd__law_names [("_law_j", 8)] (iv_rng1 hG.toFm m_range (ev_bin s_mod (ev_var hG.toFm 5) ev_int)) (tv_nameB hG.toFm nd__law_names _ 8 (by decide)) cv_nil (ev_sub (fm_blk hG.toFm _) (ev_var (fm_blk hG.toFm _) 2) (ev_bin s_mod (ev_bin (s_add (fm_blk hG.toFm _).K) (ev_bin s_div (ev_var (fm_blk hG.toFm _) 5) ev_int) (ev_bin s_mul ev_int (ev_var (fm_blk hG.toFm _) 8))) ev_int)))))))
  (sv_cons ((sv_set hG.toFm nd__law_names hG.fb 7 (by decide) (ev_bin s_mod (ev_bin s_div (ev_var hG.toFm 5) ev_int) (ev_bin (s_add hG.toFm.K) (ev_bltF hG.toFm (c_len hG.toFm.K) m_len (av_cons (ev_var hG.toFm 6) av_nil)) ev_int))))
  (sv_one (sv_append hG.toFm 3 (by decide) (ev_bin (s_add hG.toFm.K) (ev_bin (s_add hG.toFm.K) (ev_bin (s_add hG.toFm.K) (ev_slc hG.toFm.K (ev_var hG.toFm 6) pv_none (pv_some (ev_var hG.toFm 7))) ev_str) (ev_sub hG.toFm (ev_var hG.toFm 2) (ev_var hG.toFm 4))) (ev_slc hG.toFm.K (ev_var hG.toFm 6) (pv_some (ev_var hG.toFm 7)) pv_none)))))))))
  (sv_cons (sv_if (BW.bv (bw_and (bv_cmp (s_eqA hG.toFm) (ev_bin s_mod (ev_var hG.toFm 0) ev_int) ev_int) (bw_and1 (bv_cmp (s_notinA hG.toFm) (ev_revS hG.toFm.K (ev_sub hG.toFm (ev_var hG.toFm 3) ev_int)) (ev_var hG.toFm 3)))))
    (sv_one (sv_store hG.toFm 3 (by decide) (ev_revS hG.toFm.K (ev_sub hG.toFm (ev_var hG.toFm 3) ev_int)) ev_int))
    sv_nil)
  (sv_one (sv_retO hG.toFm 3 (by decide)))))))
theorem cl__law_names {f : Addr} {fd : FuncData} (F : Fun K "_law_names" "_law_names" s__law_names f fd) (hm : mg "_law_names" = some (.ref f)) (hb : Binds K fd ["_law_cell", "_law_many"] []) (m_range : mg "range" = none) (m_len : mg "len" = none) : Cl P w K mg base 1 "_law_names" (spD K 2 true f__law_names) :=
  fn_dl (ps := ["_law_cell", "_law_many"]) F sc__law_names hm hb (fun _ hG => sv__law_names hG m_range m_len) fun _ _ _ h => h
/-! ### _law_entry -/
abbrev s__law_entry : Stmt := topS 31
theorem sc__law_entry : FnScope N__law_entry ["_law_names_here", "_law_base_here", "_law_n", "_law_number"] (defScope s__law_entry) := ⟨rfl, rfl, rfl, by decide +kernel, rfl, by decide +kernel, by decide +kernel⟩
theorem nd__law_entry : N__law_entry.Nodup := by decide +kernel
theorem sv__law_entry {ι : Type} {G : ι → Cx} (hG : Fb G K mg base P w N__law_entry (defScope s__law_entry) 0) (m_int : mg "int" = none) (m_min : mg "min" = none) :
    SV K false [] [] [] (TSs G (defBody s__law_entry)) D__law_entry := by
  unfold D__law_entry
  exact (sv_cons ((sv_set hG.toFm nd__law_entry hG.fb 2 (by decide) (ev_bin s_mod (ev_bin s_mul (ev_var hG.toFm 2) ev_int) ev_int)))
  (sv_cons ((sv_set hG.toFm nd__law_entry hG.fb 4 (by decide) (ev_bltF hG.toFm (c_min hG.toFm) m_min (av_cons ev_int (av_cons (ev_bin (s_add hG.toFm.K) (ev_var hG.toFm 1) (ev_bin s_mod (ev_bin s_div (ev_var hG.toFm 2) ev_int) (ev_sub hG.toFm (EVF.ev (evf_lst (av_cons ev_int (av_cons ev_int av_nil)))) (ev_bltT hG.toFm c_int m_int (av_cons (ev_cmp (s_eqA hG.toFm) (ev_bin s_mod (ev_bin s_div (ev_var hG.toFm 2) ev_int) ev_int) ev_int) av_nil))))) av_nil)))))
  (sv_cons ((sv_set hG.toFm nd__law_entry hG.fb 5 (by decide) (ev_bltF hG.toFm (c_min hG.toFm) m_min (av_cons ev_int (av_cons (ev_bin (s_add hG.toFm.K) (ev_var hG.toFm 4) (ev_sub hG.toFm (EVF.ev (evf_lst (av_cons ev_int (av_cons ev_int (av_cons ev_int (av_cons ev_int (av_cons ev_int (av_cons ev_int (av_cons ev_int (av_cons ev_int av_nil)))))))))) (ev_bin s_mod (ev_bin s_div (ev_var hG.toFm 2) ev_int) ev_int))) av_nil)))))
  (sv_cons ((sv_set hG.toFm nd__law_entry hG.fb 6 (by decide) (ev_sub hG.toFm (ev_var hG.toFm 0) (ev_bin s_mod (ev_bin s_div (ev_var hG.toFm 2) ev_int) ev_int))))
  (sv_cons (sv_if (BW.bv (bw_and (bv_cmp s_gt (ev_bin s_mod (ev_var hG.toFm 2) ev_int) ev_int) (bw_and1 (bv_cmp s_gt (ev_var hG.toFm 3) ev_int))))
    (sv_one (sv_ret (ev_tup (av_cons ev_str (av_cons (ev_bin (s_add hG.toFm.K) ev_int (ev_bin s_mod (ev_bin s_div (ev_var hG.toFm 2) ev_int) (ev_bin s_sub (ev_var hG.toFm 3) ev_int))) av_nil)))))
    sv_nil)
  (sv_cons (sv_if (bv_cmp (s_eqA hG.toFm) (ev_bin s_mod (ev_var hG.toFm 2) ev_int) ev_int)
    (sv_one (sv_ret (ev_tup (av_cons ev_str (av_cons (ev_var hG.toFm 6) (av_cons (ev_var hG.toFm 4) (av_cons (ev_var hG.toFm 5) av_nil)))))))
    sv_nil)
  (sv_cons (sv_if (bv_cmp (s_inA hG.toFm) (ev_bin s_mod (ev_var hG.toFm 2) ev_int) (ev_tup (av_cons ev_int (av_cons ev_int av_nil))))
    (sv_one (sv_ret (ev_tup (av_cons ev_str (av_cons (ev_var hG.toFm 6) (av_cons (ev_var hG.toFm 4) (av_cons (ev_var hG.toFm 5) (av_cons (ev_sub hG.toFm (ev_var hG.toFm 0) (ev_bin s_mod (ev_bin s_div (ev_var hG.toFm 2) ev_int) ev_int)) av_nil))))))))
    sv_nil)
  (sv_one (sv_ret (ev_tup (av_cons ev_str (av_cons (ev_var hG.toFm 6) (av_cons (ev_var hG.toFm 4) (av_cons (ev_var hG.toFm 5) (av_cons (ev_sub hG.toFm (EVF.ev (evf_lst (av_cons ev_int (av_cons ev_int (av_cons ev_int (av_cons ev_int (av_cons (ev_neg ev_int) (av_cons (ev_bin s_sub (ev_bin s_mod (ev_var hG.toFm 2) ev_int) ev_int) av_nil)))))))) (ev_bin s_mod (ev_bin s_div (ev_var hG.toFm 2) ev_int) ev_int)) av_nil)))))))))))))))
theorem cl__law_entry {f : Addr} {fd : FuncData} (F : Fun K "_law_entry" "_law_entry" s__law_entry f fd) (hm : mg "_law_entry" = some (.ref f)) (hb : Binds K fd ["_law_names_here", "_law_base_here", "_law_n", "_law_number"] []) (m_int : mg "int" = none) (m_min : mg "min" = none) : Cl P w K mg base 1 "_law_entry" (spD K 4 false f__law_entry) :=
  fn_dl (ps := ["_law_names_here", "_law_base_here", "_law_n", "_law_number"]) F sc__law_entry hm hb (fun _ hG => sv__law_entry hG m_int m_min) fun _ _ _ h => h
/-! ### _law_base -/
abbrev s__law_base : Stmt := topS 32
theorem sc__law_base : FnScope N__law_base ["_law_script"] (defScope s__law_base) := ⟨rfl, rfl, rfl, by decide +kernel, rfl, by decide +kernel, by decide +kernel⟩
theorem nd__law_base : N__law_base.Nodup := by decide +kernel
theorem sv__law_base {ι : Type} {G : ι → Cx} (hG : Fb G K mg base P w N__law_base (defScope s__law_base) 1) (c__law_of : Cl P w K mg base 1 "_law_of" (spD K 2 false f__law_of)) :
    SV K false [] [] [] (TSs G (defBody s__law_base)) D__law_base := by
  unfold D__law_base
  exact (sv_one (sv_ret (ev_sub hG.toFm (EVF.ev (evf_lst (av_cons ev_int (av_cons ev_int (av_cons ev_int (av_cons ev_int av_nil)))))) (ev_bin s_mod (ev_call hG.toFm c__law_of (av_cons (ev_var hG.toFm 0) (av_cons ev_int av_nil))) ev_int))))
theorem cl__law_base {f : Addr} {fd : FuncData} (F : Fun K "_law_base" "_law_base" s__law_base f fd) (hm : mg "_law_base" = some (.ref f)) (hb : Binds K fd ["_law_script"] []) (c__law_of : Cl P w K mg base 1 "_law_of" (spD K 2 false f__law_of)) : Cl P w K mg base 2 "_law_base" (spD K 1 false f__law_base) :=
  fn_dl (ps := ["_law_script"]) F sc__law_base hm hb (fun _ hG => sv__law_base hG c__law_of) fun _ _ _ h => h
/-! ### _law_book -/
abbrev s__law_book : Stmt := topS 33
theorem sc__law_book : FnScope N__law_book ["_law_script", "_law_many"] (defScope s__law_book) := ⟨rfl, rfl, rfl, by decide +kernel, rfl, by decide +kernel, by decide +kernel⟩
theorem nd__law_book : N__law_book.Nodup := by decide +kernel
theorem sv__law_book {ι : Type} {G : ι → Cx} (hG : Fb G K mg base P w N__law_book (defScope s__law_book) 2) (m_len : mg "len" = none) (m_min : mg "min" = none) (m_range : mg "range" = none) (m_dict : mg "dict" = none) (c__law_of : Cl P w K mg base 1 "_law_of" (spD K 2 false f__law_of)) (c__law_names : Cl P w K mg base 1 "_law_names" (spD K 2 true f__law_names)) (c__law_base : Cl P w K mg base 2 "_law_base" (spD K 1 false f__law_base)) (c__law_entry : Cl P w K mg base 1 "_law_entry" (spD K 4 false f__law_entry)) :
    SV K true [] [] [] (TSs G (defBody s__law_book)) D__law_book := by
  unfold D__law_book
  exact (sv_cons ((sv_set hG.toFm nd__law_book hG.fb 2 (by decide) (EVF.ev (evf_call hG.toFm c__law_names (av_cons (ev_call hG.toFm c__law_of (av_cons (ev_var hG.toFm 0) (av_cons ev_int av_nil))) (av_cons ev_int av_nil))))))
  (sv_cons ((sv_set hG.toFm nd__law_book hG.fb 3 (by decide) (ev_bin (s_add hG.toFm.K) ev_int (ev_bin s_mod (ev_bin s_div (ev_call hG.toFm c__law_of (av_cons (ev_var hG.toFm 0) (av_cons ev_int av_nil))) ev_int) ev_int))))
  (sv_cons ((sv_setO hG.toFm nd__law_book hG.fb 4 (by decide) (evf_lst av_nil)))
  (sv_cons ((sv_forI hG.toFm hG.po (iv_rng1 hG.toFm m_range (ev_bltF hG.toFm (c_min hG.toFm) m_min (av_cons (ev_var hG.toFm 1) (av_cons (ev_bin s_sub (ev_bltF hG.toFm (c_len hG.toFm.K) m_len (av_cons (ev_var hG.toFm 0) av_nil)) ev_int) av_nil)))) (tv_name hG.toFm nd__law_book hG.fb 5 (by decide))
    (sv_cons ((sv_set hG.toFm nd__law_book hG.fb 6 (by decide) (ev_bin (s_add hG.toFm.K) ev_int (ev_bin s_mul (ev_var hG.toFm 5) (ev_var hG.toFm 3)))))
  (sv_one (sv_append hG.toFm 4 (by decide) (ev_tup (av_cons (ev_var hG.toFm 6) (av_cons (ev_call hG.toFm c__law_entry (av_cons (ev_var hG.toFm 2) (av_cons (ev_call hG.toFm c__law_base (av_cons (ev_var hG.toFm 0) av_nil)) (av_cons (ev_bin (s_add hG.toFm.K) (ev_sub hG.toFm (ev_var hG.toFm 0) (ev_bin (s_add hG.toFm.K) ev_int (ev_var hG.toFm 5))) (ev_bin s_mul ev_int (ev_var hG.toFm 5))) (av_cons (ev_var hG.toFm 6) av_nil))))) av_nil))))))))
  (sv_cons ((sv_set hG.toFm nd__law_book hG.fb 7 (by decide) (ev_bin s_mod (ev_bin s_div (ev_call hG.toFm c__law_of (av_cons (ev_var hG.toFm 0) (av_cons ev_int av_nil))) ev_int) (ev_bin (s_add hG.toFm.K) (ev_bltF hG.toFm (c_len hG.toFm.K) m_len (av_cons (ev_var hG.toFm 4) av_nil)) ev_int))))
  (sv_one (sv_retF (evf_bltT hG.toFm (c_dict hG.toFm) m_dict (av_cons (ev_bin (s_add hG.toFm.K) (EVF.ev (evf_slice hG.toFm.K (ev_var hG.toFm 4) (pv_some (ev_var hG.toFm 7)) pv_none)) (EVF.ev (evf_slice hG.toFm.K (ev_var hG.toFm 4) pv_none (pv_some (ev_var hG.toFm 7))))) av_nil)))))))))
theorem cl__law_book {f : Addr} {fd : FuncData} (F : Fun K "_law_book" "_law_book" s__law_book f fd) (hm : mg "_law_book" = some (.ref f)) (hb : Binds K fd ["_law_script", "_law_many"] []) (m_len : mg "len" = none) (m_min : mg "min" = none) (m_range : mg "range" = none) (m_dict : mg "dict" = none) (c__law_of : Cl P w K mg base 1 "_law_of" (spD K 2 false f__law_of)) (c__law_names : Cl P w K mg base 1 "_law_names" (spD K 2 true f__law_names)) (c__law_base : Cl P w K mg base 2 "_law_base" (spD K 1 false f__law_base)) (c__law_entry : Cl P w K mg base 1 "_law_entry" (spD K 4 false f__law_entry)) : Cl P w K mg base 3 "_law_book" (spD K 2 true f__law_book) :=
  fn_dl (ps := ["_law_script", "_law_many"]) F sc__law_book hm hb (fun _ hG => sv__law_book hG m_len m_min m_range m_dict c__law_of c__law_names c__law_base c__law_entry) fun _ _ _ h => h
/-! ### _law_alike -/
abbrev s__law_alike : Stmt := topS 34
theorem sc__law_alike : FnScope N__law_alike ["_law_found", "_law_due"] (defScope s__law_alike) := ⟨rfl, rfl, rfl, by decide +kernel, rfl, by decide +kernel, by decide +kernel⟩
theorem nd__law_alike : N__law_alike.Nodup := by decide +kernel
theorem sv__law_alike {ι : Type} {G : ι → Cx} {n : Nat} (hG : Fb G K mg base P w N__law_alike (defScope s__law_alike) (0 + n)) (m_tuple : mg "tuple" = none) (m_isinstance : mg "isinstance" = none) (m_list : mg "list" = none) (m_len : mg "len" = none) (m_zip : mg "zip" = none) (m_all : mg "all" = none) (m_bool : mg "bool" = none) (f__law_alike : List T → Option T) (c__law_alike : Cl P w K mg base (0 + n) "_law_alike" (spD K 2 false f__law_alike)) :
    SV K false [] [] [] (TSs G (defBody s__law_alike)) (D__law_alike f__law_alike) := by
  unfold D__law_alike
  exact (sv_cons (sv_if (BW.bv (bw_or (bv_val (ev_bltF hG.toFm (c_isi hG.toFm.K) m_isinstance (av_cons (ev_var hG.toFm 1) (av_cons (ev_bltn hG.toFm m_tuple (v := .ty "tuple") (by decide +kernel) rfl) av_nil)))) (bw_or1 (bv_val (ev_bltF hG.toFm (c_isi hG.toFm.K) m_isinstance (av_cons (ev_var hG.toFm 1) (av_cons (ev_bltn hG.toFm m_list (v := .ty "list") (by decide +kernel) rfl) av_nil)))))))
    (sv_cons (sv_if (BW.bv (bw_or (bv_cmp (s_neA hG.toFm) (ev_bltF hG.toFm (c_isi hG.toFm.K) m_isinstance (av_cons (ev_var hG.toFm 0) (av_cons (ev_bltn hG.toFm m_list (v := .ty "list") (by decide +kernel) rfl) av_nil))) (ev_bltF hG.toFm (c_isi hG.toFm.K) m_isinstance (av_cons (ev_var hG.toFm 1) (av_cons (ev_bltn hG.toFm m_list (v := .ty "list") (by decide +kernel) rfl) av_nil)))) (bw_or1 (bv_cmp (s_neA hG.toFm) (ev_bltF hG.toFm (c_isi hG.toFm.K) m_isinstance (av_cons (ev_var hG.toFm 0) (av_cons (ev_bltn hG.toFm m_tuple (v := .ty "tuple") (by decide +kernel) rfl) av_nil))) (ev_bltF hG.toFm (c_isi hG.toFm.K) m_isinstance (av_cons (ev_var hG.toFm 1) (av_cons (ev_bltn hG.toFm m_tuple (v := .ty "tuple") (by decide +kernel) rfl) av_nil)))))))
    (sv_one (sv_ret ev_bl))
    sv_nil)
  (sv_one (sv_ret (ev_and (ev_cmp (s_eqA hG.toFm) (ev_bltF hG.toFm (c_len hG.toFm.K) m_len (av_cons (ev_var hG.toFm 0) av_nil)) (ev_bltF hG.toFm (c_len hG.toFm.K) m_len (av_cons (ev_var hG.toFm 1) av_nil))) (ev_one (ev_bltF hG.toFm (c_all hG.toFm) m_all (av_cons (EVF.ev (evf_lc hG.toFm nd__law_alike [("_law_one", 2), ("_law_other", 3)] (iv_zip hG.toFm m_zip (ev_var hG.toFm 0) (ev_var hG.toFm 1)) (tv_tup (fm_blk hG.toFm _) (tvs_cons (tv_nameB hG.toFm nd__law_alike _ 2 (by decide)) (tvs_cons (tv_nameB hG.toFm nd__law_alike _ 3 (by decide)) tvs_nil))) cv_nil (ev_call (fm_blk hG.toFm _) c__law_alike (av_cons (ev_var (fm_blk hG.toFm _) 2) (av_cons (ev_var (fm_blk hG.toFm _) 3) av_nil)) (hjk := Nat.le_refl _)))) av_nil)))))))
    sv_nil)
  (sv_one (sv_ret (ev_and (ev_cmp (s_eqA hG.toFm) (ev_bltF hG.toFm (c_isi hG.toFm.K) m_isinstance (av_cons (ev_var hG.toFm 0) (av_cons (ev_bltn hG.toFm m_bool (v := .ty "bool") (by decide +kernel) rfl) av_nil))) (ev_bltF hG.toFm (c_isi hG.toFm.K) m_isinstance (av_cons (ev_var hG.toFm 1) (av_cons (ev_bltn hG.toFm m_bool (v := .ty "bool") (by decide +kernel) rfl) av_nil)))) (ev_one (ev_cmp (s_eqA hG.toFm) (ev_var hG.toFm 0) (ev_var hG.toFm 1)))))))
theorem cl__law_alike {f : Addr} {fd : FuncData} (F : Fun K "_law_alike" "_law_alike" s__law_alike f fd) (hm : mg "_law_alike" = some (.ref f)) (hb : Binds K fd ["_law_found", "_law_due"] []) (m_tuple : mg "tuple" = none) (m_isinstance : mg "isinstance" = none) (m_list : mg "list" = none) (m_len : mg "len" = none) (m_zip : mg "zip" = none) (m_all : mg "all" = none) (m_bool : mg "bool" = none) : ∀ n, Cl P w K mg base (0 + n) "_law_alike" (spD K 2 false (f__law_alike n))
  | 0 => cl_none F hm hb
  | n + 1 => fn_dl (ps := ["_law_found", "_law_due"]) F sc__law_alike hm hb (fun _ hG => sv__law_alike hG m_tuple m_isinstance m_list m_len m_zip m_all m_bool (f__law_alike n) (cl__law_alike F hm hb m_tuple m_isinstance m_list m_len m_zip m_all m_bool n)) fun _ _ _ h => h
/-! ### _law_line -/
abbrev s__law_line : Stmt := topS 35
theorem sc__law_line : FnScope N__law_line ["_law_entry_here"] (defScope s__law_line) := ⟨rfl, rfl, rfl, by decide +kernel, rfl, by decide +kernel, by decide +kernel⟩
theorem nd__law_line : N__law_line.Nodup := by decide +kernel
theorem sv__law_line {ι : Type} {G : ι → Cx} (hG : Fb G K mg base P w N__law_line (defScope s__law_line) 0) (m_str : mg "str" = none) :
    SV K false [] [] [] (TSs G (defBody s__law_line)) D__law_line := by
  unfold D__law_line
  exact (sv_cons ((sv_set hG.toFm nd__law_line hG.fb 1 (by decide) (ev_sub hG.toFm (ev_var hG.toFm 0) ev_int)))
  (sv_cons ((sv_forI hG.toFm hG.po (iv_val hG.toFm.K (ev_slc hG.toFm.K (ev_var hG.toFm 0) (pv_some ev_int) pv_none)) (tv_name hG.toFm nd__law_line hG.fb 2 (by decide))
    (sv_one ((sv_set hG.toFm nd__law_line hG.fb 1 (by decide) (ev_bin (s_add hG.toFm.K) (ev_bin (s_add hG.toFm.K) (ev_var hG.toFm 1) ev_str) (ev_bltT hG.toFm c_str m_str (av_cons (ev_var hG.toFm 2) av_nil))))))))
  (sv_one (sv_ret (ev_var hG.toFm 1)))))
theorem cl__law_line {f : Addr} {fd : FuncData} (F : Fun K "_law_line" "_law_line" s__law_line f fd) (hm : mg "_law_line" = some (.ref f)) (hb : Binds K fd ["_law_entry_here"] []) (m_str : mg "str" = none) : Cl P w K mg base 1 "_law_line" (spD K 1 false f__law_line) :=
  fn_dl (ps := ["_law_entry_here"]) F sc__law_line hm hb (fun _ hG => sv__law_line hG m_str) fun _ _ _ h => h
/-! ### law -/
abbrev s_law : Stmt := topS 36
theorem sc_law : FnScope N_law ["_law_script"] (defScope s_law) := ⟨rfl, rfl, rfl, by decide +kernel, rfl, by decide +kernel, by decide +kernel⟩
theorem nd_law : N_law.Nodup := by decide +kernel
theorem sv_law {ι : Type} {G : ι → Cx} (hG : Fb G K mg base P w N_law (defScope s_law) 8) (m_dict : mg "dict" = none) (m_sorted : mg "sorted" = none) (m_str : mg "str" = none) (m_isinstance : mg "isinstance" = none) (m_range : mg "range" = none) (m_bool : mg "bool" = none) (c__law_book : Cl P w K mg base 3 "_law_book" (spD K 2 true f__law_book)) (c_shown : Cl P w K mg base 1 "shown" (spD K 1 false f_shown)) (c__law_line : Cl P w K mg base 1 "_law_line" (spD K 1 false f__law_line)) (c_written : Cl P w K mg base 2 "written" (spD K 1 false f_written)) (c_read : Cl P w K mg base 8 "read" (spD K 1 true f_read)) (c__law_alike : Cl P w K mg base 3 "_law_alike" (spD K 2 false (f__law_alike 3))) :
    SV K false [] [] [] (TSs G (defBody s_law)) D_law := by
  unfold D_law
  exact (sv_cons ((sv_set hG.toFm nd_law hG.fb 1 (by decide) (EVF.ev (evf_call hG.toFm c__law_book (av_cons (ev_var hG.toFm 0) (av_cons ev_int av_nil))))))
  (sv_cons ((sv_set hG.toFm nd_law hG.fb 2 (by decide) (EVF.ev (evf_bltT hG.toFm (c_dict hG.toFm) m_dict (av_cons (ev_var hG.toFm 1) av_nil)))))
  (sv_cons ((sv_setO hG.toFm nd_law hG.fb 3 (by decide) (evf_lst av_nil)))
  (sv_cons (sv_weak (ow2 := []) (by decide) ((sv_forI hG.toFm hG.po (iv_new hG.toFm.K (evf_bltF hG.toFm (c_sorted hG.toFm) m_sorted (av_cons (ev_var hG.toFm 1) av_nil))) (tv_name hG.toFm nd_law hG.fb 4 (by decide))
    (sv_cons ((sv_set hG.toFm nd_law hG.fb 5 (by decide) (ev_call hG.toFm c_shown (av_cons (ev_sub hG.toFm (ev_var hG.toFm 1) (ev_var hG.toFm 4)) av_nil))))
  (sv_cons (sv_if (BW.bv (bw_or (bv_not (bv_val (ev_bltF hG.toFm (c_isi hG.toFm.K) m_isinstance (av_cons (ev_var hG.toFm 5) (av_cons (ev_bltn hG.toFm m_str (v := .ty "str") (by decide +kernel) rfl) av_nil))))) (bw_or1 (bv_cmp (s_neA hG.toFm) (ev_var hG.toFm 5) (ev_call hG.toFm c__law_line (av_cons (ev_sub hG.toFm (ev_var hG.toFm 1) (ev_var hG.toFm 4)) av_nil))))))
    (sv_one (sv_ret ev_bl))
    sv_nil)
  (sv_one (sv_append hG.toFm 3 (by decide) (ev_bin (s_add hG.toFm.K) (ev_bin (s_add hG.toFm.K) (ev_bltT hG.toFm c_str m_str (av_cons (ev_var hG.toFm 4) av_nil)) ev_str) (ev_call hG.toFm c__law_line (av_cons (ev_sub hG.toFm (ev_var hG.toFm 1) (ev_var hG.toFm 4)) av_nil))))))))))
  (sv_cons ((sv_set hG.toFm nd_law hG.fb 6 (by decide) (ev_call hG.toFm c_written (av_cons (ev_var hG.toFm 1) av_nil))))
  (sv_cons (sv_if (BW.bv (bw_or (bv_not (bv_val (ev_bltF hG.toFm (c_isi hG.toFm.K) m_isinstance (av_cons (ev_var hG.toFm 6) (av_cons (ev_bltn hG.toFm m_str (v := .ty "str") (by decide +kernel) rfl) av_nil))))) (bw_or (bv_cmp (s_neA hG.toFm) (ev_var hG.toFm 6) (ev_join hG.toFm ev_str (ev_var hG.toFm 3))) (bw_or1 (bv_cmp (s_neA hG.toFm) (ev_var hG.toFm 1) (ev_var hG.toFm 2))))))
    (sv_one (sv_ret ev_bl))
    sv_nil)
  (sv_cons ((sv_setO hG.toFm nd_law hG.fb 7 (by decide) (evf_lst av_nil)))
  (sv_cons ((sv_held hG.toFm nd_law hG.fb hG.po 7 9 [4] (iv_rng1 hG.toFm m_range ev_int) (tv_name hG.toFm nd_law hG.fb 8 (by decide)) (evf_call hG.toFm c_read (av_cons (ev_var hG.toFm 6) av_nil)) (svo_if (BW.bv (bw_or (bv_not (bv_val (ev_bltF hG.toFm (c_isi hG.toFm.K) m_isinstance (av_cons (ev_var hG.toFm 9) (av_cons (ev_bltn hG.toFm m_dict (v := .ty "dict") (by decide +kernel) rfl) av_nil))))) (bw_or1 (bv_cmp (s_neA hG.toFm) (EVF.ev (evf_bltF hG.toFm (c_sorted hG.toFm) m_sorted (av_cons (ev_var hG.toFm 9) av_nil))) (EVF.ev (evf_bltF hG.toFm (c_sorted hG.toFm) m_sorted (av_cons (ev_var hG.toFm 1) av_nil)))))))
    (svo_one (svo_ret ev_bl))
    svo_nil) (svo_forKs hG.toFm hG.po 9 (ki_keys hG.toFm 9) (tv_name hG.toFm nd_law hG.fb 4 (by decide))
    (svo_one (svo_if (BW.bv (bw_or (bv_val (ev_bltF hG.toFm (c_isi hG.toFm.K) m_isinstance (av_cons (ev_var hG.toFm 4) (av_cons (ev_bltn hG.toFm m_bool (v := .ty "bool") (by decide +kernel) rfl) av_nil)))) (bw_or1 (bv_not (bv_val (ev_call hG.toFm c__law_alike (av_cons (ev_sub hG.toFm (ev_var hG.toFm 9) (ev_var hG.toFm 4)) (av_cons (ev_sub hG.toFm (ev_var hG.toFm 1) (ev_var hG.toFm 4)) av_nil))))))))
    (svo_one (svo_ret ev_bl))
    svo_nil))) (ev_tup (av_cons ev_str (av_cons (ev_var hG.toFm 8) av_nil))) ev_int))
  (sv_one (sv_ret (ev_and (ev_cmp (s_eqA hG.toFm) (ev_var hG.toFm 1) (ev_var hG.toFm 2)) (ev_one (ev_cmp (s_eqA hG.toFm) (EVF.ev (evf_lc hG.toFm nd_law [("_law_back", 9)] (iv_val hG.toFm.K (ev_var hG.toFm 7)) (tv_nameB hG.toFm nd_law _ 9 (by decide)) cv_nil (ev_sub (fm_blk hG.toFm _) (ev_var (fm_blk hG.toFm _) 9) ev_int))) (EVF.ev (evf_lst (av_cons (ev_tup (av_cons ev_str (av_cons ev_int av_nil))) (av_cons (ev_tup (av_cons ev_str (av_cons ev_int av_nil))) av_nil)))))))))))))))))
theorem ok_law {f : Addr} {fd : FuncData} (F : Fun K "law" "law" s_law f fd) (m_dict : mg "dict" = none) (m_sorted : mg "sorted" = none) (m_str : mg "str" = none) (m_isinstance : mg "isinstance" = none) (m_range : mg "range" = none) (m_bool : mg "bool" = none) (c__law_book : Cl P w K mg base 3 "_law_book" (spD K 2 true f__law_book)) (c_shown : Cl P w K mg base 1 "shown" (spD K 1 false f_shown)) (c__law_line : Cl P w K mg base 1 "_law_line" (spD K 1 false f__law_line)) (c_written : Cl P w K mg base 2 "written" (spD K 1 false f_written)) (c_read : Cl P w K mg base 8 "read" (spD K 1 true f_read)) (c__law_alike : Cl P w K mg base 3 "_law_alike" (spD K 2 false (f__law_alike 3))) : FnOk P w K mg base CX0 9 f fd ["_law_script"] (spD K 1 false f_law) :=
  fn_ok (ps := ["_law_script"]) F sc_law (fun _ hG => sv_law hG m_dict m_sorted m_str m_isinstance m_range m_bool c__law_book c_shown c__law_line c_written c_read c__law_alike) fun _ _ _ h => h
end
theorem all_mk {l : PySem.W.OpenLaw} {w : World} {K : PySem.W.Frag} {h : Heap} {mg : Str → Option Value} {fa : Addr} (X : K.In h) (G : h.Ns mainGlobals mg) (hfa : mg "law" = some (.ref fa))
    {fa_is_whole : Addr} {od_is_whole an_is_whole : Option Addr} {sl_is_whole : Array (Option Value)} {oc_is_whole kV_is_whole dc_is_whole pm_is_whole cd_is_whole ct_is_whole : Value}
    (a_is_whole : PySem.W.nsIn K mainGlobals "is_whole" = some (some (.ref fa_is_whole))) (l_is_whole : K.lookup fa_is_whole = some ⟨oc_is_whole, od_is_whole, .func (PySem.W.fnOf "is_whole" "is_whole" (defArgs s_is_whole) (defBody s_is_whole) (defScope s_is_whole) .none kV_is_whole dc_is_whole pm_is_whole an_is_whole cd_is_whole ct_is_whole), sl_is_whole⟩) (c_is_whole : PySem.W.codeIn K cd_is_whole "is_whole" = true) (k_is_whole : PySem.W.keepIn K (.ref fa_is_whole) = true)
    {fa_is_number : Addr} {od_is_number an_is_number : Option Addr} {sl_is_number : Array (Option Value)} {oc_is_number kV_is_number dc_is_number pm_is_number cd_is_number ct_is_number : Value}
    (a_is_number : PySem.W.nsIn K mainGlobals "is_number" = some (some (.ref fa_is_number))) (l_is_number : K.lookup fa_is_number = some ⟨oc_is_number, od_is_number, .func (PySem.W.fnOf "is_number" "is_number" (defArgs s_is_number) (defBody s_is_number) (defScope s_is_number) .none kV_is_number dc_is_number pm_is_number an_is_number cd_is_number ct_is_number), sl_is_number⟩) (c_is_number : PySem.W.codeIn K cd_is_number "is_number" = true) (k_is_number : PySem.W.keepIn K (.ref fa_is_number) = true)
    {fa_is_name : Addr} {od_is_name an_is_name : Option Addr} {sl_is_name : Array (Option Value)} {oc_is_name kV_is_name dc_is_name pm_is_name cd_is_name ct_is_name : Value}
    (a_is_name : PySem.W.nsIn K mainGlobals "is_name" = some (some (.ref fa_is_name))) (l_is_name : K.lookup fa_is_name = some ⟨oc_is_name, od_is_name, .func (PySem.W.fnOf "is_name" "is_name" (defArgs s_is_name) (defBody s_is_name) (defScope s_is_name) .none kV_is_name dc_is_name pm_is_name an_is_name cd_is_name ct_is_name), sl_is_name⟩) (c_is_name : PySem.W.codeIn K cd_is_name "is_name" = true) (k_is_name : PySem.W.keepIn K (.ref fa_is_name) = true)
    {fa_is_day : Addr} {od_is_day an_is_day : Option Addr} {sl_is_day : Array (Option Value)} {oc_is_day kV_is_day dc_is_day pm_is_day cd_is_day ct_is_day : Value}
    (a_is_day : PySem.W.nsIn K mainGlobals "is_day" = some (some (.ref fa_is_day))) (l_is_day : K.lookup fa_is_day = some ⟨oc_is_day, od_is_day, .func (PySem.W.fnOf "is_day" "is_day" (defArgs s_is_day) (defBody s_is_day) (defScope s_is_day) .none kV_is_day dc_is_day pm_is_day an_is_day cd_is_day ct_is_day), sl_is_day⟩) (c_is_day : PySem.W.codeIn K cd_is_day "is_day" = true) (k_is_day : PySem.W.keepIn K (.ref fa_is_day) = true)
    {fa_is_worth : Addr} {od_is_worth an_is_worth : Option Addr} {sl_is_worth : Array (Option Value)} {oc_is_worth kV_is_worth dc_is_worth pm_is_worth cd_is_worth ct_is_worth : Value}
    (a_is_worth : PySem.W.nsIn K mainGlobals "is_worth" = some (some (.ref fa_is_worth))) (l_is_worth : K.lookup fa_is_worth = some ⟨oc_is_worth, od_is_worth, .func (PySem.W.fnOf "is_worth" "is_worth" (defArgs s_is_worth) (defBody s_is_worth) (defScope s_is_worth) .none kV_is_worth dc_is_worth pm_is_worth an_is_worth cd_is_worth ct_is_worth), sl_is_worth⟩) (c_is_worth : PySem.W.codeIn K cd_is_worth "is_worth" = true) (k_is_worth : PySem.W.keepIn K (.ref fa_is_worth) = true)
    {fa_are_days : Addr} {od_are_days an_are_days : Option Addr} {sl_are_days : Array (Option Value)} {oc_are_days kV_are_days dc_are_days pm_are_days cd_are_days ct_are_days : Value}
    (a_are_days : PySem.W.nsIn K mainGlobals "are_days" = some (some (.ref fa_are_days))) (l_are_days : K.lookup fa_are_days = some ⟨oc_are_days, od_are_days, .func (PySem.W.fnOf "are_days" "are_days" (defArgs s_are_days) (defBody s_are_days) (defScope s_are_days) .none kV_are_days dc_are_days pm_are_days an_are_days cd_are_days ct_are_days), sl_are_days⟩) (c_are_days : PySem.W.codeIn K cd_are_days "are_days" = true) (k_are_days : PySem.W.keepIn K (.ref fa_are_days) = true)
    {fa_is_tell : Addr} {od_is_tell an_is_tell : Option Addr} {sl_is_tell : Array (Option Value)} {oc_is_tell kV_is_tell dc_is_tell pm_is_tell cd_is_tell ct_is_tell : Value}
    (a_is_tell : PySem.W.nsIn K mainGlobals "is_tell" = some (some (.ref fa_is_tell))) (l_is_tell : K.lookup fa_is_tell = some ⟨oc_is_tell, od_is_tell, .func (PySem.W.fnOf "is_tell" "is_tell" (defArgs s_is_tell) (defBody s_is_tell) (defScope s_is_tell) .none kV_is_tell dc_is_tell pm_is_tell an_is_tell cd_is_tell ct_is_tell), sl_is_tell⟩) (c_is_tell : PySem.W.codeIn K cd_is_tell "is_tell" = true) (k_is_tell : PySem.W.keepIn K (.ref fa_is_tell) = true)
    {fa_is_clear : Addr} {od_is_clear an_is_clear : Option Addr} {sl_is_clear : Array (Option Value)} {oc_is_clear kV_is_clear dc_is_clear pm_is_clear cd_is_clear ct_is_clear : Value}
    (a_is_clear : PySem.W.nsIn K mainGlobals "is_clear" = some (some (.ref fa_is_clear))) (l_is_clear : K.lookup fa_is_clear = some ⟨oc_is_clear, od_is_clear, .func (PySem.W.fnOf "is_clear" "is_clear" (defArgs s_is_clear) (defBody s_is_clear) (defScope s_is_clear) .none kV_is_clear dc_is_clear pm_is_clear an_is_clear cd_is_clear ct_is_clear), sl_is_clear⟩) (c_is_clear : PySem.W.codeIn K cd_is_clear "is_clear" = true) (k_is_clear : PySem.W.keepIn K (.ref fa_is_clear) = true)
    {fa_is_like : Addr} {od_is_like an_is_like : Option Addr} {sl_is_like : Array (Option Value)} {oc_is_like kV_is_like dc_is_like pm_is_like cd_is_like ct_is_like : Value}
    (a_is_like : PySem.W.nsIn K mainGlobals "is_like" = some (some (.ref fa_is_like))) (l_is_like : K.lookup fa_is_like = some ⟨oc_is_like, od_is_like, .func (PySem.W.fnOf "is_like" "is_like" (defArgs s_is_like) (defBody s_is_like) (defScope s_is_like) .none kV_is_like dc_is_like pm_is_like an_is_like cd_is_like ct_is_like), sl_is_like⟩) (c_is_like : PySem.W.codeIn K cd_is_like "is_like" = true) (k_is_like : PySem.W.keepIn K (.ref fa_is_like) = true)
    {fa_is_undo : Addr} {od_is_undo an_is_undo : Option Addr} {sl_is_undo : Array (Option Value)} {oc_is_undo kV_is_undo dc_is_undo pm_is_undo cd_is_undo ct_is_undo : Value}
    (a_is_undo : PySem.W.nsIn K mainGlobals "is_undo" = some (some (.ref fa_is_undo))) (l_is_undo : K.lookup fa_is_undo = some ⟨oc_is_undo, od_is_undo, .func (PySem.W.fnOf "is_undo" "is_undo" (defArgs s_is_undo) (defBody s_is_undo) (defScope s_is_undo) .none kV_is_undo dc_is_undo pm_is_undo an_is_undo cd_is_undo ct_is_undo), sl_is_undo⟩) (c_is_undo : PySem.W.codeIn K cd_is_undo "is_undo" = true) (k_is_undo : PySem.W.keepIn K (.ref fa_is_undo) = true)
    {fa_is_entry : Addr} {od_is_entry an_is_entry : Option Addr} {sl_is_entry : Array (Option Value)} {oc_is_entry kV_is_entry dc_is_entry pm_is_entry cd_is_entry ct_is_entry : Value}
    (a_is_entry : PySem.W.nsIn K mainGlobals "is_entry" = some (some (.ref fa_is_entry))) (l_is_entry : K.lookup fa_is_entry = some ⟨oc_is_entry, od_is_entry, .func (PySem.W.fnOf "is_entry" "is_entry" (defArgs s_is_entry) (defBody s_is_entry) (defScope s_is_entry) .none kV_is_entry dc_is_entry pm_is_entry an_is_entry cd_is_entry ct_is_entry), sl_is_entry⟩) (c_is_entry : PySem.W.codeIn K cd_is_entry "is_entry" = true) (k_is_entry : PySem.W.keepIn K (.ref fa_is_entry) = true)
    {fa_may_stand : Addr} {od_may_stand an_may_stand : Option Addr} {sl_may_stand : Array (Option Value)} {oc_may_stand kV_may_stand dc_may_stand pm_may_stand cd_may_stand ct_may_stand : Value}
    (a_may_stand : PySem.W.nsIn K mainGlobals "may_stand" = some (some (.ref fa_may_stand))) (l_may_stand : K.lookup fa_may_stand = some ⟨oc_may_stand, od_may_stand, .func (PySem.W.fnOf "may_stand" "may_stand" (defArgs s_may_stand) (defBody s_may_stand) (defScope s_may_stand) .none kV_may_stand dc_may_stand pm_may_stand an_may_stand cd_may_stand ct_may_stand), sl_may_stand⟩) (c_may_stand : PySem.W.codeIn K cd_may_stand "may_stand" = true) (k_may_stand : PySem.W.keepIn K (.ref fa_may_stand) = true)
    {fa_is_book : Addr} {od_is_book an_is_book : Option Addr} {sl_is_book : Array (Option Value)} {oc_is_book kV_is_book dc_is_book pm_is_book cd_is_book ct_is_book : Value}
    (a_is_book : PySem.W.nsIn K mainGlobals "is_book" = some (some (.ref fa_is_book))) (l_is_book : K.lookup fa_is_book = some ⟨oc_is_book, od_is_book, .func (PySem.W.fnOf "is_book" "is_book" (defArgs s_is_book) (defBody s_is_book) (defScope s_is_book) .none kV_is_book dc_is_book pm_is_book an_is_book cd_is_book ct_is_book), sl_is_book⟩) (c_is_book : PySem.W.codeIn K cd_is_book "is_book" = true) (k_is_book : PySem.W.keepIn K (.ref fa_is_book) = true)
    {fa_shown : Addr} {od_shown an_shown : Option Addr} {sl_shown : Array (Option Value)} {oc_shown kV_shown dc_shown pm_shown cd_shown ct_shown : Value}
    (a_shown : PySem.W.nsIn K mainGlobals "shown" = some (some (.ref fa_shown))) (l_shown : K.lookup fa_shown = some ⟨oc_shown, od_shown, .func (PySem.W.fnOf "shown" "shown" (defArgs s_shown) (defBody s_shown) (defScope s_shown) .none kV_shown dc_shown pm_shown an_shown cd_shown ct_shown), sl_shown⟩) (c_shown : PySem.W.codeIn K cd_shown "shown" = true) (k_shown : PySem.W.keepIn K (.ref fa_shown) = true)
    {fa_written : Addr} {od_written an_written : Option Addr} {sl_written : Array (Option Value)} {oc_written kV_written dc_written pm_written cd_written ct_written : Value}
    (a_written : PySem.W.nsIn K mainGlobals "written" = some (some (.ref fa_written))) (l_written : K.lookup fa_written = some ⟨oc_written, od_written, .func (PySem.W.fnOf "written" "written" (defArgs s_written) (defBody s_written) (defScope s_written) .none kV_written dc_written pm_written an_written cd_written ct_written), sl_written⟩) (c_written : PySem.W.codeIn K cd_written "written" = true) (k_written : PySem.W.keepIn K (.ref fa_written) = true)
    {fa_part_of : Addr} {od_part_of an_part_of : Option Addr} {sl_part_of : Array (Option Value)} {oc_part_of kV_part_of dc_part_of pm_part_of cd_part_of ct_part_of : Value}
    (a_part_of : PySem.W.nsIn K mainGlobals "part_of" = some (some (.ref fa_part_of))) (l_part_of : K.lookup fa_part_of = some ⟨oc_part_of, od_part_of, .func (PySem.W.fnOf "part_of" "part_of" (defArgs s_part_of) (defBody s_part_of) (defScope s_part_of) .none kV_part_of dc_part_of pm_part_of an_part_of cd_part_of ct_part_of), sl_part_of⟩) (c_part_of : PySem.W.codeIn K cd_part_of "part_of" = true) (k_part_of : PySem.W.keepIn K (.ref fa_part_of) = true)
    {fa_taken_apart : Addr} {od_taken_apart an_taken_apart : Option Addr} {sl_taken_apart : Array (Option Value)} {oc_taken_apart kV_taken_apart dc_taken_apart pm_taken_apart cd_taken_apart ct_taken_apart : Value}
    (a_taken_apart : PySem.W.nsIn K mainGlobals "taken_apart" = some (some (.ref fa_taken_apart))) (l_taken_apart : K.lookup fa_taken_apart = some ⟨oc_taken_apart, od_taken_apart, .func (PySem.W.fnOf "taken_apart" "taken_apart" (defArgs s_taken_apart) (defBody s_taken_apart) (defScope s_taken_apart) .none kV_taken_apart dc_taken_apart pm_taken_apart an_taken_apart cd_taken_apart ct_taken_apart), sl_taken_apart⟩) (c_taken_apart : PySem.W.codeIn K cd_taken_apart "taken_apart" = true) (k_taken_apart : PySem.W.keepIn K (.ref fa_taken_apart) = true)
    {fa_read : Addr} {od_read an_read : Option Addr} {sl_read : Array (Option Value)} {oc_read kV_read dc_read pm_read cd_read ct_read : Value}
    (a_read : PySem.W.nsIn K mainGlobals "read" = some (some (.ref fa_read))) (l_read : K.lookup fa_read = some ⟨oc_read, od_read, .func (PySem.W.fnOf "read" "read" (defArgs s_read) (defBody s_read) (defScope s_read) .none kV_read dc_read pm_read an_read cd_read ct_read), sl_read⟩) (c_read : PySem.W.codeIn K cd_read "read" = true) (k_read : PySem.W.keepIn K (.ref fa_read) = true)
    {fa__law_of : Addr} {od__law_of an__law_of : Option Addr} {sl__law_of : Array (Option Value)} {oc__law_of kV__law_of dc__law_of pm__law_of cd__law_of ct__law_of : Value}
    (a__law_of : PySem.W.nsIn K mainGlobals "_law_of" = some (some (.ref fa__law_of))) (l__law_of : K.lookup fa__law_of = some ⟨oc__law_of, od__law_of, .func (PySem.W.fnOf "_law_of" "_law_of" (defArgs s__law_of) (defBody s__law_of) (defScope s__law_of) .none kV__law_of dc__law_of pm__law_of an__law_of cd__law_of ct__law_of), sl__law_of⟩) (c__law_of : PySem.W.codeIn K cd__law_of "_law_of" = true) (k__law_of : PySem.W.keepIn K (.ref fa__law_of) = true)
    {fa__law_names : Addr} {od__law_names an__law_names : Option Addr} {sl__law_names : Array (Option Value)} {oc__law_names kV__law_names dc__law_names pm__law_names cd__law_names ct__law_names : Value}
    (a__law_names : PySem.W.nsIn K mainGlobals "_law_names" = some (some (.ref fa__law_names))) (l__law_names : K.lookup fa__law_names = some ⟨oc__law_names, od__law_names, .func (PySem.W.fnOf "_law_names" "_law_names" (defArgs s__law_names) (defBody s__law_names) (defScope s__law_names) .none kV__law_names dc__law_names pm__law_names an__law_names cd__law_names ct__law_names), sl__law_names⟩) (c__law_names : PySem.W.codeIn K cd__law_names "_law_names" = true) (k__law_names : PySem.W.keepIn K (.ref fa__law_names) = true)
    {fa__law_entry : Addr} {od__law_entry an__law_entry : Option Addr} {sl__law_entry : Array (Option Value)} {oc__law_entry kV__law_entry dc__law_entry pm__law_entry cd__law_entry ct__law_entry : Value}
    (a__law_entry : PySem.W.nsIn K mainGlobals "_law_entry" = some (some (.ref fa__law_entry))) (l__law_entry : K.lookup fa__law_entry = some ⟨oc__law_entry, od__law_entry, .func (PySem.W.fnOf "_law_entry" "_law_entry" (defArgs s__law_entry) (defBody s__law_entry) (defScope s__law_entry) .none kV__law_entry dc__law_entry pm__law_entry an__law_entry cd__law_entry ct__law_entry), sl__law_entry⟩) (c__law_entry : PySem.W.codeIn K cd__law_entry "_law_entry" = true) (k__law_entry : PySem.W.keepIn K (.ref fa__law_entry) = true)
    {fa__law_base : Addr} {od__law_base an__law_base : Option Addr} {sl__law_base : Array (Option Value)} {oc__law_base kV__law_base dc__law_base pm__law_base cd__law_base ct__law_base : Value}
    (a__law_base : PySem.W.nsIn K mainGlobals "_law_base" = some (some (.ref fa__law_base))) (l__law_base : K.lookup fa__law_base = some ⟨oc__law_base, od__law_base, .func (PySem.W.fnOf "_law_base" "_law_base" (defArgs s__law_base) (defBody s__law_base) (defScope s__law_base) .none kV__law_base dc__law_base pm__law_base an__law_base cd__law_base ct__law_base), sl__law_base⟩) (c__law_base : PySem.W.codeIn K cd__law_base "_law_base" = true) (k__law_base : PySem.W.keepIn K (.ref fa__law_base) = true)
    {fa__law_book : Addr} {od__law_book an__law_book : Option Addr} {sl__law_book : Array (Option Value)} {oc__law_book kV__law_book dc__law_book pm__law_book cd__law_book ct__law_book : Value}
    (a__law_book : PySem.W.nsIn K mainGlobals "_law_book" = some (some (.ref fa__law_book))) (l__law_book : K.lookup fa__law_book = some ⟨oc__law_book, od__law_book, .func (PySem.W.fnOf "_law_book" "_law_book" (defArgs s__law_book) (defBody s__law_book) (defScope s__law_book) .none kV__law_book dc__law_book pm__law_book an__law_book cd__law_book ct__law_book), sl__law_book⟩) (c__law_book : PySem.W.codeIn K cd__law_book "_law_book" = true) (k__law_book : PySem.W.keepIn K (.ref fa__law_book) = true)
    {fa__law_alike : Addr} {od__law_alike an__law_alike : Option Addr} {sl__law_alike : Array (Option Value)} {oc__law_alike kV__law_alike dc__law_alike pm__law_alike cd__law_alike ct__law_alike : Value}
    (a__law_alike : PySem.W.nsIn K mainGlobals "_law_alike" = some (some (.ref fa__law_alike))) (l__law_alike : K.lookup fa__law_alike = some ⟨oc__law_alike, od__law_alike, .func (PySem.W.fnOf "_law_alike" "_law_alike" (defArgs s__law_alike) (defBody s__law_alike) (defScope s__law_alike) .none kV__law_alike dc__law_alike pm__law_alike an__law_alike cd__law_alike ct__law_alike), sl__law_alike⟩) (c__law_alike : PySem.W.codeIn K cd__law_alike "_law_alike" = true) (k__law_alike : PySem.W.keepIn K (.ref fa__law_alike) = true)
    {fa__law_line : Addr} {od__law_line an__law_line : Option Addr} {sl__law_line : Array (Option Value)} {oc__law_line kV__law_line dc__law_line pm__law_line cd__law_line ct__law_line : Value}
    (a__law_line : PySem.W.nsIn K mainGlobals "_law_line" = some (some (.ref fa__law_line))) (l__law_line : K.lookup fa__law_line = some ⟨oc__law_line, od__law_line, .func (PySem.W.fnOf "_law_line" "_law_line" (defArgs s__law_line) (defBody s__law_line) (defScope s__law_line) .none kV__law_line dc__law_line pm__law_line an__law_line cd__law_line ct__law_line), sl__law_line⟩) (c__law_line : PySem.W.codeIn K cd__law_line "_law_line" = true) (k__law_line : PySem.W.keepIn K (.ref fa__law_line) = true)
    {fa_law : Addr} {od_law an_law : Option Addr} {sl_law : Array (Option Value)} {oc_law kV_law dc_law pm_law cd_law ct_law : Value}
    (a_law : PySem.W.nsIn K mainGlobals "law" = some (some (.ref fa_law))) (l_law : K.lookup fa_law = some ⟨oc_law, od_law, .func (PySem.W.fnOf "law" "law" (defArgs s_law) (defBody s_law) (defScope s_law) .none kV_law dc_law pm_law an_law cd_law ct_law), sl_law⟩) (c_law : PySem.W.codeIn K cd_law "law" = true) (k_law : PySem.W.keepIn K (.ref fa_law) = true)
    {dF : Addr} {hh1 hh2 hh3 hh4 : Int} {tt1 tt2 tt3 tt4 : Tok} {nF : Nat}
    (a_FORMS : PySem.W.nsIn K mainGlobals "FORMS" = some (some (.ref dF)))
    (l_FORMS : K.lookup dF = some ⟨.type "dict", none, .dict #[⟨hh1, .str "tell" tt1, .ref fa_is_tell⟩, ⟨hh2, .str "clear" tt2, .ref fa_is_clear⟩, ⟨hh3, .str "like" tt3, .ref fa_is_like⟩, ⟨hh4, .str "undo" tt4, .ref fa_is_undo⟩] nF, #[]⟩)
    (eh1 : hh1 = PyData.keyHash w.params "tell")
    (eh2 : hh2 = PyData.keyHash w.params "clear")
    (eh3 : hh3 = PyData.keyHash w.params "like")
    (eh4 : hh4 = PyData.keyHash w.params "undo")
    (eLow : (dF == sysModules) = false)
    (z_type : PySem.W.nsIn K mainGlobals "type" = some none)
    (z_int : PySem.W.nsIn K mainGlobals "int" = some none)
    (z_str : PySem.W.nsIn K mainGlobals "str" = some none)
    (z_len : PySem.W.nsIn K mainGlobals "len" = some none)
    (z_all : PySem.W.nsIn K mainGlobals "all" = some none)
    (z_tuple : PySem.W.nsIn K mainGlobals "tuple" = some none)
    (z_dict : PySem.W.nsIn K mainGlobals "dict" = some none)
    (z_sorted : PySem.W.nsIn K mainGlobals "sorted" = some none)
    (z_range : PySem.W.nsIn K mainGlobals "range" = some none)
    (z_min : PySem.W.nsIn K mainGlobals "min" = some none)
    (z_isinstance : PySem.W.nsIn K mainGlobals "isinstance" = some none)
    (z_list : PySem.W.nsIn K mainGlobals "list" = some none)
    (z_zip : PySem.W.nsIn K mainGlobals "zip" = some none)
    (z_bool : PySem.W.nsIn K mainGlobals "bool" = some none)
    {t_LONGEST_NAME : Tok} (z_LONGEST_NAME : PySem.W.nsIn K mainGlobals "LONGEST_NAME" = some (some (.int 8 t_LONGEST_NAME)))
    {t_LAST_DAY : Tok} (z_LAST_DAY : PySem.W.nsIn K mainGlobals "LAST_DAY" = some (some (.int 1000000 t_LAST_DAY)))
    {t_GREATEST_WORTH : Tok} (z_GREATEST_WORTH : PySem.W.nsIn K mainGlobals "GREATEST_WORTH" = some (some (.int 1000000000 t_GREATEST_WORTH)))
    {t_MOST : Tok} (z_MOST : PySem.W.nsIn K mainGlobals "MOST" = some (some (.int 30 t_MOST)))
    : ∃ fd : FuncData, (∀ (s : Shared) (v : Value), BindsTo s fd ⟨[v], []⟩ [("_law_script", v)]) ∧ ∀ base : Heap, K.In base → base.Ns mainGlobals mg → FnOk l.prog w K mg base CX0 9 fa fd ["_law_script"] (spD K 1 false f_law) := by
  have e := hfa.symm.trans (PySem.W.mg_of X G a_law)
  cases e
  have m_type := PySem.W.mg_none_of X G z_type
  have m_int := PySem.W.mg_none_of X G z_int
  have m_str := PySem.W.mg_none_of X G z_str
  have m_len := PySem.W.mg_none_of X G z_len
  have m_all := PySem.W.mg_none_of X G z_all
  have m_tuple := PySem.W.mg_none_of X G z_tuple
  have m_dict := PySem.W.mg_none_of X G z_dict
  have m_sorted := PySem.W.mg_none_of X G z_sorted
  have m_range := PySem.W.mg_none_of X G z_range
  have m_min := PySem.W.mg_none_of X G z_min
  have m_isinstance := PySem.W.mg_none_of X G z_isinstance
  have m_list := PySem.W.mg_none_of X G z_list
  have m_zip := PySem.W.mg_none_of X G z_zip
  have m_bool := PySem.W.mg_none_of X G z_bool
  have g_LONGEST_NAME := PySem.W.mg_of X G z_LONGEST_NAME
  have g_LAST_DAY := PySem.W.mg_of X G z_LAST_DAY
  have g_GREATEST_WORTH := PySem.W.mg_of X G z_GREATEST_WORTH
  have g_MOST := PySem.W.mg_of X G z_MOST
  have F_is_whole := fun_mk (st := s_is_whole) l_is_whole c_is_whole k_is_whole
  have b_is_whole := F_is_whole.binds (ps := ["thing"]) fun _ _ _ _ _ _ us hl => match us, hl with | [_], _ => rfl
  have F_is_number := fun_mk (st := s_is_number) l_is_number c_is_number k_is_number
  have b_is_number := F_is_number.binds (ps := ["thing"]) fun _ _ _ _ _ _ us hl => match us, hl with | [_], _ => rfl
  have F_is_name := fun_mk (st := s_is_name) l_is_name c_is_name k_is_name
  have b_is_name := F_is_name.binds (ps := ["thing"]) fun _ _ _ _ _ _ us hl => match us, hl with | [_], _ => rfl
  have F_is_day := fun_mk (st := s_is_day) l_is_day c_is_day k_is_day
  have b_is_day := F_is_day.binds (ps := ["thing"]) fun _ _ _ _ _ _ us hl => match us, hl with | [_], _ => rfl
  have F_is_worth := fun_mk (st := s_is_worth) l_is_worth c_is_worth k_is_worth
  have b_is_worth := F_is_worth.binds (ps := ["thing"]) fun _ _ _ _ _ _ us hl => match us, hl with | [_], _ => rfl
  have F_are_days := fun_mk (st := s_are_days) l_are_days c_are_days k_are_days
  have b_are_days := F_are_days.binds (ps := ["low", "high"]) fun _ _ _ _ _ _ us hl => match us, hl with | [_, _], _ => rfl
  have F_is_tell := fun_mk (st := s_is_tell) l_is_tell c_is_tell k_is_tell
  have b_is_tell := F_is_tell.binds (ps := ["entry"]) fun _ _ _ _ _ _ us hl => match us, hl with | [_], _ => rfl
  have F_is_clear := fun_mk (st := s_is_clear) l_is_clear c_is_clear k_is_clear
  have b_is_clear := F_is_clear.binds (ps := ["entry"]) fun _ _ _ _ _ _ us hl => match us, hl with | [_], _ => rfl
  have F_is_like := fun_mk (st := s_is_like) l_is_like c_is_like k_is_like
  have b_is_like := F_is_like.binds (ps := ["entry"]) fun _ _ _ _ _ _ us hl => match us, hl with | [_], _ => rfl
  have F_is_undo := fun_mk (st := s_is_undo) l_is_undo c_is_undo k_is_undo
  have b_is_undo := F_is_undo.binds (ps := ["entry"]) fun _ _ _ _ _ _ us hl => match us, hl with | [_], _ => rfl
  have F_is_entry := fun_mk (st := s_is_entry) l_is_entry c_is_entry k_is_entry
  have b_is_entry := F_is_entry.binds (ps := ["thing"]) fun _ _ _ _ _ _ us hl => match us, hl with | [_], _ => rfl
  have F_may_stand := fun_mk (st := s_may_stand) l_may_stand c_may_stand k_may_stand
  have b_may_stand := F_may_stand.binds (ps := ["number", "entry"]) fun _ _ _ _ _ _ us hl => match us, hl with | [_, _], _ => rfl
  have F_is_book := fun_mk (st := s_is_book) l_is_book c_is_book k_is_book
  have b_is_book := F_is_book.binds (ps := ["thing"]) fun _ _ _ _ _ _ us hl => match us, hl with | [_], _ => rfl
  have F_shown := fun_mk (st := s_shown) l_shown c_shown k_shown
  have b_shown := F_shown.binds (ps := ["entry"]) fun _ _ _ _ _ _ us hl => match us, hl with | [_], _ => rfl
  have F_written := fun_mk (st := s_written) l_written c_written k_written
  have b_written := F_written.binds (ps := ["book"]) fun _ _ _ _ _ _ us hl => match us, hl with | [_], _ => rfl
  have F_part_of := fun_mk (st := s_part_of) l_part_of c_part_of k_part_of
  have b_part_of := F_part_of.binds (ps := ["word"]) fun _ _ _ _ _ _ us hl => match us, hl with | [_], _ => rfl
  have F_taken_apart := fun_mk (st := s_taken_apart) l_taken_apart c_taken_apart k_taken_apart
  have b_taken_apart := F_taken_apart.binds (ps := ["text"]) fun _ _ _ _ _ _ us hl => match us, hl with | [_], _ => rfl
  have F_read := fun_mk (st := s_read) l_read c_read k_read
  have b_read := F_read.binds (ps := ["text"]) fun _ _ _ _ _ _ us hl => match us, hl with | [_], _ => rfl
  have F__law_of := fun_mk (st := s__law_of) l__law_of c__law_of k__law_of
  have b__law_of := F__law_of.binds (ps := ["_law_script", "_law_k"]) fun _ _ _ _ _ _ us hl => match us, hl with | [_, _], _ => rfl
  have F__law_names := fun_mk (st := s__law_names) l__law_names c__law_names k__law_names
  have b__law_names := F__law_names.binds (ps := ["_law_cell", "_law_many"]) fun _ _ _ _ _ _ us hl => match us, hl with | [_, _], _ => rfl
  have F__law_entry := fun_mk (st := s__law_entry) l__law_entry c__law_entry k__law_entry
  have b__law_entry := F__law_entry.binds (ps := ["_law_names_here", "_law_base_here", "_law_n", "_law_number"]) fun _ _ _ _ _ _ us hl => match us, hl with | [_, _, _, _], _ => rfl
  have F__law_base := fun_mk (st := s__law_base) l__law_base c__law_base k__law_base
  have b__law_base := F__law_base.binds (ps := ["_law_script"]) fun _ _ _ _ _ _ us hl => match us, hl with | [_], _ => rfl
  have F__law_book := fun_mk (st := s__law_book) l__law_book c__law_book k__law_book
  have b__law_book := F__law_book.binds (ps := ["_law_script", "_law_many"]) fun _ _ _ _ _ _ us hl => match us, hl with | [_, _], _ => rfl
  have F__law_alike := fun_mk (st := s__law_alike) l__law_alike c__law_alike k__law_alike
  have b__law_alike := F__law_alike.binds (ps := ["_law_found", "_law_due"]) fun _ _ _ _ _ _ us hl => match us, hl with | [_, _], _ => rfl
  have F__law_line := fun_mk (st := s__law_line) l__law_line c__law_line k__law_line
  have b__law_line := F__law_line.binds (ps := ["_law_entry_here"]) fun _ _ _ _ _ _ us hl => match us, hl with | [_], _ => rfl
  have F_law := fun_mk (st := s_law) l_law c_law k_law
  refine ⟨PySem.W.fnOf "law" "law" (defArgs s_law) (defBody s_law) (defScope s_law) .none kV_law dc_law pm_law an_law cd_law ct_law, fun s v => .of_eq rfl, fun base _ _ => ?_⟩
  have C_is_whole := cl_is_whole (P := l.prog) (w := w) (base := base) F_is_whole (PySem.W.mg_of X G a_is_whole) b_is_whole m_type m_int
  have C_is_number := cl_is_number (P := l.prog) (w := w) (base := base) F_is_number (PySem.W.mg_of X G a_is_number) b_is_number C_is_whole
  have C_is_name := cl_is_name (P := l.prog) (w := w) (base := base) F_is_name (PySem.W.mg_of X G a_is_name) b_is_name m_type m_str m_len m_all g_LONGEST_NAME
  have C_is_day := cl_is_day (P := l.prog) (w := w) (base := base) F_is_day (PySem.W.mg_of X G a_is_day) b_is_day g_LAST_DAY C_is_whole
  have C_is_worth := cl_is_worth (P := l.prog) (w := w) (base := base) F_is_worth (PySem.W.mg_of X G a_is_worth) b_is_worth g_GREATEST_WORTH C_is_whole
  have C_are_days := cl_are_days (P := l.prog) (w := w) (base := base) F_are_days (PySem.W.mg_of X G a_are_days) b_are_days C_is_day
  have C_is_tell := cl_is_tell (P := l.prog) (w := w) (base := base) F_is_tell (PySem.W.mg_of X G a_is_tell) b_is_tell m_len C_is_name C_are_days C_is_worth
  have C_is_clear := cl_is_clear (P := l.prog) (w := w) (base := base) F_is_clear (PySem.W.mg_of X G a_is_clear) b_is_clear m_len C_is_name C_are_days
  have C_is_like := cl_is_like (P := l.prog) (w := w) (base := base) F_is_like (PySem.W.mg_of X G a_is_like) b_is_like m_len C_is_name C_are_days
  have C_is_undo := cl_is_undo (P := l.prog) (w := w) (base := base) F_is_undo (PySem.W.mg_of X G a_is_undo) b_is_undo m_len C_is_number
  have C_is_entry := cl_is_entry (P := l.prog) (w := w) (base := base) F_is_entry (PySem.W.mg_of X G a_is_entry) b_is_entry m_type m_tuple m_len m_str (ktab4 l_FORMS eh1 eh2 eh3 eh4 eLow) (PySem.W.mg_of X G a_FORMS) C_is_tell (PySem.W.mg_of X G a_is_tell) C_is_clear (PySem.W.mg_of X G a_is_clear) C_is_like (PySem.W.mg_of X G a_is_like) C_is_undo (PySem.W.mg_of X G a_is_undo)
  have C_may_stand := cl_may_stand (P := l.prog) (w := w) (base := base) F_may_stand (PySem.W.mg_of X G a_may_stand) b_may_stand C_is_number C_is_entry
  have C_is_book := cl_is_book (P := l.prog) (w := w) (base := base) F_is_book (PySem.W.mg_of X G a_is_book) b_is_book m_type m_dict m_len m_all g_MOST C_may_stand
  have C_shown := cl_shown (P := l.prog) (w := w) (base := base) F_shown (PySem.W.mg_of X G a_shown) b_shown m_str
  have C_written := cl_written (P := l.prog) (w := w) (base := base) F_written (PySem.W.mg_of X G a_written) b_written m_sorted C_shown
  have C_part_of := cl_part_of (P := l.prog) (w := w) (base := base) F_part_of (PySem.W.mg_of X G a_part_of) b_part_of m_all m_int
  have C_taken_apart := cl_taken_apart (P := l.prog) (w := w) (base := base) F_taken_apart (PySem.W.mg_of X G a_taken_apart) b_taken_apart m_tuple C_part_of
  have C_read := cl_read (P := l.prog) (w := w) (base := base) F_read (PySem.W.mg_of X G a_read) b_read m_type m_str C_taken_apart C_is_book C_written
  have C__law_of := cl__law_of (P := l.prog) (w := w) (base := base) F__law_of (PySem.W.mg_of X G a__law_of) b__law_of
  have C__law_names := cl__law_names (P := l.prog) (w := w) (base := base) F__law_names (PySem.W.mg_of X G a__law_names) b__law_names m_range m_len
  have C__law_entry := cl__law_entry (P := l.prog) (w := w) (base := base) F__law_entry (PySem.W.mg_of X G a__law_entry) b__law_entry m_int m_min
  have C__law_base := cl__law_base (P := l.prog) (w := w) (base := base) F__law_base (PySem.W.mg_of X G a__law_base) b__law_base C__law_of
  have C__law_book := cl__law_book (P := l.prog) (w := w) (base := base) F__law_book (PySem.W.mg_of X G a__law_book) b__law_book m_len m_min m_range m_dict C__law_of C__law_names C__law_base C__law_entry
  have C__law_alike := cl__law_alike (P := l.prog) (w := w) (base := base) F__law_alike (PySem.W.mg_of X G a__law_alike) b__law_alike m_tuple m_isinstance m_list m_len m_zip m_all m_bool 3
  have C__law_line := cl__law_line (P := l.prog) (w := w) (base := base) F__law_line (PySem.W.mg_of X G a__law_line) b__law_line m_str
  exact ok_law F_law m_dict m_sorted m_str m_isinstance m_range m_bool C__law_book C_shown C__law_line C_written C_read C__law_alike
end Q
open PySem PySem.W PyProof.Rows
set_option maxHeartbeats 0 in
theorem PySem.Challenge.cw_saidthen_k13_books_written_holds : PySem.Challenge.rw_saidthen_k13_books_written.Holds := by
  w_on; o_law; k_head; (case hw => w_witness2)
  k_fill
  refine L2.walk_of (l := PySem.Challenge.rw_saidthen_k13_books_written) (n := 63) (k := 9) (x := "_law_script") (CX := fun _ => L2.CX0) (sp := fun w => DL.spD _ 1 false Q.f_law) rfl (by decide) rfl ⟨rfl, by decide, by decide⟩ (fun w h Y => PySem.W.kIn_of Y) ?F (fun _ H a ns hl _ hS => DL.law_sp Q.law_true H a ns hl hS) (fun _ _ _ _ _ h => h)
  case F =>
    intro w mg fa h KX G hmg
    refine' Q.all_mk KX G hmg ?a_is_whole ?l_is_whole ?c_is_whole ?k_is_whole ?a_is_number ?l_is_number ?c_is_number ?k_is_number ?a_is_name ?l_is_name ?c_is_name ?k_is_name ?a_is_day ?l_is_day ?c_is_day ?k_is_day ?a_is_worth ?l_is_worth ?c_is_worth ?k_is_worth ?a_are_days ?l_are_days ?c_are_days ?k_are_days ?a_is_tell ?l_is_tell ?c_is_tell ?k_is_tell ?a_is_clear ?l_is_clear ?c_is_clear ?k_is_clear ?a_is_like ?l_is_like ?c_is_like ?k_is_like ?a_is_undo ?l_is_undo ?c_is_undo ?k_is_undo ?a_is_entry ?l_is_entry ?c_is_entry ?k_is_entry ?a_may_stand ?l_may_stand ?c_may_stand ?k_may_stand ?a_is_book ?l_is_book ?c_is_book ?k_is_book ?a_shown ?l_shown ?c_shown ?k_shown ?a_written ?l_written ?c_written ?k_written ?a_part_of ?l_part_of ?c_part_of ?k_part_of ?a_taken_apart ?l_taken_apart ?c_taken_apart ?k_taken_apart ?a_read ?l_read ?c_read ?k_read ?a__law_of ?l__law_of ?c__law_of ?k__law_of ?a__law_names ?l__law_names ?c__law_names ?k__law_names ?a__law_entry ?l__law_entry ?c__law_entry ?k__law_entry ?a__law_base ?l__law_base ?c__law_base ?k__law_base ?a__law_book ?l__law_book ?c__law_book ?k__law_book ?a__law_alike ?l__law_alike ?c__law_alike ?k__law_alike ?a__law_line ?l__law_line ?c__law_line ?k__law_line ?a_law ?l_law ?c_law ?k_law ?a_FORMS ?l_FORMS ?eh1 ?eh2 ?eh3 ?eh4 ?eLow ?z_type ?z_int ?z_str ?z_len ?z_all ?z_tuple ?z_dict ?z_sorted ?z_range ?z_min ?z_isinstance ?z_list ?z_zip ?z_bool ?z_LONGEST_NAME ?z_LAST_DAY ?z_GREATEST_WORTH ?z_MOST
    (case a_is_whole => k_is); (case l_is_whole => k_is); (case c_is_whole => k_is); (case k_is_whole => k_is); (case a_is_number => k_is); (case l_is_number => k_is); (case c_is_number => k_is); (case k_is_number => k_is); (case a_is_name => k_is); (case l_is_name => k_is); (case c_is_name => k_is); (case k_is_name => k_is); (case a_is_day => k_is); (case l_is_day => k_is); (case c_is_day => k_is); (case k_is_day => k_is); (case a_is_worth => k_is); (case l_is_worth => k_is); (case c_is_worth => k_is); (case k_is_worth => k_is); (case a_are_days => k_is); (case l_are_days => k_is); (case c_are_days => k_is); (case k_are_days => k_is); (case a_is_tell => k_is); (case l_is_tell => k_is); (case c_is_tell => k_is); (case k_is_tell => k_is); (case a_is_clear => k_is); (case l_is_clear => k_is); (case c_is_clear => k_is); (case k_is_clear => k_is); (case a_is_like => k_is); (case l_is_like => k_is); (case c_is_like => k_is); (case k_is_like => k_is); (case a_is_undo => k_is); (case l_is_undo => k_is); (case c_is_undo => k_is); (case k_is_undo => k_is); (case a_is_entry => k_is); (case l_is_entry => k_is); (case c_is_entry => k_is); (case k_is_entry => k_is); (case a_may_stand => k_is); (case l_may_stand => k_is); (case c_may_stand => k_is); (case k_may_stand => k_is); (case a_is_book => k_is); (case l_is_book => k_is); (case c_is_book => k_is); (case k_is_book => k_is); (case a_shown => k_is); (case l_shown => k_is); (case c_shown => k_is); (case k_shown => k_is); (case a_written => k_is); (case l_written => k_is); (case c_written => k_is); (case k_written => k_is); (case a_part_of => k_is); (case l_part_of => k_is); (case c_part_of => k_is); (case k_part_of => k_is); (case a_taken_apart => k_is); (case l_taken_apart => k_is); (case c_taken_apart => k_is); (case k_taken_apart => k_is); (case a_read => k_is); (case l_read => k_is); (case c_read => k_is); (case k_read => k_is); (case a__law_of => k_is); (case l__law_of => k_is); (case c__law_of => k_is); (case k__law_of => k_is); (case a__law_names => k_is); (case l__law_names => k_is); (case c__law_names => k_is); (case k__law_names => k_is); (case a__law_entry => k_is); (case l__law_entry => k_is); (case c__law_entry => k_is); (case k__law_entry => k_is); (case a__law_base => k_is); (case l__law_base => k_is); (case c__law_base => k_is); (case k__law_base => k_is); (case a__law_book => k_is); (case l__law_book => k_is); (case c__law_book => k_is); (case k__law_book => k_is); (case a__law_alike => k_is); (case l__law_alike => k_is); (case c__law_alike => k_is); (case k__law_alike => k_is); (case a__law_line => k_is); (case l__law_line => k_is); (case c__law_line => k_is); (case k__law_line => k_is); (case a_law => k_is); (case l_law => k_is); (case c_law => k_is); (case k_law => k_is); (case a_FORMS => k_is); (case l_FORMS => k_is); (case eh1 => rfl); (case eh2 => rfl); (case eh3 => rfl); (case eh4 => rfl); (case eLow => first | rfl | decide +kernel); (case z_type => k_is); (case z_int => k_is); (case z_str => k_is); (case z_len => k_is); (case z_all => k_is); (case z_tuple => k_is); (case z_dict => k_is); (case z_sorted => k_is); (case z_range => k_is); (case z_min => k_is); (case z_isinstance => k_is); (case z_list => k_is); (case z_zip => k_is); (case z_bool => k_is); (case z_LONGEST_NAME => k_is); (case z_LAST_DAY => k_is); (case z_GREATEST_WORTH => k_is); (case z_MOST => k_is)
