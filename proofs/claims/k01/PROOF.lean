import PyProof.Rows.All
import HandS.ForMost
import HandS.ForExc
import HandS.ReHeld
import HandS.Codes
import HandS.IsInst
import HandS.Zip
import HandS.Wide
import HandS.More
import HandS.Style
import HandS.SortInts
import HandS.SortKw
import PyProof.TypeEq
import PyProof.Rows.TupAdd
import KE.KSortedM
import KE.KEqDict
import KE.DataMinMax
import HandS.DictComp
import KE.KRevSl
import KE.KDictList
import HandS.Sort
import KE.KDictZip
import KE.KDictItemsList
import PyProof.InstEq
import PyProof.NeKinds
import HandS.CallLocal
import HandS.Deep
import HandS.ExcIs
import PySem.Challenge.RW_saidthen_k01_entries
set_option Elab.async false
set_option linter.all false
set_option maxRecDepth 100000
/-! DL1: trees of values, what represents them in the abstract heap, expressions by their denotation. -/
namespace DL
open PySem PySem.Spec PyProof.Rows L2

/-- a value with all that hangs on it -/
inductive T where
  | non | bl (b : Bool) | int (i : Int) | str (x : Str) | raw (v : V)
  | scr (xs : List T) | lst (xs : List T) | tup (xs : List T) | dic (kvs : List (Key × T))
  deriving Inhabited

section
variable (K : PySem.W.Frag) (H : Hp)
mutual
def Rep : T → V → Prop
  | .non, v => v = .non
  | .bl b, v => v = .bl b
  | .int i, v => v = .int i
  | .str x, v => v = .str x
  | .raw w, v => v = w
  | .scr ts, v => ∃ a vs, v = .ref a ∧ SqL K H a vs ∧ Reps ts vs
  | .lst ts, v => ∃ a vs, v = .ref a ∧ H a = some (.lst vs) ∧ Reps ts vs
  | .tup ts, v => ∃ a vs, v = .ref a ∧ SqT K H a vs ∧ Reps ts vs
  | .dic kts, v => ∃ a kvs, v = .ref a ∧ Rd H a (.dK kvs) ∧ RepsK kts kvs
def Reps : List T → List V → Prop
  | [], vs => vs = []
  | t :: ts, vs => ∃ v r, vs = v :: r ∧ Rep t v ∧ Reps ts r
def RepsK : List (Key × T) → List (Key × V) → Prop
  | [], vs => vs = []
  | (k, t) :: ts, vs => ∃ v r, vs = (k, v) :: r ∧ Rep t v ∧ RepsK ts r
end
end

/-- what is read at H is read at H' -/
structure Grow (K : PySem.W.Frag) (H H' : Hp) : Prop where
  sl : ∀ a vs, SqL K H a vs → SqL K H' a vs
  l : ∀ a vs, H a = some (.lst vs) → H' a = some (.lst vs)
  t : ∀ a vs, SqT K H a vs → SqT K H' a vs
  d : ∀ a kvs, Rd H a (.dK kvs) → Rd H' a (.dK kvs)

theorem same_sqT {K : PySem.W.Frag} {H H' : Hp} {a : Addr} {xs : List V} (e : Same H H') (h : SqT K H a xs) : SqT K H' a xs := by
  rcases h with (h | ⟨o, h⟩) | h
  · exact .inl (.inl (e _ _ h))
  · exact .inl (.inr ⟨o, e _ _ h⟩)
  · exact .inr h
theorem same_rd {H H' : Hp} {a : Addr} {u : HO} (e : Same H H') (h : Rd H a u) : Rd H' a u := by
  rcases h with h | ⟨o, h⟩
  · exact .inl (e _ _ h)
  · exact .inr ⟨o, e _ _ h⟩
theorem Grow.of {K : PySem.W.Frag} {H H' : Hp} (e : Same H H') : Grow K H H' :=
  ⟨fun _ _ h => e.seq h, fun _ _ h => e _ _ h, fun _ _ h => same_sqT e h, fun _ _ h => same_rd e h⟩
theorem same_upd' {H : Hp} {p : Addr} {o : HO} (h : H p = none) : Same H (upd H p o) := fun b x e => by
  rw [upd_ne (ne_of_none e h)]
  exact e

section
variable {K : PySem.W.Frag} {H H' : Hp}
mutual
theorem Rep.grow (g : Grow K H H') : ∀ (t : T) (v : V), Rep K H t v → Rep K H' t v
  | .non, _, h => h
  | .bl _, _, h => h
  | .int _, _, h => h
  | .str _, _, h => h
  | .raw _, _, h => h
  | .scr ts, v, h => by
    unfold Rep at h ⊢
    obtain ⟨a, vs, e, q, r⟩ := h
    exact ⟨a, vs, e, g.sl _ _ q, Reps.grow g ts vs r⟩
  | .lst ts, v, h => by
    unfold Rep at h ⊢
    obtain ⟨a, vs, e, q, r⟩ := h
    exact ⟨a, vs, e, g.l _ _ q, Reps.grow g ts vs r⟩
  | .tup ts, v, h => by
    unfold Rep at h ⊢
    obtain ⟨a, vs, e, q, r⟩ := h
    exact ⟨a, vs, e, g.t _ _ q, Reps.grow g ts vs r⟩
  | .dic kts, v, h => by
    unfold Rep at h ⊢
    obtain ⟨a, vs, e, q, r⟩ := h
    exact ⟨a, vs, e, g.d _ _ q, RepsK.grow g kts vs r⟩
theorem Reps.grow (g : Grow K H H') : ∀ (ts : List T) (vs : List V), Reps K H ts vs → Reps K H' ts vs
  | [], vs, h => by unfold Reps at h ⊢; exact h
  | t :: ts, vs, h => by
    unfold Reps at h ⊢
    obtain ⟨v, r, e, q, z⟩ := h
    exact ⟨v, r, e, Rep.grow g t v q, Reps.grow g ts r z⟩
theorem RepsK.grow (g : Grow K H H') : ∀ (ts : List (Key × T)) (vs : List (Key × V)), RepsK K H ts vs → RepsK K H' ts vs
  | [], vs, h => by unfold RepsK at h ⊢; exact h
  | (k, t) :: ts, vs, h => by
    unfold RepsK at h ⊢
    obtain ⟨v, r, e, q, z⟩ := h
    exact ⟨v, r, e, Rep.grow g t v q, RepsK.grow g ts r z⟩
end
theorem Rep.same {t : T} {v : V} (e : Same H H') (h : Rep K H t v) : Rep K H' t v := Rep.grow (.of e) t v h
theorem Reps.same {t : List T} {v : List V} (e : Same H H') (h : Reps K H t v) : Reps K H' t v := Reps.grow (.of e) t v h
theorem RepsK.same {t : List (Key × T)} {v : List (Key × V)} (e : Same H H') (h : RepsK K H t v) : RepsK K H' t v := RepsK.grow (.of e) t v h

theorem rep_non {v : V} : Rep K H .non v ↔ v = .non := by unfold Rep; rfl
theorem rep_bl {b : Bool} {v : V} : Rep K H (.bl b) v ↔ v = .bl b := by unfold Rep; rfl
theorem rep_int {b : Int} {v : V} : Rep K H (.int b) v ↔ v = .int b := by unfold Rep; rfl
theorem rep_str {b : Str} {v : V} : Rep K H (.str b) v ↔ v = .str b := by unfold Rep; rfl
theorem rep_raw {b : V} {v : V} : Rep K H (.raw b) v ↔ v = b := by unfold Rep; rfl
theorem rep_scr {ts : List T} {v : V} : Rep K H (.scr ts) v ↔ ∃ a vs, v = .ref a ∧ SqL K H a vs ∧ Reps K H ts vs := by unfold Rep; rfl
theorem rep_lst {ts : List T} {v : V} : Rep K H (.lst ts) v ↔ ∃ a vs, v = .ref a ∧ H a = some (.lst vs) ∧ Reps K H ts vs := by rw [Rep]
theorem rep_tup {ts : List T} {v : V} : Rep K H (.tup ts) v ↔ ∃ a vs, v = .ref a ∧ SqT K H a vs ∧ Reps K H ts vs := by unfold Rep; rfl
theorem rep_dic {ts : List (Key × T)} {v : V} : Rep K H (.dic ts) v ↔ ∃ a vs, v = .ref a ∧ Rd H a (.dK vs) ∧ RepsK K H ts vs := by unfold Rep; rfl

theorem Reps.paired : ∀ {ts : List T} {vs : List V}, Reps K H ts vs ↔ Paired (Rep K H) ts vs
  | [], vs => by
    unfold Reps
    constructor
    · rintro rfl; exact .nil
    · intro h; cases h; rfl
  | t :: ts, vs => by
    unfold Reps
    constructor
    · rintro ⟨v, r, rfl, h1, h2⟩; exact .cons h1 (Reps.paired.mp h2)
    · intro h
      cases h with
      | cons h1 h2 => exact ⟨_, _, rfl, h1, Reps.paired.mpr h2⟩
theorem RepsK.paired : ∀ {ts : List (Key × T)} {vs : List (Key × V)}, RepsK K H ts vs ↔ Paired (fun (p : Key × T) (q : Key × V) => p.1 = q.1 ∧ Rep K H p.2 q.2) ts vs
  | [], vs => by
    unfold RepsK
    constructor
    · rintro rfl; exact .nil
    · intro h; cases h; rfl
  | (k, t) :: ts, vs => by
    unfold RepsK
    constructor
    · rintro ⟨v, r, rfl, h1, h2⟩; exact .cons ⟨rfl, h1⟩ (RepsK.paired.mp h2)
    · intro h
      cases h with
      | cons h1 h2 =>
        rename_i b r
        obtain ⟨k', v⟩ := b
        obtain ⟨e, h1⟩ := h1
        cases e
        exact ⟨_, _, rfl, h1, RepsK.paired.mpr h2⟩
theorem Reps.nil : Reps K H [] [] := by unfold Reps; rfl
theorem Reps.cons {t : T} {ts : List T} {v : V} {vs : List V} (h : Rep K H t v) (r : Reps K H ts vs) : Reps K H (t :: ts) (v :: vs) := by
  unfold Reps; exact ⟨v, vs, rfl, h, r⟩
theorem Reps.length {ts : List T} {vs : List V} (h : Reps K H ts vs) : ts.length = vs.length := Paired.length (Reps.paired.mp h)
theorem RepsK.length {ts : List (Key × T)} {vs : List (Key × V)} (h : RepsK K H ts vs) : ts.length = vs.length := Paired.length (RepsK.paired.mp h)
end

/-! ### the environment -/
abbrev St := L2.St
abbrev Env' := List (Option T)
def EnvR (K : PySem.W.Frag) (H : Hp) (σ : St) (ρ : Env') : Prop :=
  σ.length = ρ.length ∧ ∀ (i : Nat) (t : T), ρ[i]? = some (some t) → ∃ v : V, σ[i]? = some (some v) ∧ Rep K H t v
theorem EnvR.same {K : PySem.W.Frag} {H H' : Hp} {σ : St} {ρ : Env'} (h : EnvR K H σ ρ) (e : Same H H') : EnvR K H' σ ρ :=
  ⟨h.1, fun i t q => let ⟨v, a, b⟩ := h.2 i t q; ⟨v, a, b.same e⟩⟩

/-! ### a family of contexts of one def: its body, or its comprehensions' blocks -/
structure Fm {ι : Type} (G : ι → Cx) (K : PySem.W.Frag) (mg : Str → Option Value) (base : Heap) (P : Program) (w : World) (N : List Str) (sc : Scope) (k : Nat) : Prop where
  K : ∀ i, (G i).K = K
  mg : ∀ i, (G i).mg = mg
  base : ∀ i, (G i).base = base
  P : ∀ i, (G i).prog = P
  w : ∀ i, (G i).w = w
  N : ∀ i, (G i).N = N
  sc : ∀ i, (G i).env.scope = sc
  calm : ∀ i, (G i).calm = true
  room : ∀ i, Room k (G i).A

end DL
namespace DL
open PySem PySem.Spec PyProof.Rows L2
variable {ι : Type} {G : ι → Cx} {K : PySem.W.Frag} {mg : Str → Option Value} {base : Heap} {P : Program} {w : World} {N : List Str} {sc : Scope} {k : Nat}

/-- all that a rule promises of e, in every context of the family -/
def ES (G : ι → Cx) (e : Expr) : TE := fun σ H Q => ∃ t, (∀ i, PE (G i) e t) ∧ t σ H Q
theorem pe_ts {e : Expr} (i : ι) : PE (G i) e (ES G e) := ⟨fun pins s σ H Q I ⟨t, h, q⟩ => (h i).run pins s σ H Q I q⟩
def TTs (G : ι → Cx) (e : Expr) : TT := fun σ H Q => ∃ t, (∀ i, PT (G i) e t) ∧ t σ H Q
theorem pt_ts {e : Expr} (i : ι) : PT (G i) e (TTs G e) := ⟨fun pins s σ H Q I ⟨t, h, q⟩ => (h i).run pins s σ H Q I q⟩
def TAs (G : ι → Cx) (es : List Expr) : TA := fun σ H Q => ∃ t, (∀ i, PA (G i) es t) ∧ t σ H Q
theorem pa_ts {es : List Expr} (i : ι) : PA (G i) es (TAs G es) := ⟨fun pos pins s σ H Q I ⟨t, h, q⟩ => (h i).run pos pins s σ H Q I q⟩

/-- e is worth d -/
def EV (G : ι → Cx) (K : PySem.W.Frag) (e : Expr) (d : Env' → Option T) : Prop :=
  ∀ ρ σ H τ Q, EnvR K H σ ρ → d ρ = some τ → (∀ v H', Same H H' → Rep K H' τ v → Q v H') → ES G e σ H Q
/-- a new object of the content τ -/
def FrO (K : PySem.W.Frag) (H : Hp) (τ : T) (o : HO) : Prop :=
  (∃ ts vs, τ = .lst ts ∧ o = .lst vs ∧ Reps K H ts vs) ∨ ∃ ts vs, τ = .dic ts ∧ o = .dK vs ∧ RepsK K H ts vs
/-- e is worth d, a new list or dict -/
def EVF (G : ι → Cx) (K : PySem.W.Frag) (e : Expr) (d : Env' → Option T) : Prop :=
  ∀ ρ σ H τ Q, EnvR K H σ ρ → d ρ = some τ → (∀ p o H', Same H H' → H p = none → H' p = some o → FrO K H' τ o → Q (.ref p) H') → ES G e σ H Q
/-- e is True or False -/
def BV (G : ι → Cx) (K : PySem.W.Frag) (e : Expr) (d : Env' → Option Bool) : Prop :=
  ∀ ρ σ H b Q, EnvR K H σ ρ → d ρ = some b → (∀ H', Same H H' → Q b H') → TTs G e σ H Q
/-- arguments -/
def AV (G : ι → Cx) (K : PySem.W.Frag) (es : List Expr) (d : Env' → Option (List T)) : Prop :=
  (∀ ρ τs, d ρ = some τs → τs.length = es.length) ∧ ∀ ρ σ H τs Q, EnvR K H σ ρ → d ρ = some τs → (∀ vs H', Same H H' → Reps K H' τs vs → Q vs H') → TAs G es σ H Q

theorem FrO.rep {K : PySem.W.Frag} {H : Hp} {τ : T} {o : HO} {p : Addr} (h : FrO K H τ o) (e : H p = some o) : Rep K H τ (.ref p) := by
  rcases h with ⟨ts, vs, rfl, rfl, r⟩ | ⟨ts, vs, rfl, rfl, r⟩
  · exact rep_lst.mpr ⟨p, vs, rfl, e, r⟩
  · exact rep_dic.mpr ⟨p, vs, rfl, .inl e, r⟩
theorem EVF.ev {e : Expr} {d : Env' → Option T} (h : EVF G K e d) : EV G K e d := fun ρ σ H τ Q he hd hq =>
  h ρ σ H τ Q he hd fun p o H' s _ e f => hq _ _ s (f.rep e)

/-! ### names and constants -/
def nd (i : Nat) : Env' → Option T := fun ρ => (ρ[i]?).join
theorem nd_some {i : Nat} {ρ : Env'} {τ : T} (h : nd i ρ = some τ) : ρ[i]? = some (some τ) := by
  unfold nd at h
  cases e : ρ[i]? with
  | none => rw [e] at h; cases h
  | some o => rw [e] at h; exact congrArg some h
def visB (sc : Scope) (x : Str) : Bool := match sc.names.lookup x with
  | some .local => true | some .cell => true | some .free => true | _ => false
theorem vis_of {sc : Scope} {x : Str} (h : visB sc x = true) : Vis sc x := by
  unfold visB at h
  split at h
  · exact .inl (by assumption)
  · exact .inr (.inl (by assumption))
  · exact .inr (.inr (by assumption))
  · cases h
theorem ev_var (hG : Fm G K mg base P w N sc k) (i : Nat) {x : Str} {pos : Pos} (hN : N[i]? = some x := by rfl) (hv : visB sc x = true := by rfl)
    (hd : (x == ("__debug__" : Str)) = false := by decide) (hcd : (x == ("__classdict__" : Str)) = false := by decide) : EV G K (.Name x pos) (nd i) := by
  intro ρ σ H τ Q he hd' hq
  refine ⟨tVar i, fun j => pe_var (by rw [hG.N j]; exact hN) (by rw [hG.sc j]; exact vis_of hv) hd hcd, ?_⟩
  obtain ⟨v, e, r⟩ := he.2 i τ (nd_some hd')
  exact ⟨v, e, hq v H (Same.refl H) r⟩
theorem ev_int {i : Int} {j pos} : EV G K (.Constant (.int i) j pos) (fun _ => some (.int i)) := by
  intro ρ σ H τ Q he hd hq
  cases hd
  exact ⟨_, fun _ => pe_int, hq _ _ (Same.refl H) (rep_int.mpr rfl)⟩
theorem ev_bl {i : Bool} {j pos} : EV G K (.Constant (.bool i) j pos) (fun _ => some (.bl i)) := by
  intro ρ σ H τ Q he hd hq
  cases hd
  exact ⟨_, fun _ => pe_bl, hq _ _ (Same.refl H) (rep_bl.mpr rfl)⟩
theorem ev_non {j pos} : EV G K (.Constant .none j pos) (fun _ => some .non) := by
  intro ρ σ H τ Q he hd hq
  cases hd
  exact ⟨_, fun _ => pe_non, hq _ _ (Same.refl H) (rep_non.mpr rfl)⟩
theorem ev_str {x : Str} {j pos} : EV G K (.Constant (.str x) j pos) (fun _ => some (.str x)) := by
  intro ρ σ H τ Q he hd hq
  cases hd
  exact ⟨_, fun _ => pe_str, hq _ _ (Same.refl H) (rep_str.mpr rfl)⟩
def glB (sc : Scope) (x : Str) : Bool := match sc.names.lookup x with
  | some .globalImplicit => true | _ => false
theorem gl_of (hG : Fm G K mg base P w N sc k) {x : Str} (h : glB sc x = true) (i : ι) : Gl (G i) x := by
  show (G i).env.scope.names.lookup x = some .globalImplicit
  rw [hG.sc i]
  unfold glB at h
  split at h
  · assumption
  · cases h
/-- a module's constant -/
theorem ev_glob (hG : Fm G K mg base P w N sc k) {x : Str} {v : V} {u : Value} {τ : T} {pos : Pos} (hm : mg x = some u) (r : RelV v u) (hτ : ∀ H, Rep K H τ v) (hg : glB sc x = true := by rfl) (hd : (x == ("__debug__" : Str)) = false := by decide) :
    EV G K (.Name x pos) (fun _ => some τ) := by
  intro ρ σ H τ' Q he hd' hq
  cases hd'
  exact ⟨_, fun i => pe_glob (gl_of hG hg i) (by rw [hG.mg i]; exact hm) r hd, hq _ _ (Same.refl H) (hτ H)⟩
theorem ev_bltn (hG : Fm G K mg base P w N sc k) {x : Str} {v : V} {u : Value} {pos : Pos} (hm : mg x = none) (hv : bootBuiltins x = some u) (r : RelV v u) (hg : glB sc x = true := by rfl) (hn : x ≠ "__name__" := by decide) (hd : (x == ("__debug__" : Str)) = false := by decide) :
    EV G K (.Name x pos) (fun _ => some (.raw v)) := by
  intro ρ σ H τ' Q he hd' hq
  cases hd'
  exact ⟨_, fun i => pe_bltn (gl_of hG hg i) (by rw [hG.mg i]; exact hm) hv r hn hd, hq _ _ (Same.refl H) (rep_raw.mpr rfl)⟩

/-! ### operators by values -/
def b2 (f : T → T → Option T) (a b : Option T) : Option T := match a, b with
  | some x, some y => f x y
  | _, _ => none
theorem b2_some {f : T → T → Option T} {a b : Option T} {τ : T} (h : b2 f a b = some τ) : ∃ x y, a = some x ∧ b = some y ∧ f x y = some τ := by
  cases a with
  | none => cases h
  | some x => cases b with
    | none => cases h
    | some y => exact ⟨x, y, rfl, rfl, h⟩
@[simp] theorem b2_mk {f : T → T → Option T} {x y : T} : b2 f (some x) (some y) = f x y := rfl
def OPS (G : ι → Cx) (f : Value → Value → Sem Value) : R2 := fun x y H Q => ∃ r, (∀ i, OpR (G i) f r) ∧ r x y H Q
theorem op_ops {f : Value → Value → Sem Value} (i : ι) : OpR (G i) f (OPS G f) := fun pins s σ H x y v u Q I rx ry ⟨r, h, q⟩ => h i pins s σ H x y v u Q I rx ry q
/-- the operation f is worth g -/
def OpS (G : ι → Cx) (K : PySem.W.Frag) (f : Value → Value → Sem Value) (g : T → T → Option T) : Prop :=
  ∀ H x y v u τ Q, g x y = some τ → Rep K H x v → Rep K H y u → (∀ z H', Same H H' → Rep K H' τ z → Q z H') → OPS G f v u H Q
theorem ev_bin {a b : Expr} {op : Operator} {g : T → T → Option T} {da db : Env' → Option T} {pos : Pos} (ho : OpS G K (binaryOp op) g) (ha : EV G K a da) (hb : EV G K b db) :
    EV G K (.BinOp a op b pos) (fun ρ => b2 g (da ρ) (db ρ)) := by
  intro ρ σ H τ Q he hd hq
  obtain ⟨x, y, ea, eb, eg⟩ := b2_some hd
  refine ⟨tOp (OPS G (binaryOp op)) (ES G a) (ES G b), fun i => pe_op (op_ops i) (pe_ts i) (pe_ts i), ?_⟩
  refine ha ρ σ H x _ he ea fun v H1 s1 r1 => hb ρ σ H1 y _ (he.same s1) eb fun u H2 s2 r2 => ?_
  exact ho H2 x y v u τ Q eg (r1.same s2) r2 fun z H' s3 r3 => hq z H' ((s1.trans s2).trans s3) r3
theorem ev_cmp {a b : Expr} {op : CmpOp} {g : T → T → Option T} {da db : Env' → Option T} {pos : Pos} (ho : OpS G K (compareOp op) g) (ha : EV G K a da) (hb : EV G K b db)
    (hm : behindInMarks op b = false := by first | exact nomark _ | rfl) : EV G K (.Compare a [op] [b] pos) (fun ρ => b2 g (da ρ) (db ρ)) := by
  intro ρ σ H τ Q he hd hq
  obtain ⟨x, y, ea, eb, eg⟩ := b2_some hd
  refine ⟨tOp (OPS G (compareOp op)) (ES G a) (ES G b), fun i => pe_cmpR (op_ops i) (pe_ts i) (pe_ts i) hm, ?_⟩
  refine ha ρ σ H x _ he ea fun v H1 s1 r1 => hb ρ σ H1 y _ (he.same s1) eb fun u H2 s2 r2 => ?_
  exact ho H2 x y v u τ Q eg (r1.same s2) r2 fun z H' s3 r3 => hq z H' ((s1.trans s2).trans s3) r3
def asB : Option T → Option Bool
  | some (.bl b) => some b
  | _ => none
theorem asB_some {o : Option T} {b : Bool} (h : asB o = some b) : o = some (.bl b) := by
  unfold asB at h
  split at h
  · cases h; rfl
  · cases h
@[simp] theorem asB_bl {b : Bool} : asB (some (.bl b)) = some b := rfl
theorem bv_cmp {a b : Expr} {op : CmpOp} {g : T → T → Option T} {da db : Env' → Option T} {pos : Pos} (ho : OpS G K (compareOp op) g) (ha : EV G K a da) (hb : EV G K b db)
    (hm : behindInMarks op b = false := by first | exact nomark _ | rfl) : BV G K (.Compare a [op] [b] pos) (fun ρ => asB (b2 g (da ρ) (db ρ))) := by
  intro ρ σ H c Q he hd hq
  obtain ⟨x, y, ea, eb, eg⟩ := b2_some (asB_some hd)
  refine ⟨tTest (tOp (OPS G (compareOp op)) (ES G a) (ES G b)), fun i => pt_cmpR (op_ops i) (pe_ts i) (pe_ts i) hm, ?_⟩
  refine ha ρ σ H x _ he ea fun v H1 s1 r1 => hb ρ σ H1 y _ (he.same s1) eb fun u H2 s2 r2 => ?_
  exact ho H2 x y v u _ _ eg (r1.same s2) r2 fun z H' s3 r3 => ⟨c, rep_bl.mp r3, hq H' ((s1.trans s2).trans s3)⟩
/-- a op b op' c -/
def chD (g g' : T → T → Option T) (a b c : Option T) : Option T := match b2 g a b with
  | some (.bl true) => b2 g' b c
  | some (.bl false) => some (.bl false)
  | _ => none
theorem chain_aux {a b c : Expr} {op op' : CmpOp} {g g' : T → T → Option T} {da db dc : Env' → Option T} (ho : OpS G K (compareOp op) g) (ho' : OpS G K (compareOp op') g') (ha : EV G K a da) (hb : EV G K b db) (hc : EV G K c dc)
    {ρ : Env'} {σ : St} {H : Hp} {τ : T} {Q : VK} (he : EnvR K H σ ρ) (hd : chD g g' (da ρ) (db ρ) (dc ρ) = some τ) (hq : ∀ v H', Same H H' → Rep K H' τ v → Q v H') :
    tChain (OPS G (compareOp op)) (OPS G (compareOp op')) (ES G a) (ES G b) (ES G c) σ H Q := by
  unfold chD at hd
  split at hd
  · rename_i e1
    obtain ⟨x, y, ea, eb, eg⟩ := b2_some e1
    obtain ⟨y', z, eb', ec, eg'⟩ := b2_some hd
    rw [eb] at eb'; cases eb'
    refine ha ρ σ H x _ he ea fun v H1 s1 r1 => hb ρ σ H1 y _ (he.same s1) eb fun u H2 s2 r2 => ?_
    refine ho H2 x y v u _ _ eg (r1.same s2) r2 fun q H3 s3 r3 => ⟨true, rep_bl.mp r3, ?_⟩
    rw [if_pos rfl]
    refine hc ρ σ H3 z _ (he.same ((s1.trans s2).trans s3)) ec fun t H4 s4 r4 => ?_
    exact ho' H4 y z u t _ _ eg' (r2.same (s3.trans s4)) r4 fun q' H5 s5 r5 => hq _ _ ((((s1.trans s2).trans s3).trans s4).trans s5) r5
  · rename_i e1
    obtain ⟨x, y, ea, eb, eg⟩ := b2_some e1
    cases hd
    refine ha ρ σ H x _ he ea fun v H1 s1 r1 => hb ρ σ H1 y _ (he.same s1) eb fun u H2 s2 r2 => ?_
    refine ho H2 x y v u _ _ eg (r1.same s2) r2 fun q H3 s3 r3 => ⟨false, rep_bl.mp r3, ?_⟩
    rw [if_neg Bool.false_ne_true]
    exact hq _ _ ((s1.trans s2).trans s3) (rep_bl.mpr rfl)
  · cases hd
theorem ev_chain {a b c : Expr} {op op' : CmpOp} {g g' : T → T → Option T} {da db dc : Env' → Option T} {pos : Pos} (ho : OpS G K (compareOp op) g) (ho' : OpS G K (compareOp op') g') (ha : EV G K a da) (hb : EV G K b db) (hc : EV G K c dc)
    (hm : lastMarks [op, op'] [b, c] = false := by with_unfolding_all rfl) : EV G K (.Compare a [op, op'] [b, c] pos) (fun ρ => chD g g' (da ρ) (db ρ) (dc ρ)) := by
  intro ρ σ H τ Q he hd hq
  exact ⟨_, fun i => pe_chain (op_ops i) (op_ops i) (pe_ts i) (pe_ts i) (pe_ts i) hm, chain_aux ho ho' ha hb hc he hd hq⟩
theorem bv_chain {a b c : Expr} {op op' : CmpOp} {g g' : T → T → Option T} {da db dc : Env' → Option T} {pos : Pos} (ho : OpS G K (compareOp op) g) (ho' : OpS G K (compareOp op') g') (ha : EV G K a da) (hb : EV G K b db) (hc : EV G K c dc)
    (hm : lastMarks [op, op'] [b, c] = false := by with_unfolding_all rfl) : BV G K (.Compare a [op, op'] [b, c] pos) (fun ρ => asB (chD g g' (da ρ) (db ρ) (dc ρ))) := by
  intro ρ σ H τ Q he hd hq
  exact ⟨_, fun i => pt_chain (op_ops i) (op_ops i) (pe_ts i) (pe_ts i) (pe_ts i) hm, chain_aux ho ho' ha hb hc he (asB_some hd) fun v H' s r => ⟨τ, rep_bl.mp r, hq H' s⟩⟩

/-! ### tests -/
theorem bv_val {e : Expr} {d : Env' → Option T} (h : EV G K e d) (he : ∀ i whole, isTrue e (G i).env whole = (do let v ← whole; standAt e.pos; holding [v] (truthy v)) := by intro _ _; rfl) : BV G K e (fun ρ => asB (d ρ)) := by
  intro ρ σ H b Q hE hd hq
  refine ⟨_, fun i => pt_val (pe_ts i) (he i), ?_⟩
  exact h ρ σ H _ _ hE (asB_some hd) fun v H' s r => ⟨b, rep_bl.mp r, hq H' s⟩
/-- a test whatever its whole is -/
def TWs (G : ι → Cx) (e : Expr) : TT := fun σ H Q => ∃ t, (∀ i, PW (G i) e t) ∧ t σ H Q
theorem pw_ts {e : Expr} (i : ι) : PW (G i) e (TWs G e) := ⟨fun wh pins s σ H Q I ⟨t, h, q⟩ => (h i).run wh pins s σ H Q I q⟩
def BW (G : ι → Cx) (K : PySem.W.Frag) (e : Expr) (d : Env' → Option Bool) : Prop :=
  ∀ ρ σ H b Q, EnvR K H σ ρ → d ρ = some b → (∀ H', Same H H' → Q b H') → TWs G e σ H Q
theorem BW.bv {e : Expr} {d : Env' → Option Bool} (h : BW G K e d) : BV G K e d := fun ρ σ H b Q he hd hq =>
  let ⟨t, ht, q⟩ := h ρ σ H b Q he hd hq
  ⟨t, fun i => (ht i).pt, q⟩
def andD (a b : Option Bool) : Option Bool := match a with
  | some true => b | some false => some false | none => none
def orD (a b : Option Bool) : Option Bool := match a with
  | some true => some true | some false => b | none => none
variable {a b : Expr} {rest : List Expr} {pos : Pos} {da db : Env' → Option Bool}
theorem bw_and1 (ha : BV G K a da) : BW G K (.BoolOp .And [a] pos) da := fun ρ σ H b Q he hd hq => ⟨_, fun i => pw_and1 (pt_ts i), ha ρ σ H b Q he hd hq⟩
theorem bw_or1 (ha : BV G K a da) : BW G K (.BoolOp .Or [a] pos) da := fun ρ σ H b Q he hd hq => ⟨_, fun i => pw_or1 (pt_ts i), ha ρ σ H b Q he hd hq⟩
theorem bw_and (ha : BV G K a da) (hb : BW G K (.BoolOp .And (b :: rest) pos) db) : BW G K (.BoolOp .And (a :: b :: rest) pos) (fun ρ => andD (da ρ) (db ρ)) := by
  intro ρ σ H c Q he hd hq
  refine ⟨_, fun i => pw_and (pt_ts i) (pw_ts i), ?_⟩
  dsimp only at hd
  unfold andD at hd
  split at hd
  · rename_i e
    refine ha ρ σ H true _ he e fun H1 s1 => ?_
    rw [if_pos rfl]
    exact hb ρ σ H1 c Q (he.same s1) hd fun H2 s2 => hq H2 (s1.trans s2)
  · rename_i e
    cases hd
    refine ha ρ σ H false _ he e fun H1 s1 => ?_
    rw [if_neg Bool.false_ne_true]
    exact hq H1 s1
  · cases hd
theorem bw_or (ha : BV G K a da) (hb : BW G K (.BoolOp .Or (b :: rest) pos) db) : BW G K (.BoolOp .Or (a :: b :: rest) pos) (fun ρ => orD (da ρ) (db ρ)) := by
  intro ρ σ H c Q he hd hq
  refine ⟨_, fun i => pw_or (pt_ts i) (pw_ts i), ?_⟩
  dsimp only at hd
  unfold orD at hd
  split at hd
  · rename_i e
    cases hd
    refine ha ρ σ H true _ he e fun H1 s1 => ?_
    rw [if_pos rfl]
    exact hq H1 s1
  · rename_i e
    refine ha ρ σ H false _ he e fun H1 s1 => ?_
    rw [if_neg Bool.false_ne_true]
    exact hb ρ σ H1 c Q (he.same s1) hd fun H2 s2 => hq H2 (s1.trans s2)
  · cases hd
theorem bv_not (ha : BV G K a da) : BV G K (.UnaryOp .Not a pos) (fun ρ => (da ρ).map (!·)) := by
  intro ρ σ H c Q he hd hq
  refine ⟨_, fun i => pt_not (pt_ts i), ?_⟩
  dsimp only at hd
  cases e : da ρ with
  | none => rw [e] at hd; cases hd
  | some d =>
    rw [e] at hd
    cases hd
    exact ha ρ σ H d _ he e hq
variable {ea eb : Env' → Option T}
/-- and, or, not as values -/
def andV (a b : Option T) : Option T := match a with
  | some (.bl true) => b | some (.bl false) => some (.bl false) | _ => none
def orV (a b : Option T) : Option T := match a with
  | some (.bl true) => some (.bl true) | some (.bl false) => b | _ => none
def notV (a : Option T) : Option T := match a with
  | some (.bl c) => some (.bl (!c)) | _ => none
theorem ev_one {op} (ha : EV G K a ea) : EV G K (.BoolOp op [a] pos) ea := fun ρ σ H τ Q he hd hq => ⟨_, fun i => pe_one (pe_ts i), ha ρ σ H τ Q he hd hq⟩
theorem ev_and (ha : EV G K a ea) (hb : EV G K (.BoolOp .And (b :: rest) pos) eb) : EV G K (.BoolOp .And (a :: b :: rest) pos) (fun ρ => andV (ea ρ) (eb ρ)) := by
  intro ρ σ H c Q he hd hq
  refine ⟨_, fun i => pe_and (pe_ts i) (pe_ts i), ?_⟩
  dsimp only at hd
  unfold andV at hd
  split at hd
  · rename_i e
    refine ha ρ σ H _ _ he e fun v H1 s1 r => ⟨true, rep_bl.mp r, ?_⟩
    rw [if_pos rfl]
    exact hb ρ σ H1 c Q (he.same s1) hd fun v H2 s2 => hq v H2 (s1.trans s2)
  · rename_i e
    cases hd
    refine ha ρ σ H _ _ he e fun v H1 s1 r => ⟨false, rep_bl.mp r, ?_⟩
    rw [if_neg Bool.false_ne_true]
    exact hq _ H1 s1 (rep_bl.mpr rfl)
  · cases hd
theorem ev_or (ha : EV G K a ea) (hb : EV G K (.BoolOp .Or (b :: rest) pos) eb) : EV G K (.BoolOp .Or (a :: b :: rest) pos) (fun ρ => orV (ea ρ) (eb ρ)) := by
  intro ρ σ H c Q he hd hq
  refine ⟨_, fun i => pe_or (pe_ts i) (pe_ts i), ?_⟩
  dsimp only at hd
  unfold orV at hd
  split at hd
  · rename_i e
    cases hd
    refine ha ρ σ H _ _ he e fun v H1 s1 r => ⟨true, rep_bl.mp r, ?_⟩
    rw [if_pos rfl]
    exact hq _ H1 s1 (rep_bl.mpr rfl)
  · rename_i e
    refine ha ρ σ H _ _ he e fun v H1 s1 r => ⟨false, rep_bl.mp r, ?_⟩
    rw [if_neg Bool.false_ne_true]
    exact hb ρ σ H1 c Q (he.same s1) hd fun v H2 s2 => hq v H2 (s1.trans s2)
  · cases hd
theorem ev_not (ha : EV G K a ea) : EV G K (.UnaryOp .Not a pos) (fun ρ => notV (ea ρ)) := by
  intro ρ σ H c Q he hd hq
  refine ⟨_, fun i => pe_not (pe_ts i), ?_⟩
  dsimp only at hd
  unfold notV at hd
  split at hd
  · rename_i d e
    cases hd
    exact ha ρ σ H _ _ he e fun v H1 s1 r => ⟨d, rep_bl.mp r, hq _ H1 s1 (rep_bl.mpr rfl)⟩
  · cases hd
def ifV (c : Option Bool) (a b : Option T) : Option T := match c with
  | some true => a | some false => b | none => none
theorem ev_if {c : Expr} (hc : BV G K c da) (ha : EV G K a ea) (hb : EV G K b eb) : EV G K (.IfExp c a b pos) (fun ρ => ifV (da ρ) (ea ρ) (eb ρ)) := by
  intro ρ σ H τ Q he hd hq
  refine ⟨_, fun i => pe_ifExp (pt_ts i) (pe_ts i) (pe_ts i), ?_⟩
  dsimp only at hd
  unfold ifV at hd
  split at hd
  · rename_i e
    refine hc ρ σ H true _ he e fun H1 s1 => ?_
    rw [if_pos rfl]
    exact ha ρ σ H1 τ Q (he.same s1) hd fun v H2 s2 => hq v H2 (s1.trans s2)
  · rename_i e
    refine hc ρ σ H false _ he e fun H1 s1 => ?_
    rw [if_neg Bool.false_ne_true]
    exact hb ρ σ H1 τ Q (he.same s1) hd fun v H2 s2 => hq v H2 (s1.trans s2)
  · cases hd

/-! ### arguments, displays -/
def consD (a : Option T) (r : Option (List T)) : Option (List T) := match a, r with
  | some x, some xs => some (x :: xs)
  | _, _ => none
theorem consD_some {a : Option T} {r : Option (List T)} {τs : List T} (h : consD a r = some τs) : ∃ x xs, a = some x ∧ r = some xs ∧ τs = x :: xs := by
  cases a with
  | none => cases h
  | some x => cases r with
    | none => cases h
    | some xs => cases h; exact ⟨x, xs, rfl, rfl, rfl⟩
@[simp] theorem consD_mk {x : T} {xs : List T} : consD (some x) (some xs) = some (x :: xs) := rfl
variable {es : List Expr} {dr : Env' → Option (List T)}
theorem av_nil : AV G K [] (fun _ => some []) := by
  refine ⟨fun ρ τs h => by cases h; rfl, ?_⟩
  intro ρ σ H τs Q he hd hq
  cases hd
  exact ⟨_, fun _ => pa_nil, hq [] H (Same.refl H) Reps.nil⟩
theorem av_cons (ha : EV G K a ea) (hr : AV G K es dr) (hs : ∀ i, starEach (a :: es) (G i).env = (false, eval a (G i).env) :: starEach es (G i).env := by intro _; rfl) : AV G K (a :: es) (fun ρ => consD (ea ρ) (dr ρ)) := by
  refine ⟨fun ρ τs h => ?_, ?_⟩
  · obtain ⟨x, xs, e1, e2, rfl⟩ := consD_some h
    simp [hr.1 ρ xs e2]
  intro ρ σ H τs Q he hd hq
  obtain ⟨x, xs, e1, e2, rfl⟩ := consD_some hd
  refine ⟨tCons (ES G a) (TAs G es), fun i => pa_cons (pe_ts i) (pa_ts i) (hs i), ?_⟩
  refine ha ρ σ H x _ he e1 fun v H1 s1 r1 => hr.2 ρ σ H1 xs _ (he.same s1) e2 fun vs H2 s2 r2 => ?_
  exact hq _ _ (s1.trans s2) (.cons (r1.same s2) r2)
def tupD (r : Option (List T)) : Option T := match r with
  | some ts => if ts.length ≤ sizeLine then some (.tup ts) else none
  | none => none
def lstD (r : Option (List T)) : Option T := match r with
  | some ts => if ts.length ≤ sizeLine then some (.lst ts) else none
  | none => none
theorem ev_tup {x1} (h : AV G K es dr) : EV G K (.Tuple es x1 pos) (fun ρ => tupD (dr ρ)) := by
  intro ρ σ H τ Q he hd hq
  dsimp only at hd
  unfold tupD at hd
  split at hd
  · rename_i ts e
    split at hd
    · rename_i hl
      cases hd
      refine ⟨_, fun i => pe_tup (pa_ts i), ?_⟩
      refine h.2 ρ σ H ts _ he e fun vs H1 s1 r => ⟨by rw [← r.length]; exact hl, fun p np => ?_⟩
      exact hq _ _ (s1.trans (same_upd' np)) (rep_tup.mpr ⟨p, vs, rfl, .inl (.inl upd_same), r.same (same_upd' np)⟩)
    · cases hd
  · cases hd
theorem evf_lst (h : AV G K es dr) : EVF G K (.List es pos) (fun ρ => lstD (dr ρ)) := by
  intro ρ σ H τ Q he hd hq
  dsimp only at hd
  unfold lstD at hd
  split at hd
  · rename_i ts e
    split at hd
    · rename_i hl
      cases hd
      refine ⟨_, fun i => pe_lst (pa_ts i), ?_⟩
      refine h.2 ρ σ H ts _ he e fun vs H1 s1 r => ⟨by rw [← r.length]; exact hl, fun p np => ?_⟩
      exact hq p (.lst vs) _ (s1.trans (same_upd' np)) (s1.free np) upd_same (.inl ⟨ts, vs, rfl, rfl, r.same (same_upd' np)⟩)
    · cases hd
  · cases hd
end DL
namespace DL
open PySem PySem.Spec PyProof.Rows L2
variable {ι : Type} {G : ι → Cx} {K : PySem.W.Frag} {mg : Str → Option Value} {base : Heap} {P : Program} {w : World} {N : List Str} {sc : Scope} {k : Nat}

/-! ### what cannot be changed -/
mutual
def imm : T → Bool
  | .non => true | .bl _ => true | .int _ => true | .str _ => true | .raw _ => true
  | .tup ts => immL ts
  | .scr _ => false | .lst _ => false | .dic _ => false
def immL : List T → Bool
  | [] => true
  | t :: ts => imm t && immL ts
end
def immK : List (Key × T) → Bool
  | [] => true
  | (_, t) :: ts => imm t && immK ts
/-- the items of a list or dict -/
def immE : T → Bool
  | .lst ts => immL ts | .dic ts => immK ts | _ => false
def tupO : Option HO → Option HO
  | some (.tup xs) => some (.tup xs)
  | some (.frz o (.tup xs)) => some (.frz o (.tup xs))
  | _ => none
/-- B and the tuples of H -/
def addT (B H : Hp) : Hp := fun a => match B a with
  | some o => some o
  | none => tupO (H a)
theorem addT_some {B H : Hp} {a : Addr} {o : HO} (h : B a = some o) : addT B H a = some o := by unfold addT; rw [h]
theorem addT_none {B H : Hp} {a : Addr} (h : B a = none) : addT B H a = tupO (H a) := by unfold addT; rw [h]
theorem tupO_some {o : Option HO} {u : HO} (h : tupO o = some u) : o = some u := by
  unfold tupO at h
  split at h
  · exact h
  · exact h
  · cases h
theorem same_addT {B H : Hp} : Same B (addT B H) := fun a o h => addT_some h
theorem addT_same {B H : Hp} (s : Same B H) : Same (addT B H) H := fun a o h => by
  cases e : B a with
  | some u =>
    rw [addT_some e] at h
    cases h
    exact s a _ e
  | none =>
    rw [addT_none e] at h
    exact tupO_some h
theorem addT_sqT {B H : Hp} {a : Addr} {vs : List V} (s : Same B H) (h : SqT K H a vs) : SqT K (addT B H) a vs := by
  rcases h with (h | ⟨o, h⟩) | h
  · cases e : B a with
    | some u =>
      have := s a u e
      rw [h] at this
      cases this
      exact .inl (.inl (addT_some e))
    | none =>
      exact .inl (.inl (by rw [addT_none e, h]; rfl))
  · cases e : B a with
    | some u =>
      have := s a u e
      rw [h] at this
      cases this
      exact .inl (.inr ⟨o, addT_some e⟩)
    | none =>
      exact .inl (.inr ⟨o, by rw [addT_none e, h]; rfl⟩)
  · exact .inr h
section
variable {B H : Hp}
mutual
theorem imm_rep (s : Same B H) : ∀ (t : T) (v : V), imm t = true → Rep K H t v → Rep K (addT B H) t v
  | .non, _, _, h => rep_non.mpr (rep_non.mp h)
  | .bl _, _, _, h => rep_bl.mpr (rep_bl.mp h)
  | .int _, _, _, h => rep_int.mpr (rep_int.mp h)
  | .str _, _, _, h => rep_str.mpr (rep_str.mp h)
  | .raw _, _, _, h => rep_raw.mpr (rep_raw.mp h)
  | .scr _, _, e, _ => by simp [imm] at e
  | .lst _, _, e, _ => by simp [imm] at e
  | .dic _, _, e, _ => by simp [imm] at e
  | .tup ts, v, e, h => by
    obtain ⟨a, vs, rfl, q, r⟩ := rep_tup.mp h
    exact rep_tup.mpr ⟨a, vs, rfl, addT_sqT s q, imm_reps s ts vs (by simpa [imm] using e) r⟩
theorem imm_reps (s : Same B H) : ∀ (t : List T) (v : List V), immL t = true → Reps K H t v → Reps K (addT B H) t v
  | [], v, _, h => by unfold Reps at h ⊢; exact h
  | t :: ts, v, e, h => by
    unfold Reps at h
    obtain ⟨x, r, rfl, h1, h2⟩ := h
    have e' : imm t = true ∧ immL ts = true := by simpa [immL] using e
    exact .cons (imm_rep s t x e'.1 h1) (imm_reps s ts r e'.2 h2)
end
theorem imm_repsK (s : Same B H) : ∀ (t : List (Key × T)) (v : List (Key × V)), immK t = true → RepsK K H t v → RepsK K (addT B H) t v
  | [], v, _, h => by unfold RepsK at h ⊢; exact h
  | (k, t) :: ts, v, e, h => by
    unfold RepsK at h ⊢
    obtain ⟨x, r, rfl, h1, h2⟩ := h
    have e' : imm t = true ∧ immK ts = true := by simpa [immK] using e
    exact ⟨x, r, rfl, imm_rep s t x e'.1 h1, imm_repsK s ts r e'.2 h2⟩
theorem imm_frO {τ : T} {o : HO} (s : Same B H) (e : immE τ = true) (h : FrO K H τ o) : FrO K (addT B H) τ o := by
  rcases h with ⟨ts, vs, rfl, rfl, r⟩ | ⟨ts, vs, rfl, rfl, r⟩
  · exact .inl ⟨ts, vs, rfl, rfl, imm_reps s ts vs e r⟩
  · exact .inr ⟨ts, vs, rfl, rfl, imm_repsK s ts vs e r⟩
end
theorem FrO.same {H H' : Hp} {τ : T} {o : HO} (h : FrO K H τ o) (s : Same H H') : FrO K H' τ o := by
  rcases h with ⟨ts, vs, rfl, rfl, r⟩ | ⟨ts, vs, rfl, rfl, r⟩
  · exact .inl ⟨ts, vs, rfl, rfl, r.same s⟩
  · exact .inr ⟨ts, vs, rfl, rfl, r.same s⟩
theorem FrO.tupO {H : Hp} {τ : T} {o : HO} (h : FrO K H τ o) : tupO (some o) = none := by
  rcases h with ⟨ts, vs, rfl, rfl, r⟩ | ⟨ts, vs, rfl, rfl, r⟩ <;> rfl

/-! ### the state between two statements -/
/-- B: what stays as it is; ow: the slots whose list or dict no one else knows -/
structure StR' (K : PySem.W.Frag) (B : Hp) (ow : List Nat) (ρ : Env') (σ : St) (H : Hp) : Prop where
  sm : Same B H
  len : σ.length = ρ.length
  val : ∀ (i : Nat) (t : T), i ∉ ow → ρ[i]? = some (some t) → ∃ v : V, σ[i]? = some (some v) ∧ Rep K B t v
  own : ∀ (i : Nat) (t : T), i ∈ ow → ρ[i]? = some (some t) → ∃ a o, σ[i]? = some (some (V.ref a)) ∧ B a = none ∧ H a = some o ∧ FrO K B t o
  inj : ∀ (i j : Nat) (a : Addr) (ti tj : T), i ∈ ow → j ∈ ow → ρ[i]? = some (some ti) → ρ[j]? = some (some tj) → σ[i]? = some (some (V.ref a)) → σ[j]? = some (some (V.ref a)) → i = j
def StR (K : PySem.W.Frag) (B : Hp) (ow : List Nat) (ρ : Env') (σ : St) (H : Hp) : Prop := ∃ B', Same B B' ∧ StR' K B' ow ρ σ H
theorem StR'.env {B : Hp} {ow : List Nat} {ρ : Env'} {σ : St} {H : Hp} (h : StR' K B ow ρ σ H) : EnvR K H σ ρ := by
  refine ⟨h.len, fun i t e => ?_⟩
  by_cases m : i ∈ ow
  · obtain ⟨a, o, e1, _, e2, f⟩ := h.own i t m e
    exact ⟨_, e1, (f.same h.sm).rep e2⟩
  · obtain ⟨v, e1, r⟩ := h.val i t m e
    exact ⟨v, e1, r.same h.sm⟩
theorem StR.env {B : Hp} {ow : List Nat} {ρ : Env'} {σ : St} {H : Hp} (h : StR K B ow ρ σ H) : EnvR K H σ ρ := let ⟨_, _, q⟩ := h; q.env
theorem StR'.grow {B : Hp} {ow : List Nat} {ρ : Env'} {σ : St} {H H' : Hp} (h : StR' K B ow ρ σ H) (s : Same H H') : StR' K B ow ρ σ H' :=
  ⟨h.sm.trans s, h.len, h.val, fun i t m e => let ⟨a, o, e1, e2, e3, f⟩ := h.own i t m e; ⟨a, o, e1, e2, s _ _ e3, f⟩, h.inj⟩
theorem StR.grow {B : Hp} {ow : List Nat} {ρ : Env'} {σ : St} {H H' : Hp} (h : StR K B ow ρ σ H) (s : Same H H') : StR K B ow ρ σ H' :=
  let ⟨B', e, q⟩ := h; ⟨B', e, q.grow s⟩
theorem StR.sm {B : Hp} {ow : List Nat} {ρ : Env'} {σ : St} {H : Hp} (h : StR K B ow ρ σ H) : Same B H := let ⟨_, e, q⟩ := h; e.trans q.sm
theorem StR.of {B B' : Hp} {ow : List Nat} {ρ : Env'} {σ : St} {H : Hp} (h : StR K B' ow ρ σ H) (e : Same B B') : StR K B ow ρ σ H :=
  let ⟨B2, e2, q⟩ := h; ⟨B2, e.trans e2, q⟩
/-- the base takes the new tuples -/
theorem StR'.addT {B : Hp} {ow : List Nat} {ρ : Env'} {σ : St} {H : Hp} (h : StR' K B ow ρ σ H) : StR' K (addT B H) ow ρ σ H := by
  refine ⟨addT_same h.sm, h.len, fun i t m e => ?_, fun i t m e => ?_, h.inj⟩
  · obtain ⟨v, e1, r⟩ := h.val i t m e
    exact ⟨v, e1, r.same same_addT⟩
  · obtain ⟨a, o, e1, e2, e3, f⟩ := h.own i t m e
    refine ⟨a, o, e1, ?_, e3, f.same same_addT⟩
    rw [addT_none e2, e3]
    exact f.tupO
/-- a slot is no more its owner's alone -/
theorem StR.drop {B : Hp} {ow ow' : List Nat} {ρ : Env'} {σ : St} {H : Hp} (h : StR K B ow ρ σ H) (hs : ∀ i ∈ ow', i ∈ ow) : StR K B ow' ρ σ H := by
  obtain ⟨B', e, q⟩ := h
  -- what the dropped slots hold joins the base
  let dropped : Addr → Prop := fun a => ∃ i t, i ∈ ow ∧ i ∉ ow' ∧ ρ[i]? = some (some t) ∧ σ[i]? = some (some (V.ref a))
  have dec : ∀ a, Decidable (dropped a) := fun a => Classical.propDecidable _
  let B2 : Hp := fun a => @ite _ (dropped a) (dec a) (H a) (B' a)
  have s1 : Same B' B2 := fun a o h => by
    show @ite _ (dropped a) (dec a) (H a) (B' a) = some o
    split
    · exact q.sm a o h
    · exact h
  have s2 : Same B2 H := fun a o h => by
    have h : @ite _ (dropped a) (dec a) (H a) (B' a) = some o := h
    split at h
    · exact h
    · exact q.sm a o h
  refine ⟨B2, e.trans s1, s2, q.len, fun i t m hr => ?_, fun i t m hr => ?_, fun i j a ti tj mi mj => q.inj i j a ti tj (hs i mi) (hs j mj)⟩
  · by_cases mo : i ∈ ow
    · obtain ⟨a, o, e1, e2, e3, f⟩ := q.own i t mo hr
      refine ⟨_, e1, (f.same s1).rep ?_⟩
      show @ite _ (dropped a) (dec a) (H a) (B' a) = some o
      rw [if_pos ⟨i, t, mo, m, hr, e1⟩]
      exact e3
    · obtain ⟨v, e1, r⟩ := q.val i t mo hr
      exact ⟨v, e1, r.same s1⟩
  · obtain ⟨a, o, e1, e2, e3, f⟩ := q.own i t (hs i m) hr
    refine ⟨a, o, e1, ?_, e3, f.same s1⟩
    show @ite _ (dropped a) (dec a) (H a) (B' a) = none
    rw [if_neg ?_]
    · exact e2
    · rintro ⟨j, tj, mj, nj, hj, ej⟩
      have := q.inj i j a t tj (hs i m) mj hr hj e1 ej
      subst this
      exact nj m

/-! ### statements by their denotation -/
inductive Out where
  | nx (ρ : Env') | rt (t : T) | bk (ρ : Env') | ct (ρ : Env') | er
def RtR (K : PySem.W.Frag) (B : Hp) (fr : Bool) (τ : T) (v : V) (H : Hp) : Prop :=
  if fr = true then ∃ p o, v = .ref p ∧ B p = none ∧ H p = some o ∧ FrO K H τ o else Rep K H τ v
def Post (K : PySem.W.Frag) (fr : Bool) (B : Hp) (D : Ends) (ow' owl : List Nat) : Out → Prop
  | .nx ρ => ∀ σ H, StR K B ow' ρ σ H → D.nx σ H
  | .bk ρ => ∀ σ H, StR K B owl ρ σ H → D.bk σ H
  | .ct ρ => ∀ σ H, StR K B owl ρ σ H → D.ct σ H
  | .rt τ => ∀ v H, Same B H → RtR K B fr τ v H → D.rt v H
  | .er => False
def TSt (G : ι → Cx) (st : Stmt) : TS := fun D σ H => ∃ t, (∀ i, PS (G i) st t) ∧ t D σ H
theorem ps_st {st : Stmt} (i : ι) : PS (G i) st (TSt G st) := ⟨fun pins s σ H D I ⟨t, h, q⟩ => (h i).run pins s σ H D I q⟩
def TSs (G : ι → Cx) (st : List Stmt) : TS := fun D σ H => ∃ t, (∀ i, PSs (G i) st t) ∧ t D σ H
theorem pss_ss {st : List Stmt} (i : ι) : PSs (G i) st (TSs G st) := ⟨fun pins s σ H D I ⟨t, h, q⟩ => (h i).run pins s σ H D I q⟩
def SV (K : PySem.W.Frag) (fr : Bool) (ow ow' owl : List Nat) (R : TS) (d : Env' → Out) : Prop :=
  ∀ B ρ σ H D, StR K B ow ρ σ H → Post K fr B D ow' owl (d ρ) → R D σ H
variable {fr : Bool} {ow ow' ow2 owl : List Nat} {R : TS} {d d1 d2 : Env' → Out} {st : Stmt} {sts : List Stmt}

theorem sv_drop (hs : ∀ i ∈ ow2, i ∈ ow) (h : SV K fr ow2 ow' owl R d) : SV K fr ow ow' owl R d := fun B ρ σ H D hr hp => h B ρ σ H D (hr.drop hs) hp
theorem Post.weak {B : Hp} {D : Ends} {ow1 ow2 owl : List Nat} {o : Out} (hs : ∀ i ∈ ow2, i ∈ ow1) (h : Post K fr B D ow2 owl o) : Post K fr B D ow1 owl o := by
  cases o with
  | nx ρ => exact fun σ H q => h σ H (q.drop hs)
  | _ => exact h
/-- at the end fewer are owned -/
theorem sv_weak (hs : ∀ i ∈ ow2, i ∈ ow') (h : SV K fr ow ow' owl R d) : SV K fr ow ow2 owl R d := fun B ρ σ H D hr hp => h B ρ σ H D hr (hp.weak hs)
def seqD (d1 d2 : Env' → Out) : Env' → Out := fun ρ => match d1 ρ with
  | .nx ρ' => d2 ρ'
  | o => o
theorem sv_nil : SV K fr ow ow owl (TSs G []) (fun ρ => .nx ρ) := fun B ρ σ H D hr hp => ⟨_, fun _ => pss_nil, hp σ H hr⟩
theorem sv_cons (h1 : SV K fr ow ow2 owl (TSt G st) d1) (h2 : SV K fr ow2 ow' owl (TSs G sts) d2) : SV K fr ow ow' owl (TSs G (st :: sts)) (seqD d1 d2) := by
  intro B ρ σ H D hr hp
  refine ⟨tSeq (TSt G st) (TSs G sts), fun i => pss_cons (ps_st i) (pss_ss i), ?_⟩
  refine h1 B ρ σ H _ hr ?_
  unfold seqD at hp
  split at hp
  · rename_i ρ' e
    rw [e]
    exact fun σ' H' hr' => h2 B ρ' σ' H' D hr' hp
  · rename_i ne
    cases e : d1 ρ with
    | nx ρ' => exact absurd e (ne ρ')
    | _ => rw [e] at hp; exact hp
theorem sv_one (h : SV K fr ow ow' owl (TSt G st) d) : SV K fr ow ow' owl (TSs G [st]) d := fun B ρ σ H D hr hp => ⟨_, fun i => pss_one (ps_st i), h B ρ σ H D hr hp⟩
theorem sv_pass {pos} : SV K fr ow ow owl (TSt G (.Pass pos)) (fun ρ => .nx ρ) := fun B ρ σ H D hr hp => ⟨_, fun _ => ps_pass, hp σ H hr⟩
theorem sv_break {pos} : SV K fr owl ow' owl (TSt G (.Break pos)) (fun ρ => .bk ρ) := fun B ρ σ H D hr hp => ⟨_, fun _ => ps_break, hp σ H hr⟩
theorem sv_cont {pos} : SV K fr owl ow' owl (TSt G (.Continue pos)) (fun ρ => .ct ρ) := fun B ρ σ H D hr hp => ⟨_, fun _ => ps_continue, hp σ H hr⟩
theorem sv_doc {x j pos pos'} : SV K fr ow ow owl (TSt G (.Expr (.Constant (.str x) j pos) pos')) (fun ρ => .nx ρ) := fun B ρ σ H D hr hp => ⟨_, fun _ => ps_doc, hp σ H hr⟩
variable {e : Expr} {de : Env' → Option T} {pos : Pos}
def exD (o : Option T) (ρ : Env') : Out := match o with
  | some _ => .nx ρ
  | none => .er
theorem sv_expr (h : EV G K e de) (hs : ∀ i, swapsWith e none pos.line (G i).env = pure false := by intro _; rfl) : SV K fr ow ow owl (TSt G (.Expr e pos)) (fun ρ => exD (de ρ) ρ) := by
  intro B ρ σ H D hr hp
  dsimp only at hp
  unfold exD at hp
  split at hp
  · rename_i τ e1
    exact ⟨_, fun i => ps_expr (pe_ts i) (hs i), h ρ σ H τ _ hr.env e1 fun v H' s r => hp σ H' (hr.grow s)⟩
  · cases hp
def rtD (o : Option T) : Out := match o with
  | some τ => .rt τ
  | none => .er
theorem sv_ret (h : EV G K e de) : SV K false ow ow' owl (TSt G (.Return (some e) pos)) (fun ρ => rtD (de ρ)) := by
  intro B ρ σ H D hr hp
  dsimp only at hp
  unfold rtD at hp
  split at hp
  · rename_i τ e1
    exact ⟨_, fun i => ps_ret (pe_ts i), h ρ σ H τ _ hr.env e1 fun v H' s r => hp v H' (hr.sm.trans s) r⟩
  · cases hp
theorem sv_retF (h : EVF G K e de) : SV K true ow ow' owl (TSt G (.Return (some e) pos)) (fun ρ => rtD (de ρ)) := by
  intro B ρ σ H D hr hp
  dsimp only at hp
  unfold rtD at hp
  split at hp
  · rename_i τ e1
    refine ⟨_, fun i => ps_ret (pe_ts i), h ρ σ H τ _ hr.env e1 fun p o H' s np e f => hp _ H' (hr.sm.trans s) ?_⟩
    exact ⟨p, o, rfl, hr.sm.free np, e, f⟩
  · cases hp
/-- an owned name is handed back -/
theorem sv_retO (hG : Fm G K mg base P w N sc k) (i : Nat) (hi : i ∈ ow) {x : Str} {pos' : Pos} (hN : N[i]? = some x := by rfl) (hv : visB sc x = true := by rfl)
    (hd : (x == ("__debug__" : Str)) = false := by decide) (hcd : (x == ("__classdict__" : Str)) = false := by decide) : SV K true ow ow' owl (TSt G (.Return (some (.Name x pos')) pos)) (fun ρ => rtD (nd i ρ)) := by
  intro B ρ σ H D hr hp
  dsimp only at hp
  unfold rtD at hp
  split at hp
  · rename_i τ e1
    obtain ⟨B', sB, q⟩ := hr
    obtain ⟨a, o, s1, s2, s3, f⟩ := q.own i τ hi (nd_some e1)
    refine ⟨_, fun j => ps_ret (pe_var (i := i) (by rw [hG.N j]; exact hN) (by rw [hG.sc j]; exact vis_of hv) hd hcd), ?_⟩
    exact ⟨_, s1, hp _ H (sB.trans q.sm) ⟨a, o, rfl, sB.free s2, s3, f.same q.sm⟩⟩
  · cases hp
theorem sv_retN : SV K false ow ow' owl (TSt G (.Return none pos)) (fun ρ => .rt .non) := fun B ρ σ H D hr hp => ⟨_, fun _ => ps_retN, hp _ H hr.sm (show Rep K H .non .non from rep_non.mpr rfl)⟩
def ifD (c : Option Bool) (a b : Env' → Out) (ρ : Env') : Out := match c with
  | some true => a ρ
  | some false => b ρ
  | none => .er
theorem sv_if {c : Expr} {a b : List Stmt} {dc : Env' → Option Bool} (hc : BV G K c dc) (ha : SV K fr ow ow' owl (TSs G a) d1) (hb : SV K fr ow ow' owl (TSs G b) d2) :
    SV K fr ow ow' owl (TSt G (.If c a b pos)) (fun ρ => ifD (dc ρ) d1 d2 ρ) := by
  intro B ρ σ H D hr hp
  dsimp only at hp
  unfold ifD at hp
  refine ⟨_, fun i => ps_if (pt_ts i) (pss_ss i) (pss_ss i), ?_⟩
  split at hp
  · rename_i e1
    refine hc ρ σ H true _ hr.env e1 fun H1 s1 => ?_
    rw [if_pos rfl]
    exact ha B ρ σ H1 D (hr.grow s1) hp
  · rename_i e1
    refine hc ρ σ H false _ hr.env e1 fun H1 s1 => ?_
    rw [if_neg Bool.false_ne_true]
    exact hb B ρ σ H1 D (hr.grow s1) hp
  · cases hp

/-! ### stores -/
def locB (sc : Scope) (x : Str) : Bool := match sc.names.lookup x with
  | some .local => true | some .cell => true | _ => false
theorem loc_of {sc : Scope} {x : Str} (h : locB sc x = true) : Loc sc x := by
  unfold locB at h
  split at h
  · exact .inl (by assumption)
  · exact .inr (by assumption)
  · cases h
/-- the frame's own names: all of them (a def's body) -/
structure FnB (G : ι → Cx) (sc : Scope) : Prop where
  fn : ∀ i x, (G i).fn x = true ∨ (G i).env.scope.names.lookup x = some .local
theorem set_get {α : Type} {l : List α} {i j : Nat} {x y : α} (h : (l.set i x)[j]? = some y) : (j = i ∧ y = x) ∨ (j ≠ i ∧ l[j]? = some y) := by
  by_cases e : j = i
  · subst e
    by_cases hl : j < l.length
    · rw [List.getElem?_set_self hl] at h
      exact .inl ⟨rfl, (Option.some.inj h).symm⟩
    · rw [List.getElem?_eq_none (by simpa using hl)] at h
      cases h
  · rw [List.getElem?_set_ne (fun z => e z.symm)] at h
    exact .inr ⟨e, h⟩
theorem StR'.set {B : Hp} {ρ : Env'} {σ : St} {H : Hp} {i : Nat} {t : T} {v : V} (h : StR' K B ow ρ σ H) (ni : i ∉ ow) (r : Rep K B t v) : StR' K B ow (ρ.set i (some t)) (σ.set i (some v)) H := by
  refine ⟨h.sm, by simpa using h.len, fun j tj m e => ?_, fun j tj m e => ?_, fun j l a tj tl mj ml ej el fj fl => ?_⟩
  · rcases set_get e with ⟨rfl, e'⟩ | ⟨nj, e'⟩
    · cases e'
      have hl : j < σ.length := by
        rw [h.len]
        have := (List.getElem?_eq_some_iff.mp e).1
        simpa using this
      exact ⟨v, List.getElem?_set_self hl, r⟩
    · obtain ⟨x, e1, q⟩ := h.val j tj m e'
      exact ⟨x, by rw [List.getElem?_set_ne (fun z => nj z.symm)]; exact e1, q⟩
  · have nj : j ≠ i := fun z => ni (z ▸ m)
    rw [List.getElem?_set_ne (fun z => nj z.symm)] at e
    obtain ⟨a, o, e1, q⟩ := h.own j tj m e
    exact ⟨a, o, by rw [List.getElem?_set_ne (fun z => nj z.symm)]; exact e1, q⟩
  · have nj : j ≠ i := fun z => ni (z ▸ mj)
    have nl : l ≠ i := fun z => ni (z ▸ ml)
    rw [List.getElem?_set_ne (fun z => nj z.symm)] at ej fj
    rw [List.getElem?_set_ne (fun z => nl z.symm)] at el fl
    exact h.inj j l a tj tl mj ml ej el fj fl
/-- where none is owned all of the heap is the base -/
theorem StR.all {B : Hp} {ρ : Env'} {σ : St} {H : Hp} (h : StR K B [] ρ σ H) : StR' K H [] ρ σ H := by
  obtain ⟨B', s, q⟩ := h
  exact ⟨Same.refl H, q.len, fun i t m e => let ⟨v, e1, r⟩ := q.val i t m e; ⟨v, e1, r.same q.sm⟩, fun i t m => absurd m (by simp), fun i j a ti tj m => absurd m (by simp)⟩
/-- a value joins the base -/
theorem StR.settle {B : Hp} {ρ : Env'} {σ : St} {H : Hp} {t : T} {v : V} (h : StR K B ow ρ σ H) (c : ow.isEmpty = true ∨ imm t = true) (r : Rep K H t v) : ∃ B2, Same B B2 ∧ StR' K B2 ow ρ σ H ∧ Rep K B2 t v := by
  rcases c with c | c
  · have : ow = [] := by simpa using c
    subst this
    exact ⟨H, h.sm, h.all, r⟩
  · obtain ⟨B', s, q⟩ := h
    exact ⟨addT B' H, s.trans same_addT, q.addT, imm_rep q.sm t v c r⟩
def setD (free : Bool) (i : Nat) (o : Option T) (ρ : Env') : Out := match o with
  | some τ => if (free || imm τ) = true then .nx (ρ.set i (some τ)) else .er
  | none => .er
theorem sv_set (hG : Fm G K mg base P w N sc k) (hN0 : N.Nodup) (hF : FnB G sc) (i : Nat) (ni : i ∉ ow) {x : Str} {pos' : Pos} (h : EV G K e de) (hN : N[i]? = some x := by rfl) (hv : locB sc x = true := by rfl)
    (hs : ∀ i, swapsWith e (some (.Name x pos')) pos.line (G i).env = pure false := by intro _; rfl) : SV K fr ow ow owl (TSt G (.Assign [.Name x pos'] e pos)) (fun ρ => setD ow.isEmpty i (de ρ) ρ) := by
  intro B ρ σ H D hr hp
  dsimp only at hp
  unfold setD at hp
  split at hp
  · rename_i τ e1
    split at hp
    · rename_i c
      refine ⟨_, fun j => ps_set (i := i) (by rw [hG.N j]; exact hN0) (by rw [hG.N j]; exact hN) (by rw [hG.sc j]; exact loc_of hv) (pe_ts j) (hs j) (hF.fn j x), ?_⟩
      refine h ρ σ H τ _ hr.env e1 fun v H' s r => ?_
      obtain ⟨B2, s2, q, r2⟩ := (hr.grow s).settle (by simpa using c) r
      exact hp _ H' ⟨B2, s2, q.set ni r2⟩
    · cases hp
  · cases hp
theorem StR'.setO {B : Hp} {ρ : Env'} {σ : St} {H : Hp} {i : Nat} {t : T} {a : Addr} {o : HO} (h : StR' K B ow ρ σ H) (ni : i ∉ ow) (na : B a = none) (nw : ∀ j tj, j ∈ ow → ρ[j]? = some (some tj) → σ[j]? ≠ some (some (V.ref a))) (ea : H a = some o) (f : FrO K B t o) :
    StR' K B (i :: ow) (ρ.set i (some t)) (σ.set i (some (V.ref a))) H := by
  have lt : ∀ {j : Nat} {y : Option T}, (ρ.set i (some t))[j]? = some y → j < σ.length := fun e => by
    rw [h.len]
    have := (List.getElem?_eq_some_iff.mp e).1
    simpa using this
  refine ⟨h.sm, by simpa using h.len, fun j tj m e => ?_, fun j tj m e => ?_, fun j l b tj tl mj ml ej el fj fl => ?_⟩
  · have nj : j ≠ i := fun z => m (by rw [z]; exact List.mem_cons_self)
    rw [List.getElem?_set_ne (fun z => nj z.symm)] at e
    obtain ⟨x, e1, q⟩ := h.val j tj (fun z => m (List.mem_cons_of_mem _ z)) e
    exact ⟨x, by rw [List.getElem?_set_ne (fun z => nj z.symm)]; exact e1, q⟩
  · have hl := lt e
    rcases set_get e with ⟨rfl, e'⟩ | ⟨nj, e'⟩
    · cases e'
      exact ⟨a, o, List.getElem?_set_self hl, na, ea, f⟩
    · have m' : j ∈ ow := by
        rcases List.mem_cons.mp m with z | z
        · exact absurd z nj
        · exact z
      obtain ⟨b, ob, e1, q⟩ := h.own j tj m' e'
      exact ⟨b, ob, by rw [List.getElem?_set_ne (fun z => nj z.symm)]; exact e1, q⟩
  · have lj := lt ej
    have ll := lt el
    rcases set_get ej with ⟨rfl, e1⟩ | ⟨nj, e1⟩
    · rcases set_get el with ⟨rfl, e2⟩ | ⟨nl, e2⟩
      · rfl
      · rw [List.getElem?_set_self lj] at fj
        cases fj
        rw [List.getElem?_set_ne (fun z => nl z.symm)] at fl
        have m' : l ∈ ow := by
          rcases List.mem_cons.mp ml with z | z
          · exact absurd z nl
          · exact z
        exact absurd fl (nw l tl m' e2)
    · have mj' : j ∈ ow := by
        rcases List.mem_cons.mp mj with z | z
        · exact absurd z nj
        · exact z
      rw [List.getElem?_set_ne (fun z => nj z.symm)] at fj
      rcases set_get el with ⟨rfl, e2⟩ | ⟨nl, e2⟩
      · rw [List.getElem?_set_self ll] at fl
        cases fl
        exact absurd fj (nw j tj mj' e1)
      · have ml' : l ∈ ow := by
          rcases List.mem_cons.mp ml with z | z
          · exact absurd z nl
          · exact z
        rw [List.getElem?_set_ne (fun z => nl z.symm)] at fl
        exact h.inj j l b tj tl mj' ml' e1 e2 fj fl
def ownD (i : Nat) (o : Option T) (ρ : Env') : Out := match o with
  | some τ => if immE τ = true then .nx (ρ.set i (some τ)) else .er
  | none => .er
theorem sv_setO (hG : Fm G K mg base P w N sc k) (hN0 : N.Nodup) (hF : FnB G sc) (i : Nat) (ni : i ∉ ow) {x : Str} {pos' : Pos} (h : EVF G K e de) (hN : N[i]? = some x := by rfl) (hv : locB sc x = true := by rfl)
    (hs : ∀ i, swapsWith e (some (.Name x pos')) pos.line (G i).env = pure false := by intro _; rfl) : SV K fr ow (i :: ow) owl (TSt G (.Assign [.Name x pos'] e pos)) (fun ρ => ownD i (de ρ) ρ) := by
  intro B ρ σ H D hr hp
  dsimp only at hp
  unfold ownD at hp
  split at hp
  · rename_i τ e1
    split at hp
    · rename_i c
      refine ⟨_, fun j => ps_set (i := i) (by rw [hG.N j]; exact hN0) (by rw [hG.N j]; exact hN) (by rw [hG.sc j]; exact loc_of hv) (pe_ts j) (hs j) (hF.fn j x), ?_⟩
      refine h ρ σ H τ _ hr.env e1 fun p o H' s np ep f => ?_
      obtain ⟨B', sB, q⟩ := hr
      have nB : B' p = none := q.sm.free np
      refine hp _ H' ⟨addT B' H', sB.trans same_addT, (q.grow s).addT.setO ni ?_ ?_ ep (imm_frO (q.sm.trans s) c f)⟩
      · rw [addT_none nB, ep]
        exact f.tupO
      · intro j tj m ej z
        obtain ⟨b, ob, e2, _, e3, _⟩ := q.own j tj m ej
        rw [e2] at z
        cases z
        rw [np] at e3
        cases e3
    · cases hp
  · cases hp
/-- what an owned slot holds is changed -/
theorem StR'.write {B : Hp} {ρ : Env'} {σ : St} {H : Hp} {i : Nat} {t t' : T} {a : Addr} {o' : HO} (h : StR' K B ow ρ σ H) (mi : i ∈ ow) (ei : ρ[i]? = some (some t)) (ea : σ[i]? = some (some (V.ref a))) (f : FrO K B t' o') :
    StR' K B ow (ρ.set i (some t')) σ (upd H a o') := by
  obtain ⟨a0, o0, e1, e2, e3, f0⟩ := h.own i t mi ei
  rw [ea] at e1
  cases e1
  refine ⟨fun b ob z => ?_, by simpa using h.len, fun j tj m e => ?_, fun j tj m e => ?_, fun j l b tj tl mj ml ej el fj fl => ?_⟩
  · rw [upd_ne (ne_of_none z e2)]
    exact h.sm b ob z
  · have nj : j ≠ i := fun z => m (z ▸ mi)
    rw [List.getElem?_set_ne (fun z => nj z.symm)] at e
    exact h.val j tj m e
  · rcases set_get e with ⟨rfl, e'⟩ | ⟨nj, e'⟩
    · cases e'
      exact ⟨a, o', ea, e2, upd_same, f⟩
    · obtain ⟨b, ob, q1, q2, q3, q4⟩ := h.own j tj m e'
      refine ⟨b, ob, q1, q2, ?_, q4⟩
      rw [upd_ne]
      · exact q3
      · rintro rfl
        exact nj (h.inj j i b tj t m mi e' ei q1 ea)
  · have ex : ∀ {j : Nat} {y : T}, (ρ.set i (some t'))[j]? = some (some y) → ∃ z, ρ[j]? = some (some z) := fun {j y} e => by
      rcases set_get e with ⟨rfl, e⟩ | ⟨nj, e⟩
      · exact ⟨t, ei⟩
      · exact ⟨y, e⟩
    obtain ⟨z1, e1⟩ := ex ej
    obtain ⟨z2, e2⟩ := ex el
    exact h.inj j l b z1 z2 mj ml e1 e2 fj fl
def appD (i : Nat) (o : Option T) (ρ : Env') : Out := match nd i ρ, o with
  | some (.lst ts), some τ => if imm τ = true ∧ ts.length < sizeLine then .nx (ρ.set i (some (.lst (ts ++ [τ])))) else .er
  | _, _ => .er
theorem Reps.snoc {H : Hp} {ts : List T} {vs : List V} {t : T} {v : V} (h : Reps K H ts vs) (r : Rep K H t v) : Reps K H (ts ++ [t]) (vs ++ [v]) := by
  rw [Reps.paired] at h ⊢
  induction h with
  | nil => exact .cons r .nil
  | cons h1 h2 ih => exact .cons h1 ih
/-- xs.append(e), xs an owned list -/
theorem sv_append (hG : Fm G K mg base P w N sc k) (i : Nat) (hi : i ∈ ow) {x : Str} {px ap cp : Pos} (h : EV G K e de) (hN : N[i]? = some x := by rfl) (hv : visB sc x = true := by rfl)
    (hd : (x == ("__debug__" : Str)) = false := by decide) (hcd : (x == ("__classdict__" : Str)) = false := by decide)
    (hbm : ∀ j to te, PE (G j) (.Name x px) to → PE (G j) e te → PE (G j) (.Call (.Attribute (.Name x px) "append" ap) [e] [] cp) (tBM (G j).K "list" rAppend to (tCons te tNil)) := by
      intro j to te h1 h2; exact pe_bm PySem.F.plainAttrs_list PySem.F.slot_list_append PySem.F.type_list_append mt_append h1 (pa_cons h2 pa_nil))
    (hs : ∀ i, swapsWith (.Call (.Attribute (.Name x px) "append" ap) [e] [] cp) none pos.line (G i).env = pure false := by intro _; rfl) :
    SV K fr ow ow owl (TSt G (.Expr (.Call (.Attribute (.Name x px) "append" ap) [e] [] cp) pos)) (fun ρ => appD i (de ρ) ρ) := by
  intro B ρ σ H D hr hp
  dsimp only at hp
  unfold appD at hp
  split at hp
  · rename_i ts τ e1 e2
    split at hp
    · rename_i c
      obtain ⟨B', sB, q⟩ := id hr
      obtain ⟨a, o, s1, s2, s3, f⟩ := q.own i _ hi (nd_some e1)
      refine ⟨tDrop (tBM K "list" rAppend (tVar i) (tCons (ES G e) tNil)), fun j => ps_expr ?_ (hs j), ?_⟩
      · have := hbm j (tVar i) (ES G e) (pe_var (by rw [hG.N j]; exact hN) (by rw [hG.sc j]; exact vis_of hv) hd hcd) (pe_ts j)
        rw [hG.K j] at this
        exact this
      · have f' := f
        rcases f' with ⟨ts', vs, et, eo, r⟩ | ⟨_, _, et, _⟩
        · cases et
          subst eo
          refine ⟨_, s1, .inl ⟨rfl, vs, .inl (.inl s3)⟩, ?_⟩
          refine h ρ σ H τ _ hr.env e2 fun v H1 z1 r1 => ?_
          refine ⟨a, vs, v, rfl, rfl, z1 _ _ s3, by rw [← r.length]; exact c.2, ?_⟩
          have q1 := (q.grow z1).addT
          refine hp σ _ ⟨addT B' H1, sB.trans same_addT, q1.write hi (nd_some e1) s1 ?_⟩
          exact .inl ⟨_, _, rfl, rfl, (r.same same_addT).snoc (imm_rep (q.sm.trans z1) τ v c.1 r1)⟩
        · cases et
    · cases hp
  · cases hp
end DL
namespace DL
open PySem PySem.Spec PyProof.Rows L2
variable {ι : Type} {G : ι → Cx} {K : PySem.W.Frag} {mg : Str → Option Value} {base : Heap} {P : Program} {w : World} {N : List Str} {sc : Scope} {k : Nat}
variable {fr : Bool} {ow ow' owl : List Nat}

/-! ### what is walked -/
def IT (G : ι → Cx) (tg iter : Expr) : TI := fun σ H R => ∃ wi, (∀ i, PI (G i) tg iter wi) ∧ wi σ H R
theorem pi_it {tg iter : Expr} (i : ι) : PI (G i) tg iter (IT G tg iter) := ⟨fun pins s σ H R I ⟨t, h, q⟩ => (h i).run pins s σ H R I q⟩
structure Walks (K : PySem.W.Frag) (J : It) (B : Hp) (ts : List T) : Prop where
  go : ∀ i H, Same B H → i < ts.length → J.go i H
  stop : ∀ i H, Same B H → ts.length ≤ i → J.stop i H
  yld : ∀ (i : Nat) (t : T) H x H', Same B H → ts[i]? = some t → J.yld i H x H' → Same H H' ∧ Rep K (addT B H') t x
def IVat (G : ι → Cx) (K : PySem.W.Frag) (ow : List Nat) (tg iter : Expr) (B : Hp) (ρ : Env') (σ : St) (H : Hp) (τs : List T) : Prop :=
  ∀ R : It → Hp → Prop, (∀ J H1 B1, Same B B1 → Same H H1 → StR' K B1 ow ρ σ H1 → Walks K J B1 τs → R J H1) → IT G tg iter σ H R
def IV (G : ι → Cx) (K : PySem.W.Frag) (ow : List Nat) (tg iter : Expr) (dl : Env' → Option (List T)) : Prop :=
  ∀ B ρ σ H τs, StR' K B ow ρ σ H → dl ρ = some τs → IVat G K ow tg iter B ρ σ H τs

theorem Reps.get {H : Hp} {ts : List T} {vs : List V} (h : Reps K H ts vs) {i : Nat} {t : T} (e : ts[i]? = some t) : ∃ v, vs[i]? = some v ∧ Rep K H t v := by
  rw [Reps.paired] at h
  induction h generalizing i with
  | nil => simp at e
  | cons h1 h2 ih =>
    cases i with
    | zero =>
      simp at e
      subst e
      exact ⟨_, rfl, h1⟩
    | succ i => exact ih (by simpa using e)
theorem Reps.get' {H : Hp} {ts : List T} {vs : List V} (h : Reps K H ts vs) {i : Nat} {v : V} (e : vs[i]? = some v) : ∃ t, ts[i]? = some t ∧ Rep K H t v := by
  rw [Reps.paired] at h
  induction h generalizing i with
  | nil => simp at e
  | cons h1 h2 ih =>
    cases i with
    | zero =>
      simp at e
      subst e
      exact ⟨_, rfl, h1⟩
    | succ i => exact ih (by simpa using e)
theorem walks_list {B : Hp} {a : Addr} {ts : List T} {vs : List V} (q : SqL K B a vs) (r : Reps K B ts vs) : Walks K (Itl K a) B ts := by
  refine ⟨fun i H s hi => ?_, fun i H s hi => ⟨vs, s.seq q, by rw [← r.length]; exact hi⟩, fun i t H x H' s e y => ?_⟩
  · obtain ⟨v, e, _⟩ := r.get (i := i) (List.getElem?_eq_getElem hi)
    exact ⟨vs, v, s.seq q, e⟩
  · obtain ⟨rfl, y⟩ := y
    obtain ⟨v, ev, rv⟩ := r.get e
    have := y vs (s.seq q)
    rw [ev] at this
    cases this
    exact ⟨Same.refl _, rv.same same_addT⟩
theorem walks_tup {B : Hp} {a : Addr} {ts : List T} {vs : List V} (q : SqT K B a vs) (r : Reps K B ts vs) : Walks K (Itt K a) B ts := by
  refine ⟨fun i H s hi => ?_, fun i H s hi => ⟨vs, same_sqT s q, by rw [← r.length]; exact hi⟩, fun i t H x H' s e y => ?_⟩
  · obtain ⟨v, e, _⟩ := r.get (i := i) (List.getElem?_eq_getElem hi)
    exact ⟨vs, v, same_sqT s q, e⟩
  · obtain ⟨rfl, y⟩ := y
    obtain ⟨v, ev, rv⟩ := r.get e
    have := y vs (same_sqT s q)
    rw [ev] at this
    cases this
    exact ⟨Same.refl _, rv.same same_addT⟩
def signs (x : Str) : List T := x.cps.toList.map fun c => .str ⟨#[c]⟩
theorem walks_str {B : Hp} {x : Str} : Walks K (Its x) B (signs x) := by
  refine ⟨fun i H s hi => by simpa [signs, Its] using hi, fun i H s hi => by simpa [signs, Its] using hi, fun i t H v H' s e y => ?_⟩
  obtain ⟨rfl, c, ec, rfl⟩ := y
  unfold signs at e
  rw [List.getElem?_map, Array.getElem?_toList, ec] at e
  cases e
  exact ⟨Same.refl _, rep_str.mpr rfl⟩
def rngL (lo : Int) (n : Nat) : List T := (List.range n).map fun (i : Nat) => .int (lo + i)
theorem walks_rng {B : Hp} {lo : Int} {n : Nat} : Walks K (Itr lo n) B (rngL lo n) := by
  refine ⟨fun i H s hi => by simpa [rngL, Itr] using hi, fun i H s hi => by simpa [rngL, Itr] using hi, fun i t H v H' s e y => ?_⟩
  obtain ⟨rfl, rfl⟩ := y
  unfold rngL at e
  rw [List.getElem?_map] at e
  cases e2 : (List.range n)[i]? with
  | none => rw [e2] at e; cases e
  | some j =>
    rw [e2] at e
    obtain ⟨_, hj⟩ := List.getElem?_eq_some_iff.mp e2
    simp at hj
    subst hj
    cases e
    exact ⟨Same.refl _, rep_int.mpr rfl⟩
def zipL : List T → List T → List T
  | x :: xs, y :: ys => .tup [x, y] :: zipL xs ys
  | _, _ => []
theorem zipL_get : ∀ {xs ys : List T} {i : Nat} {t : T}, (zipL xs ys)[i]? = some t → ∃ x y, xs[i]? = some x ∧ ys[i]? = some y ∧ t = .tup [x, y]
  | [], _, _, _, h => by simp [zipL] at h
  | _ :: _, [], _, _, h => by simp [zipL] at h
  | x :: xs, y :: ys, 0, t, h => by
    simp [zipL] at h
    exact ⟨x, y, rfl, rfl, h.symm⟩
  | x :: xs, y :: ys, i + 1, t, h => by
    simp [zipL] at h
    simpa using zipL_get h
theorem zipL_length : ∀ xs ys : List T, (zipL xs ys).length = min xs.length ys.length
  | [], _ => by simp [zipL]
  | _ :: _, [] => by simp [zipL]
  | x :: xs, y :: ys => by simp [zipL, zipL_length xs ys]
theorem addT_newtup {B H : Hp} {t : Addr} {vs : List V} (s : Same B H) (n : H t = none) : addT B (upd H t (.tup vs)) t = some (.tup vs) := by
  rw [addT_none (s.free n), upd_same]; rfl
theorem walks_zip {B : Hp} {a b : Addr} {xs ys : List T} {us vs : List V} (qa : SqL K B a us) (ra : Reps K B xs us) (qb : SqL K B b vs) (rb : Reps K B ys vs) : Walks K (Itz K a b) B (zipL xs ys) := by
  refine ⟨fun i H s hi => ?_, fun i H s hi => ?_, fun i t H v H' s e y => ?_⟩
  · rw [zipL_length] at hi
    obtain ⟨u, e1, _⟩ := ra.get (i := i) (List.getElem?_eq_getElem (by omega))
    obtain ⟨v, e2, _⟩ := rb.get (i := i) (List.getElem?_eq_getElem (by omega))
    exact ⟨us, vs, u, v, s.seq qa, s.seq qb, e1, e2⟩
  · rw [zipL_length] at hi
    refine ⟨us, vs, s.seq qa, s.seq qb, ?_⟩
    rw [← ra.length, ← rb.length]
    omega
  · obtain ⟨t', u, v', rfl, nt, rfl, f1, f2⟩ := y
    obtain ⟨x, z, e1, e2, rfl⟩ := zipL_get e
    obtain ⟨u2, eu, ru⟩ := ra.get e1
    obtain ⟨v2, ev, rv⟩ := rb.get e2
    have h1 := f1 us (s.seq qa)
    have h2 := f2 vs (s.seq qb)
    rw [eu] at h1; cases h1
    rw [ev] at h2; cases h2
    refine ⟨same_upd' nt, rep_tup.mpr ⟨t', _, rfl, .inl (.inl (addT_newtup s nt)), ?_⟩⟩
    exact .cons (ru.same same_addT) (.cons (rv.same same_addT) .nil)

/-- what a list, a tuple, a text is walked as -/
def seqOf : T → Option (List T)
  | .lst ts => some ts | .tup ts => some ts | .scr ts => some ts | .str x => some (signs x) | _ => none
def itD (free : Bool) (o : Option T) : Option (List T) := match o with
  | some τ => if (free || imm τ) = true then seqOf τ else none
  | none => none
theorem StR'.settle {B : Hp} {ρ : Env'} {σ : St} {H : Hp} {t : T} {v : V} (h : StR' K B ow ρ σ H) (c : ow.isEmpty = true ∨ imm t = true) (r : Rep K H t v) : ∃ B2, Same B B2 ∧ StR' K B2 ow ρ σ H ∧ Rep K B2 t v :=
  StR.settle ⟨B, Same.refl B, h⟩ c r
/-- the walk of a value that stands in the base -/
theorem it_at {tg e : Expr} {σ : St} {H : Hp} {τ : T} {ts : List T} {R : It → Hp → Prop} (hK : ∀ i, (G i).K = K) (es : seqOf τ = some ts)
    (h : ES G e σ H fun v H1 => ∃ B1, Rep K B1 τ v ∧ Same B1 H1 ∧ ∀ J, Walks K J B1 ts → R J H1) : IT G tg e σ H R := by
  cases τ with
  | lst l =>
    cases es
    refine ⟨iList K (ES G e), fun i => by rw [← hK i]; exact pi_list (pe_ts i), ?_⟩
    obtain ⟨t, ht, q⟩ := h
    refine ⟨tMono t, fun i => pe_mono (ht i), ⟨_, q, fun v H1 ⟨B1, r, s, f⟩ => ?_⟩⟩
    obtain ⟨a, vs, rfl, q, r⟩ := rep_lst.mp r
    exact ⟨a, rfl, ⟨vs, s.seq (.inl (.inl q))⟩, f _ (walks_list (.inl (.inl q)) r)⟩
  | scr l =>
    cases es
    refine ⟨iList K (ES G e), fun i => by rw [← hK i]; exact pi_list (pe_ts i), ?_⟩
    obtain ⟨t, ht, q⟩ := h
    refine ⟨tMono t, fun i => pe_mono (ht i), ⟨_, q, fun v H1 ⟨B1, r, s, f⟩ => ?_⟩⟩
    obtain ⟨a, vs, rfl, q, r⟩ := rep_scr.mp r
    exact ⟨a, rfl, ⟨vs, s.seq q⟩, f _ (walks_list q r)⟩
  | tup l =>
    cases es
    refine ⟨iTup K (ES G e), fun i => by rw [← hK i]; exact pi_tup (pe_ts i), ?_⟩
    obtain ⟨t, ht, q⟩ := h
    refine ⟨tMono t, fun i => pe_mono (ht i), ⟨_, q, fun v H1 ⟨B1, r, s, f⟩ => ?_⟩⟩
    obtain ⟨a, vs, rfl, q, r⟩ := rep_tup.mp r
    exact ⟨a, rfl, ⟨vs, same_sqT s q⟩, f _ (walks_tup q r)⟩
  | str x =>
    cases es
    refine ⟨iStr (ES G e), fun i => pi_str (pe_ts i), ?_⟩
    obtain ⟨t, ht, q⟩ := h
    refine ⟨tMono t, fun i => pe_mono (ht i), ⟨_, q, fun v H1 ⟨B1, r, s, f⟩ => ?_⟩⟩
    cases rep_str.mp r
    exact ⟨x, rfl, f _ walks_str⟩
  | _ => cases es
variable {tg e : Expr} {de : Env' → Option T}
theorem iv_val (hK : ∀ i, (G i).K = K) (h : EV G K e de) : IV G K ow tg e (fun ρ => itD ow.isEmpty (de ρ)) := by
  intro B ρ σ H τs hr hd R hR
  dsimp only at hd
  unfold itD at hd
  split at hd
  · rename_i τ e1
    split at hd
    · rename_i c
      refine it_at hK hd (h ρ σ H τ _ hr.env e1 fun v H1 s r => ?_)
      obtain ⟨B2, s2, q, r2⟩ := (hr.grow s).settle (by simpa using c) r
      exact ⟨B2, r2, q.sm, fun J hJ => hR J H1 B2 s2 s q hJ⟩
    · cases hd
  · cases hd
/-- a fresh list of things that cannot be changed -/
def itF (o : Option T) : Option (List T) := match o with
  | some τ => if immE τ = true then seqOf τ else none
  | none => none
theorem iv_new (hK : ∀ i, (G i).K = K) (h : EVF G K e de) : IV G K ow tg e (fun ρ => itF (de ρ)) := by
  intro B ρ σ H τs hr hd R hR
  dsimp only at hd
  unfold itF at hd
  split at hd
  · rename_i τ e1
    split at hd
    · rename_i c
      refine it_at hK hd (h ρ σ H τ _ hr.env e1 fun p o H1 s np ep f => ?_)
      have q := (hr.grow s).addT
      have f2 := imm_frO (hr.sm.trans s) c f
      have nB : addT B H1 p = none := by
        rw [addT_none (hr.sm.free np), ep]
        exact f.tupO
      have s1 : Same (addT B H1) (upd (addT B H1) p o) := same_upd' nB
      have s2 : Same (upd (addT B H1) p o) H1 := fun a u z => by
        by_cases ea : a = p
        · subst ea
          rw [upd_same] at z
          cases z
          exact ep
        · rw [upd_ne ea] at z
          exact q.sm a u z
      refine ⟨_, (f2.same s1).rep upd_same, s2, fun J hJ => hR J H1 _ (same_addT.trans s1) s ?_ hJ⟩
      refine ⟨s2, q.len, fun i t m z => ?_, fun i t m z => ?_, q.inj⟩
      · obtain ⟨v, e2, r⟩ := q.val i t m z
        exact ⟨v, e2, r.same s1⟩
      · obtain ⟨a, ob, e2, e3, e4, f3⟩ := q.own i t m z
        refine ⟨a, ob, e2, ?_, e4, f3.same s1⟩
        rw [upd_ne]
        · exact e3
        · rintro rfl
          obtain ⟨a', ob', e2', _, e4', _⟩ := hr.own i t m z
          rw [e2] at e2'
          cases e2'
          rw [np] at e4'
          cases e4'
    · cases hd
  · cases hd
/-- a name that holds something alone no more -/
def itN (o : Option T) : Option (List T) := match o with
  | some τ => seqOf τ
  | none => none
theorem iv_var (hG : Fm G K mg base P w N sc k) (i : Nat) (ni : i ∉ ow) {x : Str} {pos : Pos} (hN : N[i]? = some x := by rfl) (hv : visB sc x = true := by rfl)
    (hd : (x == ("__debug__" : Str)) = false := by decide) (hcd : (x == ("__classdict__" : Str)) = false := by decide) : IV G K ow tg (.Name x pos) (fun ρ => itN (nd i ρ)) := by
  intro B ρ σ H τs hr hdd R hR
  dsimp only at hdd
  unfold itN at hdd
  split at hdd
  · rename_i τ e1
    obtain ⟨v, e2, r⟩ := hr.val i τ ni (nd_some e1)
    refine it_at hG.K hdd ⟨tVar i, fun j => pe_var (by rw [hG.N j]; exact hN) (by rw [hG.sc j]; exact vis_of hv) hd hcd, v, e2, ?_⟩
    exact ⟨B, r, hr.sm, fun J hJ => hR J H B (Same.refl B) (Same.refl H) hr hJ⟩
  · cases hdd
def r62 (i : Int) : Bool := decide (-(2 ^ 62) ≤ i) && decide (i < 2 ^ 62)
theorem r62_ok {i : Int} (h : r62 i = true) : -(2 ^ 62) ≤ i ∧ i < 2 ^ 62 := by simpa [r62] using h
def rng1 (o : Option T) : Option (List T) := match o with
  | some (.int j) => if r62 j = true then some (rngL 0 j.toNat) else none
  | _ => none
def rng2 (o o' : Option T) : Option (List T) := match o, o' with
  | some (.int i), some (.int j) => if r62 i = true ∧ r62 j = true then some (rngL i (j - i).toNat) else none
  | _, _ => none
theorem iv_rng1 (hG : Fm G K mg base P w N sc k) {a : Expr} {da : Env' → Option T} {p pos : Pos} (hm : mg "range" = none) (h : EV G K a da) (hg : glB sc "range" = true := by rfl)
    (hs : ∀ i, starEach [a] (G i).env = [(false, eval a (G i).env)] := by intro _; rfl) : IV G K ow tg (.Call (.Name "range" p) [a] [] pos) (fun ρ => rng1 (da ρ)) := by
  intro B ρ σ H τs hr hd R hR
  dsimp only at hd
  unfold rng1 at hd
  split at hd
  · rename_i j e1
    split at hd
    · rename_i c
      cases hd
      have c' := r62_ok c
      refine ⟨_, fun i => pi_range1 (gl_of hG hg i) (by rw [hG.mg i]; exact hm) (pa_cons (pe_ts i) pa_nil (hs i)) (hs i), ?_⟩
      refine h ρ σ H _ _ hr.env e1 fun v H1 s r => ?_
      cases rep_int.mp r
      exact ⟨j, rfl, c'.1, c'.2, hR _ H1 B (Same.refl B) s (hr.grow s) walks_rng⟩
    · cases hd
  · cases hd
theorem iv_rng2 (hG : Fm G K mg base P w N sc k) {a b : Expr} {da db : Env' → Option T} {p pos : Pos} (hm : mg "range" = none) (h : EV G K a da) (h' : EV G K b db) (hg : glB sc "range" = true := by rfl)
    (hs : ∀ i, starEach [a, b] (G i).env = [(false, eval a (G i).env), (false, eval b (G i).env)] := by intro _; rfl) (hs2 : ∀ i, starEach [b] (G i).env = [(false, eval b (G i).env)] := by intro _; rfl) :
    IV G K ow tg (.Call (.Name "range" p) [a, b] [] pos) (fun ρ => rng2 (da ρ) (db ρ)) := by
  intro B ρ σ H τs hr hd R hR
  dsimp only at hd
  unfold rng2 at hd
  split at hd
  · rename_i i j e1 e2
    split at hd
    · rename_i c
      cases hd
      have c1 := r62_ok c.1
      have c2 := r62_ok c.2
      refine ⟨_, fun i => pi_range2 (gl_of hG hg i) (by rw [hG.mg i]; exact hm) (pa_cons (pe_ts i) (pa_cons (pe_ts i) pa_nil (hs2 i)) (by rw [hs i, hs2 i])) (hs i) (hs2 i), ?_⟩
      refine h ρ σ H _ _ hr.env e1 fun v H1 s r => ?_
      refine h' ρ σ H1 _ _ (hr.grow s).env e2 fun v' H2 s2 r2 => ?_
      cases rep_int.mp r
      cases rep_int.mp r2
      exact ⟨i, j, rfl, ⟨c1.1, c1.2, c2.1, c2.2⟩, hR _ H2 B (Same.refl B) (s.trans s2) ((hr.grow s).grow s2) walks_rng⟩
    · cases hd
  · cases hd

/-! ### targets -/
def GT (G : ι → Cx) (tg : Expr) : TG := fun v σ H Q => ∃ g, (∀ i, PG (G i) tg g) ∧ g v σ H Q
theorem pg_gt {tg : Expr} (i : ι) : PG (G i) tg (GT G tg) := ⟨fun pins s σ H v u Q I r ⟨t, h, q⟩ => (h i).run pins s σ H v u Q I r q⟩
/-- σ' is σ but for the slots ts -/
def OffT (ts : List Nat) (σ σ' : St) : Prop := σ'.length = σ.length ∧ ∀ j, j ∉ ts → σ'[j]? = σ[j]?
def TV (G : ι → Cx) (K : PySem.W.Frag) (ow : List Nat) (tg : Expr) (ts : List Nat) (bd : Env' → T → Option Env') : Prop :=
  ∀ B ρ ρ' σ H τ v Q, StR' K B ow ρ σ H → Rep K B τ v → bd ρ τ = some ρ' → (∀ σ', StR' K B ow ρ' σ' H → OffT ts σ σ' → Q σ' H) → GT G tg v σ H Q
def bdN (i : Nat) (ρ : Env') (t : T) : Option Env' := some (ρ.set i (some t))
theorem tv_name (hG : Fm G K mg base P w N sc k) (hN0 : N.Nodup) (hF : FnB G sc) (i : Nat) (ni : i ∉ ow) {x : Str} {pos : Pos} (hN : N[i]? = some x := by rfl) (hv : locB sc x = true := by rfl) : TV G K ow (.Name x pos) [i] (bdN i) := by
  intro B ρ ρ' σ H τ v Q hr r e h
  cases e
  exact ⟨gName i, fun j => pg_name (by rw [hG.N j]; exact hN0) (by rw [hG.N j]; exact hN) (by rw [hG.sc j]; exact loc_of hv) (hF.fn j x), h _ (hr.set ni r) ⟨by simp, fun j hj => List.getElem?_set_ne (fun z => hj (by simp [z]))⟩⟩
def GTs (G : ι → Cx) (es : List Expr) : TGs := fun vs σ H Q => ∃ g, (∀ i, PGs (G i) es g) ∧ g vs σ H Q
theorem pgs_gts {es : List Expr} (i : ι) : PGs (G i) es (GTs G es) := ⟨fun pins s σ H v u Q I r ⟨t, h, q⟩ => (h i).run pins s σ H v u Q I r q⟩
def TVs (G : ι → Cx) (K : PySem.W.Frag) (ow : List Nat) (es : List Expr) (ts : List Nat) (bd : Env' → List T → Option Env') : Prop :=
  ∀ B ρ ρ' σ H τs vs Q, StR' K B ow ρ σ H → Reps K B τs vs → bd ρ τs = some ρ' → (∀ σ', StR' K B ow ρ' σ' H → OffT ts σ σ' → Q σ' H) → GTs G es vs σ H Q
def bdNil (ρ : Env') (ts : List T) : Option Env' := match ts with
  | [] => some ρ
  | _ => none
def bdCons (b : Env' → T → Option Env') (bs : Env' → List T → Option Env') (ρ : Env') (ts : List T) : Option Env' := match ts with
  | t :: r => match b ρ t with
    | some ρ' => bs ρ' r
    | none => none
  | [] => none
theorem tvs_nil : TVs G K ow [] [] bdNil := by
  intro B ρ ρ' σ H τs vs Q hr r e h
  unfold bdNil at e
  split at e
  · cases e
    have : vs = [] := by unfold Reps at r; exact r
    exact ⟨gNil, fun _ => pgs_nil, this, h _ hr ⟨rfl, fun _ _ => rfl⟩⟩
  · cases e
theorem tvs_cons {a : Expr} {es : List Expr} {b : Env' → T → Option Env'} {bs : Env' → List T → Option Env'} {ta ts : List Nat} (ha : TV G K ow a ta b) (hs : TVs G K ow es ts bs)
    (hq : ∀ i, (assignEach (a :: es) (G i).env).map (·.2) = assign a (G i).env :: (assignEach es (G i).env).map (·.2) := by intro _; rfl) : TVs G K ow (a :: es) (ta ++ ts) (bdCons b bs) := by
  intro B ρ ρ' σ H τs vs Q hr r e h
  unfold bdCons at e
  split at e
  · rename_i t tr
    split at e
    · rename_i ρ1 e1
      unfold Reps at r
      obtain ⟨v, vr, rfl, r1, r2⟩ := r
      refine ⟨gCons (GT G a) (GTs G es), fun i => pgs_cons (pg_gt i) (pgs_gts i) (hq i), v, vr, rfl, ?_⟩
      exact ha B ρ ρ1 σ H t v _ hr r1 e1 fun σ1 h1 o1 => hs B ρ1 ρ' σ1 H tr vr _ h1 r2 e fun σ2 h2 o2 => h σ2 h2
        ⟨o2.1.trans o1.1, fun j hj => (o2.2 j fun z => hj (List.mem_append_right _ z)).trans (o1.2 j fun z => hj (List.mem_append_left _ z))⟩
    · cases e
  · cases e
def bdT (n : Nat) (bs : Env' → List T → Option Env') (ρ : Env') (t : T) : Option Env' := match t with
  | .tup ts => if ts.length = n then bs ρ ts else none
  | _ => none
theorem tv_tup (hG : Fm G K mg base P w N sc k) {es : List Expr} {n j : Nat} {pos : Pos} {ts : List Nat} {bs : Env' → List T → Option Env'} (h : TVs G K ow es ts bs)
    (hn : ∀ i, (assignEach es (G i).env).length = n := by intro _; rfl) (hst : ∀ i, (assignEach es (G i).env).findIdx? (·.1) = none := by intro _; rfl) : TV G K ow (.Tuple es j pos) ts (bdT n bs) := by
  intro B ρ ρ' σ H τ v Q hr r e hq
  unfold bdT at e
  split at e
  · rename_i tl
    split at e
    · rename_i hl
      obtain ⟨a, vs, rfl, q, r⟩ := rep_tup.mp r
      refine ⟨gTup K n (GTs G es), fun i => by rw [← hG.K i]; exact pg_tup (hG.calm i) (pgs_gts i) (hn i) (hst i), a, vs, rfl, same_sqT hr.sm q, by rw [← r.length]; exact hl, ?_⟩
      exact h B ρ ρ' σ H tl vs Q hr r e hq
    · cases e
  · cases e
/-- a, b = e: a tuple taken apart -/
theorem sv_unpack {tg e : Expr} {de : Env' → Option T} {bd : Env' → T → Option Env'} {pos : Pos} {ts : List Nat} (h : EV G K e de) (ht : TV G K ow tg ts bd)
    (hs : ∀ i, swapsWithSole [tg] e pos.line (G i).env = pure false := by intro _; rfl) (hw : ∀ i, swappedStores [tg] e (G i).env = pure none := by intro _; rfl)
    (h1 : ∀ i, (assignEach [tg] (G i).env).map (·.2) = [assign tg (G i).env] := by intro _; rfl) :
    SV K fr ow ow owl (TSt G (.Assign [tg] e pos)) (fun ρ => match de ρ with
      | some τ => if (ow.isEmpty || imm τ) = true then (match bd ρ τ with | some ρ' => .nx ρ' | none => .er) else .er
      | none => .er) := by
  intro B ρ σ H D hr hp
  dsimp only at hp
  split at hp
  · rename_i τ e1
    split at hp
    · rename_i c
      split at hp
      · rename_i ρ' e2
        refine ⟨tAsg (ES G e) (GT G tg), fun i => ps_asg (pe_ts i) (pg_gt i) (hs i) (hw i) (h1 i), ?_⟩
        refine h ρ σ H τ _ hr.env e1 fun v H' s r => ?_
        obtain ⟨B2, s2, q, r2⟩ := (hr.grow s).settle (by simpa using c) r
        exact ht B2 ρ ρ' σ H' τ v _ q r2 e2 fun σ' q' _ => hp σ' H' ⟨B2, s2, q'⟩
      · cases hp
    · cases hp
  · cases hp

/-! ### for -/
def forD (bd : Env' → T → Option Env') (body : Env' → Out) : List T → Env' → Out
  | [], ρ => .nx ρ
  | t :: ts, ρ => match bd ρ t with
    | none => .er
    | some ρ1 => match body ρ1 with
      | .nx ρ2 => forD bd body ts ρ2
      | .ct ρ2 => forD bd body ts ρ2
      | .bk ρ2 => .nx ρ2
      | o => o
theorem Post.rebase {B B1 : Hp} {D : Ends} {o : Out} (s : Same B B1) (h : Post K fr B D ow' owl o) : Post K fr B1 D ow' owl o := by
  cases o with
  | nx ρ => exact fun σ H q => h σ H (q.of s)
  | bk ρ => exact fun σ H q => h σ H (q.of s)
  | ct ρ => exact fun σ H q => h σ H (q.of s)
  | rt τ =>
    intro v H q r
    refine h v H (s.trans q) ?_
    unfold RtR at r ⊢
    split
    · rename_i c
      rw [if_pos c] at r
      obtain ⟨p, o, e, n, e2, f⟩ := r
      exact ⟨p, o, e, s.free n, e2, f⟩
    · rename_i c
      rw [if_neg c] at r
      exact r
  | er => exact h
theorem addT_mono {B H H' : Hp} (s : Same H H') : Same (addT B H) (addT B H') := fun a o h => by
  cases e : B a with
  | some u => rw [addT_some e] at h ⊢; exact h
  | none =>
    rw [addT_none e] at h ⊢
    have := s a o (tupO_some h)
    rw [this]
    have h2 := tupO_some h
    rw [h2] at h
    exact h
theorem for_core {tg iter : Expr} {bd : Env' → T → Option Env'} {body : List Stmt} {db : Env' → Out} {pos : Pos} (hG : Fm G K mg base P w N sc k) (hpo : ∀ i, PassesOwn (model (G i).prog (G i).w) (G i).A (G i).env (G i).xe)
    {vs : List Nat} (ht : TV G K ow tg vs bd) (hb : SV K fr ow ow ow (TSs G body) db) {B : Hp} {ρ : Env'} {σ : St} {H : Hp} {D : Ends} {τs : List T} (hi : IVat G K ow tg iter B ρ σ H τs)
    (hp : Post K fr B D ow owl (forD bd db τs ρ)) (hs : ∀ i x, foldedSetIterable iter (G i).env x = pure x := by intro _ _; rfl) : TSt G (.For tg iter body [] pos) D σ H := by
  refine ⟨tFor (IT G tg iter) (GT G tg) (TSs G body), fun i => ps_for (hpo i) (hG.calm i) (pi_it i) (pg_gt i) (pss_ss i) (hs i), ?_⟩
  refine hi _ fun J H1 B1 s1 sH hr1 wk => ?_
  refine ⟨fun i m σ H => m = τs.length - i ∧ i ≤ τs.length ∧ ∃ ρi, StR K B1 ow ρi σ H ∧ Post K fr B1 D ow owl (forD bd db (τs.drop i) ρi), ⟨_, rfl, Nat.zero_le _, ρ, ⟨B1, Same.refl B1, hr1⟩, Post.rebase s1 hp⟩, ?_⟩
  rintro i m σi Hi ⟨rfl, hile, ρi, hri, hpi⟩
  by_cases hlt : i < τs.length
  · refine .inr ⟨wk.go i Hi hri.sm hlt, fun σ' H' => ∃ ρ', StR K B1 ow ρ' σ' H' ∧ Post K fr B1 D ow owl (forD bd db (τs.drop (i + 1)) ρ'), fun σ' H' ⟨ρ', a, b⟩ => ⟨_, by omega, rfl, hlt, ρ', a, b⟩, fun x H' y => ?_⟩
    obtain ⟨sH', rx⟩ := wk.yld i _ Hi x H' hri.sm (List.getElem?_eq_getElem hlt) y
    have ed : τs.drop i = τs[i] :: τs.drop (i + 1) := List.drop_eq_getElem_cons hlt
    rw [ed] at hpi
    unfold forD at hpi
    obtain ⟨B2, s2, q2⟩ := hri.grow sH'
    have rx2 : Rep K (addT B2 H') τs[i] x := rx.same fun a o h => by
      cases e : B1 a with
      | some u =>
        rw [addT_some e] at h
        exact addT_some (by rw [← h]; exact s2 a u e)
      | none =>
        rw [addT_none e] at h
        cases e2 : B2 a with
        | some u =>
          rw [addT_some e2]
          have := q2.sm a u e2
          rw [tupO_some h] at this
          exact this.symm
        | none => rw [addT_none e2]; exact h
    split at hpi
    · cases hpi
    · rename_i ρ1 e1
      refine ht (addT B2 H') ρi ρ1 σi H' _ x _ q2.addT rx2 e1 fun σ1 q1 _ => ?_
      have hr1 : StR K B1 ow ρ1 σ1 H' := ⟨_, s2.trans same_addT, q1⟩
      refine hb B1 ρ1 σ1 H' _ hr1 ?_
      split at hpi
      · rename_i ρ2 e2
        rw [e2]
        exact fun σ2 H2 q => ⟨ρ2, q, hpi⟩
      · rename_i ρ2 e2
        rw [e2]
        exact fun σ2 H2 q => ⟨ρ2, q, hpi⟩
      · rename_i ρ2 e2
        rw [e2]
        exact fun σ2 H2 q => hpi σ2 H2 q
      · rename_i o h1 h2 h3
        cases eo : db ρ1 with
        | nx ρ => exact absurd eo (h1 ρ)
        | ct ρ => exact absurd eo (h2 ρ)
        | bk ρ => exact absurd eo (h3 ρ)
        | rt t => rw [eo] at hpi; exact hpi
        | er => rw [eo] at hpi; exact hpi
  · have e : i = τs.length := by omega
    subst e
    refine .inl ⟨wk.stop _ Hi hri.sm (Nat.le_refl _), ?_⟩
    rw [List.drop_length] at hpi
    exact hpi σi Hi hri
theorem sv_for {tg iter : Expr} {bd : Env' → T → Option Env'} {body : List Stmt} {db : Env' → Out} {dl : Env' → Option (List T)} {pos : Pos} (hG : Fm G K mg base P w N sc k) (hpo : ∀ i, PassesOwn (model (G i).prog (G i).w) (G i).A (G i).env (G i).xe)
    {vs : List Nat} (hi : IV G K ow tg iter dl) (ht : TV G K ow tg vs bd) (hb : SV K fr ow ow ow (TSs G body) db) (hs : ∀ i x, foldedSetIterable iter (G i).env x = pure x := by intro _ _; rfl) :
    SV K fr ow ow owl (TSt G (.For tg iter body [] pos)) (fun ρ => match dl ρ with | some τs => forD bd db τs ρ | none => .er) := by
  intro B ρ σ H D hr hp
  dsimp only at hp
  split at hp
  · rename_i τs e
    obtain ⟨B', s, q⟩ := hr
    exact for_core hG hpo ht hb (hi B' ρ σ H τs q e) (Post.rebase s hp) hs
  · cases hp
end DL
namespace DL
open PySem PySem.Spec PyProof.Rows L2
variable {ι : Type} {G : ι → Cx} {K : PySem.W.Frag} {mg : Str → Option Value} {base : Heap} {P : Program} {w : World} {N : List Str} {sc : Scope} {k : Nat}
variable {fr : Bool} {ow ow' owl : List Nat}

/-! ### the blocks of a comprehension -/
abbrev Blk (ι : Type) := ι × Shared × Hp × Addr × List (Str × Addr) × List Addr
def gBlk (G : ι → Cx) (scope : Scope) : Blk ι → Cx := fun b => (G b.1).blk b.2.1 b.2.2.1 scope (compEnvC scope b.2.2.2.2.1 b.2.2.2.1 (G b.1).env) b.2.2.2.2.2
theorem fm_blk (hG : Fm G K mg base P w N sc k) (scope : Scope) : Fm (gBlk G scope) K mg base P w N (relS scope sc) k :=
  ⟨fun b => hG.K b.1, fun b => hG.mg b.1, fun b => hG.base b.1, fun b => hG.P b.1, fun b => hG.w b.1, fun b => hG.N b.1, fun b => by rw [← hG.sc b.1]; rfl, fun b => hG.calm b.1, fun b => hG.room b.1⟩
def ownsB (scope sc' : Scope) : Bool := sc'.names.all fun y => match y.2 with
  | .cell => scope.names.lookup y.1 == some .cell || (sc'.names.lookup y.1 != some .cell)
  | _ => true

/-- the block's targets: local names of its own scope -/
theorem tv_nameB (hG : Fm G K mg base P w N sc k) (hN0 : N.Nodup) (scope : Scope) (i : Nat) (ni : i ∉ ow) {x : Str} {pos : Pos} (hN : N[i]? = some x := by rfl) (hv : (relS scope sc).names.lookup x = some .local := by rfl) :
    TV (gBlk G scope) K ow (.Name x pos) [i] (bdN i) := by
  intro B ρ ρ' σ H τ v Q hr r e h
  cases e
  have hB := fm_blk hG scope
  refine ⟨gName i, fun j => pg_name (by rw [hB.N j]; exact hN0) (by rw [hB.N j]; exact hN) (by rw [hB.sc j]; exact .inl hv) (.inr (by rw [hB.sc j]; exact hv)), h _ (hr.set ni r) ⟨by simp, fun j hj => List.getElem?_set_ne (fun z => hj (by simp [z]))⟩⟩
/-- .. that are cells of it -/
theorem tv_cellB (hG : Fm G K mg base P w N sc k) (hN0 : N.Nodup) (scope : Scope) (i : Nat) (ni : i ∉ ow) {x : Str} {pos : Pos} (hN : N[i]? = some x := by rfl) (hv : (relS scope sc).names.lookup x = some .cell := by rfl) (hf : scope.names.lookup x = some .cell := by rfl) :
    TV (gBlk G scope) K ow (.Name x pos) [i] (bdN i) := by
  intro B ρ ρ' σ H τ v Q hr r e h
  cases e
  have hB := fm_blk hG scope
  refine ⟨gName i, fun j => pg_name (by rw [hB.N j]; exact hN0) (by rw [hB.N j]; exact hN) (by rw [hB.sc j]; exact .inr hv) (.inl ?_), h _ (hr.set ni r) ⟨by simp, fun j hj => List.getElem?_set_ne (fun z => hj (by simp [z]))⟩⟩
  show (scope.names.lookup x == some .cell) = true
  rw [hf]; rfl

/-! ### conditions -/
def CTs (G : ι → Cx) (ifs : List Expr) : TT := fun σ H Q => ∃ t, (∀ i, PTs (G i) ifs t) ∧ t σ H Q
theorem pts_cts {ifs : List Expr} (i : ι) : PTs (G i) ifs (CTs G ifs) := ⟨fun pins s σ H Q I ⟨t, h, q⟩ => (h i).run pins s σ H Q I q⟩
def CV (G : ι → Cx) (K : PySem.W.Frag) (ifs : List Expr) (d : Env' → Option Bool) : Prop :=
  ∀ ρ σ H b Q, EnvR K H σ ρ → d ρ = some b → (∀ H', Same H H' → Q b H') → CTs G ifs σ H Q
theorem cv_nil : CV G K [] (fun _ => some true) := fun ρ σ H b Q he hd hq => by
  cases hd
  exact ⟨_, fun _ => pts_nil, hq H (Same.refl H)⟩
theorem cv_one {c : Expr} {d : Env' → Option Bool} (h : BV G K c d) : CV G K [c] d := fun ρ σ H b Q he hd hq => ⟨_, fun i => pts_one (pt_ts i), h ρ σ H b Q he hd hq⟩

def wipeD (ρ : Env') : List Nat → Env'
  | [] => ρ
  | v :: vs => (wipeD ρ vs).set v none
theorem wipeD_length (ρ : Env') : ∀ vs : List Nat, (wipeD ρ vs).length = ρ.length
  | [] => rfl
  | v :: vs => by unfold wipeD; rw [List.length_set, wipeD_length ρ vs]
theorem wipeD_some {ρ : Env'} {i : Nat} {t : T} : ∀ {vs : List Nat}, (wipeD ρ vs)[i]? = some (some t) → ρ[i]? = some (some t) ∧ i ∉ vs
  | [], h => ⟨h, by simp⟩
  | v :: vs, h => by
    unfold wipeD at h
    rcases set_get h with ⟨_, e⟩ | ⟨n, e⟩
    · cases e
    · obtain ⟨a, b⟩ := wipeD_some e
      exact ⟨a, by simp [n, b]⟩
theorem StR'.wipe {B : Hp} {ρ : Env'} {σ : St} {H : Hp} (h : StR' K B [] ρ σ H) (vs : List Nat) : StR' K B [] (wipeD ρ vs) (wipe σ vs) H := by
  refine ⟨h.sm, by rw [wipeD_length, wipe_length]; exact h.len, fun i t m e => ?_, fun i t m => absurd m (by simp), fun i j a ti tj m => absurd m (by simp)⟩
  obtain ⟨e1, e2⟩ := wipeD_some e
  obtain ⟨v, q, r⟩ := h.val i t m e1
  exact ⟨v, by rw [wipe_out e2]; exact q, r⟩
theorem wipe_in {σ : St} {i : Nat} (hi : i < σ.length) : ∀ {vs : List Nat}, i ∈ vs → (L2.wipe σ vs)[i]? = some none
  | v :: vs, h => by
    unfold L2.wipe
    by_cases e : i = v
    · subst e
      exact List.getElem?_set_self (by rw [wipe_length]; exact hi)
    · rw [List.getElem?_set_ne (fun z => e z.symm)]
      exact wipe_in hi (by
        rcases List.mem_cons.mp h with z | z
        · exact absurd z e
        · exact z)
theorem wipe_off {σ σ2 : St} {vs ts : List Nat} (h : OffT ts (L2.wipe σ vs) σ2) (hs : ∀ i ∈ ts, i ∈ vs) : L2.wipe σ2 vs = L2.wipe σ vs := by
  apply List.ext_getElem?
  intro i
  by_cases hi : i < σ.length
  · by_cases m : i ∈ vs
    · rw [wipe_in hi m, wipe_in (by rw [h.1, wipe_length]; exact hi) m]
    · rw [wipe_out m, h.2 i fun z => m (hs i z)]
  · rw [List.getElem?_eq_none, List.getElem?_eq_none]
    · rw [wipe_length]; omega
    · rw [wipe_length, h.1, wipe_length]; omega
/-- what a comprehension makes -/
def compD (bd : Env' → T → Option Env') (c : Env' → Option Bool) (e : Env' → Option T) (ρ : Env') : List T → Option (List T)
  | [] => some []
  | t :: ts => match bd ρ t with
    | none => none
    | some ρ1 => match c ρ1 with
      | some true => consD (e ρ1) (compD bd c e ρ ts)
      | some false => compD bd c e ρ ts
      | none => none
def lcD (bd : Env' → T → Option Env') (c : Env' → Option Bool) (e : Env' → Option T) (vs : List Nat) (ρ : Env') (o : Option (List T)) : Option T := match o with
  | some τs => if τs.length ≤ sizeLine then (match compD bd c e (wipeD ρ vs) τs with
    | some ts => if immL ts = true then some (.lst ts) else none
    | none => none) else none
  | none => none
theorem immL_append : ∀ {xs ys : List T}, immL (xs ++ ys) = (immL xs && immL ys)
  | [], ys => by simp [immL]
  | x :: xs, ys => by simp [immL, immL_append, Bool.and_assoc]
theorem EnvR.str {H : Hp} {σ : St} {ρ : Env'} (h : EnvR K H σ ρ) : StR' K H [] ρ σ H :=
  ⟨Same.refl H, h.1, fun i t _ e => h.2 i t e, fun i t m => absurd m (by simp), fun i j a ti tj m => absurd m (by simp)⟩
theorem addT_upd {B H : Hp} {D : Addr} {vs ws : List V} (e : H D = some (.lst vs)) (n : B D = none) : addT B (upd H D (.lst ws)) = addT B H := by
  funext a
  by_cases h : a = D
  · subst h
    rw [addT_none n, addT_none n, upd_same, e]; rfl
  · cases q : B a with
    | some o => rw [addT_some q, addT_some q]
    | none => rw [addT_none q, addT_none q, upd_ne h]
theorem lc_read {scope : Scope} {tg iter elt : Expr} {ifs : List Expr} {own : List (Str × Nat)} {ts : List Nat} {bd : Env' → T → Option Env'} {dc : Env' → Option Bool} {de : Env' → Option T}
    (ht : TV (gBlk G scope) K [] tg ts bd) (hts : ∀ i ∈ ts, i ∈ own.map (·.2)) (hc : CV (gBlk G scope) K ifs dc) (he : EV (gBlk G scope) K elt de) {ρ : Env'} {σ : St} {H : Hp} {τs res : List T} {Q : VK}
    (hE : EnvR K H σ ρ) (hi : IVat G K [] tg iter H ρ σ H τs) (hl : τs.length ≤ sizeLine) (hr : compD bd dc de (wipeD ρ (own.map (·.2))) τs = some res) (hm : immL res = true)
    (hq : ∀ p o H', Same H H' → H p = none → H' p = some o → FrO K H' (.lst res) o → Q (.ref p) H') :
    tLc (IT G tg iter) (GT (gBlk G scope) tg) (CTs (gBlk G scope) ifs) (ES (gBlk G scope) elt) (own.map (·.2)) σ H Q := by
  refine hi _ fun J H1 B1 s1 sH hr1 wk => fun D nD => ?_
  have nB : B1 D = none := hr1.sm.free nD
  have hw := hr1.wipe (own.map (·.2))
  refine ⟨fun i m Hc => m = τs.length - i ∧ i ≤ τs.length ∧ Same H1 Hc ∧ ∃ acc vs rest, Hc D = some (.lst vs) ∧ Reps K (addT B1 Hc) acc vs ∧ compD bd dc de (wipeD ρ (own.map (·.2))) (τs.drop i) = some rest ∧ acc ++ rest = res ∧ acc.length ≤ i,
    ⟨_, rfl, Nat.zero_le _, same_upd' nD, [], [], res, upd_same, .nil, hr, rfl, Nat.le_refl _⟩, ?_⟩
  rintro i m Hc ⟨rfl, hile, sc1, acc, vs, rest, eD, racc, hrest, happ, hlen⟩
  have sB : Same B1 Hc := hr1.sm.trans sc1
  by_cases hlt : i < τs.length
  · refine .inr ⟨wk.go i Hc sB hlt, fun H' => Same H1 H' ∧ ∃ acc vs rest, H' D = some (.lst vs) ∧ Reps K (addT B1 H') acc vs ∧ compD bd dc de (wipeD ρ (own.map (·.2))) (τs.drop (i + 1)) = some rest ∧ acc ++ rest = res ∧ acc.length ≤ i + 1,
      fun H' ⟨a, b⟩ => ⟨_, by omega, rfl, hlt, a, b⟩, fun x H' y => ?_⟩
    obtain ⟨sy, rx⟩ := wk.yld i _ Hc x H' sB (List.getElem?_eq_getElem hlt) y
    have ed : τs.drop i = τs[i] :: τs.drop (i + 1) := List.drop_eq_getElem_cons hlt
    rw [ed] at hrest
    unfold compD at hrest
    split at hrest
    · cases hrest
    · rename_i ρ1 e1
      have hw' : StR' K (addT B1 H') [] (wipeD ρ (own.map (·.2))) (L2.wipe σ (own.map (·.2))) H' := ((hw.grow sc1).grow sy).addT
      refine ht _ _ ρ1 _ H' _ x _ hw' rx e1 fun σ2 q2 off => ⟨wipe_off off hts, ?_⟩
      have eD' : H' D = some (.lst vs) := sy _ _ eD
      split at hrest
      · rename_i e2
        refine hc ρ1 σ2 H' true _ q2.env e2 fun H3 s3 => ?_
        rw [if_pos rfl]
        obtain ⟨t, ts', e3, e4, rfl⟩ := consD_some hrest
        refine he ρ1 σ2 H3 t _ (q2.env.same s3) e3 fun v H4 s4 r4 => ?_
        have eD4 : H4 D = some (.lst vs) := s4 _ _ (s3 _ _ eD')
        refine ⟨vs, eD4, ?_, ?_, acc ++ [t], vs ++ [v], ts', upd_same, ?_, e4, by simpa using happ, by simp; omega⟩
        · rw [← racc.length]; omega
        · intro b o z
          by_cases hb : b = D
          · subst hb; rw [nD] at z; cases z
          · rw [upd_ne hb]; exact s4 _ _ (s3 _ _ (sy _ _ (sc1 _ _ z)))
        · rw [addT_upd eD4 nB]
          have sB4 : Same B1 H4 := ((sB.trans sy).trans s3).trans s4
          have im : imm t = true := by
            rw [← happ, immL_append] at hm
            simp [immL] at hm
            exact hm.2.1
          exact (racc.same (addT_mono ((sy.trans s3).trans s4))).snoc (imm_rep sB4 t v im r4)
      · rename_i e2
        refine hc ρ1 σ2 H' false _ q2.env e2 fun H3 s3 => ?_
        rw [if_neg Bool.false_ne_true]
        exact ⟨(sc1.trans sy).trans s3, acc, vs, rest, s3 _ _ eD', racc.same (addT_mono (sy.trans s3)), hrest, happ, by omega⟩
      · cases hrest
  · have e : i = τs.length := by omega
    subst e
    rw [List.drop_length] at hrest
    cases hrest
    rw [List.append_nil] at happ
    subst happ
    refine .inl ⟨wk.stop _ Hc sB (Nat.le_refl _), ?_⟩
    exact hq D _ Hc (sH.trans sc1) (sH.free nD) eD (.inl ⟨_, _, rfl, rfl, racc.same (addT_same sB)⟩)
theorem evf_lc (hG : Fm G K mg base P w N sc k) (hN0 : N.Nodup) {scope : Scope} {tg iter elt : Expr} {ifs : List Expr} (own : List (Str × Nat)) {ts : List Nat} {pos : Pos} {bd : Env' → T → Option Env'} {dc : Env' → Option Bool} {de : Env' → Option T} {dl : Env' → Option (List T)}
    (hi : IV G K [] tg iter dl) (ht : TV (gBlk G scope) K [] tg ts bd) (hc : CV (gBlk G scope) K ifs dc) (he : EV (gBlk G scope) K elt de) (hok : blkC N sc scope own = true := by decide +kernel) (hts : ∀ i ∈ ts, i ∈ own.map (·.2) := by decide)
    (hs : ∀ i x, foldedSetIterable iter (G i).env x = pure x := by intro _ _; rfl) : EVF G K (.ListComp elt [⟨tg, iter, ifs, 0⟩] scope pos) (fun ρ => lcD bd dc de (own.map (·.2)) ρ (dl ρ)) := by
  intro ρ σ H τ Q hE hd hq
  dsimp only at hd
  unfold lcD at hd
  split at hd
  · rename_i τs e1
    split at hd
    · rename_i hl
      split at hd
      · rename_i res e2
        split at hd
        · rename_i hm
          cases hd
          refine ⟨tLc (IT G tg iter) (GT (gBlk G scope) tg) (CTs (gBlk G scope) ifs) (ES (gBlk G scope) elt) (own.map (·.2)), fun i => pe_lc (hG.calm i) (by rw [hG.N i]; exact hN0) (pi_it i) (by rw [hG.N i, hG.sc i]; exact blkOk_by hok)
            (fun s H C cl fp => pg_gt (G := gBlk G scope) (i, s, H, C, cl, fp)) (fun s H C cl fp => pts_cts (G := gBlk G scope) (i, s, H, C, cl, fp)) (fun s H C cl fp => pe_ts (G := gBlk G scope) (i, s, H, C, cl, fp)) (hs i), ?_⟩
          exact lc_read ht hts hc he hE (hi H ρ σ H τs hE.str e1) hl e2 hm hq
        · cases hd
      · cases hd
    · cases hd
  · cases hd
end DL
namespace DL
open PySem PySem.Spec PyProof.Rows L2
variable {ι : Type} {G : ι → Cx} {K : PySem.W.Frag} {mg : Str → Option Value} {base : Heap} {P : Program} {w : World} {N : List Str} {sc : Scope} {k : Nat}
variable {fr : Bool} {ow ow' owl : List Nat}

/-! ### name = [..] -/
theorem sv_setLc (hG : Fm G K mg base P w N sc k) (hN0 : N.Nodup) {scope : Scope} {tg iter elt : Expr} {ifs : List Expr} (own : List (Str × Nat)) (i : Nat) (ni : i ∉ ow) {y : Str} {py : Pos} {ts : List Nat} {pos spos : Pos} {bd : Env' → T → Option Env'} {dc : Env' → Option Bool} {de : Env' → Option T} {dl : Env' → Option (List T)}
    (hi : IV G K [] tg iter dl) (ht : TV (gBlk G scope) K [] tg ts bd) (hc : CV (gBlk G scope) K ifs dc) (he : EV (gBlk G scope) K elt de) (hN : N[i]? = some y := by rfl) (hy : sc.names.lookup y = some .local := by rfl) (hk : sc.kind = .function := by rfl) (hl : (py.line == pos.line) = true := by rfl)
    (ha : (scope.names.any fun (n, k) => n == y && (k == .local || k == .cell)) = false := by decide +kernel)
    (hok : blkC N sc scope own = true := by decide +kernel) (hts : ∀ i ∈ ts, i ∈ own.map (·.2) := by decide)
    (hs : ∀ i x, foldedSetIterable iter (G i).env x = pure x := by intro _ _; rfl) : SV K fr ow (i :: ow) owl (TSt G (.Assign [.Name y py] (.ListComp elt [⟨tg, iter, ifs, 0⟩] scope pos) spos)) (fun ρ => ownD i (lcD bd dc de (own.map (·.2)) ρ (dl ρ)) ρ) := by
  intro B ρ σ H D hr hp
  dsimp only at hp
  unfold ownD at hp
  split at hp
  · rename_i τ e1
    split at hp
    · rename_i c
      unfold lcD at e1
      split at e1
      · rename_i τs e0
        split at e1
        · rename_i hlen
          split at e1
          · rename_i res e2
            split at e1
            · rename_i hm
              cases e1
              refine ⟨tAsg (tLc (IT G tg iter) (GT (gBlk G scope) tg) (CTs (gBlk G scope) ifs) (ES (gBlk G scope) elt) (own.map (·.2))) (gName i), fun j => ps_setLc (hG.calm j) (by rw [hG.N j]; exact hN0) (by rw [hG.N j]; exact hN) (by rw [hG.sc j]; exact hy)
                (sw_true (by rw [hG.sc j]; exact hk) (by rw [hG.sc j]; exact hy) hl ha) (pi_it j) (by rw [hG.N j, hG.sc j]; exact blkOk_by hok)
                (fun s H C cl fp => pg_gt (G := gBlk G scope) (j, s, H, C, cl, fp)) (fun s H C cl fp => pts_cts (G := gBlk G scope) (j, s, H, C, cl, fp)) (fun s H C cl fp => pe_ts (G := gBlk G scope) (j, s, H, C, cl, fp)) (hs j), ?_⟩
              refine lc_read ht hts hc he hr.env (hi H ρ σ H τs hr.env.str e0) hlen e2 hm fun p o H' s np ep f => ?_
              obtain ⟨B', sB, q⟩ := hr
              have nB : B' p = none := q.sm.free np
              refine hp _ H' ⟨addT B' H', sB.trans same_addT, (q.grow s).addT.setO ni ?_ ?_ ep (imm_frO (q.sm.trans s) c f)⟩
              · rw [addT_none nB, ep]
                exact f.tupO
              · intro j tj m ej z
                obtain ⟨b, ob, e2, _, e3, _⟩ := q.own j tj m ej
                rw [e2] at z
                cases z
                rw [np] at e3
                cases e3
            · cases e1
          · cases e1
        · cases e1
      · cases e1
    · cases hp
  · cases hp

/-! ### a def as a whole -/
/-- a def that may be called by its name -/
structure Cl (P : Program) (w : World) (K : PySem.W.Frag) (mg : Str → Option Value) (base : Heap) (k : Nat) (x : Str) (sp : Sp) : Prop where
  ex : ∃ (f : Addr) (fd : FuncData) (ps : List Str), FnOk P w K mg base CX0 k f fd ps sp ∧ mg x = some (.ref f) ∧ PySem.W.keepIn K (.ref f) = true ∧ Binds K fd ps []
/-- the promise: n arguments, worth df -/
def spD (K : PySem.W.Frag) (n : Nat) (fr : Bool) (df : List T → Option T) : Sp := fun vs H Q _ => ∃ ts τ, Reps K H ts vs ∧ ts.length = n ∧ df ts = some τ ∧ ∀ v H', Same H H' → RtR K H fr τ v H' → Q v H'
def rho0 (N : List Str) (ts : List T) : Env' := ts.map some ++ List.replicate (N.length - ts.length) none
def fnD (N : List Str) (fr : Bool) (d : Env' → Out) (ts : List T) : Option T := match d (rho0 N ts) with
  | .rt t => some t
  | .nx _ => if fr = true then none else some .non
  | _ => none
theorem start_str {H : Hp} {ts : List T} {vs : List V} (r : Reps K H ts vs) (hl : ts.length ≤ N.length) : StR' K H [] (rho0 N ts) (L2.start N vs) H := by
  refine ⟨Same.refl H, ?_, fun i t _ e => ?_, fun i t m => absurd m (by simp), fun i j a ti tj m => absurd m (by simp)⟩
  · unfold rho0 L2.start
    simp [r.length]
  · unfold rho0 at e
    unfold L2.start
    by_cases hi : i < ts.length
    · rw [List.getElem?_append_left (by simpa using hi), List.getElem?_map] at e
      cases q : ts[i]? with
      | none => rw [q] at e; cases e
      | some t' =>
        rw [q] at e
        cases e
        obtain ⟨v, ev, rv⟩ := r.get q
        refine ⟨v, ?_, rv⟩
        rw [List.getElem?_append_left (by rw [List.length_map, ← r.length]; exact hi), List.getElem?_map, ev]
        rfl
    · rw [List.getElem?_append_right (by simpa using hi), List.getElem?_replicate] at e
      split at e <;> cases e
/-- the body's family -/
structure Fb {ι : Type} (G : ι → Cx) (K : PySem.W.Frag) (mg : Str → Option Value) (base : Heap) (P : Program) (w : World) (N : List Str) (sc0 : Scope) (k : Nat) : Prop extends Fm G K mg base P w N sc0 k where
  po : ∀ i, PassesOwn (model (G i).prog (G i).w) (G i).A (G i).env (G i).xe
  fb : FnB G sc0
/-- THE RULE: a def by its body's denotation -/
theorem fn_dl {x : Str} {st : Stmt} {f : Addr} {fd : FuncData} {ps : List Str} {d : Env' → Out} {df : List T → Option T} (F : Fun K x x st f fd) (S : FnScope N ps (defScope st)) (hm : mg x = some (.ref f)) (hb : Binds K fd ps []) {ow' : List Nat}
    (body : ∀ (G : Unit → Cx), Fb G K mg base P w N (defScope st) k → SV K fr [] ow' [] (TSs G (defBody st)) d) (hd : ∀ ts, ts.length = ps.length → ∀ τ, df ts = some τ → fnD N fr d ts = some τ) :
    Cl P w K mg base (k + 1) x (spD K ps.length fr df) := by
  have hpl : ps.length ≤ N.length := by
    have := congrArg List.length S.pre
    rw [List.length_take] at this
    omega
  refine ⟨f, fd, ps, ?_, hm, F.kp, hb⟩
  refine F.ok S (fun vs H Q E h => ?_) (fun cdv A outer s H vs Q E hr h => ?_)
  · obtain ⟨ts, τ, r, hl, _⟩ := h
    rw [← r.length]; exact hl
  · obtain ⟨ts, τ, r, hl, e, q⟩ := h
    have e := hd ts hl τ e
    have hF : Fb (fun _ : Unit => (cxOf CX0 P w K mg base N x (defScope st) f cdv A outer s H E).nox) K mg base P w N (defScope st) k :=
      { K := fun _ => rfl, mg := fun _ => rfl, base := fun _ => rfl, P := fun _ => rfl, w := fun _ => rfl, N := fun _ => rfl, sc := fun _ => rfl, calm := fun _ => rfl, room := fun _ => hr,
        po := fun _ => PassesOwn.never, fb := ⟨fun _ _ => .inl rfl⟩ }
    refine ⟨_, pss_ss (G := fun _ : Unit => (cxOf CX0 P w K mg base N x (defScope st) f cdv A outer s H E).nox) (), ?_⟩
    refine body _ hF H (rho0 N ts) (L2.start N vs) H _ ⟨H, Same.refl H, start_str r (by omega)⟩ ?_
    unfold fnD at e
    split at e
    · rename_i t eo
      cases e
      rw [eo]
      exact fun v H' s r => q v H' s r
    · rename_i ρ' eo
      rw [eo]
      split at e
      · cases e
      · rename_i c
        cases e
        refine fun σ' H' hr' => q _ H' hr'.sm ?_
        unfold RtR
        rw [if_neg c]
        exact rep_non.mpr rfl
    · cases e
variable {x : Str} {p pos : Pos} {e : Expr} {es : List Expr} {da : Env' → Option (List T)} {j n : Nat} {df : List T → Option T}
theorem pe_cl (hG : Fm G K mg base P w N sc k) {sp : Sp} {t : TA} (c : Cl P w K mg base j x sp) (i : ι) (hjk : j ≤ k) (hg : glB sc x = true) (hdb : (x == ("__debug__" : Str)) = false) (ha : PA (G i) (e :: es) t)
    (he : starEach (e :: es) (G i).env = (false, eval e (G i).env) :: starEach es (G i).env) (hpl : (backTo pos (starEach es (G i).env)).any (·.1) = false) : PE (G i) (.Call (.Name x p) (e :: es) [] pos) (tCall sp [] E0 t) := by
  obtain ⟨f, fd, ps, F, hm, kp, b⟩ := c.ex
  refine pe_call (k := k) (CX := CX0) (sp := sp) (f := f) (fd := fd) (ps := ps) (ds := []) ?_ (hG.room i) (gl_of hG hg i) (by rw [hG.mg i]; exact hm) (by rw [hG.K i]; exact kp) (by rw [hG.K i]; exact b) .nil pass0 ha hdb he hpl
  rw [hG.P i, hG.w i, hG.K i, hG.mg i, hG.base i]
  exact F.mono hjk
theorem ev_call (hG : Fm G K mg base P w N sc k) (c : Cl P w K mg base j x (spD K n false df)) (ha : AV G K (e :: es) da) (hjk : j ≤ k := by decide) (hg : glB sc x = true := by rfl) (hdb : (x == ("__debug__" : Str)) = false := by decide)
    (he : ∀ i, starEach (e :: es) (G i).env = (false, eval e (G i).env) :: starEach es (G i).env := by intro _; rfl) (hpl : ∀ i, (backTo pos (starEach es (G i).env)).any (·.1) = false := by intro _; rfl)
    (hn : (e :: es).length = n := by rfl) : EV G K (.Call (.Name x p) (e :: es) [] pos) (fun ρ => (da ρ).bind df) := by
  intro ρ σ H τ Q hE hd hq
  dsimp only at hd
  cases e1 : da ρ with
  | none => rw [e1] at hd; cases hd
  | some ts =>
    rw [e1] at hd
    refine ⟨tCall (spD K n false df) [] E0 (TAs G (e :: es)), fun i => pe_cl hG c i hjk hg hdb (pa_ts i) (he i) (hpl i), ?_⟩
    refine ha.2 ρ σ H ts _ hE e1 fun vs H1 s1 r => ?_
    rw [List.append_nil]
    exact ⟨ts, τ, r, (ha.1 ρ ts e1).trans hn, hd, fun v H' s2 r2 => hq v H' (s1.trans s2) r2⟩
theorem evf_call (hG : Fm G K mg base P w N sc k) (c : Cl P w K mg base j x (spD K n true df)) (ha : AV G K (e :: es) da) (hjk : j ≤ k := by decide) (hg : glB sc x = true := by rfl) (hdb : (x == ("__debug__" : Str)) = false := by decide)
    (he : ∀ i, starEach (e :: es) (G i).env = (false, eval e (G i).env) :: starEach es (G i).env := by intro _; rfl) (hpl : ∀ i, (backTo pos (starEach es (G i).env)).any (·.1) = false := by intro _; rfl)
    (hn : (e :: es).length = n := by rfl) : EVF G K (.Call (.Name x p) (e :: es) [] pos) (fun ρ => (da ρ).bind df) := by
  intro ρ σ H τ Q hE hd hq
  dsimp only at hd
  cases e1 : da ρ with
  | none => rw [e1] at hd; cases hd
  | some ts =>
    rw [e1] at hd
    refine ⟨tCall (spD K n true df) [] E0 (TAs G (e :: es)), fun i => pe_cl hG c i hjk hg hdb (pa_ts i) (he i) (hpl i), ?_⟩
    refine ha.2 ρ σ H ts _ hE e1 fun vs H1 s1 r => ?_
    rw [List.append_nil]
    refine ⟨ts, τ, r, (ha.1 ρ ts e1).trans hn, hd, fun v H' s2 r2 => ?_⟩
    obtain ⟨p, o, rfl, np, ep, f⟩ := r2
    exact hq p o H' (s1.trans s2) (s1.free np) ep f
end DL
namespace DL
open PySem PySem.Spec PyProof.Rows L2
variable {ι : Type} {G : ι → Cx} {K : PySem.W.Frag} {mg : Str → Option Value} {base : Heap} {P : Program} {w : World} {N : List Str} {sc : Scope} {k : Nat}

/-! ### arithmetic -/
def gI (f : Int → Int → Int) (x y : T) : Option T := match x, y with
  | .int i, .int j => some (.int (f i j))
  | _, _ => none
def gIc (c : Int → Int → Bool) (f : Int → Int → Int) (x y : T) : Option T := match x, y with
  | .int i, .int j => if c i j = true then some (.int (f i j)) else none
  | _, _ => none
def gIb (f : Int → Int → Bool) (x y : T) : Option T := match x, y with
  | .int i, .int j => some (.bl (f i j))
  | _, _ => none
theorem opS_I {f : Value → Value → Sem Value} {g : Int → Int → Int} (h : ∀ i, OpR (G i) f (rI0 fun a b => .int (g a b))) : OpS G K f (gI g) := by
  intro H x y v u τ Q e rx ry hq
  unfold gI at e
  split at e
  · cases e
    exact ⟨_, h, _, _, rep_int.mp rx, rep_int.mp ry, hq _ H (Same.refl H) (rep_int.mpr rfl)⟩
  · cases e
theorem opS_Ib {f : Value → Value → Sem Value} {g : Int → Int → Bool} (h : ∀ i, OpR (G i) f (rI0 fun a b => .bl (g a b))) : OpS G K f (gIb g) := by
  intro H x y v u τ Q e rx ry hq
  unfold gIb at e
  split at e
  · cases e
    exact ⟨_, h, _, _, rep_int.mp rx, rep_int.mp ry, hq _ H (Same.refl H) (rep_bl.mpr rfl)⟩
  · cases e
theorem opS_Ic {f : Value → Value → Sem Value} {C : Int → Int → Prop} {c : Int → Int → Bool} {g : Int → Int → Int} (h : ∀ i, OpR (G i) f (rI C fun a b => .int (g a b))) (hc : ∀ i j, c i j = true → C i j) : OpS G K f (gIc c g) := by
  intro H x y v u τ Q e rx ry hq
  unfold gIc at e
  split at e
  · split at e
    · rename_i q
      cases e
      exact ⟨_, h, _, _, rep_int.mp rx, rep_int.mp ry, hc _ _ q, hq _ H (Same.refl H) (rep_int.mpr rfl)⟩
    · cases e
  · cases e
abbrev gSub := gI fun i j => i - j
theorem s_sub : OpS G K (binaryOp .Sub) gSub := opS_I fun _ => op_sub
def cMul (i j : Int) : Bool := (decide (-(2 ^ 64) < i) && decide (i < 2 ^ 64)) || (decide (-(2 ^ 64) < j) && decide (j < 2 ^ 64))
abbrev gMul := gIc cMul fun i j => i * j
theorem s_mul : OpS G K (binaryOp .Mult) gMul := opS_Ic (fun _ => op_mul) fun i j h => by simpa [cMul, CMul] using h
def cDiv (_ j : Int) : Bool := decide (0 < j) && decide (j < 1073741824)
abbrev gDiv := gIc cDiv fun i j => i / j
theorem s_div : OpS G K (binaryOp .FloorDiv) gDiv := opS_Ic (fun _ => op_fdiv) fun i j h => by simpa [cDiv, CDiv] using h
def cMod (_ j : Int) : Bool := decide (0 < j)
abbrev gMod := gIc cMod fun i j => i % j
theorem s_mod : OpS G K (binaryOp .Mod) gMod := opS_Ic (fun _ => op_mod) fun i j h => by simpa [cMod] using h
def cPow (i j : Int) : Bool := decide (0 ≤ j) && decide (j ≤ 1000000) && decide (i.natAbs < 2 ^ 64)
abbrev gPow := gIc cPow fun i j => i ^ j.toNat
theorem s_pow : OpS G K (binaryOp .Pow) gPow := opS_Ic (fun _ => op_pow) fun i j h => by
  simp only [cPow, Bool.and_eq_true, decide_eq_true_eq] at h
  exact ⟨h.1.1, h.1.2, h.2⟩
/-- t + u of tuples, either may be empty -/
def rCatA (K : PySem.W.Frag) : R2 := fun x y H Q => ∃ a b xs ys, x = .ref a ∧ y = .ref b ∧ SqT K H a xs ∧ SqT K H b ys ∧ xs.length + ys.length ≤ sizeLine ∧
  (xs = [] → Q (.ref b) H) ∧ (xs ≠ [] → ys = [] → Q (.ref a) H) ∧ (xs ≠ [] → ys ≠ [] → ∀ p, H p = none → Q (.ref p) (upd H p (.tup (xs ++ ys))))
theorem op_catA {X : Cx} : OpR X (binaryOp .Add) (rCatA X.K) := by
  intro pins s σ H x y v u Q I rx ry h
  obtain ⟨a, b, xs, ys, rfl, rfl, ha, hb, hz, q0, q1, q2⟩ := h
  by_cases hx : xs = []
  · cases rx
    cases ry
    obtain ⟨its, r1, p1, _⟩ := I.tuple ha
    obtain ⟨its2, r2, p2, _⟩ := I.tuple hb
    obtain ⟨⟨cls, dd, data, sl⟩, ho, hc, n, hd⟩ := id p1
    obtain ⟨⟨cls2, dd2, data2, sl2⟩, ho2, hc2, n2, hd2⟩ := id p2
    simp only at hc hd hc2 hd2
    subst hc hd hc2 hd2
    have hv : its = [] := r1.nil_iff.mpr hx
    exact concat_meets ⟨_, ho, rfl⟩ ⟨_, ho2, rfl⟩ noFill_tuple_add seq_tuple_add PySem.F.slot_tuple_add PySem.F.entry_tuple_add (PySem.F.args_tuple_add_2 _ _)
      (tuple_addW0 a b its.toArray its2.toArray n n2 dd dd2 sl sl2 (by simp [hv])) ⟨ho, ho2, .ref b, H, I, rfl, q0 hx⟩
  · exact op_catT pins s σ H _ _ v u Q I rx ry ⟨a, b, xs, ys, rfl, rfl, ha, hb, hx, hz, q1 hx, q2 hx⟩
def gAdd (x y : T) : Option T := match x, y with
  | .int i, .int j => some (.int (i + j))
  | .str i, .str j => if i.length + j.length ≤ sizeLine then some (.str (i ++ j)) else none
  | .lst i, .lst j => if i.length + j.length ≤ sizeLine then some (.lst (i ++ j)) else none
  | .tup i, .tup j => if i.length + j.length ≤ sizeLine then some (.tup (i ++ j)) else none
  | _, _ => none
theorem Reps.append {H : Hp} {ts us : List T} {vs ws : List V} (h : Reps K H ts vs) (r : Reps K H us ws) : Reps K H (ts ++ us) (vs ++ ws) := by
  rw [Reps.paired] at h r ⊢
  induction h with
  | nil => exact r
  | cons h1 h2 ih => exact .cons h1 ih
theorem Reps.nil_iff {H : Hp} {ts : List T} {vs : List V} (h : Reps K H ts vs) : vs = [] ↔ ts = [] := by
  have := h.length
  constructor
  · rintro rfl; simpa using this
  · rintro rfl; simpa using this.symm
theorem s_add (hK : ∀ i, (G i).K = K) : OpS G K (binaryOp .Add) gAdd := by
  intro H x y v u τ Q e rx ry hq
  unfold gAdd at e
  split at e
  · cases e
    exact ⟨_, fun i => op_add, _, _, rep_int.mp rx, rep_int.mp ry, hq _ H (Same.refl H) (rep_int.mpr rfl)⟩
  · split at e
    · rename_i c
      cases e
      exact ⟨_, fun i => op_add_str, _, _, rep_str.mp rx, rep_str.mp ry, c, hq _ H (Same.refl H) (rep_str.mpr rfl)⟩
    · cases e
  · split at e
    · rename_i c
      cases e
      obtain ⟨a, vs, rfl, ea, ra⟩ := rep_lst.mp rx
      obtain ⟨b, ws, rfl, eb, rb⟩ := rep_lst.mp ry
      refine ⟨_, fun i => op_cat, a, b, vs, ws, rfl, rfl, ea, eb, by rw [← ra.length, ← rb.length]; exact c, fun p np => ?_⟩
      exact hq _ _ (same_upd' np) (rep_lst.mpr ⟨p, _, rfl, upd_same, (ra.append rb).same (same_upd' np)⟩)
    · cases e
  · split at e
    · rename_i c
      cases e
      obtain ⟨a, vs, rfl, ea, ra⟩ := rep_tup.mp rx
      obtain ⟨b, ws, rfl, eb, rb⟩ := rep_tup.mp ry
      refine ⟨rCatA K, fun i => by rw [← hK i]; exact op_catA, a, b, vs, ws, rfl, rfl, ea, eb, by rw [← ra.length, ← rb.length]; exact c, fun h1 => ?_, fun _ h2 => ?_, fun h1 h2 p np => ?_⟩
      · have z := ra.nil_iff.mp h1
        subst z
        exact hq _ _ (Same.refl H) ry
      · have z := rb.nil_iff.mp h2
        subst z
        rw [List.append_nil] at hq
        exact hq _ _ (Same.refl H) rx
      · exact hq _ _ (same_upd' np) (rep_tup.mpr ⟨p, _, rfl, .inl (.inl upd_same), (ra.append rb).same (same_upd' np)⟩)
    · cases e
  · cases e
/-- a new list xs + ys -/
def gCat (x y : T) : Option T := match x, y with
  | .lst i, .lst j => if i.length + j.length ≤ sizeLine then some (.lst (i ++ j)) else none
  | _, _ => none
theorem evf_cat {a b : Expr} {da db : Env' → Option T} {pos : Pos} (ha : EV G K a da) (hb : EV G K b db) : EVF G K (.BinOp a .Add b pos) (fun ρ => b2 gCat (da ρ) (db ρ)) := by
  intro ρ σ H τ Q he hd hq
  obtain ⟨x, y, ea, eb, eg⟩ := b2_some hd
  unfold gCat at eg
  split at eg
  · rename_i i j
    split at eg
    · rename_i c
      cases eg
      refine ⟨_, fun i => pe_op op_cat (pe_ts i) (pe_ts i), ?_⟩
      refine ha ρ σ H _ _ he ea fun v H1 s1 r1 => hb ρ σ H1 _ _ (he.same s1) eb fun u H2 s2 r2 => ?_
      obtain ⟨a, vs, rfl, ea, ra⟩ := rep_lst.mp (r1.same s2)
      obtain ⟨b, ws, rfl, eb, rb⟩ := rep_lst.mp r2
      refine ⟨a, b, vs, ws, rfl, rfl, ea, eb, by rw [← ra.length, ← rb.length]; exact c, fun p np => ?_⟩
      exact hq p _ _ ((s1.trans s2).trans (same_upd' np)) (s1.free (s2.free np)) upd_same (.inl ⟨_, _, rfl, rfl, (ra.append rb).same (same_upd' np)⟩)
    · cases eg
  · cases eg
def un1 (f : Int → Int) (o : Option T) : Option T := match o with
  | some (.int i) => some (.int (f i))
  | _ => none
theorem ev_neg {a : Expr} {da : Env' → Option T} {pos : Pos} (ha : EV G K a da) : EV G K (.UnaryOp .USub a pos) (fun ρ => un1 (fun i => -i) (da ρ)) := by
  intro ρ σ H τ Q he hd hq
  dsimp only at hd
  unfold un1 at hd
  split at hd
  · rename_i i e
    cases hd
    refine ⟨_, fun i => pe_un un_neg (pe_ts i), ?_⟩
    exact ha ρ σ H _ _ he e fun v H1 s1 r1 => ⟨i, rep_int.mp r1, hq _ _ s1 (rep_int.mpr rfl)⟩
  · cases hd

/-! ### comparisons -/
def strLt (i j : Str) : Bool := decide (i.cps.toList < j.cps.toList)
def gLt (x y : T) : Option T := match x, y with
  | .int i, .int j => some (.bl (decide (i < j)))
  | .str i, .str j => some (.bl (strLt i j))
  | _, _ => none
def gLe (x y : T) : Option T := match x, y with
  | .int i, .int j => some (.bl (decide (i ≤ j)))
  | .str i, .str j => some (.bl (!strLt j i))
  | _, _ => none
abbrev gGt := gIb fun i j => decide (j < i)
abbrev gGe := gIb fun i j => decide (j ≤ i)
theorem s_lt : OpS G K (compareOp .Lt) gLt := by
  intro H x y v u τ Q e rx ry hq
  unfold gLt at e
  split at e
  · cases e
    exact ⟨_, fun i => op_lt, _, _, rep_int.mp rx, rep_int.mp ry, hq _ H (Same.refl H) (rep_bl.mpr rfl)⟩
  · cases e
    exact ⟨_, fun i => op_lt_str, _, _, rep_str.mp rx, rep_str.mp ry, hq _ H (Same.refl H) (rep_bl.mpr rfl)⟩
  · cases e
theorem s_le : OpS G K (compareOp .LtE) gLe := by
  intro H x y v u τ Q e rx ry hq
  unfold gLe at e
  split at e
  · cases e
    exact ⟨_, fun i => op_le, _, _, rep_int.mp rx, rep_int.mp ry, hq _ H (Same.refl H) (rep_bl.mpr rfl)⟩
  · cases e
    exact ⟨_, fun i => op_le_str, _, _, rep_str.mp rx, rep_str.mp ry, hq _ H (Same.refl H) (rep_bl.mpr rfl)⟩
  · cases e
theorem s_gt : OpS G K (compareOp .Gt) gGt := opS_Ib fun _ => op_gt
theorem s_ge : OpS G K (compareOp .GtE) gGe := opS_Ib fun _ => op_ge
def rawOk : T → Bool
  | .raw .non => false
  | _ => true
def isNonT : T → Bool
  | .non => true
  | _ => false
theorem isN_rep {H : Hp} {x : T} {v : V} (h : Rep K H x v) (hr : rawOk x = true) : decide (v = .non) = isNonT x := by
  cases x with
  | non => cases rep_non.mp h; rfl
  | bl b => cases rep_bl.mp h; rfl
  | int b => cases rep_int.mp h; rfl
  | str b => cases rep_str.mp h; rfl
  | raw b =>
    cases rep_raw.mp h
    cases v <;> first | rfl | simp [rawOk] at hr
  | scr l => obtain ⟨a, vs, rfl, _⟩ := rep_scr.mp h; rfl
  | lst l => obtain ⟨a, vs, rfl, _⟩ := rep_lst.mp h; rfl
  | tup l => obtain ⟨a, vs, rfl, _⟩ := rep_tup.mp h; rfl
  | dic l => obtain ⟨a, vs, rfl, _⟩ := rep_dic.mp h; rfl
def gIs (neg : Bool) (x y : T) : Option T := match y with
  | .non => if rawOk x = true then some (.bl (xor neg (isNonT x))) else none
  | _ => none
theorem s_is : OpS G K (compareOp .Is) (gIs false) := by
  intro H x y v u τ Q e rx ry hq
  unfold gIs at e
  split at e
  · split at e
    · rename_i c
      cases e
      refine ⟨_, fun i => op_isN, rep_non.mp ry, ?_⟩
      rw [isN_rep rx c]
      exact hq _ H (Same.refl H) (rep_bl.mpr (by simp))
    · cases e
  · cases e
theorem s_isnot : OpS G K (compareOp .IsNot) (gIs true) := by
  intro H x y v u τ Q e rx ry hq
  unfold gIs at e
  split at e
  · split at e
    · rename_i c
      cases e
      refine ⟨_, fun i => op_notN, rep_non.mp ry, ?_⟩
      rw [isN_rep rx c]
      exact hq _ H (Same.refl H) (rep_bl.mpr (by simp))
    · cases e
  · cases e

/-! ### equality -/
mutual
def isD : T → Bool
  | .non => true | .bl _ => true | .int _ => true | .str _ => true
  | .lst ts => isDs ts | .tup ts => isDs ts
  | .raw _ => false | .scr _ => false | .dic _ => false
def isDs : List T → Bool
  | [] => true
  | t :: ts => isD t && isDs ts
end
mutual
def toD : T → PyData
  | .non => .none | .bl b => .bool b | .int i => .int i | .str x => .str x
  | .lst ts => .list (toDs ts) | .tup ts => .tuple (toDs ts)
  | .raw _ => .none | .scr _ => .none | .dic _ => .none
def toDs : List T → List PyData
  | [] => []
  | t :: ts => toD t :: toDs ts
end
section
variable {H : Hp}
mutual
theorem rep_dp : ∀ (t : T) (v : V), isD t = true → Rep K H t v → Dp K H v (toD t)
  | .non, _, _, h => by cases rep_non.mp h; exact .non
  | .bl b, _, _, h => by cases rep_bl.mp h; exact .bl b
  | .int b, _, _, h => by cases rep_int.mp h; exact .int b
  | .str b, _, _, h => by cases rep_str.mp h; exact .str b
  | .raw _, _, e, _ => by simp [isD] at e
  | .scr _, _, e, _ => by simp [isD] at e
  | .dic _, _, e, _ => by simp [isD] at e
  | .lst ts, v, e, h => by
    obtain ⟨a, vs, rfl, q, r⟩ := rep_lst.mp h
    exact .lst (.inl (.inl q)) (reps_dp ts vs (by simpa [isD] using e) r)
  | .tup ts, v, e, h => by
    obtain ⟨a, vs, rfl, q, r⟩ := rep_tup.mp h
    exact .tup q (reps_dp ts vs (by simpa [isD] using e) r)
theorem reps_dp : ∀ (t : List T) (v : List V), isDs t = true → Reps K H t v → DpAll K H v (toDs t)
  | [], v, _, h => by
    unfold Reps at h
    subst h
    exact .nil
  | t :: ts, v, e, h => by
    unfold Reps at h
    obtain ⟨x, r, rfl, h1, h2⟩ := h
    have e' : isD t = true ∧ isDs ts = true := by simpa [isDs] using e
    exact .cons (rep_dp t x e'.1 h1) (reps_dp ts r e'.2 h2)
end
end
/-- fit for == as data -/
def dOk (t : T) : Bool := isD t && SeqAt.shaped (toD t)
def eqT (x y : T) : Bool := PyData.eqv (toD x) (toD y)
def gEq (x y : T) : Option T := if (dOk x && dOk y) = true then some (.bl (eqT x y)) else none
def gNe (x y : T) : Option T := if (dOk x && dOk y) = true then some (.bl (!eqT x y)) else none
theorem s_eq (hG : Fm G K mg base P w N sc k) : OpS G K (compareOp .Eq) gEq := by
  intro H x y v u τ Q e rx ry hq
  unfold gEq at e
  split at e
  · rename_i c
    cases e
    simp only [dOk, Bool.and_eq_true] at c
    refine ⟨rEqD K, fun i => by rw [← hG.K i]; exact op_eqD (hG.room i).units, toD x, toD y, rep_dp x v c.1.1 rx, rep_dp y u c.2.1 ry, c.1.2, c.2.2, hq _ H (Same.refl H) (rep_bl.mpr rfl)⟩
  · cases e
theorem s_ne (hG : Fm G K mg base P w N sc k) : OpS G K (compareOp .NotEq) gNe := by
  intro H x y v u τ Q e rx ry hq
  unfold gNe at e
  split at e
  · rename_i c
    cases e
    simp only [dOk, Bool.and_eq_true] at c
    refine ⟨rNeD K, fun i => by rw [← hG.K i]; exact op_neD (hG.room i).units, toD x, toD y, rep_dp x v c.1.1 rx, rep_dp y u c.2.1 ry, c.1.2, c.2.2, hq _ H (Same.refl H) (rep_bl.mpr rfl)⟩
  · cases e
/-- types -/
def tys : List String := ["int", "str", "bool", "list", "tuple", "dict", "NoneType"]
theorem meta_of {n : String} (h : n ∈ tys) (s : Shared) : s.TypeIs (.type n) "type" := by
  simp only [tys, List.mem_cons, List.not_mem_nil, or_false] at h
  rcases h with rfl | rfl | rfl | rfl | rfl | rfl | rfl
  · exact PySem.TypeEq.meta_int s
  · exact PySem.TypeEq.meta_str s
  · exact PySem.TypeEq.meta_bool s
  · exact PySem.TypeEq.meta_list s
  · exact PySem.TypeEq.meta_tuple s
  · exact PySem.TypeEq.meta_dict s
  · exact PySem.TypeEq.meta_NoneType s
theorem op_eqTy {X : Cx} : OpR X (compareOp .Eq) (fun x y H Q => ∃ a b, x = .ty a ∧ y = .ty b ∧ a ∈ tys ∧ b ∈ tys ∧ Q (.bl (decide (a = b))) H) := by
  intro pins s σ H x y v u Q I rx ry h
  obtain ⟨a, b, rfl, rfl, ha, hb, q⟩ := h
  cases (show v = Value.type a from rx)
  cases (show u = Value.type b from ry)
  by_cases e : a = b
  · subst e
    exact PySem.TypeEq.eq_type_same (meta_of ha) ⟨.bl true, H, I, rfl, by simpa using q⟩
  · exact PySem.TypeEq.eq_type_other (meta_of ha) (meta_of hb) (by simpa using e) ⟨.bl false, H, I, rfl, by simpa [e] using q⟩
theorem op_neTy {X : Cx} (hE : OpR X (compareOp .NotEq) (fun x y H Q => ∃ a b, x = .ty a ∧ y = .ty b ∧ a ∈ tys ∧ b ∈ tys ∧ Q (.bl (!decide (a = b))) H)) : True := trivial
def gEqTy (x y : T) : Option T := match x, y with
  | .raw (.ty a), .raw (.ty b) => if a ∈ tys ∧ b ∈ tys then some (.bl (decide (a = b))) else none
  | _, _ => none
theorem s_eqTy : OpS G K (compareOp .Eq) gEqTy := by
  intro H x y v u τ Q e rx ry hq
  unfold gEqTy at e
  split at e
  · split at e
    · rename_i c
      cases e
      exact ⟨_, fun i => op_eqTy, _, _, rep_raw.mp rx, rep_raw.mp ry, c.1, c.2, hq _ H (Same.refl H) (rep_bl.mpr rfl)⟩
    · cases e
  · cases e
end DL
namespace DL
open PySem PySem.Spec PyProof.Rows L2
variable {ι : Type} {G : ι → Cx} {K : PySem.W.Frag} {mg : Str → Option Value} {base : Heap} {P : Program} {w : World} {N : List Str} {sc : Scope} {k : Nat}

theorem Fm.hu (hG : Fm G K mg base P w N sc k) (i : ι) : (G i).A.units + 1 < cLine := hu_of (hG.room i)

/-! ### items -/
theorem Reps.atI {H : Hp} {ts : List T} {vs : List V} {i : Int} {t : T} (h : Reps K H ts vs) (e : L2.atI ts i = some t) : ∃ v, L2.atI vs i = some v ∧ Rep K H t v := by
  unfold L2.atI at e ⊢
  rw [← h.length]
  cases q : ixN ts.length i with
  | none => rw [q] at e; cases e
  | some j =>
    rw [q] at e
    exact h.get e
def keyOf : T → Option Key
  | .int i => some (.inl i)
  | .str x => some (.inr x)
  | _ => none
theorem keyOf_rep {H : Hp} {t : T} {v : V} {ky : Key} (e : keyOf t = some ky) (h : Rep K H t v) : v = kV ky := by
  unfold keyOf at e
  split at e
  · cases e; exact rep_int.mp h
  · cases e; exact rep_str.mp h
  · cases e
def lookT : List (Key × T) → Key → Option T
  | [], _ => none
  | (k', t) :: r, ky => if k' = ky then some t else lookT r ky
theorem look_val {H : Hp} {ky : Key} : ∀ {kts : List (Key × T)} {kvs : List (Key × V)}, RepsK K H kts kvs → (∀ t, lookT kts ky = some t → ∃ v, valV kvs ky = some v ∧ Rep K H t v) ∧ (lookT kts ky = none → valV kvs ky = none)
  | [], kvs, h => by
    unfold RepsK at h
    subst h
    exact ⟨fun t e => (by cases e), fun _ => rfl⟩
  | (k', t') :: r, kvs, h => by
    unfold RepsK at h
    obtain ⟨v, kr, rfl, h1, h2⟩ := h
    have ih := look_val (ky := ky) h2
    unfold lookT
    by_cases e : k' = ky
    · rw [if_pos e]
      refine ⟨fun t q => ?_, fun q => by cases q⟩
      cases q
      exact ⟨v, valV_pos e, h1⟩
    · rw [if_neg e, valV_neg e]
      exact ih
def gSubs (x y : T) : Option T := match x, y with
  | .lst ts, .int i => atI ts i
  | .tup ts, .int i => atI ts i
  | .scr ts, .int i => atI ts i
  | .str z, .int i => if z.length ≤ sizeLine then (atI z.cps.toList i).map fun c => .str ⟨#[c]⟩ else none
  | .dic kts, y => (keyOf y).bind (lookT kts)
  | _, _ => none
variable {a b e : Expr} {da db de : Env' → Option T} {pos : Pos}
theorem ev_sub (hG : Fm G K mg base P w N sc k) (ha : EV G K a da) (hb : EV G K b db) (hs : PlainIx b := by intro _ _; rfl) : EV G K (.Subscript a b pos) (fun ρ => b2 gSubs (da ρ) (db ρ)) := by
  intro ρ σ H τ Q he hd hq
  obtain ⟨x, y, ea, eb, eg⟩ := b2_some hd
  unfold gSubs at eg
  have go : ∀ (r : R2), (∀ i, IxR (G i) r) → (∀ H2 v u, Rep K H2 x v → Rep K H2 y u → (∀ z H', Same H2 H' → Rep K H' τ z → Q z H') → r v u H2 Q) → ES G (.Subscript a b pos) σ H Q := by
    intro r hr h
    refine ⟨tOp r (ES G a) (ES G b), fun i => pe_ix (hr i) (pe_ts i) (pe_ts i) hs, ?_⟩
    refine ha ρ σ H x _ he ea fun v H1 s1 r1 => hb ρ σ H1 y _ (he.same s1) eb fun u H2 s2 r2 => ?_
    exact h H2 v u (r1.same s2) r2 fun z H' s3 r3 => hq z H' ((s1.trans s2).trans s3) r3
  split at eg
  · refine go (rIxL K) (fun i => by rw [← hG.K i]; exact ix_list) fun H2 v u rv ru h => ?_
    obtain ⟨p, vs, rfl, q, r⟩ := rep_lst.mp rv
    obtain ⟨z, e1, r1⟩ := r.atI eg
    exact ⟨p, vs, _, z, rfl, rep_int.mp ru, .inl (.inl q), e1, h z H2 (Same.refl H2) r1⟩
  · refine go (rIxT K) (fun i => by rw [← hG.K i]; exact ix_tup) fun H2 v u rv ru h => ?_
    obtain ⟨p, vs, rfl, q, r⟩ := rep_tup.mp rv
    obtain ⟨z, e1, r1⟩ := r.atI eg
    exact ⟨p, vs, _, z, rfl, rep_int.mp ru, q, e1, h z H2 (Same.refl H2) r1⟩
  · refine go (rIxL K) (fun i => by rw [← hG.K i]; exact ix_list) fun H2 v u rv ru h => ?_
    obtain ⟨p, vs, rfl, q, r⟩ := rep_scr.mp rv
    obtain ⟨z, e1, r1⟩ := r.atI eg
    exact ⟨p, vs, _, z, rfl, rep_int.mp ru, q, e1, h z H2 (Same.refl H2) r1⟩
  · split at eg
    · rename_i z i c
      refine go rIxS (fun i => ix_str) fun H2 v u rv ru h => ?_
      cases q : L2.atI z.cps.toList i with
      | none => rw [q] at eg; cases eg
      | some c' =>
        rw [q] at eg
        cases eg
        exact ⟨z, i, c', rep_str.mp rv, rep_int.mp ru, c, q, h _ H2 (Same.refl H2) (rep_str.mpr rfl)⟩
    · cases eg
  · rename_i kts
    cases q : keyOf y with
    | none => rw [q] at eg; cases eg
    | some ky =>
      rw [q] at eg
      refine ⟨tDGet (ES G a) (ES G b), fun i => pe_dget (hG.hu i) (pe_ts i) (pe_ts i) hs, ?_⟩
      refine ha ρ σ H _ _ he ea fun v H1 s1 r1 => hb ρ σ H1 _ _ (he.same s1) eb fun u H2 s2 r2 => ?_
      obtain ⟨p, kvs, rfl, hd, r⟩ := rep_dic.mp (r1.same s2)
      obtain ⟨z, e1, rz⟩ := (look_val r).1 _ eg
      refine ⟨p, z, rfl, .inl ⟨kvs, ky, hd, keyOf_rep q r2, e1.symm⟩, hq _ _ (s1.trans s2) rz⟩
  · cases eg

/-! ### slices -/
def PV (G : ι → Cx) (K : PySem.W.Frag) (e : Option Expr) (d : Env' → Option (Option Int)) : Prop :=
  ∀ ρ σ H o (Q : Option Int → Hp → Prop), EnvR K H σ ρ → d ρ = some o → (∀ H', Same H H' → Q o H') → (∃ t, (∀ i, PO (G i) e t) ∧ t σ H Q)
def OTs (G : ι → Cx) (e : Option Expr) : TO := fun σ H Q => ∃ t, (∀ i, PO (G i) e t) ∧ t σ H Q
theorem po_ot {e : Option Expr} (i : ι) : PO (G i) e (OTs G e) := ⟨fun pins s σ H Q I ⟨t, h, q⟩ => (h i).run pins s σ H Q I q⟩
theorem pv_none : PV G K none (fun _ => some none) := fun ρ σ H o Q he hd hq => by
  cases hd
  exact ⟨_, fun _ => po_none, hq H (Same.refl H)⟩
def asI : Option T → Option (Option Int)
  | some (.int i) => some (some i)
  | _ => none
theorem pv_some (h : EV G K e de) : PV G K (some e) (fun ρ => asI (de ρ)) := fun ρ σ H o Q he hd hq => by
  dsimp only at hd
  unfold asI at hd
  split at hd
  · rename_i i e1
    cases hd
    exact ⟨_, fun j => po_some (pe_ts j), h ρ σ H _ _ he e1 fun v H1 s r => ⟨i, rep_int.mp r, hq H1 s⟩⟩
  · cases hd
def cutT (xs : List T) (lo hi : Option Int) : List T := (xs.drop (HT.sIx xs.length 0 lo)).take (HT.sIx xs.length xs.length hi - HT.sIx xs.length 0 lo)
theorem Reps.drop {H : Hp} {ts : List T} {vs : List V} (h : Reps K H ts vs) : ∀ n, Reps K H (ts.drop n) (vs.drop n) := by
  rw [Reps.paired] at h
  induction h with
  | nil => intro n; simpa using Reps.nil
  | cons h1 h2 ih =>
    intro n
    cases n with
    | zero => exact .cons h1 (Reps.paired.mpr h2)
    | succ n => exact ih n
theorem Reps.take {H : Hp} {ts : List T} {vs : List V} (h : Reps K H ts vs) : ∀ n, Reps K H (ts.take n) (vs.take n) := by
  rw [Reps.paired] at h
  induction h with
  | nil => intro n; simpa using Reps.nil
  | cons h1 h2 ih =>
    intro n
    cases n with
    | zero => exact .nil
    | succ n => exact .cons h1 (ih n)
theorem Reps.cut {H : Hp} {ts : List T} {vs : List V} (h : Reps K H ts vs) (lo hi : Option Int) : Reps K H (cutT ts lo hi) (cutV vs lo hi) := by
  unfold cutT cutV
  rw [← h.length]
  exact (h.drop _).take _
def b3 {α : Type} (f : T → Option Int → Option Int → Option α) (a : Option T) (l h : Option (Option Int)) : Option α := match a, l, h with
  | some x, some l, some h => f x l h
  | _, _, _ => none
theorem b3_some {α : Type} {f : T → Option Int → Option Int → Option α} {a : Option T} {l h : Option (Option Int)} {τ : α} (q : b3 f a l h = some τ) : ∃ x i j, a = some x ∧ l = some i ∧ h = some j ∧ f x i j = some τ := by
  cases a with
  | none => cases q
  | some x => cases l with
    | none => cases q
    | some i => cases h with
      | none => cases q
      | some j => exact ⟨x, i, j, rfl, rfl, rfl, q⟩
@[simp] theorem b3_mk {α : Type} {f : T → Option Int → Option Int → Option α} {x : T} {i j : Option Int} : b3 f (some x) (some i) (some j) = f x i j := rfl
variable {lo hi : Option Expr} {dl dh : Env' → Option (Option Int)} {p2 : Pos}
theorem sl_go {r : V → Option Int → Option Int → Hp → VK → Prop} (hr : ∀ i, SlR (G i) r) (ha : EV G K a da) (hl : PV G K lo dl) (hh : PV G K hi dh) {ρ : Env'} {σ : St} {H : Hp} {x : T} {i j : Option Int} {Q : VK} (he : EnvR K H σ ρ) (ea : da ρ = some x) (el : dl ρ = some i) (eh : dh ρ = some j)
    (h : ∀ H' v, Same H H' → Rep K H' x v → r v i j H' Q) : ES G (.Subscript a (.Slice lo hi none p2) pos) σ H Q := by
  refine ⟨tSl r (ES G a) (OTs G lo) (OTs G hi), fun i => pe_slice (hr i) (pe_ts i) (po_ot i) (po_ot i), ?_⟩
  refine ha ρ σ H x _ he ea fun v H1 s1 r1 => ?_
  refine hl ρ σ H1 i _ (he.same s1) el fun H2 s2 => ?_
  refine hh ρ σ H2 j _ (he.same (s1.trans s2)) eh fun H3 s3 => ?_
  exact h H3 v ((s1.trans s2).trans s3) (r1.same (s2.trans s3))
def gSlL (x : T) (lo hi : Option Int) : Option T := match x with
  | .lst ts => some (.lst (cutT ts lo hi))
  | .scr ts => some (.lst (cutT ts lo hi))
  | _ => none
/-- a new list xs[lo:hi] -/
theorem evf_slice (hK : ∀ i, (G i).K = K) (ha : EV G K a da) (hl : PV G K lo dl) (hh : PV G K hi dh) : EVF G K (.Subscript a (.Slice lo hi none p2) pos) (fun ρ => b3 gSlL (da ρ) (dl ρ) (dh ρ)) := by
  intro ρ σ H τ Q he hd hq
  obtain ⟨x, i, j, ea, el, eh, eg⟩ := b3_some hd
  refine sl_go (r := rSlL K) (fun i => by rw [← hK i]; exact sl_list) ha hl hh he ea el eh fun H' v s r => ?_
  unfold gSlL at eg
  split at eg
  · cases eg
    obtain ⟨p, vs, rfl, q, rr⟩ := rep_lst.mp r
    refine ⟨p, vs, rfl, .inl (.inl q), fun p' np => hq p' _ _ (s.trans (same_upd' np)) (s.free np) upd_same (.inl ⟨_, _, rfl, rfl, (rr.cut i j).same (same_upd' np)⟩)⟩
  · cases eg
    obtain ⟨p, vs, rfl, q, rr⟩ := rep_scr.mp r
    refine ⟨p, vs, rfl, q, fun p' np => hq p' _ _ (s.trans (same_upd' np)) (s.free np) upd_same (.inl ⟨_, _, rfl, rfl, (rr.cut i j).same (same_upd' np)⟩)⟩
  · cases eg
def gSl (x : T) (lo hi : Option Int) : Option T := match x with
  | .str z => if z.length ≤ sizeLine then some (.str (cutS z lo hi)) else none
  | .tup ts => some (.tup (cutT ts lo hi))
  | _ => none
theorem sIx_le' (n d : Nat) (hd : d ≤ n) (o : Option Int) : HT.sIx n d o ≤ n := HT.sIx_le n d hd o
/-- a text's or a tuple's slice, also the whole one -/
def rSlA (K : PySem.W.Frag) : V → Option Int → Option Int → Hp → VK → Prop := fun x lo hi H Q => ∃ a xs, x = .ref a ∧ SqT K H a xs ∧
  ((¬ (HT.sIx xs.length 0 lo = 0 ∧ HT.sIx xs.length xs.length hi = xs.length) ∧ ∀ p, H p = none → Q (.ref p) (upd H p (.tup (cutV xs lo hi)))) ∨ ((HT.sIx xs.length 0 lo = 0 ∧ HT.sIx xs.length xs.length hi = xs.length) ∧ Q (.ref a) H))
theorem ev_slice (hK : ∀ i, (G i).K = K) (ha : EV G K a da) (hl : PV G K lo dl) (hh : PV G K hi dh) (hA : ∀ i, SlR (G i) (rSlA (G i).K)) : EV G K (.Subscript a (.Slice lo hi none p2) pos) (fun ρ => b3 gSl (da ρ) (dl ρ) (dh ρ)) := by
  intro ρ σ H τ Q he hd hq
  obtain ⟨x, i, j, ea, el, eh, eg⟩ := b3_some hd
  unfold gSl at eg
  split at eg
  · split at eg
    · rename_i z c
      cases eg
      refine sl_go (r := rSlS) (fun i => sl_str) ha hl hh he ea el eh fun H' v s r => ?_
      exact ⟨z, rep_str.mp r, c, hq _ H' s (rep_str.mpr rfl)⟩
    · cases eg
  · rename_i ts
    cases eg
    refine sl_go (r := rSlA K) (fun i => by rw [← hK i]; exact hA i) ha hl hh he ea el eh fun H' v s r => ?_
    obtain ⟨p, vs, rfl, q, rr⟩ := rep_tup.mp r
    refine ⟨p, vs, rfl, q, ?_⟩
    by_cases c : HT.sIx vs.length 0 i = 0 ∧ HT.sIx vs.length vs.length j = vs.length
    · refine .inr ⟨c, hq _ H' s ?_⟩
      have e : cutT ts i j = ts := by
        unfold cutT
        rw [rr.length, c.1, c.2, List.drop_zero, Nat.sub_zero, ← rr.length, List.take_length]
      rw [e]
      exact r
    · exact .inl ⟨c, fun p' np => hq _ _ (s.trans (same_upd' np)) (rep_tup.mpr ⟨p', _, rfl, .inl (.inl upd_same), (rr.cut i j).same (same_upd' np)⟩)⟩
  · cases eg
/-- xs[::-1], a new list -/
def revD (o : Option T) : Option T := match o with
  | some (.lst ts) => some (.lst ts.reverse)
  | _ => none
theorem Reps.reverse {H : Hp} {ts : List T} {vs : List V} (h : Reps K H ts vs) : Reps K H ts.reverse vs.reverse := by
  rw [Reps.paired] at h
  induction h with
  | nil => exact .nil
  | cons h1 h2 ih =>
    rw [List.reverse_cons, List.reverse_cons]
    exact ih.snoc h1
theorem evf_rev (hK : ∀ i, (G i).K = K) {j : Nat} {p1 p3 : Pos} (ha : EV G K a da) : EVF G K (.Subscript a (.Slice none none (some (.UnaryOp .USub (.Constant (.int 1) j p1) p2)) p3) pos) (fun ρ => revD (da ρ)) := by
  intro ρ σ H τ Q he hd hq
  dsimp only at hd
  unfold revD at hd
  split at hd
  · rename_i ts e1
    cases hd
    refine ⟨tRevL K (ES G a), fun i => by rw [← hK i]; exact pe_revL (pe_ts i), ?_⟩
    refine ha ρ σ H _ _ he e1 fun v H1 s1 r1 => ?_
    obtain ⟨p, vs, rfl, q, rr⟩ := rep_lst.mp r1
    exact ⟨p, vs, rfl, .inl (.inl q), fun p' np => hq p' _ _ (s1.trans (same_upd' np)) (s1.free np) upd_same (.inl ⟨_, _, rfl, rfl, rr.reverse.same (same_upd' np)⟩)⟩
  · cases hd

/-! ### calls of built-ins -/
def CLS (G : ι → Cx) (f : Value) : List V → Hp → VK → Prop := fun xs H Q => ∃ r, (∀ i, CallR (G i) f r) ∧ r xs H Q
theorem cr_cls {f : Value} (i : ι) : CallR (G i) f (CLS G f) := fun pins s σ H xs us Q I rv ⟨r, h, q⟩ => h i pins s σ H xs us Q I rv q
/-- f is worth g -/
def ClS (G : ι → Cx) (K : PySem.W.Frag) (f : Value) (g : List T → Option T) : Prop :=
  ∀ H ts vs τ Q, g ts = some τ → Reps K H ts vs → (∀ z H', Same H H' → Rep K H' τ z → Q z H') → CLS G f vs H Q
/-- .. a new list or dict -/
def ClF (G : ι → Cx) (K : PySem.W.Frag) (f : Value) (g : List T → Option T) : Prop :=
  ∀ H ts vs τ Q, g ts = some τ → Reps K H ts vs → (∀ p o H', Same H H' → H p = none → H' p = some o → FrO K H' τ o → Q (.ref p) H') → CLS G f vs H Q
variable {x : Str} {p : Pos} {es : List Expr} {dr : Env' → Option (List T)} {id T' : String} {g : List T → Option T}
theorem ev_bltF (hG : Fm G K mg base P w N sc k) (hc : ClS G K (.builtin id) g) (hm : mg x = none) (ha : AV G K (e :: es) dr) (hv : bootBuiltins x = some (.builtin id) := by decide +kernel) (hg : glB sc x = true := by rfl) (hn : x ≠ "__name__" := by decide) (hdb : (x == ("__debug__" : Str)) = false := by decide)
    (he : ∀ i, starEach (e :: es) (G i).env = (false, eval e (G i).env) :: starEach es (G i).env := by intro _; rfl) (hpl : ∀ i, (backTo pos (starEach es (G i).env)).any (·.1) = false := by intro _; rfl) :
    EV G K (.Call (.Name x p) (e :: es) [] pos) (fun ρ => (dr ρ).bind g) := by
  intro ρ σ H τ Q hE hd hq
  dsimp only at hd
  cases e1 : dr ρ with
  | none => rw [e1] at hd; cases hd
  | some ts =>
    rw [e1] at hd
    refine ⟨tCB (CLS G (.builtin id)) (TAs G (e :: es)), fun i => pe_callB (cr_cls i) (gl_of hG hg i) (by rw [hG.mg i]; exact hm) hv (pa_ts i) hn hdb (he i) (hpl i), ?_⟩
    exact ha.2 ρ σ H ts _ hE e1 fun vs H1 s1 r => hc H1 ts vs τ Q hd r fun z H' s2 r2 => hq z H' (s1.trans s2) r2
theorem ev_bltT (hG : Fm G K mg base P w N sc k) (hc : ClS G K (.type T') g) (hm : mg x = none) (ha : AV G K (e :: es) dr) (hv : bootBuiltins x = some (.type T') := by decide +kernel) (hg : glB sc x = true := by rfl) (hn : x ≠ "__name__" := by decide) (hdb : (x == ("__debug__" : Str)) = false := by decide)
    (he : ∀ i, starEach (e :: es) (G i).env = (false, eval e (G i).env) :: starEach es (G i).env := by intro _; rfl) (hpl : ∀ i, (backTo pos (starEach es (G i).env)).any (·.1) = false := by intro _; rfl) :
    EV G K (.Call (.Name x p) (e :: es) [] pos) (fun ρ => (dr ρ).bind g) := by
  intro ρ σ H τ Q hE hd hq
  dsimp only at hd
  cases e1 : dr ρ with
  | none => rw [e1] at hd; cases hd
  | some ts =>
    rw [e1] at hd
    refine ⟨tCB (CLS G (.type T')) (TAs G (e :: es)), fun i => pe_callTy (cr_cls i) (gl_of hG hg i) (by rw [hG.mg i]; exact hm) hv (pa_ts i) hn hdb (he i) (hpl i), ?_⟩
    exact ha.2 ρ σ H ts _ hE e1 fun vs H1 s1 r => hc H1 ts vs τ Q hd r fun z H' s2 r2 => hq z H' (s1.trans s2) r2
theorem evf_bltF (hG : Fm G K mg base P w N sc k) (hc : ClF G K (.builtin id) g) (hm : mg x = none) (ha : AV G K (e :: es) dr) (hv : bootBuiltins x = some (.builtin id) := by decide +kernel) (hg : glB sc x = true := by rfl) (hn : x ≠ "__name__" := by decide) (hdb : (x == ("__debug__" : Str)) = false := by decide)
    (he : ∀ i, starEach (e :: es) (G i).env = (false, eval e (G i).env) :: starEach es (G i).env := by intro _; rfl) (hpl : ∀ i, (backTo pos (starEach es (G i).env)).any (·.1) = false := by intro _; rfl) :
    EVF G K (.Call (.Name x p) (e :: es) [] pos) (fun ρ => (dr ρ).bind g) := by
  intro ρ σ H τ Q hE hd hq
  dsimp only at hd
  cases e1 : dr ρ with
  | none => rw [e1] at hd; cases hd
  | some ts =>
    rw [e1] at hd
    refine ⟨tCB (CLS G (.builtin id)) (TAs G (e :: es)), fun i => pe_callB (cr_cls i) (gl_of hG hg i) (by rw [hG.mg i]; exact hm) hv (pa_ts i) hn hdb (he i) (hpl i), ?_⟩
    exact ha.2 ρ σ H ts _ hE e1 fun vs H1 s1 r => hc H1 ts vs τ Q hd r fun p o H' s2 np ep f => hq p o H' (s1.trans s2) (s1.free np) ep f
theorem evf_bltT (hG : Fm G K mg base P w N sc k) (hc : ClF G K (.type T') g) (hm : mg x = none) (ha : AV G K (e :: es) dr) (hv : bootBuiltins x = some (.type T') := by decide +kernel) (hg : glB sc x = true := by rfl) (hn : x ≠ "__name__" := by decide) (hdb : (x == ("__debug__" : Str)) = false := by decide)
    (he : ∀ i, starEach (e :: es) (G i).env = (false, eval e (G i).env) :: starEach es (G i).env := by intro _; rfl) (hpl : ∀ i, (backTo pos (starEach es (G i).env)).any (·.1) = false := by intro _; rfl) :
    EVF G K (.Call (.Name x p) (e :: es) [] pos) (fun ρ => (dr ρ).bind g) := by
  intro ρ σ H τ Q hE hd hq
  dsimp only at hd
  cases e1 : dr ρ with
  | none => rw [e1] at hd; cases hd
  | some ts =>
    rw [e1] at hd
    refine ⟨tCB (CLS G (.type T')) (TAs G (e :: es)), fun i => pe_callTy (cr_cls i) (gl_of hG hg i) (by rw [hG.mg i]; exact hm) hv (pa_ts i) hn hdb (he i) (hpl i), ?_⟩
    exact ha.2 ρ σ H ts _ hE e1 fun vs H1 s1 r => hc H1 ts vs τ Q hd r fun p o H' s2 np ep f => hq p o H' (s1.trans s2) (s1.free np) ep f
theorem reps1 {H : Hp} {t : T} {vs : List V} (h : Reps K H [t] vs) : ∃ v, vs = [v] ∧ Rep K H t v := by
  unfold Reps at h
  obtain ⟨v, r, rfl, h1, h2⟩ := h
  unfold Reps at h2
  subst h2
  exact ⟨v, rfl, h1⟩
theorem reps2 {H : Hp} {t u : T} {vs : List V} (h : Reps K H [t, u] vs) : ∃ v z, vs = [v, z] ∧ Rep K H t v ∧ Rep K H u z := by
  unfold Reps at h
  obtain ⟨v, r, rfl, h1, h2⟩ := h
  obtain ⟨z, rfl, h3⟩ := reps1 h2
  exact ⟨v, z, rfl, h1, h3⟩
/-- len -/
def gLen : List T → Option T
  | [.lst ts] => some (.int ts.length) | [.tup ts] => some (.int ts.length) | [.scr ts] => some (.int ts.length) | [.dic ts] => some (.int ts.length)
  | [.str x] => if x.length ≤ sizeLine then some (.int x.length) else none
  | _ => none
theorem call_lenRd {X : Cx} : CallR X (.builtin "len") (fun xs H Q => ∃ a kvs, xs = [V.ref a] ∧ Rd H a (.dK kvs) ∧ Q (.int kvs.length) H) := by
  intro pins s σ H xs us Q I r h
  obtain ⟨a, kvs, rfl, ha, q⟩ := h
  obtain ⟨u, rfl, ru⟩ := vals1 r
  cases ru
  exact d_len I ha fun t s' I' => ⟨.int kvs.length, H, I', ⟨t, rfl⟩, q⟩
theorem c_len (hK : ∀ i, (G i).K = K) : ClS G K (.builtin "len") gLen := by
  intro H ts vs τ Q e r hq
  have seq : ∀ {v : V} {n : Nat}, (∃ p ys, v = .ref p ∧ (SqL K H p ys ∨ SqT K H p ys) ∧ ys.length = n) → (∀ z H', Same H H' → Rep K H' (.int n) z → Q z H') → CLS G (.builtin "len") [v] H Q := by
    rintro v n ⟨p, ys, rfl, h1, h2⟩ hq
    refine ⟨fun xs H Q => ∃ p ys, xs = [.ref p] ∧ (SqL K H p ys ∨ SqT K H p ys) ∧ Q (.int ys.length) H, fun i => by rw [← hK i]; exact call_len_seq, p, ys, rfl, h1, hq _ H (Same.refl H) (rep_int.mpr (by rw [h2]))⟩
  unfold gLen at e
  split at e
  · cases e
    obtain ⟨v, rfl, rv⟩ := reps1 r
    obtain ⟨a, ys, rfl, q, rr⟩ := rep_lst.mp rv
    exact seq ⟨a, ys, rfl, .inl (.inl (.inl q)), rr.length.symm⟩ hq
  · cases e
    obtain ⟨v, rfl, rv⟩ := reps1 r
    obtain ⟨a, ys, rfl, q, rr⟩ := rep_tup.mp rv
    exact seq ⟨a, ys, rfl, .inr q, rr.length.symm⟩ hq
  · cases e
    obtain ⟨v, rfl, rv⟩ := reps1 r
    obtain ⟨a, ys, rfl, q, rr⟩ := rep_scr.mp rv
    exact seq ⟨a, ys, rfl, .inl q, rr.length.symm⟩ hq
  · cases e
    obtain ⟨v, rfl, rv⟩ := reps1 r
    obtain ⟨a, ys, rfl, q, rr⟩ := rep_dic.mp rv
    exact ⟨_, fun i => call_lenRd, a, ys, rfl, q, hq _ H (Same.refl H) (rep_int.mpr (by rw [rr.length]))⟩
  · split at e
    · rename_i z c
      cases e
      obtain ⟨v, rfl, rv⟩ := reps1 r
      cases rep_str.mp rv
      exact ⟨_, fun i => call_len_str, z, rfl, c, hq _ H (Same.refl H) (rep_int.mpr rfl)⟩
    · cases e
  · cases e
def gMin : List T → Option T
  | [.int i, .int j] => some (.int (if j < i then j else i))
  | _ => none
def gMax : List T → Option T
  | [.int i, .int j] => some (.int (if j > i then j else i))
  | _ => none
theorem c_min (hG : Fm G K mg base P w N sc k) : ClS G K (.builtin "min") gMin := by
  intro H ts vs τ Q e r hq
  unfold gMin at e
  split at e
  · cases e
    obtain ⟨v, z, rfl, r1, r2⟩ := reps2 r
    cases rep_int.mp r1
    cases rep_int.mp r2
    exact ⟨_, fun i => call_min2 (hG.calm i), _, _, rfl, hq _ H (Same.refl H) (rep_int.mpr rfl)⟩
  · cases e
theorem c_max (hG : Fm G K mg base P w N sc k) : ClS G K (.builtin "max") gMax := by
  intro H ts vs τ Q e r hq
  unfold gMax at e
  split at e
  · cases e
    obtain ⟨v, z, rfl, r1, r2⟩ := reps2 r
    cases rep_int.mp r1
    cases rep_int.mp r2
    exact ⟨_, fun i => call_max2 (hG.calm i), _, _, rfl, hq _ H (Same.refl H) (rep_int.mpr rfl)⟩
  · cases e
def gInt : List T → Option T
  | [.int i] => some (.int i)
  | [.bl b] => some (.int (if b then 1 else 0))
  | _ => none
theorem c_int : ClS G K (.type "int") gInt := by
  intro H ts vs τ Q e r hq
  unfold gInt at e
  split at e
  · cases e
    obtain ⟨v, rfl, r1⟩ := reps1 r
    cases rep_int.mp r1
    exact ⟨_, fun i => call_int1, .inl ⟨_, rfl, hq _ H (Same.refl H) (rep_int.mpr rfl)⟩⟩
  · cases e
    obtain ⟨v, rfl, r1⟩ := reps1 r
    cases rep_bl.mp r1
    exact ⟨_, fun i => call_int1, .inr ⟨_, rfl, hq _ H (Same.refl H) (rep_int.mpr rfl)⟩⟩
  · cases e
/-- all([..]) -/
def blsOf : List T → Option (List Bool)
  | [] => some []
  | .bl b :: ts => (blsOf ts).map (b :: ·)
  | _ => none
theorem blsOf_rep {H : Hp} : ∀ {ts : List T} {vs : List V} {bs : List Bool}, blsOf ts = some bs → Reps K H ts vs → vs = bs.map V.bl
  | [], vs, bs, e, h => by
    cases e
    unfold Reps at h
    subst h; rfl
  | t :: ts, vs, bs, e, h => by
    unfold blsOf at e
    split at e
    · cases e; rename_i q; cases q
    · rename_i b ts' q
      cases q
      cases e2 : blsOf ts with
      | none => rw [e2] at e; cases e
      | some bs' =>
        rw [e2] at e
        cases e
        unfold Reps at h
        obtain ⟨v, r, rfl, h1, h2⟩ := h
        rw [rep_bl.mp h1, blsOf_rep e2 h2]
        rfl
    · cases e
def gAll : List T → Option T
  | [.lst ts] => (blsOf ts).map fun bs => .bl (bs.all _root_.id)
  | _ => none
theorem c_all (hG : Fm G K mg base P w N sc k) : ClS G K (.builtin "all") gAll := by
  intro H ts vs τ Q e r hq
  unfold gAll at e
  split at e
  · rename_i l
    cases e2 : blsOf l with
    | none => rw [e2] at e; cases e
    | some bs =>
      rw [e2] at e
      cases e
      obtain ⟨v, rfl, rv⟩ := reps1 r
      obtain ⟨a, ys, rfl, q, rr⟩ := rep_lst.mp rv
      have := blsOf_rep e2 rr
      subst this
      exact ⟨rAll K, fun i => by rw [← hG.K i]; exact cr_all (hG.calm i), a, bs, rfl, .inl (.inl q), hq _ H (Same.refl H) (rep_bl.mpr rfl)⟩
  · cases e
/-- list(xs), list(t) -/
def gList : List T → Option T
  | [.lst ts] => some (.lst ts) | [.tup ts] => some (.lst ts) | [.scr ts] => some (.lst ts)
  | _ => none
theorem c_list (hK : ∀ i, (G i).K = K) : ClF G K (.type "list") gList := by
  intro H ts vs τ Q e r hq
  have seq : ∀ {v : V} {us : List T}, (∃ p ys, v = .ref p ∧ (SqL K H p ys ∨ SqT K H p ys) ∧ Reps K H us ys) → (∀ p o H', Same H H' → H p = none → H' p = some o → FrO K H' (.lst us) o → Q (.ref p) H') → CLS G (.type "list") [v] H Q := by
    rintro v us ⟨p, ys, rfl, h1, h2⟩ hq
    refine ⟨fun xs H Q => ∃ p ys, xs = [.ref p] ∧ (SqL K H p ys ∨ SqT K H p ys) ∧ ∀ l, H l = none → Q (.ref l) (upd H l (.lst ys)), fun i => by rw [← hK i]; exact call_list_of, p, ys, rfl, h1, fun l nl => hq l _ _ (same_upd' nl) nl upd_same (.inl ⟨_, _, rfl, rfl, h2.same (same_upd' nl)⟩)⟩
  unfold gList at e
  split at e
  · cases e
    obtain ⟨v, rfl, rv⟩ := reps1 r
    obtain ⟨a, ys, rfl, q, rr⟩ := rep_lst.mp rv
    exact seq ⟨a, ys, rfl, .inl (.inl (.inl q)), rr⟩ hq
  · cases e
    obtain ⟨v, rfl, rv⟩ := reps1 r
    obtain ⟨a, ys, rfl, q, rr⟩ := rep_tup.mp rv
    exact seq ⟨a, ys, rfl, .inr q, rr⟩ hq
  · cases e
    obtain ⟨v, rfl, rv⟩ := reps1 r
    obtain ⟨a, ys, rfl, q, rr⟩ := rep_scr.mp rv
    exact seq ⟨a, ys, rfl, .inl q, rr⟩ hq
  · cases e
end DL
namespace DL
open PySem PySem.Spec PyProof.Rows L2
variable {ι : Type} {G : ι → Cx} {K : PySem.W.Frag} {mg : Str → Option Value} {base : Heap} {P : Program} {w : World} {N : List Str} {sc : Scope} {k : Nat}

/-! ### sorting ints -/
def insI (x : Int) : List Int → List Int
  | [] => [x]
  | y :: ys => if x ≤ y then x :: y :: ys else y :: insI x ys
def sortI : List Int → List Int
  | [] => []
  | x :: xs => insI x (sortI xs)
theorem insI_perm (x : Int) : ∀ ys : List Int, (insI x ys).Perm (x :: ys)
  | [] => .refl _
  | y :: ys => by
    unfold insI
    split
    · exact .refl _
    · exact ((insI_perm x ys).cons y).trans (.swap x y ys)
theorem insI_mem {x z : Int} {ys : List Int} (h : z ∈ insI x ys) : z = x ∨ z ∈ ys := by
  have := (insI_perm x ys).mem_iff.mp h
  simpa using this
theorem insI_ord (x : Int) : ∀ ys : List Int, ys.Pairwise (· ≤ ·) → (insI x ys).Pairwise (· ≤ ·)
  | [], _ => by simp [insI]
  | y :: ys, h => by
    unfold insI
    rw [List.pairwise_cons] at h
    split
    · rename_i c
      refine List.pairwise_cons.mpr ⟨fun z hz => ?_, List.pairwise_cons.mpr h⟩
      rcases List.mem_cons.mp hz with rfl | hz
      · exact c
      · exact Int.le_trans c (h.1 z hz)
    · rename_i c
      refine List.pairwise_cons.mpr ⟨fun z hz => ?_, insI_ord x ys h.2⟩
      rcases insI_mem hz with rfl | hz
      · omega
      · exact h.1 z hz
theorem sortI_perm : ∀ xs : List Int, (sortI xs).Perm xs
  | [] => .refl _
  | x :: xs => (insI_perm x _).trans ((sortI_perm xs).cons x)
theorem sortI_ord : ∀ xs : List Int, (sortI xs).Pairwise (· ≤ ·)
  | [] => .nil
  | x :: xs => insI_ord x _ (sortI_ord xs)
theorem sortI_eq {xs ys : List Int} (p : ys.Perm xs) (o : ys.Pairwise (· ≤ ·)) : ys = sortI xs := PySem.W.ksm_same (p.trans (sortI_perm xs).symm) o (sortI_ord xs)
theorem sortR_eq {xs ys : List Int} (p : ys.Perm xs) (o : ys.Pairwise (· ≥ ·)) : ys = (sortI xs).reverse := by
  have h : ys.reverse = sortI xs := sortI_eq ((List.reverse_perm ys).trans p) (by rw [List.pairwise_reverse]; exact o)
  rw [← h, List.reverse_reverse]
def intsOf : List T → Option (List Int)
  | [] => some []
  | .int b :: ts => (intsOf ts).map (b :: ·)
  | _ => none
theorem intsOf_rep {H : Hp} : ∀ {ts : List T} {vs : List V} {bs : List Int}, intsOf ts = some bs → Reps K H ts vs → vs = bs.map V.int
  | [], vs, bs, e, h => by
    cases e
    unfold Reps at h
    subst h; rfl
  | t :: ts, vs, bs, e, h => by
    unfold intsOf at e
    split at e
    · cases e; rename_i q; cases q
    · rename_i b ts' q
      cases q
      cases e2 : intsOf ts with
      | none => rw [e2] at e; cases e
      | some bs' =>
        rw [e2] at e
        cases e
        unfold Reps at h
        obtain ⟨v, r, rfl, h1, h2⟩ := h
        rw [rep_int.mp h1, intsOf_rep e2 h2]
        rfl
    · cases e
theorem intsOf_map (ns : List Int) : intsOf (ns.map T.int) = some ns := by
  induction ns with
  | nil => rfl
  | cons n ns ih => simp [intsOf, ih]
theorem reps_ints {H : Hp} : ∀ (ns : List Int), Reps K H (ns.map T.int) (ns.map V.int)
  | [] => .nil
  | n :: ns => .cons (rep_int.mpr rfl) (reps_ints ns)
def keysI : List (Key × T) → Option (List Int)
  | [] => some []
  | (.inl b, _) :: ts => (keysI ts).map (b :: ·)
  | _ => none
theorem keysI_rep {H : Hp} : ∀ {ts : List (Key × T)} {vs : List (Key × V)} {bs : List Int}, keysI ts = some bs → RepsK K H ts vs → vs.map (·.1) = bs.map Sum.inl
  | [], vs, bs, e, h => by
    cases e
    unfold RepsK at h
    subst h; rfl
  | (ky, t) :: ts, vs, bs, e, h => by
    unfold keysI at e
    split at e
    · cases e; rename_i q; cases q
    · rename_i b t' ts' q
      cases q
      cases e2 : keysI ts with
      | none => rw [e2] at e; cases e
      | some bs' =>
        rw [e2] at e
        cases e
        unfold RepsK at h
        obtain ⟨v, r, rfl, h1, h2⟩ := h
        rw [List.map_cons, List.map_cons, keysI_rep e2 h2]
    · cases e
def gSorted : List T → Option T
  | [.lst ts] => (intsOf ts).map fun ns => .lst ((sortI ns).map T.int)
  | [.dic kts] => (keysI kts).bind fun ns => if ns.length < 64 then some (.lst ((sortI ns).map T.int)) else none
  | _ => none
theorem c_sorted (hG : Fm G K mg base P w N sc k) : ClF G K (.builtin "sorted") gSorted := by
  intro H ts vs τ Q e r hq
  unfold gSorted at e
  split at e
  · rename_i l
    cases e2 : intsOf l with
    | none => rw [e2] at e; cases e
    | some ns =>
      rw [e2] at e
      cases e
      obtain ⟨v, rfl, rv⟩ := reps1 r
      obtain ⟨a, ys, rfl, q, rr⟩ := rep_lst.mp rv
      have := intsOf_rep e2 rr
      subst this
      refine ⟨rSortedI K, fun i => by rw [← hG.K i]; exact cr_sortedI, a, ns, rfl, .inl (.inl q), fun ns' p h1 h2 np => ?_⟩
      rw [sortI_eq h1 h2]
      exact hq p _ _ (same_upd' np) np upd_same (.inl ⟨_, _, rfl, rfl, reps_ints _⟩)
  · rename_i l
    cases e2 : keysI l with
    | none => rw [e2] at e; cases e
    | some ns =>
      rw [e2] at e
      dsimp only [Option.bind] at e
      split at e
      · rename_i h64
        cases e
        obtain ⟨v, rfl, rv⟩ := reps1 r
        obtain ⟨a, ys, rfl, q, rr⟩ := rep_dic.mp rv
        refine ⟨_, fun i => call_sortedDI (hG.calm i), a, ys, ns, rfl, q, keysI_rep e2 rr, h64, fun ns' p h1 h2 np => ?_⟩
        rw [sortI_eq h1 h2]
        exact hq p _ _ (same_upd' np) np upd_same (.inl ⟨_, _, rfl, rfl, reps_ints _⟩)
      · cases e
  · cases e
/-- sorted(d, reverse=True) of a dict of int keys -/
theorem call_sortedDR {X : Cx} (hcalm : X.calm = true) {b : Bool} : CallRK X (.builtin "sorted") [Str.ofString "reverse"] (fun xs zs H Q => ∃ (a : Addr) (kvs : List (Key × V)) (ks : List Int), xs = [.ref a] ∧ zs = [.bl b] ∧ Rd H a (.dK kvs) ∧ kvs.map (·.1) = ks.map Sum.inl ∧ ks.length < 64 ∧
    ∀ (ys : List Int) (p : Addr), ys.Perm ks → OrdB b ys → H p = none → Q (.ref p) (upd H p (.lst (ys.map V.int)))) := by
  intro pins s σ H xs zs us ws Q I r rz q
  obtain ⟨a, kvs, ks, ex, ez, hd, hks, h64, q⟩ := q
  subst ex
  subst ez
  obtain ⟨u, eu, rx⟩ := vals1 r
  subst eu
  cases rx
  obtain ⟨w1, ew, rw1⟩ := vals1 rz
  subst ew
  cases (show w1 = Value.bool b from rw1)
  obtain ⟨z, lo, vs, rel, dd⟩ := dk_rd I.hok hd
  obtain ⟨ep, hat⟩ := dd.dictAt
  have hkeys : vs.map (·.1) = ks.map Sum.inl := rel.keys.symm.trans hks
  have hl : vs.length = ks.length := by
    have e := congrArg List.length hkeys
    rw [List.length_map, List.length_map] at e
    exact e
  have h16 : vs.length ≤ sizeLine := by rw [hl, sizeLine_eq]; omega
  show wpAny (model X.prog X.w) X.A (call (.builtin "sorted") [.ref a] [(Str.ofString "reverse", .bool b)]) _ _ _
  refine call_function_entry_kw PyProof.Rows.kind_sorted PyProof.Rows.plain_sorted PyProof.Rows.entry_sorted (PyProof.Rows.args_sorted_rev _ _) ?_
  unfold Builtin.«sorted»
  refine wpAny_bind (m := checkCount "sorted" 1 1 _) (wpAny_pure ?_)
  refine wpAny_bind (PySem.W.kdu_collect (A := X.A.in1) (PySem.W.kdl_dict (knd := mixKind X.prog X.w) (kvs := vs) (ep := ep) lo) (I.ok.hd hcalm) hat h16 fun h' tk acc hk hacc => ?_)
  have hal : acc.toList.length = ks.length := by rw [Array.length_toList, hacc.1, hl]
  have hS : IntsAre acc.toList ks := ints_each hal fun j v e => by
    obtain ⟨k, x, e1, e2⟩ := hacc.2 j v (by rw [← Array.getElem?_toList]; exact e)
    have e3 : (vs.map (·.1))[j]? = some k := by rw [List.getElem?_map, e1]; rfl
    rw [hkeys, List.getElem?_map] at e3
    cases e4 : ks[j]? with
    | none => rw [e4] at e3; cases e3
    | some y =>
      rw [e4] at e3
      have e5 : Sum.inl y = k := Option.some.inj e3
      subst e5
      rcases keyIs_shape (show keyIs (Sum.inl y) v = true from e2) with ⟨i, t, ek, ev⟩ | ⟨z, t, ek, ev⟩
      · cases ek
        exact ⟨y, t, rfl, ev⟩
      · cases ek
  have I1 : Inv X pins σ H { s with heap := h', toks := tk } := I.kept hk
  have hsl : acc.toList.length ≤ sizeLine := by rw [hal, sizeLine_eq]; omega
  refine wpAny_bind (wpAny_newList ?_ hsl)
  have hoL : (h'.push (seqObj "list" acc.toList.toArray 0)).get? h'.objs.size = some (seqObj "list" acc.toList.toArray 0) := Heap.get?_push_size _ rfl
  show wpAny _ _ _ _ _ { s with heap := h'.push (seqObj "list" acc.toList.toArray 0), toks := tk }
  refine wpAny_bind (wpAny_holding (wpAny_call_entry_kw PyProof.Rows.slot_list_sort ⟨_, hoL, rfl⟩ PyProof.Rows.entry_list_sort ?_ (PyProof.Rows.args_list_sort_rev _ _)))
  refine SrtR.list_sort_ordR (s := { s with heap := h'.push (seqObj "list" acc.toList.toArray 0), toks := tk }) SrtO.swo_int hoL hsl (fun h2 => SrtO.ints_sortable hS h2) fun out h1 h2 => ⟨_, rfl, ?_⟩
  obtain ⟨ns', k1, k2, k3⟩ := SrtR.ints_outR hS h1 h2
  obtain ⟨e', he'⟩ := PyProof.Rows.sortedHeap_at (vs := acc.toList) (out := (if b = true then out.toArray.reverse else out.toArray)) hoL
  have hlen : (ns'.map V.int).length ≤ sizeLine := by
    rw [List.length_map, k2.length_eq]
    exact Nat.le_trans (Nat.le_of_lt h64) (by decide)
  refine wpAny_pure ⟨_, rfl, .ref h'.objs.size, upd H h'.objs.size (.lst (ns'.map V.int)), I1.laid (t' := tk) (fun b' u e => ?_) (Nat.le_refl _)
    (show ObjOk X.prog X.w _ _ _ (.lst (ns'.map V.int)) from ⟨hlen, (if b = true then out.toArray.reverse else out.toArray).toList, e', vals_of_ints k1, by rw [Array.toArray_toList]; exact he'⟩), rfl, q ns' _ k2 k3 (I1.hok.fresh (Nat.le_refl _))⟩
  have hb : b' < h'.objs.size := Heap.lt_size e
  rw [PyProof.Rows.sortedHeap_old (Nat.ne_of_lt hb) (by rw [size_push']; exact Nat.lt_succ_of_lt hb)]
  exact Heap.get?_push_of_some _ e
end DL
namespace DL
open PySem PySem.Spec PyProof.Rows L2
variable {ι : Type} {G : ι → Cx} {K : PySem.W.Frag} {mg : Str → Option Value} {base : Heap} {P : Program} {w : World} {N : List Str} {sc : Scope} {k : Nat}
variable {fr : Bool} {ow ow' owl : List Nat}
variable {a b c e : Expr} {da db dc de : Env' → Option T} {pos : Pos} {x : Str} {p : Pos} {es : List Expr} {dr : Env' → Option (List T)}

/-! ### sorted(.., reverse=True) -/
def gSortedR : List T → Option T
  | [.dic kts] => (keysI kts).bind fun ns => if ns.length < 64 then some (.lst ((sortI ns).reverse.map T.int)) else none
  | [.lst ts] => (intsOf ts).map fun ns => .lst ((sortI ns).reverse.map T.int)
  | _ => none
theorem evf_sortedR (hG : Fm G K mg base P w N sc k) {kp : Pos} {j : Nat} {kpos : Pos} (hm : mg "sorted" = none) (ha : EV G K e de) (hg : glB sc "sorted" = true := by rfl)
    (he : ∀ i, backTo pos (starEach [e] (G i).env) = (false, eval e (G i).env) :: backTo pos (starEach [] (G i).env) := by intro _; rfl) (hpl : ∀ i, (backTo pos (starEach [e] (G i).env)).any (·.1) = false := by intro _; rfl)
    (hs1 : ∀ i, starEach [e] (G i).env = (false, eval e (G i).env) :: starEach [] (G i).env := by intro _; rfl)
    (hall : ∀ i, (backToKw pos (keywordEach [⟨some "reverse", .Constant (.bool true) j kp, kpos⟩] (G i).env)).all (·.1.isSome) = true := by intro _; rfl) (hnone : ∀ i, (backToKw pos (keywordEach [⟨some "reverse", .Constant (.bool true) j kp, kpos⟩] (G i).env)).any (·.1.isNone) = false := by intro _; rfl) (hks : ∀ i, (backToKw pos (keywordEach [⟨some "reverse", .Constant (.bool true) j kp, kpos⟩] (G i).env)).filterMap (·.1) = [Str.ofString "reverse"] := by intro _; rfl) :
    EVF G K (.Call (.Name "sorted" p) [e] [⟨some "reverse", .Constant (.bool true) j kp, kpos⟩] pos) (fun ρ => (de ρ).bind fun t => gSortedR [t]) := by
  intro ρ σ H τ Q hE hd hq
  dsimp only at hd
  cases e1 : de ρ with
  | none => rw [e1] at hd; cases hd
  | some t =>
    rw [e1] at hd
    dsimp only [Option.bind] at hd
    unfold gSortedR at hd
    split at hd
    · rename_i kts heq
      cases heq
      cases e2 : keysI kts with
      | none => rw [e2] at hd; cases hd
      | some ns =>
        rw [e2] at hd
        dsimp only [Option.bind] at hd
        split at hd
        · rename_i h64
          cases hd
          refine ⟨_, fun i => pe_callBK (call_sortedDR (hG.calm i) (b := true)) (gl_of hG hg i) (by rw [hG.mg i]; exact hm) (by decide +kernel) (pa_cons (pe_ts i) pa_nil (hs1 i)) (pk_cons pe_bl pk_nil) (by decide) (by decide) (he i) (hpl i) (hall i) (hnone i) (hks i), ?_⟩
          refine ha ρ σ H _ _ hE e1 fun v H1 s1 r1 => ?_
          obtain ⟨q, kvs, rfl, hrd, rr⟩ := rep_dic.mp r1
          refine ⟨q, kvs, ns, rfl, rfl, hrd, keysI_rep e2 rr, h64, fun ys p' h1 h2 np => ?_⟩
          rw [sortR_eq h1 h2]
          exact hq p' _ _ (s1.trans (same_upd' np)) (s1.free np) upd_same (.inl ⟨_, _, rfl, rfl, reps_ints _⟩)
        · cases hd
    · rename_i l heq
      cases heq
      cases e2 : intsOf l with
      | none => rw [e2] at hd; cases hd
      | some ns =>
        rw [e2] at hd
        cases hd
        refine ⟨tCKw (rSortedKw K true [.bl true]) (tCons (ES G e) tNil) (tCons (tC (.bl true)) tNil), fun i => by
          rw [← hG.K i]
          exact pe_callBK (cr_sortedRev (b := true)) (gl_of hG hg i) (by rw [hG.mg i]; exact hm) (by decide +kernel) (pa_cons (pe_ts i) pa_nil (hs1 i)) (pk_cons pe_bl pk_nil) (by decide) (by decide) (he i) (hpl i) (hall i) (hnone i) (hks i), ?_⟩
        refine ha ρ σ H _ _ hE e1 fun v H1 s1 r1 => ?_
        obtain ⟨q, vs, rfl, hl, rr⟩ := rep_lst.mp r1
        have := intsOf_rep e2 rr
        subst this
        refine ⟨q, ns, rfl, rfl, .inl (.inl hl), fun ys p' h1 h2 np => ?_⟩
        rw [sortR_eq h1 h2]
        exact hq p' _ _ (s1.trans (same_upd' np)) (s1.free np) upd_same (.inl ⟨_, _, rfl, rfl, reps_ints _⟩)
    · cases hd

/-! ### isinstance, type -/
def tyN : T → Option String
  | .non => some "NoneType" | .bl _ => some "bool" | .int _ => some "int" | .str _ => some "str"
  | .lst _ => some "list" | .tup _ => some "tuple" | .dic _ => some "dict" | .scr _ => some "list" | .raw _ => none
theorem tyX_rep {H : Hp} {t : T} {n : String} {v : V} (e : tyN t = some n) (r : Rep K H t v) : TyX K H v (.type n) := by
  cases t with
  | non => cases e; cases rep_non.mp r; exact .base .non
  | bl b => cases e; cases rep_bl.mp r; exact .base (.bl b)
  | int i => cases e; cases rep_int.mp r; exact .base (.int i)
  | str x => cases e; cases rep_str.mp r; exact .base (.str x)
  | raw v => cases e
  | lst ts =>
    cases e
    obtain ⟨a, vs, rfl, q, _⟩ := rep_lst.mp r
    exact .base (.lst q)
  | scr ts =>
    cases e
    obtain ⟨a, vs, rfl, q, _⟩ := rep_scr.mp r
    rcases q with (q | ⟨o, q⟩) | ⟨o, its, n, hk, hc, _⟩
    · exact .base (.lst q)
    · exact .base (.frz q)
    · exact .kList hk hc
  | tup ts =>
    cases e
    obtain ⟨a, vs, rfl, q, _⟩ := rep_tup.mp r
    rcases q with (q | ⟨o, q⟩) | ⟨o, its, n, hk, hc, _⟩
    · exact .base (.tup q)
    · exact .fTuple q
    · exact .kTuple hk hc
  | dic ts =>
    cases e
    obtain ⟨a, vs, rfl, q, _⟩ := rep_dic.mp r
    rcases q with q | ⟨o, q⟩
    · exact .base (.dK q)
    · exact .fDict q
/-- what isinstance says of built-in types -/
def isiB (n m : String) : Option Bool := kitB n m
def gIsi : List T → Option T
  | [t, .raw (.ty m)] => (tyN t).bind fun n => (kitB n m).map T.bl
  | _ => none
theorem c_isi (hK : ∀ i, (G i).K = K) : ClS G K (.builtin "isinstance") gIsi := by
  intro H ts vs τ Q e r hq
  unfold gIsi at e
  split at e
  · rename_i t m
    cases e1 : tyN t with
    | none => rw [e1] at e; cases e
    | some n =>
      rw [e1] at e
      dsimp only [Option.bind] at e
      cases e2 : kitB n m with
      | none => rw [e2] at e; cases e
      | some bb =>
        rw [e2] at e
        cases e
        obtain ⟨v, z, rfl, r1, r2⟩ := reps2 r
        cases rep_raw.mp r2
        exact ⟨rIsi K, fun i => by rw [← hK i]; exact call_isi, v, _, _, _, bb, rfl, .ty m, tyX_rep e1 r1, kit_ty e2, hq _ H (Same.refl H) (rep_bl.mpr rfl)⟩
  · cases e
theorem call_typeOfX {X : Cx} : CallR X (.type "type") (fun xs H Q => ∃ (v : V) (n : String), xs = [v] ∧ TyX X.K H v (.type n) ∧ (∀ (u : Value) (s : Shared), TyX X.K H v (.type n) → True) ∧ n ∈ tys ∧ (∀ (pins : List (Addr × Obj)) (s : Shared) (σ : St) (u : Value), Inv X pins σ H s → RelV v u → s.TypeIs u n) ∧ Q (.ty n) H) := by
  intro pins s σ H xs us Q I r h
  obtain ⟨v, n, rfl, _, _, hn, ht, q⟩ := h
  obtain ⟨u, rfl, rx⟩ := vals1 r
  refine call_type_of (ht pins s σ u I rx) ?_ ⟨.ty n, H, I, rfl, q⟩
  simp only [tys, List.mem_cons, List.not_mem_nil, or_false] at hn
  rcases hn with rfl | rfl | rfl | rfl | rfl | rfl | rfl <;> decide +kernel
theorem tyIs_rep (hK : ∀ i, (G i).K = K) {H : Hp} {t : T} {n : String} {v : V} (e : tyN t = some n) (r : Rep K H t v) (i : ι) {pins : List (Addr × Obj)} {s : Shared} {σ : St} {u : Value} (I : Inv (G i) pins σ H s) (rv : RelV v u) : s.TypeIs u n := by
  cases t with
  | non => cases e; cases rep_non.mp r; cases rv; rfl
  | bl b => cases e; cases rep_bl.mp r; cases rv; rfl
  | int j => cases e; cases rep_int.mp r; obtain ⟨t, rfl⟩ := rv; rfl
  | str x => cases e; cases rep_str.mp r; obtain ⟨t, rfl⟩ := rv; rfl
  | raw v => cases e
  | lst ts =>
    cases e
    obtain ⟨a, vs, rfl, q, _⟩ := rep_lst.mp r
    cases rv
    obtain ⟨its, rv, p, _⟩ := I.list (.inl (.inl q))
    exact p.isList.typeIs
  | scr ts =>
    cases e
    obtain ⟨a, vs, rfl, q, _⟩ := rep_scr.mp r
    cases rv
    rw [← hK i] at q
    obtain ⟨its, rv, p, _⟩ := I.list q
    exact p.isList.typeIs
  | tup ts =>
    cases e
    obtain ⟨a, vs, rfl, q, _⟩ := rep_tup.mp r
    cases rv
    rw [← hK i] at q
    obtain ⟨its, rv, p, _⟩ := I.tuple q
    exact p.typeIs
  | dic ts =>
    cases e
    obtain ⟨a, vs, rfl, q, _⟩ := rep_dic.mp r
    cases rv
    obtain ⟨_, _, _, _, dd⟩ := dk_rd I.hok q
    exact dd.typeIs
theorem tyN_tys {t : T} {n : String} (e : tyN t = some n) : n ∈ tys := by
  cases t <;> cases e <;> decide
def gType : List T → Option T
  | [t] => (tyN t).map fun n => .raw (.ty n)
  | _ => none
theorem c_type (hK : ∀ i, (G i).K = K) : ClS G K (.type "type") gType := by
  intro H ts vs τ Q e r hq
  unfold gType at e
  split at e
  · rename_i t
    cases e1 : tyN t with
    | none => rw [e1] at e; cases e
    | some n =>
      rw [e1] at e
      cases e
      obtain ⟨v, rfl, r1⟩ := reps1 r
      refine ⟨fun xs H' Q => xs = [v] ∧ H' = H ∧ Q (.ty n) H', fun i => ?_, rfl, rfl, hq _ H (Same.refl H) (rep_raw.mpr rfl)⟩
      rintro pins s σ H' xs us Q I rv ⟨rfl, rfl, q⟩
      obtain ⟨u, rfl, rx⟩ := vals1 rv
      refine call_type_of (tyIs_rep hK e1 r1 i I rx) ?_ ⟨.ty n, H', I, rfl, q⟩
      have hn := tyN_tys e1
      simp only [tys, List.mem_cons, List.not_mem_nil, or_false] at hn
      rcases hn with rfl | rfl | rfl | rfl | rfl | rfl | rfl <;> decide +kernel
  · cases e

/-! ### dicts -/
def putT : List (Key × T) → Key → T → List (Key × T)
  | [], ky, t => [(ky, t)]
  | (k', t') :: r, ky, t => if k' = ky then (ky, t) :: r else (k', t') :: putT r ky t
def mergeT (kts more : List (Key × T)) : List (Key × T) := more.foldl (fun acc kv => putT acc kv.1 kv.2) kts
/-- {} -/
theorem evf_dict0 : EVF G K (.Dict [] [] pos) (fun _ => some (.dic [])) := by
  intro ρ σ H τ Q hE hd hq
  cases hd
  refine ⟨_, fun i => pe_dnewK, fun p np => hq p _ _ (same_upd' np) np upd_same (.inr ⟨[], [], rfl, rfl, by unfold RepsK; rfl⟩)⟩
/-- dict(d) -/
theorem call_dictD {X : Cx} : CallR X (.type "dict") (fun xs H Q => ∃ a kvs, xs = [V.ref a] ∧ Rd H a (.dK kvs) ∧ ∀ p, H p = none → Q (.ref p) (upd H p (.dK kvs))) := by
  intro pins s σ H xs us Q I r h
  obtain ⟨a, kvs, rfl, ha, q⟩ := h
  obtain ⟨u, rfl, ru⟩ := vals1 r
  cases ru
  exact d_copyOf I ha fun p s' np I' => ⟨.ref p, _, I', rfl, q p np⟩
def pairsT : List T → Option (List (Key × T))
  | [] => some []
  | .tup [ky, t] :: r => match keyOf ky, pairsT r with
    | some y, some ys => some ((y, t) :: ys)
    | _, _ => none
  | _ => none
def gDict : List T → Option T
  | [.dic kts] => some (.dic kts)
  | [.lst ts] => (pairsT ts).map fun ps => .dic (mergeT [] ps)
  | _ => none
theorem putT_rep {H : Hp} {ky : Key} {t : T} {v : V} (rv : Rep K H t v) : ∀ {kts : List (Key × T)} {kvs : List (Key × V)}, RepsK K H kts kvs → (kts.map (·.1)).Nodup → RepsK K H (putT kts ky t) (putK kvs ky v) := by
  intro kts
  induction kts with
  | nil =>
    intro kvs h _
    unfold RepsK at h
    subst h
    show RepsK K H [(ky, t)] (putK [] ky v)
    have : putK ([] : List (Key × V)) ky v = [(ky, v)] := by simp [putK]
    rw [this]
    unfold RepsK
    exact ⟨v, [], rfl, rv, by unfold RepsK; rfl⟩
  | cons q r ih =>
    intro kvs h hn
    obtain ⟨k', t'⟩ := q
    unfold RepsK at h
    obtain ⟨v', kr, rfl, h1, h2⟩ := h
    rw [List.map_cons, List.nodup_cons] at hn
    have keys : ∀ {kts : List (Key × T)} {kvs : List (Key × V)}, RepsK K H kts kvs → kts.map (·.1) = kvs.map (·.1) := by
      intro kts
      induction kts with
      | nil => intro kvs h; unfold RepsK at h; subst h; rfl
      | cons q r ih =>
        intro kvs h
        obtain ⟨k2, t2⟩ := q
        unfold RepsK at h
        obtain ⟨v2, kr2, rfl, _, h4⟩ := h
        rw [List.map_cons, List.map_cons, ih h4]
    unfold putT
    by_cases e : k' = ky
    · subst e
      rw [if_pos rfl]
      have hno : ∀ kv ∈ kr, ¬ kv.1 = k' := by
        intro kv hkv e
        apply hn.1
        rw [keys h2, ← e]
        exact List.mem_map_of_mem hkv
      have : putK ((k', v') :: kr) k' v = (k', v) :: kr := by
        unfold putK
        simp only [List.any_cons, decide_true, Bool.true_or, if_true, List.map_cons]
        congr 1
        rw [List.map_congr_left (g := fun kv => kv)]
        · simp
        · intro kv hkv
          rw [if_neg (hno kv hkv)]
      rw [this]
      unfold RepsK
      exact ⟨v, kr, rfl, rv, h2⟩
    · rw [if_neg e]
      have : putK ((k', v') :: kr) ky v = (k', v') :: putK kr ky v := by
        unfold putK
        simp only [List.any_cons, e, decide_false, Bool.false_or, List.map_cons, if_false]
        split <;> rfl
      rw [this]
      unfold RepsK
      exact ⟨v', _, rfl, h1, ih h2 hn.2⟩
theorem putT_keys {ky : Key} {t : T} : ∀ {kts : List (Key × T)}, (kts.map (·.1)).Nodup → ((putT kts ky t).map (·.1)).Nodup ∧ ∀ z, z ∈ (putT kts ky t).map (·.1) → z = ky ∨ z ∈ kts.map (·.1)
  | [], _ => by simp [putT]
  | (k', t') :: r, h => by
    rw [List.map_cons, List.nodup_cons] at h
    unfold putT
    by_cases e : k' = ky
    · subst e
      rw [if_pos rfl]
      refine ⟨?_, fun z hz => ?_⟩
      · rw [List.map_cons, List.nodup_cons]; exact h
      · rw [List.map_cons, List.mem_cons] at hz ⊢
        exact .inr hz
    · rw [if_neg e]
      obtain ⟨i1, i2⟩ := putT_keys (ky := ky) (t := t) h.2
      refine ⟨?_, fun z hz => ?_⟩
      · rw [List.map_cons, List.nodup_cons]
        refine ⟨fun m => ?_, i1⟩
        rcases i2 _ m with q | q
        · exact e q
        · exact h.1 q
      · rw [List.map_cons, List.mem_cons] at hz ⊢
        rcases hz with hz | hz
        · exact .inr (.inl hz)
        · rcases i2 z hz with q | q
          · exact .inl q
          · exact .inr (.inr q)
theorem mergeT_rep {H : Hp} : ∀ {more : List (Key × T)} {mvs : List (Key × V)} {kts : List (Key × T)} {kvs : List (Key × V)}, RepsK K H more mvs → RepsK K H kts kvs → (kts.map (·.1)).Nodup → RepsK K H (mergeT kts more) (mergeK kvs mvs)
  | [], mvs, kts, kvs, hm, h, _ => by
    unfold RepsK at hm
    subst hm
    exact h
  | (ky, t) :: r, mvs, kts, kvs, hm, h, hn => by
    unfold RepsK at hm
    obtain ⟨v, mr, rfl, h1, h2⟩ := hm
    show RepsK K H (mergeT (putT kts ky t) r) (mergeK (putK kvs ky v) mr)
    exact mergeT_rep h2 (putT_rep h1 h hn) (putT_keys hn).1
theorem pairs_rep {H : Hp} : ∀ {ts : List T} {ps : List (Key × T)} {vs : List V}, pairsT ts = some ps → Reps K H ts vs → ∃ (as : List Addr) (kvs : List (Key × V)), vs = as.map V.ref ∧ Paired (fun p kv => SqT K H p [kV kv.1, kv.2]) as kvs ∧ RepsK K H ps kvs
  | [], ps, vs, e, h => by
    cases e
    unfold Reps at h
    subst h
    exact ⟨[], [], rfl, .nil, by unfold RepsK; rfl⟩
  | t :: ts, ps, vs, e, h => by
    unfold pairsT at e
    split at e
    · rename_i q; cases q
    · rename_i ky t' r q
      cases q
      split at e
      · rename_i y ys e1 e2
        cases e
        unfold Reps at h
        obtain ⟨v, vr, rfl, h1, h2⟩ := h
        obtain ⟨as, kvs, rfl, hp, hk⟩ := pairs_rep e2 h2
        obtain ⟨a, us, rfl, hq, hu⟩ := rep_tup.mp h1
        obtain ⟨u1, u2, rfl, r1, r2⟩ := reps2 hu
        have := keyOf_rep e1 r1
        subst this
        refine ⟨a :: as, (y, u2) :: kvs, rfl, .cons hq hp, ?_⟩
        unfold RepsK
        exact ⟨u2, kvs, rfl, r2, hk⟩
      · cases e
    · cases e
theorem c_dict (hG : Fm G K mg base P w N sc k) : ClF G K (.type "dict") gDict := by
  intro H ts vs τ Q e r hq
  unfold gDict at e
  split at e
  · rename_i kts
    cases e
    obtain ⟨v, rfl, rv⟩ := reps1 r
    obtain ⟨a, kvs, rfl, q, rr⟩ := rep_dic.mp rv
    exact ⟨_, fun i => call_dictD, a, kvs, rfl, q, fun p np => hq p _ _ (same_upd' np) np upd_same (.inr ⟨_, _, rfl, rfl, rr.same (same_upd' np)⟩)⟩
  · rename_i l
    cases e1 : pairsT l with
    | none => rw [e1] at e; cases e
    | some ps =>
      rw [e1] at e
      cases e
      obtain ⟨v, rfl, rv⟩ := reps1 r
      obtain ⟨a, vs, rfl, q, rr⟩ := rep_lst.mp rv
      obtain ⟨as, kvs, rfl, hp, hk⟩ := pairs_rep e1 rr
      refine ⟨fun xs H Q => ∃ (a : Addr) (ps : List Addr) (kvs : List (Key × V)), xs = [.ref a] ∧ SqL K H a (ps.map V.ref) ∧ Paired (fun p kv => SqT K H p [kV kv.1, kv.2]) ps kvs ∧
        ∀ p, H p = none → Q (.ref p) (upd H p (.dK (mergeK [] kvs))), fun i => by rw [← hG.K i]; exact call_dictP (hG.calm i), a, as, kvs, rfl, .inl (.inl q), hp, fun p np => ?_⟩
      refine hq p _ _ (same_upd' np) np upd_same (.inr ⟨_, _, rfl, rfl, ?_⟩)
      exact (mergeT_rep (hk.same (same_upd' np)) (by unfold RepsK; rfl) .nil)
  · cases e
/-- d.get(k, z) -/
def gGet (x y z : Option T) : Option T := match x, y, z with
  | some (.dic kts), some y, some z => (keyOf y).map fun ky => (lookT kts ky).getD z
  | _, _, _ => none
theorem ev_get (hG : Fm G K mg base P w N sc k) {apos cpos : Pos} (ha : EV G K a da) (hb : EV G K b db) (hc : EV G K c dc) (m : ∀ i, M2 (G i) a "get" apos b c cpos := by intro _; exact ⟨rfl, rfl, rfl, rfl⟩) :
    EV G K (.Call (.Attribute a "get" apos) [b, c] [] cpos) (fun ρ => gGet (da ρ) (db ρ) (dc ρ)) := by
  intro ρ σ H τ Q hE hd hq
  dsimp only at hd
  unfold gGet at hd
  split at hd
  · rename_i kts y z e1 e2 e3
    cases e4 : keyOf y with
    | none => rw [e4] at hd; cases hd
    | some ky =>
      rw [e4] at hd
      cases hd
      refine ⟨tDGet2 (ES G a) (ES G b) (ES G c), fun i => pe_dget2 (hG.hu i) (pe_ts i) (pe_ts i) (pe_ts i) (m i), ?_⟩
      refine ha ρ σ H _ _ hE e1 fun v H1 s1 r1 => ?_
      obtain ⟨q, kvs, rfl, hrd, rr⟩ := rep_dic.mp r1
      refine ⟨q, rfl, .inl ⟨kvs, hrd⟩, hb ρ σ H1 _ _ (hE.same s1) e2 fun u H2 s2 r2 => hc ρ σ H2 _ _ (hE.same (s1.trans s2)) e3 fun z' H3 s3 r3 => ?_⟩
      have rr3 := rr.same (s2.trans s3)
      refine ⟨valV kvs ky, .inl ⟨kvs, ky, same_rd (s2.trans s3) hrd, keyOf_rep e4 r2, rfl⟩, ?_⟩
      cases e5 : lookT kts ky with
      | none =>
        rw [(look_val rr3).2 e5]
        refine hq _ _ ((s1.trans s2).trans s3) ?_
        dsimp only
        rw [e5]
        exact r3
      | some t =>
        obtain ⟨v, ev, rv⟩ := (look_val rr3).1 t e5
        rw [ev]
        refine hq _ _ ((s1.trans s2).trans s3) ?_
        dsimp only
        rw [e5]
        exact rv
  · cases hd
/-- k in d, k not in d -/
def gInD (neg : Bool) (x y : T) : Option T := match y with
  | .dic kts => (keyOf x).map fun ky => .bl (xor neg (lookT kts ky).isSome)
  | _ => none
theorem look_isSome {H : Hp} {ky : Key} {kts : List (Key × T)} {kvs : List (Key × V)} (h : RepsK K H kts kvs) : (valV kvs ky).isSome = (lookT kts ky).isSome := by
  cases e : lookT kts ky with
  | none => rw [(look_val h).2 e]; rfl
  | some t =>
    obtain ⟨v, ev, _⟩ := (look_val h).1 t e
    rw [ev]; rfl
theorem bv_inD (hG : Fm G K mg base P w N sc k) (ha : EV G K a da) (hb : EV G K b db) (hm : behindInMarks .In b = false := by rfl) : BV G K (.Compare a [.In] [b] pos) (fun ρ => asB (b2 (gInD false) (da ρ) (db ρ))) := by
  intro ρ σ H cc Q he hd hq
  obtain ⟨x, y, ea, eb, eg⟩ := b2_some (asB_some hd)
  unfold gInD at eg
  split at eg
  · rename_i kts
    cases e4 : keyOf x with
    | none => rw [e4] at eg; cases eg
    | some ky =>
      rw [e4] at eg
      cases eg
      refine ⟨tB (tDIn (ES G a) (ES G b)), fun i => pt_cmp (pc_din (hG.hu i) (pe_ts i) (pe_ts i)) hm, ?_⟩
      refine ha ρ σ H _ _ he ea fun v H1 s1 r1 => hb ρ σ H1 _ _ (he.same s1) eb fun u H2 s2 r2 => ?_
      obtain ⟨q, kvs, rfl, hrd, rr⟩ := rep_dic.mp r2
      refine ⟨q, valV kvs ky, rfl, .inl ⟨kvs, ky, hrd, keyOf_rep e4 r1, rfl⟩, _, rfl, ?_⟩
      rw [look_isSome rr]
      have := hq H2 (s1.trans s2)
      simpa using this
  · cases eg
theorem bv_notInD (hG : Fm G K mg base P w N sc k) (ha : EV G K a da) (hb : EV G K b db) (hm : behindInMarks .NotIn b = false := by rfl) : BV G K (.Compare a [.NotIn] [b] pos) (fun ρ => asB (b2 (gInD true) (da ρ) (db ρ))) := by
  intro ρ σ H cc Q he hd hq
  obtain ⟨x, y, ea, eb, eg⟩ := b2_some (asB_some hd)
  unfold gInD at eg
  split at eg
  · rename_i kts
    cases e4 : keyOf x with
    | none => rw [e4] at eg; cases eg
    | some ky =>
      rw [e4] at eg
      cases eg
      refine ⟨tB (tDNotIn (ES G a) (ES G b)), fun i => pt_cmp (pc_dnotin (hG.hu i) (pe_ts i) (pe_ts i)) hm, ?_⟩
      refine ha ρ σ H _ _ he ea fun v H1 s1 r1 => hb ρ σ H1 _ _ (he.same s1) eb fun u H2 s2 r2 => ?_
      obtain ⟨q, kvs, rfl, hrd, rr⟩ := rep_dic.mp r2
      refine ⟨q, valV kvs ky, rfl, .inl ⟨kvs, ky, hrd, keyOf_rep e4 r1, rfl⟩, _, rfl, ?_⟩
      rw [look_isSome rr]
      have := hq H2 (s1.trans s2)
      simpa using this
  · cases eg

/-! ### x in xs, flat things; one sign in a text -/
def flatT : T → Bool
  | .non => true | .bl _ => true | .int _ => true | .str _ => true
  | _ => false
def vOf : T → V
  | .bl b => .bl b | .int i => .int i | .str x => .str x | _ => .non
theorem flat_rep {H : Hp} {t : T} {v : V} (e : flatT t = true) (r : Rep K H t v) : v = vOf t := by
  cases t with
  | non => exact rep_non.mp r
  | bl b => exact rep_bl.mp r
  | int b => exact rep_int.mp r
  | str b => exact rep_str.mp r
  | _ => simp [flatT] at e
theorem flat_reps {H : Hp} : ∀ {ts : List T} {vs : List V}, ts.all flatT = true → Reps K H ts vs → vs = ts.map vOf
  | [], vs, _, h => by unfold Reps at h; exact h
  | t :: ts, vs, e, h => by
    unfold Reps at h
    obtain ⟨v, r, rfl, h1, h2⟩ := h
    rw [List.all_cons, Bool.and_eq_true] at e
    rw [flat_rep e.1 h1, flat_reps e.2 h2]
    rfl
theorem flat_V (t : T) : flatV (vOf t) = true := by cases t <;> rfl
theorem flat_Vs (ts : List T) : (ts.map vOf).all flatV = true := by
  rw [List.all_map, List.all_eq_true]
  exact fun t _ => flat_V t
def seqT : T → Option (List T)
  | .lst ts => some ts | .tup ts => some ts | .scr ts => some ts | _ => none
def sign1 (x : Str) : Option Nat := match x.cps.toList with
  | [c] => some c
  | _ => none
theorem sign1_ok {x : Str} {c : Nat} (h : sign1 x = some c) : x = ⟨#[c]⟩ := by
  unfold sign1 at h
  split at h
  · rename_i c' e
    cases h
    obtain ⟨l⟩ := x
    congr 1
    rw [← Array.toArray_toList (xs := l), e]
  · cases h
def signOf : T → Option Nat
  | .str x => sign1 x
  | _ => none
theorem signOf_rep {H : Hp} {t : T} {v : V} {c : Nat} (e : signOf t = some c) (r : Rep K H t v) : v = .str ⟨#[c]⟩ := by
  cases t with
  | str x => rw [rep_str.mp r, sign1_ok e]
  | _ => cases e
def gIn (neg : Bool) (x y : T) : Option T := match y with
  | .str z => (signOf x).map fun ch => .bl (xor neg (decide (ch ∈ z.cps.toList)))
  | _ => match seqT y with
    | some ts => if flatT x = true ∧ ts.all flatT = true then some (.bl (xor neg (inV (vOf x) (ts.map vOf)))) else none
    | none => none
theorem in_seq {H : Hp} {x y : T} {ts : List T} {v u : V} (e : seqT y = some ts) (hx : flatT x = true) (hts : ts.all flatT = true) (rx : Rep K H x v) (ry : Rep K H y u) : v = vOf x ∧ ∃ q, u = .ref q ∧ (SqL K H q (ts.map vOf) ∨ SqT K H q (ts.map vOf)) := by
  refine ⟨flat_rep hx rx, ?_⟩
  cases y with
  | lst l =>
    cases e
    obtain ⟨q, vs, rfl, h, r⟩ := rep_lst.mp ry
    have := flat_reps hts r
    subst this
    exact ⟨q, rfl, .inl (.inl (.inl h))⟩
  | tup l =>
    cases e
    obtain ⟨q, vs, rfl, h, r⟩ := rep_tup.mp ry
    have := flat_reps hts r
    subst this
    exact ⟨q, rfl, .inr h⟩
  | scr l =>
    cases e
    obtain ⟨q, vs, rfl, h, r⟩ := rep_scr.mp ry
    have := flat_reps hts r
    subst this
    exact ⟨q, rfl, .inl h⟩
  | _ => cases e
theorem s_in (hK : ∀ i, (G i).K = K) : OpS G K (compareOp .In) (gIn false) := by
  intro H x y v u τ Q e rx ry hq
  unfold gIn at e
  split at e
  · cases e1 : signOf x with
    | none => rw [e1] at e; cases e
    | some ch =>
      rw [e1] at e
      cases e
      exact ⟨_, fun i => op_in_sign, _, _, signOf_rep e1 rx, rep_str.mp ry, hq _ H (Same.refl H) (rep_bl.mpr (by simp))⟩
  · split at e
    · rename_i ts e1
      split at e
      · rename_i cc
        cases e
        obtain ⟨rfl, q, rfl, h⟩ := in_seq e1 cc.1 cc.2 rx ry
        exact ⟨rIn K false, fun i => by rw [← hK i]; exact op_in_seq, q, ts.map vOf, rfl, h, flat_V x, flat_Vs ts, hq _ H (Same.refl H) (rep_bl.mpr (by simp))⟩
      · cases e
    · cases e
theorem s_notin (hK : ∀ i, (G i).K = K) : OpS G K (compareOp .NotIn) (gIn true) := by
  intro H x y v u τ Q e rx ry hq
  unfold gIn at e
  split at e
  · cases e1 : signOf x with
    | none => rw [e1] at e; cases e
    | some ch =>
      rw [e1] at e
      cases e
      exact ⟨_, fun i => op_notIn_sign, _, _, signOf_rep e1 rx, rep_str.mp ry, hq _ H (Same.refl H) (rep_bl.mpr (by simp))⟩
  · split at e
    · rename_i ts e1
      split at e
      · rename_i cc
        cases e
        obtain ⟨rfl, q, rfl, h⟩ := in_seq e1 cc.1 cc.2 rx ry
        exact ⟨rIn K true, fun i => by rw [← hK i]; exact op_notIn_seq, q, ts.map vOf, rfl, h, flat_V x, flat_Vs ts, hq _ H (Same.refl H) (rep_bl.mpr (by simp))⟩
      · cases e
    · cases e

/-! ### sep.join(xs) -/
def strsOf : List T → Option (List Str)
  | [] => some []
  | .str b :: ts => (strsOf ts).map (b :: ·)
  | _ => none
theorem strsOf_rep {H : Hp} : ∀ {ts : List T} {vs : List V} {bs : List Str}, strsOf ts = some bs → Reps K H ts vs → vs = bs.map V.str
  | [], vs, bs, e, h => by
    cases e
    unfold Reps at h
    subst h; rfl
  | t :: ts, vs, bs, e, h => by
    unfold strsOf at e
    split at e
    · cases e; rename_i q; cases q
    · rename_i b ts' q
      cases q
      cases e2 : strsOf ts with
      | none => rw [e2] at e; cases e
      | some bs' =>
        rw [e2] at e
        cases e
        unfold Reps at h
        obtain ⟨v, r, rfl, h1, h2⟩ := h
        rw [rep_str.mp h1, strsOf_rep e2 h2]
        rfl
    · cases e
def gJoin (x y : T) : Option T := match x, y with
  | .str z, .lst ts => (strsOf ts).bind fun ys => if (ys.map (·.length)).sum + ys.length * z.length ≤ 16777216 then some (.str (Txt.join z ys)) else none
  | _, _ => none
theorem ev_join (hG : Fm G K mg base P w N sc k) {apos cpos : Pos} (ha : EV G K a da) (hb : EV G K b db) (hs : ∀ i, starEach [b] (G i).env = [(false, eval b (G i).env)] := by intro _; rfl) (hbase : ∀ i, attributeBase a "join" (G i).env (eval a (G i).env) = eval a (G i).env := by intro _; rfl) (hline : (apos.endLine == cpos.line) = true := by rfl) :
    EV G K (.Call (.Attribute a "join" apos) [b] [] cpos) (fun ρ => b2 gJoin (da ρ) (db ρ)) := by
  intro ρ σ H τ Q hE hd hq
  obtain ⟨x, y, ea, eb, eg⟩ := b2_some hd
  unfold gJoin at eg
  split at eg
  · rename_i z ts
    cases e1 : strsOf ts with
    | none => rw [e1] at eg; cases eg
    | some ys =>
      rw [e1] at eg
      dsimp only [Option.bind] at eg
      split at eg
      · rename_i cc
        cases eg
        refine ⟨tM1 (fun x xs H Q => ∃ a p, ∃ ys : List Str, x = .str a ∧ xs = [.ref p] ∧ (SqL K H p (ys.map V.str) ∨ SqT K H p (ys.map V.str)) ∧
      (ys.map (·.length)).sum + ys.length * a.length ≤ 16777216 ∧ Q (.str (Txt.join a ys)) H) (ES G a) (ES G b), fun i => by rw [← hG.K i]; exact pe_join (pe_ts i) (pe_ts i) (hs i) (hbase i) hline, ?_⟩
        refine ha ρ σ H _ _ hE ea fun v H1 s1 r1 => ⟨⟨z, rep_str.mp r1⟩, hb ρ σ H1 _ _ (hE.same s1) eb fun u H2 s2 r2 => ?_⟩
        obtain ⟨q, vs, rfl, hl, rr⟩ := rep_lst.mp r2
        have := strsOf_rep e1 rr
        subst this
        exact ⟨z, q, ys, rep_str.mp r1, rfl, .inl (.inl (.inl hl)), cc, hq _ H2 (s1.trans s2) (rep_str.mpr rfl)⟩
      · cases eg
  · cases eg

/-! ### x[k] = e -/
def stD (i : Nat) (o ky : Option T) (ρ : Env') : Out := match nd i ρ, o, ky with
  | some (.lst ts), some τ, some (.int j) => if imm τ = true then (match ixN ts.length j with | some n => .nx (ρ.set i (some (.lst (ts.set n τ)))) | none => .er) else .er
  | some (.dic kts), some τ, some y => (match keyOf y with
    | some ky => if imm τ = true ∧ (kts.map (·.1)).Nodup ∧ kts.length < sizeLine then .nx (ρ.set i (some (.dic (putT kts ky τ)))) else .er
    | none => .er)
  | _, _, _ => .er
theorem Reps.set {H : Hp} {ts : List T} {vs : List V} {t : T} {v : V} (h : Reps K H ts vs) (r : Rep K H t v) : ∀ n, Reps K H (ts.set n t) (vs.set n v) := by
  rw [Reps.paired] at h
  induction h with
  | nil => intro n; simpa using Reps.nil
  | cons h1 h2 ih =>
    intro n
    cases n with
    | zero => exact .cons r (Reps.paired.mpr h2)
    | succ n => exact .cons h1 (ih n)
theorem sv_store (hG : Fm G K mg base P w N sc k) (i : Nat) (hi : i ∈ ow) {px tp : Pos} (h : EV G K e de) (hk : EV G K a da) (hN : N[i]? = some x := by rfl) (hv : visB sc x = true := by rfl)
    (hd0 : (x == ("__debug__" : Str)) = false := by decide) (hcd : (x == ("__classdict__" : Str)) = false := by decide)
    (hs : ∀ i, swapsWith e (some (.Subscript (.Name x px) a tp)) pos.line (G i).env = pure false := by intro _; rfl)
    (hs1 : ∀ i, swapsWithSole [.Subscript (.Name x px) a tp] e pos.line (G i).env = pure false := by intro _; rfl) (hw : ∀ i, swappedStores [.Subscript (.Name x px) a tp] e (G i).env = pure none := by intro _; rfl)
    (h1 : ∀ i, (assignEach [.Subscript (.Name x px) a tp] (G i).env).map (·.2) = [assign (.Subscript (.Name x px) a tp) (G i).env] := by intro _; rfl)
    (ha : ∀ i v, assign (.Subscript (.Name x px) a tp) (G i).env v = (do
      let ov ← holding [v] (eval (.Name x px) (G i).env)
      let iv ← holding [v, ov] (eval a (G i).env)
      standAt tp
      holding [v, ov, iv] (setItem ov iv v)
      release [v, ov, iv] []) := by intro _ _; rfl) :
    SV K fr ow ow owl (TSt G (.Assign [.Subscript (.Name x px) a tp] e pos)) (fun ρ => stD i (de ρ) (da ρ) ρ) := by
  intro B ρ σ H D hr hp
  dsimp only at hp
  unfold stD at hp
  obtain ⟨B', sB, q⟩ := id hr
  have pvar : ∀ j, PE (G j) (.Name x px) (tVar i) := fun j => pe_var (by rw [hG.N j]; exact hN) (by rw [hG.sc j]; exact vis_of hv) hd0 hcd
  split at hp
  · rename_i ts τ j e1 e2 e3
    split at hp
    · rename_i cc
      split at hp
      · rename_i n en
        obtain ⟨ad, o, s1, s2, s3, f⟩ := q.own i _ hi (nd_some e1)
        refine ⟨tAsg (ES G e) (L2.gSub (tVar i) (ES G a) rSetL), fun j => ps_asg (pe_ts j) (pg_sub (pvar j) (pe_ts j) set_list (ha j)) (hs1 j) (hw j) (h1 j), ?_⟩
        rcases id f with ⟨ts', vs, et, eo, r⟩ | ⟨_, _, et, _⟩
        · cases et
          subst eo
          refine h ρ σ H τ _ hr.env e2 fun v H1 z1 r1 => ⟨_, s1, hk ρ σ H1 _ _ (hr.env.same z1) e3 fun u H2 z2 r2 => ?_⟩
          refine ⟨ad, vs, j, n, rfl, rep_int.mp r2, z2 _ _ (z1 _ _ s3), by rw [← r.length]; exact en, ?_⟩
          have q1 := (q.grow (z1.trans z2)).addT
          refine hp σ _ ⟨addT B' H2, sB.trans same_addT, q1.write hi (nd_some e1) s1 ?_⟩
          exact .inl ⟨_, _, rfl, rfl, (r.same same_addT).set (imm_rep (q.sm.trans (z1.trans z2)) τ v cc (r1.same z2)) n⟩
        · cases et
      · cases hp
    · cases hp
  · rename_i kts τ y e1 e2 e3
    split at hp
    · rename_i ky ek
      split at hp
      · rename_i cc
        obtain ⟨ad, o, s1, s2, s3, f⟩ := q.own i _ hi (nd_some e1)
        refine ⟨sDPut (tVar i) (ES G a) (ES G e), fun j => ps_dput (hG.hu j) (pvar j) (pe_ts j) (pe_ts j) (hs j), ?_⟩
        rcases id f with ⟨_, _, et, _⟩ | ⟨ts', vs, et, eo, r⟩
        · cases et
        · cases et
          subst eo
          refine h ρ σ H τ _ hr.env e2 fun v H1 z1 r1 => ⟨_, s1, hk ρ σ H1 _ _ (hr.env.same z1) e3 fun u H2 z2 r2 => ?_⟩
          refine ⟨ad, _, rfl, .inl ⟨vs, ky, z2 _ _ (z1 _ _ s3), keyOf_rep ek r2, by rw [← r.length]; exact cc.2.2, rfl⟩, ?_⟩
          have q1 := (q.grow (z1.trans z2)).addT
          refine hp σ _ ⟨addT B' H2, sB.trans same_addT, q1.write hi (nd_some e1) s1 ?_⟩
          exact .inr ⟨_, _, rfl, rfl, putT_rep (imm_rep (q.sm.trans (z1.trans z2)) τ v cc.1 (r1.same z2)) (r.same same_addT) cc.2.1⟩
      · cases hp
    · cases hp
  · cases hp
end DL
namespace DL
open PySem PySem.Spec PyProof.Rows L2
variable {ι : Type} {G : ι → Cx} {K : PySem.W.Frag} {mg : Str → Option Value} {base : Heap} {P : Program} {w : World} {N : List Str} {sc : Scope} {k : Nat}
variable {fr : Bool} {ow ow' owl : List Nat}

/-! ### a dict that is walked is locked -/
def keyT : Key → T
  | .inl i => .int i
  | .inr x => .str x
theorem keyT_rep {H : Hp} (ky : Key) : Rep K H (keyT ky) (kV ky) := by
  cases ky with
  | inl i => exact rep_int.mpr rfl
  | inr x => exact rep_str.mpr rfl
theorem RepsK.get {H : Hp} : ∀ {kts : List (Key × T)} {kvs : List (Key × V)} {i : Nat} {ky : Key} {v : V}, RepsK K H kts kvs → kvs[i]? = some (ky, v) → ∃ t, kts[i]? = some (ky, t) ∧ Rep K H t v
  | [], kvs, i, ky, v, h, e => by
    unfold RepsK at h
    subst h
    simp at e
  | (k', t') :: r, kvs, i, ky, v, h, e => by
    unfold RepsK at h
    obtain ⟨v', kr, rfl, h1, h2⟩ := h
    cases i with
    | zero =>
      simp at e
      obtain ⟨rfl, rfl⟩ := e
      exact ⟨t', rfl, h1⟩
    | succ i =>
      obtain ⟨t, a, b⟩ := RepsK.get (i := i) (ky := ky) (v := v) h2 (by simpa using e)
      exact ⟨t, by simpa using a, b⟩
theorem walks_keys {B : Hp} {d : Addr} {o : Obj} {kvs : List (Key × V)} {kts : List (Key × T)} (e : B d = some (.frz o (.dK kvs))) (r : RepsK K B kts kvs) : Walks K (Itk d o kvs) B (kts.map fun p => keyT p.1) := by
  refine ⟨fun i H s hi => ⟨s _ _ e, by rw [← r.length]; simpa using hi⟩, fun i H s hi => ⟨s _ _ e, by rw [← r.length]; simpa using hi⟩, fun i t H x H' s et y => ?_⟩
  obtain ⟨rfl, ky, v, ev, rfl⟩ := y
  obtain ⟨t', e2, _⟩ := r.get ev
  rw [List.getElem?_map, e2] at et
  cases et
  exact ⟨Same.refl _, keyT_rep ky⟩
theorem walks_vals {B : Hp} {d : Addr} {o : Obj} {kvs : List (Key × V)} {kts : List (Key × T)} (e : B d = some (.frz o (.dK kvs))) (r : RepsK K B kts kvs) : Walks K (Itd d o kvs) B (kts.map (·.2)) := by
  refine ⟨fun i H s hi => ⟨s _ _ e, by rw [← r.length]; simpa using hi⟩, fun i H s hi => ⟨s _ _ e, by rw [← r.length]; simpa using hi⟩, fun i t H x H' s et y => ?_⟩
  obtain ⟨rfl, ky, ev⟩ := y
  obtain ⟨t', e2, rt⟩ := r.get ev
  rw [List.getElem?_map, e2] at et
  cases et
  exact ⟨Same.refl _, rt.same same_addT⟩
theorem walks_items {B : Hp} {d : Addr} {o : Obj} {kvs : List (Key × V)} {kts : List (Key × T)} (e : B d = some (.frz o (.dK kvs))) (r : RepsK K B kts kvs) : Walks K (Iti d o kvs) B (kts.map fun p => .tup [keyT p.1, p.2]) := by
  refine ⟨fun i H s hi => ⟨s _ _ e, by rw [← r.length]; simpa using hi⟩, fun i H s hi => ⟨s _ _ e, by rw [← r.length]; simpa using hi⟩, fun i t H x H' s et y => ?_⟩
  obtain ⟨q, ky, v, ev, rfl, nq, rfl⟩ := y
  obtain ⟨t', e2, rt⟩ := r.get ev
  rw [List.getElem?_map, e2] at et
  cases et
  exact ⟨same_upd' nq, rep_tup.mpr ⟨q, _, rfl, .inl (.inl (addT_newtup s nq)), .cons (keyT_rep ky) (.cons (rt.same same_addT) .nil)⟩⟩
/-- the walk over a locked dict that a name holds -/
def KI (G : ι → Cx) (K : PySem.W.Frag) (j : Nat) (tg iter : Expr) (lst : List (Key × T) → List T) : Prop :=
  ∀ (σ : St) (H : Hp) (R : It → Hp → Prop) (d : Addr) (o : Obj) (kvs : List (Key × V)), σ[j]? = some (some (V.ref d)) → H d = some (.frz o (.dK kvs)) →
    (∀ J, (∀ B kts, B d = some (.frz o (.dK kvs)) → RepsK K B kts kvs → Walks K J B (lst kts)) → R J H) → IT G tg iter σ H R
variable {tg : Expr} {x : Str} {pos : Pos}
theorem pe_nm (hG : Fm G K mg base P w N sc k) (j : Nat) (hN : N[j]? = some x) (hv : visB sc x = true) (hd : (x == ("__debug__" : Str)) = false) (hcd : (x == ("__classdict__" : Str)) = false) (i : ι) : PE (G i) (.Name x pos) (tVar j) :=
  pe_var (by rw [hG.N i]; exact hN) (by rw [hG.sc i]; exact vis_of hv) hd hcd
theorem ki_keys (hG : Fm G K mg base P w N sc k) (j : Nat) (hN : N[j]? = some x := by rfl) (hv : visB sc x = true := by rfl) (hd : (x == ("__debug__" : Str)) = false := by decide) (hcd : (x == ("__classdict__" : Str)) = false := by decide) :
    KI G K j tg (.Name x pos) (fun kts => kts.map fun p => keyT p.1) := fun σ H R d o kvs e1 e2 h =>
  ⟨_, fun i => pi_keys (pe_nm hG j hN hv hd hcd i), _, e1, d, o, rfl, .inl ⟨kvs, e2, h _ fun B kts => walks_keys⟩⟩
theorem ki_vals (hG : Fm G K mg base P w N sc k) (j : Nat) {apos cpos : Pos} (hN : N[j]? = some x := by rfl) (hv : visB sc x = true := by rfl) (hd : (x == ("__debug__" : Str)) = false := by decide) (hcd : (x == ("__classdict__" : Str)) = false := by decide)
    (hbase : ∀ i, attributeBase (.Name x pos) "values" (G i).env (eval (.Name x pos) (G i).env) = eval (.Name x pos) (G i).env := by intro _; rfl) (hline : (apos.endLine == cpos.line) = true := by rfl) :
    KI G K j tg (.Call (.Attribute (.Name x pos) "values" apos) [] [] cpos) (fun kts => kts.map (·.2)) := fun σ H R d o kvs e1 e2 h =>
  ⟨_, fun i => pi_values (pe_nm hG j hN hv hd hcd i) (hbase i) hline, _, e1, d, o, kvs, rfl, e2, h _ fun B kts => walks_vals⟩
theorem ki_items (hG : Fm G K mg base P w N sc k) (j : Nat) {elts : List Expr} {kk : Nat} {tpos apos cpos : Pos} (hN : N[j]? = some x := by rfl) (hv : visB sc x = true := by rfl) (hd : (x == ("__debug__" : Str)) = false := by decide) (hcd : (x == ("__classdict__" : Str)) = false := by decide)
    (hbase : ∀ i, attributeBase (.Name x pos) "items" (G i).env (eval (.Name x pos) (G i).env) = eval (.Name x pos) (G i).env := by intro _; rfl) (hline : (apos.endLine == cpos.line) = true := by rfl) :
    KI G K j (.Tuple elts kk tpos) (.Call (.Attribute (.Name x pos) "items" apos) [] [] cpos) (fun kts => kts.map fun p => .tup [keyT p.1, p.2]) := fun σ H R d o kvs e1 e2 h =>
  ⟨_, fun i => pi_items (pe_nm hG j hN hv hd hcd i) (hbase i) hline, _, e1, d, o, kvs, rfl, e2, h _ fun B kts => walks_items⟩
def dkO (kvs : List (Key × V)) (u : HO) : Prop := u = .dK kvs ∨ ∃ o, u = .frz o (.dK kvs)
theorem dkO.rd {H : Hp} {d : Addr} {u : HO} {kvs : List (Key × V)} (h : dkO kvs u) (e : H d = some u) : Rd H d (.dK kvs) := by
  rcases h with rfl | ⟨o, rfl⟩
  · exact .inl e
  · exact .inr ⟨o, e⟩
theorem grow_dk {H : Hp} {d : Addr} {u u' : HO} {kvs : List (Key × V)} (e : H d = some u) (hu : dkO kvs u) (hu' : dkO kvs u') : Grow K H (upd H d u') := by
  have no : ∀ {a : Addr} {z : HO}, Rd H a z → (∀ ks, z ≠ .dK ks) → (∀ o, z ≠ .frz o (.dK kvs)) → Rd (upd H d u') a z := by
    intro a z h n1 n2
    have na : a ≠ d := by
      rintro rfl
      rcases h with h | ⟨o, h⟩
      · rw [e] at h
        cases h
        rcases hu with rfl | ⟨o, rfl⟩
        · exact n1 _ rfl
        · exact n2 _ rfl
      · rw [e] at h
        cases h
        rcases hu with hu | ⟨o', hu⟩
        · cases hu
        · cases hu
          exact n1 _ rfl
    rcases h with h | ⟨o, h⟩
    · exact .inl (by rw [upd_ne na]; exact h)
    · exact .inr ⟨o, by rw [upd_ne na]; exact h⟩
  refine ⟨fun a vs h => ?_, fun a vs h => ?_, fun a vs h => ?_, fun a ks h => ?_⟩
  · rcases h with h | h
    · exact .inl (no h (fun _ z => nomatch z) (fun _ z => nomatch z))
    · exact .inr h
  · have na : a ≠ d := by
      rintro rfl
      rw [e] at h
      cases h
      rcases hu with z | ⟨o, z⟩ <;> cases z
    rw [upd_ne na]
    exact h
  · rcases h with h | h
    · exact .inl (no h (fun _ z => nomatch z) (fun _ z => nomatch z))
    · exact .inr h
  · by_cases ea : a = d
    · subst ea
      have : ks = kvs := by
        rcases h with h | ⟨o, h⟩
        · rw [e] at h
          cases h
          rcases hu with z | ⟨o, z⟩
          · cases z; rfl
          · cases z
        · rw [e] at h
          cases h
          rcases hu with z | ⟨o, z⟩
          · cases z
          · cases z; rfl
      subst this
      exact hu'.rd upd_same
    · rcases h with h | ⟨o, h⟩
      · exact .inl (by rw [upd_ne ea]; exact h)
      · exact .inr ⟨o, by rw [upd_ne ea]; exact h⟩
theorem StR'.relock {B : Hp} {ρ : Env'} {σ : St} {H : Hp} {d : Addr} {u u' : HO} {kvs : List (Key × V)} (h : StR' K B ow ρ σ H) (e : B d = some u) (hu : dkO kvs u) (hu' : dkO kvs u') : StR' K (upd B d u') ow ρ σ (upd H d u') := by
  have g : Grow K B (upd B d u') := grow_dk e hu hu'
  refine ⟨fun b o z => ?_, h.len, fun i t m z => ?_, fun i t m z => ?_, h.inj⟩
  · by_cases eb : b = d
    · subst eb
      rw [upd_same] at z ⊢
      exact z
    · rw [upd_ne eb] at z ⊢
      exact h.sm b o z
  · obtain ⟨v, e1, r⟩ := h.val i t m z
    exact ⟨v, e1, Rep.grow g t v r⟩
  · obtain ⟨a, o, e1, e2, e3, f⟩ := h.own i t m z
    have na : a ≠ d := ne_of_none e e2 |> Ne.symm
    refine ⟨a, o, e1, by rw [upd_ne na]; exact e2, by rw [upd_ne na]; exact e3, ?_⟩
    rcases f with ⟨ts, vs, rfl, rfl, r⟩ | ⟨ts, vs, rfl, rfl, r⟩
    · exact .inl ⟨ts, vs, rfl, rfl, Reps.grow g ts vs r⟩
    · exact .inr ⟨ts, vs, rfl, rfl, RepsK.grow g ts vs r⟩
theorem FrO.grow {H H' : Hp} {τ : T} {o : HO} (g : Grow K H H') (f : FrO K H τ o) : FrO K H' τ o := by
  rcases f with ⟨ts, vs, rfl, rfl, r⟩ | ⟨ts, vs, rfl, rfl, r⟩
  · exact .inl ⟨ts, vs, rfl, rfl, Reps.grow g ts vs r⟩
  · exact .inr ⟨ts, vs, rfl, rfl, RepsK.grow g ts vs r⟩
theorem same_relock {B B' : Hp} {d : Addr} {u : HO} (s : Same B B') (e : B d = some u) {u' : HO} {B2 : Hp} (s2 : Same (upd B' d u') B2) : Same B (upd B2 d u) := fun b o z => by
  by_cases eb : b = d
  · subst eb
    rw [e] at z
    cases z
    exact upd_same
  · rw [upd_ne eb]
    exact s2 b o (by rw [upd_ne eb]; exact s b o z)
/-- what is wanted behind the lock -/
abbrev lockD (D : Ends) (d : Addr) (od : Obj) (u : HO) : Ends := ⟨fun σ' H' => H' d = some (.frz od u) ∧ D.nx σ' (upd H' d u), fun v H' => H' d = some (.frz od u) ∧ D.rt v (upd H' d u), fun σ' H' => H' d = some (.frz od u) ∧ D.bk σ' (upd H' d u), fun σ' H' => H' d = some (.frz od u) ∧ D.ct σ' (upd H' d u)⟩
theorem Post.lock {B : Hp} {D : Ends} {d : Addr} {od : Obj} {kvs : List (Key × V)} {o : Out} (e : B d = some (.dK kvs)) (h : Post K fr B D ow owl o) : Post K fr (upd B d (.frz od (.dK kvs))) (lockD D d od (.dK kvs)) ow owl o := by
  have back : ∀ {ow1 : List Nat} {ρ : Env'} {σ : St} {H : Hp}, StR K (upd B d (.frz od (.dK kvs))) ow1 ρ σ H → H d = some (.frz od (.dK kvs)) ∧ StR K B ow1 ρ σ (upd H d (.dK kvs)) := by
    rintro ow1 ρ σ H ⟨B2, s2, q⟩
    have e2 : B2 d = some (.frz od (.dK kvs)) := s2 _ _ upd_same
    exact ⟨q.sm _ _ e2, upd B2 d (.dK kvs), same_relock (Same.refl B) e s2, q.relock e2 (.inr ⟨od, rfl⟩) (.inl rfl)⟩
  cases o with
  | nx ρ => exact fun σ H q => let ⟨a, b⟩ := back q; ⟨a, h σ _ b⟩
  | bk ρ => exact fun σ H q => let ⟨a, b⟩ := back q; ⟨a, h σ _ b⟩
  | ct ρ => exact fun σ H q => let ⟨a, b⟩ := back q; ⟨a, h σ _ b⟩
  | rt τ =>
    intro v H s r
    have e2 : H d = some (.frz od (.dK kvs)) := s _ _ upd_same
    have g : Grow K H (upd H d (.dK kvs)) := grow_dk e2 (.inr ⟨od, rfl⟩) (.inl rfl)
    refine ⟨e2, h v _ (same_relock (Same.refl B) e s) ?_⟩
    unfold RtR at r ⊢
    split
    · rename_i c
      rw [if_pos c] at r
      obtain ⟨p, o, ev, n, ep, f⟩ := r
      have np : p ≠ d := by
        rintro rfl
        rw [upd_same] at n
        cases n
      exact ⟨p, o, ev, by rw [upd_ne np] at n; exact n, by rw [upd_ne np]; exact ep, f.grow g⟩
    · rename_i c
      rw [if_neg c] at r
      exact Rep.grow g _ _ r
  | er => exact h
def dicOf (o : Option T) : Option (List (Key × T)) := match o with
  | some (.dic kts) => some kts
  | _ => none
/-- for .. in d (its keys, values or items), d a name -/
theorem sv_forK {tg iter : Expr} {bd : Env' → T → Option Env'} {body : List Stmt} {db : Env' → Out} {lst : List (Key × T) → List T} (hG : Fm G K mg base P w N sc k) (hpo : ∀ i, PassesOwn (model (G i).prog (G i).w) (G i).A (G i).env (G i).xe)
    (j : Nat) (nj : j ∉ ow) (hi : KI G K j tg iter lst) {vs : List Nat} (ht : TV G K ow tg vs bd) (hb : SV K fr ow ow ow (TSs G body) db) (hs : ∀ i x, foldedSetIterable iter (G i).env x = pure x := by intro _ _; rfl) :
    SV K fr ow ow owl (TSt G (.For tg iter body [] pos)) (fun ρ => match dicOf (nd j ρ) with | some kts => forD bd db (lst kts) ρ | none => .er) := by
  intro B ρ σ H D hr hp
  dsimp only at hp
  split at hp
  · rename_i kts e
    have e1 : nd j ρ = some (.dic kts) := by
      unfold dicOf at e
      split at e
      · cases e; assumption
      · cases e
    obtain ⟨B', s, q⟩ := hr
    obtain ⟨v, es, rv⟩ := q.val j _ nj (nd_some e1)
    obtain ⟨d, kvs, rfl, rd, rk⟩ := rep_dic.mp rv
    have at_ : ∀ (B' : Hp) (H : Hp) (o : Obj) (D : Ends), StR' K B' ow ρ σ H → B' d = some (.frz o (.dK kvs)) → RepsK K B' kts kvs → Post K fr B' D ow owl (forD bd db (lst kts) ρ) → TSt G (.For tg iter body [] pos) D σ H := by
      intro B' H o D q ed rk hp
      refine for_core hG hpo ht hb (fun R hR => ?_) hp hs
      refine hi σ H R d o kvs es (q.sm _ _ ed) fun J hJ => ?_
      exact hR J H B' (Same.refl B') (Same.refl H) q (hJ B' kts ed rk)
    have hp' : Post K fr B' D ow owl (forD bd db (lst kts) ρ) := Post.rebase s hp
    rcases rd with rd | ⟨o, rd⟩
    · refine ⟨tLock (TSt G (.For tg iter body [] pos)), fun i => ps_lock (ps_st i), d, .dK kvs, q.sm _ _ rd, trivial, fun od => ?_⟩
      have q2 := q.relock rd (.inl rfl) (.inr ⟨od, rfl⟩) (u' := .frz od (.dK kvs))
      exact at_ _ _ od _ q2 upd_same (RepsK.grow (grow_dk rd (.inl rfl) (.inr ⟨od, rfl⟩)) _ _ rk) (Post.lock rd hp')
    · exact at_ B' H o D q rd rk hp'
  · cases hp
/-- [.. for .. in d ..] -/
theorem evf_lcK (hG : Fm G K mg base P w N sc k) (hN0 : N.Nodup) {scope : Scope} {tg iter elt : Expr} {ifs : List Expr} (own : List (Str × Nat)) {ts : List Nat} {bd : Env' → T → Option Env'} {dc : Env' → Option Bool} {de : Env' → Option T} {lst : List (Key × T) → List T}
    (j : Nat) (hi : KI G K j tg iter lst) (ht : TV (gBlk G scope) K [] tg ts bd) (hc : CV (gBlk G scope) K ifs dc) (he : EV (gBlk G scope) K elt de) (hok : blkC N sc scope own = true := by decide +kernel) (hts : ∀ i ∈ ts, i ∈ own.map (·.2) := by decide)
    (hs : ∀ i x, foldedSetIterable iter (G i).env x = pure x := by intro _ _; rfl) : EVF G K (.ListComp elt [⟨tg, iter, ifs, 0⟩] scope pos) (fun ρ => lcD bd dc de (own.map (·.2)) ρ ((dicOf (nd j ρ)).map lst)) := by
  intro ρ σ H τ Q hE hd hq
  dsimp only at hd
  cases e : dicOf (nd j ρ) with
  | none => rw [e] at hd; cases hd
  | some kts =>
    rw [e] at hd
    have e1 : nd j ρ = some (.dic kts) := by
      unfold dicOf at e
      split at e
      · cases e; assumption
      · cases e
    unfold lcD at hd
    dsimp only [Option.map] at hd
    split at hd
    · rename_i hl
      split at hd
      · rename_i res e2
        split at hd
        · rename_i hm
          cases hd
          obtain ⟨v, es, rv⟩ := hE.2 j _ (nd_some e1)
          obtain ⟨d, kvs, rfl, rd, rk⟩ := rep_dic.mp rv
          have core : ∀ (H : Hp) (o : Obj) (Q : VK), EnvR K H σ ρ → H d = some (.frz o (.dK kvs)) → RepsK K H kts kvs → (∀ p o H', Same H H' → H p = none → H' p = some o → FrO K H' (.lst res) o → Q (.ref p) H') → ES G (.ListComp elt [⟨tg, iter, ifs, 0⟩] scope pos) σ H Q := by
            intro H o Q hE ed rk hq
            refine ⟨tLc (IT G tg iter) (GT (gBlk G scope) tg) (CTs (gBlk G scope) ifs) (ES (gBlk G scope) elt) (own.map (·.2)), fun i => pe_lc (hG.calm i) (by rw [hG.N i]; exact hN0) (pi_it i) (by rw [hG.N i, hG.sc i]; exact blkOk_by hok)
              (fun s H C cl fp => pg_gt (G := gBlk G scope) (i, s, H, C, cl, fp)) (fun s H C cl fp => pts_cts (G := gBlk G scope) (i, s, H, C, cl, fp)) (fun s H C cl fp => pe_ts (G := gBlk G scope) (i, s, H, C, cl, fp)) (hs i), ?_⟩
            refine lc_read ht hts hc he hE (fun R hR => ?_) hl e2 hm hq
            refine hi σ H R d o kvs es ed fun J hJ => ?_
            exact hR J H H (Same.refl H) (Same.refl H) hE.str (hJ H kts ed rk)
          rcases rd with rd | ⟨o, rd⟩
          · refine ⟨tLockE (ES G (.ListComp elt [⟨tg, iter, ifs, 0⟩] scope pos)), fun i => pe_lock (pe_ts i), d, .dK kvs, rd, trivial, fun od => ?_⟩
            have g := grow_dk (K := K) rd (.inl rfl) (.inr ⟨od, rfl⟩) (u' := .frz od (.dK kvs))
            refine core _ od _ (hE.str.relock rd (.inl rfl) (.inr ⟨od, rfl⟩)).env upd_same (RepsK.grow g _ _ rk) fun p o H' s np ep f => ?_
            have e3 : H' d = some (.frz od (.dK kvs)) := s _ _ upd_same
            have nd' : p ≠ d := by
              rintro rfl
              rw [upd_same] at np
              cases np
            refine ⟨e3, hq p o _ (same_relock (Same.refl H) rd s) (by rw [upd_ne nd'] at np; exact np) (by rw [upd_ne nd']; exact ep) (f.grow (grow_dk e3 (.inr ⟨od, rfl⟩) (.inl rfl)))⟩
          · exact core H o Q hE rd rk hq
        · cases hd
      · cases hd
    · cases hd
end DL
namespace DL
open PySem PySem.Spec PyProof.Rows L2
variable {ι : Type} {G : ι → Cx} {K : PySem.W.Frag} {mg : Str → Option Value} {base : Heap} {P : Program} {w : World} {N : List Str} {sc : Scope} {k : Nat}
variable {fr : Bool} {ow ow' owl : List Nat}

/-! ### dicts compared -/
def hitsD (lb : List (Key × T)) : List (Key × T) → Bool
  | [] => true
  | (ky, t) :: r => match lookT lb ky with
    | some t' => eqT t t' && hitsD lb r
    | none => false
def dOkK (ks : List (Key × T)) : Bool := ks.all fun p => dOk p.2
theorem hits_dl {X : Cx} {pins : List (Addr × Obj)} {σ : L2.St} {H : Hp} {s : Shared} (I : Inv X pins σ H s) {A : Around} (hu : A.units + 64 < cLine) {ltb : List (Key × T)} {lvb : List (Key × V)} {vb : List (Key × Value)} (rb : RepsK X.K H ltb lvb) (kb : KV lvb vb) (ob : dOkK ltb = true) :
    ∀ {lta : List (Key × T)} {lva : List (Key × V)} {va : List (Key × Value)}, RepsK X.K H lta lva → KV lva va → dOkK lta = true → PySem.W.KeqHits A s vb va (hitsD ltb lta)
  | [], lva, va, h, hk, _ => by
    unfold RepsK at h
    subst h
    cases hk
    exact .nil
  | (ky, t) :: r, lva, va, h, hk, ho => by
    unfold RepsK at h
    obtain ⟨v, lr, rfl, h1, h2⟩ := h
    cases hk with
    | @cons a b l₁ l₂ hr hrest =>
      obtain ⟨k', u⟩ := b
      obtain ⟨ek, ru⟩ := hr
      cases ek
      unfold dOkK at ho
      rw [List.all_cons, Bool.and_eq_true] at ho
      have ih := hits_dl I hu rb kb ob h2 hrest ho.2
      have kv := kb.val ky
      show PySem.W.KeqHits A s vb ((ky, u) :: _) (hitsD ltb ((ky, t) :: r))
      unfold hitsD
      cases e : lookT ltb ky with
      | none =>
        rw [(look_val rb).2 e] at kv
        cases e2 : valueAt vb ky with
        | none => exact .miss e2
        | some z => rw [e2] at kv; exact kv.elim
      | some t' =>
        obtain ⟨v', ev, rv'⟩ := (look_val rb).1 t' e
        rw [ev] at kv
        cases e2 : valueAt vb ky with
        | none => rw [e2] at kv; exact kv.elim
        | some z =>
          rw [e2] at kv
          have ot' : dOk t' = true := by
            have : ∀ {l : List (Key × T)}, lookT l ky = some t' → dOkK l = true → dOk t' = true := by
              intro l
              induction l with
              | nil => intro h; cases h
              | cons p l ih =>
                obtain ⟨k2, t2⟩ := p
                intro h ho
                unfold dOkK at ho
                rw [List.all_cons, Bool.and_eq_true] at ho
                unfold lookT at h
                split at h
                · cases h; exact ho.1
                · exact ih h ho.2
            exact this e ob
          have o1 := ho.1
          simp only [dOk, Bool.and_eq_true] at o1 ot'
          obtain ⟨as, r1⟩ := Dp.reads I (toD t) v u (rep_dp t v o1.1 h1) ru
          obtain ⟨bs, r2⟩ := Dp.reads I (toD t') v' z (rep_dp t' v' ot'.1 rv') kv
          exact .hit e2 (SeqAt.eqAt_reads _ _ A s u z as bs r1 r2 (SeqAt.canLay_of_shaped o1.2) (SeqAt.canLay_of_shaped ot'.2) (SeqAt.room_of_shaped o1.2 hu)) ih
def rEqDD (X : Cx) (neg : Bool) : R2 := fun x y H Q => ∃ a b lta lva ltb lvb, x = .ref a ∧ y = .ref b ∧ Rd H a (.dK lva) ∧ Rd H b (.dK lvb) ∧ RepsK X.K H lta lva ∧ RepsK X.K H ltb lvb ∧ dOkK lta = true ∧ dOkK ltb = true ∧ Q (.bl (xor neg (lta.length == ltb.length && hitsD ltb lta))) H
theorem op_eqDD {X : Cx} (hu : X.A.units + 65 < cLine) : OpR X (compareOp .Eq) (rEqDD X false) := by
  intro pins s σ H x y v u Q I rx ry h
  obtain ⟨a, b, lta, lva, ltb, lvb, rfl, rfl, ha, hb, ra, rb, oa, ob, q⟩ := h
  obtain rfl : v = Value.ref a := rx
  obtain rfl : u = Value.ref b := ry
  obtain ⟨_, ya, va, ka, da⟩ := dk_rd I.hok ha
  obtain ⟨_, yb, vb, kb, db⟩ := dk_rd I.hok hb
  have la : va.length = lta.length := by rw [ra.length, ka.length]
  have lb : vb.length = ltb.length := by rw [rb.length, kb.length]
  refine PySem.W.keq_eq (knd := mixKind X.prog X.w) (r := hitsD ltb lta) ya yb da db (by omega) (fun _ => hits_dl I (by show X.A.units + 1 + 64 < _; omega) rb kb ob ra ka oa) (fin_bl I q ?_)
  rw [la, lb]; simp
theorem op_neDD {X : Cx} (hu : X.A.units + 65 < cLine) : OpR X (compareOp .NotEq) (rEqDD X true) := by
  intro pins s σ H x y v u Q I rx ry h
  obtain ⟨a, b, lta, lva, ltb, lvb, rfl, rfl, ha, hb, ra, rb, oa, ob, q⟩ := h
  obtain rfl : v = Value.ref a := rx
  obtain rfl : u = Value.ref b := ry
  obtain ⟨_, ya, va, ka, da⟩ := dk_rd I.hok ha
  obtain ⟨_, yb, vb, kb, db⟩ := dk_rd I.hok hb
  have la : va.length = lta.length := by rw [ra.length, ka.length]
  have lb : vb.length = ltb.length := by rw [rb.length, kb.length]
  refine PySem.W.keq_ne (knd := mixKind X.prog X.w) (r := hitsD ltb lta) ya yb da db (by omega) (fun _ => hits_dl I (by show X.A.units + 1 + 64 < _; omega) rb kb ob ra ka oa) (fin_bl I q ?_)
  rw [la, lb]; simp
/-- == of whatever: data, dicts, types -/
def eqDic (a b : List (Key × T)) : Bool := a.length == b.length && hitsD b a
def gEqA (neg : Bool) (x y : T) : Option T := match x, y with
  | .dic a, .dic b => if (dOkK a && dOkK b) = true then some (.bl (xor neg (eqDic a b))) else none
  | .raw _, .raw _ => if neg = true then none else gEqTy x y
  | x, y => if (dOk x && dOk y) = true then some (.bl (xor neg (eqT x y))) else none
theorem room65 {A : Around} {k : Nat} (r : Room k A) : A.units + 65 < cLine := by have := r.un; omega
theorem s_eqA (hG : Fm G K mg base P w N sc k) : OpS G K (compareOp .Eq) (gEqA false) := by
  intro H x y v u τ Q e rx ry hq
  unfold gEqA at e
  split at e
  · split at e
    · rename_i a b c
      cases e
      simp only [Bool.and_eq_true] at c
      obtain ⟨p, ks, rfl, h1, r1⟩ := rep_dic.mp rx
      obtain ⟨p', ks', rfl, h2, r2⟩ := rep_dic.mp ry
      refine ⟨fun x y H Q => ∃ a b lta lva ltb lvb, x = .ref a ∧ y = .ref b ∧ Rd H a (.dK lva) ∧ Rd H b (.dK lvb) ∧ RepsK K H lta lva ∧ RepsK K H ltb lvb ∧ dOkK lta = true ∧ dOkK ltb = true ∧ Q (.bl (xor false (lta.length == ltb.length && hitsD ltb lta))) H, fun i => ?_, p, p', a, ks, b, ks', rfl, rfl, h1, h2, r1, r2, c.1, c.2, hq _ H (Same.refl H) (rep_bl.mpr rfl)⟩
      rw [← hG.K i]
      exact op_eqDD (room65 (hG.room i))
    · cases e
  · split at e
    · cases e
    · exact s_eqTy H _ _ v u τ Q e rx ry hq
  · split at e
    · rename_i c
      cases e
      refine s_eq hG H x y v u _ Q (by unfold gEq; rw [if_pos c]) rx ry ?_
      simpa using hq
    · cases e
theorem s_neA (hG : Fm G K mg base P w N sc k) : OpS G K (compareOp .NotEq) (gEqA true) := by
  intro H x y v u τ Q e rx ry hq
  unfold gEqA at e
  split at e
  · split at e
    · rename_i a b c
      cases e
      simp only [Bool.and_eq_true] at c
      obtain ⟨p, ks, rfl, h1, r1⟩ := rep_dic.mp rx
      obtain ⟨p', ks', rfl, h2, r2⟩ := rep_dic.mp ry
      refine ⟨fun x y H Q => ∃ a b lta lva ltb lvb, x = .ref a ∧ y = .ref b ∧ Rd H a (.dK lva) ∧ Rd H b (.dK lvb) ∧ RepsK K H lta lva ∧ RepsK K H ltb lvb ∧ dOkK lta = true ∧ dOkK ltb = true ∧ Q (.bl (xor true (lta.length == ltb.length && hitsD ltb lta))) H, fun i => ?_, p, p', a, ks, b, ks', rfl, rfl, h1, h2, r1, r2, c.1, c.2, hq _ H (Same.refl H) (rep_bl.mpr rfl)⟩
      rw [← hG.K i]
      exact op_neDD (room65 (hG.room i))
    · cases e
  · split at e
    · cases e
    · rename_i h; simp at h
  · split at e
    · rename_i c
      cases e
      refine s_ne hG H x y v u _ Q (by unfold gNe; rw [if_pos c]) rx ry ?_
      simpa using hq
    · cases e

/-! ### in, of whatever -/
theorem op_inDv {X : Cx} (hu : X.A.units + 1 < cLine) : OpR X (compareOp .In) (fun y x H Q => ∃ a o, x = .ref a ∧ DGet H a y o ∧ Q (.bl o.isSome) H) := by
  intro pins s σ H y x v u Q I ry rx h
  obtain ⟨a, o, rfl, g, q⟩ := h
  obtain rfl : u = Value.ref a := rx
  exact d_in hu I g ry fun s' I' => ⟨.bl o.isSome, H, I', rfl, q⟩
theorem op_notInDv {X : Cx} (hu : X.A.units + 1 < cLine) : OpR X (compareOp .NotIn) (fun y x H Q => ∃ a o, x = .ref a ∧ DGet H a y o ∧ Q (.bl (!o.isSome)) H) := by
  intro pins s σ H y x v u Q I ry rx h
  obtain ⟨a, o, rfl, g, q⟩ := h
  obtain rfl : u = Value.ref a := rx
  exact d_notIn hu I g ry fun s' I' => ⟨.bl (!o.isSome), H, I', rfl, q⟩
def gInA (neg : Bool) (x y : T) : Option T := match y with
  | .dic kts => (keyOf x).map fun ky => .bl (xor neg (lookT kts ky).isSome)
  | y => gIn neg x y
theorem s_inA (hG : Fm G K mg base P w N sc k) : OpS G K (compareOp .In) (gInA false) := by
  intro H x y v u τ Q e rx ry hq
  unfold gInA at e
  split at e
  · rename_i kts
    cases e4 : keyOf x with
    | none => rw [e4] at e; cases e
    | some ky =>
      rw [e4] at e
      cases e
      obtain ⟨q, kvs, rfl, hrd, rr⟩ := rep_dic.mp ry
      refine ⟨_, fun i => op_inDv (hG.hu i), q, valV kvs ky, rfl, .inl ⟨kvs, ky, hrd, keyOf_rep e4 rx, rfl⟩, ?_⟩
      rw [look_isSome rr]
      exact hq _ H (Same.refl H) (rep_bl.mpr (by simp))
  · exact s_in hG.K H x y v u τ Q e rx ry hq
theorem s_notinA (hG : Fm G K mg base P w N sc k) : OpS G K (compareOp .NotIn) (gInA true) := by
  intro H x y v u τ Q e rx ry hq
  unfold gInA at e
  split at e
  · rename_i kts
    cases e4 : keyOf x with
    | none => rw [e4] at e; cases e
    | some ky =>
      rw [e4] at e
      cases e
      obtain ⟨q, kvs, rfl, hrd, rr⟩ := rep_dic.mp ry
      refine ⟨_, fun i => op_notInDv (hG.hu i), q, valV kvs ky, rfl, .inl ⟨kvs, ky, hrd, keyOf_rep e4 rx, rfl⟩, ?_⟩
      rw [look_isSome rr]
      exact hq _ H (Same.refl H) (rep_bl.mpr (by simp))
  · exact s_notin hG.K H x y v u τ Q e rx ry hq

/-! ### max(d, default=n) of a dict of int keys -/
def maxL (d : Int) : List Int → Int
  | [] => d
  | n :: ns => ns.foldl (fun a y => if a < y then y else a) n
theorem call_maxDD {X : Cx} (hcalm : X.calm = true) : CallRK X (.builtin "max") [Str.ofString "default"] (fun xs zs H Q => ∃ (a : Addr) (kvs : List (Key × V)) (ks : List Int) (d : Int), xs = [.ref a] ∧ zs = [.int d] ∧ Rd H a (.dK kvs) ∧ kvs.map (·.1) = ks.map Sum.inl ∧ Q (.int (maxL d ks)) H) := by
  intro pins s σ H xs zs us ws Q I r rz q
  obtain ⟨a, kvs, ks, d, ex, ez, hd, hks, q⟩ := q
  subst ex
  subst ez
  obtain ⟨u, eu, rx⟩ := vals1 r
  subst eu
  cases rx
  obtain ⟨w1, ew, rw1⟩ := vals1 rz
  subst ew
  obtain ⟨tk0, rfl⟩ := (show ∃ t, w1 = Value.int d t from rw1)
  obtain ⟨z, lo, vs, rel, dd⟩ := dk_rd I.hok hd
  obtain ⟨ep, hat⟩ := dd.dictAt
  have hkeys : vs.map (·.1) = ks.map Sum.inl := rel.keys.symm.trans hks
  have hl : vs.length = ks.length := by
    have e := congrArg List.length hkeys
    rw [List.length_map, List.length_map] at e
    exact e
  have KS := PySem.W.kdl_dict (prog := X.prog) (w := X.w) (knd := mixKind X.prog X.w) (kvs := vs) (ep := ep) lo
  obtain ⟨oI, St, hit, W, st⟩ := KS.iter X.A.in1 s (I.ok.hd hcalm) hat
  have keyAt : ∀ (i : Nat) (v : Value), (∃ k x, vs[i]? = some (k, x) ∧ (mixKind X.prog X.w).is k v = true) → ∃ (n : Int) (t : Tok), ks[i]? = some n ∧ v = .int n t := by
    rintro i v ⟨k, x, e1, e2⟩
    have e3 : (vs.map (·.1))[i]? = some k := by rw [List.getElem?_map, e1]; rfl
    rw [hkeys, List.getElem?_map] at e3
    cases e4 : ks[i]? with
    | none => rw [e4] at e3; cases e3
    | some y =>
      rw [e4] at e3
      have e5 : Sum.inl y = k := Option.some.inj e3
      subst e5
      rcases keyIs_shape (show keyIs (Sum.inl y) v = true from e2) with ⟨i, t, ek, ev⟩ | ⟨z, t, ek, ev⟩
      · cases ek
        exact ⟨y, t, rfl, ev⟩
      · cases ek
  show wpAny (model X.prog X.w) X.A (call (.builtin "max") [.ref a] [(Str.ofString "default", .int d tk0)]) _ _ _
  refine PySem.call_max_walkD (hit _ _ ⟨s.heap.objs.size, _, _, _, _, _, _, s.heap, fun i j => decide (ks.getD j 0 < ks.getD i 0), rfl, W.toS, st, fun b hb => ?_, fun b o e => ?_, fun b o e => Heap.get?_push_of_some _ e, fun hz s' m => ?_, fun hp => ⟨?_, fun v s' hP m => ?_⟩⟩)
  · show b < (s.heap.push oI).objs.size
    rw [size_push']
    rcases List.mem_cons.mp hb with e | hb
    · rw [e]; exact Nat.lt_succ_self _
    · rw [List.mem_singleton.mp hb]; exact Nat.lt_succ_of_lt (KS.there _ hat).2
  · intro hm
    rw [List.mem_singleton.mp hm] at e
    exact absurd (Heap.lt_size e) (Nat.lt_irrefl _)
  · obtain ⟨h', tk, rfl, hk'⟩ := PySem.W.moved_old (s := s) (o := oI) rfl rfl m
    have : ks = [] := List.eq_nil_of_length_eq_zero (by omega)
    subst this
    exact ⟨.int d, H, I.kept (t' := tk) hk', ⟨_, rfl⟩, q⟩
  · intro i j vi vj s2 Q2 E2 _ hi hj hq
    obtain ⟨n, t, e1, rfl⟩ := keyAt i vi hi
    obtain ⟨n', t', e2, rfl⟩ := keyAt j vj hj
    have g1 : ks.getD i 0 = n := by rw [List.getD_eq_getElem?_getD, e1]; rfl
    have g2 : ks.getD j 0 = n' := by rw [List.getD_eq_getElem?_getD, e2]; rfl
    dsimp only at hq
    rw [g1, g2] at hq
    show wpAny _ _ (compareOp .Gt _ _) _ _ _
    exact gt_int hq
  · obtain ⟨h', tk, rfl, hk'⟩ := PySem.W.moved_old (s := s) (o := oI) rfl rfl m
    obtain ⟨n, t, e1, rfl⟩ := keyAt _ v hP
    cases ks with
    | nil => rw [hl] at hp; exact absurd hp (Nat.lt_irrefl 0)
    | cons y ys =>
      have e2 := (PySem.W.argBest_fold (fun a b => decide (b < a)) (0 : Int) y ys ys.length (Nat.le_refl _)).2
      rw [List.take_length] at e2
      have e3 : vs.length - 1 = ys.length := by rw [hl]; rfl
      rw [e3] at e1
      have e4 : n = maxL d (y :: ys) := by
        have : (y :: ys).getD (argBest (fun i j => decide ((y :: ys).getD j 0 < (y :: ys).getD i 0)) ys.length) 0 = n := by
          rw [List.getD_eq_getElem?_getD, e1]; rfl
        rw [← this, e2]
        unfold maxL
        simp
      subst e4
      exact ⟨.int _, H, I.kept (t' := tk) hk', ⟨_, rfl⟩, q⟩
variable {e : Expr} {de : Env' → Option T} {pos p : Pos}
def gMaxD (d : Int) (o : Option T) : Option T := match o with
  | some (.dic kts) => (keysI kts).map fun ns => .int (maxL d ns)
  | _ => none
theorem ev_maxD (hG : Fm G K mg base P w N sc k) {kp kpos : Pos} {j : Nat} {d : Int} (hm : mg "max" = none) (ha : EV G K e de) (hg : glB sc "max" = true := by rfl)
    (he : ∀ i, backTo pos (starEach [e] (G i).env) = (false, eval e (G i).env) :: backTo pos (starEach [] (G i).env) := by intro _; rfl) (hpl : ∀ i, (backTo pos (starEach [e] (G i).env)).any (·.1) = false := by intro _; rfl)
    (hs1 : ∀ i, starEach [e] (G i).env = (false, eval e (G i).env) :: starEach [] (G i).env := by intro _; rfl)
    (hall : ∀ i, (backToKw pos (keywordEach [⟨some "default", .Constant (.int d) j kp, kpos⟩] (G i).env)).all (·.1.isSome) = true := by intro _; rfl) (hnone : ∀ i, (backToKw pos (keywordEach [⟨some "default", .Constant (.int d) j kp, kpos⟩] (G i).env)).any (·.1.isNone) = false := by intro _; rfl) (hks : ∀ i, (backToKw pos (keywordEach [⟨some "default", .Constant (.int d) j kp, kpos⟩] (G i).env)).filterMap (·.1) = [Str.ofString "default"] := by intro _; rfl) :
    EV G K (.Call (.Name "max" p) [e] [⟨some "default", .Constant (.int d) j kp, kpos⟩] pos) (fun ρ => gMaxD d (de ρ)) := by
  intro ρ σ H τ Q hE hd hq
  dsimp only at hd
  unfold gMaxD at hd
  split at hd
  · rename_i kts e1
    cases e2 : keysI kts with
    | none => rw [e2] at hd; cases hd
    | some ns =>
      rw [e2] at hd
      cases hd
      refine ⟨_, fun i => pe_callBK (call_maxDD (hG.calm i)) (gl_of hG hg i) (by rw [hG.mg i]; exact hm) (by decide +kernel) (pa_cons (pe_ts i) pa_nil (hs1 i)) (pk_cons pe_int pk_nil) (by decide) (by decide) (he i) (hpl i) (hall i) (hnone i) (hks i), ?_⟩
      refine ha ρ σ H _ _ hE e1 fun v H1 s1 r1 => ?_
      obtain ⟨q, kvs, rfl, hrd, rr⟩ := rep_dic.mp r1
      exact ⟨q, kvs, ns, d, rfl, rfl, hrd, keysI_rep e2 rr, hq _ H1 s1 (rep_int.mpr rfl)⟩
  · cases hd
end DL
namespace DL
open PySem PySem.Spec PyProof.Rows L2
variable {ι : Type} {G : ι → Cx} {K : PySem.W.Frag} {mg : Str → Option Value} {base : Heap} {P : Program} {w : World} {N : List Str} {sc : Scope} {k : Nat}
variable {fr : Bool} {ow ow' owl : List Nat}

/-! ### a text from behind -/
def revS (z : Str) : Str := ⟨z.cps.toList.reverse.toArray⟩
theorem krv_all' (a : Array Nat) : (List.range a.size).filterMap (a[·]?) = a.toList := by
  obtain ⟨l⟩ := a
  induction l with
  | nil => rfl
  | cons x xs ih =>
    simp only [List.size_toArray, List.length_cons, List.range_succ_eq_map, List.filterMap_cons, List.filterMap_map] at ih ⊢
    simp only [Function.comp_def, List.getElem?_toArray, List.getElem?_cons_zero, List.getElem?_cons_succ] at ih ⊢
    rw [ih]
theorem rev_picked (z : Str) : ((Builtin.Str.strSliceIndices none none (-1) z.length).filterMap (z.cps[·]?)).toArray = (revS z).cps := by
  show ((sliceRange ((z.cps.size : Int) - 1) (-1) (-1)).filterMap (z.cps[·]?)).toArray = _
  rw [PySem.W.krv_sliceRange, PySem.W.krv_range, List.filterMap_reverse, krv_all']
  rfl
variable {e : Expr} {de : Env' → Option T} {pos p1 p2 p3 : Pos} {j : Nat}
def tRevA (K : PySem.W.Frag) (te : TE) : TE := fun σ H Q => te σ H fun x H1 => ∃ z, x = .str z ∧ z.length ≤ sizeLine ∧ Q (.str (revS z)) H1
theorem pe_revS {X : Cx} {te : TE} (he : PE X e te) : PE X (.Subscript e (.Slice none none (some (.UnaryOp .USub (.Constant (.int 1) j p1) p2)) p3) pos) (tRevA X.K te) := by
  refine ⟨fun pins s σ H Q I h => ?_⟩
  refine Subscript_ (thn (he.run pins s σ H _ I h) fun v s1 ⟨x, H1, I1, r1, q1⟩ => ?_)
  obtain ⟨z, ex, hz, q⟩ := q1
  subst ex
  obtain ⟨t, rfl⟩ := r1
  have hst : PO X (some (.UnaryOp .USub (.Constant (.int 1) j p1) p2)) (tPart (tUn (rU fun i => .int (-i)) (tC (.int 1)))) := po_some (pe_un un_neg pe_int)
  refine wpAny_Slice (thn (po_none.run pins s1 σ H1 (fun o H2 => o = none ∧ H2 = H1) I1 ⟨rfl, rfl⟩) fun vl s2 ⟨l, H2, I2, pl, el, e2⟩ => ?_)
  subst el e2
  refine thn (po_none.run pins s2 σ H2 (fun o H3 => o = none ∧ H3 = H2) I2 ⟨rfl, rfl⟩) fun vu s3 ⟨u, H3, I3, pu, eu, e3⟩ => ?_
  subst eu e3
  refine thn (hst.run pins s3 σ H3 (fun o H4 => o = some (-1) ∧ H4 = H3) I3 ⟨1, rfl, -1, rfl, rfl, rfl⟩) fun vs s4 ⟨o, H4, I4, ps, eo, e4⟩ => ?_
  subst eo e4
  have I5 : Inv X pins σ H4 { s4 with heap := s4.heap.push { cls := .type "slice", data := .fields #[vl, vu, vs] } } := I4.kept (t' := s4.toks) fun b ob q => Heap.get?_push_of_some _ q
  show wpAny (model X.prog X.w) X.A (subscriptTail e (.Slice none none (some (.UnaryOp .USub (.Constant (.int 1) j p1) p2)) p3) (.str z t) (.ref s4.heap.objs.size)) (EP X pins σ Q) X.xe { s4 with heap := s4.heap.push { cls := .type "slice", data := .fields #[vl, vu, vs] } }
  cases pl
  cases pu
  cases ps with
  | int _ tk =>
  refine tail_any (ops := [.str z t, .ref s4.heap.objs.size]) (typeIs_str _ _ _) (F.slot_str_getitem.lookup) ?_ (by with_unfolding_all rfl)
  refine wpAny_getItem_str_slice (l := none) (u := none) (st := some (-1, tk)) ⟨_, Heap.get?_push_size _ rfl, rfl, rfl⟩ rfl ?_
  show Made.post (if ((-1 : Int) == 1 && _) = true then _ else Made.str ⟨((Builtin.Str.strSliceIndices none none (-1) z.length).filterMap (z.cps[·]?)).toArray⟩) _ _
  rw [if_neg (by rw [show ((-1 : Int) == 1) = false from rfl, Bool.false_and]; exact Bool.false_ne_true), rev_picked]
  have hz' : z.cps.size ≤ sizeLine := hz
  exact ⟨by show (revS z).cps.size ≤ _; unfold revS; simpa using hz', .str (revS z), H4, I5.tok _, ⟨_, rfl⟩, q⟩
def revSD (o : Option T) : Option T := match o with
  | some (.str z) => if z.length ≤ sizeLine then some (.str (revS z)) else none
  | _ => none
theorem ev_revS (hK : ∀ i, (G i).K = K) (ha : EV G K e de) : EV G K (.Subscript e (.Slice none none (some (.UnaryOp .USub (.Constant (.int 1) j p1) p2)) p3) pos) (fun ρ => revSD (de ρ)) := by
  intro ρ σ H τ Q he hd hq
  dsimp only at hd
  unfold revSD at hd
  split at hd
  · split at hd
    · rename_i z e1 c
      cases hd
      refine ⟨tRevA K (ES G e), fun i => by rw [← hK i]; exact pe_revS (pe_ts i), ?_⟩
      exact ha ρ σ H _ _ he e1 fun v H1 s1 r1 => ⟨z, rep_str.mp r1, c, hq _ H1 s1 (rep_str.mpr rfl)⟩
    · cases hd
  · cases hd

/-! ### the whole of a tuple by a slice -/
theorem getItem_tuple_whole {prog : Program} {w : World} {A : Around} {E : Value → Shared → Prop} {s : Shared} {t sl : Addr} {items : Array Value} {vl vu : Value} {lo hi : Option Int} {Q : Value → Shared → Prop} (ht : IsTup s.heap t items) (hs : s.heap.IsSliceOf sl vl vu .none) (pl : IsPart vl lo) (pu : IsPart vu hi)
    (hw : HT.sIx items.size 0 lo = 0 ∧ HT.sIx items.size items.size hi = items.size) (h : Q (.ref t) s) : wpAny (model prog w) A (getItem (.ref t) (.ref sl)) Q E s := by
  obtain ⟨os, hos, hcs, hds⟩ := id hs
  have hTs : s.TypeIs (.ref sl) "slice" := ⟨os, hos, hcs⟩
  unfold getItem
  try with_reducible refine wpAny_holding ?_
  first | refine wpAny_bind (wpAny_pure ?_) | skip
  refine wpAny_bind (wpAny_sequenceKey ht.typeIs (by decide) ?_)
  refine wpAny_bind (wpAny_callSpecial?_slot (name := Str.ofString "__getitem__") ht.typeIs PyProof.Rows.slot_tuple_getitem
    (wpAny_call_entry PyProof.Rows.slot_tuple_getitem ht.typeIs entry_tuple_getitem ?_ (args_tuple_getitem _ _)))
  show wpAny _ _ (Builtin.Tuple.tupleItemsOf (.ref t) >>= _) _ _ s
  refine wpAny_bind (tupleItemsOf_ ht ?_)
  refine wpAny_bind (wpAny_typeOf hTs ?_)
  rw [if_pos (by decide)]
  refine wpAny_bind (HT.sliceApplied_gen hs pl pu ?_)
  show wpAny _ _ (if (((HT.sIx items.size 0 lo : Nat) : Int) == 0 && (1 : Int) == 1 && (HT.sIx items.size items.size hi - HT.sIx items.size 0 lo) == items.size) = true then _ else _) _ _ s
  rw [if_pos (by rw [hw.1, hw.2]; simp)]
  have hex : ∀ (Q' : Bool → Shared → Prop), Q' true s → wpAny (model prog w) A.in1 (Builtin.Tuple.tupleIsExact (.ref t)) Q' E s := fun Q' hq => by
    unfold Builtin.Tuple.tupleIsExact
    refine wpAny_bind (wpAny_typeOf ht.typeIs (wpAny_pure ?_))
    simpa using hq
  refine wpAny_bind (hex _ ?_)
  rw [if_pos rfl]
  exact wpAny_bind (wpAny_rule (wpAny_pure ⟨_, rfl, wpAny_pure h⟩))
theorem sl_tupA {X : Cx} : SlR X (rSlA X.K) := by
  intro pins s σ H x v vl vu lo hi sl Q I rx hs pl pu h
  obtain ⟨a, xs, rfl, hx, h⟩ := h
  rcases h with ⟨hw, q⟩ | ⟨hw, q⟩
  · exact sl_tup pins s σ H _ v vl vu lo hi sl Q I rx hs pl pu ⟨a, xs, rfl, hx, hw, q⟩
  · cases rx
    obtain ⟨its, r, ht, hz⟩ := I.tuple hx
    have hlen : its.toArray.size = xs.length := by rw [List.size_toArray]; exact r.length.symm
    refine ⟨"tuple", _, PyProof.Rows.slot_tuple_getitem.lookup, ht.typeIs, ?_⟩
    exact getItem_tuple_whole ht hs pl pu (by rw [hlen]; exact hw) ⟨.ref a, H, I, rfl, q⟩
variable {a : Expr} {da : Env' → Option T} {lo hi : Option Expr} {dl dh : Env' → Option (Option Int)}
theorem ev_slc (hK : ∀ i, (G i).K = K) (ha : EV G K a da) (hl : PV G K lo dl) (hh : PV G K hi dh) : EV G K (.Subscript a (.Slice lo hi none p2) pos) (fun ρ => b3 gSl (da ρ) (dl ρ) (dh ρ)) := ev_slice hK ha hl hh fun i => sl_tupA
end DL
namespace DL
open PySem PySem.Spec PyProof.Rows L2
variable {ι : Type} {G : ι → Cx} {K : PySem.W.Frag} {mg : Str → Option Value} {base : Heap} {P : Program} {w : World} {N : List Str} {sc : Scope} {k : Nat}
variable {fr : Bool} {ow ow' owl : List Nat}
/-! ### the loops' denotations by name -/
def forI (bd : Env' → T → Option Env') (db : Env' → Out) (o : Option (List T)) (ρ : Env') : Out := match o with
  | some τs => forD bd db τs ρ
  | none => .er
def forK (lst : List (Key × T) → List T) (bd : Env' → T → Option Env') (db : Env' → Out) (o : Option T) (ρ : Env') : Out := match dicOf o with
  | some kts => forD bd db (lst kts) ρ
  | none => .er
def unpD (free : Bool) (bd : Env' → T → Option Env') (o : Option T) (ρ : Env') : Out := match o with
  | some τ => if (free || imm τ) = true then (match bd ρ τ with | some ρ' => .nx ρ' | none => .er) else .er
  | none => .er
variable {tg iter e : Expr} {bd : Env' → T → Option Env'} {body : List Stmt} {db : Env' → Out} {dl : Env' → Option (List T)} {de : Env' → Option T} {pos : Pos} {vs ts : List Nat}
theorem sv_forI (hG : Fm G K mg base P w N sc k) (hpo : ∀ i, PassesOwn (model (G i).prog (G i).w) (G i).A (G i).env (G i).xe) (hi : IV G K ow tg iter dl) (ht : TV G K ow tg vs bd) (hb : SV K fr ow ow ow (TSs G body) db)
    (hs : ∀ i x, foldedSetIterable iter (G i).env x = pure x := by intro _ _; rfl) : SV K fr ow ow owl (TSt G (.For tg iter body [] pos)) (fun ρ => forI bd db (dl ρ) ρ) := sv_for hG hpo hi ht hb hs
theorem sv_forKs {lst : List (Key × T) → List T} (hG : Fm G K mg base P w N sc k) (hpo : ∀ i, PassesOwn (model (G i).prog (G i).w) (G i).A (G i).env (G i).xe) (j : Nat) (nj : j ∉ ow) (hi : KI G K j tg iter lst) (ht : TV G K ow tg vs bd) (hb : SV K fr ow ow ow (TSs G body) db)
    (hs : ∀ i x, foldedSetIterable iter (G i).env x = pure x := by intro _ _; rfl) : SV K fr ow ow owl (TSt G (.For tg iter body [] pos)) (fun ρ => forK lst bd db (nd j ρ) ρ) := sv_forK hG hpo j nj hi ht hb hs
theorem sv_unp (h : EV G K e de) (ht : TV G K ow tg ts bd) (hs : ∀ i, swapsWithSole [tg] e pos.line (G i).env = pure false := by intro _; rfl) (hw : ∀ i, swappedStores [tg] e (G i).env = pure none := by intro _; rfl)
    (h1 : ∀ i, (assignEach [tg] (G i).env).map (·.2) = [assign tg (G i).env] := by intro _; rfl) : SV K fr ow ow owl (TSt G (.Assign [tg] e pos)) (fun ρ => unpD ow.isEmpty bd (de ρ) ρ) := sv_unpack h ht hs hw h1
end DL
namespace DL
open PySem PySem.Spec PyProof.Rows L2
variable {ι : Type} {G : ι → Cx} {K : PySem.W.Frag} {mg : Str → Option Value} {base : Heap} {P : Program} {w : World} {N : List Str} {sc : Scope} {k : Nat}
variable {fr : Bool} {ow ow' owl : List Nat}
/-- the promise of a def, at its own function object -/
theorem fn_ok {x : Str} {st : Stmt} {f : Addr} {fd : FuncData} {ps : List Str} {d : Env' → Out} {df : List T → Option T} (F : Fun K x x st f fd) (S : FnScope N ps (defScope st)) {ow' : List Nat}
    (body : ∀ (G : Unit → Cx), Fb G K mg base P w N (defScope st) k → SV K fr [] ow' [] (TSs G (defBody st)) d) (hd : ∀ ts, ts.length = ps.length → ∀ τ, df ts = some τ → fnD N fr d ts = some τ) :
    FnOk P w K mg base CX0 (k + 1) f fd ps (spD K ps.length fr df) := by
  have hpl : ps.length ≤ N.length := by
    have := congrArg List.length S.pre
    rw [List.length_take] at this
    omega
  refine F.ok S (fun vs H Q E h => ?_) (fun cdv A outer s H vs Q E hr h => ?_)
  · obtain ⟨ts, τ, r, hl, _⟩ := h
    rw [← r.length]; exact hl
  · obtain ⟨ts, τ, r, hl, e, q⟩ := h
    have e := hd ts hl τ e
    have hF : Fb (fun _ : Unit => (cxOf CX0 P w K mg base N x (defScope st) f cdv A outer s H E).nox) K mg base P w N (defScope st) k :=
      { K := fun _ => rfl, mg := fun _ => rfl, base := fun _ => rfl, P := fun _ => rfl, w := fun _ => rfl, N := fun _ => rfl, sc := fun _ => rfl, calm := fun _ => rfl, room := fun _ => hr,
        po := fun _ => PassesOwn.never, fb := ⟨fun _ _ => .inl rfl⟩ }
    refine ⟨_, pss_ss (G := fun _ : Unit => (cxOf CX0 P w K mg base N x (defScope st) f cdv A outer s H E).nox) (), ?_⟩
    refine body _ hF H (rho0 N ts) (L2.start N vs) H _ ⟨H, Same.refl H, start_str r (by omega)⟩ ?_
    unfold fnD at e
    split at e
    · rename_i t eo
      cases e
      rw [eo]
      exact fun v H' s r => q v H' s r
    · rename_i ρ' eo
      rw [eo]
      split at e
      · cases e
      · rename_i c
        cases e
        refine fun σ' H' hr' => q _ H' hr'.sm ?_
        unfold RtR
        rw [if_neg c]
        exact rep_non.mpr rfl
    · cases e
/-- a def that is never called -/
theorem cl_none {x : Str} {st : Stmt} {f : Addr} {fd : FuncData} {ps : List Str} {j n : Nat} (F : Fun K x x st f fd) (hm : mg x = some (.ref f)) (hb : Binds K fd ps []) : Cl P w K mg base j x (spD K n fr fun _ => none) :=
  ⟨⟨f, fd, ps, ⟨fun vs H Q E h => (by obtain ⟨ts, τ, r, hl, e, _⟩ := h; cases e), fun A outer s H args us vs Q E hr he hb hv h => (by obtain ⟨ts, τ, r, hl, e, _⟩ := h; cases e)⟩, hm, F.kp, hb⟩⟩
/-- list(d) too -/
def gListA : List T → Option T
  | [.dic kts] => some (.lst (kts.map fun p => keyT p.1))
  | ts => gList ts
theorem reps_keys {H : Hp} : ∀ {kts : List (Key × T)} {kvs : List (Key × V)}, RepsK K H kts kvs → Reps K H (kts.map fun p => keyT p.1) (kvs.map fun kv => kV kv.1)
  | [], kvs, h => by
    unfold RepsK at h
    subst h
    exact .nil
  | (ky, t) :: r, kvs, h => by
    unfold RepsK at h
    obtain ⟨v, kr, rfl, h1, h2⟩ := h
    exact .cons (keyT_rep ky) (reps_keys h2)
theorem c_listA (hG : Fm G K mg base P w N sc k) : ClF G K (.type "list") gListA := by
  intro H ts vs τ Q e r hq
  unfold gListA at e
  split at e
  · rename_i kts
    cases e
    obtain ⟨v, rfl, rv⟩ := reps1 r
    obtain ⟨a, kvs, rfl, q, rr⟩ := rep_dic.mp rv
    exact ⟨_, fun i => call_listD (hG.calm i), a, kvs, rfl, q, fun p np => hq p _ _ (same_upd' np) np upd_same (.inl ⟨_, _, rfl, rfl, (reps_keys rr).same (same_upd' np)⟩)⟩
  · exact c_list hG.K H ts vs τ Q e r hq
/-- the law's promise, from its denotation -/
theorem law_sp {K : PySem.W.Frag} {df : List T → Option T} (h : ∀ ns : List Int, ns.length ≤ 63 → df [.scr (ns.map T.int)] = some (.bl true)) (H : Hp) (a : Addr) (ns : List Int) (hl : ns.length ≤ 63) (hS : SqL K H a (ns.map V.int)) :
    spD K 1 false df [.ref a] H (fun v _ => v = .bl true) fun _ _ _ => False := by
  refine ⟨[.scr (ns.map T.int)], .bl true, ?_, rfl, h ns hl, fun v H' s r => rep_bl.mp (show Rep K H' (.bl true) v from r)⟩
  exact .cons (rep_scr.mpr ⟨a, _, rfl, hS, reps_ints ns⟩) .nil
end DL
namespace DL
open PySem PySem.Spec PyProof.Rows L2
section
variable {X : Cx}
/-! ### xs[a::n] -/
def stepIx (c : Nat) (lo : Option Int) (n : Nat) : List Nat :=
  sliceRange (sliceBounds lo none (some (c : Int)) n).1 (sliceBounds lo none (some (c : Int)) n).2.1 (sliceBounds lo none (some (c : Int)) n).2.2
theorem stepRange_len {c n : Nat} (hc : 0 < c) {st : Int} (hst : 0 ≤ st) : (sliceRange st n c).length ≤ n := by
  have h0 : (0 : Int) < c := by omega
  have h1 : (c : Int) > 0 := h0
  unfold sliceRange
  simp only [h1, if_true, List.length_map, List.length_range]
  by_cases h : st < (n : Int)
  · rw [if_pos h]
    have h2 : (n : Int) - st + c - 1 ≤ n * c := by
      have := Int.mul_nonneg (show (0 : Int) ≤ (n : Int) - 1 by omega) (show (0 : Int) ≤ (c : Int) - 1 by omega)
      rw [Int.sub_mul, Int.mul_sub] at this
      omega
    have := Int.ediv_le_of_le_mul h0 h2
    omega
  · rw [if_neg h]; simp
theorem stepIx_len {c : Nat} (hc : 0 < c) (lo : Option Int) (n : Nat) : (stepIx c lo n).length ≤ n := by
  have h1 : (c : Int) > 0 := by omega
  unfold stepIx sliceBounds
  cases lo with
  | none => simp only [Option.getD_some, h1, if_true]; exact stepRange_len hc (by omega)
  | some i => simp only [Option.getD_some, h1, if_true]; exact stepRange_len hc (by omega)
/-- every c-th item from lo on -/
def stepA {α : Type} (c : Nat) (lo : Option Int) (xs : List α) : List α := (stepIx c lo xs.length).filterMap (xs[·]?)
theorem paired_step {α β : Type} {R : α → β → Prop} {xs : List α} {ys : List β} (h : Paired R xs ys) : ∀ is : List Nat, Paired R (is.filterMap (xs[·]?)) (is.filterMap (ys[·]?))
  | [] => .nil
  | i :: is => by
    have ih := paired_step h is
    have hi : (∃ x y, xs[i]? = some x ∧ ys[i]? = some y ∧ R x y) ∨ (xs[i]? = none ∧ ys[i]? = none) := by
      clear ih
      induction h generalizing i with
      | nil => exact .inr ⟨by simp, by simp⟩
      | cons h1 h2 ihh =>
        cases i with
        | zero => exact .inl ⟨_, _, rfl, rfl, h1⟩
        | succ i => simpa using ihh i
    rcases hi with ⟨x, y, e1, e2, r⟩ | ⟨e1, e2⟩
    · rw [List.filterMap_cons_some e1, List.filterMap_cons_some e2]; exact .cons r ih
    · rw [List.filterMap_cons_none e1, List.filterMap_cons_none e2]; exact ih
def tStepL (K : PySem.W.Frag) (c : Nat) (te : TE) (tl : TO) : TE := fun σ H Q => te σ H fun x H1 => tl σ H1 fun lo H2 => ∃ a xs, x = .ref a ∧ SqL K H2 a xs ∧ ∀ p, H2 p = none → Q (.ref p) (upd H2 p (.lst (stepA c lo xs)))
theorem pe_stepL {e : Expr} {lo : Option Expr} {te : TE} {tl : TO} {c : Nat} {j : Nat} {p1 p3 pos : Pos} (hc : (c : Int) ≠ 0) (he : PE X e te) (hl : PO X lo tl) : PE X (.Subscript e (.Slice lo none (some (.Constant (.int (c : Int)) j p1)) p3) pos) (tStepL X.K c te tl) := by
  refine ⟨fun pins s σ H Q I h => ?_⟩
  refine Subscript_ (thn (he.run pins s σ H _ I h) fun v s1 ⟨x, H1, I1, r1, q1⟩ => ?_)
  have hst : PO X (some (.Constant (.int (c : Int)) j p1)) (tPart (tC (.int (c : Int)))) := po_some pe_int
  refine wpAny_Slice (thn (hl.run pins s1 σ H1 _ I1 q1) fun vl s2 ⟨l, H2, I2, pl, a, xs, ex, hx, q⟩ => ?_)
  subst ex
  cases r1
  refine thn (po_none.run pins s2 σ H2 (fun o H3 => o = none ∧ H3 = H2) I2 ⟨rfl, rfl⟩) fun vu s3 ⟨u, H3, I3, pu, eu, e3⟩ => ?_
  subst eu e3
  refine thn (hst.run pins s3 σ H3 (fun o H4 => o = some (c : Int) ∧ H4 = H3) I3 ⟨(c : Int), rfl, rfl, rfl⟩) fun vs s4 ⟨o, H4, I4, ps, eo, e4⟩ => ?_
  subst eo e4
  have I5 : Inv X pins σ H4 { s4 with heap := s4.heap.push { cls := .type "slice", data := .fields #[vl, vu, vs] } } := I4.kept (t' := s4.toks) fun b ob q => Heap.get?_push_of_some _ q
  obtain ⟨its, r, ht, hz⟩ := I5.list hx
  have hlen := r.length
  show wpAny (model X.prog X.w) X.A (subscriptTail e (.Slice lo none (some (.Constant (.int (c : Int)) j p1)) p3) (.ref a) (.ref s4.heap.objs.size)) (EP X pins σ Q) X.xe { s4 with heap := s4.heap.push { cls := .type "slice", data := .fields #[vl, vu, vs] } }
  refine tail_any (ops := [.ref a, .ref s4.heap.objs.size]) ht.isList.typeIs (PySem.slot_list_getitem.lookup) ?_ (by with_unfolding_all rfl)
  refine wpAny_getItem_list_slice ht.isList (Heap.IsSliceOf.new _ vl vu vs) pl pu ps (by intro z; cases z; exact hc rfl) ?_ (by rw [List.size_toArray]; omega)
  have hp : slicePick its.toArray l none (some (c : Int)) = (stepA c l its).toArray := by
    unfold slicePick stepA stepIx
    simp
  rw [hp]
  have hr : Vals (stepA c l xs) (stepA c l its) := by
    unfold stepA
    rw [hlen]
    exact paired_step r _
  have hle : (stepA c l xs).length ≤ sizeLine := by
    exact Nat.le_trans (Nat.le_trans (List.length_filterMap_le _ _) (stepIx_len (by omega) _ _)) hz
  refine ⟨.ref _, _, I5.laid (t' := s4.toks) (o := .lst (stepA c l xs)) (fun b ob q => Heap.get?_push_of_some _ q) (Nat.le_refl _) ?_, rfl, q _ (I5.hok.fresh (Nat.le_refl _))⟩
  exact ⟨hle, _, 0, hr, Heap.get?_push_size _ rfl⟩

/-! ### list(d.values()) -/
def tListVals (td : TE) : TE := fun σ H Q => td σ H fun x H1 => ∃ a kvs, x = V.ref a ∧ Rd H1 a (.dK kvs) ∧ ∀ p, H1 p = none → Q (.ref p) (upd H1 p (.lst (kvs.map fun kv => kv.2)))
theorem kv_snd {kvs : List (Key × V)} {vs : List (Key × Value)} (h : KV kvs vs) : Vals (kvs.map fun kv => kv.2) (vs.map fun kv => kv.2) := by
  unfold KV at h
  induction h with
  | nil => exact .nil
  | cons h1 _ ih => exact .cons h1.2 ih
theorem pe_listVals {o : Expr} {p pos apos mpos : Pos} {td : TE} (hc : X.calm = true) (hg : Gl X "list") (hm : X.mg "list" = none) (hd : PE X o td) (hbase : attributeBase o "values" X.env (eval o X.env) = eval o X.env := by rfl) (hline : (apos.endLine == mpos.line) = true := by rfl)
    (hse : starEach [Expr.Call (.Attribute o "values" apos) [] [] mpos] X.env = [(false, eval (Expr.Call (.Attribute o "values" apos) [] [] mpos) X.env)] := by rfl) :
    PE X (.Call (.Name "list" p) [.Call (.Attribute o "values" apos) [] [] mpos] [] pos) (tListVals td) := by
  refine ⟨fun pins s σ H Q I h => ?_⟩
  refine wpAny_Call_Name_kw (ld_blt I hg hm (u := .type "list") (by first | rfl | decide +kernel) ?_ (by first | decide +kernel | decide) (by first | decide +kernel | decide))
  rw [hse]
  refine PySem.callWith_type1 (wpAny_Call_method0_late hbase hline (thn (hd.run pins s σ H _ I h) fun v s1 ⟨x, H1, I1, r1, a, kvs, ex, ha, q⟩ => ?_))
  subst ex
  obtain rfl : v = Value.ref a := r1
  obtain ⟨hz, hsys, vs, rel, dof⟩ := dk_rd I1.hok ha
  obtain ⟨ep, dat⟩ := dof.dictAt
  have dat' := dat
  obtain ⟨ob, es, ho, ex, hdat, hko, hpr, hnd⟩ := dat'
  refine ⟨"dict", "dict.values", F.plainAttrs_dict, F.slot_dict_values, F.type_dict_values, ⟨ob, ho, ex.1⟩, fun b e => ?_, Calls.callWith_builtin rfl (PySem.evalArgs_none ?_)⟩
  · cases e
    exact ⟨ob, ho, ex.2.1⟩
  refine call_meetsIn F.slot_dict_values ⟨ob, ho, ex.1⟩ F.entry_dict_values (F.args_dict_values_1 _) (meets_dict_values (mixKind X.prog X.w) a hsys) ⟨⟨vs, dof⟩, ?_⟩
  have dat1 : (s1.heap.push { cls := .type "dict_values", data := .fields #[.ref a] }).DictAt (mixKind X.prog X.w) a vs ep := dat.keep fun b u e => Heap.get?_push_of_some _ e
  refine PySem.W.kdl_call (PySem.W.kdl_values (knd := mixKind X.prog X.w) (kvs := vs) (ep := ep) (r := s1.heap.objs.size)) (I.ok.hd hc) ⟨⟨_, Heap.get?_push_size _ rfl, rfl, rfl⟩, dat1⟩ (by rw [← rel.length]; exact hz) fun h' tk acc c' hk hD hacc => ?_
  have hvs : acc.toList = vs.map fun kv => kv.2 := PySem.W.kdl_vals_eq acc.toList (by rw [Array.length_toList]; exact hacc.1) fun j v e => hacc.2 j v (by rw [← Array.getElem?_toList]; exact e)
  have hsz : (s1.heap.push { cls := .type "dict_values", data := .fields #[.ref a] }).objs.size = s1.heap.objs.size + 1 := Heap.size_push _ _
  have keep : ∀ b o, s1.heap.get? b = some o → h'.get? b = some o := fun b o e => hk b o (Heap.get?_push_of_some _ e)
  have hfree : H1 (s1.heap.objs.size + 1) = none := I1.hok.fresh (Nat.le_succ _)
  rw [hsz] at hD
  refine ⟨.ref (s1.heap.objs.size + 1), upd H1 (s1.heap.objs.size + 1) (.lst (kvs.map fun kv => kv.2)), ?_, by rw [hsz]; rfl, q _ hfree⟩
  exact I1.laid (t' := tk) (o := .lst (kvs.map fun kv => kv.2)) keep (Nat.le_succ _) ⟨by rw [List.length_map]; exact hz, acc.toList, c', by rw [hvs]; exact kv_snd rel, by rw [Array.toArray_toList]; exact hD⟩
end
variable {ι : Type} {G : ι → Cx} {K : PySem.W.Frag} {mg : Str → Option Value} {base : Heap} {P : Program} {w : World} {N : List Str} {sc : Scope} {k : Nat}
theorem Reps.step {H : Hp} {ts : List T} {vs : List V} (h : Reps K H ts vs) (c : Nat) (lo : Option Int) : Reps K H (stepA c lo ts) (stepA c lo vs) := by
  unfold stepA
  rw [h.length]
  exact Reps.paired.mpr (paired_step (Reps.paired.mp h) _)
def stepD (c : Nat) (o : Option T) (l : Option (Option Int)) : Option T := match o, l with
  | some (.lst ts), some lo => if 0 < c then some (.lst (stepA c lo ts)) else none
  | _, _ => none
theorem evf_step (hK : ∀ i, (G i).K = K) {a : Expr} {da : Env' → Option T} {lo : Option Expr} {dl : Env' → Option (Option Int)} {c : Nat} {j : Nat} {p1 p3 pos : Pos} (ha : EV G K a da) (hl : PV G K lo dl) :
    EVF G K (.Subscript a (.Slice lo none (some (.Constant (.int (c : Int)) j p1)) p3) pos) (fun ρ => stepD c (da ρ) (dl ρ)) := by
  intro ρ σ H τ Q he hd hq
  dsimp only at hd
  unfold stepD at hd
  split at hd
  · rename_i ts l e1 e2
    split at hd
    · rename_i hc
      cases hd
      refine ⟨tStepL K c (ES G a) (OTs G lo), fun i => by rw [← hK i]; exact pe_stepL (by omega) (pe_ts i) (po_ot i), ?_⟩
      refine ha ρ σ H _ _ he e1 fun v H1 s1 r1 => ?_
      refine hl ρ σ H1 _ _ (he.same s1) e2 fun H2 s2 => ?_
      obtain ⟨p, vs, rfl, q, rr⟩ := rep_lst.mp (Rep.same s2 r1)
      exact ⟨p, vs, rfl, .inl (.inl q), fun p' np => hq p' _ _ ((s1.trans s2).trans (same_upd' np)) ((s1.trans s2).free np) upd_same (.inl ⟨_, _, rfl, rfl, (rr.step c l).same (same_upd' np)⟩)⟩
    · cases hd
  · cases hd
def valsD (o : Option T) : Option T := match o with
  | some (.dic kts) => some (.lst (kts.map fun p => p.2))
  | _ => none
theorem reps_vals {H : Hp} : ∀ {kts : List (Key × T)} {kvs : List (Key × V)}, RepsK K H kts kvs → Reps K H (kts.map fun p => p.2) (kvs.map fun kv => kv.2)
  | [], kvs, h => by
    unfold RepsK at h
    subst h
    exact .nil
  | (ky, t) :: r, kvs, h => by
    unfold RepsK at h
    obtain ⟨v, kr, rfl, h1, h2⟩ := h
    exact .cons h1 (reps_vals h2)
theorem evf_listvals (hG : Fm G K mg base P w N sc k) {o : Expr} {p pos apos mpos : Pos} {da : Env' → Option T} (hm : mg "list" = none) (ha : EV G K o da) (hg : glB sc "list" = true := by rfl)
    (hbase : ∀ i, attributeBase o "values" (G i).env (eval o (G i).env) = eval o (G i).env := by intro _; rfl) (hline : (apos.endLine == mpos.line) = true := by rfl)
    (hse : ∀ i, starEach [Expr.Call (.Attribute o "values" apos) [] [] mpos] (G i).env = [(false, eval (Expr.Call (.Attribute o "values" apos) [] [] mpos) (G i).env)] := by intro _; rfl) :
    EVF G K (.Call (.Name "list" p) [.Call (.Attribute o "values" apos) [] [] mpos] [] pos) (fun ρ => valsD (da ρ)) := by
  intro ρ σ H τ Q he hd hq
  dsimp only at hd
  unfold valsD at hd
  split at hd
  · rename_i kts e1
    cases hd
    refine ⟨tListVals (ES G o), fun i => pe_listVals (hG.calm i) (gl_of hG hg i) (by rw [hG.mg i]; exact hm) (pe_ts i) (hbase i) hline (hse i), ?_⟩
    refine ha ρ σ H _ _ he e1 fun v H1 s1 r1 => ?_
    obtain ⟨a, kvs, rfl, q, rr⟩ := rep_dic.mp r1
    exact ⟨a, kvs, rfl, q, fun p np => hq p _ _ (s1.trans (same_upd' np)) (s1.free np) upd_same (.inl ⟨_, _, rfl, rfl, (reps_vals rr).same (same_upd' np)⟩)⟩
  · cases hd
end DL
namespace DL
open PySem PySem.Spec PyProof.Rows L2
variable {ι : Type} {G : ι → Cx} {K : PySem.W.Frag} {mg : Str → Option Value} {base : Heap} {P : Program} {w : World} {N : List Str} {sc : Scope} {k : Nat}
variable {fr : Bool} {ow ow' owl : List Nat}
/-! ### zip -/
theorem walks_zipT {B : Hp} {a b : Addr} {xs ys : List T} {us vs : List V} (qa : SqT K B a us) (ra : Reps K B xs us) (qb : SqT K B b vs) (rb : Reps K B ys vs) : Walks K (RZ.ItzT K a b) B (zipL xs ys) := by
  refine ⟨fun i H s hi => ?_, fun i H s hi => ?_, fun i t H v H' s e y => ?_⟩
  · rw [zipL_length] at hi
    obtain ⟨u, e1, _⟩ := ra.get (i := i) (List.getElem?_eq_getElem (by omega))
    obtain ⟨v, e2, _⟩ := rb.get (i := i) (List.getElem?_eq_getElem (by omega))
    exact ⟨us, vs, u, v, same_sqT s qa, same_sqT s qb, e1, e2⟩
  · rw [zipL_length] at hi
    refine ⟨us, vs, same_sqT s qa, same_sqT s qb, ?_⟩
    rw [← ra.length, ← rb.length]
    omega
  · obtain ⟨t', u, v', rfl, nt, rfl, f1, f2⟩ := y
    obtain ⟨x, z, e1, e2, rfl⟩ := zipL_get e
    obtain ⟨u2, eu, ru⟩ := ra.get e1
    obtain ⟨v2, ev, rv⟩ := rb.get e2
    have h1 := f1 us (same_sqT s qa)
    have h2 := f2 vs (same_sqT s qb)
    rw [eu] at h1; cases h1
    rw [ev] at h2; cases h2
    refine ⟨same_upd' nt, rep_tup.mpr ⟨t', _, rfl, .inl (.inl (addT_newtup s nt)), ?_⟩⟩
    exact .cons (ru.same same_addT) (.cons (rv.same same_addT) .nil)
def zipI (a b : Option T) : Option (List T) := match a, b with
  | some (.lst xs), some (.lst ys) => some (zipL xs ys)
  | some (.tup xs), some (.tup ys) => some (zipL xs ys)
  | _, _ => none
theorem iv_zip (hG : Fm G K mg base P w N sc k) {elts : List Expr} {kk : Nat} {tpos : Pos} {a b : Expr} {da db : Env' → Option T} {p pos : Pos} (hm : mg "zip" = none) (h : EV G K a da) (h' : EV G K b db) (hg : glB sc "zip" = true := by rfl)
    (hs : ∀ i, starEach [a, b] (G i).env = [(false, eval a (G i).env), (false, eval b (G i).env)] := by intro _; rfl) (hs2 : ∀ i, starEach [b] (G i).env = [(false, eval b (G i).env)] := by intro _; rfl) :
    IV G K [] (.Tuple elts kk tpos) (.Call (.Name "zip" p) [a, b] [] pos) (fun ρ => zipI (da ρ) (db ρ)) := by
  intro B ρ σ H τs hr hd R hR
  dsimp only at hd
  have key : ∀ (τ τ' : T) (Q : V → V → Hp → Prop), da ρ = some τ → db ρ = some τ' →
      (∀ v v' H2 B2, Same B B2 → Same H H2 → StR' K B2 [] ρ σ H2 → Rep K B2 τ v → Rep K B2 τ' v' → Q v v' H2) →
      ES G a σ H fun v H1 => ES G b σ H1 fun v' H2 => Q v v' H2 := by
    intro τ τ' Q e1 e2 hQ
    refine h ρ σ H τ _ hr.env e1 fun v H1 s r => ?_
    refine h' ρ σ H1 τ' _ (hr.grow s).env e2 fun v' H2 s2 r2 => ?_
    obtain ⟨B1, sb1, q1, r1⟩ := (hr.grow (s.trans s2)).settle (.inl rfl) (Rep.same s2 r)
    obtain ⟨B2, sb2, q2, r3⟩ := q1.settle (.inl rfl) r2
    exact hQ v v' H2 B2 (sb1.trans sb2) (s.trans s2) q2 (Rep.same sb2 r1) r3
  unfold zipI at hd
  split at hd
  · rename_i xs ys e1 e2
    cases hd
    refine ⟨RZ.iZipA K (tCons (ES G a) (tCons (ES G b) tNil)), fun i => by rw [← hG.K i]; exact RZ.pi_zipA (gl_of hG hg i) (by rw [hG.mg i]; exact hm) (pa_cons (pe_ts i) (pa_cons (pe_ts i) pa_nil (hs2 i)) (by rw [hs i, hs2 i])) (by rw [hs i, hs2 i]) (by rw [hs2 i]; rfl), ?_⟩
    refine key _ _ _ e1 e2 fun v v' H2 B2 sb sh q r r' => ?_
    obtain ⟨x, us, rfl, qx, rx⟩ := rep_lst.mp r
    obtain ⟨y, vs, rfl, qy, ry⟩ := rep_lst.mp r'
    exact ⟨x, y, us, vs, rfl, .inl ⟨q.sm.seq (.inl (.inl qx)), q.sm.seq (.inl (.inl qy)), hR _ H2 B2 sb sh q (walks_zip (.inl (.inl qx)) rx (.inl (.inl qy)) ry)⟩⟩
  · rename_i xs ys e1 e2
    cases hd
    refine ⟨RZ.iZipA K (tCons (ES G a) (tCons (ES G b) tNil)), fun i => by rw [← hG.K i]; exact RZ.pi_zipA (gl_of hG hg i) (by rw [hG.mg i]; exact hm) (pa_cons (pe_ts i) (pa_cons (pe_ts i) pa_nil (hs2 i)) (by rw [hs i, hs2 i])) (by rw [hs i, hs2 i]) (by rw [hs2 i]; rfl), ?_⟩
    refine key _ _ _ e1 e2 fun v v' H2 B2 sb sh q r r' => ?_
    obtain ⟨x, us, rfl, qx, rx⟩ := rep_tup.mp r
    obtain ⟨y, vs, rfl, qy, ry⟩ := rep_tup.mp r'
    exact ⟨x, y, us, vs, rfl, .inr ⟨same_sqT q.sm qx, same_sqT q.sm qy, hR _ H2 B2 sb sh q (walks_zipT qx rx qy ry)⟩⟩
  · cases hd
end DL
/-! DL18: list(zip(xs, ys)) of two lists. -/
namespace ZL
open PySem PySem.Calls PyProof.Rows PySem.Spec PySem.W
theorem zip_no_len : typeLookup (.type "zip") "__len__" = pure none := am_miss_of_fast (by decide +kernel)
theorem zip_no_hint : typeLookup (.type "zip") "__length_hint__" = pure none := am_miss_of_fast (by decide +kernel)
section
variable {prog : Program} {w : World} {A : Around} {E : Value → Shared → Prop} {s : Shared}
theorem hint {r : Addr} (hT : s.TypeIs (.ref r) "zip") {Q : Bool → Shared → Prop} (h : Q true s) : wpAny (model prog w) A (Builtin.List.listLengthHint (.ref r)) Q E s := by
  unfold Builtin.List.listLengthHint
  refine wpAny_bind (wpAny_specialOf hT zip_no_len ?_)
  refine wpAny_ite_split (fun hab => absurd hab (by decide)) (fun _ => ?_)
  refine wpAny_ite_split (fun hab => absurd hab (by decide)) (fun _ => ?_)
  refine wpAny_bind (wpAny_specialOf hT zip_no_hint ?_)
  exact wpAny_pure h
end
/-- a zip in its turn i, while the list S is being filled -/
structure St (z TI TO i1 i2 l1 l2 S : Addr) (xs ys : Array Value) (i : Nat) (h : Heap) : Prop where
  pTI : IsPair h TI (.ref i1) (.ref i2)
  la : h.IsListIter i1 l1 i
  lb : h.IsListIter i2 l2 i
  lx : h.IsList l1 xs
  ly : h.IsList l2 ys
  zp : (IsZip h z TI TO .none ∧ ∃ a b, IsPair h TO a b) ∨ ∃ T f oT, IsZipHeld h z TI TO T f ∧ h.get? T = some oT ∧ T ≠ z ∧ T ≠ i1 ∧ T ≠ i2 ∧ T ≠ S
/-- S is none of the zip's own things -/
structure Off (z TI TO i1 i2 l1 l2 S : Addr) : Prop where
  z : z ≠ S
  TI : TI ≠ S
  TO : TO ≠ S
  a : i1 ≠ S
  b : i2 ≠ S
  x : l1 ≠ S
  y : l2 ≠ S
section
variable {z TI TO i1 i2 l1 l2 S : Addr} {xs ys : Array Value}
theorem St.frame (o : Off z TI TO i1 i2 l1 l2 S) {i : Nat} {h h' : Heap} (st : St z TI TO i1 i2 l1 l2 S xs ys i h) (hk : ∀ b o, b ≠ S → h.get? b = some o → h'.get? b = some o) : St z TI TO i1 i2 l1 l2 S xs ys i h' := by
  refine ⟨hk _ _ o.TI st.pTI, st.la.at fun q e => hk _ q o.a e, st.lb.at fun q e => hk _ q o.b e, st.lx.at fun q e => hk _ q o.x e, st.ly.at fun q e => hk _ q o.y e, ?_⟩
  rcases st.zp with ⟨hz, a, b, hTO⟩ | ⟨T, f, oT, hz, hT, r1, r2, r3, r4⟩
  · exact .inl ⟨hk _ _ o.z hz, a, b, hk _ _ o.TO hTO⟩
  · exact .inr ⟨T, f, oT, hk _ _ o.z hz, hk _ _ r4 hT, r1, r2, r3, r4⟩
variable {prog : Program} {w : World} {A : Around} {E : Value → Shared → Prop} {s : Shared}
theorem item (D : ZipApart z TI TO i1 i2 l1 l2) {i : Nat} {x y : Value} {Q : Option Value → Shared → Prop} (st : St z TI TO i1 i2 l1 l2 S xs ys i s.heap) (hS : S < s.heap.objs.size) (ex : xs[i]? = some x) (ey : ys[i]? = some y)
    (hQ : ∀ h', St z TI TO i1 i2 l1 l2 S xs ys (i + 1) h' → IsPair h' s.heap.objs.size x y → h'.objs.size = s.heap.objs.size + 1 → (∀ c o, c ≠ z → c ≠ TO → c ≠ i1 → c ≠ i2 → s.heap.get? c = some o → h'.get? c = some o) → Q (some (.ref s.heap.objs.size)) { s with heap := h' }) :
    wpAny (model prog w) A (pyNext (.ref z)) Q E s := by
  obtain ⟨hTI, h1, h2, hl1, hl2, hz⟩ := st
  have lt : ∀ {c o}, s.heap.get? c = some o → s.heap.objs.size ≠ c := fun e => Nat.ne_of_gt (Heap.lt_size e)
  have n1 : s.heap.objs.size ≠ i1 := let ⟨_, e, _⟩ := h1; lt e
  have n2 : s.heap.objs.size ≠ i2 := let ⟨_, e, _⟩ := h2; lt e
  rcases hz with ⟨hz, a, b, hTO⟩ | ⟨T, f, oT, hz, hT, r1, r2, r3, r4⟩
  · refine wpAny_pyNext_zip_item D hz hTI hTO h1 h2 hl1 hl2 ex ey fun h' a1 a2 a3 a4 a5 a6 hk => ?_
    exact hQ h' ⟨hk _ _ D.TIz D.TITO D.TIi1 D.TIi2 hTI, a3, a4, hl1.at fun o e => hk _ o D.l1z D.l1TO D.l1i1 D.l1i2 e, hl2.at fun o e => hk _ o D.l2z D.l2TO D.l2i1 D.l2i2 e,
        .inr ⟨s.heap.objs.size, false, _, a1, a5, lt hz, n1, n2, Nat.ne_of_gt hS⟩⟩ a5 a6 hk
  · refine wpAny_pyNext_zip_item_held D hz hT hTI h1 h2 hl1 hl2 ex ey fun h' a1 a3 a4 a5 a6 hk => ?_
    exact hQ h' ⟨hk _ _ D.TIz D.TIi1 D.TIi2 hTI, a3, a4, hl1.at fun o e => hk _ o D.l1z D.l1i1 D.l1i2 e, hl2.at fun o e => hk _ o D.l2z D.l2i1 D.l2i2 e,
        .inr ⟨T, true, oT, a1, hk _ _ r1 r2 r3 hT, r1, r2, r3, r4⟩⟩ a5 a6 fun c o c1 _ c3 c4 e => hk c o c1 c3 c4 e
theorem done (hA : A.handled = none) (D : ZipApart z TI TO i1 i2 l1 l2) {i : Nat} {Q : Option Value → Shared → Prop} (st : St z TI TO i1 i2 l1 l2 S xs ys i s.heap) (hend : xs[i]? = none ∨ ys[i]? = none)
    (hQ : ∀ h', (∀ c o, c ≠ z → c ≠ TO → c ≠ i1 → c ≠ i2 → s.heap.get? c = some o → h'.get? c = some o) → Q none { s with heap := h' }) :
    wpAny (model prog w) A (pyNext (.ref z)) Q E s := by
  obtain ⟨hTI, h1, h2, hl1, hl2, hz⟩ := st
  rcases hz with ⟨hz, a, b, hTO⟩ | ⟨T, f, oT, hz, hT, r1, r2, r3, r4⟩
  · exact wpAny_pyNext_zip_end hA D hz hTI hTO h1 h2 hl1 hl2 hend fun h' hk => hQ h' fun c o c1 c2 c3 c4 e => hk c o c1 c2 c3 c4 e
  · exact wpAny_pyNext_zip_end_held hA D hz hT hTI h1 h2 hl1 hl2 hend fun h' hk => hQ h' fun c o c1 _ c3 c4 e => hk c o c1 c3 c4 e
end
/-- as hold the pairs, in order -/
structure Got (xs ys : Array Value) (lo : Addr) (h : Heap) (as : List Addr) : Prop where
  rise : as.Pairwise (· < ·)
  above : ∀ a ∈ as, lo ≤ a
  pairs : ∀ (j : Nat) (a : Addr), as[j]? = some a → ∃ x y, xs[j]? = some x ∧ ys[j]? = some y ∧ IsPair h a x y
section
variable {prog : Program} {w : World} {A : Around} {s : Shared} {R : Result → Shared → Prop} {z TI TO i1 i2 l1 l2 S : Addr} {xs ys : Array Value}
theorem loop (hh : A.handled = none) (D : ZipApart z TI TO i1 i2 l1 l2) (o : Off z TI TO i1 i2 l1 l2 S) (hn : min xs.size ys.size ≤ sizeLine) (res : Value) {h₁ : Heap} {lo : Nat} (hlo : S < lo) (hz : z < lo) (hTO : TO < lo) (ha : i1 < lo) (hb : i2 < lo)
    (hR : ∀ h' tk acc c as, (∀ b o, b ≠ S → b ≠ z → b ≠ TO → b ≠ i1 → b ≠ i2 → h₁.get? b = some o → h'.get? b = some o) → h'.get? S = some { cls := .type "list", dict := none, data := .seq acc c, slots := #[] } → as.length = min xs.size ys.size → Got xs ys lo h' as →
      acc.toList = as.map Value.ref → R (.ok (.ret res)) { s with heap := h', toks := tk }) :
    ∀ (k i : Nat) (h : Heap) (tk c : Nat) (acc : Array Value) (as : List Addr), min xs.size ys.size - i = k → i ≤ min xs.size ys.size → St z TI TO i1 i2 l1 l2 S xs ys i h → (∀ b o, b ≠ S → b ≠ z → b ≠ TO → b ≠ i1 → b ≠ i2 → h₁.get? b = some o → h.get? b = some o) →
      h.get? S = some { cls := .type "list", dict := none, data := .seq acc c, slots := #[] } → acc.toList = as.map Value.ref → as.length = i → Got xs ys lo h as → lo ≤ h.objs.size →
      codeAny (model prog w) A (.builtin "list.extend.loop" ⟨[.ref S, .ref z, res], []⟩) R { s with heap := h, toks := tk } := by
  intro k
  induction k with
  | zero =>
    intro i h tk c acc as hk hi hst hkeep hS hacc hal hG hIs
    refine codeAny_builtin PySem.F.entry_extend_loop ?_
    rw [Around.under_plainId PySem.F.plain_extend_loop _]
    show wpAny _ A.in1 (pyNext (.ref z) >>= _) _ _ _
    have hend : xs[i]? = none ∨ ys[i]? = none := by
      rcases Nat.le_total xs.size ys.size with q | q
      · exact .inl (Array.getElem?_eq_none (by omega))
      · exact .inr (Array.getElem?_eq_none (by omega))
    refine wpAny_bind (done (s := { s with heap := h, toks := tk }) (A := A.in1) hh D hst hend fun h' he => ?_)
    refine wpAny_pure (hR h' tk acc c as (fun b q b1 b2 b3 b4 b5 e => he b q b2 b3 b4 b5 (hkeep b q b1 b2 b3 b4 b5 e)) (he S _ (Ne.symm o.z) (Ne.symm o.TO) (Ne.symm o.a) (Ne.symm o.b) hS) (by omega) ⟨hG.rise, hG.above, fun j a hj => ?_⟩ hacc)
    obtain ⟨x, y, e1, e2, e3⟩ := hG.pairs j a hj
    have hab := hG.above a (List.mem_of_getElem? hj)
    exact ⟨x, y, e1, e2, he a _ (Nat.ne_of_gt (Nat.lt_of_lt_of_le hz hab)) (Nat.ne_of_gt (Nat.lt_of_lt_of_le hTO hab)) (Nat.ne_of_gt (Nat.lt_of_lt_of_le ha hab)) (Nat.ne_of_gt (Nat.lt_of_lt_of_le hb hab)) e3⟩
  | succ k ih =>
    intro i h tk c acc as hk hi hst hkeep hS hacc hal hG hIs
    have hlx : i < xs.size := by omega
    have hly : i < ys.size := by omega
    have hsz : acc.size = i := by rw [← Array.length_toList, hacc, List.length_map, hal]
    refine codeAny_builtin PySem.F.entry_extend_loop ?_
    rw [Around.under_plainId PySem.F.plain_extend_loop _]
    show wpAny _ A.in1 (pyNext (.ref z) >>= _) _ _ _
    refine wpAny_bind (item (s := { s with heap := h, toks := tk }) (S := S) D hst (Heap.lt_size hS) (Array.getElem?_eq_getElem hlx) (Array.getElem?_eq_getElem hly) fun h' hst' ht hz' hkp => ?_)
    dsimp only at ht hz' hkp ⊢
    have hS' := hkp S _ (Ne.symm o.z) (Ne.symm o.TO) (Ne.symm o.a) (Ne.symm o.b) hS
    have up : ∀ b q, b ≠ S → h'.get? b = some q → (h'.update S (Obj.mapSeq (·.push (Value.ref h.objs.size)))).get? b = some q := fun b q hb e => (Heap.get?_update_other _ _ (Ne.symm hb)).trans e
    have hSl : S < h.objs.size := Heap.lt_size hS
    show wpAny _ A.in1 (updateSeq S (·.push (Value.ref h.objs.size)) >>= _) _ _ _
    refine wpAny_bind ?_
    refine wpAny_updateSeq hS' rfl (wpAny_pure ⟨plainId_quiet PySem.F.plain_extend_loop _, ih (i + 1) _ tk _ (acc.push (Value.ref h.objs.size)) (as ++ [h.objs.size]) (by omega) (by omega) (hst'.frame o up)
      (fun b q b1 b2 b3 b4 b5 e => up b q b1 (hkp b q b2 b3 b4 b5 (hkeep b q b1 b2 b3 b4 b5 e))) (Heap.get?_update_self _ hS' rfl) (by rw [Array.toList_push, hacc, List.map_append]; rfl) (by rw [List.length_append, hal]; rfl) ⟨?_, ?_, ?_⟩ ?_⟩) (by rw [hsz]; omega) (by show (acc.push (Value.ref h.objs.size)).size ≤ sizeLine + 1; rw [Array.size_push, hsz]; omega)
    · refine List.pairwise_append.mpr ⟨hG.rise, List.pairwise_singleton _ _, fun a hm b hb' => ?_⟩
      rw [List.mem_singleton.mp hb']
      obtain ⟨j, hj⟩ := List.mem_iff_getElem?.mp hm
      obtain ⟨_, _, _, _, e3⟩ := hG.pairs j a hj
      exact Heap.lt_size e3
    · intro a hm
      rcases List.mem_append.mp hm with hm | hm
      · exact hG.above a hm
      · rw [List.mem_singleton.mp hm]; exact hIs
    · intro j b hj
      rcases Nat.lt_trichotomy j as.length with h1 | h1 | h1
      · rw [List.getElem?_append_left h1] at hj
        obtain ⟨x, y, e1, e2, e3⟩ := hG.pairs j b hj
        have hab := hG.above b (List.mem_of_getElem? hj)
        exact ⟨x, y, e1, e2, up b _ (Nat.ne_of_gt (Nat.lt_of_lt_of_le hlo hab)) (hkp b _ (Nat.ne_of_gt (Nat.lt_of_lt_of_le hz hab)) (Nat.ne_of_gt (Nat.lt_of_lt_of_le hTO hab)) (Nat.ne_of_gt (Nat.lt_of_lt_of_le ha hab)) (Nat.ne_of_gt (Nat.lt_of_lt_of_le hb hab)) e3)⟩
      · subst h1
        have hbq : h.objs.size = b := by simpa using hj
        subst hbq
        subst hal
        exact ⟨_, _, Array.getElem?_eq_getElem hlx, Array.getElem?_eq_getElem hly, up _ _ (Nat.ne_of_gt hSl) ht⟩
      · have hnone : (as ++ [h.objs.size])[j]? = none := List.getElem?_eq_none (by rw [List.length_append, List.length_singleton]; omega)
        rw [hnone] at hj; cases hj
    · have e : (h'.update S (Obj.mapSeq (·.push (Value.ref h.objs.size)))).get? h.objs.size = _ := up _ _ (Nat.ne_of_gt hSl) ht
      exact Nat.le_trans hIs (Nat.le_of_lt (Heap.lt_size e))
end
section
variable {prog : Program} {w : World} {A : Around} {E : Value → Shared → Prop} {s : Shared} {z TI TO i1 i2 l1 l2 : Addr} {xs ys : Array Value}
theorem extend {R : Result → Shared → Prop} (hh : A.handled = none) (D : ZipApart z TI TO i1 i2 l1 l2) {S : Addr} (o : Off z TI TO i1 i2 l1 l2 S) (hst : St z TI TO i1 i2 l1 l2 S xs ys 0 s.heap) (hz : IsZip s.heap z TI TO .none) (res : Value) (c₀ : Nat) (hS : s.heap.get? S = some { cls := .type "list", data := .seq #[] c₀ }) (hTOl : TO < s.heap.objs.size)
    (hR : ∀ h' tk acc c as, (∀ b o, b ≠ S → b ≠ z → b ≠ TO → b ≠ i1 → b ≠ i2 → s.heap.get? b = some o → h'.get? b = some o) → h'.get? S = some { cls := .type "list", dict := none, data := .seq acc c, slots := #[] } → as.length = min xs.size ys.size → Got xs ys s.heap.objs.size h' as →
      acc.toList = as.map Value.ref → R (.ok (.ret res)) { s with heap := h', toks := tk }) (hn : min xs.size ys.size ≤ sizeLine) :
    wpAny (model prog w) A.in1 (Builtin.List.listExtendWith (.ref S) (.ref z) res)
      (fun fin s' => match fin with | .done f => R (.ok f) s' | .again c' => c'.quiet = true ∧ codeAny (model prog w) A c' R s') (fun e s' => R (.error e) s') s := by
  have hT : s.TypeIs (.ref z) "zip" := ⟨_, hz, rfl⟩
  have hzl : z < s.heap.objs.size := Heap.lt_size hz
  have hSl : S < s.heap.objs.size := Heap.lt_size hS
  have hal : i1 < s.heap.objs.size := let ⟨_, e, _⟩ := hst.la; Heap.lt_size e
  have hbl : i2 < s.heap.objs.size := let ⟨_, e, _⟩ := hst.lb; Heap.lt_size e
  unfold Builtin.List.listExtendWith
  refine wpAny_bind (wpAny_typeOf (T := "zip") hT ?_)
  have h1 : Builtin.List.listSameRef (.ref S) (.ref z) = false := by simp [Builtin.List.listSameRef, Ne.symm o.z]
  have h2 : (Value.type "zip" == Value.type "list") = false := by decide
  have h3 : (Value.type "zip" == Value.type "tuple") = false := by decide
  simp only [h1, h2, h3, Bool.or_false, Bool.false_eq_true, if_false]
  refine wpAny_bind (wpAny_pyIter_zip hz ?_)
  refine wpAny_bind (wpAny_holding (hint hT ?_))
  refine wpAny_ite_split (fun _ => ?_) (fun hab => absurd hab (by simp))
  refine wpAny_bind (wpAny_rule ?_)
  refine wpAny_bind ?_
  show wpAny _ _ (updateSeq S (·.push .none) >>= fun _ => updateSeq S (·.pop)) _ _ _
  refine wpAny_bind (wpAny_updateSeq hS rfl ?_)
  have hS₂ := Heap.get?_update_self (Obj.mapSeq (·.push Value.none)) hS rfl
  refine wpAny_updateSeq (hz := by seq_fits) hS₂ rfl ?_
  have hS₃ := Heap.get?_update_self (Obj.mapSeq (·.pop)) hS₂ rfl
  have hk : ∀ b q, b ≠ S → s.heap.get? b = some q → ((s.heap.update S (Obj.mapSeq (·.push Value.none))).update S (Obj.mapSeq (·.pop))).get? b = some q := fun b q hb e =>
    (Heap.get?_update_other _ _ (Ne.symm hb)).trans ((Heap.get?_update_other _ _ (Ne.symm hb)).trans e)
  refine wpAny_pure ⟨plainId_quiet PySem.F.plain_extend_loop _, ?_⟩
  refine loop (s := s) (h₁ := s.heap) (lo := s.heap.objs.size) hh D o hn res hSl hzl hTOl hal hbl hR (min xs.size ys.size) 0 _ _ _ #[] [] (Nat.sub_zero _) (Nat.zero_le _) (hst.frame o hk) (fun b q b1 _ _ _ _ e => hk b q b1 e) hS₃ rfl rfl ⟨List.Pairwise.nil, (fun _ hm => nomatch hm), fun j a hj => by simp at hj⟩ ?_
  rw [Heap.size_update, Heap.size_update]
  exact Nat.le_refl _

theorem St.init {z TI TO i1 i2 l1 l2 S : Addr} {xs ys : Array Value} {h : Heap} (hz : IsZip h z TI TO .none) (hTI : IsPair h TI (.ref i1) (.ref i2)) (hTO : IsPair h TO .none .none) (h1 : h.IsListIter i1 l1 0) (h2 : h.IsListIter i2 l2 0) (hx : h.IsList l1 xs) (hy : h.IsList l2 ys) : St z TI TO i1 i2 l1 l2 S xs ys 0 h :=
  ⟨hTI, h1, h2, hx, hy, .inl ⟨hz, _, _, hTO⟩⟩
theorem init {R : Result → Shared → Prop} (hh : A.handled = none) (D : ZipApart z TI TO i1 i2 l1 l2) {S : Addr} (o : Off z TI TO i1 i2 l1 l2 S) (hst : St z TI TO i1 i2 l1 l2 S xs ys 0 s.heap) (hz : IsZip s.heap z TI TO .none) (hTOl : TO < s.heap.objs.size) (hS : s.heap.get? S = some { cls := .type "list", data := .seq #[] })
    (hR : ∀ h' tk acc c as, (∀ b o, b ≠ S → b ≠ z → b ≠ TO → b ≠ i1 → b ≠ i2 → s.heap.get? b = some o → h'.get? b = some o) → h'.get? S = some { cls := .type "list", dict := none, data := .seq acc c, slots := #[] } → as.length = min xs.size ys.size → Got xs ys s.heap.objs.size h' as →
      acc.toList = as.map Value.ref → R (.ok (.ret .none)) { s with heap := h', toks := tk }) (hn : min xs.size ys.size ≤ sizeLine) :
    wpAny (model prog w) A.in1 (Builtin.«list.__init__» ⟨[.ref S, .ref z], []⟩)
      (fun fin s' => match fin with | .done f => R (.ok f) s' | .again c' => c'.quiet = true ∧ codeAny (model prog w) A c' R s') (fun e s' => R (.error e) s') s := by
  show wpAny _ _ (do let old ← Builtin.List.listItems (.ref S); Builtin.List.listUpdate (.ref S) (fun _ => #[]); letGo old.toList.reverse; Builtin.List.listExtendWith (.ref S) (.ref z) .none) _ _ s
  refine wpAny_bind ?_
  unfold Builtin.List.listItems
  refine wpAny_bind (wpAny_seqItems hS rfl (wpAny_pure ?_))
  show wpAny _ _ (updateSeq S (fun _ => #[]) >>= fun _ => letGo (#[] : Array Value).toList.reverse >>= fun _ => Builtin.List.listExtendWith (.ref S) (.ref z) .none) _ _ s
  refine wpAny_bind (wpAny_updateSeq hS rfl ?_)
  have hS₂ := Heap.get?_update_self (Obj.mapSeq (fun _ => (#[] : Array Value))) hS rfl
  have oth : ∀ b o, b ≠ S → s.heap.get? b = some o → (s.heap.update S (Obj.mapSeq (fun _ => (#[] : Array Value)))).get? b = some o :=
    fun b o hb e => (Heap.get?_update_other _ _ (Ne.symm hb)).trans e
  have hsz : (s.heap.update S (Obj.mapSeq (fun _ => (#[] : Array Value)))).objs.size = s.heap.objs.size := Heap.size_update ..
  refine wpAny_bind (wpAny_letGo ?_)
  refine extend hh D o (hst.frame o oth) (oth _ _ o.z hz) .none _ hS₂ (by rw [hsz]; exact hTOl) (fun h' tk acc c as hk hS' hl hG hacc => ?_) hn
  dsimp only at hG
  rw [hsz] at hG
  exact hR h' tk acc c as (fun b q b1 b2 b3 b4 b5 e => hk b q b1 b2 b3 b4 b5 (oth b q b1 e)) hS' hl hG hacc
theorem call_list {Q : Value → Shared → Prop} (hh : A.handled = none) (D : ZipApart z TI TO i1 i2 l1 l2) (hz : IsZip s.heap z TI TO .none) (hTI : IsPair s.heap TI (.ref i1) (.ref i2)) (hTO : IsPair s.heap TO .none .none) (h1 : s.heap.IsListIter i1 l1 0) (h2 : s.heap.IsListIter i2 l2 0) (hx : s.heap.IsList l1 xs) (hy : s.heap.IsList l2 ys) (hn : min xs.size ys.size ≤ sizeLine)
    (hQ : ∀ h' tk acc c as, (∀ b o, b ≠ z → b ≠ TO → b ≠ i1 → b ≠ i2 → s.heap.get? b = some o → h'.get? b = some o) → h'.get? s.heap.objs.size = some { cls := .type "list", dict := none, data := .seq acc c, slots := #[] } → as.length = min xs.size ys.size → Got xs ys (s.heap.objs.size + 1) h' as →
      acc.toList = as.map Value.ref → Q (.ref s.heap.objs.size) { s with heap := h', toks := tk }) :
    wpAny (model prog w) A (call (.type "list") [.ref z]) Q E s := by
  have lt : ∀ {c q}, s.heap.get? c = some q → c ≠ s.heap.objs.size := fun e => Nat.ne_of_lt (Heap.lt_size e)
  have o : Off z TI TO i1 i2 l1 l2 s.heap.objs.size := ⟨lt hz, lt hTI, lt hTO, let ⟨_, e, _⟩ := h1; lt e, let ⟨_, e, _⟩ := h2; lt e, let ⟨_, e, _⟩ := hx; lt e, let ⟨_, e, _⟩ := hy; lt e⟩
  refine callType_codes (Q₁ := fun obj s₁ => obj = .ref s.heap.objs.size ∧ s₁ = { s with heap := s.heap.push { cls := .type "list", data := .seq #[] } }) PySem.F.called_list (PySem.F.typeCall_list_1 _) PySem.F.entry_list_init
    (code_list_new _ ⟨rfl, rfl⟩) fun obj s₁ h₁ => ?_
  obtain ⟨rfl, rfl⟩ := h₁
  have hS : (s.heap.push { cls := .type "list", data := .seq #[] }).get? s.heap.objs.size = some { cls := .type "list", data := .seq #[] } := Heap.get?_push_size _ rfl
  have up : ∀ b q, s.heap.get? b = some q → (s.heap.push { cls := .type "list", data := .seq #[] }).get? b = some q := fun b q e => Heap.get?_push_of_some _ e
  have hsz : (s.heap.push { cls := .type "list", data := .seq #[] }).objs.size = s.heap.objs.size + 1 := Heap.size_push _ _
  refine ⟨⟨_, hS, rfl⟩, PySem.F.args_list_init_2 _ _, init (A := A.in1) hh D o ((St.init hz hTI hTO h1 h2 hx hy).frame o fun b q _ e => up b q e) (up _ _ hz) (by rw [hsz]; exact Nat.lt_succ_of_lt (Heap.lt_size hTO)) hS (fun h' tk acc c as hk hS' hl hG hacc => ?_) hn⟩
  dsimp only at hG
  rw [hsz] at hG
  exact ⟨rfl, hQ h' tk acc c as (fun b q b2 b3 b4 b5 e => hk b q (lt e) b2 b3 b4 b5 (up b q e)) hS' hl hG hacc⟩
end
end ZL
namespace DL
open PySem PySem.Spec PyProof.Rows L2
section
/-- many new things laid at once -/
theorem un_many {fs ex : List Addr} {H H' : Hp} {h h' : Heap} (k : ∀ b u, h.get? b = some u → h'.get? b = some u) (hE : ∀ b o, h.get? b = some o → H' b = H b) (hS : Same H H') : Un fs ex H H' h h' where
  keep := fun b u q _ _ _ => k b u q
  slot := fun b u q _ _ _ => ⟨u.slots, k b u q⟩
  free := fun b u q n _ => by rw [hE b u q]; exact n
  there := fun b u q _ => ⟨u, k b u q⟩
  tups := fun b xs q => hS b _ q
  frzs := fun b u xs q => hS b _ q
  tbls := fun b ps q => ⟨#[], by rw [hS b _ q]; simp⟩
theorem hok_many {P : Program} {w : World} {H H' : Hp} {h h' : Heap} (x : HOk P w H h) (k : ∀ b u, h.get? b = some u → h'.get? b = some u) (hS : Same H H') (new : ∀ b o, H b = none → H' b = some o → ObjOk P w H' h' b o) : HOk P w H' h' := fun b u e => by
  cases q : H b with
  | none => exact new b u q e
  | some u' =>
    have := hS b u' q
    rw [e] at this
    cases this
    exact (x b u q).stay (fun c v _ q => k c v q) (fun c q => hS c _ q) fun c xs q => hS c _ q
variable {X : Cx}
def tListZip (K : PySem.W.Frag) (ta : TA) : TE := fun σ H Q => ta σ H fun vs H1 => ∃ (a b : Addr) (xs ys : List V), vs = [.ref a, .ref b] ∧ SqL K H1 a xs ∧ SqL K H1 b ys ∧
  ∀ (p : Addr) (H' : Hp) (as : List Addr), Same H1 H' → H1 p = none → H' p = some (.lst (as.map V.ref)) → as.length = min xs.length ys.length →
    (∀ (j : Nat) (c : Addr) (x y : V), as[j]? = some c → xs[j]? = some x → ys[j]? = some y → H' c = some (.tup [x, y])) → Q (.ref p) H'
theorem idx_of {as : List Addr} (h : as.Pairwise (· < ·)) {j : Nat} {c : Addr} (e : as[j]? = some c) : as.idxOf c = j := by
  obtain ⟨hj, rfl⟩ := List.getElem?_eq_some_iff.mp e
  have hn : as.Nodup := h.imp fun hlt he => by subst he; exact Nat.lt_irrefl _ hlt
  exact hn.idxOf_getElem j hj
theorem pe_listZip {e e2 : Expr} {ta : TA} {p p2 pos pos2 : Pos} (hc : X.calm = true) (hg : Gl X "list") (hm : X.mg "list" = none) (hgz : Gl X "zip") (hmz : X.mg "zip" = none) (ha : PA X [e, e2] ta)
    (hse : starEach [Expr.Call (.Name "zip" p2) [e, e2] [] pos2] X.env = [(false, eval (Expr.Call (.Name "zip" p2) [e, e2] [] pos2) X.env)] := by rfl)
    (hs : starEach [e, e2] X.env = (false, eval e X.env) :: starEach [e2] X.env := by rfl) (hpl : (backTo pos2 (starEach [e2] X.env)).any (·.1) = false := by rfl) :
    PE X (.Call (.Name "list" p) [.Call (.Name "zip" p2) [e, e2] [] pos2] [] pos) (tListZip X.K ta) := by
  refine ⟨fun pins s σ H Q I h => ?_⟩
  refine wpAny_Call_Name_kw (ld_blt I hg hm (u := .type "list") (by first | rfl | decide +kernel) ?_ (by first | decide +kernel | decide) (by first | decide +kernel | decide))
  rw [hse]
  refine PySem.callWith_type1 (Call_ (ld_blt I hgz hmz PyProof.Rows.boot_zip (PyProof.Rows.callWith_type1 (thn (ha.run pos2 pins s σ H _ I h) fun us s1 ⟨vs, H1, I1, r1, q1⟩ => ?_) hs hpl)))
  obtain ⟨a, b, xs, ys, ex, qx, qy, q⟩ := q1
  subst ex
  cases r1 with
  | cons r rr =>
    cases rr with
    | cons r' rr =>
      cases rr
      cases r
      cases r'
      obtain ⟨its, rv, p1, z1⟩ := I1.list qx
      obtain ⟨its2, rv2, p2', z2⟩ := I1.list qy
      have l1 := rv.length
      have l2 := rv2.length
      refine call_zip_2 p1.isList p2'.isList fun h' hz hTI hTO h1 h2 hsz hk => ?_
      have D := PySem.W.ktu_apart s1.heap.objs.size a b p1.lt p2'.lt
      refine ZL.call_list (s := { s1 with heap := h' }) (I1.ok.hd hc) D hz hTI hTO h1 h2 (p1.isList.at fun o e => hk _ o e) (p2'.isList.at fun o e => hk _ o e) (by simp only [List.size_toArray]; omega) fun h2' tk acc c as hk2 hD hl hG hacc => ?_
      dsimp only at hk2 hD hG ⊢
      have lt : ∀ {c : Addr} {q}, s1.heap.get? c = some q → c < s1.heap.objs.size := fun e => Heap.lt_size e
      have keep : ∀ b u, s1.heap.get? b = some u → h2'.get? b = some u := fun b u e => by
        have hb := lt e
        exact hk2 b u (Nat.ne_of_lt (Nat.lt_of_lt_of_le hb (Nat.le_add_right _ _))) (Nat.ne_of_lt (Nat.lt_of_lt_of_le hb (Nat.le_add_right _ _))) (Nat.ne_of_lt hb) (Nat.ne_of_lt (Nat.lt_of_lt_of_le hb (Nat.le_add_right _ _))) (hk b u e)
      obtain ⟨S, hS⟩ : ∃ S : Addr, S = h'.objs.size := ⟨_, rfl⟩
      have hS1 : s1.heap.objs.size ≤ S := by rw [hS, hsz]; exact Nat.le_add_right _ _
      rw [← hS] at hD hG ⊢
      obtain ⟨H', hH'⟩ : ∃ H' : Hp, H' = fun c => if c = S then some (.lst (as.map V.ref)) else if c ∈ as then some (.tup [xs.getD (as.idxOf c) .non, ys.getD (as.idxOf c) .non]) else H1 c := ⟨_, rfl⟩
      have hnew : ∀ c, c = S ∨ c ∈ as → s1.heap.objs.size ≤ c := fun c hc => by
        rcases hc with rfl | hc
        · exact hS1
        · exact Nat.le_trans hS1 (Nat.le_trans (Nat.le_succ _) (hG.above c hc))
      have hold : ∀ c, ¬ (c = S ∨ c ∈ as) → H' c = H1 c := fun c hc => by
        rw [hH']
        dsimp only
        rw [if_neg fun z => hc (.inl z), if_neg fun z => hc (.inr z)]
      have same : Same H1 H' := fun c o e => by
        rw [hold c fun hc => by rw [I1.hok.fresh (hnew c hc)] at e; cases e]
        exact e
      have hlist : H' S = some (.lst (as.map V.ref)) := by rw [hH']; dsimp only; rw [if_pos rfl]
      have hlx : as.length ≤ its.length ∧ as.length ≤ its2.length := by rw [hl]; simp only [List.size_toArray]; omega
      have htup : ∀ (j : Nat) (c : Addr) (x y : V), as[j]? = some c → xs[j]? = some x → ys[j]? = some y → H' c = some (.tup [x, y]) := fun j c x y ec e1 e2 => by
        have hm := List.mem_of_getElem? ec
        have hcS : c ≠ S := Nat.ne_of_gt (hG.above c hm)
        rw [hH']
        dsimp only
        rw [if_neg hcS, if_pos hm, idx_of hG.rise ec, List.getD_eq_getElem?_getD, List.getD_eq_getElem?_getD, e1, e2]; rfl
      have I2 : Inv X pins σ H' { s1 with heap := h2', toks := tk } := by
        refine I1.un (un_many keep (fun c o e => hold c fun hc => absurd (hnew c hc) (Nat.not_le.mpr (lt e))) same) (hok_many I1.hok keep same fun c o hn e => ?_)
        by_cases hcS : c = S
        · subst hcS
          rw [hlist] at e
          cases e
          refine ⟨by rw [List.length_map]; omega, acc.toList, _, ?_, by rw [Array.toArray_toList]; exact hD⟩
          rw [hacc]
          have : ∀ l : List Addr, Vals (l.map V.ref) (l.map Value.ref) := fun l => by
            induction l with
            | nil => exact .nil
            | cons _ _ ih => exact .cons rfl ih
          exact this as
        · by_cases hm : c ∈ as
          · obtain ⟨j, ec⟩ := List.mem_iff_getElem?.mp hm
            have hj : j < as.length := (List.getElem?_eq_some_iff.mp ec).1
            obtain ⟨x, hx⟩ : ∃ x, xs[j]? = some x := ⟨xs[j]'(by omega), List.getElem?_eq_getElem _⟩
            obtain ⟨y, hy⟩ : ∃ y, ys[j]? = some y := ⟨ys[j]'(by omega), List.getElem?_eq_getElem _⟩
            rw [htup j c x y ec hx hy] at e
            cases e
            obtain ⟨u, v, e1, e2, e3⟩ := hG.pairs j c ec
            obtain ⟨u', hu', ru⟩ := rv.get hx
            obtain ⟨v', hv', rv'⟩ := rv2.get hy
            have e1' : its[j]? = some u := by simpa using e1
            have e2' : its2[j]? = some v := by simpa using e2
            rw [hu'] at e1'; cases e1'
            rw [hv'] at e2'; cases e2'
            exact ⟨by show 2 ≤ sizeLine; decide, [u, v], .cons ru (.cons rv' .nil), ⟨_, e3, rfl, _, rfl⟩⟩
          · rw [hold c (fun z => z.elim hcS hm), hn] at e
            cases e
      exact ⟨.ref S, H', I2, rfl, q S H' as same (I1.hok.fresh hS1) hlist (by rw [hl]; simp only [List.size_toArray]; omega) htup⟩
end
variable {ι : Type} {G : ι → Cx} {K : PySem.W.Frag} {mg : Str → Option Value} {base : Heap} {P : Program} {w : World} {N : List Str} {sc : Scope} {k : Nat}
def zipD (a b : Option T) : Option T := match a, b with
  | some (.lst xs), some (.lst ys) => some (.lst (zipL xs ys))
  | _, _ => none
theorem reps_pairs {H : Hp} {xs ys : List T} {us vs : List V} (ra : Reps K H xs us) (rb : Reps K H ys vs) : ∀ {as : List Addr}, as.length = min us.length vs.length →
    (∀ (j : Nat) (c : Addr) (x y : V), as[j]? = some c → us[j]? = some x → vs[j]? = some y → H c = some (.tup [x, y])) → Reps K H (zipL xs ys) (as.map V.ref) := by
  induction xs generalizing ys us vs with
  | nil =>
    intro as hl _
    unfold Reps at ra
    subst ra
    obtain rfl : as = [] := List.length_eq_zero_iff.mp (by rw [hl]; simp)
    exact .nil
  | cons x xs ih =>
    intro as hl ht
    unfold Reps at ra
    obtain ⟨u, us', rfl, r1, r2⟩ := ra
    cases ys with
    | nil =>
      unfold Reps at rb
      subst rb
      obtain rfl : as = [] := List.length_eq_zero_iff.mp (by rw [hl]; simp)
      exact .nil
    | cons y ys =>
      unfold Reps at rb
      obtain ⟨v, vs', rfl, r3, r4⟩ := rb
      cases as with
      | nil => simp at hl
      | cons c as =>
        refine .cons (rep_tup.mpr ⟨c, _, rfl, .inl (.inl (ht 0 c u v rfl rfl rfl)), .cons r1 (.cons r3 .nil)⟩) ?_
        exact ih r2 r4 (by simp at hl; omega) fun j c' x' y' e1 e2 e3 => ht (j + 1) c' x' y' (by simpa using e1) (by simpa using e2) (by simpa using e3)
theorem evf_listzip (hG : Fm G K mg base P w N sc k) {a b : Expr} {p p2 pos pos2 : Pos} {da db : Env' → Option T} (hm : mg "list" = none) (hmz : mg "zip" = none) (ha : EV G K a da) (hb : EV G K b db) (hg : glB sc "list" = true := by rfl) (hgz : glB sc "zip" = true := by rfl)
    (hse : ∀ i, starEach [Expr.Call (.Name "zip" p2) [a, b] [] pos2] (G i).env = [(false, eval (Expr.Call (.Name "zip" p2) [a, b] [] pos2) (G i).env)] := by intro _; rfl)
    (hs : ∀ i, starEach [a, b] (G i).env = [(false, eval a (G i).env), (false, eval b (G i).env)] := by intro _; rfl) (hs2 : ∀ i, starEach [b] (G i).env = [(false, eval b (G i).env)] := by intro _; rfl) :
    EVF G K (.Call (.Name "list" p) [.Call (.Name "zip" p2) [a, b] [] pos2] [] pos) (fun ρ => zipD (da ρ) (db ρ)) := by
  intro ρ σ H τ Q he hd hq
  dsimp only at hd
  unfold zipD at hd
  split at hd
  · rename_i xs ys e1 e2
    cases hd
    refine ⟨tListZip K (tCons (ES G a) (tCons (ES G b) tNil)), fun i => by rw [← hG.K i]; exact pe_listZip (hG.calm i) (gl_of hG hg i) (by rw [hG.mg i]; exact hm) (gl_of hG hgz i) (by rw [hG.mg i]; exact hmz) (pa_cons (pe_ts i) (pa_cons (pe_ts i) pa_nil (hs2 i)) (by rw [hs i, hs2 i])) (hse i) (by rw [hs i, hs2 i]) (by rw [hs2 i]; rfl), ?_⟩
    refine ha ρ σ H _ _ he e1 fun v H1 s1 r1 => ?_
    refine hb ρ σ H1 _ _ (he.same s1) e2 fun v' H2 s2 r2 => ?_
    obtain ⟨x, us, rfl, qx, rx⟩ := rep_lst.mp (Rep.same s2 r1)
    obtain ⟨y, vs, rfl, qy, ry⟩ := rep_lst.mp r2
    refine ⟨x, y, us, vs, rfl, .inl (.inl qx), .inl (.inl qy), fun p H' as sm np el hl ht => ?_⟩
    exact hq p _ H' ((s1.trans s2).trans sm) ((s1.trans s2).free np) el (.inl ⟨_, _, rfl, rfl, reps_pairs (rx.same sm) (ry.same sm) hl ht⟩)
  · cases hd
end DL
namespace DL
open PySem PySem.Spec PyProof.Rows L2
variable {ι : Type} {G : ι → Cx} {K : PySem.W.Frag} {mg : Str → Option Value} {base : Heap} {P : Program} {w : World} {N : List Str} {sc : Scope} {k : Nat}
/-! ### truth -/
def truD (o : Option T) : Option Bool := match o with
  | some .non => some false
  | some (.bl b) => some b
  | some (.int i) => some (i != 0)
  | some (.lst ts) => some (!ts.isEmpty)
  | some (.scr ts) => some (!ts.isEmpty)
  | some (.tup ts) => some (!ts.isEmpty)
  | _ => none
theorem empty_len {ts : List T} {vs : List V} (h : ts.length = vs.length) : (!ts.isEmpty) = !vs.isEmpty := by
  cases ts <;> cases vs <;> simp_all
theorem bv_tru (hK : ∀ i, (G i).K = K) {e : Expr} {d : Env' → Option T} (h : EV G K e d) (he : ∀ i whole, isTrue e (G i).env whole = (do let v ← whole; standAt e.pos; holding [v] (truthy v)) := by intro _ _; rfl) : BV G K e (fun ρ => truD (d ρ)) := by
  intro ρ σ H b Q hE hd hq
  dsimp only at hd
  refine ⟨fun σ H Q => ES G e σ H fun x H' => ∃ k, TruV K x H' k ∧ Q k H', fun i => by rw [← hK i]; exact pt_truth (pe_ts i) (he i), ?_⟩
  cases e1 : d ρ with
  | none => rw [e1] at hd; cases hd
  | some t =>
    rw [e1] at hd
    refine h ρ σ H t _ hE e1 fun v H1 s r => ⟨b, ?_, hq H1 s⟩
    cases t with
    | non => cases hd; cases rep_non.mp r; rfl
    | bl c => cases hd; cases rep_bl.mp r; rfl
    | int c => cases hd; cases rep_int.mp r; rfl
    | lst ts =>
      cases hd
      obtain ⟨a, vs, rfl, q, rr⟩ := rep_lst.mp r
      exact .inl ⟨vs, .inl (.inl q), empty_len rr.length⟩
    | scr ts =>
      cases hd
      obtain ⟨a, vs, rfl, q, rr⟩ := rep_scr.mp r
      exact .inl ⟨vs, q, empty_len rr.length⟩
    | tup ts =>
      cases hd
      obtain ⟨a, vs, rfl, q, rr⟩ := rep_tup.mp r
      exact .inr (.inl ⟨vs, q, empty_len rr.length⟩)
    | _ => cases hd
/-! ### three comparisons in a row, as a test -/
def tChain3 (r r' r'' : R2) (ta tb tc td : TE) : TT := fun σ H Q => ta σ H fun x H1 => tb σ H1 fun y H2 => r x y H2 fun z H3 => ∃ k, z = .bl k ∧
  (if k = true then tc σ H3 fun u H4 => r' y u H4 fun z' H5 => ∃ k', z' = .bl k' ∧ (if k' = true then td σ H5 fun v H6 => r'' u v H6 fun z2 H7 => ∃ k2, z2 = .bl k2 ∧ Q k2 H7 else Q false H5) else Q false H3)
theorem pt_chain3 {X : Cx} {op op' op'' : CmpOp} {r r' r'' : R2} {a b c d : Expr} {pos : Pos} {ta tb tc td : TE} (ho : OpR X (compareOp op) r) (ho' : OpR X (compareOp op') r') (ho'' : OpR X (compareOp op'') r'') (ha : PE X a ta) (hb : PE X b tb) (hc : PE X c tc) (hd : PE X d td)
    (hm : lastMarks [op, op', op''] [b, c, d] = false := by with_unfolding_all rfl) : PT X (.Compare a [op, op', op''] [b, c, d] pos) (tChain3 r r' r'' ta tb tc td) := by
  refine ⟨fun pins s σ H Q I h => ?_⟩
  refine isTrue_chain (thn (ha.run pins s σ H _ I h) fun v s1 ⟨x, H1, I1, r1, q1⟩ => test_link (thn (hb.run pins s1 σ H1 _ I1 q1) fun u s2 ⟨y, H2, I2, r2, q2⟩ =>
    thn (ho pins s2 σ H2 x y v u _ I2 r1 r2 q2) fun d s3 ⟨z, H3, I3, r3, k, e, q3⟩ => ?_)) hm
  subst e
  cases r3
  refine wpAny_truthy_bool ?_
  cases k with
  | false => exact ite_ff ⟨H3, I3, q3⟩
  | true =>
    refine ite_tt (test_link (thn (hc.run pins s3 σ H3 _ I3 q3) fun w' s4 ⟨z', H4, I4, r4, q4⟩ => thn (ho' pins s4 σ H4 y z' u w' _ I4 r2 r4 q4) fun d' s5 ⟨z2, H5, I5, r5, k2, e2, q5⟩ => ?_))
    subst e2
    cases r5
    refine wpAny_truthy_bool ?_
    cases k2 with
    | false => exact ite_ff ⟨H5, I5, q5⟩
    | true =>
      refine ite_tt (test_last (thn (hd.run pins s5 σ H5 _ I5 q5) fun w2 s6 ⟨z3, H6, I6, r6, q6⟩ => thn (ho'' pins s6 σ H6 z' z3 w' w2 _ I6 r4 r6 q6) fun d2 s7 ⟨z4, H7, I7, r7, k3, e3, q7⟩ => ?_))
      subst e3
      cases r7
      exact wpAny_truthy_bool ⟨H7, I7, q7⟩
def chD3 (g g' g'' : T → T → Option T) (a b c d : Option T) : Option T := match b2 g a b with
  | some (.bl true) => chD g' g'' b c d
  | some (.bl false) => some (.bl false)
  | _ => none
theorem bv_chain3 {a b c d : Expr} {op op' op'' : CmpOp} {g g' g'' : T → T → Option T} {da db dc dd : Env' → Option T} {pos : Pos} (ho : OpS G K (compareOp op) g) (ho' : OpS G K (compareOp op') g') (ho'' : OpS G K (compareOp op'') g'') (ha : EV G K a da) (hb : EV G K b db) (hc : EV G K c dc) (hd' : EV G K d dd)
    (hm : lastMarks [op, op', op''] [b, c, d] = false := by with_unfolding_all rfl) : BV G K (.Compare a [op, op', op''] [b, c, d] pos) (fun ρ => asB (chD3 g g' g'' (da ρ) (db ρ) (dc ρ) (dd ρ))) := by
  intro ρ σ H τ Q he hd hq
  refine ⟨_, fun i => pt_chain3 (op_ops i) (op_ops i) (op_ops i) (pe_ts i) (pe_ts i) (pe_ts i) (pe_ts i) hm, ?_⟩
  have hd := asB_some hd
  unfold chD3 at hd
  split at hd
  · rename_i e1
    obtain ⟨x, y, ea, eb, eg⟩ := b2_some e1
    refine ha ρ σ H x _ he ea fun v H1 s1 r1 => hb ρ σ H1 y _ (he.same s1) eb fun u H2 s2 r2 => ?_
    refine ho H2 x y v u _ _ eg (r1.same s2) r2 fun q H3 s3 r3 => ⟨true, rep_bl.mp r3, ?_⟩
    rw [if_pos rfl]
    have s123 := (s1.trans s2).trans s3
    unfold chD at hd
    split at hd
    · rename_i e2
      obtain ⟨y', z, eb', ec, eg'⟩ := b2_some e2
      obtain ⟨z2, t, ec', ed, eg2⟩ := b2_some hd
      rw [eb] at eb'; cases eb'
      rw [ec] at ec'; cases ec'
      refine hc ρ σ H3 z _ (he.same s123) ec fun t4 H4 s4 r4 => ?_
      refine ho' H4 y z u t4 _ _ eg' (r2.same (s3.trans s4)) r4 fun q' H5 s5 r5 => ⟨true, rep_bl.mp r5, ?_⟩
      rw [if_pos rfl]
      refine hd' ρ σ H5 t _ (he.same ((s123.trans s4).trans s5)) ed fun t6 H6 s6 r6 => ?_
      exact ho'' H6 z t t4 t6 _ _ eg2 (r4.same (s5.trans s6)) r6 fun q2 H7 s7 r7 => ⟨_, rep_bl.mp r7, hq H7 ((((s123.trans s4).trans s5).trans s6).trans s7)⟩
    · rename_i e2
      obtain ⟨y', z, eb', ec, eg'⟩ := b2_some e2
      rw [eb] at eb'; cases eb'
      cases hd
      refine hc ρ σ H3 z _ (he.same s123) ec fun t4 H4 s4 r4 => ?_
      refine ho' H4 y z u t4 _ _ eg' (r2.same (s3.trans s4)) r4 fun q' H5 s5 r5 => ⟨false, rep_bl.mp r5, ?_⟩
      rw [if_neg (by decide)]
      exact hq H5 ((s123.trans s4).trans s5)
    · cases hd
  · rename_i e1
    cases hd
    obtain ⟨x, y, ea, eb, eg⟩ := b2_some e1
    refine ha ρ σ H x _ he ea fun v H1 s1 r1 => hb ρ σ H1 y _ (he.same s1) eb fun u H2 s2 r2 => ?_
    refine ho H2 x y v u _ _ eg (r1.same s2) r2 fun q H3 s3 r3 => ⟨false, rep_bl.mp r3, ?_⟩
    rw [if_neg (by decide)]
    exact hq H3 ((s1.trans s2).trans s3)
  · cases hd
/-! ### {k: v, ..}, flat values -/
def consP (a b : Option T) (r : Option (List (T × T))) : Option (List (T × T)) := match a, b, r with
  | some x, some y, some ps => some ((x, y) :: ps)
  | _, _, _ => none
def keysP : List (T × T) → Option (List (Key × T))
  | [] => some []
  | (a, b) :: r => match keyOf a, keysP r with
    | some y, some ys => if flatT b = true then some ((y, b) :: ys) else none
    | _, _ => none
def dispD (o : Option (List (T × T))) : Option T := match o with
  | some ps => if 0 < ps.length ∧ ps.length ≤ 15 then (keysP ps).map fun ks => .dic (mergeT [] ks) else none
  | none => none
inductive Pr (K : PySem.W.Frag) (H : Hp) : List (T × T) → List (V × V) → Prop
  | nil : Pr K H [] []
  | cons {a b : T} {x y : V} {ps : List (T × T)} {qs : List (V × V)} (h1 : Rep K H a x) (h2 : Rep K H b y) (h : Pr K H ps qs) : Pr K H ((a, b) :: ps) ((x, y) :: qs)
structure PPV (G : ι → Cx) (K : PySem.W.Frag) (keys : List (Option Expr)) (vals : List Expr) (d : Env' → Option (List (T × T))) : Prop where
  all : keys.all (·.isSome) = true
  len : keys.length = vals.length
  size : ∀ ρ ps, d ρ = some ps → ps.length = keys.length
  run : ∀ ρ ps, d ρ = some ps → ∃ trs : List (TE × TE), (∀ i pos, PPs (G i) pos keys vals trs) ∧ ∀ σ H Q, EnvR K H σ ρ → (∀ qs H', Same H H' → Pr K H' ps qs → Q qs H') → tPairs trs σ H Q
theorem Pr.same {H H' : Hp} (s : Same H H') {ps : List (T × T)} {qs : List (V × V)} (h : Pr K H ps qs) : Pr K H' ps qs := by
  induction h with
  | nil => exact .nil
  | cons h1 h2 _ ih => exact .cons (h1.same s) (h2.same s) ih
theorem ppv_nil : PPV G K [] [] (fun _ => some []) :=
  ⟨rfl, rfl, fun _ ps h => by cases h; rfl, fun _ ps h => by
    cases h
    exact ⟨[], fun _ _ => pps_nil, fun σ H Q _ hq => hq [] H (Same.refl H) .nil⟩⟩
theorem ppv_cons {a b : Expr} {ks : List (Option Expr)} {vs : List Expr} {da db : Env' → Option T} {dr : Env' → Option (List (T × T))} (ha : EV G K a da) (hb : EV G K b db) (hr : PPV G K ks vs dr) : PPV G K (some a :: ks) (b :: vs) (fun ρ => consP (da ρ) (db ρ) (dr ρ)) := by
  have key : ∀ ρ ps, consP (da ρ) (db ρ) (dr ρ) = some ps → ∃ x y r, da ρ = some x ∧ db ρ = some y ∧ dr ρ = some r ∧ ps = (x, y) :: r := by
    intro ρ ps h
    unfold consP at h
    split at h
    · cases h; exact ⟨_, _, _, by assumption, by assumption, by assumption, rfl⟩
    · cases h
  refine ⟨by rw [List.all_cons, hr.all]; rfl, by rw [List.length_cons, List.length_cons, hr.len], fun ρ ps h => ?_, fun ρ ps h => ?_⟩
  · obtain ⟨x, y, r, _, _, e3, rfl⟩ := key ρ ps h
    rw [List.length_cons, List.length_cons, hr.size ρ r e3]
  · obtain ⟨x, y, r, e1, e2, e3, rfl⟩ := key ρ ps h
    obtain ⟨trs, ht, hrun⟩ := hr.run ρ r e3
    refine ⟨(ES G a, ES G b) :: trs, fun i pos => pps_cons (pe_ts i) (pe_ts i) (ht i pos), fun σ H Q he hq => ?_⟩
    refine ha ρ σ H x _ he e1 fun v H1 s1 r1 => hb ρ σ H1 y _ (he.same s1) e2 fun u H2 s2 r2 => ?_
    refine hrun σ H2 _ (he.same (s1.trans s2)) fun qs H3 s3 r3 => ?_
    exact hq _ H3 ((s1.trans s2).trans s3) (.cons (r1.same (s2.trans s3)) (r2.same s3) r3)
theorem flat_move {H H' : Hp} {t : T} {v : V} (h : flatT t = true) (r : Rep K H t v) : Rep K H' t v := by
  cases t <;> first | (simp [flatT] at h; done) | (unfold Rep at r ⊢; exact r)
theorem pr_keys {H H' : Hp} {ps : List (T × T)} {qs : List (V × V)} (h : Pr K H ps qs) : ∀ {ks : List (Key × T)}, keysP ps = some ks → ∃ kvs : List (Key × V), qs = kvs.map (fun kv => (kV kv.1, kv.2)) ∧ RepsK K H' ks kvs ∧ kvs.length = ps.length := by
  induction h with
  | nil =>
    intro ks e
    cases e
    exact ⟨[], rfl, by unfold RepsK; rfl, rfl⟩
  | @cons a b x y ps qs h1 h2 h ih =>
    intro ks e
    unfold keysP at e
    split at e
    · rename_i y' ys e1 e2
      split at e
      · rename_i hf
        cases e
        obtain ⟨kvs, rfl, rk, hl⟩ := ih e2
        refine ⟨(y', y) :: kvs, ?_, ?_, by rw [List.length_cons, List.length_cons, hl]⟩
        · rw [List.map_cons, keyOf_rep e1 h1]
        · unfold RepsK
          exact ⟨y, kvs, rfl, flat_move hf h2, rk⟩
      · cases e
    · cases e
theorem evf_dict {keys : List (Option Expr)} {vals : List Expr} {pos : Pos} {d : Env' → Option (List (T × T))} (h : PPV G K keys vals d) : EVF G K (.Dict keys vals pos) (fun ρ => dispD (d ρ)) := by
  intro ρ σ H τ Q he hd hq
  dsimp only at hd
  unfold dispD at hd
  split at hd
  · rename_i ps e1
    split at hd
    · rename_i hl
      cases e2 : keysP ps with
      | none => rw [e2] at hd; cases hd
      | some ks =>
        rw [e2] at hd
        cases hd
        obtain ⟨trs, ht, hrun⟩ := h.run ρ ps e1
        have hsz := h.size ρ ps e1
        refine ⟨tDisp trs, fun i => pe_disp (ht i pos) h.all h.len (fun z => by rw [z] at hsz; rw [hsz] at hl; exact absurd hl.1 (by simp)) (by omega), fun p np => ?_⟩
        refine hrun σ _ _ (he.same (same_upd' np)) fun qs H2 s2 r2 => ⟨s2 p _ upd_same, ?_⟩
        have sH : ∀ o, Same H (upd H2 p o) := fun o b x e => by
          rw [upd_ne (ne_of_none e np)]
          exact s2 b x (same_upd' np b x e)
        obtain ⟨kvs, hk, _, hkl⟩ := pr_keys (H' := H2) r2 e2
        obtain ⟨kvs', hk', rk', _⟩ := pr_keys (H' := upd H2 p (.dK (mergeK [] kvs))) r2 e2
        have hkk : kvs' = kvs := by
          have e : kvs'.map (fun kv => (kV kv.1, kv.2)) = kvs.map (fun kv => (kV kv.1, kv.2)) := by rw [← hk', ← hk]
          refine List.map_inj_right ?_ |>.mp e
          rintro ⟨k1, v1⟩ ⟨k2, v2⟩ q
          simp only [Prod.mk.injEq] at q
          refine Prod.ext ?_ q.2
          have q1 := q.1
          cases k1 <;> cases k2 <;> simp_all [kV]
        subst hkk
        refine ⟨kvs', hk, by omega, ?_⟩
        exact hq p _ _ (sH _) np upd_same (.inr ⟨_, _, rfl, rfl, mergeT_rep rk' (by unfold RepsK; rfl) (by simp)⟩)
    · cases hd
  · cases hd
end DL
/-! DL21: types compared by !=. -/
namespace TN
open PySem PyProof.Rows
theorem slot_ne : Slot "type" (cmpInfo .NotEq).2.1 "object.__ne__" :=
  .of (owner := "object") (n := "__ne__") (by rw [typeLookup_type, builtinLookup_eq_fast]; kernel_rfl) (by decide +kernel) (by decide +kernel) (by decide +kernel)
    (by first | exact .inl (by decide +kernel) | exact .inr (by decide +kernel)) (by rw [isSubtype_type]; kernel_rfl)
theorem slot_ne_refl : Slot "type" (cmpInfo .NotEq).2.2 "object.__ne__" :=
  .of (owner := "object") (n := "__ne__") (by rw [typeLookup_type, builtinLookup_eq_fast]; kernel_rfl) (by decide +kernel) (by decide +kernel) (by decide +kernel)
    (by first | exact .inl (by decide +kernel) | exact .inr (by decide +kernel)) (by rw [isSubtype_type]; kernel_rfl)
theorem slot_eq : Slot "type" "__eq__" "object.__eq__" := PySem.TypeEq.slot_type_eq
def negV : Value → Value
  | .bool b => .bool (!b)
  | _ => .notImplemented
section
variable {prog : Program} {w : World} {A : Around} {E : Value → Shared → Prop} {s : Shared}
theorem ne_entry {X Y : String} {v : Value} (hX : ∀ s' : Shared, s'.TypeIs (.type X) "type") {Q : Fin → Shared → Prop}
    (hc : ∀ {A : Around} {Q : Value → Shared → Prop}, Q v s → wpAny (model prog w) A (call (.builtin "object.__eq__") [.type X, .type Y]) Q E s)
    (h : Q (.done (.ret (negV v))) s) (hv : (∃ b, v = .bool b) ∨ v = .notImplemented) :
    wpAny (model prog w) A (Builtin.«object.__ne__» ⟨[.type X, .type Y], []⟩) Q E s := by
  show wpAny _ _ (cRoomFor "comparison" [.type X, .type Y] >>= fun _ => callSpecialIfBound? (.type X) "__eq__" [.type Y] >>= _) _ _ _
  refine wpAny_bind (wpAny_cRoomFor_or (.inl rfl) ?_)
  refine wpAny_bind (wpAny_callSpecialIfBound?_slot (hX s) slot_eq (hc ?_))
  rcases hv with ⟨b, rfl⟩ | rfl
  · show wpAny _ _ (truthy (.bool b) >>= _) _ _ _
    refine wpAny_bind (wpAny_truthy_bool ?_)
    exact wpAny_pure h
  · exact wpAny_pure h
theorem call_ne {X Y : String} {v : Value} (hX : ∀ s' : Shared, s'.TypeIs (.type X) "type") {Q : Value → Shared → Prop}
    (hc : ∀ {A : Around} {E : Value → Shared → Prop} {Q : Value → Shared → Prop}, Q v s → wpAny (model prog w) A (call (.builtin "object.__eq__") [.type X, .type Y]) Q E s)
    (hv : (∃ b, v = .bool b) ∨ v = .notImplemented) (h : Q (negV v) s) : wpAny (model prog w) A (call (.builtin "object.__ne__") [.type X, .type Y]) Q E s := by
  refine wpAny_call_entry slot_ne (hX s) PySem.F.cmpEntry_ne ?_ (PySem.F.cmpArgs_ne _ _)
  exact ne_entry hX (fun q => hc q) ⟨_, rfl, h⟩ hv
theorem decline {a b : Value} {T id : String} {k : Bool} {Q : Value → Shared → Prop} (ha : ∀ s' : Shared, s'.TypeIs a T) (hb : ∀ s' : Shared, s'.TypeIs b T)
    (h1 : Slot T (cmpInfo .NotEq).2.1 id) (h2 : Slot T (cmpInfo .NotEq).2.2 id) (hv : [a, b].any Value.onHeap = false) (hk : isSame a b = pure k)
    (hc : wpAny (model prog w) A (call (.builtin id) [a, b]) (fun v s₁ => v = .notImplemented ∧ wpAny (model prog w) A (call (.builtin id) [b, a]) (fun v s₂ => v = .notImplemented ∧ Q (.bool (!k)) s₂) E s₁) E s) :
    wpAny (model prog w) A (richCompare .NotEq a b) Q E s := by
  rcases hi : cmpInfo CmpOp.NotEq with ⟨sym, f, r⟩
  rw [hi] at h1 h2
  simp only [richCompare, hi, (ha s).oneThing_none]
  try with_reducible refine wpAny_holding ?_
  refine wpAny_bind (wpAny_cRoomFor_or (.inl hv) ?_)
  refine wpAny_bind (wpAny_typeOf (ha s) (wpAny_bind (wpAny_typeOf (hb s) ?_)))
  simp only [bne_self_eq_false, Bool.false_eq_true, if_false, pure_bind, Bool.not_false, if_true]
  refine wpAny_bind (m := tryCompare a _ b) (wpAny_tryCompare_declines (ha s) h1 (wpAny_mono hc (fun v s₁ h₁ => ⟨h₁.1, ?_⟩) fun _ _ x => x))
  refine wpAny_bind (m := tryCompare b _ a) (wpAny_tryCompare_declines (hb s₁) h2 (wpAny_mono h₁.2 (fun v s₂ h₂ => ⟨h₂.1, ?_⟩) fun _ _ x => x))
  exact wpAny_bind (wpAny_rule (wpAny_bind (wpAny_of_eq hk (wpAny_pure h₂.2))))
theorem eq_call {X Y : String} (hX : ∀ s' : Shared, s'.TypeIs (.type X) "type") {A : Around} {E : Value → Shared → Prop} {Q : Value → Shared → Prop} (h : Q (if X = Y then .bool true else .notImplemented) s) :
    wpAny (model prog w) A (call (.builtin "object.__eq__") [.type X, .type Y]) Q E s := by
  by_cases e : X = Y
  · subst e
    rw [if_pos rfl] at h
    exact call_gives PySem.TypeEq.slot_type_eq (hX s) PySem.F.entry_object_eq (PySem.F.args_object_eq_2 _ _) (PySem.TypeEq.object_eq_same rfl (by simp)) h
  · rw [if_neg e] at h
    exact call_gives PySem.TypeEq.slot_type_eq (hX s) PySem.F.entry_object_eq (PySem.F.args_object_eq_2 _ _) (PySem.TypeEq.object_eq_other rfl (by simpa using e)) h
theorem ne_same {X : String} (hX : ∀ s' : Shared, s'.TypeIs (.type X) "type") {Q : Value → Shared → Prop} (h : Q (.bool false) s) : wpAny (model prog w) A (compareOp .NotEq (.type X) (.type X)) Q E s := by
  show wpAny _ A (richCompare .NotEq _ _) Q E s
  refine wpAny_richCompare_same (T := "type") (hX s) (hX s) slot_ne (call_ne (v := .bool true) hX (fun q => eq_call hX (by rw [if_pos rfl]; exact q)) (.inl ⟨_, rfl⟩) ⟨(by intro e; cases e), h⟩)
theorem ne_other {X Y : String} (hX : ∀ s' : Shared, s'.TypeIs (.type X) "type") (hY : ∀ s' : Shared, s'.TypeIs (.type Y) "type") (hne : X ≠ Y) {Q : Value → Shared → Prop} (h : Q (.bool true) s) : wpAny (model prog w) A (compareOp .NotEq (.type X) (.type Y)) Q E s := by
  show wpAny _ A (richCompare .NotEq _ _) Q E s
  have hs : isSame (.type X) (.type Y) = pure false := by
    have : (Value.type X == Value.type Y) = false := by simpa using hne
    rw [PySem.isSame_plain rfl, this]
  refine decline (T := "type") (k := false) hX hY slot_ne slot_ne_refl rfl hs ?_
  refine call_ne (v := .notImplemented) hX (fun q => eq_call hX (by rw [if_neg hne]; exact q)) (.inr rfl) ⟨rfl, ?_⟩
  exact call_ne (v := .notImplemented) hY (fun q => eq_call hY (by rw [if_neg (Ne.symm hne)]; exact q)) (.inr rfl) ⟨rfl, h⟩
end
end TN
namespace DL
open PySem PySem.Spec PyProof.Rows L2
variable {ι : Type} {G : ι → Cx} {K : PySem.W.Frag}
theorem op_neT {X : Cx} : OpR X (compareOp .NotEq) (fun x y H Q => ∃ a b, x = .ty a ∧ y = .ty b ∧ a ∈ tys ∧ b ∈ tys ∧ Q (.bl (!decide (a = b))) H) := by
  intro pins s σ H x y v u Q I rx ry h
  obtain ⟨a, b, rfl, rfl, ha, hb, q⟩ := h
  cases (show v = Value.type a from rx)
  cases (show u = Value.type b from ry)
  by_cases e : a = b
  · subst e
    exact TN.ne_same (meta_of ha) ⟨.bl false, H, I, rfl, by simpa using q⟩
  · exact TN.ne_other (meta_of ha) (meta_of hb) e ⟨.bl true, H, I, rfl, by simpa [e] using q⟩
def gNeTy (x y : T) : Option T := match x, y with
  | .raw (.ty a), .raw (.ty b) => if a ∈ tys ∧ b ∈ tys then some (.bl (!decide (a = b))) else none
  | _, _ => none
theorem s_neTy : OpS G K (compareOp .NotEq) gNeTy := by
  intro H x y v u τ Q e rx ry hq
  unfold gNeTy at e
  split at e
  · split at e
    · rename_i c
      cases e
      exact ⟨_, fun i => op_neT, _, _, rep_raw.mp rx, rep_raw.mp ry, c.1, c.2, hq _ H (Same.refl H) (rep_bl.mpr rfl)⟩
    · cases e
  · cases e
end DL
/-! DL22: membership of data of any depth; a written dict of defs; a local name that holds one of several defs, called. -/
namespace DL
open PySem PySem.Spec PyProof.Rows L2
variable {ι : Type} {G : ι → Cx} {K : PySem.W.Frag} {mg : Str → Option Value} {base : Heap} {P : Program} {w : World} {N : List Str} {sc : Scope} {k : Nat}
variable {fr : Bool} {ow ow' owl : List Nat}

/-! ### x in xs, data of any depth -/
theorem op_inTD {X : Cx} (hu : X.A.units + 65 < cLine) : OpR X (compareOp .In) (fun x y H Q => ∃ d ds, Dp X.K H x d ∧ Dp X.K H y (.tuple ds) ∧ SeqAt.shaped d = true ∧ SeqAt.shaped (.tuple ds) = true ∧ Q (.bl (ds.any fun z => PyData.eqv z d)) H) := by
  intro pins s σ H x y v u Q I rx ry h
  obtain ⟨d, ds, hd, he, sd, se, q⟩ := h
  obtain ⟨as, r1⟩ := Dp.reads I d x v hd rx
  obtain ⟨bs, r2⟩ := Dp.reads I (.tuple ds) y u he ry
  exact SeqAt.in_tuple_reads r2 r1 (SeqAt.canLay_of_shaped se) (SeqAt.canLay_of_shaped sd) (room_in_shaped sd hu) ⟨.bl _, H, I, rfl, q⟩
theorem op_notInTD {X : Cx} (hu : X.A.units + 65 < cLine) : OpR X (compareOp .NotIn) (fun x y H Q => ∃ d ds, Dp X.K H x d ∧ Dp X.K H y (.tuple ds) ∧ SeqAt.shaped d = true ∧ SeqAt.shaped (.tuple ds) = true ∧ Q (.bl (!ds.any fun z => PyData.eqv z d)) H) := by
  intro pins s σ H x y v u Q I rx ry h
  obtain ⟨d, ds, hd, he, sd, se, q⟩ := h
  obtain ⟨as, r1⟩ := Dp.reads I d x v hd rx
  obtain ⟨bs, r2⟩ := Dp.reads I (.tuple ds) y u he ry
  exact SeqAt.notIn_tuple_reads r2 r1 (SeqAt.canLay_of_shaped se) (SeqAt.canLay_of_shaped sd) (room_in_shaped sd hu) ⟨.bl _, H, I, rfl, q⟩
def gInC (neg : Bool) (x y : T) : Option T := match gInA neg x y with
  | some τ => some τ
  | none => match y with
    | .tup ts => if (dOk x && dOk (.tup ts)) = true then some (.bl (xor neg (ts.any fun z => eqT z x))) else none
    | .lst ts => if (dOk x && dOk (.lst ts)) = true then some (.bl (xor neg (ts.any fun z => eqT z x))) else none
    | _ => none
theorem any_toDs (x : T) : ∀ ts : List T, ((toDs ts).any fun z => PyData.eqv z (toD x)) = ts.any fun z => eqT z x
  | [] => by simp [toDs]
  | t :: ts => by simp only [toDs, List.any_cons, any_toDs x ts]; rfl
theorem s_inC (hG : Fm G K mg base P w N sc k) : OpS G K (compareOp .In) (gInC false) := by
  intro H x y v u τ Q e rx ry hq
  unfold gInC at e
  split at e
  · rename_i τ' e1
    cases e
    exact s_inA hG H x y v u _ Q e1 rx ry hq
  · split at e
    · split at e
      · rename_i ts _ c
        cases e
        simp only [dOk, Bool.and_eq_true] at c
        refine ⟨fun x y H Q => ∃ d ds, Dp K H x d ∧ Dp K H y (.tuple ds) ∧ SeqAt.shaped d = true ∧ SeqAt.shaped (.tuple ds) = true ∧ Q (.bl (ds.any fun z => PyData.eqv z d)) H, fun i => by rw [← hG.K i]; exact op_inTD (room65 (hG.room i)), toD x, toDs ts, rep_dp x v c.1.1 rx, ?_, c.1.2, ?_, ?_⟩
        · have := rep_dp _ u c.2.1 ry; simpa [toD] using this
        · have := c.2.2; simpa [toD] using this
        · rw [any_toDs]; exact hq _ H (Same.refl H) (rep_bl.mpr (by simp))
      · cases e
    · split at e
      · rename_i ts _ c
        cases e
        simp only [dOk, Bool.and_eq_true] at c
        refine ⟨rInD K, fun i => by rw [← hG.K i]; exact op_inD (room65 (hG.room i)), toD x, toDs ts, rep_dp x v c.1.1 rx, ?_, c.1.2, ?_, ?_⟩
        · have := rep_dp _ u c.2.1 ry; simpa [toD] using this
        · have := c.2.2; simpa [toD] using this
        · rw [any_toDs]; exact hq _ H (Same.refl H) (rep_bl.mpr (by simp))
      · cases e
    · cases e
theorem s_notinC (hG : Fm G K mg base P w N sc k) : OpS G K (compareOp .NotIn) (gInC true) := by
  intro H x y v u τ Q e rx ry hq
  unfold gInC at e
  split at e
  · rename_i τ' e1
    cases e
    exact s_notinA hG H x y v u _ Q e1 rx ry hq
  · split at e
    · split at e
      · rename_i ts _ c
        cases e
        simp only [dOk, Bool.and_eq_true] at c
        refine ⟨fun x y H Q => ∃ d ds, Dp K H x d ∧ Dp K H y (.tuple ds) ∧ SeqAt.shaped d = true ∧ SeqAt.shaped (.tuple ds) = true ∧ Q (.bl (!ds.any fun z => PyData.eqv z d)) H, fun i => by rw [← hG.K i]; exact op_notInTD (room65 (hG.room i)), toD x, toDs ts, rep_dp x v c.1.1 rx, ?_, c.1.2, ?_, ?_⟩
        · have := rep_dp _ u c.2.1 ry; simpa [toD] using this
        · have := c.2.2; simpa [toD] using this
        · rw [any_toDs]; exact hq _ H (Same.refl H) (rep_bl.mpr (by simp))
      · cases e
    · split at e
      · rename_i ts _ c
        cases e
        simp only [dOk, Bool.and_eq_true] at c
        refine ⟨rNotInD K, fun i => by rw [← hG.K i]; exact op_notInD (room65 (hG.room i)), toD x, toDs ts, rep_dp x v c.1.1 rx, ?_, c.1.2, ?_, ?_⟩
        · have := rep_dp _ u c.2.1 ry; simpa [toD] using this
        · have := c.2.2; simpa [toD] using this
        · rw [any_toDs]; exact hq _ H (Same.refl H) (rep_bl.mpr (by simp))
      · cases e
    · cases e

/-! ### == of types too -/
def gEqB (neg : Bool) (x y : T) : Option T := match x, y with
  | .raw _, .raw _ => if neg = true then gNeTy x y else gEqTy x y
  | _, _ => none
theorem op_isTy {X : Cx} : OpR X (compareOp .Is) (fun x y H Q => ∃ a b, x = .ty a ∧ y = .ty b ∧ Q (.bl (decide (a = b))) H) := by
  intro pins s σ H x y v u Q I rx ry h
  obtain ⟨a, b, rfl, rfl, q⟩ := h
  cases (show v = Value.type a from rx)
  cases (show u = Value.type b from ry)
  by_cases e : a = b
  · subst e
    exact wpAny_is_self rfl ⟨.bl true, H, I, rfl, by simpa using q⟩
  · exact wpAny_is_other rfl (fun z => e (Value.type.inj z)) ⟨.bl false, H, I, rfl, by simpa [e] using q⟩
theorem op_isntTy {X : Cx} : OpR X (compareOp .IsNot) (fun x y H Q => ∃ a b, x = .ty a ∧ y = .ty b ∧ Q (.bl (!decide (a = b))) H) := by
  intro pins s σ H x y v u Q I rx ry h
  obtain ⟨a, b, rfl, rfl, q⟩ := h
  cases (show v = Value.type a from rx)
  cases (show u = Value.type b from ry)
  by_cases e : a = b
  · subst e
    exact wpAny_isNot_self rfl ⟨.bl false, H, I, rfl, by simpa using q⟩
  · exact wpAny_isNot_other rfl (fun z => e (Value.type.inj z)) ⟨.bl true, H, I, rfl, by simpa [e] using q⟩
theorem s_isTy : OpS G K (compareOp .Is) gEqTy := by
  intro H x y v u τ Q e rx ry hq
  unfold gEqTy at e
  split at e
  · split at e
    · cases e
      exact ⟨_, fun i => op_isTy, _, _, rep_raw.mp rx, rep_raw.mp ry, hq _ H (Same.refl H) (rep_bl.mpr rfl)⟩
    · cases e
  · cases e
theorem s_isntTy : OpS G K (compareOp .IsNot) gNeTy := by
  intro H x y v u τ Q e rx ry hq
  unfold gNeTy at e
  split at e
  · split at e
    · cases e
      exact ⟨_, fun i => op_isntTy, _, _, rep_raw.mp rx, rep_raw.mp ry, hq _ H (Same.refl H) (rep_bl.mpr rfl)⟩
    · cases e
  · cases e
theorem s_eqB (hG : Fm G K mg base P w N sc k) : OpS G K (compareOp .Is) (gEqB false) := by
  intro H x y v u τ Q e rx ry hq
  unfold gEqB at e
  split at e
  · simp only [Bool.false_eq_true, if_false] at e
    exact s_isTy H _ _ v u τ Q e rx ry hq
  · cases e
theorem s_neB (hG : Fm G K mg base P w N sc k) : OpS G K (compareOp .IsNot) (gEqB true) := by
  intro H x y v u τ Q e rx ry hq
  unfold gEqB at e
  split at e
  · simp only [if_true] at e
    exact s_isntTy H _ _ v u τ Q e rx ry hq
  · cases e

/-! ### a written dict of defs -/
structure KTab (K : PySem.W.Frag) (w : World) (d : Addr) (tab : List (Str × Addr)) : Prop where
  ex : ∃ es n, KDict K w d es n
  at_ : ∀ z, PySem.W.nsIn K d z = some ((tab.lookup z).map Value.ref)
def gNotInK (dF : Addr) (tab : List (Str × Addr)) (x y : T) : Option T := match x, y with
  | .str z, .raw (.ref d) => if d = dF then some (.bl (!(tab.lookup z).isSome)) else none
  | _, _ => none
theorem s_notInK {dF : Addr} {tab : List (Str × Addr)} (hG : Fm G K mg base P w N sc k) (hT : KTab K w dF tab) : OpS G K (compareOp .NotIn) (gNotInK dF tab) := by
  intro H x y v u τ Q e rx ry hq
  unfold gNotInK at e
  split at e
  · rename_i z d
    split at e
    · rename_i hd
      subst hd
      cases e
      obtain ⟨es, n, D⟩ := hT.ex
      refine ⟨fun x y H Q => ∃ (z : Str) (r : Option Value), x = .str z ∧ y = .ref d ∧ PySem.W.nsIn K d z = some r ∧ Q (.bl (!r.isSome)) H, fun i => ?_, z, _, rep_str.mp rx, rep_raw.mp ry, hT.at_ z, ?_⟩
      · have D' : KDict (G i).K (G i).w d es n := by rw [hG.K i, hG.w i]; exact D
        have := op_notIn_kd D'
        rw [hG.K i] at this
        exact this
      · rw [Option.isSome_map]
        exact hq _ H (Same.refl H) (rep_bl.mpr rfl)
    · cases e
  · cases e
def gItemK (dF : Addr) (tab : List (Str × Addr)) (x y : T) : Option T := match x, y with
  | .raw (.ref d), .str z => if d = dF then (tab.lookup z).map (fun f => .raw (.ref f)) else none
  | _, _ => none
variable {a b e : Expr} {da db de : Env' → Option T} {pos : Pos}
theorem ev_itemK {dF : Addr} {tab : List (Str × Addr)} (hG : Fm G K mg base P w N sc k) (hT : KTab K w dF tab) (ha : EV G K a da) (hb : EV G K b db) (hs : PlainIx b := by intro _ _; rfl) : EV G K (.Subscript a b pos) (fun ρ => b2 (gItemK dF tab) (da ρ) (db ρ)) := by
  intro ρ σ H τ Q he hd hq
  obtain ⟨x, y, ea, eb, eg⟩ := b2_some hd
  unfold gItemK at eg
  split at eg
  · rename_i d z
    split at eg
    · rename_i hdd
      subst hdd
      cases e1 : tab.lookup z with
      | none => rw [e1] at eg; cases eg
      | some f =>
        rw [e1] at eg
        cases eg
        obtain ⟨es, n, D⟩ := hT.ex
        refine ⟨tOp (rIxD K w) (ES G a) (ES G b), fun i => pe_ix (by rw [← hG.K i, ← hG.w i]; exact ix_kdict) (pe_ts i) (pe_ts i) hs, ?_⟩
        refine ha ρ σ H _ _ he ea fun v H1 s1 r1 => hb ρ σ H1 _ _ (he.same s1) eb fun u H2 s2 r2 => ?_
        refine ⟨d, z, .ref f, rep_raw.mp r1, rep_str.mp r2, ⟨es, n, .ref f, D.at_, D.lit, ?_, rfl⟩, hq _ _ (s1.trans s2) (rep_raw.mpr rfl)⟩
        rw [hT.at_ z, e1]; rfl
    · cases eg
  · cases eg
/-- four words -/
def tab4 (n1 n2 n3 n4 : Str) (f1 f2 f3 f4 : Addr) : List (Str × Addr) := [(n1, f1), (n2, f2), (n3, f3), (n4, f4)]
theorem ktab4 {d : Addr} {n1 n2 n3 n4 : Str} {f1 f2 f3 f4 : Addr} {h1 h2 h3 h4 : Int} {t1 t2 t3 t4 : Tok} {n : Nat}
    (l : K.lookup d = some ⟨.type "dict", none, .dict #[⟨h1, .str n1 t1, .ref f1⟩, ⟨h2, .str n2 t2, .ref f2⟩, ⟨h3, .str n3 t3, .ref f3⟩, ⟨h4, .str n4 t4, .ref f4⟩] n, #[]⟩)
    (e1 : h1 = PyData.keyHash w.params n1) (e2 : h2 = PyData.keyHash w.params n2) (e3 : h3 = PyData.keyHash w.params n3) (e4 : h4 = PyData.keyHash w.params n4) (low : (d == sysModules) = false) : KTab K w d (tab4 n1 n2 n3 n4 f1 f2 f3 f4) := by
  refine ⟨⟨_, n, l, ⟨⟨_, _, rfl, e1⟩, ⟨_, _, rfl, e2⟩, ⟨_, _, rfl, e3⟩, ⟨_, _, rfl, e4⟩, trivial⟩, low⟩, fun z => ?_⟩
  unfold PySem.W.nsIn
  rw [l]
  dsimp only
  have q : ∀ (m : Str) (t : Tok), (Value.str m t).isStr z = (z == m) := fun m t => by
    show (m == z) = (z == m)
    exact Bool.beq_comm
  unfold tab4
  simp only [List.find?, q, List.lookup]
  by_cases c1 : z == n1
  · simp [c1]
  · by_cases c2 : z == n2
    · simp [c1, c2]
    · by_cases c3 : z == n3
      · simp [c1, c2, c3]
      · by_cases c4 : z == n4
        · simp [c1, c2, c3, c4]
        · simp [c1, c2, c3, c4, DictEntry.refKey]
/-- a def, by its address -/
structure ClA (P : Program) (w : World) (K : PySem.W.Frag) (mg : Str → Option Value) (base : Heap) (k : Nat) (f : Addr) (sp : Sp) : Prop where
  ex : ∃ (fd : FuncData) (ps : List Str), FnOk P w K mg base CX0 k f fd ps sp ∧ PySem.W.keepIn K (.ref f) = true ∧ Binds K fd ps []
theorem Cl.at_ {x : Str} {sp : Sp} {f : Addr} (c : Cl P w K mg base k x sp) (g : mg x = some (.ref f)) : ClA P w K mg base k f sp := by
  obtain ⟨f', fd, ps, F, hm, kp, b⟩ := c.ex
  rw [g] at hm
  cases hm
  exact ⟨fd, ps, F, kp, b⟩
def fitD (tab : List (Str × Addr)) (ft : Str → Option (List T → Option T)) (o o' : Option T) (d : Option (List T)) : Option T := match o, o' with
  | some (.str z), some (.raw (.ref f)) => if tab.lookup z = some f then (ft z).bind fun φ => d.bind φ else none
  | _, _ => none
theorem ev_callAt {x : Str} {p : Pos} {es : List Expr} {dr : Env' → Option (List T)} {m n : Nat} {tab : List (Str × Addr)} {ft : Str → Option (List T → Option T)} (hG : Fm G K mg base P w N sc k) (iw j : Nat)
    (hc : ∀ z f φ, tab.lookup z = some f → ft z = some φ → ClA P w K mg base m f (spD K n false φ)) (ha : AV G K (e :: es) dr) (hjk : m ≤ k := by decide) (hN : N[j]? = some x := by rfl) (hv : visB sc x = true := by rfl)
    (hdb : (x == ("__debug__" : Str)) = false := by decide) (hcd : (x == ("__classdict__" : Str)) = false := by decide)
    (he : ∀ i, starEach (e :: es) (G i).env = (false, eval e (G i).env) :: starEach es (G i).env := by intro _; rfl) (hpl : ∀ i, (backTo pos (starEach es (G i).env)).any (·.1) = false := by intro _; rfl)
    (hn : (e :: es).length = n := by rfl) : EV G K (.Call (.Name x p) (e :: es) [] pos) (fun ρ => fitD tab ft (nd iw ρ) (nd j ρ) (dr ρ)) := by
  intro ρ σ H τ Q hE hd hq
  dsimp only at hd
  unfold fitD at hd
  split at hd
  · rename_i z f e1 e2
    split at hd
    · rename_i e3
      cases e4 : ft z with
      | none => rw [e4] at hd; cases hd
      | some φ =>
        rw [e4] at hd
        cases e5 : dr ρ with
        | none => rw [e5] at hd; cases hd
        | some ts =>
          rw [e5] at hd
          obtain ⟨fd, ps, F, kp, b⟩ := (hc z f φ e3 e4).ex
          refine ⟨tCallL j f (spD K n false φ) [] E0 (TAs G (e :: es)), fun i => ?_, ?_⟩
          · refine pe_callL (k := k) (CX := CX0) (fd := fd) (ps := ps) (ds := []) ?_ (hG.room i) (by rw [hG.N i]; exact hN) (by rw [hG.sc i]; exact vis_of hv) (by rw [hG.K i]; exact kp) (by rw [hG.K i]; exact b) .nil pass0 (pa_ts i) hdb hcd (he i) (hpl i)
            rw [hG.P i, hG.w i, hG.K i, hG.mg i, hG.base i]
            exact F.mono hjk
          · obtain ⟨v, e6, r6⟩ := hE.2 j _ (nd_some e2)
            rw [rep_raw.mp r6] at e6
            refine ⟨e6, ?_⟩
            refine ha.2 ρ σ H ts _ hE e5 fun vs H1 s1 r => ?_
            rw [List.append_nil]
            exact ⟨ts, τ, r, (ha.1 ρ ts e5).trans hn, hd, fun v H' s2 r2 => hq v H' (s1.trans s2) r2⟩
    · cases hd
  · cases hd
end DL
/-! DL23: what raises; a suite that catches it and tells its class. -/
namespace DL
open PySem PySem.Spec PyProof.Rows L2
variable {ι : Type} {G : ι → Cx} {K : PySem.W.Frag} {mg : Str → Option Value} {base : Heap} {P : Program} {w : World} {N : List Str} {sc : Scope} {k : Nat}
variable {fr : Bool} {ow ow' ow2 owl : List Nat}

/-! ### an own class of errors, over ValueError -/
structure ExcT (K : PySem.W.Frag) (mg : Str → Option Value) (x : Str) (C : Addr) : Prop where
  g : mg x = some (.ref C)
  q : PySem.W.excIn K C [.type "ValueError", .type "Exception", .type "BaseException", .type "object"] "ValueError.__new__" = true
  k : PySem.W.keepIn K (.ref C) = true
  s : PySem.W.subIn K (.ref C) (.type "BaseException") = some true
  t : PySem.W.typeIn K (.ref C) = some (.type "type")

/-! ### what raises -/
/-- where dx tells x, an error of the class x goes out -/
def SX (K : PySem.W.Frag) (W : WX) (mg : Str → Option Value) (ow : List Nat) (R : TS) (dx : Env' → Option Str) : Prop :=
  ∀ B ρ σ H D x, StR K B ow ρ σ H → dx ρ = some x → (∀ C σ' H', mg x = some (.ref C) → Same B H' → W (.ref C) none σ' H') → R D σ H
variable {W : WX} {R : TS} {st : Stmt} {sts : List Stmt} {dx d1x d2x : Env' → Option Str} {d1 d2 : Env' → Out}
theorem sx_none : SX K W mg ow R (fun _ => none) := fun _ _ _ _ _ _ _ h => nomatch h
theorem sx_raise {x m : Str} {j : Nat} {p p2 p3 pos : Pos} {C : Addr} (hG : Fm G K mg base P w N sc k) (hw : ∀ i, Takes (G i) W) (E : ExcT K mg x C) (hg : glB sc x = true := by rfl) (hdb : (x == ("__debug__" : Str)) = false := by decide) :
    SX K W mg ow (TSt G (.Raise (some (.Call (.Name x p) [.Constant (.str m) j p2] [] p3)) none pos)) (fun _ => some x) := by
  intro B ρ σ H D y hr hd hq
  cases hd
  refine ⟨_, fun i => ps_raise (hG.calm i) (hw i) (pmk_own PySem.F.excBase_ValueError (by rw [hG.K i]; exact E.q) (by rw [hG.mg i]; exact E.g) (by rw [hG.K i]; exact E.k) (raises_own (by rw [hG.K i]; exact E.s) (by rw [hG.K i]; exact E.t)) (gl_of hG hg i) hdb), ?_⟩
  exact hq C σ H E.g hr.sm
/-- a raise that is never come to -/
theorem sv_never : SV K fr ow ow' owl (TSt G st) (fun _ => .er) := fun _ _ _ _ _ _ h => h.elim
def seqX (d1x : Env' → Option Str) (d1 : Env' → Out) (d2x : Env' → Option Str) (ρ : Env') : Option Str := match d1x ρ with
  | some x => some x
  | none => match d1 ρ with
    | .nx ρ' => d2x ρ'
    | _ => none
theorem sx_cons (h1x : SX K W mg ow (TSt G st) d1x) (h1 : SV K fr ow ow2 owl (TSt G st) d1) (h2 : SX K W mg ow2 (TSs G sts) d2x) : SX K W mg ow (TSs G (st :: sts)) (seqX d1x d1 d2x) := by
  intro B ρ σ H D x hr hd hq
  refine ⟨tSeq (TSt G st) (TSs G sts), fun i => pss_cons (ps_st i) (pss_ss i), ?_⟩
  unfold seqX at hd
  split at hd
  · rename_i y e
    cases hd
    exact h1x B ρ σ H _ x hr e hq
  · split at hd
    · rename_i ρ' e
      refine h1 B ρ σ H _ hr ?_
      rw [e]
      exact fun σ' H' hr' => h2 B ρ' σ' H' D x hr' hd hq
    · cases hd
theorem sx_one (h : SX K W mg ow (TSt G st) dx) : SX K W mg ow (TSs G [st]) dx := fun B ρ σ H D x hr hd hq => ⟨_, fun i => pss_one (ps_st i), h B ρ σ H D x hr hd hq⟩
def ifX (c : Option Bool) (a b : Env' → Option Str) (ρ : Env') : Option Str := match c with
  | some true => a ρ
  | some false => b ρ
  | none => none
theorem sx_if {c : Expr} {a b : List Stmt} {dc : Env' → Option Bool} {pos : Pos} (hc : BV G K c dc) (ha : SX K W mg ow (TSs G a) d1x) (hb : SX K W mg ow (TSs G b) d2x) :
    SX K W mg ow (TSt G (.If c a b pos)) (fun ρ => ifX (dc ρ) d1x d2x ρ) := by
  intro B ρ σ H D x hr hd hq
  dsimp only at hd
  unfold ifX at hd
  refine ⟨_, fun i => ps_if (pt_ts i) (pss_ss i) (pss_ss i), ?_⟩
  split at hd
  · rename_i e1
    refine hc ρ σ H true _ hr.env e1 fun H1 s1 => ?_
    rw [if_pos rfl]
    exact ha B ρ σ H1 D x (hr.grow s1) hd hq
  · rename_i e1
    refine hc ρ σ H false _ hr.env e1 fun H1 s1 => ?_
    rw [if_neg Bool.false_ne_true]
    exact hb B ρ σ H1 D x (hr.grow s1) hd hq
  · cases hd
/-- the promise: n arguments, the class of the error by dx -/
def spX (K : PySem.W.Frag) (mg : Str → Option Value) (n : Nat) (df : List T → Option Str) : Sp := fun vs H Q E => ∃ ts x, Reps K H ts vs ∧ ts.length = n ∧ df ts = some x ∧ ∀ C H', mg x = some (.ref C) → Same H H' → E (.ref C) none H'
structure ClX (P : Program) (w : World) (K : PySem.W.Frag) (mg : Str → Option Value) (base : Heap) (k : Nat) (x : Str) (sp : Sp) : Prop where
  ex : ∃ (f : Addr) (fd : FuncData) (ps : List Str), FnOk P w K mg base (L2.CX P w) k f fd ps sp ∧ mg x = some (.ref f) ∧ PySem.W.keepIn K (.ref f) = true ∧ Binds K fd ps []
theorem fn_x {x : Str} {f : Addr} {fd : FuncData} {ps : List Str} {df : List T → Option Str} (F : Fun K x x st f fd) (S : FnScope N ps (defScope st)) (hm : mg x = some (.ref f)) (hb : Binds K fd ps [])
    (body : ∀ (G : Unit → Cx) (W : WX), Fb G K mg base P w N (defScope st) k → (∀ i, Takes (G i) W) → SX K W mg [] (TSs G (defBody st)) dx) (hd : ∀ ts, ts.length = ps.length → ∀ y, df ts = some y → dx (rho0 N ts) = some y) :
    ClX P w K mg base (k + 1) x (spX K mg ps.length df) := by
  have hpl : ps.length ≤ N.length := by
    have := congrArg List.length S.pre
    rw [List.length_take] at this
    omega
  refine ⟨f, fd, ps, ?_, hm, F.kp, hb⟩
  refine F.okX S (fun vs H Q E h => ?_) (fun cdv A outer s H vs Q E hr h => ?_)
  · obtain ⟨ts, y, r, hl, _⟩ := h
    rw [← r.length]; exact hl
  · obtain ⟨ts, y, r, hl, e, q⟩ := h
    have e := hd ts hl y e
    have hF : Fb (fun _ : Unit => cxOf (L2.CX P w) P w K mg base N x (defScope st) f cdv A outer s H E) K mg base P w N (defScope st) k :=
      { K := fun _ => rfl, mg := fun _ => rfl, base := fun _ => rfl, P := fun _ => rfl, w := fun _ => rfl, N := fun _ => rfl, sc := fun _ => rfl, calm := fun _ => rfl, room := fun _ => hr,
        po := fun _ => passes_of rfl, fb := ⟨fun _ _ => .inl rfl⟩ }
    refine ⟨_, pss_ss (G := fun _ : Unit => cxOf (L2.CX P w) P w K mg base N x (defScope st) f cdv A outer s H E) (), ?_⟩
    exact body _ (fun cls d _ H => E cls d H) hF (fun _ => takes_of rfl rfl rfl rfl) H (rho0 N ts) (L2.start N vs) H _ y ⟨H, Same.refl H, start_str r (by omega)⟩ e fun C σ' H' g s => q C H' g s

/-! ### the suite of a clause -/
structure Fs {ι : Type} (G : ι → Cx) (K : PySem.W.Frag) (mg : Str → Option Value) (N : List Str) (sc : Scope) : Prop where
  K : ∀ i, (G i).K = K
  mg : ∀ i, (G i).mg = mg
  N : ∀ i, (G i).N = N
  sc : ∀ i, (G i).env.scope = sc
theorem Fm.fs (hG : Fm G K mg base P w N sc k) : Fs G K mg N sc := ⟨hG.K, hG.mg, hG.N, hG.sc⟩
theorem gl_ofS (hG : Fs G K mg N sc) {x : Str} (h : glB sc x = true) (i : ι) : Gl (G i) x := by
  show (G i).env.scope.names.lookup x = some .globalImplicit
  rw [hG.sc i]
  unfold glB at h
  split at h
  · assumption
  · cases h
theorem ev_varS (hG : Fs G K mg N sc) (i : Nat) {x : Str} {pos : Pos} (hN : N[i]? = some x := by rfl) (hv : visB sc x = true := by rfl)
    (hd : (x == ("__debug__" : Str)) = false := by decide) (hcd : (x == ("__classdict__" : Str)) = false := by decide) : EV G K (.Name x pos) (nd i) := by
  intro ρ σ H τ Q he hd' hq
  refine ⟨tVar i, fun j => pe_var (by rw [hG.N j]; exact hN) (by rw [hG.sc j]; exact vis_of hv) hd hcd, ?_⟩
  obtain ⟨v, e, r⟩ := he.2 i τ (nd_some hd')
  exact ⟨v, e, hq v H (Same.refl H) r⟩
theorem sv_setS {e : Expr} {de : Env' → Option T} {pos : Pos} (hG : Fs G K mg N sc) (hN0 : N.Nodup) (hF : FnB G sc) (i : Nat) (ni : i ∉ ow) {x : Str} {pos' : Pos} (h : EV G K e de) (hN : N[i]? = some x := by rfl) (hv : locB sc x = true := by rfl)
    (hs : ∀ i, swapsWith e (some (.Name x pos')) pos.line (G i).env = pure false := by intro _; rfl) : SV K fr ow ow owl (TSt G (.Assign [.Name x pos'] e pos)) (fun ρ => setD ow.isEmpty i (de ρ) ρ) := by
  intro B ρ σ H D hr hp
  dsimp only at hp
  unfold setD at hp
  split at hp
  · rename_i τ e1
    split at hp
    · rename_i c
      refine ⟨_, fun j => ps_set (i := i) (by rw [hG.N j]; exact hN0) (by rw [hG.N j]; exact hN) (by rw [hG.sc j]; exact loc_of hv) (pe_ts j) (hs j) (hF.fn j x), ?_⟩
      refine h ρ σ H τ _ hr.env e1 fun v H' s r => ?_
      obtain ⟨B2, s2, q, r2⟩ := (hr.grow s).settle (by simpa using c) r
      exact hp _ H' ⟨B2, s2, q.set ni r2⟩
    · cases hp
  · cases hp
abbrev Su (ι : Type) (cls : Value) (d : Option Addr) := ι × {p : Obj × List (Addr × Obj) // Zc cls d p.1 ∧ ∃ vs, p.1.data = .fields vs}
def gSu (G : ι → Cx) (a : Addr) (cls : Value) (d : Option Addr) : Su ι cls d → Cx := fun q => (G q.1).suite a ((a, q.2.1.1) :: q.2.1.2)
theorem fs_su {a : Addr} {cls : Value} {d : Option Addr} (hG : Fm G K mg base P w N sc k) : Fs (gSu G a cls d) K mg N sc := ⟨fun q => hG.K q.1, fun q => hG.mg q.1, fun q => hG.N q.1, fun q => hG.sc q.1⟩
theorem fb_su {a : Addr} {cls : Value} {d : Option Addr} (hF : FnB G sc) : FnB (gSu G a cls d) sc := ⟨fun q x => hF.fn q.1 x⟩
/-- what a class beside C is to an instance of C -/
structure IsK (K : PySem.W.Frag) (C : Addr) (cv : V) (b : Bool) : Prop where
  ex : ∃ u : Value, (∀ u', RelV cv u' → u' = u) ∧ PySem.W.kitOne K (.ref C) u = some b
theorem isK_own {C D : Addr} {b : Bool} (h1 : PySem.W.isClsIn K D = true) (h2 : PySem.W.typeIn K (.ref D) = some (.type "type")) (h3 : PySem.W.subIn K (.ref C) (.ref D) = some b) (h4 : PySem.W.subIn K (.ref C) (.ref C) = some true) : IsK K C (.ref D) b := by
  refine ⟨.ref D, fun u h => h, ?_⟩
  unfold PySem.W.kitOne
  by_cases e : C = D
  · subst e
    rw [h3] at h4
    cases h4
    simp
  · rw [if_neg (by simp [e])]
    have h1' : (PySem.W.clsIn K D).isSome = true := h1
    show (if ((PySem.W.clsIn K D).isSome && PySem.W.typeIn K (.ref D) == some (.type "type")) = true then PySem.W.subIn K (.ref C) (.ref D) else none) = some b
    rw [if_pos (by rw [h1', h2]; rfl)]
    exact h3
theorem isK_val {C : Addr} {b : Bool} (h3 : PySem.W.subIn K (.ref C) (.type "ValueError") = some b) : IsK K C (.ty "ValueError") b := by
  refine ⟨.type "ValueError", fun u h => h, ?_⟩
  unfold PySem.W.kitOne
  rw [if_neg (by simp)]
  show (if PySem.W.kitMeta "ValueError" = true then PySem.W.subIn K (.ref C) (.type "ValueError") else none) = some b
  rw [if_pos (by decide +kernel)]
  exact h3
def isED (a : Addr) (b : Bool) (o : Option T) : Option T := match o with
  | some (.raw (.ref a')) => if a' = a then some (.bl b) else none
  | _ => none
variable {pos : Pos}
theorem ev_isE {a C : Addr} {b : Bool} {cv : V} (hG : Fm G K mg base P w N sc k) (hC : ExcC K C) (hm : mg "isinstance" = none) (ie : Nat) {n : Str} {p p1 : Pos} {ec : Expr} (hk : IsK K C cv b) (he : EV (gSu G a (.ref C) none) K ec (fun _ => some (.raw cv)))
    (hN : N[ie]? = some n := by rfl) (hv : visB sc n = true := by rfl) (hg : glB sc "isinstance" = true := by rfl) (hd : (n == ("__debug__" : Str)) = false := by decide) (hcd : (n == ("__classdict__" : Str)) = false := by decide)
    (hs1 : ∀ i, starEach [.Name n p1, ec] (gSu G a (.ref C) none i).env = (false, eval (.Name n p1) (gSu G a (.ref C) none i).env) :: starEach [ec] (gSu G a (.ref C) none i).env := by intro _; rfl)
    (hs2 : ∀ i, starEach [ec] (gSu G a (.ref C) none i).env = [(false, eval ec (gSu G a (.ref C) none i).env)] := by intro _; rfl)
    (hpl : ∀ i, (backTo pos (starEach [ec] (gSu G a (.ref C) none i).env)).any (·.1) = false := by intro _; rfl) :
    EV (gSu G a (.ref C) none) K (.Call (.Name "isinstance" p) [.Name n p1, ec] [] pos) (fun ρ => isED a b (nd ie ρ)) := by
  intro ρ σ H τ Q hE hd' hq
  dsimp only at hd'
  unfold isED at hd'
  split at hd'
  · rename_i a' e1
    split at hd'
    · rename_i ea
      subst ea
      cases hd'
      have hS := fs_su (a := a') (cls := .ref C) (d := none) hG
      obtain ⟨u, hu, hkit⟩ := hk.ex
      have hcr : ∀ i, CallR (gSu G a' (.ref C) none i) (.builtin "isinstance") (rIsE K C a') := fun i => by
        have := call_isE (X := G i.1) (a := a') (oe := i.2.1.1) (pn := i.2.1.2) (C := by rw [hG.K i.1]; exact hC) i.2.2.1 i.2.2.2
        rw [hG.K i.1] at this
        exact this
      refine ⟨tCB (rIsE K C a') (tCons (tVar ie) (tCons (ES (gSu G a' (.ref C) none) ec) tNil)), fun i => pe_callB (hcr i) (gl_ofS hS hg i) (by rw [hS.mg i]; exact hm) (by decide +kernel) (pa_cons (pe_var (by rw [hS.N i]; exact hN) (by rw [hS.sc i]; exact vis_of hv) hd hcd) (pa_cons (pe_ts i) pa_nil (hs2 i)) (hs1 i)) (by decide) (by decide) (hs1 i) (hpl i), ?_⟩
      obtain ⟨v, e2, r⟩ := hE.2 ie _ (nd_some e1)
      cases rep_raw.mp r
      refine ⟨_, e2, ?_⟩
      refine he ρ σ H _ _ hE rfl fun v2 H2 s2 r2 => ?_
      cases rep_raw.mp r2
      exact ⟨_, u, b, rfl, hu, hkit, hq _ H2 s2 (rep_bl.mpr rfl)⟩
    · cases hd'
  · cases hd'
theorem ev_globS (hG : Fs G K mg N sc) {x : Str} {v : V} {u : Value} {τ : T} {pos : Pos} (hm : mg x = some u) (r : RelV v u) (hτ : ∀ H, Rep K H τ v) (hg : glB sc x = true := by rfl) (hd : (x == ("__debug__" : Str)) = false := by decide) :
    EV G K (.Name x pos) (fun _ => some τ) := by
  intro ρ σ H τ' Q he hd' hq
  cases hd'
  exact ⟨_, fun i => pe_glob (gl_ofS hG hg i) (by rw [hG.mg i]; exact hm) r hd, hq _ _ (Same.refl H) (hτ H)⟩
theorem ev_bltnS (hG : Fs G K mg N sc) {x : Str} {v : V} {u : Value} {pos : Pos} (hm : mg x = none) (hv : bootBuiltins x = some u) (r : RelV v u) (hg : glB sc x = true := by rfl) (hn : x ≠ "__name__" := by decide) (hd : (x == ("__debug__" : Str)) = false := by decide) :
    EV G K (.Name x pos) (fun _ => some (.raw v)) := by
  intro ρ σ H τ' Q he hd' hq
  cases hd'
  exact ⟨_, fun i => pe_bltn (gl_ofS hG hg i) (by rw [hG.mg i]; exact hm) hv r hn hd, hq _ _ (Same.refl H) (rep_raw.mpr rfl)⟩

/-! ### try: f(x) except X as n: suite -/
/-- an own class in a clause -/
structure Hit (K : PySem.W.Frag) (C D : Addr) : Prop where
  ex : PySem.W.exmOne K (.ref C) (.ref D) = some true
theorem hit_of {C D : Addr} (h1 : PySem.W.subIn K (.ref D) (.type "BaseException") = some true) (h2 : PySem.W.hasDictIn K D = true) (h3 : PySem.W.typeIn K (.ref D) = some (.type "type")) (h4 : PySem.W.subIn K (.ref C) (.ref D) = some true) : Hit K C D := ⟨PySem.W.exm_ref h1 h2 h3 h4⟩
def tryD (ie : Nat) (dx : List T → Option Str) (suite : Str → Out) (o : Option T) (ρ : Env') : Out := if ie < ρ.length then (match o with
  | some t => match dx [t] with
    | some x => suite x
    | none => .er
  | none => .er) else .er
theorem sv_try {cal a n bk : Str} {ia ie j : Nat} {DB : Addr} {df : List T → Option Str} {ds : Str → Out} {b₀ : Stmt} {suite : List Stmt} {pf pa pc pe pb ph pt : Pos} (hG : Fm G K mg base P w N sc k) (hN0 : N.Nodup)
    (hst : ∀ i, (G i).stack = (G i).env :: (G i).outer) (hfm : ∀ i, (G i).env.frame = some (G i).env.locals) (c : ClX P w K mg base j cal (spX K mg 1 df)) (gB : mg bk = some (.ref DB))
    (hsu : ∀ (x : Str) (C : Addr) (a : Addr), mg x = some (.ref C) → ds x ≠ .er → Hit K C DB ∧ ∃ d : Env' → Out, SV K fr [] [] owl (TSs (gSu G a (.ref C) none) (b₀ :: suite)) d ∧ ∀ ρ : Env', ie < ρ.length → d (ρ.set ie (some (.raw (.ref a)))) = ds x)
    (hds : ∀ x ρ, ds x ≠ .nx ρ ∧ ds x ≠ .bk ρ ∧ ds x ≠ .ct ρ) (hgx : ∀ ts x, df ts = some x → ∃ C, mg x = some (.ref C))
    (hjk : j ≤ k := by decide) (hgf : glB sc cal = true := by rfl) (hgb : glB sc bk = true := by rfl) (hNa : N[ia]? = some a := by rfl) (hva : visB sc a = true := by rfl) (hNe : N[ie]? = some n := by rfl) (hve : sc.names.lookup n = some .local := by rfl)
    (hd1 : (cal == ("__debug__" : Str)) = false := by decide) (hd2 : (bk == ("__debug__" : Str)) = false := by decide) (hd3 : (a == ("__debug__" : Str)) = false := by decide) (hd4 : (a == ("__classdict__" : Str)) = false := by decide) :
    SV K fr [] [] owl (TSt G (.Try [.Expr (.Call (.Name cal pf) [.Name a pa] [] pc) pe] [.ExceptHandler (some (.Name bk pb)) (some n) (b₀ :: suite) ph] [] [] pt)) (fun ρ => tryD ie df ds (nd ia ρ) ρ) := by
  intro B ρ σ H D hr hp
  dsimp only at hp
  unfold tryD at hp
  split at hp
  rotate_left
  · exact hp.elim
  rename_i hlen
  split at hp
  · rename_i t e1
    split at hp
    · rename_i x e2
      obtain ⟨f, fd, ps, F, hm, kp, b⟩ := c.ex
      obtain ⟨C, hC⟩ := hgx _ _ e2
      have hne : ds x ≠ .er := fun z => by rw [z] at hp; exact hp
      refine ⟨fun D σ H => (tDrop (tCallS (spX K mg 1 df) (WE (wAs K (.ref DB) ie (fun a cls d => TSs (gSu G a cls d) (b₀ :: suite)) (fun _ _ _ _ => False) D)) (tCons (tVar ia) tNil))) D σ H, fun i => ?_, ?_⟩
      · have hl : (G i).env.kindOf n = some .local := by
          show (G i).env.scope.names.lookup n = some .local
          rw [hG.sc i]; exact hve
        have := ps_try_as (X := G i) (x := bk) (n := n) (c := .ref DB) (i := ie) (b₀ := b₀) (suite := suite) (np := pb) (pos := pt) (pos' := ph) (body := [.Expr (.Call (.Name cal pf) [.Name a pa] [] pc) pe])
          (tb := fun W => tDrop (tCallS (spX K mg 1 df) (WE W) (tCons (tVar ia) tNil))) (ts := fun a cls d => TSs (gSu G a cls d) (b₀ :: suite)) (Wout := fun _ _ _ _ => False)
          (hst i) (hfm i) (by rw [hG.N i]; exact hN0) (by rw [hG.N i]; exact hNe) hl ⟨gl_of hG hgb i, hd2, .inl (by rw [hG.mg i]; exact gB)⟩ takes0
          (fun W pn xe tk _ => pss_one (ps_expr (pe_callS (k := k) (f := f) (fd := fd) (ps := ps) (by
              show FnOk (G i).prog (G i).w (G i).K (G i).mg (G i).base (L2.CX (G i).prog (G i).w) k f fd ps _
              rw [hG.P i, hG.w i, hG.K i, hG.mg i, hG.base i]; exact F.mono hjk)
            (hG.room i) (gl_of hG hgf i) (by show (G i).mg cal = _; rw [hG.mg i]; exact hm) (by show PySem.W.keepIn (G i).K _ = _; rw [hG.K i]; exact kp) (by show Binds (G i).K _ _ _; rw [hG.K i]; exact b) (fun σ => passAt tk σ)
            (pa_cons (pe_var (by show (G i).N[ia]? = _; rw [hG.N i]; exact hNa) (by show Vis (G i).env.scope a; rw [hG.sc i]; exact vis_of hva) hd3 hd4) pa_nil) hd1)))
          (fun a oe cls d pn hz hf => pss_ss (G := gSu G a cls d) (i, ⟨(oe, pn), hz, hf⟩))
        rw [hG.K i] at this
        exact this
      · obtain ⟨v, e3, r3⟩ := hr.env.2 ia t (nd_some e1)
        refine ⟨v, e3, ?_⟩
        refine ⟨[t], x, .cons r3 .nil, rfl, e2, fun C' H' g s => ?_⟩
        rw [hC] at g
        cases g
        refine ⟨true, ((hsu x C 0 hC hne).1).ex, fun _ a na => ?_, fun q => nomatch q⟩
        obtain ⟨d, hs, hd⟩ := (hsu x C a hC hne).2
        have hr1 : StR K B [] ρ σ H' := hr.grow s
        obtain ⟨B', sB, q⟩ := hr1
        refine hs B (ρ.set ie (some (.raw (.ref a)))) (σ.set ie (some (.ref a))) H' _ ⟨B', sB, q.set (by simp) (rep_raw.mpr rfl)⟩ ?_
        rw [hd ρ hlen]
        cases e4 : ds x with
        | nx ρ' => exact absurd e4 (hds x ρ').1
        | bk ρ' => exact absurd e4 (hds x ρ').2.1
        | ct ρ' => exact absurd e4 (hds x ρ').2.2
        | er => exact absurd e4 hne
        | rt τ => rw [e4] at hp; exact hp
    · exact hp.elim
  · exact hp.elim
end DL
namespace DL
open PySem PySem.Spec PyProof.Rows L2
variable {K : PySem.W.Frag} {mg : Str → Option Value} {base : Heap} {P : Program} {w : World} {N : List Str} {k : Nat} {fr : Bool}
/-- as fn_dl, for a def with a try -/
theorem fn_dlT {x : Str} {st : Stmt} {f : Addr} {fd : FuncData} {ps : List Str} {d : Env' → Out} {df : List T → Option T} (F : Fun K x x st f fd) (S : FnScope N ps (defScope st)) (hm : mg x = some (.ref f)) (hb : Binds K fd ps []) {ow' : List Nat}
    (body : ∀ (G : Unit → Cx), Fb G K mg base P w N (defScope st) k → (∀ i, (G i).stack = (G i).env :: (G i).outer) → (∀ i, (G i).env.frame = some (G i).env.locals) → SV K fr [] ow' [] (TSs G (defBody st)) d) (hd : ∀ ts, ts.length = ps.length → ∀ τ, df ts = some τ → fnD N fr d ts = some τ) :
    Cl P w K mg base (k + 1) x (spD K ps.length fr df) := by
  have hpl : ps.length ≤ N.length := by
    have := congrArg List.length S.pre
    rw [List.length_take] at this
    omega
  refine ⟨f, fd, ps, ?_, hm, F.kp, hb⟩
  refine F.ok S (fun vs H Q E h => ?_) (fun cdv A outer s H vs Q E hr h => ?_)
  · obtain ⟨ts, τ, r, hl, _⟩ := h
    rw [← r.length]; exact hl
  · obtain ⟨ts, τ, r, hl, e, q⟩ := h
    have e := hd ts hl τ e
    have hF : Fb (fun _ : Unit => (cxOf CX0 P w K mg base N x (defScope st) f cdv A outer s H E).nox) K mg base P w N (defScope st) k :=
      { K := fun _ => rfl, mg := fun _ => rfl, base := fun _ => rfl, P := fun _ => rfl, w := fun _ => rfl, N := fun _ => rfl, sc := fun _ => rfl, calm := fun _ => rfl, room := fun _ => hr,
        po := fun _ => PassesOwn.never, fb := ⟨fun _ _ => .inl rfl⟩ }
    refine ⟨_, pss_ss (G := fun _ : Unit => (cxOf CX0 P w K mg base N x (defScope st) f cdv A outer s H E).nox) (), ?_⟩
    refine body _ hF (fun _ => rfl) (fun _ => rfl) H (rho0 N ts) (L2.start N vs) H _ ⟨H, Same.refl H, start_str r (by omega)⟩ ?_
    unfold fnD at e
    split at e
    · rename_i t eo
      cases e
      rw [eo]
      exact fun v H' s r => q v H' s r
    · rename_i ρ' eo
      rw [eo]
      split at e
      · cases e
      · rename_i c
        cases e
        refine fun σ' H' hr' => q _ H' hr'.sm ?_
        unfold RtR
        rw [if_neg c]
        exact rep_non.mpr rfl
    · cases e
/-- the suite's answer, whatever the error's address -/
theorem nd_set_self {ρ : Env'} {i : Nat} {x : T} (h : i < ρ.length) : nd i (ρ.set i (some x)) = some x := by
  unfold nd
  rw [List.getElem?_set_self h]; rfl
theorem nd_set_ne {ρ : Env'} {i j : Nat} {x : Option T} (h : i ≠ j) : nd j (ρ.set i x) = nd j ρ := by
  unfold nd
  rw [List.getElem?_set_ne h]
end DL
namespace Q
open PySem PySem.Spec L2 DL

/-! ### how the combinators step -/
theorem fn_rt {N : List Str} {fr : Bool} {d : Env' → Out} {ts : List T} {t : T} {ρ : Env'} (e : rho0 N ts = ρ) (h : d ρ = .rt t) : fnD N fr d ts = some t := by
  unfold fnD; rw [e, h]
theorem fn_nx {N : List Str} {d : Env' → Out} {ts : List T} {ρ ρ' : Env'} (e : rho0 N ts = ρ) (h : d ρ = .nx ρ') : fnD N false d ts = some .non := by
  unfold fnD; rw [e, h]; rfl
theorem sq {d1 d2 : Env' → Out} {ρ ρ' : Env'} {o : Out} (h1 : d1 ρ = .nx ρ') (h2 : d2 ρ' = o) : seqD d1 d2 ρ = o := by
  unfold seqD; rw [h1]; exact h2
theorem sqt {d1 d2 : Env' → Out} {ρ : Env'} {t : T} (h1 : d1 ρ = .rt t) : seqD d1 d2 ρ = .rt t := by
  unfold seqD; rw [h1]
theorem seqD_nx {d2 : Env' → Out} {ρ ρ' : Env'} : seqD (fun _ => .nx ρ') d2 ρ = d2 ρ' := rfl

section
variable {ρ : Env'} {i : Nat} {τ : T} {d a b : Env' → Out} {fr : Bool}
@[simp] theorem seq_eq {d1 d2 : Env' → Out} {ρ : Env'} : seqD d1 d2 ρ = (match d1 ρ with | .nx ρ' => d2 ρ' | o => o) := (rfl)
@[simp] theorem set_im : setD true i (some τ) ρ = .nx (ρ.set i (some τ)) := (rfl)
@[simp] theorem set_int {x : Int} : setD fr i (some (.int x)) ρ = .nx (ρ.set i (some (.int x))) := by cases fr <;> rfl
@[simp] theorem set_str {x : Str} : setD fr i (some (.str x)) ρ = .nx (ρ.set i (some (.str x))) := by cases fr <;> rfl
@[simp] theorem set_bl {x : Bool} : setD fr i (some (.bl x)) ρ = .nx (ρ.set i (some (.bl x))) := by cases fr <;> rfl
@[simp] theorem set_non : setD fr i (some .non) ρ = .nx (ρ.set i (some .non)) := by cases fr <;> rfl
@[simp] theorem if_t : ifD (some true) a b ρ = a ρ := (rfl)
@[simp] theorem if_f : ifD (some false) a b ρ = b ρ := (rfl)
@[simp] theorem rt_some : rtD (some τ) = .rt τ := (rfl)
@[simp] theorem b2_some {f : T → T → Option T} {x y : T} : b2 f (some x) (some y) = f x y := (rfl)
@[simp] theorem cons_some {x : T} {xs : List T} : consD (some x) (some xs) = some (x :: xs) := (rfl)
theorem nd_eq : nd i ρ = (ρ[i]?).join := rfl
@[simp] theorem nd_zero {x : Option T} {r : Env'} : nd 0 (x :: r) = x := by cases x <;> rfl
@[simp] theorem nd_succ {x : Option T} {r : Env'} {n : Nat} : nd (n + 1) (x :: r) = nd n r := (rfl)
@[simp] theorem asB_bl {c : Bool} : asB (some (.bl c)) = some c := (rfl)
@[simp] theorem asI_int {c : Int} : asI (some (.int c)) = some (some c) := (rfl)
@[simp] theorem and_t {c : Option Bool} : andD (some true) c = c := (rfl)
@[simp] theorem and_f {c : Option Bool} : andD (some false) c = some false := (rfl)
@[simp] theorem and_s {b c : Bool} : andD (some b) (some c) = some (b && c) := by cases b <;> rfl
@[simp] theorem or_t {c : Option Bool} : orD (some true) c = some true := (rfl)
@[simp] theorem or_f {c : Option Bool} : orD (some false) c = c := (rfl)
@[simp] theorem or_s {b c : Bool} : orD (some b) (some c) = some (b || c) := by cases b <;> rfl
@[simp] theorem andV_t {c : Option T} : andV (some (.bl true)) c = c := (rfl)
@[simp] theorem andV_f {c : Option T} : andV (some (.bl false)) c = some (.bl false) := (rfl)
@[simp] theorem orV_t {c : Option T} : orV (some (.bl true)) c = some (.bl true) := (rfl)
@[simp] theorem orV_f {c : Option T} : orV (some (.bl false)) c = c := (rfl)
@[simp] theorem notV_bl {c : Bool} : notV (some (.bl c)) = some (.bl (!c)) := (rfl)
@[simp] theorem ifV_t {x y : Option T} : ifV (some true) x y = x := (rfl)
@[simp] theorem ifV_f {x y : Option T} : ifV (some false) x y = y := (rfl)
@[simp] theorem un1_int {f : Int → Int} {x : Int} : un1 f (some (.int x)) = some (.int (f x)) := (rfl)
@[simp] theorem gI_int {f : Int → Int → Int} {x y : Int} : gI f (.int x) (.int y) = some (.int (f x y)) := (rfl)
@[simp] theorem gIb_int {f : Int → Int → Bool} {x y : Int} : gIb f (.int x) (.int y) = some (.bl (f x y)) := (rfl)
@[simp] theorem gLt_int {x y : Int} : gLt (.int x) (.int y) = some (.bl (decide (x < y))) := (rfl)
@[simp] theorem gLe_int {x y : Int} : gLe (.int x) (.int y) = some (.bl (decide (x ≤ y))) := (rfl)
@[simp] theorem gAdd_int {x y : Int} : gAdd (.int x) (.int y) = some (.int (x + y)) := (rfl)
@[simp] theorem gMin_int {x y : Int} : gMin [.int x, .int y] = some (.int (min x y)) := by
  show some (T.int (if y < x then y else x)) = _
  congr 2; omega
@[simp] theorem gMax_int {x y : Int} : gMax [.int x, .int y] = some (.int (max x y)) := by
  show some (T.int (if y > x then y else x)) = _
  congr 2; omega
@[simp] theorem gInt_int {x : Int} : gInt [.int x] = some (.int x) := (rfl)
@[simp] theorem gInt_bl {x : Bool} : gInt [.bl x] = some (.int (if x then 1 else 0)) := (rfl)
theorem mul_l {x y : Int} (h : -18446744073709551616 < x ∧ x < 18446744073709551616) : gMul (.int x) (.int y) = some (.int (x * y)) := by
  have : cMul x y = true := by simp only [cMul, Bool.or_eq_true, Bool.and_eq_true, decide_eq_true_eq]; exact .inl h
  simp [gMul, gIc, this]
theorem mul_r {x y : Int} (h : -18446744073709551616 < y ∧ y < 18446744073709551616) : gMul (.int x) (.int y) = some (.int (x * y)) := by
  have : cMul x y = true := by simp only [cMul, Bool.or_eq_true, Bool.and_eq_true, decide_eq_true_eq]; exact .inr h
  simp [gMul, gIc, this]
theorem div_s {x y : Int} (h : 0 < y ∧ y < 1073741824) : gDiv (.int x) (.int y) = some (.int (x / y)) := by
  simp [gDiv, gIc, cDiv, h]
theorem mod_s {x y : Int} (h : 0 < y) : gMod (.int x) (.int y) = some (.int (x % y)) := by
  simp [gMod, gIc, cMod, h]
@[simp] theorem ch_s {x y z : Int} : chD gLt gLe (some (.int x)) (some (.int y)) (some (.int z)) = some (.bl (decide (x < y) && decide (y ≤ z))) := by
  unfold chD; simp only [b2_some, gLt_int, gLe_int]; cases decide (x < y) <;> rfl
@[simp] theorem ch_s2 {x y z : Int} : chD gLe gLe (some (.int x)) (some (.int y)) (some (.int z)) = some (.bl (decide (x ≤ y) && decide (y ≤ z))) := by
  unfold chD; simp only [b2_some, gLe_int]; cases decide (x ≤ y) <;> rfl
theorem tup_some {ts : List T} (h : ts.length ≤ sizeLine) : tupD (some ts) = some (.tup ts) := by unfold tupD; simp [h]
theorem lst_some {ts : List T} (h : ts.length ≤ sizeLine) : lstD (some ts) = some (.lst ts) := by unfold lstD; simp [h]
theorem szl : sizeLine = 16777216 := rfl
@[simp] theorem tup_n0 : tupD (some []) = some (.tup []) := tup_some (by decide)
@[simp] theorem tup_n1 {a : T} : tupD (some [a]) = some (.tup [a]) := tup_some (by simp [szl])
@[simp] theorem tup_n2 {a b : T} : tupD (some [a, b]) = some (.tup [a, b]) := tup_some (by simp [szl])
@[simp] theorem tup_n3 {a b c : T} : tupD (some [a, b, c]) = some (.tup [a, b, c]) := tup_some (by simp [szl])
@[simp] theorem tup_n4 {a b c d : T} : tupD (some [a, b, c, d]) = some (.tup [a, b, c, d]) := tup_some (by simp [szl])
@[simp] theorem tup_n5 {a b c d e : T} : tupD (some [a, b, c, d, e]) = some (.tup [a, b, c, d, e]) := tup_some (by simp [szl])
@[simp] theorem lst_n0 : lstD (some []) = some (.lst []) := lst_some (by decide)
@[simp] theorem lst_n1 {a : T} : lstD (some [a]) = some (.lst [a]) := lst_some (by simp [szl])
@[simp] theorem lst_n2 {a b : T} : lstD (some [a, b]) = some (.lst [a, b]) := lst_some (by simp [szl])
@[simp] theorem lst_n3 {a b c : T} : lstD (some [a, b, c]) = some (.lst [a, b, c]) := lst_some (by simp [szl])
@[simp] theorem lst_n4 {a b c d : T} : lstD (some [a, b, c, d]) = some (.lst [a, b, c, d]) := lst_some (by simp [szl])
@[simp] theorem lst_n6 {a b c d e f : T} : lstD (some [a, b, c, d, e, f]) = some (.lst [a, b, c, d, e, f]) := lst_some (by simp [szl])
@[simp] theorem lst_n8 {a b c d e f g h : T} : lstD (some [a, b, c, d, e, f, g, h]) = some (.lst [a, b, c, d, e, f, g, h]) := lst_some (by simp [szl])
end
/-! ### places -/
theorem atI_some {α : Type} {xs : List α} {i : Int} (h0 : 0 ≤ i) (h : i < xs.length) : atI xs i = xs[i.toNat]? := by
  unfold atI ixN; simp [h0, h]
theorem subs_lst {ts : List T} {i : Int} (h0 : 0 ≤ i) (h : i < ts.length) : gSubs (.lst ts) (.int i) = ts[i.toNat]? := atI_some h0 h
theorem subs_tup {ts : List T} {i : Int} (h0 : 0 ≤ i) (h : i < ts.length) : gSubs (.tup ts) (.int i) = ts[i.toNat]? := atI_some h0 h
theorem subs_ints (is : List Int) {i : Int} (h0 : 0 ≤ i) (h : i < is.length) : ∃ v, v ∈ is ∧ gSubs (.lst (is.map T.int)) (.int i) = some (.int v) := by
  have hl : i.toNat < is.length := by omega
  refine ⟨is[i.toNat], List.getElem_mem hl, ?_⟩
  rw [subs_lst h0 (by simpa using h)]
  simp [hl]
theorem subs_strs (is : List Str) {i : Int} (h0 : 0 ≤ i) (h : i < is.length) : ∃ v, v ∈ is ∧ gSubs (.lst (is.map T.str)) (.int i) = some (.str v) := by
  have hl : i.toNat < is.length := by omega
  refine ⟨is[i.toNat], List.getElem_mem hl, ?_⟩
  rw [subs_lst h0 (by simpa using h)]
  simp [hl]
/-! ### equality -/
@[simp] theorem eqT_int {i j : Int} : eqT (.int i) (.int j) = decide (i = j) := by
  simp only [eqT, toD, PyData.eqv]; exact Bool.beq_eq_decide_eq i j
@[simp] theorem eqT_str {i j : Str} : eqT (.str i) (.str j) = decide (i = j) := by
  simp only [eqT, toD, PyData.eqv]; exact Bool.beq_eq_decide_eq i j
@[simp] theorem eqT_str_int {i : Str} {j : Int} : eqT (.str i) (.int j) = false := by simp [eqT, toD, PyData.eqv]
@[simp] theorem eqT_int_str {i : Int} {j : Str} : eqT (.int i) (.str j) = false := by simp [eqT, toD, PyData.eqv]
@[simp] theorem eqT_non_int {i : Int} : eqT .non (.int i) = false := by simp [eqT, toD, PyData.eqv]
@[simp] theorem eqT_int_non {i : Int} : eqT (.int i) .non = false := by simp [eqT, toD, PyData.eqv]
@[simp] theorem eqT_non_non : eqT .non .non = true := by simp [eqT, toD, PyData.eqv]
def eqTs (xs ys : List T) : Bool := PyData.eqvAll (toDs xs) (toDs ys)
@[simp] theorem eqTs_nil : eqTs [] [] = true := by simp [eqTs, toDs, PyData.eqvAll]
@[simp] theorem eqTs_cons {x y : T} {xs ys : List T} : eqTs (x :: xs) (y :: ys) = (eqT x y && eqTs xs ys) := by simp [eqTs, eqT, toDs, PyData.eqvAll]
@[simp] theorem eqTs_nc {y : T} {ys : List T} : eqTs [] (y :: ys) = false := by simp [eqTs, toDs, PyData.eqvAll]
@[simp] theorem eqTs_cn {y : T} {ys : List T} : eqTs (y :: ys) [] = false := by simp [eqTs, toDs, PyData.eqvAll]
@[simp] theorem eqT_tup {xs ys : List T} : eqT (.tup xs) (.tup ys) = eqTs xs ys := by simp [eqTs, eqT, toD, PyData.eqv]
@[simp] theorem eqT_lst {xs ys : List T} : eqT (.lst xs) (.lst ys) = eqTs xs ys := by simp [eqTs, eqT, toD, PyData.eqv]
mutual
theorem eqv_refl : ∀ t : T, PyData.eqv (toD t) (toD t) = true
  | .non => by simp [toD, PyData.eqv]
  | .bl _ => by simp [toD, PyData.eqv]
  | .int _ => by simp [toD, PyData.eqv]
  | .str _ => by simp [toD, PyData.eqv]
  | .raw _ => by simp [toD, PyData.eqv]
  | .scr _ => by simp [toD, PyData.eqv]
  | .dic _ => by simp [toD, PyData.eqv]
  | .lst ts => by simp [toD, PyData.eqv, eqvs_refl ts]
  | .tup ts => by simp [toD, PyData.eqv, eqvs_refl ts]
theorem eqvs_refl : ∀ t : List T, PyData.eqvAll (toDs t) (toDs t) = true
  | [] => by simp [toDs, PyData.eqvAll]
  | t :: ts => by simp [toDs, PyData.eqvAll, eqv_refl t, eqvs_refl ts]
end
theorem eqT_refl (t : T) : eqT t t = true := eqv_refl t
theorem eqTs_ints : ∀ xs ys : List Int, eqTs (xs.map T.int) (ys.map T.int) = decide (xs = ys)
  | [], [] => by simp
  | [], _ :: _ => by simp
  | _ :: _, [] => by simp
  | x :: xs, y :: ys => by
    simp [eqTs_ints xs ys]
/-- a value of depth at most n that may be compared as data -/
def okN (n : Nat) (t : T) : Bool := isD t && ((toD t).canLay0 && decide ((toD t).depth ≤ n))
theorem okN_mono {n m : Nat} {t : T} (h : n ≤ m) (o : okN n t = true) : okN m t = true := by
  simp only [okN, Bool.and_eq_true, decide_eq_true_eq] at o ⊢
  exact ⟨o.1, o.2.1, by omega⟩
theorem dOk_of {n : Nat} {t : T} (o : okN n t = true) (h : n ≤ 64 := by decide) : dOk t = true := by
  have := okN_mono h o
  simp only [okN, dOk, SeqAt.shaped, Bool.and_eq_true, decide_eq_true_eq] at this ⊢
  exact this
theorem okN_all {n : Nat} : ∀ {ts : List T}, (∀ t ∈ ts, okN n t = true) → isDs ts = true ∧ PyData.canLayAll0 (toDs ts) = true ∧ PyData.depthAll (toDs ts) ≤ n
  | [], _ => by simp [isDs, toDs, PyData.canLayAll0, PyData.depthAll]
  | t :: ts, h => by
    have h1 := h t (by simp)
    have ih := okN_all (n := n) (ts := ts) fun x hx => h x (by simp [hx])
    simp only [okN, Bool.and_eq_true, decide_eq_true_eq] at h1
    simp only [isDs, toDs, PyData.canLayAll0, PyData.depthAll, Bool.and_eq_true]
    exact ⟨⟨h1.1, ih.1⟩, ⟨h1.2.1, ih.2.1⟩, by omega⟩
theorem okN_tup {n : Nat} {ts : List T} (h : ∀ t ∈ ts, okN n t = true) : okN (n + 1) (.tup ts) = true := by
  obtain ⟨h1, h2, h3⟩ := okN_all h
  simp only [okN, isD, toD, PyData.canLay0, PyData.depth, Bool.and_eq_true, decide_eq_true_eq]
  exact ⟨h1, h2, by omega⟩
theorem okN_lst {n : Nat} {ts : List T} (h : ∀ t ∈ ts, okN n t = true) : okN (n + 1) (.lst ts) = true := by
  obtain ⟨h1, h2, h3⟩ := okN_all h
  simp only [okN, isD, toD, PyData.canLay0, PyData.depth, Bool.and_eq_true, decide_eq_true_eq]
  exact ⟨h1, h2, by omega⟩
@[simp] theorem okN_int {n : Nat} {i : Int} : okN n (.int i) = true := by simp [okN, isD, toD, PyData.canLay0, PyData.depth]
@[simp] theorem okN_non {n : Nat} : okN n .non = true := by simp [okN, isD, toD, PyData.canLay0, PyData.depth]
@[simp] theorem okN_bl {n : Nat} {i : Bool} : okN n (.bl i) = true := by simp [okN, isD, toD, PyData.canLay0, PyData.depth]
@[simp] theorem okN_str {n : Nat} {i : Str} : okN n (.str i) = PyData.strOk i := by simp [okN, isD, toD, PyData.canLay0, PyData.depth]
@[simp] theorem dOk_int {i : Int} : dOk (.int i) = true := dOk_of (n := 0) (by simp)
@[simp] theorem dOk_non : dOk .non = true := dOk_of (n := 0) (by simp)
@[simp] theorem dOk_bl {i : Bool} : dOk (.bl i) = true := dOk_of (n := 0) (by simp)
theorem dOk_str {i : Str} (h : PyData.strOk i = true) : dOk (.str i) = true := dOk_of (n := 0) (by simp [h])
theorem okN_ints {n : Nat} {xs : List Int} : okN (n + 1) (.lst (xs.map T.int)) = true := okN_lst fun t ht => by
  obtain ⟨a, _, rfl⟩ := List.mem_map.mp ht
  simp
@[simp] theorem dOk_ints {xs : List Int} : dOk (.lst (xs.map T.int)) = true := dOk_of (okN_ints (n := 0))
@[simp] theorem gEqA_int {neg : Bool} {i j : Int} : gEqA neg (.int i) (.int j) = some (.bl (xor neg (decide (i = j)))) := by
  show (if (dOk (.int i) && dOk (.int j)) = true then some (T.bl (xor neg (eqT (.int i) (.int j)))) else none) = _
  rw [dOk_int, dOk_int, eqT_int]; rfl
theorem gEqA_data {neg : Bool} {x y : T} (hx : dOk x = true) (hy : dOk y = true) : gEqA neg x y = some (.bl (xor neg (eqT x y))) := by
  have hr : ∀ v, y ≠ .raw v := fun v e => by subst e; simp [dOk, isD] at hy
  have hd : ∀ v, y ≠ .dic v := fun v e => by subst e; simp [dOk, isD] at hy
  unfold gEqA
  split
  · exact absurd rfl (hd _)
  · exact absurd rfl (hr _)
  · rw [hx, hy]; rfl
theorem gEqA_str {neg : Bool} {i j : Str} (hx : PyData.strOk i = true) (hy : PyData.strOk j = true) : gEqA neg (.str i) (.str j) = some (.bl (xor neg (decide (i = j)))) := by
  rw [gEqA_data (dOk_str hx) (dOk_str hy), eqT_str]
end Q
namespace Q
open PySem PySem.Spec L2 DL

/-! ### what holds behind a statement -/
@[irreducible] def W (N B C : Env' → Prop) (R : T → Prop) : Out → Prop
  | .nx ρ => N ρ
  | .bk ρ => B ρ
  | .ct ρ => C ρ
  | .rt t => R t
  | .er => False
section
variable {N B C : Env' → Prop} {R : T → Prop} {ρ : Env'}
@[simp] theorem w_nx : W N B C R (.nx ρ) = N ρ := by unfold W; rfl
@[simp] theorem w_bk : W N B C R (.bk ρ) = B ρ := by unfold W; rfl
@[simp] theorem w_ct : W N B C R (.ct ρ) = C ρ := by unfold W; rfl
@[simp] theorem w_rt {t : T} : W N B C R (.rt t) = R t := by unfold W; rfl
theorem w_er : W N B C R .er = False := by unfold W; rfl
@[simp] theorem w_seq {a b : Env' → Out} : W N B C R (seqD a b ρ) = W (fun ρ' => W N B C R (b ρ')) B C R (a ρ) := by
  unfold seqD; cases a ρ <;> simp only [w_nx, w_bk, w_ct, w_rt, w_er]
theorem w_mono {N' B' C' : Env' → Prop} {R' : T → Prop} {o : Out} (h : W N B C R o) (hN : ∀ ρ, N ρ → N' ρ) (hB : ∀ ρ, B ρ → B' ρ) (hC : ∀ ρ, C ρ → C' ρ) (hR : ∀ ρ, R ρ → R' ρ) : W N' B' C' R' o := by
  cases o
  · rw [w_nx] at h ⊢; exact hN _ h
  · rw [w_rt] at h ⊢; exact hR _ h
  · rw [w_bk] at h ⊢; exact hB _ h
  · rw [w_ct] at h ⊢; exact hC _ h
  · rw [w_er] at h; exact h.elim
theorem w_cut {P : Env' → Prop} {o : Out} (h : W P (fun _ => False) (fun _ => False) (fun _ => False) o) (k : ∀ ρ, P ρ → N ρ) : W N B C R o :=
  w_mono h k (fun _ h => h.elim) (fun _ h => h.elim) (fun _ h => h.elim)
theorem w_if {c : Option Bool} {a b : Env' → Out} {x : Bool} (h : c = some x) (ha : x = true → W N B C R (a ρ)) (hb : x = false → W N B C R (b ρ)) : W N B C R (ifD c a b ρ) := by
  subst h
  cases x
  · exact hb rfl
  · exact ha rfl
theorem w_fn {M : List Str} {fr : Bool} {d : Env' → Out} {ts : List T} (h : W (fun _ => False) (fun _ => False) (fun _ => False) R (d (rho0 M ts))) : ∃ t, fnD M fr d ts = some t ∧ R t := by
  unfold fnD
  cases e : d (rho0 M ts) <;> rw [e] at h
  · rw [w_nx] at h; exact h.elim
  · rw [w_rt] at h; exact ⟨_, rfl, h⟩
  · rw [w_bk] at h; exact h.elim
  · rw [w_ct] at h; exact h.elim
  · rw [w_er] at h; exact h.elim
theorem w_eq {M : List Str} {fr : Bool} {d : Env' → Out} {ts : List T} {t : T} (h : W (fun _ => False) (fun _ => False) (fun _ => False) (fun x => x = t) (d (rho0 M ts))) : fnD M fr d ts = some t := by
  obtain ⟨x, e, rfl⟩ := w_fn (fr := fr) h
  exact e
/-- a loop, by what holds with a rest still to go -/
theorem w_for {bd : Env' → T → Option Env'} {body : Env' → Out} (I : List T → Env' → Prop) (hn : ∀ ρ, I [] ρ → N ρ)
    (hc : ∀ t ts ρ, I (t :: ts) ρ → ∃ ρ1, bd ρ t = some ρ1 ∧ W (I ts) N (I ts) R (body ρ1)) : ∀ (ts : List T) (ρ : Env'), I ts ρ → W N B C R (forD bd body ts ρ)
  | [], ρ, h => by
    unfold forD
    rw [w_nx]; exact hn ρ h
  | t :: ts, ρ, h => by
    obtain ⟨ρ1, e, w⟩ := hc t ts ρ h
    unfold forD
    rw [e]
    cases hb : body ρ1 <;> rw [hb] at w
    · rw [w_nx] at w; simp only [hb]; exact w_for I hn hc ts _ w
    · rw [w_rt] at w; simp only [hb, w_rt]; exact w
    · rw [w_bk] at w; simp only [hb, w_nx]; exact w
    · rw [w_ct] at w; simp only [hb]; exact w_for I hn hc ts _ w
    · rw [w_er] at w; exact w.elim
theorem w_forI {bd : Env' → T → Option Env'} {body : Env' → Out} {o : Option (List T)} {ts : List T} (e : o = some ts) (I : List T → Env' → Prop) (h0 : I ts ρ) (hn : ∀ ρ, I [] ρ → N ρ)
    (hc : ∀ t ts ρ, I (t :: ts) ρ → ∃ ρ1, bd ρ t = some ρ1 ∧ W (I ts) N (I ts) R (body ρ1)) : W N B C R (forI bd body o ρ) := by
  subst e; exact w_for I hn hc ts ρ h0
theorem w_forK {lst : List (Key × T) → List T} {bd : Env' → T → Option Env'} {body : Env' → Out} {o : Option T} {kts : List (Key × T)} (e : o = some (.dic kts)) (I : List T → Env' → Prop) (h0 : I (lst kts) ρ) (hn : ∀ ρ, I [] ρ → N ρ)
    (hc : ∀ t ts ρ, I (t :: ts) ρ → ∃ ρ1, bd ρ t = some ρ1 ∧ W (I ts) N (I ts) R (body ρ1)) : W N B C R (forK lst bd body o ρ) := by
  subst e; exact w_for I hn hc _ ρ h0
/-- a loop that is neither left nor returned from -/
theorem w_forS {bd : Env' → T → Option Env'} {body : Env' → Out} {o : Option (List T)} {ts : List T} (e : o = some ts) (I : List T → Env' → Prop) (h0 : I ts ρ)
    (hc : ∀ t ts ρ, I (t :: ts) ρ → ∃ ρ1, bd ρ t = some ρ1 ∧ W (I ts) (fun _ => False) (I ts) (fun _ => False) (body ρ1)) (hn : ∀ ρ, I [] ρ → N ρ) : W N B C R (forI bd body o ρ) :=
  w_forI e I h0 hn fun t ts ρ h => by
    obtain ⟨ρ1, e, w⟩ := hc t ts ρ h
    exact ⟨ρ1, e, w_mono w (fun _ h => h) (fun _ h => h.elim) (fun _ h => h) (fun _ h => h.elim)⟩
theorem w_forKS {lst : List (Key × T) → List T} {bd : Env' → T → Option Env'} {body : Env' → Out} {o : Option T} {kts : List (Key × T)} (e : o = some (.dic kts)) (I : List T → Env' → Prop) (h0 : I (lst kts) ρ)
    (hc : ∀ t ts ρ, I (t :: ts) ρ → ∃ ρ1, bd ρ t = some ρ1 ∧ W (I ts) (fun _ => False) (I ts) (fun _ => False) (body ρ1)) (hn : ∀ ρ, I [] ρ → N ρ) : W N B C R (forK lst bd body o ρ) :=
  w_forK e I h0 hn fun t ts ρ h => by
    obtain ⟨ρ1, e, w⟩ := hc t ts ρ h
    exact ⟨ρ1, e, w_mono w (fun _ h => h) (fun _ h => h.elim) (fun _ h => h) (fun _ h => h.elim)⟩
theorem w_setE {P : T → Prop} {free : Bool} {i : Nat} {o : Option T} (h : ∃ τ, o = some τ ∧ P τ) (k : ∀ τ, P τ → (free || imm τ) = true ∧ N (ρ.set i (some τ))) : W N B C R (setD free i o ρ) := by
  obtain ⟨τ, rfl, p⟩ := h
  obtain ⟨k1, k2⟩ := k τ p
  simp only [setD, k1, if_true, w_nx]
  exact k2
theorem w_ownE {P : T → Prop} {i : Nat} {o : Option T} (h : ∃ τ, o = some τ ∧ P τ) (k : ∀ τ, P τ → immE τ = true ∧ N (ρ.set i (some τ))) : W N B C R (ownD i o ρ) := by
  obtain ⟨τ, rfl, p⟩ := h
  obtain ⟨k1, k2⟩ := k τ p
  simp only [ownD, k1, if_true, w_nx]
  exact k2
theorem w_rtE {o : Option T} (h : ∃ τ, o = some τ ∧ R τ) : W N B C R (rtD o) := by
  obtain ⟨τ, rfl, p⟩ := h
  rw [rt_some, w_rt]; exact p
theorem w_app {i : Nat} {o : Option T} {ts : List T} {P : T → Prop} (hn : nd i ρ = some (.lst ts)) (hl : ts.length < sizeLine) (h : ∃ τ, o = some τ ∧ P τ) (k : ∀ τ, P τ → imm τ = true ∧ N (ρ.set i (some (.lst (ts ++ [τ]))))) : W N B C R (appD i o ρ) := by
  obtain ⟨τ, rfl, p⟩ := h
  obtain ⟨k1, k2⟩ := k τ p
  unfold appD; rw [hn]
  simp only [k1, hl, and_self, if_true, w_nx]
  exact k2
end
theorem sIx_some {n d : Nat} {A : Int} (h : 0 ≤ A) : HT.sIx n d (some A) = min A.toNat n := by
  have : ¬ A < 0 := by omega
  simp [HT.sIx, this]
/-! ### comprehensions -/
theorem comp_some {bd : Env' → T → Option Env'} {c : Env' → Option Bool} {e : Env' → Option T} {ρ : Env'} (p : T → Bool) (g : T → T) : ∀ {τs : List T}, (∀ t ∈ τs, ∃ ρ1, bd ρ t = some ρ1 ∧ c ρ1 = some (p t) ∧ (p t = true → e ρ1 = some (g t))) → compD bd c e ρ τs = some ((τs.filter p).map g)
  | [], _ => rfl
  | t :: ts, h => by
    obtain ⟨ρ1, h1, h2, h3⟩ := h t (by simp)
    have ih := comp_some p g (τs := ts) fun x hx => h x (by simp [hx])
    unfold compD
    rw [h1]
    simp only [h2]
    cases hp : p t
    · simp [ih, hp]
    · simp [ih, hp, h3 hp]
theorem lc_some {bd : Env' → T → Option Env'} {c : Env' → Option Bool} {e : Env' → Option T} {vs : List Nat} {ρ : Env'} {o : Option (List T)} {τs : List T} (ho : o = some τs) (hl : τs.length ≤ sizeLine) (p : T → Bool) (g : T → T) (h : ∀ t ∈ τs, ∃ ρ1, bd (wipeD ρ vs) t = some ρ1 ∧ c ρ1 = some (p t) ∧ (p t = true → e ρ1 = some (g t))) (hi : immL ((τs.filter p).map g) = true) :
    lcD bd c e vs ρ o = some (.lst ((τs.filter p).map g)) := by
  subst ho
  have := comp_some p g h
  simp only [lcD, hl, if_true, this, hi]
theorem immL_all : ∀ {ts : List T}, (∀ t ∈ ts, imm t = true) → immL ts = true
  | [], _ => by simp [immL]
  | t :: ts, h => by
    have ih : immL ts = true := immL_all fun x hx => h x (List.mem_cons_of_mem _ hx)
    simp [immL, h t (by simp), ih]
theorem immL_ints {xs : List Int} : immL (xs.map T.int) = true := immL_all fun t ht => by
  obtain ⟨a, _, rfl⟩ := List.mem_map.mp ht
  simp [imm]
theorem immL_strs {xs : List Str} : immL (xs.map T.str) = true := immL_all fun t ht => by
  obtain ⟨a, _, rfl⟩ := List.mem_map.mp ht
  simp [imm]
@[simp] theorem imm_non : imm .non = true := by simp [imm]
@[simp] theorem imm_bl {b : Bool} : imm (.bl b) = true := by simp [imm]
@[simp] theorem imm_int {b : Int} : imm (.int b) = true := by simp [imm]
@[simp] theorem imm_str {b : Str} : imm (.str b) = true := by simp [imm]
@[simp] theorem imm_tup {ts : List T} : imm (.tup ts) = immL ts := by simp [imm]
@[simp] theorem immL_nil : immL [] = true := by simp [immL]
@[simp] theorem immL_cons {t : T} {ts : List T} : immL (t :: ts) = (imm t && immL ts) := by simp [immL]
@[simp] theorem immK_nil : immK [] = true := by simp [immK]
@[simp] theorem immE_lst {ts : List T} : immE (.lst ts) = immL ts := (rfl)
@[simp] theorem immE_dic {ts : List (Key × T)} : immE (.dic ts) = immK ts := (rfl)
@[simp] theorem imm_ints {xs : List Int} : immL (xs.map T.int) = true := immL_ints
@[simp] theorem imm_strs {xs : List Str} : immL (xs.map T.str) = true := immL_strs
theorem own_s {i : Nat} {τ : T} {ρ : Env'} (h : immE τ = true) : ownD i (some τ) ρ = .nx (ρ.set i (some τ)) := by simp only [ownD, h, if_true]
@[simp] theorem own_nil {i : Nat} {ρ : Env'} : ownD i (some (.lst [])) ρ = .nx (ρ.set i (some (.lst []))) := by simp [ownD]
@[simp] theorem own_dnil {i : Nat} {ρ : Env'} : ownD i (some (.dic [])) ρ = .nx (ρ.set i (some (.dic []))) := by simp [ownD]
theorem app_s {i : Nat} {o : Option T} {τ : T} {ts : List T} {ρ : Env'} (hn : nd i ρ = some (.lst ts)) (ho : o = some τ) (hi : imm τ = true) (hl : ts.length < sizeLine) : appD i o ρ = .nx (ρ.set i (some (.lst (ts ++ [τ])))) := by
  unfold appD; rw [hn, ho]; simp [hi, hl]
theorem rng1_s {j : Int} (h : -(2 ^ 62) ≤ j ∧ j < 2 ^ 62) : rng1 (some (.int j)) = some (rngL 0 j.toNat) := by
  have : r62 j = true := by simp only [r62, Bool.and_eq_true, decide_eq_true_eq]; exact h
  simp [rng1, this]
theorem rngL_mem {lo : Int} {n : Nat} {t : T} (h : t ∈ rngL lo n) : ∃ i : Int, t = .int i ∧ lo ≤ i ∧ i < lo + n := by
  unfold rngL at h
  obtain ⟨a, ha, rfl⟩ := List.mem_map.mp h
  have := List.mem_range.mp ha
  exact ⟨lo + a, rfl, by omega, by omega⟩
theorem rngL_cons {lo : Int} {n : Nat} : rngL lo (n + 1) = .int lo :: rngL (lo + 1) n := by
  unfold rngL
  rw [List.range_succ_eq_map]
  simp only [List.map_cons, List.map_map, Int.ofNat_zero]
  congr 1
  · simp
  · apply List.map_congr_left
    intro a _
    show T.int (lo + ((a + 1 : Nat) : Int)) = T.int (lo + 1 + a)
    congr 1; omega
@[simp] theorem rngL_zero {lo : Int} : rngL lo 0 = [] := (rfl)

/-! ### texts -/
/-- of n small letters -/
def Lets (n : Nat) (x : Str) : Prop := x.cps.toList.length = n ∧ ∀ c ∈ x.cps.toList, 97 ≤ c ∧ c ≤ 122
theorem Lets.len {n : Nat} {x : Str} (h : Lets n x) : x.length = n := by
  have := h.1
  simpa [PySem.Str.length] using this
theorem Lets.ok {n : Nat} {x : Str} (h : Lets n x) : PyData.strOk x = true := by
  unfold PyData.strOk
  rw [← Array.all_toList]
  rw [List.all_eq_true]
  intro c hc
  have := h.2 c hc
  simp; omega
theorem app_list (a b : Str) : (a ++ b).cps.toList = a.cps.toList ++ b.cps.toList := by
  show (a.cps ++ b.cps).toList = _
  simp
theorem Lets.app {n m : Nat} {x y : Str} (h : Lets n x) (k : Lets m y) : Lets (n + m) (x ++ y) := by
  unfold Lets
  rw [app_list]
  refine ⟨by simp [h.1, k.1], fun c hc => ?_⟩
  rcases List.mem_append.mp hc with q | q
  · exact h.2 c q
  · exact k.2 c q
theorem Lets.cut {n : Nat} {x : Str} (h : Lets n x) (lo hi : Option Int) : ∃ m, m = min (HT.sIx n n hi - HT.sIx n 0 lo) (n - HT.sIx n 0 lo) ∧ Lets m (cutS x lo hi) := by
  refine ⟨_, rfl, ?_, fun c hc => ?_⟩
  · unfold cutS
    rw [h.len]
    simp only [List.length_take, List.length_drop, h.1]
  · unfold cutS at hc
    exact h.2 c (List.mem_of_mem_drop (List.mem_of_mem_take hc))
theorem glued_list (ys : List Str) : ∀ a : Array Nat, (List.foldl (fun acc (p : Str) => acc ++ Str.empty.cps ++ p.cps) a ys).toList = a.toList ++ (ys.map fun y => y.cps.toList).flatten := by
  induction ys with
  | nil => intro a; simp
  | cons y ys ih =>
    intro a
    rw [List.foldl_cons, ih]
    simp [Str.empty]
theorem join_list (z : Str) (hz : z = Str.empty) (ys : List Str) : (Txt.join z ys).cps.toList = (ys.map fun y => y.cps.toList).flatten := by
  subst hz
  unfold Txt.join Builtin.Str.glued
  cases ys with
  | nil => simp [Str.empty]
  | cons y ys =>
    show (List.foldl _ y.cps (List.drop 1 (y :: ys))).toList = _
    rw [List.drop_one, List.tail_cons, glued_list]
    simp
end Q
namespace Q
open PySem PySem.Spec PyProof.Rows L2 DL
abbrev N_counting : List Str := ["book", "n", "undone", "falling", "number", "entry"]
def D_counting : Env' → Out := (seqD (fun ρ => ownD 2 (some (.dic [])) ρ)
  (seqD (fun ρ => ownD 3 (lstD (some [])) ρ)
  (seqD (fun ρ => forI (bdN 4)
    (seqD (fun ρ => ifD (orD (asB (b2 gGt (nd 4 ρ) (nd 1 ρ))) (asB (b2 (gInA false) (nd 4 ρ) (nd 2 ρ))))
    (fun ρ => .ct ρ)
    (fun ρ => .nx ρ) ρ)
  (seqD (fun ρ => setD false 5 (b2 gSubs (nd 0 ρ) (nd 4 ρ)) ρ)
  (seqD (fun ρ => ifD (asB (b2 (gEqA false) (b2 gSubs (nd 5 ρ) (some (.int 0))) (some (.str "undo"))))
    (fun ρ => stD 2 (some (.bl true)) (b2 gSubs (nd 5 ρ) (some (.int 1))) ρ)
    (fun ρ => .nx ρ) ρ)
  (fun ρ => appD 3 (nd 4 ρ) ρ)))) (itF ((nd 0 ρ).bind fun t => gSortedR [t])) ρ)
  (fun ρ => rtD (revD (nd 3 ρ))))))
def f_counting : List T → Option T := fnD N_counting true D_counting
abbrev N__law_of : List Str := ["_law_script", "_law_k"]
def D__law_of : Env' → Out := (fun ρ => rtD (b2 gSubs (b2 gAdd (b3 gSlL (nd 0 ρ) (asI (nd 1 ρ)) (asI (b2 gAdd (nd 1 ρ) (some (.int 1))))) (lstD (consD (some (.int 0)) (some [])))) (some (.int 0))))
def f__law_of : List T → Option T := fnD N__law_of false D__law_of
abbrev N__law_names : List Str := ["_law_cell", "_law_many", "_law_some", "_law_names_here", "_law_k", "_law_more", "_law_word", "_law_at", "_law_j"]
def D__law_names : Env' → Out := (seqD (fun ρ => setD true 2 (some (.str "abcdefghijklmnopqrstuvwxy")) ρ)
  (seqD (fun ρ => ownD 3 (lstD (some [])) ρ)
  (seqD (fun ρ => forI (bdN 4)
    (seqD (fun ρ => setD false 5 (b2 gAdd (b2 gDiv (nd 0 ρ) (some (.int 2))) (b2 gMul (b2 gMul (nd 4 ρ) (some (.int 48271))) (b2 gMod (nd 0 ρ) (some (.int 2))))) ρ)
  (seqD (fun ρ => setD false 6 (b2 gJoin (some (.str "")) (lcD (bdN 8) (fun _ => some true) (fun ρ => b2 gSubs (nd 2 ρ) (b2 gMod (b2 gAdd (b2 gDiv (nd 5 ρ) (some (.int 7))) (b2 gMul (some (.int 6)) (nd 8 ρ))) (some (.int 25)))) [8] ρ (rng1 (b2 gMod (nd 5 ρ) (some (.int 7)))))) ρ)
  (seqD (fun ρ => setD false 7 (b2 gMod (b2 gDiv (nd 5 ρ) (some (.int 175))) (b2 gAdd ((consD (nd 6 ρ) (some [])).bind gLen) (some (.int 1)))) ρ)
  (fun ρ => appD 3 (b2 gAdd (b2 gAdd (b2 gAdd (b3 gSl (nd 6 ρ) (some none) (asI (nd 7 ρ))) (some (.str "z"))) (b2 gSubs (nd 2 ρ) (nd 4 ρ))) (b3 gSl (nd 6 ρ) (asI (nd 7 ρ)) (some none))) ρ)))) (rng1 (nd 1 ρ)) ρ)
  (seqD (fun ρ => ifD (andD (asB (b2 (gEqA false) (b2 gMod (nd 0 ρ) (some (.int 5))) (some (.int 3)))) (asB (b2 (gInA true) (revSD (b2 gSubs (nd 3 ρ) (some (.int 0)))) (nd 3 ρ))))
    (fun ρ => stD 3 (revSD (b2 gSubs (nd 3 ρ) (some (.int 0)))) (some (.int 1)) ρ)
    (fun ρ => .nx ρ) ρ)
  (fun ρ => rtD (nd 3 ρ))))))
def f__law_names : List T → Option T := fnD N__law_names true D__law_names
abbrev N__law_entry : List Str := ["_law_names_here", "_law_base_here", "_law_n", "_law_number", "_law_low", "_law_high", "_law_name"]
def D__law_entry : Env' → Out := (seqD (fun ρ => setD true 2 (b2 gMod (b2 gMul (nd 2 ρ) (some (.int 48271))) (some (.int 2147483647))) ρ)
  (seqD (fun ρ => setD true 4 ((consD (some (.int 1000000)) (consD (b2 gAdd (nd 1 ρ) (b2 gMod (b2 gDiv (nd 2 ρ) (some (.int 24))) (b2 gSubs (lstD (consD (some (.int 10)) (consD (some (.int 900000)) (some [])))) ((consD (b2 (gEqA false) (b2 gMod (b2 gDiv (nd 2 ρ) (some (.int 11520))) (some (.int 5))) (some (.int 1))) (some [])).bind gInt)))) (some []))).bind gMin) ρ)
  (seqD (fun ρ => setD true 5 ((consD (some (.int 1000000)) (consD (b2 gAdd (nd 4 ρ) (b2 gSubs (lstD (consD (some (.int 0)) (consD (some (.int 1)) (consD (some (.int 3)) (consD (some (.int 9)) (consD (some (.int 35)) (consD (some (.int 700)) (consD (some (.int 1000000)) (consD (some (.int 9)) (some [])))))))))) (b2 gMod (b2 gDiv (nd 2 ρ) (some (.int 240))) (some (.int 8))))) (some []))).bind gMin) ρ)
  (seqD (fun ρ => setD true 6 (b2 gSubs (nd 0 ρ) (b2 gMod (b2 gDiv (nd 2 ρ) (some (.int 8))) (some (.int 3)))) ρ)
  (seqD (fun ρ => ifD (andD (asB (b2 gGt (b2 gMod (nd 2 ρ) (some (.int 8))) (some (.int 5)))) (asB (b2 gGt (nd 3 ρ) (some (.int 1)))))
    (fun ρ => rtD (tupD (consD (some (.str "undo")) (consD (b2 gAdd (some (.int 1)) (b2 gMod (b2 gDiv (nd 2 ρ) (some (.int 8))) (b2 gSub (nd 3 ρ) (some (.int 1))))) (some [])))))
    (fun ρ => .nx ρ) ρ)
  (seqD (fun ρ => ifD (asB (b2 (gEqA false) (b2 gMod (nd 2 ρ) (some (.int 8))) (some (.int 3))))
    (fun ρ => rtD (tupD (consD (some (.str "clear")) (consD (nd 6 ρ) (consD (nd 4 ρ) (consD (nd 5 ρ) (some [])))))))
    (fun ρ => .nx ρ) ρ)
  (seqD (fun ρ => ifD (asB (b2 (gInA false) (b2 gMod (nd 2 ρ) (some (.int 8))) (tupD (consD (some (.int 4)) (consD (some (.int 5)) (some []))))))
    (fun ρ => rtD (tupD (consD (some (.str "like")) (consD (nd 6 ρ) (consD (nd 4 ρ) (consD (nd 5 ρ) (consD (b2 gSubs (nd 0 ρ) (b2 gMod (b2 gDiv (nd 2 ρ) (some (.int 1920))) (some (.int 3)))) (some []))))))))
    (fun ρ => .nx ρ) ρ)
  (fun ρ => rtD (tupD (consD (some (.str "tell")) (consD (nd 6 ρ) (consD (nd 4 ρ) (consD (nd 5 ρ) (consD (b2 gSubs (lstD (consD (some (.int 1)) (consD (some (.int 2)) (consD (some (.int 1)) (consD (some (.int 0)) (consD (un1 (fun i => -i) (some (.int 1))) (consD (b2 gSub (b2 gMod (nd 2 ρ) (some (.int 2000000001))) (some (.int 1000000000))) (some [])))))))) (b2 gMod (b2 gDiv (nd 2 ρ) (some (.int 1920))) (some (.int 6)))) (some [])))))))))))))))
def f__law_entry : List T → Option T := fnD N__law_entry false D__law_entry
abbrev N__law_base : List Str := ["_law_script"]
def D__law_base : Env' → Out := (fun ρ => rtD (b2 gSubs (lstD (consD (some (.int 0)) (consD (some (.int 7)) (consD (some (.int 300)) (consD (some (.int 999982)) (some [])))))) (b2 gMod ((consD (nd 0 ρ) (consD (some (.int 0)) (some []))).bind f__law_of) (some (.int 4)))))
def f__law_base : List T → Option T := fnD N__law_base false D__law_base
abbrev N__law_book : List Str := ["_law_script", "_law_many", "_law_names_here", "_law_gap", "_law_rows", "_law_k", "_law_number", "_law_cut"]
def D__law_book : Env' → Out := (seqD (fun ρ => setD true 2 ((consD ((consD (nd 0 ρ) (consD (some (.int 1)) (some []))).bind f__law_of) (consD (some (.int 3)) (some []))).bind f__law_names) ρ)
  (seqD (fun ρ => setD true 3 (b2 gAdd (some (.int 1)) (b2 gMod (b2 gDiv ((consD (nd 0 ρ) (consD (some (.int 0)) (some []))).bind f__law_of) (some (.int 4))) (some (.int 3)))) ρ)
  (seqD (fun ρ => ownD 4 (lstD (some [])) ρ)
  (seqD (fun ρ => forI (bdN 5)
    (seqD (fun ρ => setD false 6 (b2 gAdd (some (.int 1)) (b2 gMul (nd 5 ρ) (nd 3 ρ))) ρ)
  (fun ρ => appD 4 (tupD (consD (nd 6 ρ) (consD ((consD (nd 2 ρ) (consD ((consD (nd 0 ρ) (some [])).bind f__law_base) (consD (b2 gAdd (b2 gSubs (nd 0 ρ) (b2 gAdd (some (.int 4)) (nd 5 ρ))) (b2 gMul (some (.int 7)) (nd 5 ρ))) (consD (nd 6 ρ) (some []))))).bind f__law_entry) (some [])))) ρ)) (rng1 ((consD (nd 1 ρ) (consD (b2 gSub ((consD (nd 0 ρ) (some [])).bind gLen) (some (.int 4))) (some []))).bind gMin)) ρ)
  (seqD (fun ρ => setD false 7 (b2 gMod (b2 gDiv ((consD (nd 0 ρ) (consD (some (.int 0)) (some []))).bind f__law_of) (some (.int 12))) (b2 gAdd ((consD (nd 4 ρ) (some [])).bind gLen) (some (.int 1)))) ρ)
  (fun ρ => rtD ((consD (b2 gAdd (b3 gSlL (nd 4 ρ) (asI (nd 7 ρ)) (some none)) (b3 gSlL (nd 4 ρ) (some none) (asI (nd 7 ρ)))) (some [])).bind gDict)))))))
def f__law_book : List T → Option T := fnD N__law_book true D__law_book
end Q
namespace Q
open PySem PySem.Spec L2 DL

/-! ### _law_of -/
theorem of_eq (ns : List Int) (k : Nat) (hk : k < 1000) (h : ns.length ≤ 63) : f__law_of [.scr (ns.map T.int), .int k] = some (.int (ns.getD k 0)) := by
  have hc : cutT (ns.map T.int) (some (k : Int)) (some ((k : Int) + 1)) = ((ns.drop k).take 1).map T.int := by
    unfold cutT
    have h1 : HT.sIx (ns.map T.int).length 0 (some (k : Int)) = min k ns.length := by
      unfold HT.sIx
      have : ¬ ((k : Int) < 0) := by omega
      simp [this]
    have h2 : HT.sIx (ns.map T.int).length (ns.map T.int).length (some ((k : Int) + 1)) = min (k + 1) ns.length := by
      unfold HT.sIx
      have : ¬ ((k : Int) + 1 < 0) := by omega
      simp [this]
      try omega
    rw [h1, h2]
    rw [← List.map_drop, ← List.map_take]
    congr 1
    by_cases hl : k < ns.length
    · have e1 : min k ns.length = k := by omega
      have e2 : min (k + 1) ns.length - k = 1 := by omega
      rw [e1, e2]
    · have e1 : min k ns.length = ns.length := by omega
      have e2 : ns.drop k = [] := List.drop_eq_nil_of_le (by omega)
      rw [e1, e2]; simp
  refine fn_rt rfl ?_
  show rtD (b2 gSubs (b2 gAdd (b3 gSlL (some (.scr (ns.map T.int))) (asI (some (.int k))) (asI (b2 gAdd (some (.int k)) (some (.int 1))))) (lstD (consD (some (.int 0)) (some [])))) (some (.int 0))) = _
  simp only [b2_some, gAdd_int, asI_int, cons_some, lst_n1, b3, gSlL, hc]
  have hl : ((ns.drop k).take 1).length ≤ 1 := by simp; omega
  have hg : gAdd (.lst (((ns.drop k).take 1).map T.int)) (.lst [.int 0]) = some (.lst (((ns.drop k).take 1).map T.int ++ [.int 0])) := by
    unfold gAdd
    have : (((ns.drop k).take 1).map T.int).length + [T.int 0].length ≤ sizeLine := by simp [szl]; omega
    simp only [this, if_true]
  rw [hg, b2_some, subs_lst (by decide) (by simp)]
  by_cases hk : k < ns.length
  · have e : (ns.drop k).take 1 = [ns[k]] := by rw [List.drop_eq_getElem_cons hk]; rfl
    rw [e]
    simp [List.getD, hk]
  · rw [List.drop_eq_nil_of_le (by omega)]
    have : ns[k]? = none := List.getElem?_eq_none (by omega)
    simp [List.getD, this]

/-! ### names -/
abbrev abc : Str := "abcdefghijklmnopqrstuvwxy"
theorem abc_list : abc.cps.toList = [97,98,99,100,101,102,103,104,105,106,107,108,109,110,111,112,113,114,115,116,117,118,119,120,121] := by decide +kernel
theorem abc_at {i : Int} (h0 : 0 ≤ i) (h : i < 25) : ∃ x, gSubs (.str abc) (.int i) = some (.str x) ∧ Lets 1 x := by
  have hl : abc.length ≤ sizeLine := by decide +kernel
  have e : gSubs (.str abc) (.int i) = (atI abc.cps.toList i).map fun c => T.str ⟨#[c]⟩ := by
    simp only [gSubs, hl, if_true]
  rw [e, abc_list, atI_some h0 (by simpa using h)]
  have hl : i.toNat < 25 := by omega
  rw [List.getElem?_eq_getElem (by simpa using hl)]
  refine ⟨_, rfl, by simp, fun c hc => ?_⟩
  have : ∀ c ∈ [97,98,99,100,101,102,103,104,105,106,107,108,109,110,111,112,113,114,115,116,117,118,119,120,121], 97 ≤ c ∧ c ≤ 122 := by decide
  simp only [List.mem_singleton] at hc
  subst hc
  exact this _ (List.getElem_mem _)
theorem len_str {x : Str} (h : x.length ≤ sizeLine) : gLen [.str x] = some (.int x.length) := by simp [gLen, h]
theorem slS {x : Str} (h : x.length ≤ sizeLine) (lo hi : Option Int) : gSl (.str x) lo hi = some (.str (cutS x lo hi)) := by simp [gSl, h]
theorem add_str {x y : Str} {n m : Nat} (hx : Lets n x) (hy : Lets m y) (h : n + m ≤ sizeLine := by simp [szl]; omega) : gAdd (.str x) (.str y) = some (.str (x ++ y)) := by
  have : x.length + y.length ≤ sizeLine := by rw [hx.len, hy.len]; exact h
  simp only [gAdd, this, if_true]
def Name (x : Str) : Prop := ∃ n, 2 ≤ n ∧ n ≤ 8 ∧ Lets n x
theorem Name.ok {x : Str} (h : Name x) : PyData.strOk x = true := by obtain ⟨n, _, _, h⟩ := h; exact h.ok
theorem rev_name {x : Str} (h : Name x) : Name (revS x) := by
  obtain ⟨n, h1, h2, h3, h4⟩ := h
  refine ⟨n, h1, h2, ?_, fun c hc => h4 c ?_⟩
  · simp [revS, h3]
  · simpa [revS] using hc
theorem strsOf_map : ∀ xs : List Str, strsOf (xs.map T.str) = some xs
  | [] => rfl
  | x :: xs => by simp [strsOf, strsOf_map xs]
theorem join_lets {xs : List Str} (h : ∀ x ∈ xs, Lets 1 x) : Lets xs.length (Txt.join "" xs) := by
  have e := join_list "" (by decide +kernel) xs
  unfold Lets
  rw [e]
  induction xs with
  | nil => simp
  | cons x xs ih =>
    have := h x (by simp)
    obtain ⟨i1, i2⟩ := ih (fun y hy => h y (by simp [hy])) (join_list "" (by decide +kernel) xs)
    simp only [List.map_cons, List.flatten_cons, List.length_append, List.length_cons]
    refine ⟨by rw [i1, this.1]; omega, fun c hc => ?_⟩
    rcases List.mem_append.mp hc with q | q
    · exact this.2 c q
    · exact i2 c q
theorem inA_strs {x : Str} {xs : List Str} {neg : Bool} : ∃ b, gInA neg (.str x) (.lst (xs.map T.str)) = some (.bl b) := by
  refine ⟨xor neg (inV (vOf (.str x)) ((xs.map T.str).map vOf)), ?_⟩
  · have : (xs.map T.str).all flatT = true := by
      rw [List.all_eq_true]; intro t ht
      obtain ⟨a, _, rfl⟩ := List.mem_map.mp ht
      rfl
    show gIn neg (.str x) (.lst (xs.map T.str)) = _
    unfold gIn
    simp only [seqT]
    rw [if_pos ⟨rfl, this⟩]
theorem join_lc {e : Env' → Option T} {v n : Nat} {ρ : Env'} (hn : n ≤ 100) (h : ∀ i : Int, 0 ≤ i → i < n → ∃ x, e ((wipeD ρ [v]).set v (some (.int i))) = some (.str x) ∧ Lets 1 x) :
    ∃ τ, b2 gJoin (some (.str "")) (lcD (bdN v) (fun _ => some true) e [v] ρ (some (rngL 0 n))) = some τ ∧ ∃ w, τ = .str w ∧ Lets n w := by
  classical
  let g : T → T := fun t => match t with
    | .int i => if h' : 0 ≤ i ∧ i < n then .str (h i h'.1 h'.2).choose else .non
    | _ => .non
  have hg : ∀ t ∈ rngL 0 n, ∃ x, g t = .str x ∧ Lets 1 x ∧ e ((wipeD ρ [v]).set v (some t)) = some (g t) := fun t ht => by
    obtain ⟨i, rfl, h0, h1⟩ := rngL_mem ht
    have hb : 0 ≤ i ∧ i < (n : Int) := ⟨h0, by omega⟩
    have q := (h i hb.1 hb.2).choose_spec
    have e1 : g (.int i) = .str (h i hb.1 hb.2).choose := by simp only [g, hb, and_self, dif_pos]
    exact ⟨_, e1, q.2, by rw [e1]; exact q.1⟩
  have hl : (rngL 0 n).length = n := by simp [rngL]
  obtain ⟨xs, hx, hL⟩ : ∃ xs : List Str, (rngL 0 n).map g = xs.map T.str ∧ ∀ x ∈ xs, Lets 1 x := by
    have : ∀ l : List T, (∀ t ∈ l, ∃ x, g t = .str x ∧ Lets 1 x) → ∃ xs : List Str, l.map g = xs.map T.str ∧ ∀ x ∈ xs, Lets 1 x := by
      intro l
      induction l with
      | nil => exact fun _ => ⟨[], rfl, by simp⟩
      | cons t l ih =>
        intro h
        obtain ⟨x, e1, e2⟩ := h t (by simp)
        obtain ⟨xs, e3, e4⟩ := ih fun y hy => h y (by simp [hy])
        refine ⟨x :: xs, by simp [e1, e3], fun y hy => ?_⟩
        rcases List.mem_cons.mp hy with rfl | q
        · exact e2
        · exact e4 y q
    exact this _ fun t ht => by obtain ⟨x, e1, e2, _⟩ := hg t ht; exact ⟨x, e1, e2⟩
  have hxl : xs.length = n := by
    have := congrArg List.length hx
    simp only [List.length_map] at this
    omega
  have hf : (rngL 0 n).filter (fun _ => true) = rngL 0 n := List.filter_eq_self.mpr fun _ _ => rfl
  have hlc := lc_some (bd := bdN v) (c := fun _ => some true) (e := e) (vs := [v]) (ρ := ρ) (o := some (rngL 0 n)) rfl (by rw [hl, szl]; omega) (fun _ => true) g (fun t ht => by
    obtain ⟨x, _, _, e3⟩ := hg t ht
    exact ⟨_, rfl, rfl, fun _ => e3⟩) (by rw [hf, hx]; exact imm_strs)
  rw [hlc, hf, hx, b2_some]
  have hs : ((xs.map (·.length)).sum + xs.length * Str.length "") ≤ 16777216 := by
    have : ∀ ys : List Str, (∀ x ∈ ys, Lets 1 x) → (ys.map (·.length)).sum = ys.length := by
      intro ys
      induction ys with
      | nil => intro _; rfl
      | cons y ys ih =>
        intro h
        rw [List.map_cons, List.sum_cons, ih fun z hz => h z (by simp [hz]), (h y (by simp)).len]
        simp; omega
    rw [this xs hL, hxl]
    have : Str.length "" = 0 := by decide +kernel
    rw [this]; omega
  refine ⟨.str (Txt.join "" xs), ?_, _, rfl, ?_⟩
  · unfold gJoin
    simp only [strsOf_map, Option.bind_some, hs, if_true]
  · rw [← hxl]; exact join_lets hL
theorem names_ex (c : Int) : ∃ t, f__law_names [.int c, .int 3] = some t ∧ ∃ a b d, t = .lst ([a, b, d].map T.str) ∧ Name a ∧ Name b ∧ Name d := by
  refine w_fn ?_
  show W _ _ _ _ (D__law_names [some (.int c), some (.int 3), none, none, none, none, none, none, none])
  unfold D__law_names
  simp only [w_seq, set_im, lst_n0, own_nil, w_nx, List.set_cons_succ, List.set_cons_zero]
  obtain ⟨I, hI⟩ : ∃ I : List T → Env' → Prop, I = fun ts ρ => ∃ (m : Nat) (ns : List Str) (p q r s u : Option T), m ≤ 3 ∧ ns.length = m ∧ ts = rngL m (3 - m) ∧ (∀ x ∈ ns, Name x) ∧ ρ = [some (.int c), some (.int 3), some (.str abc), some (.lst (ns.map T.str)), p, q, r, s, u] := ⟨_, rfl⟩
  refine w_forS (ts := rngL 0 3) ?_ I ?_ ?_ ?_
  · simp [rng1_s]
  · rw [hI]; exact ⟨0, [], none, none, none, none, none, by simp, rfl, rfl, by simp, rfl⟩
  · intro t ts ρ h
    rw [hI] at h
    obtain ⟨m, ns, p, q, r, s, u, hm, hl, ht, hn, rfl⟩ := h
    cases e : 3 - m with
    | zero => rw [e] at ht; cases ht
    | succ k =>
      rw [e, rngL_cons] at ht
      obtain ⟨rfl, rfl⟩ : t = .int m ∧ ts = rngL (m + 1) k := by cases ht; exact ⟨rfl, rfl⟩
      refine ⟨_, rfl, ?_⟩
      have hm2 : (m : Int) < 3 := by omega
      simp only [w_seq, bdN, List.set_cons_succ, List.set_cons_zero, nd_zero, nd_succ, b2_some, div_s (show (0 : Int) < 2 ∧ (2 : Int) < 1073741824 by decide), mod_s (show (0 : Int) < 2 by decide), mul_r (show -18446744073709551616 < (48271 : Int) ∧ (48271 : Int) < 18446744073709551616 by omega), mul_r (show -18446744073709551616 < (c % 2 : Int) ∧ (c % 2 : Int) < 18446744073709551616 by omega), gAdd_int, set_int, w_nx]
      obtain ⟨M, hM⟩ : ∃ M, M = c / 2 + ↑m * 48271 * (c % 2) := ⟨_, rfl⟩
      rw [← hM]
      simp only [mod_s (show (0 : Int) < 7 by decide), rng1_s (show -(2 ^ 62) ≤ (M % 7 : Int) ∧ (M % 7 : Int) < 2 ^ 62 by omega), b2_some]
      refine w_setE (join_lc (by omega) fun i h0 h1 => ?_) ?_
      · simp only [wipeD, List.set_cons_succ, List.set_cons_zero, nd_zero, nd_succ, b2_some, div_s (show (0 : Int) < 7 ∧ (7 : Int) < 1073741824 by decide), mul_l (show -18446744073709551616 < (6 : Int) ∧ (6 : Int) < 18446744073709551616 by omega), gAdd_int, mod_s (show (0 : Int) < 25 by decide)]
        exact abc_at (by omega) (by omega)
      · rintro _ ⟨w, rfl, hw⟩
        refine ⟨rfl, ?_⟩
        have hws : w.length ≤ sizeLine := by rw [hw.len, szl]; omega
        simp only [List.set_cons_succ, List.set_cons_zero, nd_zero, nd_succ, b2_some, cons_some, Option.bind_some, len_str hws, gAdd_int, div_s (show (0 : Int) < 175 ∧ (175 : Int) < 1073741824 by decide), mod_s (show (0 : Int) < (w.length : Int) + 1 by omega), set_int, w_nx]
        obtain ⟨A, hA, hA0, hA1⟩ : ∃ A, A = M / 175 % ((w.length : Int) + 1) ∧ 0 ≤ A ∧ A < (w.length : Int) + 1 := ⟨_, rfl, Int.emod_nonneg _ (by omega), Int.emod_lt_of_pos _ (by omega)⟩
        rw [← hA]
        rw [hw.len] at hA1
        obtain ⟨ch, ec, hc⟩ := abc_at (i := m) (by omega) (by omega)
        refine w_app (ts := ns.map T.str) rfl (by simp [szl, hl]; omega) (P := fun t => ∃ x, t = .str x ∧ Name x) ?_ ?_
        · simp only [List.set_cons_succ, List.set_cons_zero, nd_zero, nd_succ, b2_some, b3, asI_int, slS hws, ec]
          obtain ⟨m1, e1, l1⟩ := hw.cut none (some A)
          obtain ⟨m2, e2, l2⟩ := hw.cut (some A) none
          have hz : Lets 1 "z" := by constructor <;> decide +kernel
          have s1 : HT.sIx (M % 7).toNat (M % 7).toNat (some A) = A.toNat := by rw [sIx_some hA0]; omega
          have s2 : HT.sIx (M % 7).toNat 0 (some A) = A.toNat := by rw [sIx_some hA0]; omega
          have s3 : HT.sIx (M % 7).toNat 0 none = 0 := rfl
          have s4 : HT.sIx (M % 7).toNat (M % 7).toNat none = (M % 7).toNat := rfl
          rw [s1, s3] at e1
          rw [s2, s4] at e2
          rw [add_str l1 hz, b2_some, add_str (l1.app hz) hc, b2_some, add_str ((l1.app hz).app hc) l2]
          exact ⟨_, rfl, _, rfl, _, by omega, by omega, ((l1.app hz).app hc).app l2⟩
        · rintro _ ⟨x, rfl, hx⟩
          refine ⟨rfl, ?_⟩
          rw [hI]
          exact ⟨m + 1, ns ++ [x], some (.int m), some (.int M), some (.str w), some (.int A), u, by omega, by simp [hl], by rw [show 3 - (m + 1) = k by omega]; rfl, fun y hy => by
            rcases List.mem_append.mp hy with q | q
            · exact hn y q
            · simp at q; subst q; exact hx, by simp⟩
  · intro ρ h
    rw [hI] at h
    obtain ⟨m, ns, p, q, r, s, u, hm, hl, ht, hn, rfl⟩ := h
    have hm3 : 3 - m = 0 := by
      cases e : 3 - m with
      | zero => rfl
      | succ n => rw [e, rngL_cons] at ht; cases ht
    obtain rfl : m = 3 := by omega
    match ns, hl with
    | [a, b, d], _ =>
      have ha := hn a (by simp)
      have hb := hn b (by simp)
      have hd := hn d (by simp)
      have hra : a.length ≤ sizeLine := by obtain ⟨n, _, _, h⟩ := ha; rw [h.len, szl]; omega
      have e0 : gSubs (.lst ([a, b, d].map T.str)) (.int 0) = some (.str a) := by rw [subs_lst (by decide) (by simp)]; rfl
      have er : revSD (some (.str a)) = some (.str (revS a)) := by simp [revSD, hra]
      obtain ⟨z, ez⟩ := inA_strs (x := revS a) (xs := [a, b, d]) (neg := true)
      simp only [nd_zero, nd_succ, mod_s (show (0 : Int) < 5 by decide), b2_some, gEqA_int, asB_bl, e0, er, ez, and_s, Bool.false_xor]
      refine w_if rfl (fun _ => ?_) (fun _ => ?_)
      · have e1 : stD 3 (some (.str (revS a))) (some (.int 1)) [some (.int c), some (.int 3), some (.str abc), some (.lst ([a, b, d].map T.str)), p, q, r, s, u] = .nx [some (.int c), some (.int 3), some (.str abc), some (.lst ([a, revS a, d].map T.str)), p, q, r, s, u] := rfl
        simp only [nd_zero, nd_succ, b2_some, e0, er]
        rw [e1]
        simp only [w_nx, nd_zero, nd_succ, rt_some, w_rt]
        exact ⟨a, revS a, d, rfl, ha, rev_name ha, hd⟩
      · simp only [w_nx, nd_zero, nd_succ, rt_some, w_rt]
        exact ⟨a, b, d, rfl, ha, hb, hd⟩
end Q
namespace Q
open PySem PySem.Spec L2 DL

/-! ### entries -/
inductive Ent where
  | tell (name : Str) (lo hi w : Int)
  | clear (name : Str) (lo hi : Int)
  | like (name : Str) (lo hi : Int) (other : Str)
  | undo (k : Int)
  deriving DecidableEq
def encE : Ent → T
  | .tell x lo hi w => .tup [.str "tell", .str x, .int lo, .int hi, .int w]
  | .clear x lo hi => .tup [.str "clear", .str x, .int lo, .int hi]
  | .like x lo hi y => .tup [.str "like", .str x, .int lo, .int hi, .str y]
  | .undo k => .tup [.str "undo", .int k]
/-- names and bounds -/
def okE : Ent → Prop
  | .tell x lo hi w => Name x ∧ 0 ≤ lo ∧ lo ≤ hi ∧ hi ≤ 1000000 ∧ -1000000000 ≤ w ∧ w ≤ 1000000000
  | .clear x lo hi => Name x ∧ 0 ≤ lo ∧ lo ≤ hi ∧ hi ≤ 1000000
  | .like x lo hi y => Name x ∧ 0 ≤ lo ∧ lo ≤ hi ∧ hi ≤ 1000000 ∧ Name y
  | .undo k => 1 ≤ k
def belowE (n : Int) : Ent → Prop
  | .undo k => k < n
  | _ => True
theorem gMod_ex {x y : Int} (h : 0 < y) : ∃ r, gMod (.int x) (.int y) = some (.int r) ∧ 0 ≤ r ∧ r < y := ⟨x % y, mod_s h, Int.emod_nonneg _ (by omega), Int.emod_lt_of_pos _ h⟩
theorem gInA_ints {i : Int} {xs : List Int} {neg : Bool} : gInA neg (.int i) (.tup (xs.map T.int)) = some (.bl (xor neg (inV (.int i) (xs.map V.int)))) := by
  have : (xs.map T.int).all flatT = true := by
    rw [List.all_eq_true]; intro t ht
    obtain ⟨a, _, rfl⟩ := List.mem_map.mp ht
    rfl
  show gIn neg (.int i) (.tup (xs.map T.int)) = _
  unfold gIn
  simp only [seqT]
  rw [if_pos ⟨rfl, this⟩]
  simp only [List.map_map]
  rfl
theorem entry_ex (a b d : Str) (ha : Name a) (hb : Name b) (hd : Name d) (base n number : Int) (h0 : 0 ≤ base) (h1 : 1 ≤ number) :
    ∃ t, f__law_entry [.lst ([a, b, d].map T.str), .int base, .int n, .int number] = some t ∧ ∃ e, t = encE e ∧ okE e ∧ belowE number e := by
  refine w_fn ?_
  show W _ _ _ _ (D__law_entry [some (.lst ([a, b, d].map T.str)), some (.int base), some (.int n), some (.int number), none, none, none])
  unfold D__law_entry
  simp only [w_seq, nd_zero, nd_succ, b2_some, mul_r (show -18446744073709551616 < (48271 : Int) ∧ (48271 : Int) < 18446744073709551616 by omega), mod_s (show (0 : Int) < 2147483647 by decide), set_int, w_nx, List.set_cons_succ, List.set_cons_zero]
  obtain ⟨m, hm, hm0, hm1⟩ : ∃ m, m = n * 48271 % 2147483647 ∧ 0 ≤ m ∧ m < 2147483647 := ⟨_, rfl, Int.emod_nonneg _ (by decide), Int.emod_lt_of_pos _ (by decide)⟩
  rw [← hm]
  have hnm : ∀ j : Int, ∃ x, gSubs (.lst ([a, b, d].map T.str)) (.int (j % 3)) = some (.str x) ∧ Name x := fun j => by
    obtain ⟨x, hx, e⟩ := subs_strs [a, b, d] (i := j % 3) (Int.emod_nonneg _ (by decide)) (Int.emod_lt_of_pos _ (by decide))
    refine ⟨x, e, ?_⟩
    simp only [List.mem_cons, List.not_mem_nil, or_false] at hx
    rcases hx with rfl | rfl | rfl
    · exact ha
    · exact hb
    · exact hd
  -- the first day
  refine w_setE (P := fun t => ∃ lo, t = .int lo ∧ 0 ≤ lo ∧ lo ≤ 1000000) ?_ ?_
  · simp only [b2_some, div_s (show (0 : Int) < 24 ∧ (24 : Int) < 1073741824 by decide), div_s (show (0 : Int) < 11520 ∧ (11520 : Int) < 1073741824 by decide), mod_s (show (0 : Int) < 5 by decide), gEqA_int, cons_some, lst_n2, Option.bind_some, gInt_bl]
    obtain ⟨v, hv, e⟩ := subs_ints [10, 900000] (i := if (false ^^ decide (m / 11520 % 5 = 1)) = true then 1 else 0) (by split <;> decide) (by split <;> decide)
    simp only [List.map_cons, List.map_nil] at e
    have hv' : 0 < v := by
      simp only [List.mem_cons, List.not_mem_nil, or_false] at hv
      omega
    simp only [e, b2_some, mod_s hv', gAdd_int, cons_some, Option.bind_some, gMin_int]
    have := Int.emod_nonneg (m / 24) (b := v) (by omega)
    exact ⟨_, rfl, _, rfl, by omega, by omega⟩
  rintro _ ⟨lo, rfl, hl0, hl1⟩
  refine ⟨rfl, ?_⟩
  -- the last day
  simp only [List.set_cons_succ, List.set_cons_zero]
  refine w_setE (P := fun t => ∃ hi, t = .int hi ∧ lo ≤ hi ∧ hi ≤ 1000000) ?_ ?_
  · simp only [nd_zero, nd_succ, b2_some, div_s (show (0 : Int) < 240 ∧ (240 : Int) < 1073741824 by decide), mod_s (show (0 : Int) < 8 by decide), cons_some, lst_n8]
    obtain ⟨v, hv, e⟩ := subs_ints [0, 1, 3, 9, 35, 700, 1000000, 9] (i := m / 240 % 8) (Int.emod_nonneg _ (by decide)) (Int.emod_lt_of_pos _ (by decide))
    simp only [List.map_cons, List.map_nil] at e
    have hv' : 0 ≤ v := by
      simp only [List.mem_cons, List.not_mem_nil, or_false] at hv
      omega
    simp only [e, b2_some, gAdd_int, cons_some, Option.bind_some, gMin_int]
    exact ⟨_, rfl, _, rfl, by omega, by omega⟩
  rintro _ ⟨hi, rfl, hh0, hh1⟩
  refine ⟨rfl, ?_⟩
  simp only [List.set_cons_succ, List.set_cons_zero, nd_zero, nd_succ, b2_some, div_s (show (0 : Int) < 8 ∧ (8 : Int) < 1073741824 by decide), mod_s (show (0 : Int) < 3 by decide)]
  obtain ⟨x, ex, hx⟩ := hnm (m / 8)
  simp only [ex, set_str, w_nx, List.set_cons_succ, List.set_cons_zero, nd_zero, nd_succ, b2_some, mod_s (show (0 : Int) < 8 by decide), gIb_int, asB_bl, and_s]
  refine w_if rfl (fun hc => ?_) (fun _ => ?_)
  · have hc2 : 1 < number := by simp only [Bool.and_eq_true, decide_eq_true_eq] at hc; exact hc.2
    simp only [nd_zero, nd_succ, b2_some, div_s (show (0 : Int) < 8 ∧ (8 : Int) < 1073741824 by decide), gI_int, mod_s (show (0 : Int) < number - 1 by omega), gAdd_int, cons_some, tup_n2, rt_some, w_rt]
    have q1 := Int.emod_nonneg (m / 8) (b := number - 1) (by omega)
    have q2 := Int.emod_lt_of_pos (m / 8) (b := number - 1) (by omega)
    exact ⟨.undo (1 + m / 8 % (number - 1)), rfl, by show 1 ≤ 1 + _; omega, by show 1 + _ < number; omega⟩
  simp only [w_nx, nd_zero, nd_succ, b2_some, mod_s (show (0 : Int) < 8 by decide), gEqA_int, asB_bl]
  refine w_if rfl (fun hc => ?_) (fun _ => ?_)
  · simp only [nd_zero, nd_succ, cons_some, tup_n4, rt_some, w_rt]
    exact ⟨.clear x lo hi, rfl, ⟨hx, hl0, hh0, hh1⟩, trivial⟩
  simp only [w_nx, nd_zero, nd_succ, b2_some, mod_s (show (0 : Int) < 8 by decide), cons_some, tup_n2]
  have e45 := gInA_ints (i := m % 8) (xs := [4, 5]) (neg := false)
  simp only [List.map_cons, List.map_nil] at e45
  simp only [e45, asB_bl]
  refine w_if rfl (fun hc => ?_) (fun _ => ?_)
  · obtain ⟨y, ey, hy⟩ := hnm (m / 1920)
    simp only [nd_zero, nd_succ, b2_some, div_s (show (0 : Int) < 1920 ∧ (1920 : Int) < 1073741824 by decide), mod_s (show (0 : Int) < 3 by decide), ey, cons_some, tup_n5, rt_some, w_rt]
    exact ⟨.like x lo hi y, rfl, ⟨hx, hl0, hh0, hh1, hy⟩, trivial⟩
  · obtain ⟨v, hv, e⟩ := subs_ints [1, 2, 1, 0, -1, m % 2000000001 - 1000000000] (i := m / 1920 % 6) (Int.emod_nonneg _ (by decide)) (Int.emod_lt_of_pos _ (by decide))
    simp only [List.map_cons, List.map_nil] at e
    simp only [w_nx, nd_zero, nd_succ, b2_some, un1_int, div_s (show (0 : Int) < 1920 ∧ (1920 : Int) < 1073741824 by decide), mod_s (show (0 : Int) < 6 by decide), mod_s (show (0 : Int) < 2000000001 by decide), gI_int, cons_some, lst_n6, e, tup_n5, rt_some, w_rt]
    refine ⟨.tell x lo hi v, rfl, ⟨hx, hl0, hh0, hh1, ?_, ?_⟩, trivial⟩
    · simp only [List.mem_cons, List.not_mem_nil, or_false] at hv; omega
    · simp only [List.mem_cons, List.not_mem_nil, or_false] at hv; omega
end Q
namespace Q
open PySem PySem.Spec L2 DL

/-! ### books -/
abbrev Bk := List (Int × Ent)
def encK (b : Bk) : List (Key × T) := b.map fun p => (.inl p.1, encE p.2)
def encB (b : Bk) : T := .dic (encK b)
def encR (p : Int × Ent) : T := .tup [.int p.1, encE p.2]
@[simp] theorem imm_encE (e : Ent) : imm (encE e) = true := by cases e <;> simp [encE]
theorem immK_all : ∀ {ts : List (Key × T)}, (∀ t ∈ ts, imm t.2 = true) → immK ts = true
  | [], _ => by simp [immK]
  | (k, t) :: ts, h => by
    have ih : immK ts = true := immK_all fun x hx => h x (List.mem_cons_of_mem _ hx)
    simp [immK, h (k, t) (by simp), ih]
@[simp] theorem immE_encB (b : Bk) : immE (encB b) = true := by
  show immK (encK b) = true
  refine immK_all fun t ht => ?_
  obtain ⟨p, _, rfl⟩ := List.mem_map.mp ht
  simp
theorem immL_encR (l : Bk) : immL (l.map encR) = true := immL_all fun t ht => by
  obtain ⟨p, _, rfl⟩ := List.mem_map.mp ht
  simp [encR]
theorem keys_encK (b : Bk) : (encK b).map (·.1) = b.map fun p => (Sum.inl p.1 : Key) := by
  simp [encK, List.map_map, Function.comp_def]
theorem keysI_encK : ∀ b : Bk, keysI (encK b) = some (b.map (·.1))
  | [] => rfl
  | (k, e) :: r => by
    show (keysI (encK r)).map (k :: ·) = _
    rw [keysI_encK r]; rfl
/-- keys apart -/
def Apart (b : Bk) : Prop := (b.map (·.1)).Nodup
theorem Apart.enc {b : Bk} (h : Apart b) : ((encK b).map (·.1)).Nodup := by
  rw [keys_encK]
  have : (b.map fun p => (Sum.inl p.1 : Key)) = (b.map (·.1)).map Sum.inl := by simp [List.map_map, Function.comp_def]
  rw [this]
  exact List.Pairwise.map _ (fun x y hxy e => hxy (by cases e; rfl)) h
/-! what stands under a number -/
def at? : Bk → Int → Option Ent
  | [], _ => none
  | (k', t) :: r, k => if k' = k then some t else at? r k
theorem lookT_enc : ∀ (b : Bk) (k : Int), lookT (encK b) (.inl k) = (at? b k).map encE
  | [], _ => rfl
  | (k', e) :: r, k => by
    show (if (Sum.inl k' : Key) = .inl k then some (encE e) else lookT (encK r) (.inl k)) = Option.map encE (if k' = k then some e else at? r k)
    rw [lookT_enc r k]
    by_cases h : k' = k
    · subst h; simp
    · have : ¬ (Sum.inl k' : Key) = .inl k := fun e => h (by cases e; rfl)
      simp [h, this]
theorem at_mem {b : Bk} {k : Int} {e : Ent} (h : at? b k = some e) : (k, e) ∈ b := by
  induction b with
  | nil => cases h
  | cons p r ih =>
    obtain ⟨k', e'⟩ := p
    unfold at? at h
    split at h
    · rename_i q; subst q; cases h; simp
    · exact List.mem_cons_of_mem _ (ih h)
theorem at_of_mem {b : Bk} (ha : Apart b) {k : Int} {e : Ent} (h : (k, e) ∈ b) : at? b k = some e := by
  induction b with
  | nil => cases h
  | cons p r ih =>
    obtain ⟨k', e'⟩ := p
    unfold at?
    have ha' := List.nodup_cons.mp (show ((k' :: r.map (·.1)).Nodup) from ha)
    rcases List.mem_cons.mp h with q | q
    · cases q; simp
    · have : k' ≠ k := fun e' => ha'.1 (by subst e'; exact List.mem_map.mpr ⟨_, q, rfl⟩)
      simp [this, ih ha'.2 q]
theorem at_none {b : Bk} {k : Int} : at? b k = none ↔ k ∉ b.map (·.1) := by
  induction b with
  | nil => simp [at?]
  | cons p r ih =>
    obtain ⟨k', e'⟩ := p
    unfold at?
    by_cases h : k' = k
    · simp [h]
    · simp only [if_neg h, ih, List.map_cons, List.mem_cons, not_or]
      exact ⟨fun q => ⟨fun e => h e.symm, q⟩, fun q => q.2⟩
theorem subs_book {b : Bk} {k : Int} {e : Ent} (h : at? b k = some e) : gSubs (encB b) (.int k) = some (encE e) := by
  show (keyOf (.int k)).bind (lookT (encK b)) = _
  show lookT (encK b) (.inl k) = _
  rw [lookT_enc, h]; rfl
/-! put -/
def put : Bk → Int → Ent → Bk
  | [], k, t => [(k, t)]
  | (k', t') :: r, k, t => if k' = k then (k, t) :: r else (k', t') :: put r k t
theorem putT_enc : ∀ (b : Bk) (k : Int) (e : Ent), putT (encK b) (.inl k) (encE e) = encK (put b k e)
  | [], _, _ => rfl
  | (k', e') :: r, k, e => by
    show (if (Sum.inl k' : Key) = .inl k then ((Sum.inl k : Key), encE e) :: encK r else (.inl k', encE e') :: putT (encK r) (.inl k) (encE e)) = encK (if k' = k then (k, e) :: r else (k', e') :: put r k e)
    rw [putT_enc r k]
    by_cases h : k' = k
    · subst h; simp [encK]
    · have : ¬ (Sum.inl k' : Key) = .inl k := fun e => h (by cases e; rfl)
      simp [h, this, encK]
theorem at_put {b : Bk} {k j : Int} {e : Ent} : at? (put b k e) j = if k = j then some e else at? b j := by
  induction b with
  | nil => simp [put, at?]
  | cons p r ih =>
    obtain ⟨k', e'⟩ := p
    unfold put
    by_cases h : k' = k
    · subst h
      simp only [if_true]
      unfold at?
      by_cases q : k' = j
      · simp [q]
      · simp [q]
    · simp only [if_neg h]
      unfold at?
      rw [ih]
      by_cases q : k' = j
      · subst q; simp [Ne.symm h]
      · simp [q]
theorem keys_put {b : Bk} {k : Int} {e : Ent} : (put b k e).map (·.1) = if k ∈ b.map (·.1) then b.map (·.1) else b.map (·.1) ++ [k] := by
  induction b with
  | nil => simp [put]
  | cons p r ih =>
    obtain ⟨k', e'⟩ := p
    unfold put
    by_cases h : k' = k
    · subst h; simp
    · simp only [if_neg h, List.map_cons, ih, List.mem_cons]
      by_cases q : k ∈ r.map (·.1)
      · simp [q, Ne.symm h]
      · simp [q, Ne.symm h]
theorem Apart.put {b : Bk} (h : Apart b) (k : Int) (e : Ent) : Apart (put b k e) := by
  unfold Apart
  rw [keys_put]
  split
  · exact h
  · rename_i q
    rw [List.nodup_append]
    exact ⟨h, by simp, fun a ha b hb e => q (by simp at hb; subst hb; subst e; exact ha)⟩
theorem put_mem {b : Bk} {k : Int} {e : Ent} {p : Int × Ent} (h : p ∈ put b k e) : p = (k, e) ∨ p ∈ b := by
  induction b with
  | nil => simpa [Q.put] using h
  | cons q r ih =>
    obtain ⟨k', e'⟩ := q
    unfold Q.put at h
    split at h
    · rcases List.mem_cons.mp h with q | q
      · exact .inl q
      · exact .inr (List.mem_cons_of_mem _ q)
    · rcases List.mem_cons.mp h with q | q
      · exact .inr (by rw [q]; simp)
      · rcases ih q with q | q
        · exact .inl q
        · exact .inr (List.mem_cons_of_mem _ q)
theorem put_len {b : Bk} {k : Int} {e : Ent} : (put b k e).length = if k ∈ b.map (·.1) then b.length else b.length + 1 := by
  have := congrArg List.length (keys_put (b := b) (k := k) (e := e))
  rw [List.length_map] at this
  rw [this]
  split <;> simp
theorem store_enc {i : Nat} {ρ : Env'} {b : Bk} {k : Int} {e : Ent} (hn : nd i ρ = some (encB b)) (ha : Apart b) (hl : b.length < 1000) : stD i (some (encE e)) (some (.int k)) ρ = .nx (ρ.set i (some (encB (put b k e)))) := by
  unfold stD
  rw [hn]
  have h1 : (encK b).length < sizeLine := by simp [encK, szl]; omega
  show (if imm (encE e) = true ∧ (List.map (fun p : Key × T => p.1) (encK b)).Nodup ∧ (encK b).length < sizeLine then Out.nx (ρ.set i (some (.dic (putT (encK b) (.inl k) (encE e))))) else .er) = _
  rw [if_pos ⟨imm_encE e, ha.enc, h1⟩, putT_enc]
  rfl
/-! dict() of rows -/
theorem pairs_enc : ∀ l : Bk, pairsT (l.map encR) = some (encK l)
  | [] => rfl
  | (k, e) :: r => by
    show (match keyOf (.int k), pairsT (r.map encR) with | some y, some ys => some ((y, encE e) :: ys) | _, _ => none) = _
    rw [pairs_enc r]; rfl
theorem putT_new {acc : List (Key × T)} {k : Key} {t : T} (h : k ∉ acc.map (·.1)) : putT acc k t = acc ++ [(k, t)] := by
  induction acc with
  | nil => rfl
  | cons p r ih =>
    obtain ⟨k', t'⟩ := p
    simp only [List.map_cons, List.mem_cons, not_or] at h
    unfold putT
    rw [if_neg (Ne.symm h.1), ih h.2]; rfl
theorem merge_new : ∀ (ps acc : List (Key × T)), (List.map (fun p : Key × T => p.1) (acc ++ ps)).Nodup → mergeT acc ps = acc ++ ps
  | [], acc, _ => by simp [mergeT]
  | (k, t) :: r, acc, h => by
    have hk : k ∉ acc.map (·.1) := by
      rw [List.map_append, List.nodup_append] at h
      exact fun q => h.2.2 k q k (by simp) rfl
    show mergeT (putT acc k t) r = _
    rw [putT_new hk, merge_new r _ (by simpa using h)]
    simp
theorem dict_rows {l : Bk} (h : Apart l) : gDict [.lst (l.map encR)] = some (encB l) := by
  show (pairsT (l.map encR)).map (fun ps => T.dic (mergeT [] ps)) = _
  rw [pairs_enc]
  show some (T.dic (mergeT [] (encK l))) = _
  rw [merge_new _ _ (by simpa using h.enc)]
  rfl
structure BookOk (many : Nat) (b : Bk) : Prop where
  ap : Apart b
  len : b.length ≤ many
  pos : ∀ p ∈ b, 1 ≤ p.1
  top : ∀ p ∈ b, p.1 ≤ 1 + 3 * many
  ok : ∀ p ∈ b, okE p.2 ∧ belowE p.1 p.2

theorem base_ex (ns : List Int) (h : ns.length ≤ 63) : ∃ t, f__law_base [.scr (ns.map T.int)] = some t ∧ ∃ v, t = .int v ∧ 0 ≤ v ∧ v ≤ 1000000 := by
  refine w_fn ?_
  show W _ _ _ _ (D__law_base [some (.scr (ns.map T.int))])
  unfold D__law_base
  have e0 := of_eq ns 0 (by omega) h
  simp only [Int.ofNat_zero] at e0
  have e0' : f__law_of [.scr (ns.map T.int), .int 0] = some (.int (ns.getD 0 0)) := e0
  simp only [nd_zero, cons_some, Option.bind_some, e0', b2_some, mod_s (show (0 : Int) < 4 by decide), lst_n4]
  obtain ⟨v, hv, e⟩ := subs_ints [0, 7, 300, 999982] (i := ns.getD 0 0 % 4) (Int.emod_nonneg _ (by decide)) (Int.emod_lt_of_pos _ (by decide))
  simp only [List.map_cons, List.map_nil] at e
  rw [e]
  refine w_rtE ⟨_, rfl, v, rfl, ?_, ?_⟩
  · simp only [List.mem_cons, List.not_mem_nil, or_false] at hv; omega
  · simp only [List.mem_cons, List.not_mem_nil, or_false] at hv; omega
theorem base_top (ns : List Int) (h : ns.length ≤ 63) : ∃ t, f__law_base [.scr (ns.map T.int)] = some t ∧ ∃ v, t = .int v ∧ 0 ≤ v ∧ v ≤ 999982 := by
  refine w_fn ?_
  show W _ _ _ _ (D__law_base [some (.scr (ns.map T.int))])
  unfold D__law_base
  have e0' : f__law_of [.scr (ns.map T.int), .int 0] = some (.int (ns.getD 0 0)) := of_eq ns 0 (by omega) h
  simp only [nd_zero, cons_some, Option.bind_some, e0', b2_some, mod_s (show (0 : Int) < 4 by decide), lst_n4]
  obtain ⟨v, hv, e⟩ := subs_ints [0, 7, 300, 999982] (i := ns.getD 0 0 % 4) (Int.emod_nonneg _ (by decide)) (Int.emod_lt_of_pos _ (by decide))
  simp only [List.map_cons, List.map_nil] at e
  rw [e]
  refine w_rtE ⟨_, rfl, v, rfl, ?_, ?_⟩
  · simp only [List.mem_cons, List.not_mem_nil, or_false] at hv; omega
  · simp only [List.mem_cons, List.not_mem_nil, or_false] at hv; omega
theorem subs_scr {ns : List Int} {i : Int} (h0 : 0 ≤ i) (h : i < ns.length) : gSubs (.scr (ns.map T.int)) (.int i) = some (.int (ns.getD i.toNat 0)) := by
  show atI (ns.map T.int) i = _
  rw [atI_some h0 (by simpa using h)]
  have : i.toNat < ns.length := by omega
  simp [List.getD, this]
theorem len_scr {ns : List Int} : gLen [.scr (ns.map T.int)] = some (.int ns.length) := by simp [gLen]
theorem len_lst {ts : List T} : gLen [.lst ts] = some (.int ts.length) := rfl
theorem cutT_drop {ts : List T} {c : Int} (h0 : 0 ≤ c) : cutT ts (some c) none = ts.drop c.toNat := by
  unfold cutT
  rw [sIx_some h0]
  show (ts.drop (min c.toNat ts.length)).take (ts.length - min c.toNat ts.length) = _
  by_cases h : c.toNat ≤ ts.length
  · rw [Nat.min_eq_left h, List.take_of_length_le (by simp)]
  · rw [Nat.min_eq_right (by omega), List.drop_eq_nil_of_le (Nat.le_refl _), List.drop_eq_nil_of_le (by omega)]; simp
theorem cutT_take {ts : List T} {c : Int} (h0 : 0 ≤ c) : cutT ts none (some c) = ts.take c.toNat := by
  unfold cutT
  rw [sIx_some h0]
  show (ts.drop 0).take (min c.toNat ts.length - 0) = _
  rw [List.drop_zero, Nat.sub_zero]
  by_cases h : c.toNat ≤ ts.length
  · rw [Nat.min_eq_left h]
  · rw [Nat.min_eq_right (by omega), List.take_of_length_le (Nat.le_refl _), List.take_of_length_le (by omega)]
theorem gAdd_lst {xs ys : List T} (h : xs.length + ys.length ≤ sizeLine) : gAdd (.lst xs) (.lst ys) = some (.lst (xs ++ ys)) := by
  simp only [gAdd, h, if_true]
theorem book_ex (ns : List Int) (h : ns.length ≤ 63) (many : Nat) (hm : many ≤ 30) : ∃ t, f__law_book [.scr (ns.map T.int), .int many] = some t ∧ ∃ b, t = encB b ∧ BookOk many b := by
  refine w_fn ?_
  show W _ _ _ _ (D__law_book [some (.scr (ns.map T.int)), some (.int many), none, none, none, none, none, none])
  unfold D__law_book
  have e0 : f__law_of [.scr (ns.map T.int), .int 0] = some (.int (ns.getD 0 0)) := of_eq ns 0 (by omega) h
  have e1 : f__law_of [.scr (ns.map T.int), .int 1] = some (.int (ns.getD 1 0)) := of_eq ns 1 (by omega) h
  obtain ⟨_, en, a, b, d, rfl, ha, hb, hd⟩ := names_ex (ns.getD 1 0)
  obtain ⟨_, eb, base, rfl, hb0, hb1⟩ := base_ex ns h
  simp only [w_seq, nd_zero, nd_succ, cons_some, Option.bind_some, e0, e1, en, set_im, w_nx, List.set_cons_succ, List.set_cons_zero, b2_some, div_s (show (0 : Int) < 4 ∧ (4 : Int) < 1073741824 by decide), mod_s (show (0 : Int) < 3 by decide), gAdd_int, lst_n0, own_nil]
  obtain ⟨gap, hg, hg1, hg3⟩ : ∃ gap, gap = 1 + ns.getD 0 0 / 4 % 3 ∧ 1 ≤ gap ∧ gap ≤ 3 := ⟨_, rfl, by omega, by omega⟩
  rw [← hg]
  obtain ⟨top, ht, ht0⟩ : ∃ top : Nat, rng1 (some (.int (min (many : Int) (ns.length - 4)))) = some (rngL 0 top) ∧ (top : Int) ≤ max 0 (min (many : Int) (ns.length - 4)) := ⟨_, rng1_s (by omega), by omega⟩
  simp only [len_scr, b2_some, cons_some, Option.bind_some, gI_int, gMin_int, ht]
  obtain ⟨I, hI⟩ : ∃ I : List T → Env' → Prop, I = fun ts ρ => ∃ (m : Nat) (rows : Bk) (p q r : Option T), m ≤ top ∧ rows.length = m ∧ ts = rngL m (top - m) ∧ rows.map (·.1) = (List.range m).map (fun i : Nat => 1 + (i : Int) * gap) ∧ (∀ x ∈ rows, okE x.2 ∧ belowE x.1 x.2) ∧ ρ = [some (.scr (ns.map T.int)), some (.int many), some (.lst ([a, b, d].map T.str)), some (.int gap), some (.lst (rows.map encR)), p, q, r] := ⟨_, rfl⟩
  refine w_forS (ts := rngL 0 top) ?_ I ?_ ?_ ?_
  · rfl
  · rw [hI]; exact ⟨0, [], none, none, none, by omega, rfl, rfl, rfl, by simp, rfl⟩
  · intro t ts ρ hi
    rw [hI] at hi
    obtain ⟨m, rows, p, q, r, hm1, hl, hts, hk, hr, rfl⟩ := hi
    cases e : top - m with
    | zero => rw [e] at hts; cases hts
    | succ k =>
      rw [e, rngL_cons] at hts
      obtain ⟨rfl, rfl⟩ : t = .int m ∧ ts = rngL (m + 1) k := by cases hts; exact ⟨rfl, rfl⟩
      refine ⟨_, rfl, ?_⟩
      have hms : (4 : Int) + m < ns.length := by omega
      have hn1 : 1 ≤ 1 + (m : Int) * gap := by have := Int.mul_nonneg (show (0 : Int) ≤ m by omega) (show 0 ≤ gap by omega); omega
      obtain ⟨_, ee, ent, rfl, ho1, ho2⟩ := entry_ex a b d ha hb hd base (ns.getD ((4 : Int) + m).toNat 0 + 7 * m) (1 + m * gap) hb0 hn1
      simp only [w_seq, bdN, List.set_cons_succ, List.set_cons_zero, nd_zero, nd_succ, b2_some, mul_r (show -18446744073709551616 < gap ∧ gap < 18446744073709551616 by omega), mul_l (show -18446744073709551616 < (7 : Int) ∧ (7 : Int) < 18446744073709551616 by omega), gAdd_int, set_int, w_nx]
      simp only [subs_scr (show (0 : Int) ≤ 4 + m by omega) hms, b2_some, cons_some, Option.bind_some, eb, gAdd_int, ee, tup_n2]
      refine w_app (ts := rows.map encR) (P := fun t => t = encR (1 + m * gap, ent)) rfl (by simp [szl, hl]; omega) ⟨_, rfl, rfl⟩ ?_
      rintro _ rfl
      refine ⟨by simp [encR], ?_⟩
      rw [hI]
      refine ⟨m + 1, rows ++ [(1 + m * gap, ent)], some (.int m), some (.int (1 + m * gap)), r, by omega, by simp [hl], by rw [show top - (m + 1) = k by omega]; rfl, ?_, ?_, by simp⟩
      · rw [List.map_append, hk, List.range_succ, List.map_append]; rfl
      · intro x hx
        rcases List.mem_append.mp hx with q | q
        · exact hr x q
        · simp only [List.mem_singleton] at q; subst q; exact ⟨ho1, ho2⟩
  · intro ρ hi
    rw [hI] at hi
    obtain ⟨m, rows, p, q, r, hm1, hl, hts, hk, hr, rfl⟩ := hi
    have hmt : top - m = 0 := by
      cases e : top - m with
      | zero => rfl
      | succ n => rw [e, rngL_cons] at hts; cases hts
    obtain rfl : m = top := by omega
    simp only [nd_zero, nd_succ, cons_some, Option.bind_some, e0, len_lst, b2_some, gAdd_int, div_s (show (0 : Int) < 12 ∧ (12 : Int) < 1073741824 by decide), mod_s (show (0 : Int) < ((rows.map encR).length : Int) + 1 by omega), set_int, w_nx, List.set_cons_succ, List.set_cons_zero, asI_int, b3, gSlL]
    obtain ⟨cut, hc, hc0, hc1⟩ : ∃ cut, cut = ns.getD 0 0 / 12 % (((rows.map encR).length : Int) + 1) ∧ 0 ≤ cut ∧ cut < ((rows.map encR).length : Int) + 1 := ⟨_, rfl, Int.emod_nonneg _ (by omega), Int.emod_lt_of_pos _ (by omega)⟩
    rw [← hc, cutT_drop hc0, cutT_take hc0, ← List.map_drop, ← List.map_take, gAdd_lst (by simp [szl]; omega), ← List.map_append]
    have hap : Apart (rows.drop cut.toNat ++ rows.take cut.toNat) := by
      have h1 : Apart rows := by
        unfold Apart
        rw [hk]
        refine List.Pairwise.map _ ?_ List.nodup_range
        intro x y hxy e
        apply hxy
        have e' : (x : Int) * gap = y * gap := by omega
        have := Int.eq_of_mul_eq_mul_right (show gap ≠ 0 by omega) e'
        omega
      have h2 : (rows.drop cut.toNat ++ rows.take cut.toNat).Perm rows := by
        refine (List.perm_append_comm).trans ?_
        rw [List.take_append_drop]
      unfold Apart
      exact ((h2.map (fun p : Int × Ent => p.1)).nodup_iff).mpr h1
    have hmem : ∀ x, x ∈ rows.drop cut.toNat ++ rows.take cut.toNat → x ∈ rows := fun x hx => by
      rcases List.mem_append.mp hx with q | q
      · exact List.mem_of_mem_drop q
      · exact List.mem_of_mem_take q
    rw [cons_some, Option.bind_some, dict_rows hap]
    have hkey : ∀ x ∈ rows, ∃ i : Nat, i < m ∧ x.1 = 1 + (i : Int) * gap := fun x hx => by
      have : x.1 ∈ rows.map (·.1) := List.mem_map.mpr ⟨_, hx, rfl⟩
      rw [hk] at this
      obtain ⟨i, hi, e⟩ := List.mem_map.mp this
      exact ⟨i, List.mem_range.mp hi, e.symm⟩
    refine w_rtE ⟨_, rfl, _, rfl, ?_⟩
    constructor
    · exact hap
    · simp; omega
    · intro x hx
      obtain ⟨i, _, e⟩ := hkey x (hmem x hx)
      have := Int.mul_nonneg (show (0 : Int) ≤ i by omega) (show 0 ≤ gap by omega); omega
    · intro x hx
      obtain ⟨i, hi, e⟩ := hkey x (hmem x hx)
      have h1 : (i : Int) * gap ≤ i * 3 := Int.mul_le_mul_of_nonneg_left hg3 (by omega)
      omega
    · exact fun x hx => hr x (hmem x hx)
end Q
namespace Q
open PySem PySem.Spec PyProof.Rows L2 DL
abbrev N_is_whole : List Str := ["thing"]
def D_is_whole : Env' → Out := (fun ρ => rtD (b2 (gEqB false) ((consD (nd 0 ρ) (some [])).bind gType) (some (.raw (.ty "int")))))
def f_is_whole : List T → Option T := fnD N_is_whole false D_is_whole
abbrev N_is_number : List Str := ["thing"]
def D_is_number : Env' → Out := (fun ρ => rtD (andV ((consD (nd 0 ρ) (some [])).bind f_is_whole) (b2 gGe (nd 0 ρ) (some (.int 1)))))
def f_is_number : List T → Option T := fnD N_is_number false D_is_number
abbrev N_is_name : List Str := ["thing", "sign"]
def D_is_name : Env' → Out := (seqD (fun ρ => ifD (orD (asB (b2 (gEqB true) ((consD (nd 0 ρ) (some [])).bind gType) (some (.raw (.ty "str"))))) ((asB (chD gLe gLe (some (.int 1)) ((consD (nd 0 ρ) (some [])).bind gLen) (some (.int 8)))).map (!·)))
    (fun ρ => rtD (some (.bl false)))
    (fun ρ => .nx ρ) ρ)
  (fun ρ => rtD ((consD (lcD (bdN 1) (fun _ => some true) (fun ρ => chD gLe gLe (some (.str "a")) (nd 1 ρ) (some (.str "z"))) [1] ρ (itD true (nd 0 ρ))) (some [])).bind gAll)))
def f_is_name : List T → Option T := fnD N_is_name false D_is_name
abbrev N_is_day : List Str := ["thing"]
def D_is_day : Env' → Out := (fun ρ => rtD (andV ((consD (nd 0 ρ) (some [])).bind f_is_whole) (chD gLe gLe (some (.int 0)) (nd 0 ρ) (some (.int 1000000)))))
def f_is_day : List T → Option T := fnD N_is_day false D_is_day
abbrev N_is_worth : List Str := ["thing"]
def D_is_worth : Env' → Out := (fun ρ => rtD (andV ((consD (nd 0 ρ) (some [])).bind f_is_whole) (chD gLe gLe (un1 (fun i => -i) (some (.int 1000000000))) (nd 0 ρ) (some (.int 1000000000)))))
def f_is_worth : List T → Option T := fnD N_is_worth false D_is_worth
abbrev N_are_days : List Str := ["low", "high"]
def D_are_days : Env' → Out := (fun ρ => rtD (andV ((consD (nd 0 ρ) (some [])).bind f_is_day) (andV ((consD (nd 1 ρ) (some [])).bind f_is_day) (b2 gLe (nd 0 ρ) (nd 1 ρ)))))
def f_are_days : List T → Option T := fnD N_are_days false D_are_days
abbrev N_is_tell : List Str := ["entry", "_", "name", "low", "high", "worth"]
def D_is_tell : Env' → Out := (seqD (fun ρ => ifD (asB (b2 (gEqA true) ((consD (nd 0 ρ) (some [])).bind gLen) (some (.int 5))))
    (fun ρ => rtD (some (.bl false)))
    (fun ρ => .nx ρ) ρ)
  (seqD (fun ρ => unpD true (bdT 5 (bdCons (bdN 1) (bdCons (bdN 2) (bdCons (bdN 3) (bdCons (bdN 4) (bdCons (bdN 5) bdNil)))))) (nd 0 ρ) ρ)
  (fun ρ => rtD (andV ((consD (nd 2 ρ) (some [])).bind f_is_name) (andV ((consD (nd 3 ρ) (consD (nd 4 ρ) (some []))).bind f_are_days) ((consD (nd 5 ρ) (some [])).bind f_is_worth))))))
def f_is_tell : List T → Option T := fnD N_is_tell false D_is_tell
abbrev N_is_clear : List Str := ["entry", "_", "name", "low", "high"]
def D_is_clear : Env' → Out := (seqD (fun ρ => ifD (asB (b2 (gEqA true) ((consD (nd 0 ρ) (some [])).bind gLen) (some (.int 4))))
    (fun ρ => rtD (some (.bl false)))
    (fun ρ => .nx ρ) ρ)
  (seqD (fun ρ => unpD true (bdT 4 (bdCons (bdN 1) (bdCons (bdN 2) (bdCons (bdN 3) (bdCons (bdN 4) bdNil))))) (nd 0 ρ) ρ)
  (fun ρ => rtD (andV ((consD (nd 2 ρ) (some [])).bind f_is_name) ((consD (nd 3 ρ) (consD (nd 4 ρ) (some []))).bind f_are_days)))))
def f_is_clear : List T → Option T := fnD N_is_clear false D_is_clear
abbrev N_is_like : List Str := ["entry", "_", "name", "low", "high", "other"]
def D_is_like : Env' → Out := (seqD (fun ρ => ifD (asB (b2 (gEqA true) ((consD (nd 0 ρ) (some [])).bind gLen) (some (.int 5))))
    (fun ρ => rtD (some (.bl false)))
    (fun ρ => .nx ρ) ρ)
  (seqD (fun ρ => unpD true (bdT 5 (bdCons (bdN 1) (bdCons (bdN 2) (bdCons (bdN 3) (bdCons (bdN 4) (bdCons (bdN 5) bdNil)))))) (nd 0 ρ) ρ)
  (fun ρ => rtD (andV ((consD (nd 2 ρ) (some [])).bind f_is_name) (andV ((consD (nd 3 ρ) (consD (nd 4 ρ) (some []))).bind f_are_days) ((consD (nd 5 ρ) (some [])).bind f_is_name))))))
def f_is_like : List T → Option T := fnD N_is_like false D_is_like
abbrev N_is_undo : List Str := ["entry"]
def D_is_undo : Env' → Out := (fun ρ => rtD (andV (b2 (gEqA false) ((consD (nd 0 ρ) (some [])).bind gLen) (some (.int 2))) ((consD (b2 gSubs (nd 0 ρ) (some (.int 1))) (some [])).bind f_is_number)))
def f_is_undo : List T → Option T := fnD N_is_undo false D_is_undo
abbrev N_is_entry : List Str := ["thing", "word", "fits"]
def formsF : Str → Option (List T → Option T) := fun z => if z = "tell" then some f_is_tell else if z = "clear" then some f_is_clear else if z = "like" then some f_is_like else if z = "undo" then some f_is_undo else none
def D_is_entry (dF : Addr) (tab : List (Str × Addr)) : Env' → Out := (seqD (fun ρ => ifD (orD (asB (b2 (gEqB true) ((consD (nd 0 ρ) (some [])).bind gType) (some (.raw (.ty "tuple"))))) (asB (b2 (gEqA false) ((consD (nd 0 ρ) (some [])).bind gLen) (some (.int 0)))))
    (fun ρ => rtD (some (.bl false)))
    (fun ρ => .nx ρ) ρ)
  (seqD (fun ρ => setD true 1 (b2 gSubs (nd 0 ρ) (some (.int 0))) ρ)
  (seqD (fun ρ => ifD (orD (asB (b2 (gEqB true) ((consD (nd 1 ρ) (some [])).bind gType) (some (.raw (.ty "str"))))) (asB (b2 (gNotInK dF tab) (nd 1 ρ) (some (.raw (.ref dF))))))
    (fun ρ => rtD (some (.bl false)))
    (fun ρ => .nx ρ) ρ)
  (seqD (fun ρ => setD true 2 (b2 (gItemK dF tab) (some (.raw (.ref dF))) (nd 1 ρ)) ρ)
  (fun ρ => rtD (fitD tab formsF (nd 1 ρ) (nd 2 ρ) (consD (nd 0 ρ) (some []))))))))
def f_is_entry : List T → Option T
  | [.tup []] => some (.bl false)
  | [.tup (.str z :: r)] => match formsF z with
    | some φ => φ [.tup (.str z :: r)]
    | none => some (.bl false)
  | [.tup (.raw _ :: _)] => none
  | [.tup (_ :: _)] => some (.bl false)
  | [.raw _] => none
  | [_] => some (.bl false)
  | _ => none
abbrev N_need_entry : List Str := ["entry"]
def D_need_entry : Env' → Out := (seqD (fun ρ => ifD ((asB ((consD (nd 0 ρ) (some [])).bind f_is_entry)).map (!·))
    (fun _ => .er)
    (fun ρ => .nx ρ) ρ)
  (fun ρ => rtD (nd 0 ρ)))
def f_need_entry : List T → Option T := fnD N_need_entry false D_need_entry
def X_need_entry : Env' → Option Str := (seqX (fun ρ => ifX ((asB ((consD (nd 0 ρ) (some [])).bind f_is_entry)).map (!·))
   (fun _ => some "BadEntry")
   (fun _ => none) ρ)
  (fun ρ => ifD ((asB ((consD (nd 0 ρ) (some [])).bind f_is_entry)).map (!·))
    (fun _ => .er)
    (fun ρ => .nx ρ) ρ)
  (fun _ => none))
def x_need_entry : List T → Option Str := fun ts => X_need_entry (rho0 N_need_entry ts)
abbrev N__law_good : List Str := ["_law_script", "_law_n", "_law_names_here", "_law_low", "_law_high", "_law_worth", "_law_some"]
def D__law_good : Env' → Out := (seqD (fun ρ => setD true 1 ((consD (nd 0 ρ) (consD (some (.int 0)) (some []))).bind f__law_of) ρ)
  (seqD (fun ρ => setD true 2 ((consD ((consD (nd 0 ρ) (consD (some (.int 1)) (some []))).bind f__law_of) (consD (some (.int 3)) (some []))).bind f__law_names) ρ)
  (seqD (fun ρ => setD true 3 (b2 gSubs (lstD (consD (some (.int 0)) (consD (some (.int 5)) (consD (some (.int 1000000)) (consD (some (.int 999999)) (consD (b2 gMod (nd 1 ρ) (some (.int 1000001))) (some []))))))) (b2 gMod (b2 gDiv (nd 1 ρ) (some (.int 4))) (some (.int 5)))) ρ)
  (seqD (fun ρ => setD true 4 ((consD (some (.int 1000000)) (consD (b2 gAdd (nd 3 ρ) (b2 gMod (b2 gDiv (nd 1 ρ) (some (.int 20))) (some (.int 3)))) (some []))).bind gMin) ρ)
  (seqD (fun ρ => setD true 5 (b2 gSubs (lstD (consD (some (.int 0)) (consD (un1 (fun i => -i) (some (.int 1000000000))) (consD (some (.int 1000000000)) (consD (b2 gSub (b2 gMod (nd 1 ρ) (some (.int 2000000001))) (some (.int 1000000000))) (some [])))))) (b2 gMod (b2 gDiv (nd 1 ρ) (some (.int 60))) (some (.int 4)))) ρ)
  (seqD (fun ρ => setD true 6 (lstD (consD (tupD (consD (some (.str "tell")) (consD (b2 gSubs (nd 2 ρ) (some (.int 0))) (consD (nd 3 ρ) (consD (nd 4 ρ) (consD (nd 5 ρ) (some []))))))) (consD (tupD (consD (some (.str "clear")) (consD (b2 gSubs (nd 2 ρ) (some (.int 1))) (consD (nd 3 ρ) (consD (nd 4 ρ) (some [])))))) (some [])))) ρ)
  (seqD (fun ρ => setD true 6 (b2 gAdd (nd 6 ρ) (lstD (consD (tupD (consD (some (.str "like")) (consD (b2 gSubs (nd 2 ρ) (some (.int 0))) (consD (nd 3 ρ) (consD (nd 4 ρ) (consD (b2 gSubs (nd 2 ρ) (some (.int 1))) (some []))))))) (consD (tupD (consD (some (.str "undo")) (consD (b2 gAdd (some (.int 1)) (b2 gMod (b2 gDiv (nd 1 ρ) (some (.int 240))) (b2 gPow (some (.int 10)) (some (.int 12))))) (some [])))) (some []))))) ρ)
  (fun ρ => rtD (b2 gSubs (nd 6 ρ) (b2 gMod (nd 1 ρ) (some (.int 4))))))))))))
def f__law_good : List T → Option T := fnD N__law_good false D__law_good
abbrev N__law_odd : List Str := ["_law_cell", "_law_some"]
def D__law_odd : Env' → Out := (seqD (fun ρ => setD true 1 (lstD (consD (some .non) (consD (some (.bl true)) (consD (some (.bl false)) (consD (un1 (fun i => -i) (some (.int 1))) (consD (some (.int 1000001)) (consD (b2 gPow (some (.int 10)) (some (.int 12))) (consD (some (.str "")) (consD (some (.str "A")) (consD (some (.str "abcdefghi")) (consD (some (.str "a b")) (consD (some (.int 0)) (consD (some (.int 1)) (consD (some (.str "zz")) (consD (tupD (consD (some (.int 1)) (some []))) (consD (un1 (fun i => -i) (some (.int 1000000001))) (consD (lstD (consD (some (.int 2)) (some []))) (some [])))))))))))))))))) ρ)
  (fun ρ => rtD (b2 gSubs (nd 1 ρ) (b2 gMod (nd 0 ρ) (some (.int 16))))))
def f__law_odd : List T → Option T := fnD N__law_odd false D__law_odd
abbrev N__law_bent : List Str := ["_law_entry", "_law_cell", "_law_odd_here", "_law_at", "_law_turned", "_law_some"]
def D__law_bent : Env' → Out := (seqD (fun ρ => setD true 3 (b2 gMod (b2 gDiv (nd 1 ρ) (some (.int 9))) ((consD (nd 0 ρ) (some [])).bind gLen)) ρ)
  (seqD (fun ρ => ifD (asB (b2 gLt (b2 gMod (nd 1 ρ) (some (.int 9))) (some (.int 4))))
    (fun ρ => rtD (b2 gAdd (b2 gAdd (b3 gSl (nd 0 ρ) (some none) (asI (nd 3 ρ))) (tupD (consD (nd 2 ρ) (some [])))) (b3 gSl (nd 0 ρ) (asI (b2 gAdd (nd 3 ρ) (some (.int 1)))) (some none))))
    (fun ρ => .nx ρ) ρ)
  (seqD (fun ρ => setD true 4 (b2 gAdd (b2 gAdd (b2 gAdd (b3 gSl (nd 0 ρ) (some none) (asI (some (.int 2)))) (b3 gSl (nd 0 ρ) (asI (some (.int 3))) (asI (some (.int 4))))) (b3 gSl (nd 0 ρ) (asI (some (.int 2))) (asI (some (.int 3))))) (b3 gSl (nd 0 ρ) (asI (some (.int 4))) (some none))) ρ)
  (seqD (fun ρ => setD true 5 (lstD (consD (b3 gSl (nd 0 ρ) (some none) (asI (un1 (fun i => -i) (some (.int 1))))) (consD (b2 gAdd (nd 0 ρ) (tupD (consD (nd 2 ρ) (some [])))) (consD ((consD (nd 0 ρ) (some [])).bind gListA) (consD (nd 2 ρ) (consD (nd 4 ρ) (some []))))))) ρ)
  (fun ρ => rtD (b2 gSubs (nd 5 ρ) (b2 gSub (b2 gMod (nd 1 ρ) (some (.int 9))) (some (.int 4)))))))))
def f__law_bent : List T → Option T := fnD N__law_bent false D__law_bent
abbrev N__law_is_name : List Str := ["_law_thing", "_law_sign"]
def D__law_is_name : Env' → Out := (seqD (fun ρ => ifD (orD ((asB ((consD (nd 0 ρ) (consD (some (.raw (.ty "str"))) (some []))).bind gIsi)).map (!·)) ((asB (chD gLe gLe (some (.int 1)) ((consD (nd 0 ρ) (some [])).bind gLen) (some (.int 8)))).map (!·)))
    (fun ρ => rtD (some (.bl false)))
    (fun ρ => .nx ρ) ρ)
  (fun ρ => rtD ((consD (lcD (bdN 1) (fun _ => some true) (fun ρ => b2 (gInA false) (nd 1 ρ) (some (.str "abcdefghijklmnopqrstuvwxyz"))) [1] ρ (itD true (nd 0 ρ))) (some [])).bind gAll)))
def f__law_is_name : List T → Option T := fnD N__law_is_name false D__law_is_name
abbrev N__law_is_whole : List Str := ["_law_thing", "_law_least", "_law_most"]
def D__law_is_whole : Env' → Out := (fun ρ => rtD (andV ((consD (nd 0 ρ) (consD (some (.raw (.ty "int"))) (some []))).bind gIsi) (andV (notV ((consD (nd 0 ρ) (consD (some (.raw (.ty "bool"))) (some []))).bind gIsi)) (chD gLe gLe (nd 1 ρ) (nd 0 ρ) (nd 2 ρ)))))
def f__law_is_whole : List T → Option T := fnD N__law_is_whole false D__law_is_whole
abbrev N__law_is_entry : List Str := ["_law_entry"]
def D__law_is_entry : Env' → Out := (seqD (fun ρ => ifD (orD ((asB ((consD (nd 0 ρ) (consD (some (.raw (.ty "tuple"))) (some []))).bind gIsi)).map (!·)) (orD (asB (b2 gLt ((consD (nd 0 ρ) (some [])).bind gLen) (some (.int 2)))) (asB (b2 (gInC true) (b2 gSubs (nd 0 ρ) (some (.int 0))) (tupD (consD (some (.str "tell")) (consD (some (.str "clear")) (consD (some (.str "like")) (consD (some (.str "undo")) (some []))))))))))
    (fun ρ => rtD (some (.bl false)))
    (fun ρ => .nx ρ) ρ)
  (seqD (fun ρ => ifD (asB (b2 (gEqA false) (b2 gSubs (nd 0 ρ) (some (.int 0))) (some (.str "undo"))))
    (fun ρ => rtD (andV (b2 (gEqA false) ((consD (nd 0 ρ) (some [])).bind gLen) (some (.int 2))) ((consD (b2 gSubs (nd 0 ρ) (some (.int 1))) (consD (some (.int 1)) (consD (b2 gPow (some (.int 10)) (some (.int 30))) (some [])))).bind f__law_is_whole)))
    (fun ρ => .nx ρ) ρ)
  (seqD (fun ρ => ifD (orD (asB (b2 (gEqA true) ((consD (nd 0 ρ) (some [])).bind gLen) (b2 gSub (some (.int 5)) ((consD (b2 (gEqA false) (b2 gSubs (nd 0 ρ) (some (.int 0))) (some (.str "clear"))) (some [])).bind gInt)))) ((asB ((consD (b2 gSubs (nd 0 ρ) (some (.int 1))) (some [])).bind f__law_is_name)).map (!·)))
    (fun ρ => rtD (some (.bl false)))
    (fun ρ => .nx ρ) ρ)
  (seqD (fun ρ => ifD (orD ((asB ((consD (b2 gSubs (nd 0 ρ) (some (.int 2))) (consD (some (.int 0)) (consD (some (.int 1000000)) (some [])))).bind f__law_is_whole)).map (!·)) ((asB ((consD (b2 gSubs (nd 0 ρ) (some (.int 3))) (consD (b2 gSubs (nd 0 ρ) (some (.int 2))) (consD (some (.int 1000000)) (some [])))).bind f__law_is_whole)).map (!·)))
    (fun ρ => rtD (some (.bl false)))
    (fun ρ => .nx ρ) ρ)
  (seqD (fun ρ => ifD (asB (b2 (gEqA false) (b2 gSubs (nd 0 ρ) (some (.int 0))) (some (.str "tell"))))
    (fun ρ => rtD ((consD (b2 gSubs (nd 0 ρ) (some (.int 4))) (consD (un1 (fun i => -i) (some (.int 1000000000))) (consD (some (.int 1000000000)) (some [])))).bind f__law_is_whole))
    (fun ρ => .nx ρ) ρ)
  (fun ρ => rtD (orV (b2 (gEqA false) (b2 gSubs (nd 0 ρ) (some (.int 0))) (some (.str "clear"))) ((consD (b2 gSubs (nd 0 ρ) (some (.int 4))) (some [])).bind f__law_is_name))))))))
def f__law_is_entry : List T → Option T := fnD N__law_is_entry false D__law_is_entry
abbrev N__law_refused : List Str := ["_law_entry", "_law_kinds", "e"]
def D__law_refused : Env' → Out := seqD (fun ρ => tryD 2 x_need_entry (fun x => if x = "BadEntry" then .rt (.bl true) else .er) (nd 0 ρ) ρ) (fun ρ => rtD (some (.bl false)))
def f__law_refused : List T → Option T := fnD N__law_refused false D__law_refused
abbrev N_law : List Str := ["_law_script", "_law_entry", "_law_odd_here", "_law_thing", "_law_found", "_law_due", "_law_told", "_law_one"]
def D_law : Env' → Out := (seqD (fun ρ => setD true 1 ((consD (nd 0 ρ) (some [])).bind f__law_good) ρ)
  (seqD (fun ρ => setD true 2 ((consD ((consD (nd 0 ρ) (consD (some (.int 2)) (some []))).bind f__law_of) (some [])).bind f__law_odd) ρ)
  (seqD (fun ρ => ifD (asB (b2 gGt (b2 gMod ((consD (nd 0 ρ) (consD (some (.int 3)) (some []))).bind f__law_of) (some (.int 3))) (some (.int 0))))
    (fun ρ => setD true 1 ((consD (nd 1 ρ) (consD (b2 gDiv ((consD (nd 0 ρ) (consD (some (.int 3)) (some []))).bind f__law_of) (some (.int 3))) (consD (nd 2 ρ) (some [])))).bind f__law_bent) ρ)
    (fun ρ => .nx ρ) ρ)
  (seqD (fun ρ => setD true 3 (b2 gSubs (lstD (consD (nd 2 ρ) (consD (b2 gSubs ((consD ((consD (nd 0 ρ) (consD (some (.int 1)) (some []))).bind f__law_of) (consD (some (.int 3)) (some []))).bind f__law_names) (some (.int 0))) (some [])))) (b2 gMod (b2 gDiv ((consD (nd 0 ρ) (consD (some (.int 3)) (some []))).bind f__law_of) (some (.int 72))) (some (.int 2)))) ρ)
  (seqD (fun ρ => setD true 4 (lstD (consD ((consD (nd 3 ρ) (some [])).bind f_is_name) (consD ((consD (nd 3 ρ) (some [])).bind f_is_day) (consD ((consD (nd 3 ρ) (some [])).bind f_is_worth) (some []))))) ρ)
  (seqD (fun ρ => setD true 5 (lstD (consD ((consD (nd 3 ρ) (some [])).bind f__law_is_name) (consD ((consD (nd 3 ρ) (consD (some (.int 0)) (consD (some (.int 1000000)) (some [])))).bind f__law_is_whole) (consD ((consD (nd 3 ρ) (consD (un1 (fun i => -i) (some (.int 1000000000))) (consD (some (.int 1000000000)) (some [])))).bind f__law_is_whole) (some []))))) ρ)
  (seqD (fun ρ => ifD (orD (asB (b2 (gEqA true) (lcD (bdN 7) (fun _ => some true) (fun ρ => (consD (nd 7 ρ) (consD (some (.raw (.ty "bool"))) (some []))).bind gIsi) [7] ρ (itD true (nd 4 ρ))) (lstD (consD (some (.bl true)) (consD (some (.bl true)) (consD (some (.bl true)) (some []))))))) (orD (asB (b2 (gEqA true) (nd 4 ρ) (nd 5 ρ))) (asB (b2 (gEqA true) (some (.int 30)) (some (.int 30))))))
    (fun ρ => rtD (some (.bl false)))
    (fun ρ => .nx ρ) ρ)
  (seqD (fun ρ => ifD ((asB ((consD (nd 1 ρ) (some [])).bind f__law_is_entry)).map (!·))
    (fun ρ => rtD ((consD (nd 1 ρ) (some [])).bind f__law_refused))
    (fun ρ => .nx ρ) ρ)
  (seqD (fun ρ => setD true 6 ((consD (nd 1 ρ) (some [])).bind f_need_entry) ρ)
  (fun ρ => rtD (andV ((consD (nd 6 ρ) (consD (some (.raw (.ty "tuple"))) (some []))).bind gIsi) (b2 (gEqA false) (nd 6 ρ) (nd 1 ρ)))))))))))))
def f_law : List T → Option T := fnD N_law false D_law
end Q
namespace Q
open PySem PySem.Spec L2 DL

/-! ### names, days, worths -/
def isI : T → Bool
  | .int _ => true
  | _ => false
def nameB : T → Bool
  | .str x => decide (1 ≤ x.length) && decide (x.length ≤ 8) && x.cps.toList.all fun c => decide (97 ≤ c) && decide (c ≤ 122)
  | _ => false
def wholeB (lo hi : Int) : T → Bool
  | .int i => decide (lo ≤ i) && decide (i ≤ hi)
  | _ => false
def leB : T → T → Bool
  | .int i, .int j => decide (i ≤ j)
  | _, _ => false
/-- what may stand in an entry here -/
structure Part (t : T) : Prop where
  ok : okN 2 t = true
  str : ∀ x, t = .str x → x.length ≤ 1000
  big : ∀ i, t = .int i → i ≤ 1000000000000000000000000000000
theorem Part.isD {t : T} (h : Part t) : isD t = true := by
  have := h.ok
  simp only [okN, Bool.and_eq_true] at this
  exact this.1
theorem Part.dOk {t : T} (h : Part t) : dOk t = true := dOk_of h.ok
theorem ty_ex {t : T} (h : isD t = true) : ∃ n, tyN t = some n ∧ n ∈ tys := by
  cases t <;> first | exact ⟨_, rfl, by decide⟩ | simp [isD] at h
theorem eqTy_s {a b : String} (ha : a ∈ tys) (hb : b ∈ tys) : gEqB false (.raw (.ty a)) (.raw (.ty b)) = some (.bl (decide (a = b))) := by
  simp [gEqB, gEqTy, ha, hb]
theorem neTy_s {a b : String} (ha : a ∈ tys) (hb : b ∈ tys) : gEqB true (.raw (.ty a)) (.raw (.ty b)) = some (.bl (!decide (a = b))) := by
  simp [gEqB, gNeTy, ha, hb]
theorem ty_int {t : T} {n : String} (h : tyN t = some n) : decide (n = "int") = isI t := by
  cases t <;> cases h <;> first | rfl | decide
theorem whole_is {t : T} (h : isD t = true) : f_is_whole [t] = some (.bl (isI t)) := by
  obtain ⟨n, e, hn⟩ := ty_ex h
  refine w_eq ?_
  show W _ _ _ _ (D_is_whole [some t])
  unfold D_is_whole
  have : gType [t] = some (.raw (.ty n)) := by show (tyN t).map _ = _; rw [e]; rfl
  simp only [nd_zero, cons_some, Option.bind_some, this, b2_some, eqTy_s hn (show "int" ∈ tys by decide), ty_int e, rt_some, w_rt]
def numB : T → Bool
  | .int i => decide (1 ≤ i)
  | _ => false
theorem number_is {t : T} (h : isD t = true) : f_is_number [t] = some (.bl (numB t)) := by
  refine w_eq ?_
  show W _ _ _ _ (D_is_number [some t])
  unfold D_is_number
  simp only [nd_zero, cons_some, Option.bind_some, whole_is h, b2_some]
  cases t with
  | int i => simp [isI, andV, gIb_int, numB]
  | _ => simp [isI, andV, numB]
theorem day_is {t : T} (h : isD t = true) : f_is_day [t] = some (.bl (wholeB 0 1000000 t)) := by
  refine w_eq ?_
  show W _ _ _ _ (D_is_day [some t])
  unfold D_is_day
  simp only [nd_zero, cons_some, Option.bind_some, whole_is h]
  cases t with
  | int i => simp [isI, andV, wholeB]
  | _ => simp [isI, andV, wholeB]
theorem worth_is {t : T} (h : isD t = true) : f_is_worth [t] = some (.bl (wholeB (-1000000000) 1000000000 t)) := by
  refine w_eq ?_
  show W _ _ _ _ (D_is_worth [some t])
  unfold D_is_worth
  simp only [nd_zero, cons_some, Option.bind_some, whole_is h, un1_int]
  cases t with
  | int i => simp [isI, andV, wholeB]
  | _ => simp [isI, andV, wholeB]
/-- one sign beside another -/
theorem sign_lt (a b : Nat) : strLt ⟨#[a]⟩ ⟨#[b]⟩ = decide (a < b) := by
  unfold strLt
  by_cases h : a < b
  · simp [h, List.cons_lt_cons_iff]
  · simp [h, List.cons_lt_cons_iff]
theorem str_a : ("a" : Str) = ⟨#[97]⟩ := by decide +kernel
theorem str_z : ("z" : Str) = ⟨#[122]⟩ := by decide +kernel
theorem sign_az (c : Nat) : chD gLe gLe (some (.str "a")) (some (.str ⟨#[c]⟩)) (some (.str "z")) = some (.bl (decide (97 ≤ c) && decide (c ≤ 122))) := by
  rw [str_a, str_z]
  unfold chD
  simp only [b2_some, gLe, sign_lt]
  by_cases h : c < 97
  · have : ¬ 97 ≤ c := by omega
    simp [h, this]
  · have : 97 ≤ c := by omega
    simp only [h, this, decide_true, decide_false, Bool.not_false, Bool.true_and]
    congr 2
    by_cases q : 122 < c
    · have : ¬ c ≤ 122 := by omega
      simp [q, this]
    · have : c ≤ 122 := by omega
      simp [q, this]
theorem blsOf_map {α : Type} (f : α → Bool) : ∀ xs : List α, blsOf (xs.map fun x => T.bl (f x)) = some (xs.map f)
  | [] => rfl
  | x :: xs => by
    show (blsOf (xs.map fun x => T.bl (f x))).map (f x :: ·) = _
    rw [blsOf_map f xs]; rfl
theorem comp_all {bd : Env' → T → Option Env'} {e : Env' → Option T} {ρ : Env'} {α : Type} (xs : List α) (mk : α → T) (g : α → T) (h : ∀ a ∈ xs, ∃ ρ1, bd ρ (mk a) = some ρ1 ∧ e ρ1 = some (g a)) : compD bd (fun _ => some true) e ρ (xs.map mk) = some (xs.map g) := by
  induction xs with
  | nil => rfl
  | cons a xs ih =>
    obtain ⟨ρ1, h1, h2⟩ := h a (by simp)
    rw [List.map_cons, List.map_cons]
    unfold compD
    rw [h1]
    simp only [h2, ih fun b hb => h b (by simp [hb]), cons_some]
theorem lc_all {bd : Env' → T → Option Env'} {e : Env' → Option T} {ρ : Env'} {α : Type} {vs : List Nat} {o : Option (List T)} (xs : List α) (mk : α → T) (g : α → T) (ho : o = some (xs.map mk)) (hl : xs.length ≤ sizeLine) (h : ∀ a ∈ xs, ∃ ρ1, bd (wipeD ρ vs) (mk a) = some ρ1 ∧ e ρ1 = some (g a)) (hi : ∀ a ∈ xs, imm (g a) = true) :
    lcD bd (fun _ => some true) e vs ρ o = some (.lst (xs.map g)) := by
  subst ho
  have h1 : (xs.map mk).length ≤ sizeLine := by simpa using hl
  have h2 : immL (xs.map g) = true := immL_all fun t ht => by
    obtain ⟨a, ha, rfl⟩ := List.mem_map.mp ht
    exact hi a ha
  simp only [lcD, h1, if_true, comp_all xs mk g h, h2]
theorem signs_map (x : Str) : signs x = x.cps.toList.map fun c => T.str ⟨#[c]⟩ := rfl
theorem all_bls {α : Type} (f : α → Bool) (xs : List α) : gAll [.lst (xs.map fun x => T.bl (f x))] = some (.bl (xs.all f)) := by
  show (blsOf _).map _ = _
  rw [blsOf_map]
  simp [List.all_map]
theorem ty_str {t : T} {n : String} (h : tyN t = some n) : decide (n = "str") = (match t with | .str _ => true | _ => false) := by
  cases t <;> cases h <;> first | rfl | decide
theorem name_is {t : T} (h : isD t = true) (hs : ∀ x, t = .str x → x.length ≤ 1000) : f_is_name [t] = some (.bl (nameB t)) := by
  obtain ⟨n, e, hn⟩ := ty_ex h
  refine w_eq ?_
  show W _ _ _ _ (D_is_name [some t, none])
  unfold D_is_name
  have : gType [t] = some (.raw (.ty n)) := by show (tyN t).map _ = _; rw [e]; rfl
  simp only [w_seq, nd_zero, cons_some, Option.bind_some, this, b2_some, neTy_s hn (show "str" ∈ tys by decide), ty_str e, asB_bl]
  cases t with
  | str x =>
    have hx : x.length ≤ sizeLine := by have := hs x rfl; simp [szl]; omega
    have hl : gLen [.str x] = some (.int x.length) := by simp [gLen, hx]
    simp only [hl, ch_s2, asB_bl, Option.map_some, orD, Bool.not_true]
    refine w_if rfl (fun hc => ?_) (fun hc => ?_)
    · rw [rt_some, w_rt]
      have : nameB (.str x) = false := by
        simp only [Bool.not_eq_true', Bool.and_eq_false_iff, decide_eq_false_iff_not] at hc
        simp only [nameB, Bool.and_eq_false_iff, decide_eq_false_iff_not]
        omega
      rw [this]
    · rw [w_nx]
      have e2 := lc_all (bd := bdN 1) (e := fun ρ => chD gLe gLe (some (.str "a")) (nd 1 ρ) (some (.str "z"))) (ρ := [some (.str x), none]) (vs := [1]) (o := itD true (some (.str x))) x.cps.toList (fun c => T.str ⟨#[c]⟩) (fun c => T.bl (decide (97 ≤ c) && decide (c ≤ 122))) rfl (by simpa [PySem.Str.length] using hx) (fun c _ => ⟨_, rfl, by
        simp only [wipeD, List.set_cons_succ, List.set_cons_zero, nd_succ, nd_zero]
        exact sign_az c⟩) (fun _ _ => imm_bl)
      rw [nd_zero, e2]
      simp only [cons_some, Option.bind_some, all_bls, rt_some, w_rt]
      have h1 : decide (1 ≤ x.length) = true ∧ decide (x.length ≤ 8) = true := by
        simp only [Bool.not_eq_false', Bool.and_eq_true, decide_eq_true_eq] at hc ⊢
        omega
      simp only [nameB, h1.1, h1.2, Bool.true_and]
  | _ => simp [orD, nameB]
theorem days_is {a b : T} (ha : isD a = true) (hb : isD b = true) : f_are_days [a, b] = some (.bl (wholeB 0 1000000 a && (wholeB 0 1000000 b && leB a b))) := by
  refine w_eq ?_
  show W _ _ _ _ (D_are_days [some a, some b])
  unfold D_are_days
  simp only [nd_zero, nd_succ, cons_some, Option.bind_some, day_is ha, day_is hb, b2_some]
  cases a with
  | int i =>
    cases b with
    | int j => cases h1 : wholeB 0 1000000 (.int i) <;> cases h2 : wholeB 0 1000000 (.int j) <;> simp [andV, leB]
    | _ => cases h1 : wholeB 0 1000000 (.int i) <;> simp [andV, wholeB]
  | _ => simp [andV, wholeB]
end Q
namespace Q
open PySem PySem.Spec L2 DL
theorem len5 {α : Type} {ts : List α} (h : ts.length = 5) : ∃ a b c d e, ts = [a, b, c, d, e] := by
  match ts, h with
  | [a, b, c, d, e], _ => exact ⟨a, b, c, d, e, rfl⟩
theorem len4 {α : Type} {ts : List α} (h : ts.length = 4) : ∃ a b c d, ts = [a, b, c, d] := by
  match ts, h with
  | [a, b, c, d], _ => exact ⟨a, b, c, d, rfl⟩
theorem len2 {α : Type} {ts : List α} (h : ts.length = 2) : ∃ a b, ts = [a, b] := by
  match ts, h with
  | [a, b], _ => exact ⟨a, b, rfl⟩
def daysB (a b : T) : Bool := wholeB 0 1000000 a && (wholeB 0 1000000 b && leB a b)
def tellB : List T → Bool
  | [_, a, b, c, d] => nameB a && (daysB b c && wholeB (-1000000000) 1000000000 d)
  | _ => false
def clearB : List T → Bool
  | [_, a, b, c] => nameB a && daysB b c
  | _ => false
def likeB : List T → Bool
  | [_, a, b, c, d] => nameB a && (daysB b c && nameB d)
  | _ => false
def undoB : List T → Bool
  | [_, a] => numB a
  | _ => false
def entOk : T → Bool
  | .tup (.str z :: r) => (decide (z = "tell") && tellB (.str z :: r)) || (decide (z = "clear") && clearB (.str z :: r)) || (decide (z = "like") && likeB (.str z :: r)) || (decide (z = "undo") && undoB (.str z :: r))
  | _ => false
/-- data, with texts that are no longer than a line -/
def Pd (t : T) : Prop := isD t = true ∧ ∀ x, t = .str x → x.length ≤ 1000
theorem Part.pd {t : T} (h : Part t) : Pd t := ⟨h.isD, h.str⟩
@[simp] theorem andV_bl {a b : Bool} : andV (some (.bl a)) (some (.bl b)) = some (.bl (a && b)) := by cases a <;> rfl
theorem andV_bl2 {a : Bool} {b : Option T} : andV (some (.bl a)) b = if a = true then b else some (.bl false) := by cases a <;> rfl
theorem gLen_tup {ts : List T} : gLen [.tup ts] = some (.int ts.length) := rfl
theorem nat_eq {n m : Nat} : decide ((n : Int) = (m : Int)) = decide (n = m) := by
  by_cases h : n = m
  · simp [h]
  · have : ¬ (n : Int) = m := by omega
    simp [h, this]
theorem tell_is {ts : List T} (h : ∀ t ∈ ts, Pd t) : f_is_tell [.tup ts] = some (.bl (tellB ts)) := by
  refine w_eq ?_
  show W _ _ _ _ (D_is_tell [some (.tup ts), none, none, none, none, none])
  unfold D_is_tell
  simp only [w_seq, nd_zero, cons_some, Option.bind_some, gLen_tup, b2_some, gEqA_int, asB_bl]
  refine w_if rfl (fun hc => ?_) (fun hc => ?_)
  · rw [rt_some, w_rt]
    have hl : ts.length ≠ 5 := by simp only [Bool.true_xor, Bool.not_eq_true', decide_eq_false_iff_not] at hc; omega
    unfold tellB
    split
    · exact absurd rfl hl
    · rfl
  · have hl : ts.length = 5 := by simp only [Bool.true_xor, Bool.not_eq_false', decide_eq_true_eq] at hc; omega
    obtain ⟨x, a, b, c, d, rfl⟩ := len5 hl
    simp only [w_nx]
    have ha := h a (by simp); have hb := h b (by simp); have hcc := h c (by simp); have hd := h d (by simp)
    simp only [unpD, nd_zero, Bool.true_or, if_true, bdT, List.length_cons, List.length_nil, bdCons, bdN, bdNil, List.set_cons_succ, List.set_cons_zero, w_nx, nd_succ, cons_some, Option.bind_some, name_is ha.1 ha.2, days_is hb.1 hcc.1, worth_is hd.1, andV_bl, rt_some, w_rt]
    rfl
theorem clear_is {ts : List T} (h : ∀ t ∈ ts, Pd t) : f_is_clear [.tup ts] = some (.bl (clearB ts)) := by
  refine w_eq ?_
  show W _ _ _ _ (D_is_clear [some (.tup ts), none, none, none, none])
  unfold D_is_clear
  simp only [w_seq, nd_zero, cons_some, Option.bind_some, gLen_tup, b2_some, gEqA_int, asB_bl]
  refine w_if rfl (fun hc => ?_) (fun hc => ?_)
  · rw [rt_some, w_rt]
    have hl : ts.length ≠ 4 := by simp only [Bool.true_xor, Bool.not_eq_true', decide_eq_false_iff_not] at hc; omega
    unfold clearB
    split
    · exact absurd rfl hl
    · rfl
  · have hl : ts.length = 4 := by simp only [Bool.true_xor, Bool.not_eq_false', decide_eq_true_eq] at hc; omega
    obtain ⟨x, a, b, c, rfl⟩ := len4 hl
    simp only [w_nx]
    have ha := h a (by simp); have hb := h b (by simp); have hcc := h c (by simp)
    simp only [unpD, nd_zero, Bool.true_or, if_true, bdT, List.length_cons, List.length_nil, bdCons, bdN, bdNil, List.set_cons_succ, List.set_cons_zero, w_nx, nd_succ, cons_some, Option.bind_some, name_is ha.1 ha.2, days_is hb.1 hcc.1, andV_bl, rt_some, w_rt]
    rfl
theorem like_is {ts : List T} (h : ∀ t ∈ ts, Pd t) : f_is_like [.tup ts] = some (.bl (likeB ts)) := by
  refine w_eq ?_
  show W _ _ _ _ (D_is_like [some (.tup ts), none, none, none, none, none])
  unfold D_is_like
  simp only [w_seq, nd_zero, cons_some, Option.bind_some, gLen_tup, b2_some, gEqA_int, asB_bl]
  refine w_if rfl (fun hc => ?_) (fun hc => ?_)
  · rw [rt_some, w_rt]
    have hl : ts.length ≠ 5 := by simp only [Bool.true_xor, Bool.not_eq_true', decide_eq_false_iff_not] at hc; omega
    unfold likeB
    split
    · exact absurd rfl hl
    · rfl
  · have hl : ts.length = 5 := by simp only [Bool.true_xor, Bool.not_eq_false', decide_eq_true_eq] at hc; omega
    obtain ⟨x, a, b, c, d, rfl⟩ := len5 hl
    simp only [w_nx]
    have ha := h a (by simp); have hb := h b (by simp); have hcc := h c (by simp); have hd := h d (by simp)
    simp only [unpD, nd_zero, Bool.true_or, if_true, bdT, List.length_cons, List.length_nil, bdCons, bdN, bdNil, List.set_cons_succ, List.set_cons_zero, w_nx, nd_succ, cons_some, Option.bind_some, name_is ha.1 ha.2, name_is hd.1 hd.2, days_is hb.1 hcc.1, andV_bl, rt_some, w_rt]
    rfl
theorem undo_is {ts : List T} (h : ∀ t ∈ ts, Pd t) : f_is_undo [.tup ts] = some (.bl (undoB ts)) := by
  refine w_eq ?_
  show W _ _ _ _ (D_is_undo [some (.tup ts)])
  unfold D_is_undo
  simp only [nd_zero, cons_some, Option.bind_some, gLen_tup, b2_some, gEqA_int, Bool.false_xor]
  by_cases hl : ts.length = 2
  · obtain ⟨x, a, rfl⟩ := len2 hl
    have ha := h a (by simp)
    have e1 : gSubs (.tup [x, a]) (.int 1) = some a := rfl
    simp only [e1, cons_some, Option.bind_some, number_is ha.1]
    show W _ _ _ _ (rtD (andV (some (.bl true)) _)) 
    simp only [andV_bl, Bool.true_and, rt_some, w_rt]
    rfl
  · have : decide ((ts.length : Int) = 2) = false := by simp; omega
    rw [this]
    simp only [andV, rt_some, w_rt]
    unfold undoB
    split
    · exact absurd rfl hl
    · rfl
theorem forms_none {z : Str} (h : formsF z = none) : z ≠ "tell" ∧ z ≠ "clear" ∧ z ≠ "like" ∧ z ≠ "undo" := by
  unfold formsF at h
  split at h
  · cases h
  · split at h
    · cases h
    · split at h
      · cases h
      · split at h
        · cases h
        · exact ⟨by assumption, by assumption, by assumption, by assumption⟩
theorem entry_is {t : T} (h : Pd t) (hp : ∀ ts, t = .tup ts → ∀ x ∈ ts, Pd x) : f_is_entry [t] = some (.bl (entOk t)) := by
  cases t with
  | tup ts =>
    have hp := hp ts rfl
    cases ts with
    | nil => rfl
    | cons x r =>
      cases x with
      | str z =>
        show (match formsF z with | some φ => φ [.tup (.str z :: r)] | none => some (.bl false)) = _
        cases e : formsF z with
        | none =>
          obtain ⟨h1, h2, h3, h4⟩ := forms_none e
          simp [entOk, h1, h2, h3, h4]
        | some φ =>
          unfold formsF at e
          split at e
          · rename_i hz; cases e; subst hz
            simp [tell_is hp, entOk, show ¬ ("tell" : Str) = "clear" by decide +kernel, show ¬ ("tell" : Str) = "like" by decide +kernel, show ¬ ("tell" : Str) = "undo" by decide +kernel]
          · split at e
            · rename_i hz; cases e; subst hz
              simp [clear_is hp, entOk, show ¬ ("clear" : Str) = "tell" by decide +kernel, show ¬ ("clear" : Str) = "like" by decide +kernel, show ¬ ("clear" : Str) = "undo" by decide +kernel]
            · split at e
              · rename_i hz; cases e; subst hz
                simp [like_is hp, entOk, show ¬ ("like" : Str) = "clear" by decide +kernel, show ¬ ("like" : Str) = "tell" by decide +kernel, show ¬ ("like" : Str) = "undo" by decide +kernel]
              · split at e
                · rename_i hz; cases e; subst hz
                  simp [undo_is hp, entOk, show ¬ ("undo" : Str) = "clear" by decide +kernel, show ¬ ("undo" : Str) = "like" by decide +kernel, show ¬ ("undo" : Str) = "tell" by decide +kernel]
                · cases e
      | raw v => have := (hp (.raw v) (by simp)).1; simp [isD] at this
      | _ => rfl
  | raw v => have := h.1; simp [isD] at this
  | _ => rfl
theorem need_is {t : T} (h : Pd t) (hp : ∀ ts, t = .tup ts → ∀ x ∈ ts, Pd x) (hb : entOk t = true) : f_need_entry [t] = some t := by
  refine w_eq ?_
  show W _ _ _ _ (D_need_entry [some t])
  unfold D_need_entry
  simp only [w_seq, nd_zero, cons_some, Option.bind_some, entry_is h hp, hb, asB_bl, Option.map_some]
  refine w_if rfl (fun hc => by cases hc) (fun _ => ?_)
  simp only [w_nx, nd_zero, rt_some, w_rt]
theorem need_no {t : T} (h : Pd t) (hp : ∀ ts, t = .tup ts → ∀ x ∈ ts, Pd x) (hb : entOk t = false) : x_need_entry [t] = some ("BadEntry" : Str) := by
  show X_need_entry [some t] = _
  unfold X_need_entry
  simp only [seqX, nd_zero, cons_some, Option.bind_some, entry_is h hp, hb, asB_bl, Option.map_some, Bool.not_false, ifX]
theorem x_need_entry_only (ts : List T) (x : Str) (h : x_need_entry ts = some x) : x = "BadEntry" := by
  have h : X_need_entry (rho0 N_need_entry ts) = some x := h
  unfold X_need_entry seqX at h
  split at h
  · rename_i y e
    dsimp only [ifX] at e
    split at e
    · cases e; cases h; rfl
    · cases e
    · cases e
  · split at h <;> cases h
theorem refused_is {t : T} (h : x_need_entry [t] = some ("BadEntry" : Str)) : f__law_refused [t] = some (.bl true) := by
  refine w_eq ?_
  show W _ _ _ _ (D__law_refused [some t, none, none])
  unfold D__law_refused
  simp only [w_seq, tryD, nd_zero, h, List.length_cons, List.length_nil, show (2 < 0 + 1 + 1 + 1) from by decide, if_true, w_rt]
/-! ### the call of the form -/
section
variable {K : PySem.W.Frag} {mg : Str → Option Value} {base : Heap} {P : Program} {w : World} {j1 j2 j3 j4 m : Nat} {f1 f2 f3 f4 : Addr}
theorem cla_mono {sp : L2.Sp} {j k : Nat} {f : Addr} (c : ClA P w K mg base j f sp) (h : j ≤ k) : ClA P w K mg base k f sp := by
  obtain ⟨fd, ps, F, kp, b⟩ := c.ex
  exact ⟨fd, ps, F.mono h, kp, b⟩
theorem lookup4 {n1 n2 n3 n4 z : Str} {f : Addr} (h : (tab4 n1 n2 n3 n4 f1 f2 f3 f4).lookup z = some f) : (z = n1 ∧ f = f1) ∨ (z = n2 ∧ f = f2) ∨ (z = n3 ∧ f = f3) ∨ (z = n4 ∧ f = f4) := by
  unfold tab4 at h
  simp only [List.lookup] at h
  split at h
  · rename_i e; cases h; exact .inl ⟨by simpa using e, rfl⟩
  · split at h
    · rename_i e; cases h; exact .inr (.inl ⟨by simpa using e, rfl⟩)
    · split at h
      · rename_i e; cases h; exact .inr (.inr (.inl ⟨by simpa using e, rfl⟩))
      · split at h
        · rename_i e; cases h; exact .inr (.inr (.inr ⟨by simpa using e, rfl⟩))
        · cases h
theorem forms_cl (c1 : Cl P w K mg base j1 "is_tell" (spD K 1 false f_is_tell)) (c2 : Cl P w K mg base j2 "is_clear" (spD K 1 false f_is_clear)) (c3 : Cl P w K mg base j3 "is_like" (spD K 1 false f_is_like)) (c4 : Cl P w K mg base j4 "is_undo" (spD K 1 false f_is_undo))
    (g1 : mg "is_tell" = some (.ref f1)) (g2 : mg "is_clear" = some (.ref f2)) (g3 : mg "is_like" = some (.ref f3)) (g4 : mg "is_undo" = some (.ref f4)) (h1 : j1 ≤ m := by decide) (h2 : j2 ≤ m := by decide) (h3 : j3 ≤ m := by decide) (h4 : j4 ≤ m := by decide) :
    ∀ z f φ, (tab4 "tell" "clear" "like" "undo" f1 f2 f3 f4).lookup z = some f → formsF z = some φ → ClA P w K mg base m f (spD K 1 false φ) := by
  intro z f φ h e
  rcases lookup4 h with ⟨rfl, rfl⟩ | ⟨rfl, rfl⟩ | ⟨rfl, rfl⟩ | ⟨rfl, rfl⟩
  · have : formsF "tell" = some f_is_tell := rfl
    rw [this] at e; cases e; exact cla_mono (c1.at_ g1) h1
  · have : formsF "clear" = some f_is_clear := by unfold formsF; rw [if_neg (by decide +kernel), if_pos rfl]
    rw [this] at e; cases e; exact cla_mono (c2.at_ g2) h2
  · have : formsF "like" = some f_is_like := by unfold formsF; rw [if_neg (by decide +kernel), if_neg (by decide +kernel), if_pos rfl]
    rw [this] at e; cases e; exact cla_mono (c3.at_ g3) h3
  · have : formsF "undo" = some f_is_undo := by unfold formsF; rw [if_neg (by decide +kernel), if_neg (by decide +kernel), if_neg (by decide +kernel), if_pos rfl]
    rw [this] at e; cases e; exact cla_mono (c4.at_ g4) h4
end
theorem tab_some {f1 f2 f3 f4 : Addr} {z : Str} {φ : List T → Option T} (h : formsF z = some φ) : ∃ f, (tab4 "tell" "clear" "like" "undo" f1 f2 f3 f4).lookup z = some f := by
  unfold formsF at h
  unfold tab4
  split at h
  · rename_i e; subst e; exact ⟨f1, by simp [List.lookup]⟩
  · rename_i n1
    split at h
    · rename_i e; subst e; exact ⟨f2, by simp [List.lookup, beq_eq_false_iff_ne.mpr n1]⟩
    · rename_i n2
      split at h
      · rename_i e; subst e; exact ⟨f3, by simp [List.lookup, beq_eq_false_iff_ne.mpr n1, beq_eq_false_iff_ne.mpr n2]⟩
      · rename_i n3
        split at h
        · rename_i e; subst e; exact ⟨f4, by simp [List.lookup, beq_eq_false_iff_ne.mpr n1, beq_eq_false_iff_ne.mpr n2, beq_eq_false_iff_ne.mpr n3]⟩
        · cases h
theorem tab_none {f1 f2 f3 f4 : Addr} {z : Str} (h : formsF z = none) : (tab4 "tell" "clear" "like" "undo" f1 f2 f3 f4).lookup z = none := by
  obtain ⟨h1, h2, h3, h4⟩ := forms_none h
  simp [tab4, List.lookup, beq_eq_false_iff_ne.mpr h1, beq_eq_false_iff_ne.mpr h2, beq_eq_false_iff_ne.mpr h3, beq_eq_false_iff_ne.mpr h4]
theorem is_entry_ref {dF f1 f2 f3 f4 : Addr} (ts : List T) (hl : ts.length = 1) (τ : T) (h : f_is_entry ts = some τ) : fnD N_is_entry false (D_is_entry dF (tab4 "tell" "clear" "like" "undo" f1 f2 f3 f4)) ts = some τ := by
  match ts, hl with
  | [t], _ =>
    refine w_eq ?_
    show W _ _ _ _ (D_is_entry dF _ [some t, none, none])
    unfold D_is_entry
    have ty : ∀ n, tyN t = some n → n ≠ "tuple" → τ = .bl false → W (fun _ => False) (fun _ => False) (fun _ => False) (fun x => x = τ) (D_is_entry dF (tab4 "tell" "clear" "like" "undo" f1 f2 f3 f4) [some t, none, none]) := fun n e hn ht => by
      unfold D_is_entry
      have hg : gType [t] = some (.raw (.ty n)) := by show (tyN t).map _ = _; rw [e]; rfl
      have hd : decide (n = "tuple") = false := by simp [hn]
      simp only [w_seq, nd_zero, cons_some, Option.bind_some, hg, b2_some, neTy_s (tyN_tys e) (show "tuple" ∈ tys by decide), hd, asB_bl, Bool.not_false, orD]
      refine w_if rfl (fun _ => ?_) (fun h => by cases h)
      rw [rt_some, w_rt, ht]
    cases t with
    | raw v => cases h
    | non => exact ty _ rfl (by decide) (by cases h; rfl)
    | bl b => exact ty _ rfl (by decide) (by cases h; rfl)
    | int b => exact ty _ rfl (by decide) (by cases h; rfl)
    | str b => exact ty _ rfl (by decide) (by cases h; rfl)
    | scr b => exact ty _ rfl (by decide) (by cases h; rfl)
    | lst b => exact ty _ rfl (by decide) (by cases h; rfl)
    | dic b => exact ty _ rfl (by decide) (by cases h; rfl)
    | tup ts =>
      have hg : gType [.tup ts] = some (.raw (.ty "tuple")) := rfl
      simp only [w_seq, nd_zero, nd_succ, cons_some, Option.bind_some, hg, b2_some, neTy_s (show "tuple" ∈ tys by decide) (show "tuple" ∈ tys by decide), decide_true, asB_bl, Bool.not_true, orD, gLen_tup, gEqA_int]
      cases ts with
      | nil =>
        cases h
        refine w_if rfl (fun _ => ?_) (fun h => by simp at h)
        rw [rt_some, w_rt]
      | cons x r =>
        refine w_if rfl (fun h => by simp at h <;> omega) (fun _ => ?_)
        have e0 : gSubs (.tup (x :: r)) (.int 0) = some x := by
          rw [subs_tup (by omega) (by simp)]; rfl
        rw [w_nx]
        simp only [nd_zero, e0, b2_some, set_im, w_nx, List.set_cons_succ, List.set_cons_zero]
        simp only [nd_succ, nd_zero, cons_some, Option.bind_some]
        have tyx : ∀ n, tyN x = some n → n ≠ "str" → τ = .bl false → W (fun ρ' => W (fun ρ' => W (fun _ => False) (fun _ => False) (fun _ => False) (fun x => x = τ) (rtD (fitD (tab4 "tell" "clear" "like" "undo" f1 f2 f3 f4) formsF (nd 1 ρ') (nd 2 ρ') (consD (nd 0 ρ') (some []))))) (fun _ => False) (fun _ => False) (fun x => x = τ) (setD true 2 (b2 (gItemK dF (tab4 "tell" "clear" "like" "undo" f1 f2 f3 f4)) (some (.raw (.ref dF))) (nd 1 ρ')) ρ')) (fun _ => False) (fun _ => False) (fun x => x = τ)
            (ifD (orD (asB (b2 (gEqB true) (gType [x]) (some (.raw (.ty "str"))))) (asB (b2 (gNotInK dF (tab4 "tell" "clear" "like" "undo" f1 f2 f3 f4)) (some x) (some (.raw (.ref dF)))))) (fun ρ => rtD (some (.bl false))) (fun ρ => .nx ρ) [some (.tup (x :: r)), some x, none]) := fun n e hn ht => by
          have hg : gType [x] = some (.raw (.ty n)) := by show (tyN x).map _ = _; rw [e]; rfl
          have hd : decide (n = "str") = false := by simp [hn]
          simp only [hg, b2_some, neTy_s (tyN_tys e) (show "str" ∈ tys by decide), hd, asB_bl, Bool.not_false, orD]
          refine w_if rfl (fun _ => ?_) (fun h => by cases h)
          rw [rt_some, w_rt, ht]
        cases x with
        | raw v => cases h
        | non => exact tyx _ rfl (by decide) (by cases h; rfl)
        | bl b => exact tyx _ rfl (by decide) (by cases h; rfl)
        | int b => exact tyx _ rfl (by decide) (by cases h; rfl)
        | scr b => exact tyx _ rfl (by decide) (by cases h; rfl)
        | lst b => exact tyx _ rfl (by decide) (by cases h; rfl)
        | tup b => exact tyx _ rfl (by decide) (by cases h; rfl)
        | dic b => exact tyx _ rfl (by decide) (by cases h; rfl)
        | str z =>
          have hg : gType [.str z] = some (.raw (.ty "str")) := rfl
          simp only [hg, b2_some, neTy_s (show "str" ∈ tys by decide) (show "str" ∈ tys by decide), decide_true, asB_bl, Bool.not_true, orD, gNotInK, if_true]
          have h : (match formsF z with | some φ => φ [.tup (.str z :: r)] | none => some (.bl false)) = some τ := h
          cases e : formsF z with
          | none =>
            rw [e] at h
            cases h
            rw [tab_none e]
            refine w_if rfl (fun _ => ?_) (fun h => by cases h)
            rw [rt_some, w_rt]
          | some φ =>
            rw [e] at h
            obtain ⟨f, hf⟩ := tab_some (f1 := f1) (f2 := f2) (f3 := f3) (f4 := f4) e
            rw [hf]
            refine w_if rfl (fun h => by cases h) (fun _ => ?_)
            simp only [w_nx, nd_zero, nd_succ, b2_some, gItemK, if_true, hf, Option.map_some, set_im, List.set_cons_succ, List.set_cons_zero, fitD, e, Option.bind_some, cons_some, h, rt_some, w_rt]
end Q
namespace Q
open PySem PySem.Spec L2 DL

/-! ### the law's own looks -/
theorem isi_ex {t : T} {n m : String} {b : Bool} (e : tyN t = some n) (k : kitB n m = some b) : gIsi [t, .raw (.ty m)] = some (.bl b) := by
  show (tyN t).bind _ = _
  rw [e]
  show (kitB n m).map T.bl = _
  rw [k]; rfl
def isS : T → Bool
  | .str _ => true
  | _ => false
def isBl : T → Bool
  | .bl _ => true
  | _ => false
def isIB : T → Bool
  | .int _ => true
  | .bl _ => true
  | _ => false
def isTup : T → Bool
  | .tup _ => true
  | _ => false
theorem isi_str {t : T} (h : isD t = true) : gIsi [t, .raw (.ty "str")] = some (.bl (isS t)) := by
  cases t <;> first | (simp [isD] at h; done) | exact isi_ex (b := true) rfl (by decide +kernel) | exact isi_ex (b := false) rfl (by decide +kernel)
theorem isi_bool {t : T} (h : isD t = true) : gIsi [t, .raw (.ty "bool")] = some (.bl (isBl t)) := by
  cases t <;> first | (simp [isD] at h; done) | exact isi_ex (b := true) rfl (by decide +kernel) | exact isi_ex (b := false) rfl (by decide +kernel)
theorem isi_int {t : T} (h : isD t = true) : gIsi [t, .raw (.ty "int")] = some (.bl (isIB t)) := by
  cases t <;> first | (simp [isD] at h; done) | exact isi_ex (b := true) rfl (by decide +kernel) | exact isi_ex (b := false) rfl (by decide +kernel)
theorem isi_tup {t : T} (h : isD t = true) : gIsi [t, .raw (.ty "tuple")] = some (.bl (isTup t)) := by
  cases t <;> first | (simp [isD] at h; done) | exact isi_ex (b := true) rfl (by decide +kernel) | exact isi_ex (b := false) rfl (by decide +kernel)
theorem lwhole_is {t : T} {a b : Int} (h : isD t = true) : f__law_is_whole [t, .int a, .int b] = some (.bl (wholeB a b t)) := by
  refine w_eq ?_
  show W _ _ _ _ (D__law_is_whole [some t, some (.int a), some (.int b)])
  unfold D__law_is_whole
  simp only [nd_zero, nd_succ, cons_some, Option.bind_some, isi_int h, isi_bool h]
  cases t with
  | int i => simp [andV, notV, wholeB, isIB, isBl]
  | bl i => simp [andV, notV, wholeB, isIB, isBl]
  | _ => simp [andV, notV, wholeB, isIB, isBl]
abbrev abcz : Str := "abcdefghijklmnopqrstuvwxyz"
theorem abcz_list : abcz.cps.toList = [97,98,99,100,101,102,103,104,105,106,107,108,109,110,111,112,113,114,115,116,117,118,119,120,121,122] := by decide +kernel
theorem in_abcz (c : Nat) : gInA false (.str ⟨#[c]⟩) (.str abcz) = some (.bl (decide (97 ≤ c) && decide (c ≤ 122))) := by
  show gIn false (.str ⟨#[c]⟩) (.str abcz) = _
  unfold gIn
  show some (T.bl (xor false (decide (c ∈ abcz.cps.toList)))) = _
  rw [abcz_list]
  congr 2
  rw [Bool.false_xor]
  by_cases h : 97 ≤ c ∧ c ≤ 122
  · have hm : c ∈ [97,98,99,100,101,102,103,104,105,106,107,108,109,110,111,112,113,114,115,116,117,118,119,120,121,122] := by
      simp only [List.mem_cons, List.not_mem_nil, or_false]; omega
    simp only [hm, h.1, h.2, decide_true, Bool.and_true]
  · have hm : ¬ c ∈ [97,98,99,100,101,102,103,104,105,106,107,108,109,110,111,112,113,114,115,116,117,118,119,120,121,122] := by
      simp only [List.mem_cons, List.not_mem_nil, or_false]; omega
    simp only [hm, decide_false]
    symm
    simp only [Bool.and_eq_false_iff, decide_eq_false_iff_not]; omega
theorem lname_is {t : T} (h : isD t = true) (hs : ∀ x, t = .str x → x.length ≤ 1000) : f__law_is_name [t] = some (.bl (nameB t)) := by
  refine w_eq ?_
  show W _ _ _ _ (D__law_is_name [some t, none])
  unfold D__law_is_name
  simp only [w_seq, nd_zero, cons_some, Option.bind_some, isi_str h, asB_bl]
  cases t with
  | str x =>
    have hx : x.length ≤ sizeLine := by have := hs x rfl; simp [szl]; omega
    have hl : gLen [.str x] = some (.int x.length) := by simp [gLen, hx]
    simp only [isS, hl, ch_s2, asB_bl, Option.map_some, orD, Bool.not_true]
    refine w_if rfl (fun hc => ?_) (fun hc => ?_)
    · rw [rt_some, w_rt]
      have : nameB (.str x) = false := by
        simp only [Bool.not_eq_true', Bool.and_eq_false_iff, decide_eq_false_iff_not] at hc
        simp only [nameB, Bool.and_eq_false_iff, decide_eq_false_iff_not]
        omega
      rw [this]
    · rw [w_nx]
      have e2 := lc_all (bd := bdN 1) (e := fun ρ => b2 (gInA false) (nd 1 ρ) (some (.str abcz))) (ρ := [some (.str x), none]) (vs := [1]) (o := itD true (some (.str x))) x.cps.toList (fun c => T.str ⟨#[c]⟩) (fun c => T.bl (decide (97 ≤ c) && decide (c ≤ 122))) rfl (by simpa [PySem.Str.length] using hx) (fun c _ => ⟨_, rfl, by
        simp only [wipeD, List.set_cons_succ, List.set_cons_zero, nd_succ, nd_zero, b2_some]
        exact in_abcz c⟩) (fun _ _ => imm_bl)
      rw [nd_zero, e2]
      simp only [cons_some, Option.bind_some, all_bls, rt_some, w_rt]
      have h1 : decide (1 ≤ x.length) = true ∧ decide (x.length ≤ 8) = true := by
        simp only [Bool.not_eq_false', Bool.and_eq_true, decide_eq_true_eq] at hc ⊢
        omega
      simp only [nameB, h1.1, h1.2, Bool.true_and]
  | _ => simp [orD, nameB, isS]
abbrev w4 : List T := [.str "tell", .str "clear", .str "like", .str "undo"]
theorem w4_ok : dOk (.tup w4) = true := by decide +kernel
def wordB : T → Bool
  | .str z => decide (z = "tell") || decide (z = "clear") || decide (z = "like") || decide (z = "undo")
  | _ => false
theorem in_w4 {x : T} (h : dOk x = true) : gInC true x (.tup w4) = some (.bl (!wordB x)) := by
  have hflat : ∀ y : T, flatT y = true → gInC true y (.tup w4) = some (.bl (!inV (vOf y) (w4.map vOf))) := fun y hy => by
    unfold gInC
    have : gInA true y (.tup w4) = some (.bl (!inV (vOf y) (w4.map vOf))) := by
      show gIn true y (.tup w4) = _
      unfold gIn
      simp only [seqT]
      rw [if_pos ⟨hy, by decide⟩]; simp
    rw [this]
  have hdata : flatT x = false → gInC true x (.tup w4) = some (.bl (!(w4.any fun z => eqT z x))) := fun hx => by
    unfold gInC
    have : gInA true x (.tup w4) = none := by
      show gIn true x (.tup w4) = _
      unfold gIn
      simp only [seqT]
      rw [if_neg (by simp [hx])]
    rw [this]
    simp only [h, w4_ok, Bool.and_self, if_true, Bool.true_xor]
  cases x with
  | non => rw [hflat _ rfl]; rfl
  | bl b => rw [hflat _ rfl]; cases b <;> rfl
  | int b => rw [hflat _ rfl]; simp [inV, vOf, L2.eqV, wordB]
  | str z =>
    rw [hflat _ rfl]
    congr 2
    have hs : ∀ a b : Str, (a == b) = decide (b = a) := fun a b => by
      by_cases h : a = b
      · subst h; simp
      · simp [h, Ne.symm h]
    simp only [inV, vOf, w4, List.map_cons, List.map_nil, List.any_cons, List.any_nil, L2.eqV, hs, wordB, Bool.or_false, Bool.or_assoc]
  | raw v => simp [dOk, isD] at h
  | scr v => simp [dOk, isD] at h
  | dic v => simp [dOk, isD] at h
  | lst ts => rw [hdata rfl]; simp [eqT, toD, PyData.eqv, wordB]
  | tup ts => rw [hdata rfl]; simp [eqT, toD, PyData.eqv, wordB]

theorem eqs {a b : Str} {neg : Bool} (ha : PyData.strOk a = true := by decide +kernel) (hb : PyData.strOk b = true := by decide +kernel) : gEqA neg (.str a) (.str b) = some (.bl (xor neg (decide (a = b)))) := gEqA_str ha hb
theorem word_cases {z : Str} (h : wordB (.str z) = true) : z = "tell" ∨ z = "clear" ∨ z = "like" ∨ z = "undo" := by
  simpa [wordB, or_assoc] using h
theorem ent_word {z : Str} {r : List T} (h : wordB (.str z) = false) : entOk (.tup (.str z :: r)) = false := by
  simp only [wordB, Bool.or_eq_false_iff, decide_eq_false_iff_not] at h
  simp [entOk, h.1.1.1, h.1.1.2, h.1.2, h.2]
theorem n_tc : ¬ ("tell" : Str) = "clear" := by decide +kernel
theorem n_tl : ¬ ("tell" : Str) = "like" := by decide +kernel
theorem n_tu : ¬ ("tell" : Str) = "undo" := by decide +kernel
theorem n_ct : ¬ ("clear" : Str) = "tell" := by decide +kernel
theorem n_cl : ¬ ("clear" : Str) = "like" := by decide +kernel
theorem n_cu : ¬ ("clear" : Str) = "undo" := by decide +kernel
theorem n_lt : ¬ ("like" : Str) = "tell" := by decide +kernel
theorem n_lc : ¬ ("like" : Str) = "clear" := by decide +kernel
theorem n_lu : ¬ ("like" : Str) = "undo" := by decide +kernel
theorem n_ut : ¬ ("undo" : Str) = "tell" := by decide +kernel
theorem n_uc : ¬ ("undo" : Str) = "clear" := by decide +kernel
theorem n_ul : ¬ ("undo" : Str) = "like" := by decide +kernel
theorem pow30 : gPow (.int 10) (.int 30) = some (.int 1000000000000000000000000000000) := by
  show (if cPow 10 30 = true then some (T.int (10 ^ (30 : Int).toNat)) else none) = _
  rw [if_pos (by decide)]; rfl
theorem days_le {b c : T} : (wholeB 0 1000000 b && (match b with | .int lo => wholeB lo 1000000 c | _ => false)) = daysB b c := by
  cases b with
  | int i =>
    cases c with
    | int j =>
      simp only [daysB, wholeB, leB]
      by_cases h1 : 0 ≤ i <;> by_cases h2 : i ≤ 1000000 <;> by_cases h3 : i ≤ j <;> by_cases h4 : j ≤ 1000000 <;> simp [h1, h2, h3, h4]
      omega
    | _ => simp [daysB, wholeB]
  | _ => simp [daysB, wholeB]
abbrev sT : Str := "tell"
abbrev sC : Str := "clear"
abbrev sL : Str := "like"
abbrev sU : Str := "undo"
theorem q_tu : gEqA false (.str sT) (.str sU) = some (.bl false) := by rw [eqs, decide_eq_false n_tu]; rfl
theorem q_tc : gEqA false (.str sT) (.str sC) = some (.bl false) := by rw [eqs, decide_eq_false n_tc]; rfl
theorem q_tt : gEqA false (.str sT) (.str sT) = some (.bl true) := by rw [eqs, decide_eq_true rfl]; rfl
theorem q_cu : gEqA false (.str sC) (.str sU) = some (.bl false) := by rw [eqs, decide_eq_false n_cu]; rfl
theorem q_cc : gEqA false (.str sC) (.str sC) = some (.bl true) := by rw [eqs, decide_eq_true rfl]; rfl
theorem q_ct : gEqA false (.str sC) (.str sT) = some (.bl false) := by rw [eqs, decide_eq_false n_ct]; rfl
theorem q_lu : gEqA false (.str sL) (.str sU) = some (.bl false) := by rw [eqs, decide_eq_false n_lu]; rfl
theorem q_lc : gEqA false (.str sL) (.str sC) = some (.bl false) := by rw [eqs, decide_eq_false n_lc]; rfl
theorem q_lt : gEqA false (.str sL) (.str sT) = some (.bl false) := by rw [eqs, decide_eq_false n_lt]; rfl
theorem q_uu : gEqA false (.str sU) (.str sU) = some (.bl true) := by rw [eqs, decide_eq_true rfl]; rfl
theorem days_test {b c : T} (hb : Part b) (hc : Part c) : orD ((asB (f__law_is_whole [b, .int 0, .int 1000000])).map (!·)) ((asB (f__law_is_whole [c, b, .int 1000000])).map (!·)) = some (!daysB b c) := by
  rw [lwhole_is hb.isD, ← days_le]
  cases h : wholeB 0 1000000 b with
  | false => rfl
  | true =>
    cases b with
    | int lo =>
      rw [lwhole_is hc.isD]
      rfl
    | _ => simp [wholeB] at h
theorem isDs_of {l : List T} (h : ∀ x ∈ l, Part x) : isDs l = true := by
  induction l with
  | nil => rfl
  | cons x r ih => simp [isDs, (h x (by simp)).isD, ih fun y hy => h y (by simp [hy])]
theorem ent_is {ts : List T} (hts : ∀ x ∈ ts, Part x) : f__law_is_entry [.tup ts] = some (.bl (entOk (.tup ts))) := by
  have hD : isD (.tup ts) = true := by simpa [isD] using isDs_of hts
  refine w_eq ?_
  show W _ _ _ _ (D__law_is_entry [some (.tup ts)])
  unfold D__law_is_entry
  simp only [w_seq, nd_zero, cons_some, Option.bind_some, isi_tup hD, isTup, asB_bl, Option.map_some, Bool.not_true, gLen_tup, b2_some, gLt_int, tup_n4]
  by_cases hl : ts.length < 2
  · have e1 : decide ((ts.length : Int) < 2) = true := by simp; omega
    simp only [e1, orD]
    refine w_if rfl (fun _ => ?_) (fun h => by cases h)
    rw [rt_some, w_rt]
    match ts, hl with
    | [], _ => rfl
    | [x], _ => cases x <;> simp [entOk, tellB, clearB, likeB, undoB]
  · have e1 : decide ((ts.length : Int) < 2) = false := by simp; omega
    simp only [e1]
    match ts, hl with
    | x :: a :: r, _ =>
      have hx := hts x (by simp)
      have e0 : gSubs (.tup (x :: a :: r)) (.int 0) = some x := by rw [subs_tup (by omega) (by simp; omega)]; rfl
      have e2 : gSubs (.tup (x :: a :: r)) (.int 1) = some a := by rw [subs_tup (by omega) (by simp; omega)]; rfl
      simp only [e0, b2_some, in_w4 hx.dOk, asB_bl]
      cases hw : wordB x with
      | false =>
        refine w_if rfl (fun _ => ?_) (fun h => by cases h)
        rw [rt_some, w_rt]
        cases x with
        | str z => rw [ent_word hw]
        | _ => rfl
      | true =>
        refine w_if rfl (fun h => by cases h) (fun _ => ?_)
        rw [w_nx]
        cases x with
        | str z =>
          have ha := hts a (by simp)
          have h5 : ∀ n : Nat, decide (((T.str z :: a :: r : List T).length : Int) = (n : Int)) = decide (r.length + 2 = n) := fun n => by
            have : (((T.str z :: a :: r : List T).length : Nat) : Int) = ((r.length + 2 : Nat) : Int) := by simp; omega
            rw [this, nat_eq]
          rcases word_cases hw with rfl | rfl | rfl | rfl
          · -- tell
            simp only [w_seq, nd_zero, e0, b2_some, q_tu, asB_bl]
            refine w_if rfl (fun h => by cases h) (fun _ => ?_)
            simp only [w_nx, nd_zero, e0, e2, b2_some, q_tc, cons_some, Option.bind_some, gLen_tup, gInt_bl, gI_int, gEqA_int, asB_bl, lname_is ha.isD ha.str, Option.map_some]
            have h5' : decide (((T.str sT :: a :: r : List T).length : Int) = 5 - 0) = decide (r.length + 2 = 5) := h5 5
            simp only [Bool.false_eq_true, if_false, h5', Bool.true_xor]
            by_cases q : r.length + 2 = 5
            · obtain ⟨b, c, d, rfl⟩ : ∃ b c d, r = [b, c, d] := by
                match r, q with
                | [b, c, d], _ => exact ⟨b, c, d, rfl⟩
              have hb := hts b (by simp); have hc := hts c (by simp); have hd := hts d (by simp)
              simp only [decide_eq_true q, Bool.not_true, orD]
              cases hn : nameB a with
              | false =>
                refine w_if rfl (fun _ => ?_) (fun h => by cases h)
                rw [rt_some, w_rt]
                simp [entOk, tellB, hn, n_tc, n_tl, n_tu]
              | true =>
                refine w_if rfl (fun h => by cases h) (fun _ => ?_)
                have g2 : gSubs (.tup [.str sT, a, b, c, d]) (.int 2) = some b := rfl
                have g3 : gSubs (.tup [.str sT, a, b, c, d]) (.int 3) = some c := rfl
                have g4 : gSubs (.tup [.str sT, a, b, c, d]) (.int 4) = some d := rfl
                simp only [w_nx, nd_zero, g2, g3, b2_some, cons_some, Option.bind_some]
                have dt := days_test hb hc
                unfold orD at dt
                refine w_if dt (fun h => ?_) (fun h => ?_)
                · rw [rt_some, w_rt]
                  simp only [Bool.not_eq_true'] at h
                  simp [entOk, tellB, hn, h, n_tc, n_tl, n_tu]
                · simp only [Bool.not_eq_false'] at h
                  simp only [w_nx, nd_zero, e0, b2_some, q_tt, asB_bl]
                  refine w_if rfl (fun _ => ?_) (fun h => by cases h)
                  simp only [nd_zero, g4, b2_some, un1_int, cons_some, Option.bind_some, lwhole_is hd.isD, rt_some, w_rt]
                  simp [entOk, tellB, hn, h, n_tc, n_tl, n_tu]
            · simp only [decide_eq_false q, Bool.not_false, orD]
              refine w_if rfl (fun _ => ?_) (fun h => by cases h)
              rw [rt_some, w_rt]
              have : tellB (.str sT :: a :: r) = false := by
                unfold tellB
                split
                · rename_i e; cases e; exact absurd rfl q
                · rfl
              simp [entOk, this, n_tc, n_tl, n_tu]
          · -- clear
            simp only [w_seq, nd_zero, e0, b2_some, q_cu, asB_bl]
            refine w_if rfl (fun h => by cases h) (fun _ => ?_)
            simp only [w_nx, nd_zero, e0, e2, b2_some, q_cc, cons_some, Option.bind_some, gLen_tup, gInt_bl, gI_int, gEqA_int, asB_bl, lname_is ha.isD ha.str, Option.map_some]
            have h5' : decide (((T.str sC :: a :: r : List T).length : Int) = 5 - 1) = decide (r.length + 2 = 4) := h5 4
            simp only [if_true, h5', Bool.true_xor]
            by_cases q : r.length + 2 = 4
            · obtain ⟨b, c, rfl⟩ : ∃ b c, r = [b, c] := by
                match r, q with
                | [b, c], _ => exact ⟨b, c, rfl⟩
              have hb := hts b (by simp); have hc := hts c (by simp)
              simp only [decide_eq_true q, Bool.not_true, orD]
              cases hn : nameB a with
              | false =>
                refine w_if rfl (fun _ => ?_) (fun h => by cases h)
                rw [rt_some, w_rt]
                simp [entOk, clearB, hn, n_ct, n_cl, n_cu]
              | true =>
                refine w_if rfl (fun h => by cases h) (fun _ => ?_)
                have g2 : gSubs (.tup [.str sC, a, b, c]) (.int 2) = some b := rfl
                have g3 : gSubs (.tup [.str sC, a, b, c]) (.int 3) = some c := rfl
                simp only [w_nx, nd_zero, g2, g3, b2_some, cons_some, Option.bind_some]
                have dt := days_test hb hc
                unfold orD at dt
                refine w_if dt (fun h => ?_) (fun h => ?_)
                · rw [rt_some, w_rt]
                  simp only [Bool.not_eq_true'] at h
                  simp [entOk, clearB, hn, h, n_ct, n_cl, n_cu]
                · simp only [Bool.not_eq_false'] at h
                  simp only [w_nx, nd_zero, e0, b2_some, q_ct, q_cc, asB_bl]
                  refine w_if rfl (fun h => by cases h) (fun _ => ?_)
                  simp only [w_nx, nd_zero, e0, b2_some, q_cc, orV_t, rt_some, w_rt]
                  simp [entOk, clearB, hn, h, n_ct, n_cl, n_cu]
            · simp only [decide_eq_false q, Bool.not_false, orD]
              refine w_if rfl (fun _ => ?_) (fun h => by cases h)
              rw [rt_some, w_rt]
              have : clearB (.str sC :: a :: r) = false := by
                unfold clearB
                split
                · rename_i e; cases e; exact absurd rfl q
                · rfl
              simp [entOk, this, n_ct, n_cl, n_cu]
          · -- like
            simp only [w_seq, nd_zero, e0, b2_some, q_lu, asB_bl]
            refine w_if rfl (fun h => by cases h) (fun _ => ?_)
            simp only [w_nx, nd_zero, e0, e2, b2_some, q_lc, cons_some, Option.bind_some, gLen_tup, gInt_bl, gI_int, gEqA_int, asB_bl, lname_is ha.isD ha.str, Option.map_some]
            have h5' : decide (((T.str sL :: a :: r : List T).length : Int) = 5 - 0) = decide (r.length + 2 = 5) := h5 5
            simp only [Bool.false_eq_true, if_false, h5', Bool.true_xor]
            by_cases q : r.length + 2 = 5
            · obtain ⟨b, c, d, rfl⟩ : ∃ b c d, r = [b, c, d] := by
                match r, q with
                | [b, c, d], _ => exact ⟨b, c, d, rfl⟩
              have hb := hts b (by simp); have hc := hts c (by simp); have hd := hts d (by simp)
              simp only [decide_eq_true q, Bool.not_true, orD]
              cases hn : nameB a with
              | false =>
                refine w_if rfl (fun _ => ?_) (fun h => by cases h)
                rw [rt_some, w_rt]
                simp [entOk, likeB, hn, n_lc, n_lt, n_lu]
              | true =>
                refine w_if rfl (fun h => by cases h) (fun _ => ?_)
                have g2 : gSubs (.tup [.str sL, a, b, c, d]) (.int 2) = some b := rfl
                have g3 : gSubs (.tup [.str sL, a, b, c, d]) (.int 3) = some c := rfl
                have g4 : gSubs (.tup [.str sL, a, b, c, d]) (.int 4) = some d := rfl
                simp only [w_nx, nd_zero, g2, g3, b2_some, cons_some, Option.bind_some]
                have dt := days_test hb hc
                unfold orD at dt
                refine w_if dt (fun h => ?_) (fun h => ?_)
                · rw [rt_some, w_rt]
                  simp only [Bool.not_eq_true'] at h
                  simp [entOk, likeB, hn, h, n_lc, n_lt, n_lu]
                · simp only [Bool.not_eq_false'] at h
                  simp only [w_nx, nd_zero, e0, b2_some, q_lt, asB_bl]
                  refine w_if rfl (fun h => by cases h) (fun _ => ?_)
                  simp only [w_nx, nd_zero, e0, g4, b2_some, q_lc, cons_some, Option.bind_some, lname_is hd.isD hd.str, orV_f, rt_some, w_rt]
                  simp [entOk, likeB, hn, h, n_lc, n_lt, n_lu]
            · simp only [decide_eq_false q, Bool.not_false, orD]
              refine w_if rfl (fun _ => ?_) (fun h => by cases h)
              rw [rt_some, w_rt]
              have : likeB (.str sL :: a :: r) = false := by
                unfold likeB
                split
                · rename_i e; cases e; exact absurd rfl q
                · rfl
              simp [entOk, this, n_lc, n_lt, n_lu]
          · -- undo
            simp only [w_seq, nd_zero, e0, b2_some, q_uu, asB_bl]
            refine w_if rfl (fun _ => ?_) (fun h => by cases h)
            have h5' : decide (((T.str sU :: a :: r : List T).length : Int) = 2) = decide (r.length + 2 = 2) := h5 2
            simp only [nd_zero, e2, b2_some, cons_some, Option.bind_some, gLen_tup, gEqA_int, h5', Bool.false_xor, pow30, lwhole_is ha.isD, andV_bl, rt_some, w_rt]
            congr 1
            by_cases q : r = []
            · subst q
              have hnum : wholeB 1 1000000000000000000000000000000 a = numB a := by
                cases a with
                | int i => have := ha.big i rfl; simp [wholeB, numB, this]
                | _ => rfl
              simp [entOk, undoB, hnum, n_ut, n_uc, n_ul]
            · have hr : ¬ r.length + 2 = 2 := by
                intro h; apply q; exact List.eq_nil_of_length_eq_zero (by omega)
              have : undoB (.str sU :: a :: r) = false := by
                unfold undoB
                split
                · rename_i e; cases e; exact absurd rfl q
                · rfl
              simp [entOk, this, decide_eq_false hr, n_ut, n_uc, n_ul]
              exact fun e => absurd e q
        | _ => cases hw
theorem ent_no {t : T} (h : isD t = true) (hn : isTup t = false) : f__law_is_entry [t] = some (.bl (entOk t)) := by
  refine w_eq ?_
  show W _ _ _ _ (D__law_is_entry [some t])
  unfold D__law_is_entry
  simp only [w_seq, nd_zero, cons_some, Option.bind_some, isi_tup h, hn, asB_bl, Option.map_some, Bool.not_false, orD]
  refine w_if rfl (fun _ => ?_) (fun h => by cases h)
  rw [rt_some, w_rt]
  cases t <;> first | rfl | cases hn
end Q
namespace Q
open PySem PySem.Spec L2 DL

/-! ### what the law makes -/
def EntT (t : T) : Prop := (∃ us, t = .tup us ∧ us.length ≤ 1000 ∧ ∀ x ∈ us, Part x) ∨ (∃ us, t = .lst us ∧ us.length ≤ 1000 ∧ ∀ x ∈ us, Part x) ∨ (Part t ∧ isTup t = false)
theorem part_int {i : Int} (h : i ≤ 1000000000000000000000000000000) : Part (.int i) := ⟨by simp, fun x e => (by cases e), fun j e => by cases e; exact h⟩
theorem part_str {x : Str} (h : PyData.strOk x = true) (hl : x.length ≤ 1000) : Part (.str x) := ⟨by simp [h], fun y e => by cases e; exact hl, fun j e => by cases e⟩
theorem part_name {x : Str} (h : Name x) : Part (.str x) := part_str h.ok (by obtain ⟨n, _, h2, hl⟩ := h; rw [hl.len]; omega)
theorem part_non : Part .non := ⟨by simp, fun x e => (by cases e), fun j e => by cases e⟩
theorem part_bl {b : Bool} : Part (.bl b) := ⟨by simp, fun x e => (by cases e), fun j e => by cases e⟩
theorem pow12 : gPow (.int 10) (.int 12) = some (.int 1000000000000) := by
  show (if cPow 10 12 = true then some (T.int (10 ^ (12 : Int).toNat)) else none) = _
  rw [if_pos (by decide)]; rfl
theorem good_ex (ns : List Int) (h : ns.length ≤ 63) : ∃ t, f__law_good [.scr (ns.map T.int)] = some t ∧ ∃ us, t = .tup us ∧ 2 ≤ us.length ∧ us.length ≤ 5 ∧ ∀ x ∈ us, Part x := by
  refine w_fn ?_
  show W _ _ _ _ (D__law_good [some (.scr (ns.map T.int)), none, none, none, none, none, none])
  unfold D__law_good
  have e0 : f__law_of [.scr (ns.map T.int), .int 0] = some (.int (ns.getD 0 0)) := of_eq ns 0 (by omega) h
  have e1 : f__law_of [.scr (ns.map T.int), .int 1] = some (.int (ns.getD 1 0)) := of_eq ns 1 (by omega) h
  obtain ⟨_, en, a, b, d, rfl, ha, hb, hd⟩ := names_ex (ns.getD 1 0)
  generalize ns.getD 0 0 = n at e0
  simp only [w_seq, nd_zero, nd_succ, cons_some, Option.bind_some, e0, e1, en, set_im, w_nx, List.set_cons_succ, List.set_cons_zero, b2_some, div_s (show (0 : Int) < 4 ∧ (4 : Int) < 1073741824 by decide), mod_s (show (0 : Int) < 1000001 by decide), mod_s (show (0 : Int) < 5 by decide)]
  -- low
  refine w_setE (P := fun t => ∃ v, t = .int v ∧ v ≤ 1000000) ?_ ?_
  · rw [lst_some (by simp [szl])]
    obtain ⟨v, hv, e⟩ := subs_ints [0, 5, 1000000, 999999, n % 1000001] (i := n / 4 % 5) (Int.emod_nonneg _ (by decide)) (Int.emod_lt_of_pos _ (by decide))
    simp only [List.map_cons, List.map_nil] at e
    simp only [b2_some, e]
    refine ⟨_, rfl, v, rfl, ?_⟩
    simp only [List.mem_cons, List.not_mem_nil, or_false] at hv
    omega
  rintro _ ⟨lo, rfl, hlo⟩
  refine ⟨rfl, ?_⟩
  simp only [List.set_cons_succ, List.set_cons_zero]
  refine w_setE (P := fun t => ∃ v, t = .int v ∧ v ≤ 1000000) ?_ ?_
  · simp only [nd_zero, nd_succ, b2_some, div_s (show (0 : Int) < 20 ∧ (20 : Int) < 1073741824 by decide), mod_s (show (0 : Int) < 3 by decide), gAdd_int, cons_some, Option.bind_some, gMin_int]
    exact ⟨_, rfl, _, rfl, by omega⟩
  rintro _ ⟨hi, rfl, hhi⟩
  refine ⟨rfl, ?_⟩
  simp only [List.set_cons_succ, List.set_cons_zero]
  refine w_setE (P := fun t => ∃ v, t = .int v ∧ v ≤ 1000000000) ?_ ?_
  · simp only [nd_zero, nd_succ, b2_some, un1_int, div_s (show (0 : Int) < 60 ∧ (60 : Int) < 1073741824 by decide), mod_s (show (0 : Int) < 4 by decide), mod_s (show (0 : Int) < 2000000001 by decide), gI_int, cons_some, lst_n4]
    obtain ⟨v, hv, e⟩ := subs_ints [0, -1000000000, 1000000000, n % 2000000001 - 1000000000] (i := n / 60 % 4) (Int.emod_nonneg _ (by decide)) (Int.emod_lt_of_pos _ (by decide))
    simp only [List.map_cons, List.map_nil] at e
    simp only [e]
    refine ⟨_, rfl, v, rfl, ?_⟩
    simp only [List.mem_cons, List.not_mem_nil, or_false] at hv
    omega
  rintro _ ⟨wo, rfl, hwo⟩
  refine ⟨rfl, ?_⟩
  have g0 : gSubs (.lst ([a, b, d].map T.str)) (.int 0) = some (.str a) := rfl
  have g1 : gSubs (.lst ([a, b, d].map T.str)) (.int 1) = some (.str b) := rfl
  simp only [List.set_cons_succ, List.set_cons_zero, nd_zero, nd_succ, g0, g1, b2_some, cons_some, tup_n5, tup_n4, lst_n2, set_im, w_nx, div_s (show (0 : Int) < 240 ∧ (240 : Int) < 1073741824 by decide), pow12, mod_s (show (0 : Int) < 1000000000000 by decide), gAdd_int, tup_n2]
  rw [gAdd_lst (by simp [szl])]
  simp only [set_im, w_nx, List.set_cons_succ, List.set_cons_zero, nd_zero, nd_succ, b2_some, mod_s (show (0 : Int) < 4 by decide), List.cons_append, List.nil_append]
  have hm0 := Int.emod_nonneg n (b := 4) (by decide)
  have hm1 := Int.emod_lt_of_pos n (b := 4) (by decide)
  have pT : Part (.str "tell") := part_str (by decide +kernel) (by decide +kernel)
  have pC : Part (.str "clear") := part_str (by decide +kernel) (by decide +kernel)
  have pL : Part (.str "like") := part_str (by decide +kernel) (by decide +kernel)
  have pU : Part (.str "undo") := part_str (by decide +kernel) (by decide +kernel)
  have pu : Part (.int (1 + n / 240 % 1000000000000)) := part_int (by have := Int.emod_lt_of_pos (n / 240) (b := 1000000000000) (by decide); omega)
  generalize n % 4 = m at hm0 hm1
  have hm : m = 0 ∨ m = 1 ∨ m = 2 ∨ m = 3 := by omega
  rcases hm with rfl | rfl | rfl | rfl
  · refine w_rtE ⟨_, rfl, _, rfl, by simp, by simp, fun x hx => ?_⟩
    simp only [List.mem_cons, List.not_mem_nil, or_false] at hx
    rcases hx with rfl | rfl | rfl | rfl | rfl
    · exact pT
    · exact part_name ha
    · exact part_int (by omega)
    · exact part_int (by omega)
    · exact part_int (by omega)
  · refine w_rtE ⟨_, rfl, _, rfl, by simp, by simp, fun x hx => ?_⟩
    simp only [List.mem_cons, List.not_mem_nil, or_false] at hx
    rcases hx with rfl | rfl | rfl | rfl
    · exact pC
    · exact part_name hb
    · exact part_int (by omega)
    · exact part_int (by omega)
  · refine w_rtE ⟨_, rfl, _, rfl, by simp, by simp, fun x hx => ?_⟩
    simp only [List.mem_cons, List.not_mem_nil, or_false] at hx
    rcases hx with rfl | rfl | rfl | rfl | rfl
    · exact pL
    · exact part_name ha
    · exact part_int (by omega)
    · exact part_int (by omega)
    · exact part_name hb
  · refine w_rtE ⟨_, rfl, _, rfl, by simp, by simp, fun x hx => ?_⟩
    simp only [List.mem_cons, List.not_mem_nil, or_false] at hx
    rcases hx with rfl | rfl
    · exact pU
    · exact pu
theorem subs_mem {ts : List T} {i : Int} (h0 : 0 ≤ i) (h : i < ts.length) : ∃ t, gSubs (.lst ts) (.int i) = some t ∧ t ∈ ts := by
  have : i.toNat < ts.length := by omega
  refine ⟨ts[i.toNat], ?_, List.getElem_mem this⟩
  rw [subs_lst h0 h]
  simp [this]
theorem odd_ex (c : Int) : ∃ t, f__law_odd [.int c] = some t ∧ Part t ∧ (isTup t = false ∨ t = .tup [.int 1]) := by
  refine w_fn ?_
  show W _ _ _ _ (D__law_odd [some (.int c), none])
  unfold D__law_odd
  simp only [w_seq, cons_some, un1_int, b2_some, pow12, tup_n1, lst_n1]
  rw [lst_some (by simp [szl])]
  simp only [set_im, w_nx, List.set_cons_succ, List.set_cons_zero, nd_zero, nd_succ, b2_some, mod_s (show (0 : Int) < 16 by decide)]
  have hm0 := Int.emod_nonneg c (b := 16) (by decide)
  have hm1 := Int.emod_lt_of_pos c (b := 16) (by decide)
  obtain ⟨t, e, hm⟩ := subs_mem (ts := [.non, .bl true, .bl false, .int (-1), .int 1000001, .int 1000000000000, .str "", .str "A", .str "abcdefghi", .str "a b", .int 0, .int 1, .str "zz", .tup [.int 1], .int (-1000000001), .lst [.int 2]]) hm0 (by simpa using hm1)
  refine w_rtE ⟨t, e, ?_⟩
  simp only [List.mem_cons, List.not_mem_nil, or_false] at hm
  rcases hm with rfl | rfl | rfl | rfl | rfl | rfl | rfl | rfl | rfl | rfl | rfl | rfl | rfl | rfl | rfl | rfl
  · exact ⟨part_non, .inl rfl⟩
  · exact ⟨part_bl, .inl rfl⟩
  · exact ⟨part_bl, .inl rfl⟩
  · exact ⟨part_int (by decide), .inl rfl⟩
  · exact ⟨part_int (by decide), .inl rfl⟩
  · exact ⟨part_int (by decide), .inl rfl⟩
  · exact ⟨part_str (by decide +kernel) (by decide +kernel), .inl rfl⟩
  · exact ⟨part_str (by decide +kernel) (by decide +kernel), .inl rfl⟩
  · exact ⟨part_str (by decide +kernel) (by decide +kernel), .inl rfl⟩
  · exact ⟨part_str (by decide +kernel) (by decide +kernel), .inl rfl⟩
  · exact ⟨part_int (by decide), .inl rfl⟩
  · exact ⟨part_int (by decide), .inl rfl⟩
  · exact ⟨part_str (by decide +kernel) (by decide +kernel), .inl rfl⟩
  · exact ⟨⟨okN_mono (n := 1) (by decide) (okN_tup (n := 0) (by simp)), fun x e => (by cases e), fun j e => by cases e⟩, .inr rfl⟩
  · exact ⟨part_int (by decide), .inl rfl⟩
  · exact ⟨⟨okN_mono (n := 1) (by decide) (okN_lst (n := 0) (by simp)), fun x e => (by cases e), fun j e => by cases e⟩, .inl rfl⟩
theorem sl_tup {ts : List T} {lo hi : Option Int} : gSl (.tup ts) lo hi = some (.tup (cutT ts lo hi)) := rfl
theorem cut_mem {ts : List T} {lo hi : Option Int} {x : T} (h : x ∈ cutT ts lo hi) : x ∈ ts := List.mem_of_mem_drop (List.mem_of_mem_take h)
theorem cut_len {ts : List T} {lo hi : Option Int} : (cutT ts lo hi).length ≤ ts.length := by
  unfold cutT
  rw [List.length_take, List.length_drop]
  omega
theorem gAdd_tup {xs ys : List T} (h : xs.length + ys.length ≤ sizeLine) : gAdd (.tup xs) (.tup ys) = some (.tup (xs ++ ys)) := by
  simp only [gAdd, h, if_true]
theorem bent_ex {us : List T} {odd : T} (c : Int) (h2 : 1 ≤ us.length) (h5 : us.length ≤ 5) (hu : ∀ x ∈ us, Part x) (ho : Part odd) (ho2 : isTup odd = false ∨ odd = .tup [.int 1]) : ∃ t, f__law_bent [.tup us, .int c, odd] = some t ∧ EntT t := by
  refine w_fn ?_
  show W _ _ _ _ (D__law_bent [some (.tup us), some (.int c), some odd, none, none, none])
  unfold D__law_bent
  have hl : (0 : Int) < us.length := by omega
  simp only [w_seq, nd_zero, nd_succ, cons_some, Option.bind_some, gLen_tup, b2_some, div_s (show (0 : Int) < 9 ∧ (9 : Int) < 1073741824 by decide), mod_s hl, mod_s (show (0 : Int) < 9 by decide), set_im, w_nx, List.set_cons_succ, List.set_cons_zero, gLt_int, asB_bl]
  have c1 : ∀ lo hi, (cutT us lo hi).length ≤ us.length := fun _ _ => cut_len
  have hm0 := Int.emod_nonneg c (b := 9) (by decide)
  have hm1 := Int.emod_lt_of_pos c (b := 9) (by decide)
  obtain ⟨m, hm⟩ : ∃ m, m = c % 9 := ⟨_, rfl⟩
  rw [← hm] at hm0 hm1 ⊢
  refine w_if rfl (fun _ => ?_) (fun hc => ?_)
  · simp only [nd_zero, nd_succ, asI_int, b3_mk, sl_tup, cons_some, tup_n1, b2_some, gAdd_int]
    rw [gAdd_tup (by have := c1 none (some (c / 9 % ↑us.length)); simp [szl]; omega), b2_some, gAdd_tup (by have := c1 none (some (c / 9 % ↑us.length)); have := c1 (some (c / 9 % ↑us.length + 1)) none; simp [szl]; omega)]
    refine w_rtE ⟨_, rfl, .inl ⟨_, rfl, by have := c1 none (some (c / 9 % ↑us.length)); have := c1 (some (c / 9 % ↑us.length + 1)) none; simp; omega, fun x hx => ?_⟩⟩
    simp only [List.mem_append, List.mem_singleton] at hx
    rcases hx with (q | q) | q
    · exact hu x (cut_mem q)
    · rw [q]; exact ho
    · exact hu x (cut_mem q)
  · simp only [w_nx, nd_zero, nd_succ, asI_int, b3_mk, sl_tup, b2_some]
    have q1 := c1 none (some 2); have q2 := c1 (some 3) (some 4); have q3 := c1 (some 2) (some 3); have q4 := c1 (some 4) none
    rw [gAdd_tup (by simp [szl]; omega), b2_some, gAdd_tup (by simp [szl]; omega), b2_some, gAdd_tup (by simp [szl]; omega)]
    simp only [set_im, w_nx, List.set_cons_succ, List.set_cons_zero, nd_zero, nd_succ, un1_int, asI_int, b3_mk, sl_tup, b2_some, cons_some, tup_n1, Option.bind_some]
    rw [gAdd_tup (by simp [szl]; omega)]
    have eL : gListA [.tup us] = some (.lst us) := rfl
    simp only [eL, cons_some, b2_some]
    rw [lst_some (by simp [szl])]
    simp only [set_im, w_nx, List.set_cons_succ, List.set_cons_zero, nd_zero, nd_succ, b2_some, mod_s (show (0 : Int) < 9 by decide), gI_int]
    rw [← hm]
    have hc' : 4 ≤ m := by simp only [decide_eq_false_iff_not] at hc; omega
    obtain ⟨t, e, hmem⟩ := subs_mem (ts := [.tup (cutT us none (some (-1))), .tup (us ++ [odd]), .lst us, odd, .tup (cutT us none (some 2) ++ cutT us (some 3) (some 4) ++ cutT us (some 2) (some 3) ++ cutT us (some 4) none)]) (i := m - 4) (by omega) (by simp; omega)
    refine w_rtE ⟨t, e, ?_⟩
    simp only [List.mem_cons, List.not_mem_nil, or_false] at hmem
    have q5 := c1 none (some (-1))
    rcases hmem with rfl | rfl | rfl | rfl | rfl
    · exact .inl ⟨_, rfl, by omega, fun x hx => hu x (cut_mem hx)⟩
    · refine .inl ⟨_, rfl, by simp; omega, fun x hx => ?_⟩
      simp only [List.mem_append, List.mem_singleton] at hx
      rcases hx with q | q
      · exact hu x q
      · rw [q]; exact ho
    · exact .inr (.inl ⟨_, rfl, by omega, hu⟩)
    · rcases ho2 with q | q
      · exact .inr (.inr ⟨ho, q⟩)
      · subst q
        refine .inl ⟨_, rfl, by simp, fun x hx => ?_⟩
        simp only [List.mem_singleton] at hx
        subst hx; exact part_int (by decide)
    · refine .inl ⟨_, rfl, by simp; omega, fun x hx => ?_⟩
      simp only [List.mem_append] at hx
      rcases hx with ((q | q) | q) | q <;> exact hu x (cut_mem q)
/-! ### the law -/
theorem EntT.pd {t : T} (h : EntT t) : Pd t := by
  rcases h with ⟨us, rfl, _, h⟩ | ⟨us, rfl, _, h⟩ | h
  · exact ⟨by simpa [isD] using isDs_of h, fun x e => (by cases e)⟩
  · exact ⟨by simpa [isD] using isDs_of h, fun x e => (by cases e)⟩
  · exact h.1.pd

theorem EntT.dOk {t : T} (h : EntT t) : dOk t = true := by
  rcases h with ⟨us, rfl, _, h⟩ | ⟨us, rfl, _, h⟩ | h
  · exact dOk_of (n := 3) (okN_tup fun x hx => (h x hx).ok)
  · exact dOk_of (n := 3) (okN_lst fun x hx => (h x hx).ok)
  · exact h.1.dOk
theorem EntT.sub {t : T} (h : EntT t) : ∀ ts, t = .tup ts → ∀ x ∈ ts, Part x := by
  intro ts e
  rcases h with ⟨us, rfl, _, h⟩ | ⟨us, rfl, _, h⟩ | h
  · cases e; exact h
  · cases e
  · subst e; cases h.2
theorem EntT.law {t : T} (h : EntT t) : f__law_is_entry [t] = some (.bl (entOk t)) := by
  cases ht : isTup t with
  | false => exact ent_no h.pd.1 ht
  | true =>
    cases t with
    | tup ts => exact ent_is (h.sub ts rfl)
    | _ => cases ht
theorem bls3 (b1 b2 b3 : Bool) (ρ : Env') (hρ : 7 < ρ.length) : lcD (bdN 7) (fun _ => some true) (fun ρ => (consD (nd 7 ρ) (some [.raw (.ty "bool")])).bind gIsi) [7] ρ (itD true (some (.lst [.bl b1, .bl b2, .bl b3]))) = some (.lst [.bl true, .bl true, .bl true]) := by
  have := lc_all (bd := bdN 7) (e := fun ρ => (consD (nd 7 ρ) (some [.raw (.ty "bool")])).bind gIsi) (ρ := ρ) (vs := [7]) (o := itD true (some (.lst [.bl b1, .bl b2, .bl b3]))) [b1, b2, b3] T.bl (fun _ => T.bl true) rfl (by simp [szl]) (fun a _ => ⟨_, rfl, by
    have hl : 7 < (wipeD ρ [7]).length := by rw [wipeD_length]; exact hρ
    rw [nd_set_self hl]
    exact isi_bool (t := .bl a) rfl⟩) (fun _ _ => imm_bl)
  exact this
theorem law_true (ns : List Int) (h : ns.length ≤ 63) : f_law [.scr (ns.map T.int)] = some (.bl true) := by
  refine w_eq ?_
  show W _ _ _ _ (D_law [some (.scr (ns.map T.int)), none, none, none, none, none, none, none])
  unfold D_law
  have e1 : f__law_of [.scr (ns.map T.int), .int 1] = some (.int (ns.getD 1 0)) := of_eq ns 1 (by omega) h
  have e2 : f__law_of [.scr (ns.map T.int), .int 2] = some (.int (ns.getD 2 0)) := of_eq ns 2 (by omega) h
  have e3 : f__law_of [.scr (ns.map T.int), .int 3] = some (.int (ns.getD 3 0)) := of_eq ns 3 (by omega) h
  obtain ⟨_, eg, us, rfl, hu2, hu5, hu⟩ := good_ex ns h
  obtain ⟨odd, eo, ho, ho2⟩ := odd_ex (ns.getD 2 0)
  obtain ⟨_, en, a, b, d, rfl, ha, hb, hd⟩ := names_ex (ns.getD 1 0)
  simp only [w_seq, nd_zero, nd_succ, cons_some, Option.bind_some, eg, e2, eo, e3, set_im, w_nx, List.set_cons_succ, List.set_cons_zero, b2_some, mod_s (show (0 : Int) < 3 by decide), gIb_int, asB_bl]
  -- the entry
  refine w_cut (P := fun ρ => ∃ t, EntT t ∧ ρ = [some (.scr (ns.map T.int)), some t, some odd, none, none, none, none, none]) ?_ ?_
  · refine w_if rfl (fun _ => ?_) (fun _ => ?_)
    · simp only [nd_zero, nd_succ, e3, b2_some, div_s (show (0 : Int) < 3 ∧ (3 : Int) < 1073741824 by decide), cons_some, Option.bind_some]
      obtain ⟨t, et, ht⟩ := bent_ex (us := us) (odd := odd) (ns.getD 3 0 / 3) (by omega) hu5 hu ho ho2
      rw [et, set_im, w_nx]
      exact ⟨t, ht, rfl⟩
    · rw [w_nx]
      exact ⟨_, .inl ⟨us, rfl, by omega, hu⟩, rfl⟩
  rintro _ ⟨t, ht, rfl⟩
  -- the thing
  have g0 : gSubs (.lst ([a, b, d].map T.str)) (.int 0) = some (.str a) := rfl
  simp only [nd_zero, nd_succ, cons_some, Option.bind_some, e1, e3, en, g0, b2_some, lst_n2, div_s (show (0 : Int) < 72 ∧ (72 : Int) < 1073741824 by decide), mod_s (show (0 : Int) < 2 by decide)]
  have hm0 := Int.emod_nonneg (ns.getD 3 0 / 72) (b := 2) (by decide)
  have hm1 := Int.emod_lt_of_pos (ns.getD 3 0 / 72) (b := 2) (by decide)
  obtain ⟨x, ex, hx⟩ := subs_mem (ts := [odd, .str a]) hm0 (by simpa using hm1)
  have px : Part x := by
    simp only [List.mem_cons, List.not_mem_nil, or_false] at hx
    rcases hx with rfl | rfl
    · exact ho
    · exact part_name ha
  rw [ex]
  simp only [set_im, w_nx, List.set_cons_succ, List.set_cons_zero, nd_zero, nd_succ, cons_some, Option.bind_some, name_is px.isD px.str, day_is px.isD, worth_is px.isD, lst_n3, un1_int, lname_is px.isD px.str, lwhole_is px.isD]
  generalize nameB x = b1
  generalize wholeB 0 1000000 x = b2'
  generalize wholeB (-1000000000) 1000000000 x = b3'
  have ok3 : ∀ p q r : Bool, dOk (.lst [.bl p, .bl q, .bl r]) = true := fun p q r => dOk_of (n := 1) (okN_lst fun y hy => by
    simp only [List.mem_cons, List.not_mem_nil, or_false] at hy
    rcases hy with rfl | rfl | rfl <;> simp)
  have eqr : ∀ y : T, eqT y y = true := fun y => eqv_refl y
  rw [bls3 b1 b2' b3' _ (by simp)]
  simp only [b2_some, gEqA_data (ok3 _ _ _) (ok3 _ _ _), eqr, Bool.true_xor, Bool.not_true, asB_bl, gEqA_int, decide_true, orD]
  refine w_if rfl (fun h => by cases h) (fun _ => ?_)
  simp only [w_nx, nd_zero, nd_succ, cons_some, Option.bind_some, ht.law, asB_bl, Option.map_some]
  have hsub : ∀ ts, t = .tup ts → ∀ x ∈ ts, Pd x := fun ts e x hx => (ht.sub ts e x hx).pd
  cases hk : entOk t with
  | false =>
    refine w_if rfl (fun _ => ?_) (fun h => by cases h)
    simp only [nd_zero, nd_succ, cons_some, Option.bind_some, refused_is (need_no ht.pd hsub hk), rt_some, w_rt]
  | true =>
    refine w_if rfl (fun h => by cases h) (fun _ => ?_)
    simp only [w_nx, nd_zero, nd_succ, cons_some, Option.bind_some, need_is ht.pd hsub hk, set_im, List.set_cons_succ, List.set_cons_zero, isi_tup ht.pd.1, b2_some, gEqA_data ht.dOk ht.dOk, eqr, Bool.false_xor]
    have : isTup t = true := by
      cases t <;> first | rfl | (simp [entOk] at hk; done)
    rw [this, andV_t, rt_some, w_rt]
end Q
namespace Q
open PySem PySem.Spec PyProof.Rows L2 DL
def topS (i : Nat) : Stmt := PySem.Challenge.pw_saidthen_k01_entries.main.body.getD i (.Pass ⟨0, 0, 0, 0⟩)
section
variable {P : Program} {w : World} {K : PySem.W.Frag} {mg : Str → Option Value} {base : Heap}
/-! ### is_whole -/
abbrev s_is_whole : Stmt := topS 14
theorem sc_is_whole : FnScope N_is_whole ["thing"] (defScope s_is_whole) := ⟨rfl, rfl, rfl, by decide +kernel, rfl, by decide +kernel, by decide +kernel⟩
theorem nd_is_whole : N_is_whole.Nodup := by decide +kernel
theorem sv_is_whole {ι : Type} {G : ι → Cx} (hG : Fb G K mg base P w N_is_whole (defScope s_is_whole) 0) (m_type : mg "type" = none) (m_int : mg "int" = none) :
    SV K false [] [] [] (TSs G (defBody s_is_whole)) D_is_whole := by
  unfold D_is_whole
  exact (sv_one (sv_ret (ev_cmp (s_eqB hG.toFm) (ev_bltT hG.toFm (c_type hG.toFm.K) m_type (av_cons (ev_var hG.toFm 0) av_nil)) (ev_bltn hG.toFm m_int (v := .ty "int") (by decide +kernel) rfl))))
theorem cl_is_whole {f : Addr} {fd : FuncData} (F : Fun K "is_whole" "is_whole" s_is_whole f fd) (hm : mg "is_whole" = some (.ref f)) (hb : Binds K fd ["thing"] []) (m_type : mg "type" = none) (m_int : mg "int" = none) : Cl P w K mg base 1 "is_whole" (spD K 1 false f_is_whole) :=
  fn_dl (ps := ["thing"]) F sc_is_whole hm hb (fun _ hG => sv_is_whole hG m_type m_int) fun _ _ _ h => h
/-! ### is_number -/
abbrev s_is_number : Stmt := topS 15
theorem sc_is_number : FnScope N_is_number ["thing"] (defScope s_is_number) := ⟨rfl, rfl, rfl, by decide +kernel, rfl, by decide +kernel, by decide +kernel⟩
theorem nd_is_number : N_is_number.Nodup := by decide +kernel
theorem sv_is_number {ι : Type} {G : ι → Cx} (hG : Fb G K mg base P w N_is_number (defScope s_is_number) 1) (c_is_whole : Cl P w K mg base 1 "is_whole" (spD K 1 false f_is_whole)) :
    SV K false [] [] [] (TSs G (defBody s_is_number)) D_is_number := by
  unfold D_is_number
  exact (sv_one (sv_ret (ev_and (ev_call hG.toFm c_is_whole (av_cons (ev_var hG.toFm 0) av_nil)) (ev_one (ev_cmp s_ge (ev_var hG.toFm 0) ev_int)))))
theorem cl_is_number {f : Addr} {fd : FuncData} (F : Fun K "is_number" "is_number" s_is_number f fd) (hm : mg "is_number" = some (.ref f)) (hb : Binds K fd ["thing"] []) (c_is_whole : Cl P w K mg base 1 "is_whole" (spD K 1 false f_is_whole)) : Cl P w K mg base 2 "is_number" (spD K 1 false f_is_number) :=
  fn_dl (ps := ["thing"]) F sc_is_number hm hb (fun _ hG => sv_is_number hG c_is_whole) fun _ _ _ h => h
/-! ### is_name -/
abbrev s_is_name : Stmt := topS 16
theorem sc_is_name : FnScope N_is_name ["thing"] (defScope s_is_name) := ⟨rfl, rfl, rfl, by decide +kernel, rfl, by decide +kernel, by decide +kernel⟩
theorem nd_is_name : N_is_name.Nodup := by decide +kernel
theorem sv_is_name {ι : Type} {G : ι → Cx} {t_LONGEST_NAME : Tok} (hG : Fb G K mg base P w N_is_name (defScope s_is_name) 0) (m_type : mg "type" = none) (m_str : mg "str" = none) (m_len : mg "len" = none) (m_all : mg "all" = none) (g_LONGEST_NAME : mg "LONGEST_NAME" = some (.int 8 t_LONGEST_NAME)) :
    SV K false [] [] [] (TSs G (defBody s_is_name)) D_is_name := by
  unfold D_is_name
  exact (sv_cons (sv_if (BW.bv (bw_or (bv_cmp (s_neB hG.toFm) (ev_bltT hG.toFm (c_type hG.toFm.K) m_type (av_cons (ev_var hG.toFm 0) av_nil)) (ev_bltn hG.toFm m_str (v := .ty "str") (by decide +kernel) rfl)) (bw_or1 (bv_not (bv_chain s_le s_le ev_int (ev_bltF hG.toFm (c_len hG.toFm.K) m_len (av_cons (ev_var hG.toFm 0) av_nil)) (ev_glob hG.toFm g_LONGEST_NAME (v := .int 8) ⟨_, rfl⟩ (fun _ => rep_int.mpr rfl)))))))
    (sv_one (sv_ret ev_bl))
    sv_nil)
  (sv_one (sv_ret (ev_bltF hG.toFm (c_all hG.toFm) m_all (av_cons (EVF.ev (evf_lc hG.toFm nd_is_name [("sign", 1)] (iv_val hG.toFm.K (ev_var hG.toFm 0)) (tv_nameB hG.toFm nd_is_name _ 1 (by decide)) cv_nil (ev_chain s_le s_le ev_str (ev_var (fm_blk hG.toFm _) 1) ev_str))) av_nil)))))
theorem cl_is_name {t_LONGEST_NAME : Tok} {f : Addr} {fd : FuncData} (F : Fun K "is_name" "is_name" s_is_name f fd) (hm : mg "is_name" = some (.ref f)) (hb : Binds K fd ["thing"] []) (m_type : mg "type" = none) (m_str : mg "str" = none) (m_len : mg "len" = none) (m_all : mg "all" = none) (g_LONGEST_NAME : mg "LONGEST_NAME" = some (.int 8 t_LONGEST_NAME)) : Cl P w K mg base 1 "is_name" (spD K 1 false f_is_name) :=
  fn_dl (ps := ["thing"]) F sc_is_name hm hb (fun _ hG => sv_is_name hG m_type m_str m_len m_all g_LONGEST_NAME) fun _ _ _ h => h
/-! ### is_day -/
abbrev s_is_day : Stmt := topS 17
theorem sc_is_day : FnScope N_is_day ["thing"] (defScope s_is_day) := ⟨rfl, rfl, rfl, by decide +kernel, rfl, by decide +kernel, by decide +kernel⟩
theorem nd_is_day : N_is_day.Nodup := by decide +kernel
theorem sv_is_day {ι : Type} {G : ι → Cx} {t_LAST_DAY : Tok} (hG : Fb G K mg base P w N_is_day (defScope s_is_day) 1) (g_LAST_DAY : mg "LAST_DAY" = some (.int 1000000 t_LAST_DAY)) (c_is_whole : Cl P w K mg base 1 "is_whole" (spD K 1 false f_is_whole)) :
    SV K false [] [] [] (TSs G (defBody s_is_day)) D_is_day := by
  unfold D_is_day
  exact (sv_one (sv_ret (ev_and (ev_call hG.toFm c_is_whole (av_cons (ev_var hG.toFm 0) av_nil)) (ev_one (ev_chain s_le s_le ev_int (ev_var hG.toFm 0) (ev_glob hG.toFm g_LAST_DAY (v := .int 1000000) ⟨_, rfl⟩ (fun _ => rep_int.mpr rfl)))))))
theorem cl_is_day {t_LAST_DAY : Tok} {f : Addr} {fd : FuncData} (F : Fun K "is_day" "is_day" s_is_day f fd) (hm : mg "is_day" = some (.ref f)) (hb : Binds K fd ["thing"] []) (g_LAST_DAY : mg "LAST_DAY" = some (.int 1000000 t_LAST_DAY)) (c_is_whole : Cl P w K mg base 1 "is_whole" (spD K 1 false f_is_whole)) : Cl P w K mg base 2 "is_day" (spD K 1 false f_is_day) :=
  fn_dl (ps := ["thing"]) F sc_is_day hm hb (fun _ hG => sv_is_day hG g_LAST_DAY c_is_whole) fun _ _ _ h => h
/-! ### is_worth -/
abbrev s_is_worth : Stmt := topS 18
theorem sc_is_worth : FnScope N_is_worth ["thing"] (defScope s_is_worth) := ⟨rfl, rfl, rfl, by decide +kernel, rfl, by decide +kernel, by decide +kernel⟩
theorem nd_is_worth : N_is_worth.Nodup := by decide +kernel
theorem sv_is_worth {ι : Type} {G : ι → Cx} {t_GREATEST_WORTH : Tok} (hG : Fb G K mg base P w N_is_worth (defScope s_is_worth) 1) (g_GREATEST_WORTH : mg "GREATEST_WORTH" = some (.int 1000000000 t_GREATEST_WORTH)) (c_is_whole : Cl P w K mg base 1 "is_whole" (spD K 1 false f_is_whole)) :
    SV K false [] [] [] (TSs G (defBody s_is_worth)) D_is_worth := by
  unfold D_is_worth
  exact (sv_one (sv_ret (ev_and (ev_call hG.toFm c_is_whole (av_cons (ev_var hG.toFm 0) av_nil)) (ev_one (ev_chain s_le s_le (ev_neg (ev_glob hG.toFm g_GREATEST_WORTH (v := .int 1000000000) ⟨_, rfl⟩ (fun _ => rep_int.mpr rfl))) (ev_var hG.toFm 0) (ev_glob hG.toFm g_GREATEST_WORTH (v := .int 1000000000) ⟨_, rfl⟩ (fun _ => rep_int.mpr rfl)))))))
theorem cl_is_worth {t_GREATEST_WORTH : Tok} {f : Addr} {fd : FuncData} (F : Fun K "is_worth" "is_worth" s_is_worth f fd) (hm : mg "is_worth" = some (.ref f)) (hb : Binds K fd ["thing"] []) (g_GREATEST_WORTH : mg "GREATEST_WORTH" = some (.int 1000000000 t_GREATEST_WORTH)) (c_is_whole : Cl P w K mg base 1 "is_whole" (spD K 1 false f_is_whole)) : Cl P w K mg base 2 "is_worth" (spD K 1 false f_is_worth) :=
  fn_dl (ps := ["thing"]) F sc_is_worth hm hb (fun _ hG => sv_is_worth hG g_GREATEST_WORTH c_is_whole) fun _ _ _ h => h
/-! ### are_days -/
abbrev s_are_days : Stmt := topS 19
theorem sc_are_days : FnScope N_are_days ["low", "high"] (defScope s_are_days) := ⟨rfl, rfl, rfl, by decide +kernel, rfl, by decide +kernel, by decide +kernel⟩
theorem nd_are_days : N_are_days.Nodup := by decide +kernel
theorem sv_are_days {ι : Type} {G : ι → Cx} (hG : Fb G K mg base P w N_are_days (defScope s_are_days) 2) (c_is_day : Cl P w K mg base 2 "is_day" (spD K 1 false f_is_day)) :
    SV K false [] [] [] (TSs G (defBody s_are_days)) D_are_days := by
  unfold D_are_days
  exact (sv_one (sv_ret (ev_and (ev_call hG.toFm c_is_day (av_cons (ev_var hG.toFm 0) av_nil)) (ev_and (ev_call hG.toFm c_is_day (av_cons (ev_var hG.toFm 1) av_nil)) (ev_one (ev_cmp s_le (ev_var hG.toFm 0) (ev_var hG.toFm 1)))))))
theorem cl_are_days {f : Addr} {fd : FuncData} (F : Fun K "are_days" "are_days" s_are_days f fd) (hm : mg "are_days" = some (.ref f)) (hb : Binds K fd ["low", "high"] []) (c_is_day : Cl P w K mg base 2 "is_day" (spD K 1 false f_is_day)) : Cl P w K mg base 3 "are_days" (spD K 2 false f_are_days) :=
  fn_dl (ps := ["low", "high"]) F sc_are_days hm hb (fun _ hG => sv_are_days hG c_is_day) fun _ _ _ h => h
/-! ### is_tell -/
abbrev s_is_tell : Stmt := topS 20
theorem sc_is_tell : FnScope N_is_tell ["entry"] (defScope s_is_tell) := ⟨rfl, rfl, rfl, by decide +kernel, rfl, by decide +kernel, by decide +kernel⟩
theorem nd_is_tell : N_is_tell.Nodup := by decide +kernel
theorem sv_is_tell {ι : Type} {G : ι → Cx} (hG : Fb G K mg base P w N_is_tell (defScope s_is_tell) 3) (m_len : mg "len" = none) (c_is_name : Cl P w K mg base 1 "is_name" (spD K 1 false f_is_name)) (c_are_days : Cl P w K mg base 3 "are_days" (spD K 2 false f_are_days)) (c_is_worth : Cl P w K mg base 2 "is_worth" (spD K 1 false f_is_worth)) :
    SV K false [] [] [] (TSs G (defBody s_is_tell)) D_is_tell := by
  unfold D_is_tell
  exact (sv_cons (sv_if (bv_cmp (s_neA hG.toFm) (ev_bltF hG.toFm (c_len hG.toFm.K) m_len (av_cons (ev_var hG.toFm 0) av_nil)) ev_int)
    (sv_one (sv_ret ev_bl))
    sv_nil)
  (sv_cons (sv_unp (ev_var hG.toFm 0) (tv_tup hG.toFm (tvs_cons (tv_name hG.toFm nd_is_tell hG.fb 1 (by decide)) (tvs_cons (tv_name hG.toFm nd_is_tell hG.fb 2 (by decide)) (tvs_cons (tv_name hG.toFm nd_is_tell hG.fb 3 (by decide)) (tvs_cons (tv_name hG.toFm nd_is_tell hG.fb 4 (by decide)) (tvs_cons (tv_name hG.toFm nd_is_tell hG.fb 5 (by decide)) tvs_nil)))))))
  (sv_one (sv_ret (ev_and (ev_call hG.toFm c_is_name (av_cons (ev_var hG.toFm 2) av_nil)) (ev_and (ev_call hG.toFm c_are_days (av_cons (ev_var hG.toFm 3) (av_cons (ev_var hG.toFm 4) av_nil))) (ev_one (ev_call hG.toFm c_is_worth (av_cons (ev_var hG.toFm 5) av_nil)))))))))
theorem cl_is_tell {f : Addr} {fd : FuncData} (F : Fun K "is_tell" "is_tell" s_is_tell f fd) (hm : mg "is_tell" = some (.ref f)) (hb : Binds K fd ["entry"] []) (m_len : mg "len" = none) (c_is_name : Cl P w K mg base 1 "is_name" (spD K 1 false f_is_name)) (c_are_days : Cl P w K mg base 3 "are_days" (spD K 2 false f_are_days)) (c_is_worth : Cl P w K mg base 2 "is_worth" (spD K 1 false f_is_worth)) : Cl P w K mg base 4 "is_tell" (spD K 1 false f_is_tell) :=
  fn_dl (ps := ["entry"]) F sc_is_tell hm hb (fun _ hG => sv_is_tell hG m_len c_is_name c_are_days c_is_worth) fun _ _ _ h => h
/-! ### is_clear -/
abbrev s_is_clear : Stmt := topS 21
theorem sc_is_clear : FnScope N_is_clear ["entry"] (defScope s_is_clear) := ⟨rfl, rfl, rfl, by decide +kernel, rfl, by decide +kernel, by decide +kernel⟩
theorem nd_is_clear : N_is_clear.Nodup := by decide +kernel
theorem sv_is_clear {ι : Type} {G : ι → Cx} (hG : Fb G K mg base P w N_is_clear (defScope s_is_clear) 3) (m_len : mg "len" = none) (c_is_name : Cl P w K mg base 1 "is_name" (spD K 1 false f_is_name)) (c_are_days : Cl P w K mg base 3 "are_days" (spD K 2 false f_are_days)) :
    SV K false [] [] [] (TSs G (defBody s_is_clear)) D_is_clear := by
  unfold D_is_clear
  exact (sv_cons (sv_if (bv_cmp (s_neA hG.toFm) (ev_bltF hG.toFm (c_len hG.toFm.K) m_len (av_cons (ev_var hG.toFm 0) av_nil)) ev_int)
    (sv_one (sv_ret ev_bl))
    sv_nil)
  (sv_cons (sv_unp (ev_var hG.toFm 0) (tv_tup hG.toFm (tvs_cons (tv_name hG.toFm nd_is_clear hG.fb 1 (by decide)) (tvs_cons (tv_name hG.toFm nd_is_clear hG.fb 2 (by decide)) (tvs_cons (tv_name hG.toFm nd_is_clear hG.fb 3 (by decide)) (tvs_cons (tv_name hG.toFm nd_is_clear hG.fb 4 (by decide)) tvs_nil))))))
  (sv_one (sv_ret (ev_and (ev_call hG.toFm c_is_name (av_cons (ev_var hG.toFm 2) av_nil)) (ev_one (ev_call hG.toFm c_are_days (av_cons (ev_var hG.toFm 3) (av_cons (ev_var hG.toFm 4) av_nil)))))))))
theorem cl_is_clear {f : Addr} {fd : FuncData} (F : Fun K "is_clear" "is_clear" s_is_clear f fd) (hm : mg "is_clear" = some (.ref f)) (hb : Binds K fd ["entry"] []) (m_len : mg "len" = none) (c_is_name : Cl P w K mg base 1 "is_name" (spD K 1 false f_is_name)) (c_are_days : Cl P w K mg base 3 "are_days" (spD K 2 false f_are_days)) : Cl P w K mg base 4 "is_clear" (spD K 1 false f_is_clear) :=
  fn_dl (ps := ["entry"]) F sc_is_clear hm hb (fun _ hG => sv_is_clear hG m_len c_is_name c_are_days) fun _ _ _ h => h
/-! ### is_like -/
abbrev s_is_like : Stmt := topS 22
theorem sc_is_like : FnScope N_is_like ["entry"] (defScope s_is_like) := ⟨rfl, rfl, rfl, by decide +kernel, rfl, by decide +kernel, by decide +kernel⟩
theorem nd_is_like : N_is_like.Nodup := by decide +kernel
theorem sv_is_like {ι : Type} {G : ι → Cx} (hG : Fb G K mg base P w N_is_like (defScope s_is_like) 3) (m_len : mg "len" = none) (c_is_name : Cl P w K mg base 1 "is_name" (spD K 1 false f_is_name)) (c_are_days : Cl P w K mg base 3 "are_days" (spD K 2 false f_are_days)) :
    SV K false [] [] [] (TSs G (defBody s_is_like)) D_is_like := by
  unfold D_is_like
  exact (sv_cons (sv_if (bv_cmp (s_neA hG.toFm) (ev_bltF hG.toFm (c_len hG.toFm.K) m_len (av_cons (ev_var hG.toFm 0) av_nil)) ev_int)
    (sv_one (sv_ret ev_bl))
    sv_nil)
  (sv_cons (sv_unp (ev_var hG.toFm 0) (tv_tup hG.toFm (tvs_cons (tv_name hG.toFm nd_is_like hG.fb 1 (by decide)) (tvs_cons (tv_name hG.toFm nd_is_like hG.fb 2 (by decide)) (tvs_cons (tv_name hG.toFm nd_is_like hG.fb 3 (by decide)) (tvs_cons (tv_name hG.toFm nd_is_like hG.fb 4 (by decide)) (tvs_cons (tv_name hG.toFm nd_is_like hG.fb 5 (by decide)) tvs_nil)))))))
  (sv_one (sv_ret (ev_and (ev_call hG.toFm c_is_name (av_cons (ev_var hG.toFm 2) av_nil)) (ev_and (ev_call hG.toFm c_are_days (av_cons (ev_var hG.toFm 3) (av_cons (ev_var hG.toFm 4) av_nil))) (ev_one (ev_call hG.toFm c_is_name (av_cons (ev_var hG.toFm 5) av_nil)))))))))
theorem cl_is_like {f : Addr} {fd : FuncData} (F : Fun K "is_like" "is_like" s_is_like f fd) (hm : mg "is_like" = some (.ref f)) (hb : Binds K fd ["entry"] []) (m_len : mg "len" = none) (c_is_name : Cl P w K mg base 1 "is_name" (spD K 1 false f_is_name)) (c_are_days : Cl P w K mg base 3 "are_days" (spD K 2 false f_are_days)) : Cl P w K mg base 4 "is_like" (spD K 1 false f_is_like) :=
  fn_dl (ps := ["entry"]) F sc_is_like hm hb (fun _ hG => sv_is_like hG m_len c_is_name c_are_days) fun _ _ _ h => h
/-! ### is_undo -/
abbrev s_is_undo : Stmt := topS 23
theorem sc_is_undo : FnScope N_is_undo ["entry"] (defScope s_is_undo) := ⟨rfl, rfl, rfl, by decide +kernel, rfl, by decide +kernel, by decide +kernel⟩
theorem nd_is_undo : N_is_undo.Nodup := by decide +kernel
theorem sv_is_undo {ι : Type} {G : ι → Cx} (hG : Fb G K mg base P w N_is_undo (defScope s_is_undo) 2) (m_len : mg "len" = none) (c_is_number : Cl P w K mg base 2 "is_number" (spD K 1 false f_is_number)) :
    SV K false [] [] [] (TSs G (defBody s_is_undo)) D_is_undo := by
  unfold D_is_undo
  exact (sv_one (sv_ret (ev_and (ev_cmp (s_eqA hG.toFm) (ev_bltF hG.toFm (c_len hG.toFm.K) m_len (av_cons (ev_var hG.toFm 0) av_nil)) ev_int) (ev_one (ev_call hG.toFm c_is_number (av_cons (ev_sub hG.toFm (ev_var hG.toFm 0) ev_int) av_nil))))))
theorem cl_is_undo {f : Addr} {fd : FuncData} (F : Fun K "is_undo" "is_undo" s_is_undo f fd) (hm : mg "is_undo" = some (.ref f)) (hb : Binds K fd ["entry"] []) (m_len : mg "len" = none) (c_is_number : Cl P w K mg base 2 "is_number" (spD K 1 false f_is_number)) : Cl P w K mg base 3 "is_undo" (spD K 1 false f_is_undo) :=
  fn_dl (ps := ["entry"]) F sc_is_undo hm hb (fun _ hG => sv_is_undo hG m_len c_is_number) fun _ _ _ h => h
/-! ### is_entry -/
abbrev s_is_entry : Stmt := topS 25
theorem sc_is_entry : FnScope N_is_entry ["thing"] (defScope s_is_entry) := ⟨rfl, rfl, rfl, by decide +kernel, rfl, by decide +kernel, by decide +kernel⟩
theorem nd_is_entry : N_is_entry.Nodup := by decide +kernel
theorem sv_is_entry {ι : Type} {G : ι → Cx}{dF f1 f2 f3 f4 : Addr} (hG : Fb G K mg base P w N_is_entry (defScope s_is_entry) 4) (m_type : mg "type" = none) (m_tuple : mg "tuple" = none) (m_len : mg "len" = none) (m_str : mg "str" = none) (hT : KTab K w dF (tab4 "tell" "clear" "like" "undo" f1 f2 f3 f4)) (g_FORMS : mg "FORMS" = some (.ref dF)) (hF : ∀ z f φ, (tab4 "tell" "clear" "like" "undo" f1 f2 f3 f4).lookup z = some f → formsF z = some φ → ClA P w K mg base 4 f (spD K 1 false φ)) :
    SV K false [] [] [] (TSs G (defBody s_is_entry)) (D_is_entry dF (tab4 "tell" "clear" "like" "undo" f1 f2 f3 f4)) := by
  unfold D_is_entry
  exact (sv_cons (sv_if (BW.bv (bw_or (bv_cmp (s_neB hG.toFm) (ev_bltT hG.toFm (c_type hG.toFm.K) m_type (av_cons (ev_var hG.toFm 0) av_nil)) (ev_bltn hG.toFm m_tuple (v := .ty "tuple") (by decide +kernel) rfl)) (bw_or1 (bv_cmp (s_eqA hG.toFm) (ev_bltF hG.toFm (c_len hG.toFm.K) m_len (av_cons (ev_var hG.toFm 0) av_nil)) ev_int))))
    (sv_one (sv_ret ev_bl))
    sv_nil)
  (sv_cons ((sv_set hG.toFm nd_is_entry hG.fb 1 (by decide) (ev_sub hG.toFm (ev_var hG.toFm 0) ev_int)))
  (sv_cons (sv_if (BW.bv (bw_or (bv_cmp (s_neB hG.toFm) (ev_bltT hG.toFm (c_type hG.toFm.K) m_type (av_cons (ev_var hG.toFm 1) av_nil)) (ev_bltn hG.toFm m_str (v := .ty "str") (by decide +kernel) rfl)) (bw_or1 (bv_cmp (s_notInK hG.toFm hT) (ev_var hG.toFm 1) (ev_glob hG.toFm g_FORMS (v := .ref dF) rfl (fun _ => rep_raw.mpr rfl))))))
    (sv_one (sv_ret ev_bl))
    sv_nil)
  (sv_cons ((sv_set hG.toFm nd_is_entry hG.fb 2 (by decide) (ev_itemK hG.toFm hT (ev_glob hG.toFm g_FORMS (v := .ref dF) rfl (fun _ => rep_raw.mpr rfl)) (ev_var hG.toFm 1))))
  (sv_one (sv_ret (ev_callAt (m := 4) hG.toFm 1 2 hF (av_cons (ev_var hG.toFm 0) av_nil))))))))
theorem cl_is_entry {f dF f1 f2 f3 f4 : Addr} {fd : FuncData} (F : Fun K "is_entry" "is_entry" s_is_entry f fd) (hm : mg "is_entry" = some (.ref f)) (hb : Binds K fd ["thing"] []) (m_type : mg "type" = none) (m_tuple : mg "tuple" = none) (m_len : mg "len" = none) (m_str : mg "str" = none) (hT : KTab K w dF (tab4 "tell" "clear" "like" "undo" f1 f2 f3 f4)) (g_FORMS : mg "FORMS" = some (.ref dF)) (c_is_tell : Cl P w K mg base 4 "is_tell" (spD K 1 false f_is_tell)) (g_is_tell : mg "is_tell" = some (.ref f1)) (c_is_clear : Cl P w K mg base 4 "is_clear" (spD K 1 false f_is_clear)) (g_is_clear : mg "is_clear" = some (.ref f2)) (c_is_like : Cl P w K mg base 4 "is_like" (spD K 1 false f_is_like)) (g_is_like : mg "is_like" = some (.ref f3)) (c_is_undo : Cl P w K mg base 3 "is_undo" (spD K 1 false f_is_undo)) (g_is_undo : mg "is_undo" = some (.ref f4)) : Cl P w K mg base 5 "is_entry" (spD K 1 false f_is_entry) :=
  fn_dl (ps := ["thing"]) F sc_is_entry hm hb (fun _ hG => sv_is_entry hG m_type m_tuple m_len m_str hT g_FORMS (forms_cl c_is_tell c_is_clear c_is_like c_is_undo g_is_tell g_is_clear g_is_like g_is_undo)) fun ts hl τ h => is_entry_ref ts hl τ h
/-! ### need_entry -/
abbrev s_need_entry : Stmt := topS 26
theorem sc_need_entry : FnScope N_need_entry ["entry"] (defScope s_need_entry) := ⟨rfl, rfl, rfl, by decide +kernel, rfl, by decide +kernel, by decide +kernel⟩
theorem nd_need_entry : N_need_entry.Nodup := by decide +kernel
theorem sv_need_entry {ι : Type} {G : ι → Cx} (hG : Fb G K mg base P w N_need_entry (defScope s_need_entry) 5) (c_is_entry : Cl P w K mg base 5 "is_entry" (spD K 1 false f_is_entry)) :
    SV K false [] [] [] (TSs G (defBody s_need_entry)) D_need_entry := by
  unfold D_need_entry
  exact (sv_cons (sv_if (bv_not (bv_val (ev_call hG.toFm c_is_entry (av_cons (ev_var hG.toFm 0) av_nil))))
    (sv_one sv_never)
    sv_nil)
  (sv_one (sv_ret (ev_var hG.toFm 0))))
theorem cl_need_entry {f : Addr} {fd : FuncData} (F : Fun K "need_entry" "need_entry" s_need_entry f fd) (hm : mg "need_entry" = some (.ref f)) (hb : Binds K fd ["entry"] []) (c_is_entry : Cl P w K mg base 5 "is_entry" (spD K 1 false f_is_entry)) : Cl P w K mg base 6 "need_entry" (spD K 1 false f_need_entry) :=
  fn_dl (ps := ["entry"]) F sc_need_entry hm hb (fun _ hG => sv_need_entry hG c_is_entry) fun _ _ _ h => h
theorem sx_need_entry {ι : Type} {G : ι → Cx} {W : WX} (hG : Fb G K mg base P w N_need_entry (defScope s_need_entry) 5) (hw : ∀ i, Takes (G i) W) (c_is_entry : Cl P w K mg base 5 "is_entry" (spD K 1 false f_is_entry)) {C_BadEntry : Addr} (e_BadEntry : ExcT K mg "BadEntry" C_BadEntry) :
    SX K W mg [] (TSs G (defBody s_need_entry)) X_need_entry := by
  unfold X_need_entry
  exact (sx_cons (fr := false) (owl := []) (sx_if (bv_not (bv_val (ev_call hG.toFm c_is_entry (av_cons (ev_var hG.toFm 0) av_nil))))
   (sx_one (sx_raise hG.toFm hw e_BadEntry))
   sx_none)
  (sv_if (bv_not (bv_val (ev_call hG.toFm c_is_entry (av_cons (ev_var hG.toFm 0) av_nil))))
    (sv_one sv_never)
    sv_nil)
  sx_none)
theorem cx_need_entry {f : Addr} {fd : FuncData} (F : Fun K "need_entry" "need_entry" s_need_entry f fd) (hm : mg "need_entry" = some (.ref f)) (hb : Binds K fd ["entry"] []) (c_is_entry : Cl P w K mg base 5 "is_entry" (spD K 1 false f_is_entry)) {C_BadEntry : Addr} (e_BadEntry : ExcT K mg "BadEntry" C_BadEntry) : ClX P w K mg base 6 "need_entry" (spX K mg 1 x_need_entry) :=
  fn_x (ps := ["entry"]) F sc_need_entry hm hb (fun _ _ hG hw => sx_need_entry hG hw c_is_entry e_BadEntry) fun _ _ _ h => h
/-! ### _law_of -/
abbrev s__law_of : Stmt := topS 28
theorem sc__law_of : FnScope N__law_of ["_law_script", "_law_k"] (defScope s__law_of) := ⟨rfl, rfl, rfl, by decide +kernel, rfl, by decide +kernel, by decide +kernel⟩
theorem nd__law_of : N__law_of.Nodup := by decide +kernel
theorem sv__law_of {ι : Type} {G : ι → Cx} (hG : Fb G K mg base P w N__law_of (defScope s__law_of) 0) :
    SV K false [] [] [] (TSs G (defBody s__law_of)) D__law_of := by
  unfold D__law_of
  exact (sv_one (sv_ret (ev_sub hG.toFm (ev_bin (s_add hG.toFm.K) (EVF.ev (evf_slice hG.toFm.K (ev_var hG.toFm 0) (pv_some (ev_var hG.toFm 1)) (pv_some (ev_bin (s_add hG.toFm.K) (ev_var hG.toFm 1) ev_int)))) (EVF.ev (evf_lst (av_cons ev_int av_nil)))) ev_int)))
theorem cl__law_of {f : Addr} {fd : FuncData} (F : Fun K "_law_of" "_law_of" s__law_of f fd) (hm : mg "_law_of" = some (.ref f)) (hb : Binds K fd ["_law_script", "_law_k"] []) : Cl P w K mg base 1 "_law_of" (spD K 2 false f__law_of) :=
  fn_dl (ps := ["_law_script", "_law_k"]) F sc__law_of hm hb (fun _ hG => sv__law_of hG) fun _ _ _ h => h
/-! ### _law_names -/
abbrev s__law_names : Stmt := topS 29
theorem sc__law_names : FnScope N__law_names ["_law_cell", "_law_many"] (defScope s__law_names) := ⟨rfl, rfl, rfl, by decide +kernel, rfl, by decide +kernel, by decide +kernel⟩
theorem nd__law_names : N__law_names.Nodup := by decide +kernel
theorem sv__law_names {ι : Type} {G : ι → Cx} (hG : Fb G K mg base P w N__law_names (defScope s__law_names) 0) (m_range : mg "range" = none) (m_len : mg "len" = none) :
    SV K true [] [] [] (TSs G (defBody s__law_names)) D__law_names := by
  unfold D__law_names
  exact (sv_cons ((sv_set hG.toFm nd__law_names hG.fb 2 (by decide) ev_str))
  (sv_cons ((sv_setO hG.toFm nd__law_names hG.fb 3 (by decide) (evf_lst av_nil)))
  (sv_cons ((sv_forI hG.toFm hG.po (iv_rng1 hG.toFm m_range (ev_var hG.toFm 1)) (tv_name hG.toFm nd__law_names hG.fb 4 (by decide))
    (sv_cons ((sv_set hG.toFm nd__law_names hG.fb 5 (by decide) (ev_bin (s_add hG.toFm.K) (ev_bin s_div (ev_var hG.toFm 0) ev_int) (ev_bin s_mul (ev_bin s_mul (ev_var hG.toFm 4) ev_int) (ev_bin s_mod (ev_var hG.toFm 0) ev_int)))))
  (sv_cons ((sv_set hG.toFm nd__law_names hG.fb 6 (by decide) (ev_join hG.toFm ev_str (EVF.ev (evf_lc hG.toFm nd__law_names [("_law_j", 8)] (iv_rng1 hG.toFm m_range (ev_bin s_mod (ev_var hG.toFm 5) ev_int)) (tv_nameB hG.toFm nd__law_names _ 8 (by decide)) cv_nil (ev_sub (fm_blk hG.toFm _) (ev_var (fm_blk hG.toFm _) 2) (ev_bin s_mod (ev_bin (s_add (fm_blk hG.toFm _).K) (ev_bin s_div (ev_var (fm_blk hG.toFm _) 5) ev_int) (ev_bin s_mul ev_int (ev_var (fm_blk hG.toFm _) 8))) ev_int)))))))
  (sv_cons ((sv_set hG.toFm nd__law_names hG.fb 7 (by decide) (ev_bin s_mod (ev_bin s_div (ev_var hG.toFm 5) ev_int) (ev_bin (s_add hG.toFm.K) (ev_bltF hG.toFm (c_len hG.toFm.K) m_len (av_cons (ev_var hG.toFm 6) av_nil)) ev_int))))
  (sv_one (sv_append hG.toFm 3 (by decide) (ev_bin (s_add hG.toFm.K) (ev_bin (s_add hG.toFm.K) (ev_bin (s_add hG.toFm.K) (ev_slc hG.toFm.K (ev_var hG.toFm 6) pv_none (pv_some (ev_var hG.toFm 7))) ev_str) (ev_sub hG.toFm (ev_var hG.toFm 2) (ev_var hG.toFm 4))) (ev_slc hG.toFm.K (ev_var hG.toFm 6) (pv_some (ev_var hG.toFm 7)) pv_none)))))))))
  (sv_cons (sv_if (BW.bv (bw_and (bv_cmp (s_eqA hG.toFm) (ev_bin s_mod (ev_var hG.toFm 0) ev_int) ev_int) (bw_and1 (bv_cmp (s_notinA hG.toFm) (ev_revS hG.toFm.K (ev_sub hG.toFm (ev_var hG.toFm 3) ev_int)) (ev_var hG.toFm 3)))))
    (sv_one (sv_store hG.toFm 3 (by decide) (ev_revS hG.toFm.K (ev_sub hG.toFm (ev_var hG.toFm 3) ev_int)) ev_int))
    sv_nil)
  (sv_one (sv_retO hG.toFm 3 (by decide)))))))
theorem cl__law_names {f : Addr} {fd : FuncData} (F : Fun K "_law_names" "_law_names" s__law_names f fd) (hm : mg "_law_names" = some (.ref f)) (hb : Binds K fd ["_law_cell", "_law_many"] []) (m_range : mg "range" = none) (m_len : mg "len" = none) : Cl P w K mg base 1 "_law_names" (spD K 2 true f__law_names) :=
  fn_dl (ps := ["_law_cell", "_law_many"]) F sc__law_names hm hb (fun _ hG => sv__law_names hG m_range m_len) fun _ _ _ h => h
/-! ### _law_good -/
abbrev s__law_good : Stmt := topS 30
theorem sc__law_good : FnScope N__law_good ["_law_script"] (defScope s__law_good) := ⟨rfl, rfl, rfl, by decide +kernel, rfl, by decide +kernel, by decide +kernel⟩
theorem nd__law_good : N__law_good.Nodup := by decide +kernel
theorem sv__law_good {ι : Type} {G : ι → Cx} (hG : Fb G K mg base P w N__law_good (defScope s__law_good) 1) (m_min : mg "min" = none) (c__law_of : Cl P w K mg base 1 "_law_of" (spD K 2 false f__law_of)) (c__law_names : Cl P w K mg base 1 "_law_names" (spD K 2 true f__law_names)) :
    SV K false [] [] [] (TSs G (defBody s__law_good)) D__law_good := by
  unfold D__law_good
  exact (sv_cons ((sv_set hG.toFm nd__law_good hG.fb 1 (by decide) (ev_call hG.toFm c__law_of (av_cons (ev_var hG.toFm 0) (av_cons ev_int av_nil)))))
  (sv_cons ((sv_set hG.toFm nd__law_good hG.fb 2 (by decide) (EVF.ev (evf_call hG.toFm c__law_names (av_cons (ev_call hG.toFm c__law_of (av_cons (ev_var hG.toFm 0) (av_cons ev_int av_nil))) (av_cons ev_int av_nil))))))
  (sv_cons ((sv_set hG.toFm nd__law_good hG.fb 3 (by decide) (ev_sub hG.toFm (EVF.ev (evf_lst (av_cons ev_int (av_cons ev_int (av_cons ev_int (av_cons ev_int (av_cons (ev_bin s_mod (ev_var hG.toFm 1) ev_int) av_nil))))))) (ev_bin s_mod (ev_bin s_div (ev_var hG.toFm 1) ev_int) ev_int))))
  (sv_cons ((sv_set hG.toFm nd__law_good hG.fb 4 (by decide) (ev_bltF hG.toFm (c_min hG.toFm) m_min (av_cons ev_int (av_cons (ev_bin (s_add hG.toFm.K) (ev_var hG.toFm 3) (ev_bin s_mod (ev_bin s_div (ev_var hG.toFm 1) ev_int) ev_int)) av_nil)))))
  (sv_cons ((sv_set hG.toFm nd__law_good hG.fb 5 (by decide) (ev_sub hG.toFm (EVF.ev (evf_lst (av_cons ev_int (av_cons (ev_neg ev_int) (av_cons ev_int (av_cons (ev_bin s_sub (ev_bin s_mod (ev_var hG.toFm 1) ev_int) ev_int) av_nil)))))) (ev_bin s_mod (ev_bin s_div (ev_var hG.toFm 1) ev_int) ev_int))))
  (sv_cons ((sv_set hG.toFm nd__law_good hG.fb 6 (by decide) (EVF.ev (evf_lst (av_cons (ev_tup (av_cons ev_str (av_cons (ev_sub hG.toFm (ev_var hG.toFm 2) ev_int) (av_cons (ev_var hG.toFm 3) (av_cons (ev_var hG.toFm 4) (av_cons (ev_var hG.toFm 5) av_nil)))))) (av_cons (ev_tup (av_cons ev_str (av_cons (ev_sub hG.toFm (ev_var hG.toFm 2) ev_int) (av_cons (ev_var hG.toFm 3) (av_cons (ev_var hG.toFm 4) av_nil))))) av_nil))))))
  (sv_cons ((sv_set hG.toFm nd__law_good hG.fb 6 (by decide) (ev_bin (s_add hG.toFm.K) (ev_var hG.toFm 6) (EVF.ev (evf_lst (av_cons (ev_tup (av_cons ev_str (av_cons (ev_sub hG.toFm (ev_var hG.toFm 2) ev_int) (av_cons (ev_var hG.toFm 3) (av_cons (ev_var hG.toFm 4) (av_cons (ev_sub hG.toFm (ev_var hG.toFm 2) ev_int) av_nil)))))) (av_cons (ev_tup (av_cons ev_str (av_cons (ev_bin (s_add hG.toFm.K) ev_int (ev_bin s_mod (ev_bin s_div (ev_var hG.toFm 1) ev_int) (ev_bin s_pow ev_int ev_int))) av_nil))) av_nil)))))))
  (sv_one (sv_ret (ev_sub hG.toFm (ev_var hG.toFm 6) (ev_bin s_mod (ev_var hG.toFm 1) ev_int)))))))))))
theorem cl__law_good {f : Addr} {fd : FuncData} (F : Fun K "_law_good" "_law_good" s__law_good f fd) (hm : mg "_law_good" = some (.ref f)) (hb : Binds K fd ["_law_script"] []) (m_min : mg "min" = none) (c__law_of : Cl P w K mg base 1 "_law_of" (spD K 2 false f__law_of)) (c__law_names : Cl P w K mg base 1 "_law_names" (spD K 2 true f__law_names)) : Cl P w K mg base 2 "_law_good" (spD K 1 false f__law_good) :=
  fn_dl (ps := ["_law_script"]) F sc__law_good hm hb (fun _ hG => sv__law_good hG m_min c__law_of c__law_names) fun _ _ _ h => h
/-! ### _law_odd -/
abbrev s__law_odd : Stmt := topS 31
theorem sc__law_odd : FnScope N__law_odd ["_law_cell"] (defScope s__law_odd) := ⟨rfl, rfl, rfl, by decide +kernel, rfl, by decide +kernel, by decide +kernel⟩
theorem nd__law_odd : N__law_odd.Nodup := by decide +kernel
theorem sv__law_odd {ι : Type} {G : ι → Cx} (hG : Fb G K mg base P w N__law_odd (defScope s__law_odd) 0) :
    SV K false [] [] [] (TSs G (defBody s__law_odd)) D__law_odd := by
  unfold D__law_odd
  exact (sv_cons ((sv_set hG.toFm nd__law_odd hG.fb 1 (by decide) (EVF.ev (evf_lst (av_cons ev_non (av_cons ev_bl (av_cons ev_bl (av_cons (ev_neg ev_int) (av_cons ev_int (av_cons (ev_bin s_pow ev_int ev_int) (av_cons ev_str (av_cons ev_str (av_cons ev_str (av_cons ev_str (av_cons ev_int (av_cons ev_int (av_cons ev_str (av_cons (ev_tup (av_cons ev_int av_nil)) (av_cons (ev_neg ev_int) (av_cons (EVF.ev (evf_lst (av_cons ev_int av_nil))) av_nil))))))))))))))))))))
  (sv_one (sv_ret (ev_sub hG.toFm (ev_var hG.toFm 1) (ev_bin s_mod (ev_var hG.toFm 0) ev_int)))))
theorem cl__law_odd {f : Addr} {fd : FuncData} (F : Fun K "_law_odd" "_law_odd" s__law_odd f fd) (hm : mg "_law_odd" = some (.ref f)) (hb : Binds K fd ["_law_cell"] []) : Cl P w K mg base 1 "_law_odd" (spD K 1 false f__law_odd) :=
  fn_dl (ps := ["_law_cell"]) F sc__law_odd hm hb (fun _ hG => sv__law_odd hG) fun _ _ _ h => h
/-! ### _law_bent -/
abbrev s__law_bent : Stmt := topS 32
theorem sc__law_bent : FnScope N__law_bent ["_law_entry", "_law_cell", "_law_odd_here"] (defScope s__law_bent) := ⟨rfl, rfl, rfl, by decide +kernel, rfl, by decide +kernel, by decide +kernel⟩
theorem nd__law_bent : N__law_bent.Nodup := by decide +kernel
theorem sv__law_bent {ι : Type} {G : ι → Cx} (hG : Fb G K mg base P w N__law_bent (defScope s__law_bent) 0) (m_len : mg "len" = none) (m_list : mg "list" = none) :
    SV K false [] [] [] (TSs G (defBody s__law_bent)) D__law_bent := by
  unfold D__law_bent
  exact (sv_cons ((sv_set hG.toFm nd__law_bent hG.fb 3 (by decide) (ev_bin s_mod (ev_bin s_div (ev_var hG.toFm 1) ev_int) (ev_bltF hG.toFm (c_len hG.toFm.K) m_len (av_cons (ev_var hG.toFm 0) av_nil)))))
  (sv_cons (sv_if (bv_cmp s_lt (ev_bin s_mod (ev_var hG.toFm 1) ev_int) ev_int)
    (sv_one (sv_ret (ev_bin (s_add hG.toFm.K) (ev_bin (s_add hG.toFm.K) (ev_slc hG.toFm.K (ev_var hG.toFm 0) pv_none (pv_some (ev_var hG.toFm 3))) (ev_tup (av_cons (ev_var hG.toFm 2) av_nil))) (ev_slc hG.toFm.K (ev_var hG.toFm 0) (pv_some (ev_bin (s_add hG.toFm.K) (ev_var hG.toFm 3) ev_int)) pv_none))))
    sv_nil)
  (sv_cons ((sv_set hG.toFm nd__law_bent hG.fb 4 (by decide) (ev_bin (s_add hG.toFm.K) (ev_bin (s_add hG.toFm.K) (ev_bin (s_add hG.toFm.K) (ev_slc hG.toFm.K (ev_var hG.toFm 0) pv_none (pv_some ev_int)) (ev_slc hG.toFm.K (ev_var hG.toFm 0) (pv_some ev_int) (pv_some ev_int))) (ev_slc hG.toFm.K (ev_var hG.toFm 0) (pv_some ev_int) (pv_some ev_int))) (ev_slc hG.toFm.K (ev_var hG.toFm 0) (pv_some ev_int) pv_none))))
  (sv_cons ((sv_set hG.toFm nd__law_bent hG.fb 5 (by decide) (EVF.ev (evf_lst (av_cons (ev_slc hG.toFm.K (ev_var hG.toFm 0) pv_none (pv_some (ev_neg ev_int))) (av_cons (ev_bin (s_add hG.toFm.K) (ev_var hG.toFm 0) (ev_tup (av_cons (ev_var hG.toFm 2) av_nil))) (av_cons (EVF.ev (evf_bltT hG.toFm (c_listA hG.toFm) m_list (av_cons (ev_var hG.toFm 0) av_nil))) (av_cons (ev_var hG.toFm 2) (av_cons (ev_var hG.toFm 4) av_nil)))))))))
  (sv_one (sv_ret (ev_sub hG.toFm (ev_var hG.toFm 5) (ev_bin s_sub (ev_bin s_mod (ev_var hG.toFm 1) ev_int) ev_int))))))))
theorem cl__law_bent {f : Addr} {fd : FuncData} (F : Fun K "_law_bent" "_law_bent" s__law_bent f fd) (hm : mg "_law_bent" = some (.ref f)) (hb : Binds K fd ["_law_entry", "_law_cell", "_law_odd_here"] []) (m_len : mg "len" = none) (m_list : mg "list" = none) : Cl P w K mg base 1 "_law_bent" (spD K 3 false f__law_bent) :=
  fn_dl (ps := ["_law_entry", "_law_cell", "_law_odd_here"]) F sc__law_bent hm hb (fun _ hG => sv__law_bent hG m_len m_list) fun _ _ _ h => h
/-! ### _law_is_name -/
abbrev s__law_is_name : Stmt := topS 33
theorem sc__law_is_name : FnScope N__law_is_name ["_law_thing"] (defScope s__law_is_name) := ⟨rfl, rfl, rfl, by decide +kernel, rfl, by decide +kernel, by decide +kernel⟩
theorem nd__law_is_name : N__law_is_name.Nodup := by decide +kernel
theorem sv__law_is_name {ι : Type} {G : ι → Cx} (hG : Fb G K mg base P w N__law_is_name (defScope s__law_is_name) 0) (m_str : mg "str" = none) (m_isinstance : mg "isinstance" = none) (m_len : mg "len" = none) (m_all : mg "all" = none) :
    SV K false [] [] [] (TSs G (defBody s__law_is_name)) D__law_is_name := by
  unfold D__law_is_name
  exact (sv_cons (sv_if (BW.bv (bw_or (bv_not (bv_val (ev_bltF hG.toFm (c_isi hG.toFm.K) m_isinstance (av_cons (ev_var hG.toFm 0) (av_cons (ev_bltn hG.toFm m_str (v := .ty "str") (by decide +kernel) rfl) av_nil))))) (bw_or1 (bv_not (bv_chain s_le s_le ev_int (ev_bltF hG.toFm (c_len hG.toFm.K) m_len (av_cons (ev_var hG.toFm 0) av_nil)) ev_int)))))
    (sv_one (sv_ret ev_bl))
    sv_nil)
  (sv_one (sv_ret (ev_bltF hG.toFm (c_all hG.toFm) m_all (av_cons (EVF.ev (evf_lc hG.toFm nd__law_is_name [("_law_sign", 1)] (iv_val hG.toFm.K (ev_var hG.toFm 0)) (tv_nameB hG.toFm nd__law_is_name _ 1 (by decide)) cv_nil (ev_cmp (s_inA (fm_blk hG.toFm _)) (ev_var (fm_blk hG.toFm _) 1) ev_str))) av_nil)))))
theorem cl__law_is_name {f : Addr} {fd : FuncData} (F : Fun K "_law_is_name" "_law_is_name" s__law_is_name f fd) (hm : mg "_law_is_name" = some (.ref f)) (hb : Binds K fd ["_law_thing"] []) (m_str : mg "str" = none) (m_isinstance : mg "isinstance" = none) (m_len : mg "len" = none) (m_all : mg "all" = none) : Cl P w K mg base 1 "_law_is_name" (spD K 1 false f__law_is_name) :=
  fn_dl (ps := ["_law_thing"]) F sc__law_is_name hm hb (fun _ hG => sv__law_is_name hG m_str m_isinstance m_len m_all) fun _ _ _ h => h
/-! ### _law_is_whole -/
abbrev s__law_is_whole : Stmt := topS 34
theorem sc__law_is_whole : FnScope N__law_is_whole ["_law_thing", "_law_least", "_law_most"] (defScope s__law_is_whole) := ⟨rfl, rfl, rfl, by decide +kernel, rfl, by decide +kernel, by decide +kernel⟩
theorem nd__law_is_whole : N__law_is_whole.Nodup := by decide +kernel
theorem sv__law_is_whole {ι : Type} {G : ι → Cx} (hG : Fb G K mg base P w N__law_is_whole (defScope s__law_is_whole) 0) (m_int : mg "int" = none) (m_isinstance : mg "isinstance" = none) (m_bool : mg "bool" = none) :
    SV K false [] [] [] (TSs G (defBody s__law_is_whole)) D__law_is_whole := by
  unfold D__law_is_whole
  exact (sv_one (sv_ret (ev_and (ev_bltF hG.toFm (c_isi hG.toFm.K) m_isinstance (av_cons (ev_var hG.toFm 0) (av_cons (ev_bltn hG.toFm m_int (v := .ty "int") (by decide +kernel) rfl) av_nil))) (ev_and (ev_not (ev_bltF hG.toFm (c_isi hG.toFm.K) m_isinstance (av_cons (ev_var hG.toFm 0) (av_cons (ev_bltn hG.toFm m_bool (v := .ty "bool") (by decide +kernel) rfl) av_nil)))) (ev_one (ev_chain s_le s_le (ev_var hG.toFm 1) (ev_var hG.toFm 0) (ev_var hG.toFm 2)))))))
theorem cl__law_is_whole {f : Addr} {fd : FuncData} (F : Fun K "_law_is_whole" "_law_is_whole" s__law_is_whole f fd) (hm : mg "_law_is_whole" = some (.ref f)) (hb : Binds K fd ["_law_thing", "_law_least", "_law_most"] []) (m_int : mg "int" = none) (m_isinstance : mg "isinstance" = none) (m_bool : mg "bool" = none) : Cl P w K mg base 1 "_law_is_whole" (spD K 3 false f__law_is_whole) :=
  fn_dl (ps := ["_law_thing", "_law_least", "_law_most"]) F sc__law_is_whole hm hb (fun _ hG => sv__law_is_whole hG m_int m_isinstance m_bool) fun _ _ _ h => h
/-! ### _law_is_entry -/
abbrev s__law_is_entry : Stmt := topS 35
theorem sc__law_is_entry : FnScope N__law_is_entry ["_law_entry"] (defScope s__law_is_entry) := ⟨rfl, rfl, rfl, by decide +kernel, rfl, by decide +kernel, by decide +kernel⟩
theorem nd__law_is_entry : N__law_is_entry.Nodup := by decide +kernel
theorem sv__law_is_entry {ι : Type} {G : ι → Cx} (hG : Fb G K mg base P w N__law_is_entry (defScope s__law_is_entry) 1) (m_tuple : mg "tuple" = none) (m_isinstance : mg "isinstance" = none) (m_len : mg "len" = none) (m_int : mg "int" = none) (c__law_is_whole : Cl P w K mg base 1 "_law_is_whole" (spD K 3 false f__law_is_whole)) (c__law_is_name : Cl P w K mg base 1 "_law_is_name" (spD K 1 false f__law_is_name)) :
    SV K false [] [] [] (TSs G (defBody s__law_is_entry)) D__law_is_entry := by
  unfold D__law_is_entry
  exact (sv_cons (sv_if (BW.bv (bw_or (bv_not (bv_val (ev_bltF hG.toFm (c_isi hG.toFm.K) m_isinstance (av_cons (ev_var hG.toFm 0) (av_cons (ev_bltn hG.toFm m_tuple (v := .ty "tuple") (by decide +kernel) rfl) av_nil))))) (bw_or (bv_cmp s_lt (ev_bltF hG.toFm (c_len hG.toFm.K) m_len (av_cons (ev_var hG.toFm 0) av_nil)) ev_int) (bw_or1 (bv_cmp (s_notinC hG.toFm) (ev_sub hG.toFm (ev_var hG.toFm 0) ev_int) (ev_tup (av_cons ev_str (av_cons ev_str (av_cons ev_str (av_cons ev_str av_nil))))))))))
    (sv_one (sv_ret ev_bl))
    sv_nil)
  (sv_cons (sv_if (bv_cmp (s_eqA hG.toFm) (ev_sub hG.toFm (ev_var hG.toFm 0) ev_int) ev_str)
    (sv_one (sv_ret (ev_and (ev_cmp (s_eqA hG.toFm) (ev_bltF hG.toFm (c_len hG.toFm.K) m_len (av_cons (ev_var hG.toFm 0) av_nil)) ev_int) (ev_one (ev_call hG.toFm c__law_is_whole (av_cons (ev_sub hG.toFm (ev_var hG.toFm 0) ev_int) (av_cons ev_int (av_cons (ev_bin s_pow ev_int ev_int) av_nil))))))))
    sv_nil)
  (sv_cons (sv_if (BW.bv (bw_or (bv_cmp (s_neA hG.toFm) (ev_bltF hG.toFm (c_len hG.toFm.K) m_len (av_cons (ev_var hG.toFm 0) av_nil)) (ev_bin s_sub ev_int (ev_bltT hG.toFm c_int m_int (av_cons (ev_cmp (s_eqA hG.toFm) (ev_sub hG.toFm (ev_var hG.toFm 0) ev_int) ev_str) av_nil)))) (bw_or1 (bv_not (bv_val (ev_call hG.toFm c__law_is_name (av_cons (ev_sub hG.toFm (ev_var hG.toFm 0) ev_int) av_nil)))))))
    (sv_one (sv_ret ev_bl))
    sv_nil)
  (sv_cons (sv_if (BW.bv (bw_or (bv_not (bv_val (ev_call hG.toFm c__law_is_whole (av_cons (ev_sub hG.toFm (ev_var hG.toFm 0) ev_int) (av_cons ev_int (av_cons ev_int av_nil)))))) (bw_or1 (bv_not (bv_val (ev_call hG.toFm c__law_is_whole (av_cons (ev_sub hG.toFm (ev_var hG.toFm 0) ev_int) (av_cons (ev_sub hG.toFm (ev_var hG.toFm 0) ev_int) (av_cons ev_int av_nil)))))))))
    (sv_one (sv_ret ev_bl))
    sv_nil)
  (sv_cons (sv_if (bv_cmp (s_eqA hG.toFm) (ev_sub hG.toFm (ev_var hG.toFm 0) ev_int) ev_str)
    (sv_one (sv_ret (ev_call hG.toFm c__law_is_whole (av_cons (ev_sub hG.toFm (ev_var hG.toFm 0) ev_int) (av_cons (ev_neg ev_int) (av_cons ev_int av_nil))))))
    sv_nil)
  (sv_one (sv_ret (ev_or (ev_cmp (s_eqA hG.toFm) (ev_sub hG.toFm (ev_var hG.toFm 0) ev_int) ev_str) (ev_one (ev_call hG.toFm c__law_is_name (av_cons (ev_sub hG.toFm (ev_var hG.toFm 0) ev_int) av_nil)))))))))))
theorem cl__law_is_entry {f : Addr} {fd : FuncData} (F : Fun K "_law_is_entry" "_law_is_entry" s__law_is_entry f fd) (hm : mg "_law_is_entry" = some (.ref f)) (hb : Binds K fd ["_law_entry"] []) (m_tuple : mg "tuple" = none) (m_isinstance : mg "isinstance" = none) (m_len : mg "len" = none) (m_int : mg "int" = none) (c__law_is_whole : Cl P w K mg base 1 "_law_is_whole" (spD K 3 false f__law_is_whole)) (c__law_is_name : Cl P w K mg base 1 "_law_is_name" (spD K 1 false f__law_is_name)) : Cl P w K mg base 2 "_law_is_entry" (spD K 1 false f__law_is_entry) :=
  fn_dl (ps := ["_law_entry"]) F sc__law_is_entry hm hb (fun _ hG => sv__law_is_entry hG m_tuple m_isinstance m_len m_int c__law_is_whole c__law_is_name) fun _ _ _ h => h
/-! ### _law_refused -/
abbrev s__law_refused : Stmt := topS 36
theorem sc__law_refused : FnScope N__law_refused ["_law_entry"] (defScope s__law_refused) := ⟨rfl, rfl, rfl, by decide +kernel, rfl, by decide +kernel, by decide +kernel⟩
theorem nd__law_refused : N__law_refused.Nodup := by decide +kernel
def suiteD (a : Addr) : Env' → Out := seqD (fun ρ => setD true 1 (lstD (consD (isED a false (nd 2 ρ)) (consD (isED a false (nd 2 ρ)) (consD (isED a false (nd 2 ρ)) (consD (isED a false (nd 2 ρ)) (some [])))))) ρ) (seqD (fun ρ => setD true 1 (b2 gCat (nd 1 ρ) (lstD (consD (isED a false (nd 2 ρ)) (consD (isED a false (nd 2 ρ)) (some []))))) ρ) (fun ρ => rtD (andV (isED a true (nd 2 ρ)) (andV (isED a true (nd 2 ρ)) (b2 (gIn true) (some (.bl true)) (nd 1 ρ))))))
theorem suite_true (a : Addr) (ρ : Env') (h : 2 < ρ.length) : suiteD a (ρ.set 2 (some (.raw (.ref a)))) = .rt (.bl true) := by
  have h1 : 1 < ρ.length := by omega
  have e1 : ∀ (τ : T), nd 2 ((ρ.set 2 (some (.raw (.ref a)))).set 1 (some τ)) = some (.raw (.ref a)) := fun τ => by rw [nd_set_ne (by decide), nd_set_self h]
  have e3 : isED a true (some (.raw (.ref a))) = some (.bl true) := if_pos rfl
  have e4 : isED a false (some (.raw (.ref a))) = some (.bl false) := if_pos rfl
  have e2 : ∀ (ρ' : Env') (τ : T), 1 < ρ'.length → nd 1 (ρ'.set 1 (some τ)) = some τ := fun ρ' τ h => nd_set_self h
  unfold suiteD
  simp only [seqD, nd_set_self h, e4, consD, lstD, List.length_cons, List.length_nil, setD, Bool.true_or, if_true, show (0 + 1 + 1 + 1 + 1 ≤ sizeLine) from by decide, show (0 + 1 + 1 ≤ sizeLine) from by decide, e1, e2 _ _ (show 1 < (ρ.set 2 (some (T.raw (.ref a)))).length by simpa using h1)]
  simp only [b2, gCat, List.length_cons, List.length_nil, if_true, show (0 + 1 + 1 + 1 + 1 + (0 + 1 + 1) ≤ sizeLine) from by decide, List.cons_append, List.nil_append, nd_set_ne (show (1 : Nat) ≠ 2 by decide), nd_set_self h, e3, e1]
  simp only [e2 _ _ (show 1 < ((ρ.set 2 (some (T.raw (.ref a)))).set 1 (some (T.lst [.bl false, .bl false, .bl false, .bl false]))).length by simpa using h1), andV, b2]
  rfl
theorem sv__law_refused {ι : Type} {G : ι → Cx} (hG : Fb G K mg base P w N__law_refused (defScope s__law_refused) 6) (hst : ∀ i, (G i).stack = (G i).env :: (G i).outer) (hfm : ∀ i, (G i).env.frame = some (G i).env.locals) (m_isinstance : mg "isinstance" = none) (m_ValueError : mg "ValueError" = none) (cx_need_entry : ClX P w K mg base 6 "need_entry" (spX K mg 1 x_need_entry)) {C CB : Addr} (gR : mg "BadEntry" = some (.ref C)) (gB : mg "BookError" = some (.ref CB)) (hX : ExcC K C) (hit : Hit K C CB) (kR : IsK K C (.ref C) true) (kV : IsK K C (.ty "ValueError") true) {C_BadBook : Addr} (g_BadBook : mg "BadBook" = some (.ref C_BadBook)) (k_BadBook : IsK K C (.ref C_BadBook) false) {C_NoEntry : Addr} (g_NoEntry : mg "NoEntry" = some (.ref C_NoEntry)) (k_NoEntry : IsK K C (.ref C_NoEntry) false) {C_Closed : Addr} (g_Closed : mg "Closed" = some (.ref C_Closed)) (k_Closed : IsK K C (.ref C_Closed) false) {C_TooMany : Addr} (g_TooMany : mg "TooMany" = some (.ref C_TooMany)) (k_TooMany : IsK K C (.ref C_TooMany) false) {C_Gone : Addr} (g_Gone : mg "Gone" = some (.ref C_Gone)) (k_Gone : IsK K C (.ref C_Gone) false) {C_BadText : Addr} (g_BadText : mg "BadText" = some (.ref C_BadText)) (k_BadText : IsK K C (.ref C_BadText) false) :
    SV K false [] [] [] (TSs G (defBody s__law_refused)) D__law_refused := by
  unfold D__law_refused
  refine sv_cons (sv_try hG.toFm nd__law_refused hst hfm cx_need_entry gB (fun x C' a hm hne => ?_) (fun x ρ => ?_) (fun ts x hx => ?_) (j := 6) (ia := 0) (ie := 2)) (sv_one (sv_ret ev_bl))
  · by_cases e : x = "BadEntry"
    · subst e
      rw [gR] at hm
      cases hm
      have hS := fs_su (a := a) (cls := .ref C) (d := none) hG.toFm
      exact ⟨hit, suiteD a, (sv_cons (sv_setS hS nd__law_refused (fb_su hG.fb) 1 (by decide) (EVF.ev (evf_lst (av_cons (ev_isE hG.toFm hX m_isinstance 2 k_BadBook (ev_globS hS g_BadBook (v := .ref C_BadBook) rfl (fun _ => rep_raw.mpr rfl))) (av_cons (ev_isE hG.toFm hX m_isinstance 2 k_NoEntry (ev_globS hS g_NoEntry (v := .ref C_NoEntry) rfl (fun _ => rep_raw.mpr rfl))) (av_cons (ev_isE hG.toFm hX m_isinstance 2 k_Closed (ev_globS hS g_Closed (v := .ref C_Closed) rfl (fun _ => rep_raw.mpr rfl))) (av_cons (ev_isE hG.toFm hX m_isinstance 2 k_TooMany (ev_globS hS g_TooMany (v := .ref C_TooMany) rfl (fun _ => rep_raw.mpr rfl))) av_nil)))))))
   (sv_cons (sv_setS hS nd__law_refused (fb_su hG.fb) 1 (by decide) (EVF.ev (evf_cat (ev_varS hS 1) (EVF.ev (evf_lst (av_cons (ev_isE hG.toFm hX m_isinstance 2 k_Gone (ev_globS hS g_Gone (v := .ref C_Gone) rfl (fun _ => rep_raw.mpr rfl))) (av_cons (ev_isE hG.toFm hX m_isinstance 2 k_BadText (ev_globS hS g_BadText (v := .ref C_BadText) rfl (fun _ => rep_raw.mpr rfl))) av_nil)))))))
   (sv_one (sv_ret (ev_and (ev_isE hG.toFm hX m_isinstance 2 kR (ev_globS hS gR (v := .ref C) rfl (fun _ => rep_raw.mpr rfl))) (ev_and (ev_isE hG.toFm hX m_isinstance 2 kV (ev_bltnS hS m_ValueError (v := .ty "ValueError") (by decide +kernel) rfl)) (ev_one (ev_cmp (s_notin hS.K) ev_bl (ev_varS hS 1))))))))), fun ρ h => suite_true a ρ h⟩
    · exact absurd (if_neg e) hne
  · by_cases e : x = "BadEntry"
    · rw [if_pos e]; exact ⟨fun h => (nomatch h), fun h => (nomatch h), fun h => (nomatch h)⟩
    · rw [if_neg e]; exact ⟨fun h => (nomatch h), fun h => (nomatch h), fun h => (nomatch h)⟩
  · rw [x_need_entry_only ts x hx]; exact ⟨C, gR⟩
theorem cl__law_refused {f : Addr} {fd : FuncData} (F : Fun K "_law_refused" "_law_refused" s__law_refused f fd) (hm : mg "_law_refused" = some (.ref f)) (hb : Binds K fd ["_law_entry"] []) (m_isinstance : mg "isinstance" = none) (m_ValueError : mg "ValueError" = none) (cx_need_entry : ClX P w K mg base 6 "need_entry" (spX K mg 1 x_need_entry)) {C CB : Addr} (gR : mg "BadEntry" = some (.ref C)) (gB : mg "BookError" = some (.ref CB)) (hX : ExcC K C) (hit : Hit K C CB) (kR : IsK K C (.ref C) true) (kV : IsK K C (.ty "ValueError") true) {C_BadBook : Addr} (g_BadBook : mg "BadBook" = some (.ref C_BadBook)) (k_BadBook : IsK K C (.ref C_BadBook) false) {C_NoEntry : Addr} (g_NoEntry : mg "NoEntry" = some (.ref C_NoEntry)) (k_NoEntry : IsK K C (.ref C_NoEntry) false) {C_Closed : Addr} (g_Closed : mg "Closed" = some (.ref C_Closed)) (k_Closed : IsK K C (.ref C_Closed) false) {C_TooMany : Addr} (g_TooMany : mg "TooMany" = some (.ref C_TooMany)) (k_TooMany : IsK K C (.ref C_TooMany) false) {C_Gone : Addr} (g_Gone : mg "Gone" = some (.ref C_Gone)) (k_Gone : IsK K C (.ref C_Gone) false) {C_BadText : Addr} (g_BadText : mg "BadText" = some (.ref C_BadText)) (k_BadText : IsK K C (.ref C_BadText) false) : Cl P w K mg base 7 "_law_refused" (spD K 1 false f__law_refused) :=
  fn_dlT (ps := ["_law_entry"]) F sc__law_refused hm hb (fun _ hG hst hfm => sv__law_refused hG hst hfm m_isinstance m_ValueError cx_need_entry gR gB hX hit kR kV g_BadBook k_BadBook g_NoEntry k_NoEntry g_Closed k_Closed g_TooMany k_TooMany g_Gone k_Gone g_BadText k_BadText) fun _ _ _ h => h
/-! ### law -/
abbrev s_law : Stmt := topS 37
theorem sc_law : FnScope N_law ["_law_script"] (defScope s_law) := ⟨rfl, rfl, rfl, by decide +kernel, rfl, by decide +kernel, by decide +kernel⟩
theorem nd_law : N_law.Nodup := by decide +kernel
theorem sv_law {ι : Type} {G : ι → Cx} {t_MOST : Tok} (hG : Fb G K mg base P w N_law (defScope s_law) 7) (m_bool : mg "bool" = none) (m_isinstance : mg "isinstance" = none) (m_tuple : mg "tuple" = none) (g_MOST : mg "MOST" = some (.int 30 t_MOST)) (c__law_good : Cl P w K mg base 2 "_law_good" (spD K 1 false f__law_good)) (c__law_of : Cl P w K mg base 1 "_law_of" (spD K 2 false f__law_of)) (c__law_odd : Cl P w K mg base 1 "_law_odd" (spD K 1 false f__law_odd)) (c__law_bent : Cl P w K mg base 1 "_law_bent" (spD K 3 false f__law_bent)) (c__law_names : Cl P w K mg base 1 "_law_names" (spD K 2 true f__law_names)) (c_is_worth : Cl P w K mg base 2 "is_worth" (spD K 1 false f_is_worth)) (c_is_day : Cl P w K mg base 2 "is_day" (spD K 1 false f_is_day)) (c_is_name : Cl P w K mg base 1 "is_name" (spD K 1 false f_is_name)) (c__law_is_whole : Cl P w K mg base 1 "_law_is_whole" (spD K 3 false f__law_is_whole)) (c__law_is_name : Cl P w K mg base 1 "_law_is_name" (spD K 1 false f__law_is_name)) (c__law_is_entry : Cl P w K mg base 2 "_law_is_entry" (spD K 1 false f__law_is_entry)) (c__law_refused : Cl P w K mg base 7 "_law_refused" (spD K 1 false f__law_refused)) (c_need_entry : Cl P w K mg base 6 "need_entry" (spD K 1 false f_need_entry)) :
    SV K false [] [] [] (TSs G (defBody s_law)) D_law := by
  unfold D_law
  exact (sv_cons ((sv_set hG.toFm nd_law hG.fb 1 (by decide) (ev_call hG.toFm c__law_good (av_cons (ev_var hG.toFm 0) av_nil))))
  (sv_cons ((sv_set hG.toFm nd_law hG.fb 2 (by decide) (ev_call hG.toFm c__law_odd (av_cons (ev_call hG.toFm c__law_of (av_cons (ev_var hG.toFm 0) (av_cons ev_int av_nil))) av_nil))))
  (sv_cons (sv_if (bv_cmp s_gt (ev_bin s_mod (ev_call hG.toFm c__law_of (av_cons (ev_var hG.toFm 0) (av_cons ev_int av_nil))) ev_int) ev_int)
    (sv_one ((sv_set hG.toFm nd_law hG.fb 1 (by decide) (ev_call hG.toFm c__law_bent (av_cons (ev_var hG.toFm 1) (av_cons (ev_bin s_div (ev_call hG.toFm c__law_of (av_cons (ev_var hG.toFm 0) (av_cons ev_int av_nil))) ev_int) (av_cons (ev_var hG.toFm 2) av_nil)))))))
    sv_nil)
  (sv_cons ((sv_set hG.toFm nd_law hG.fb 3 (by decide) (ev_sub hG.toFm (EVF.ev (evf_lst (av_cons (ev_var hG.toFm 2) (av_cons (ev_sub hG.toFm (EVF.ev (evf_call hG.toFm c__law_names (av_cons (ev_call hG.toFm c__law_of (av_cons (ev_var hG.toFm 0) (av_cons ev_int av_nil))) (av_cons ev_int av_nil)))) ev_int) av_nil)))) (ev_bin s_mod (ev_bin s_div (ev_call hG.toFm c__law_of (av_cons (ev_var hG.toFm 0) (av_cons ev_int av_nil))) ev_int) ev_int))))
  (sv_cons ((sv_set hG.toFm nd_law hG.fb 4 (by decide) (EVF.ev (evf_lst (av_cons (ev_call hG.toFm c_is_name (av_cons (ev_var hG.toFm 3) av_nil)) (av_cons (ev_call hG.toFm c_is_day (av_cons (ev_var hG.toFm 3) av_nil)) (av_cons (ev_call hG.toFm c_is_worth (av_cons (ev_var hG.toFm 3) av_nil)) av_nil)))))))
  (sv_cons ((sv_set hG.toFm nd_law hG.fb 5 (by decide) (EVF.ev (evf_lst (av_cons (ev_call hG.toFm c__law_is_name (av_cons (ev_var hG.toFm 3) av_nil)) (av_cons (ev_call hG.toFm c__law_is_whole (av_cons (ev_var hG.toFm 3) (av_cons ev_int (av_cons ev_int av_nil)))) (av_cons (ev_call hG.toFm c__law_is_whole (av_cons (ev_var hG.toFm 3) (av_cons (ev_neg ev_int) (av_cons ev_int av_nil)))) av_nil)))))))
  (sv_cons (sv_if (BW.bv (bw_or (bv_cmp (s_neA hG.toFm) (EVF.ev (evf_lc hG.toFm nd_law [("_law_one", 7)] (iv_val hG.toFm.K (ev_var hG.toFm 4)) (tv_nameB hG.toFm nd_law _ 7 (by decide)) cv_nil (ev_bltF (fm_blk hG.toFm _) (c_isi (fm_blk hG.toFm _).K) m_isinstance (av_cons (ev_var (fm_blk hG.toFm _) 7) (av_cons (ev_bltn (fm_blk hG.toFm _) m_bool (v := .ty "bool") (by decide +kernel) rfl) av_nil))))) (EVF.ev (evf_lst (av_cons ev_bl (av_cons ev_bl (av_cons ev_bl av_nil)))))) (bw_or (bv_cmp (s_neA hG.toFm) (ev_var hG.toFm 4) (ev_var hG.toFm 5)) (bw_or1 (bv_cmp (s_neA hG.toFm) (ev_glob hG.toFm g_MOST (v := .int 30) ⟨_, rfl⟩ (fun _ => rep_int.mpr rfl)) ev_int)))))
    (sv_one (sv_ret ev_bl))
    sv_nil)
  (sv_cons (sv_if (bv_not (bv_val (ev_call hG.toFm c__law_is_entry (av_cons (ev_var hG.toFm 1) av_nil))))
    (sv_one (sv_ret (ev_call hG.toFm c__law_refused (av_cons (ev_var hG.toFm 1) av_nil))))
    sv_nil)
  (sv_cons ((sv_set hG.toFm nd_law hG.fb 6 (by decide) (ev_call hG.toFm c_need_entry (av_cons (ev_var hG.toFm 1) av_nil))))
  (sv_one (sv_ret (ev_and (ev_bltF hG.toFm (c_isi hG.toFm.K) m_isinstance (av_cons (ev_var hG.toFm 6) (av_cons (ev_bltn hG.toFm m_tuple (v := .ty "tuple") (by decide +kernel) rfl) av_nil))) (ev_one (ev_cmp (s_eqA hG.toFm) (ev_var hG.toFm 6) (ev_var hG.toFm 1)))))))))))))))
theorem ok_law {t_MOST : Tok} {f : Addr} {fd : FuncData} (F : Fun K "law" "law" s_law f fd) (m_bool : mg "bool" = none) (m_isinstance : mg "isinstance" = none) (m_tuple : mg "tuple" = none) (g_MOST : mg "MOST" = some (.int 30 t_MOST)) (c__law_good : Cl P w K mg base 2 "_law_good" (spD K 1 false f__law_good)) (c__law_of : Cl P w K mg base 1 "_law_of" (spD K 2 false f__law_of)) (c__law_odd : Cl P w K mg base 1 "_law_odd" (spD K 1 false f__law_odd)) (c__law_bent : Cl P w K mg base 1 "_law_bent" (spD K 3 false f__law_bent)) (c__law_names : Cl P w K mg base 1 "_law_names" (spD K 2 true f__law_names)) (c_is_worth : Cl P w K mg base 2 "is_worth" (spD K 1 false f_is_worth)) (c_is_day : Cl P w K mg base 2 "is_day" (spD K 1 false f_is_day)) (c_is_name : Cl P w K mg base 1 "is_name" (spD K 1 false f_is_name)) (c__law_is_whole : Cl P w K mg base 1 "_law_is_whole" (spD K 3 false f__law_is_whole)) (c__law_is_name : Cl P w K mg base 1 "_law_is_name" (spD K 1 false f__law_is_name)) (c__law_is_entry : Cl P w K mg base 2 "_law_is_entry" (spD K 1 false f__law_is_entry)) (c__law_refused : Cl P w K mg base 7 "_law_refused" (spD K 1 false f__law_refused)) (c_need_entry : Cl P w K mg base 6 "need_entry" (spD K 1 false f_need_entry)) : FnOk P w K mg base CX0 8 f fd ["_law_script"] (spD K 1 false f_law) :=
  fn_ok (ps := ["_law_script"]) F sc_law (fun _ hG => sv_law hG m_bool m_isinstance m_tuple g_MOST c__law_good c__law_of c__law_odd c__law_bent c__law_names c_is_worth c_is_day c_is_name c__law_is_whole c__law_is_name c__law_is_entry c__law_refused c_need_entry) fun _ _ _ h => h
end
theorem all_mk {l : PySem.W.OpenLaw} {w : World} {K : PySem.W.Frag} {h : Heap} {mg : Str → Option Value} {fa : Addr} (X : K.In h) (G : h.Ns mainGlobals mg) (hfa : mg "law" = some (.ref fa))
    {fa_is_whole : Addr} {od_is_whole an_is_whole : Option Addr} {sl_is_whole : Array (Option Value)} {oc_is_whole kV_is_whole dc_is_whole pm_is_whole cd_is_whole ct_is_whole : Value}
    (a_is_whole : PySem.W.nsIn K mainGlobals "is_whole" = some (some (.ref fa_is_whole))) (l_is_whole : K.lookup fa_is_whole = some ⟨oc_is_whole, od_is_whole, .func (PySem.W.fnOf "is_whole" "is_whole" (defArgs s_is_whole) (defBody s_is_whole) (defScope s_is_whole) .none kV_is_whole dc_is_whole pm_is_whole an_is_whole cd_is_whole ct_is_whole), sl_is_whole⟩) (c_is_whole : PySem.W.codeIn K cd_is_whole "is_whole" = true) (k_is_whole : PySem.W.keepIn K (.ref fa_is_whole) = true)
    {fa_is_number : Addr} {od_is_number an_is_number : Option Addr} {sl_is_number : Array (Option Value)} {oc_is_number kV_is_number dc_is_number pm_is_number cd_is_number ct_is_number : Value}
    (a_is_number : PySem.W.nsIn K mainGlobals "is_number" = some (some (.ref fa_is_number))) (l_is_number : K.lookup fa_is_number = some ⟨oc_is_number, od_is_number, .func (PySem.W.fnOf "is_number" "is_number" (defArgs s_is_number) (defBody s_is_number) (defScope s_is_number) .none kV_is_number dc_is_number pm_is_number an_is_number cd_is_number ct_is_number), sl_is_number⟩) (c_is_number : PySem.W.codeIn K cd_is_number "is_number" = true) (k_is_number : PySem.W.keepIn K (.ref fa_is_number) = true)
    {fa_is_name : Addr} {od_is_name an_is_name : Option Addr} {sl_is_name : Array (Option Value)} {oc_is_name kV_is_name dc_is_name pm_is_name cd_is_name ct_is_name : Value}
    (a_is_name : PySem.W.nsIn K mainGlobals "is_name" = some (some (.ref fa_is_name))) (l_is_name : K.lookup fa_is_name = some ⟨oc_is_name, od_is_name, .func (PySem.W.fnOf "is_name" "is_name" (defArgs s_is_name) (defBody s_is_name) (defScope s_is_name) .none kV_is_name dc_is_name pm_is_name an_is_name cd_is_name ct_is_name), sl_is_name⟩) (c_is_name : PySem.W.codeIn K cd_is_name "is_name" = true) (k_is_name : PySem.W.keepIn K (.ref fa_is_name) = true)
    {fa_is_day : Addr} {od_is_day an_is_day : Option Addr} {sl_is_day : Array (Option Value)} {oc_is_day kV_is_day dc_is_day pm_is_day cd_is_day ct_is_day : Value}
    (a_is_day : PySem.W.nsIn K mainGlobals "is_day" = some (some (.ref fa_is_day))) (l_is_day : K.lookup fa_is_day = some ⟨oc_is_day, od_is_day, .func (PySem.W.fnOf "is_day" "is_day" (defArgs s_is_day) (defBody s_is_day) (defScope s_is_day) .none kV_is_day dc_is_day pm_is_day an_is_day cd_is_day ct_is_day), sl_is_day⟩) (c_is_day : PySem.W.codeIn K cd_is_day "is_day" = true) (k_is_day : PySem.W.keepIn K (.ref fa_is_day) = true)
    {fa_is_worth : Addr} {od_is_worth an_is_worth : Option Addr} {sl_is_worth : Array (Option Value)} {oc_is_worth kV_is_worth dc_is_worth pm_is_worth cd_is_worth ct_is_worth : Value}
    (a_is_worth : PySem.W.nsIn K mainGlobals "is_worth" = some (some (.ref fa_is_worth))) (l_is_worth : K.lookup fa_is_worth = some ⟨oc_is_worth, od_is_worth, .func (PySem.W.fnOf "is_worth" "is_worth" (defArgs s_is_worth) (defBody s_is_worth) (defScope s_is_worth) .none kV_is_worth dc_is_worth pm_is_worth an_is_worth cd_is_worth ct_is_worth), sl_is_worth⟩) (c_is_worth : PySem.W.codeIn K cd_is_worth "is_worth" = true) (k_is_worth : PySem.W.keepIn K (.ref fa_is_worth) = true)
    {fa_are_days : Addr} {od_are_days an_are_days : Option Addr} {sl_are_days : Array (Option Value)} {oc_are_days kV_are_days dc_are_days pm_are_days cd_are_days ct_are_days : Value}
    (a_are_days : PySem.W.nsIn K mainGlobals "are_days" = some (some (.ref fa_are_days))) (l_are_days : K.lookup fa_are_days = some ⟨oc_are_days, od_are_days, .func (PySem.W.fnOf "are_days" "are_days" (defArgs s_are_days) (defBody s_are_days) (defScope s_are_days) .none kV_are_days dc_are_days pm_are_days an_are_days cd_are_days ct_are_days), sl_are_days⟩) (c_are_days : PySem.W.codeIn K cd_are_days "are_days" = true) (k_are_days : PySem.W.keepIn K (.ref fa_are_days) = true)
    {fa_is_tell : Addr} {od_is_tell an_is_tell : Option Addr} {sl_is_tell : Array (Option Value)} {oc_is_tell kV_is_tell dc_is_tell pm_is_tell cd_is_tell ct_is_tell : Value}
    (a_is_tell : PySem.W.nsIn K mainGlobals "is_tell" = some (some (.ref fa_is_tell))) (l_is_tell : K.lookup fa_is_tell = some ⟨oc_is_tell, od_is_tell, .func (PySem.W.fnOf "is_tell" "is_tell" (defArgs s_is_tell) (defBody s_is_tell) (defScope s_is_tell) .none kV_is_tell dc_is_tell pm_is_tell an_is_tell cd_is_tell ct_is_tell), sl_is_tell⟩) (c_is_tell : PySem.W.codeIn K cd_is_tell "is_tell" = true) (k_is_tell : PySem.W.keepIn K (.ref fa_is_tell) = true)
    {fa_is_clear : Addr} {od_is_clear an_is_clear : Option Addr} {sl_is_clear : Array (Option Value)} {oc_is_clear kV_is_clear dc_is_clear pm_is_clear cd_is_clear ct_is_clear : Value}
    (a_is_clear : PySem.W.nsIn K mainGlobals "is_clear" = some (some (.ref fa_is_clear))) (l_is_clear : K.lookup fa_is_clear = some ⟨oc_is_clear, od_is_clear, .func (PySem.W.fnOf "is_clear" "is_clear" (defArgs s_is_clear) (defBody s_is_clear) (defScope s_is_clear) .none kV_is_clear dc_is_clear pm_is_clear an_is_clear cd_is_clear ct_is_clear), sl_is_clear⟩) (c_is_clear : PySem.W.codeIn K cd_is_clear "is_clear" = true) (k_is_clear : PySem.W.keepIn K (.ref fa_is_clear) = true)
    {fa_is_like : Addr} {od_is_like an_is_like : Option Addr} {sl_is_like : Array (Option Value)} {oc_is_like kV_is_like dc_is_like pm_is_like cd_is_like ct_is_like : Value}
    (a_is_like : PySem.W.nsIn K mainGlobals "is_like" = some (some (.ref fa_is_like))) (l_is_like : K.lookup fa_is_like = some ⟨oc_is_like, od_is_like, .func (PySem.W.fnOf "is_like" "is_like" (defArgs s_is_like) (defBody s_is_like) (defScope s_is_like) .none kV_is_like dc_is_like pm_is_like an_is_like cd_is_like ct_is_like), sl_is_like⟩) (c_is_like : PySem.W.codeIn K cd_is_like "is_like" = true) (k_is_like : PySem.W.keepIn K (.ref fa_is_like) = true)
    {fa_is_undo : Addr} {od_is_undo an_is_undo : Option Addr} {sl_is_undo : Array (Option Value)} {oc_is_undo kV_is_undo dc_is_undo pm_is_undo cd_is_undo ct_is_undo : Value}
    (a_is_undo : PySem.W.nsIn K mainGlobals "is_undo" = some (some (.ref fa_is_undo))) (l_is_undo : K.lookup fa_is_undo = some ⟨oc_is_undo, od_is_undo, .func (PySem.W.fnOf "is_undo" "is_undo" (defArgs s_is_undo) (defBody s_is_undo) (defScope s_is_undo) .none kV_is_undo dc_is_undo pm_is_undo an_is_undo cd_is_undo ct_is_undo), sl_is_undo⟩) (c_is_undo : PySem.W.codeIn K cd_is_undo "is_undo" = true) (k_is_undo : PySem.W.keepIn K (.ref fa_is_undo) = true)
    {fa_is_entry : Addr} {od_is_entry an_is_entry : Option Addr} {sl_is_entry : Array (Option Value)} {oc_is_entry kV_is_entry dc_is_entry pm_is_entry cd_is_entry ct_is_entry : Value}
    (a_is_entry : PySem.W.nsIn K mainGlobals "is_entry" = some (some (.ref fa_is_entry))) (l_is_entry : K.lookup fa_is_entry = some ⟨oc_is_entry, od_is_entry, .func (PySem.W.fnOf "is_entry" "is_entry" (defArgs s_is_entry) (defBody s_is_entry) (defScope s_is_entry) .none kV_is_entry dc_is_entry pm_is_entry an_is_entry cd_is_entry ct_is_entry), sl_is_entry⟩) (c_is_entry : PySem.W.codeIn K cd_is_entry "is_entry" = true) (k_is_entry : PySem.W.keepIn K (.ref fa_is_entry) = true)
    {fa_need_entry : Addr} {od_need_entry an_need_entry : Option Addr} {sl_need_entry : Array (Option Value)} {oc_need_entry kV_need_entry dc_need_entry pm_need_entry cd_need_entry ct_need_entry : Value}
    (a_need_entry : PySem.W.nsIn K mainGlobals "need_entry" = some (some (.ref fa_need_entry))) (l_need_entry : K.lookup fa_need_entry = some ⟨oc_need_entry, od_need_entry, .func (PySem.W.fnOf "need_entry" "need_entry" (defArgs s_need_entry) (defBody s_need_entry) (defScope s_need_entry) .none kV_need_entry dc_need_entry pm_need_entry an_need_entry cd_need_entry ct_need_entry), sl_need_entry⟩) (c_need_entry : PySem.W.codeIn K cd_need_entry "need_entry" = true) (k_need_entry : PySem.W.keepIn K (.ref fa_need_entry) = true)
    {fa__law_of : Addr} {od__law_of an__law_of : Option Addr} {sl__law_of : Array (Option Value)} {oc__law_of kV__law_of dc__law_of pm__law_of cd__law_of ct__law_of : Value}
    (a__law_of : PySem.W.nsIn K mainGlobals "_law_of" = some (some (.ref fa__law_of))) (l__law_of : K.lookup fa__law_of = some ⟨oc__law_of, od__law_of, .func (PySem.W.fnOf "_law_of" "_law_of" (defArgs s__law_of) (defBody s__law_of) (defScope s__law_of) .none kV__law_of dc__law_of pm__law_of an__law_of cd__law_of ct__law_of), sl__law_of⟩) (c__law_of : PySem.W.codeIn K cd__law_of "_law_of" = true) (k__law_of : PySem.W.keepIn K (.ref fa__law_of) = true)
    {fa__law_names : Addr} {od__law_names an__law_names : Option Addr} {sl__law_names : Array (Option Value)} {oc__law_names kV__law_names dc__law_names pm__law_names cd__law_names ct__law_names : Value}
    (a__law_names : PySem.W.nsIn K mainGlobals "_law_names" = some (some (.ref fa__law_names))) (l__law_names : K.lookup fa__law_names = some ⟨oc__law_names, od__law_names, .func (PySem.W.fnOf "_law_names" "_law_names" (defArgs s__law_names) (defBody s__law_names) (defScope s__law_names) .none kV__law_names dc__law_names pm__law_names an__law_names cd__law_names ct__law_names), sl__law_names⟩) (c__law_names : PySem.W.codeIn K cd__law_names "_law_names" = true) (k__law_names : PySem.W.keepIn K (.ref fa__law_names) = true)
    {fa__law_good : Addr} {od__law_good an__law_good : Option Addr} {sl__law_good : Array (Option Value)} {oc__law_good kV__law_good dc__law_good pm__law_good cd__law_good ct__law_good : Value}
    (a__law_good : PySem.W.nsIn K mainGlobals "_law_good" = some (some (.ref fa__law_good))) (l__law_good : K.lookup fa__law_good = some ⟨oc__law_good, od__law_good, .func (PySem.W.fnOf "_law_good" "_law_good" (defArgs s__law_good) (defBody s__law_good) (defScope s__law_good) .none kV__law_good dc__law_good pm__law_good an__law_good cd__law_good ct__law_good), sl__law_good⟩) (c__law_good : PySem.W.codeIn K cd__law_good "_law_good" = true) (k__law_good : PySem.W.keepIn K (.ref fa__law_good) = true)
    {fa__law_odd : Addr} {od__law_odd an__law_odd : Option Addr} {sl__law_odd : Array (Option Value)} {oc__law_odd kV__law_odd dc__law_odd pm__law_odd cd__law_odd ct__law_odd : Value}
    (a__law_odd : PySem.W.nsIn K mainGlobals "_law_odd" = some (some (.ref fa__law_odd))) (l__law_odd : K.lookup fa__law_odd = some ⟨oc__law_odd, od__law_odd, .func (PySem.W.fnOf "_law_odd" "_law_odd" (defArgs s__law_odd) (defBody s__law_odd) (defScope s__law_odd) .none kV__law_odd dc__law_odd pm__law_odd an__law_odd cd__law_odd ct__law_odd), sl__law_odd⟩) (c__law_odd : PySem.W.codeIn K cd__law_odd "_law_odd" = true) (k__law_odd : PySem.W.keepIn K (.ref fa__law_odd) = true)
    {fa__law_bent : Addr} {od__law_bent an__law_bent : Option Addr} {sl__law_bent : Array (Option Value)} {oc__law_bent kV__law_bent dc__law_bent pm__law_bent cd__law_bent ct__law_bent : Value}
    (a__law_bent : PySem.W.nsIn K mainGlobals "_law_bent" = some (some (.ref fa__law_bent))) (l__law_bent : K.lookup fa__law_bent = some ⟨oc__law_bent, od__law_bent, .func (PySem.W.fnOf "_law_bent" "_law_bent" (defArgs s__law_bent) (defBody s__law_bent) (defScope s__law_bent) .none kV__law_bent dc__law_bent pm__law_bent an__law_bent cd__law_bent ct__law_bent), sl__law_bent⟩) (c__law_bent : PySem.W.codeIn K cd__law_bent "_law_bent" = true) (k__law_bent : PySem.W.keepIn K (.ref fa__law_bent) = true)
    {fa__law_is_name : Addr} {od__law_is_name an__law_is_name : Option Addr} {sl__law_is_name : Array (Option Value)} {oc__law_is_name kV__law_is_name dc__law_is_name pm__law_is_name cd__law_is_name ct__law_is_name : Value}
    (a__law_is_name : PySem.W.nsIn K mainGlobals "_law_is_name" = some (some (.ref fa__law_is_name))) (l__law_is_name : K.lookup fa__law_is_name = some ⟨oc__law_is_name, od__law_is_name, .func (PySem.W.fnOf "_law_is_name" "_law_is_name" (defArgs s__law_is_name) (defBody s__law_is_name) (defScope s__law_is_name) .none kV__law_is_name dc__law_is_name pm__law_is_name an__law_is_name cd__law_is_name ct__law_is_name), sl__law_is_name⟩) (c__law_is_name : PySem.W.codeIn K cd__law_is_name "_law_is_name" = true) (k__law_is_name : PySem.W.keepIn K (.ref fa__law_is_name) = true)
    {fa__law_is_whole : Addr} {od__law_is_whole an__law_is_whole : Option Addr} {sl__law_is_whole : Array (Option Value)} {oc__law_is_whole kV__law_is_whole dc__law_is_whole pm__law_is_whole cd__law_is_whole ct__law_is_whole : Value}
    (a__law_is_whole : PySem.W.nsIn K mainGlobals "_law_is_whole" = some (some (.ref fa__law_is_whole))) (l__law_is_whole : K.lookup fa__law_is_whole = some ⟨oc__law_is_whole, od__law_is_whole, .func (PySem.W.fnOf "_law_is_whole" "_law_is_whole" (defArgs s__law_is_whole) (defBody s__law_is_whole) (defScope s__law_is_whole) .none kV__law_is_whole dc__law_is_whole pm__law_is_whole an__law_is_whole cd__law_is_whole ct__law_is_whole), sl__law_is_whole⟩) (c__law_is_whole : PySem.W.codeIn K cd__law_is_whole "_law_is_whole" = true) (k__law_is_whole : PySem.W.keepIn K (.ref fa__law_is_whole) = true)
    {fa__law_is_entry : Addr} {od__law_is_entry an__law_is_entry : Option Addr} {sl__law_is_entry : Array (Option Value)} {oc__law_is_entry kV__law_is_entry dc__law_is_entry pm__law_is_entry cd__law_is_entry ct__law_is_entry : Value}
    (a__law_is_entry : PySem.W.nsIn K mainGlobals "_law_is_entry" = some (some (.ref fa__law_is_entry))) (l__law_is_entry : K.lookup fa__law_is_entry = some ⟨oc__law_is_entry, od__law_is_entry, .func (PySem.W.fnOf "_law_is_entry" "_law_is_entry" (defArgs s__law_is_entry) (defBody s__law_is_entry) (defScope s__law_is_entry) .none kV__law_is_entry dc__law_is_entry pm__law_is_entry an__law_is_entry cd__law_is_entry ct__law_is_entry), sl__law_is_entry⟩) (c__law_is_entry : PySem.W.codeIn K cd__law_is_entry "_law_is_entry" = true) (k__law_is_entry : PySem.W.keepIn K (.ref fa__law_is_entry) = true)
    {fa__law_refused : Addr} {od__law_refused an__law_refused : Option Addr} {sl__law_refused : Array (Option Value)} {oc__law_refused kV__law_refused dc__law_refused pm__law_refused cd__law_refused ct__law_refused : Value}
    (a__law_refused : PySem.W.nsIn K mainGlobals "_law_refused" = some (some (.ref fa__law_refused))) (l__law_refused : K.lookup fa__law_refused = some ⟨oc__law_refused, od__law_refused, .func (PySem.W.fnOf "_law_refused" "_law_refused" (defArgs s__law_refused) (defBody s__law_refused) (defScope s__law_refused) .none kV__law_refused dc__law_refused pm__law_refused an__law_refused cd__law_refused ct__law_refused), sl__law_refused⟩) (c__law_refused : PySem.W.codeIn K cd__law_refused "_law_refused" = true) (k__law_refused : PySem.W.keepIn K (.ref fa__law_refused) = true)
    {fa_law : Addr} {od_law an_law : Option Addr} {sl_law : Array (Option Value)} {oc_law kV_law dc_law pm_law cd_law ct_law : Value}
    (a_law : PySem.W.nsIn K mainGlobals "law" = some (some (.ref fa_law))) (l_law : K.lookup fa_law = some ⟨oc_law, od_law, .func (PySem.W.fnOf "law" "law" (defArgs s_law) (defBody s_law) (defScope s_law) .none kV_law dc_law pm_law an_law cd_law ct_law), sl_law⟩) (c_law : PySem.W.codeIn K cd_law "law" = true) (k_law : PySem.W.keepIn K (.ref fa_law) = true)
    {dF : Addr} {hh1 hh2 hh3 hh4 : Int} {tt1 tt2 tt3 tt4 : Tok} {nF : Nat}
    (a_FORMS : PySem.W.nsIn K mainGlobals "FORMS" = some (some (.ref dF)))
    (l_FORMS : K.lookup dF = some ⟨.type "dict", none, .dict #[⟨hh1, .str "tell" tt1, .ref fa_is_tell⟩, ⟨hh2, .str "clear" tt2, .ref fa_is_clear⟩, ⟨hh3, .str "like" tt3, .ref fa_is_like⟩, ⟨hh4, .str "undo" tt4, .ref fa_is_undo⟩] nF, #[]⟩)
    (eh1 : hh1 = PyData.keyHash w.params "tell")
    (eh2 : hh2 = PyData.keyHash w.params "clear")
    (eh3 : hh3 = PyData.keyHash w.params "like")
    (eh4 : hh4 = PyData.keyHash w.params "undo")
    (eLow : (dF == sysModules) = false)
    {K_BadEntry : Addr}
    (aC_BadEntry : PySem.W.nsIn K mainGlobals "BadEntry" = some (some (.ref K_BadEntry)))
    {K_BadBook : Addr}
    (aC_BadBook : PySem.W.nsIn K mainGlobals "BadBook" = some (some (.ref K_BadBook)))
    {K_NoEntry : Addr}
    (aC_NoEntry : PySem.W.nsIn K mainGlobals "NoEntry" = some (some (.ref K_NoEntry)))
    {K_Closed : Addr}
    (aC_Closed : PySem.W.nsIn K mainGlobals "Closed" = some (some (.ref K_Closed)))
    {K_TooMany : Addr}
    (aC_TooMany : PySem.W.nsIn K mainGlobals "TooMany" = some (some (.ref K_TooMany)))
    {K_Gone : Addr}
    (aC_Gone : PySem.W.nsIn K mainGlobals "Gone" = some (some (.ref K_Gone)))
    {K_BadText : Addr}
    (aC_BadText : PySem.W.nsIn K mainGlobals "BadText" = some (some (.ref K_BadText)))
    {K_BookError : Addr}
    (aC_BookError : PySem.W.nsIn K mainGlobals "BookError" = some (some (.ref K_BookError)))
    (xq_BadEntry : PySem.W.excIn K K_BadEntry [.type "ValueError", .type "Exception", .type "BaseException", .type "object"] "ValueError.__new__" = true)
    (xk_BadEntry : PySem.W.keepIn K (.ref K_BadEntry) = true)
    (xs_BadEntry : PySem.W.subIn K (.ref K_BadEntry) (.type "BaseException") = some true)
    (xt_BadEntry : PySem.W.typeIn K (.ref K_BadEntry) = some (.type "type"))
    (xi_R : PySem.W.isClsIn K K_BadEntry = true)
    (x1_R : PySem.W.findIn K (.ref K_BadEntry) "__getattribute__" = some (some (.builtin "BaseException.__getattribute__")))
    (x2_R : PySem.W.findIn K (.ref K_BadEntry) "__getattr__" = some none)
    (x4_R : PySem.W.hasDictIn K K_BadEntry = true)
    (x5_R : PySem.W.findIn K (.ref K_BadEntry) "__class__" = some (some (.builtin "object.__class__")))
    (x6_R : PySem.W.specialIn K (.builtin "object.__class__") "__get__" = some (some (.builtin "getset_descriptor.__get__")))
    (x7_R : PySem.W.takesIn K (.builtin "object.__class__") = some true)
    (x8_R : PySem.W.mroIn K K_BadEntry (.type "object") = some true)
    (x9_R : PySem.W.subIn K (.ref K_BadEntry) (.ref K_BadEntry) = some true)
    (xv_R : PySem.W.subIn K (.ref K_BadEntry) (.type "ValueError") = some true)
    (xb_R : PySem.W.subIn K (.ref K_BadEntry) (.ref K_BookError) = some true)
    (xs_B : PySem.W.subIn K (.ref K_BookError) (.type "BaseException") = some true)
    (x4_B : PySem.W.hasDictIn K K_BookError = true)
    (xt_B : PySem.W.typeIn K (.ref K_BookError) = some (.type "type"))
    (xi_BadBook : PySem.W.isClsIn K K_BadBook = true)
    (xy_BadBook : PySem.W.typeIn K (.ref K_BadBook) = some (.type "type"))
    (xn_BadBook : PySem.W.subIn K (.ref K_BadEntry) (.ref K_BadBook) = some false)
    (xi_NoEntry : PySem.W.isClsIn K K_NoEntry = true)
    (xy_NoEntry : PySem.W.typeIn K (.ref K_NoEntry) = some (.type "type"))
    (xn_NoEntry : PySem.W.subIn K (.ref K_BadEntry) (.ref K_NoEntry) = some false)
    (xi_Closed : PySem.W.isClsIn K K_Closed = true)
    (xy_Closed : PySem.W.typeIn K (.ref K_Closed) = some (.type "type"))
    (xn_Closed : PySem.W.subIn K (.ref K_BadEntry) (.ref K_Closed) = some false)
    (xi_TooMany : PySem.W.isClsIn K K_TooMany = true)
    (xy_TooMany : PySem.W.typeIn K (.ref K_TooMany) = some (.type "type"))
    (xn_TooMany : PySem.W.subIn K (.ref K_BadEntry) (.ref K_TooMany) = some false)
    (xi_Gone : PySem.W.isClsIn K K_Gone = true)
    (xy_Gone : PySem.W.typeIn K (.ref K_Gone) = some (.type "type"))
    (xn_Gone : PySem.W.subIn K (.ref K_BadEntry) (.ref K_Gone) = some false)
    (xi_BadText : PySem.W.isClsIn K K_BadText = true)
    (xy_BadText : PySem.W.typeIn K (.ref K_BadText) = some (.type "type"))
    (xn_BadText : PySem.W.subIn K (.ref K_BadEntry) (.ref K_BadText) = some false)
    (z_type : PySem.W.nsIn K mainGlobals "type" = some none)
    (z_int : PySem.W.nsIn K mainGlobals "int" = some none)
    (z_str : PySem.W.nsIn K mainGlobals "str" = some none)
    (z_len : PySem.W.nsIn K mainGlobals "len" = some none)
    (z_all : PySem.W.nsIn K mainGlobals "all" = some none)
    (z_tuple : PySem.W.nsIn K mainGlobals "tuple" = some none)
    (z_range : PySem.W.nsIn K mainGlobals "range" = some none)
    (z_min : PySem.W.nsIn K mainGlobals "min" = some none)
    (z_list : PySem.W.nsIn K mainGlobals "list" = some none)
    (z_isinstance : PySem.W.nsIn K mainGlobals "isinstance" = some none)
    (z_bool : PySem.W.nsIn K mainGlobals "bool" = some none)
    (z_ValueError : PySem.W.nsIn K mainGlobals "ValueError" = some none)
    {t_LONGEST_NAME : Tok} (z_LONGEST_NAME : PySem.W.nsIn K mainGlobals "LONGEST_NAME" = some (some (.int 8 t_LONGEST_NAME)))
    {t_LAST_DAY : Tok} (z_LAST_DAY : PySem.W.nsIn K mainGlobals "LAST_DAY" = some (some (.int 1000000 t_LAST_DAY)))
    {t_GREATEST_WORTH : Tok} (z_GREATEST_WORTH : PySem.W.nsIn K mainGlobals "GREATEST_WORTH" = some (some (.int 1000000000 t_GREATEST_WORTH)))
    {t_MOST : Tok} (z_MOST : PySem.W.nsIn K mainGlobals "MOST" = some (some (.int 30 t_MOST)))
    : ∃ fd : FuncData, (∀ (s : Shared) (v : Value), BindsTo s fd ⟨[v], []⟩ [("_law_script", v)]) ∧ ∀ base : Heap, K.In base → base.Ns mainGlobals mg → FnOk l.prog w K mg base CX0 8 fa fd ["_law_script"] (spD K 1 false f_law) := by
  have e := hfa.symm.trans (PySem.W.mg_of X G a_law)
  cases e
  have m_type := PySem.W.mg_none_of X G z_type
  have m_int := PySem.W.mg_none_of X G z_int
  have m_str := PySem.W.mg_none_of X G z_str
  have m_len := PySem.W.mg_none_of X G z_len
  have m_all := PySem.W.mg_none_of X G z_all
  have m_tuple := PySem.W.mg_none_of X G z_tuple
  have m_range := PySem.W.mg_none_of X G z_range
  have m_min := PySem.W.mg_none_of X G z_min
  have m_list := PySem.W.mg_none_of X G z_list
  have m_isinstance := PySem.W.mg_none_of X G z_isinstance
  have m_bool := PySem.W.mg_none_of X G z_bool
  have m_ValueError := PySem.W.mg_none_of X G z_ValueError
  have g_LONGEST_NAME := PySem.W.mg_of X G z_LONGEST_NAME
  have g_LAST_DAY := PySem.W.mg_of X G z_LAST_DAY
  have g_GREATEST_WORTH := PySem.W.mg_of X G z_GREATEST_WORTH
  have g_MOST := PySem.W.mg_of X G z_MOST
  have F_is_whole := fun_mk (st := s_is_whole) l_is_whole c_is_whole k_is_whole
  have b_is_whole := F_is_whole.binds (ps := ["thing"]) fun _ _ _ _ _ _ us hl => match us, hl with | [_], _ => rfl
  have F_is_number := fun_mk (st := s_is_number) l_is_number c_is_number k_is_number
  have b_is_number := F_is_number.binds (ps := ["thing"]) fun _ _ _ _ _ _ us hl => match us, hl with | [_], _ => rfl
  have F_is_name := fun_mk (st := s_is_name) l_is_name c_is_name k_is_name
  have b_is_name := F_is_name.binds (ps := ["thing"]) fun _ _ _ _ _ _ us hl => match us, hl with | [_], _ => rfl
  have F_is_day := fun_mk (st := s_is_day) l_is_day c_is_day k_is_day
  have b_is_day := F_is_day.binds (ps := ["thing"]) fun _ _ _ _ _ _ us hl => match us, hl with | [_], _ => rfl
  have F_is_worth := fun_mk (st := s_is_worth) l_is_worth c_is_worth k_is_worth
  have b_is_worth := F_is_worth.binds (ps := ["thing"]) fun _ _ _ _ _ _ us hl => match us, hl with | [_], _ => rfl
  have F_are_days := fun_mk (st := s_are_days) l_are_days c_are_days k_are_days
  have b_are_days := F_are_days.binds (ps := ["low", "high"]) fun _ _ _ _ _ _ us hl => match us, hl with | [_, _], _ => rfl
  have F_is_tell := fun_mk (st := s_is_tell) l_is_tell c_is_tell k_is_tell
  have b_is_tell := F_is_tell.binds (ps := ["entry"]) fun _ _ _ _ _ _ us hl => match us, hl with | [_], _ => rfl
  have F_is_clear := fun_mk (st := s_is_clear) l_is_clear c_is_clear k_is_clear
  have b_is_clear := F_is_clear.binds (ps := ["entry"]) fun _ _ _ _ _ _ us hl => match us, hl with | [_], _ => rfl
  have F_is_like := fun_mk (st := s_is_like) l_is_like c_is_like k_is_like
  have b_is_like := F_is_like.binds (ps := ["entry"]) fun _ _ _ _ _ _ us hl => match us, hl with | [_], _ => rfl
  have F_is_undo := fun_mk (st := s_is_undo) l_is_undo c_is_undo k_is_undo
  have b_is_undo := F_is_undo.binds (ps := ["entry"]) fun _ _ _ _ _ _ us hl => match us, hl with | [_], _ => rfl
  have F_is_entry := fun_mk (st := s_is_entry) l_is_entry c_is_entry k_is_entry
  have b_is_entry := F_is_entry.binds (ps := ["thing"]) fun _ _ _ _ _ _ us hl => match us, hl with | [_], _ => rfl
  have F_need_entry := fun_mk (st := s_need_entry) l_need_entry c_need_entry k_need_entry
  have b_need_entry := F_need_entry.binds (ps := ["entry"]) fun _ _ _ _ _ _ us hl => match us, hl with | [_], _ => rfl
  have F__law_of := fun_mk (st := s__law_of) l__law_of c__law_of k__law_of
  have b__law_of := F__law_of.binds (ps := ["_law_script", "_law_k"]) fun _ _ _ _ _ _ us hl => match us, hl with | [_, _], _ => rfl
  have F__law_names := fun_mk (st := s__law_names) l__law_names c__law_names k__law_names
  have b__law_names := F__law_names.binds (ps := ["_law_cell", "_law_many"]) fun _ _ _ _ _ _ us hl => match us, hl with | [_, _], _ => rfl
  have F__law_good := fun_mk (st := s__law_good) l__law_good c__law_good k__law_good
  have b__law_good := F__law_good.binds (ps := ["_law_script"]) fun _ _ _ _ _ _ us hl => match us, hl with | [_], _ => rfl
  have F__law_odd := fun_mk (st := s__law_odd) l__law_odd c__law_odd k__law_odd
  have b__law_odd := F__law_odd.binds (ps := ["_law_cell"]) fun _ _ _ _ _ _ us hl => match us, hl with | [_], _ => rfl
  have F__law_bent := fun_mk (st := s__law_bent) l__law_bent c__law_bent k__law_bent
  have b__law_bent := F__law_bent.binds (ps := ["_law_entry", "_law_cell", "_law_odd_here"]) fun _ _ _ _ _ _ us hl => match us, hl with | [_, _, _], _ => rfl
  have F__law_is_name := fun_mk (st := s__law_is_name) l__law_is_name c__law_is_name k__law_is_name
  have b__law_is_name := F__law_is_name.binds (ps := ["_law_thing"]) fun _ _ _ _ _ _ us hl => match us, hl with | [_], _ => rfl
  have F__law_is_whole := fun_mk (st := s__law_is_whole) l__law_is_whole c__law_is_whole k__law_is_whole
  have b__law_is_whole := F__law_is_whole.binds (ps := ["_law_thing", "_law_least", "_law_most"]) fun _ _ _ _ _ _ us hl => match us, hl with | [_, _, _], _ => rfl
  have F__law_is_entry := fun_mk (st := s__law_is_entry) l__law_is_entry c__law_is_entry k__law_is_entry
  have b__law_is_entry := F__law_is_entry.binds (ps := ["_law_entry"]) fun _ _ _ _ _ _ us hl => match us, hl with | [_], _ => rfl
  have F__law_refused := fun_mk (st := s__law_refused) l__law_refused c__law_refused k__law_refused
  have b__law_refused := F__law_refused.binds (ps := ["_law_entry"]) fun _ _ _ _ _ _ us hl => match us, hl with | [_], _ => rfl
  have F_law := fun_mk (st := s_law) l_law c_law k_law
  refine ⟨PySem.W.fnOf "law" "law" (defArgs s_law) (defBody s_law) (defScope s_law) .none kV_law dc_law pm_law an_law cd_law ct_law, fun s v => .of_eq rfl, fun base _ _ => ?_⟩
  have C_is_whole := cl_is_whole (P := l.prog) (w := w) (base := base) F_is_whole (PySem.W.mg_of X G a_is_whole) b_is_whole m_type m_int
  have C_is_number := cl_is_number (P := l.prog) (w := w) (base := base) F_is_number (PySem.W.mg_of X G a_is_number) b_is_number C_is_whole
  have C_is_name := cl_is_name (P := l.prog) (w := w) (base := base) F_is_name (PySem.W.mg_of X G a_is_name) b_is_name m_type m_str m_len m_all g_LONGEST_NAME
  have C_is_day := cl_is_day (P := l.prog) (w := w) (base := base) F_is_day (PySem.W.mg_of X G a_is_day) b_is_day g_LAST_DAY C_is_whole
  have C_is_worth := cl_is_worth (P := l.prog) (w := w) (base := base) F_is_worth (PySem.W.mg_of X G a_is_worth) b_is_worth g_GREATEST_WORTH C_is_whole
  have C_are_days := cl_are_days (P := l.prog) (w := w) (base := base) F_are_days (PySem.W.mg_of X G a_are_days) b_are_days C_is_day
  have C_is_tell := cl_is_tell (P := l.prog) (w := w) (base := base) F_is_tell (PySem.W.mg_of X G a_is_tell) b_is_tell m_len C_is_name C_are_days C_is_worth
  have C_is_clear := cl_is_clear (P := l.prog) (w := w) (base := base) F_is_clear (PySem.W.mg_of X G a_is_clear) b_is_clear m_len C_is_name C_are_days
  have C_is_like := cl_is_like (P := l.prog) (w := w) (base := base) F_is_like (PySem.W.mg_of X G a_is_like) b_is_like m_len C_is_name C_are_days
  have C_is_undo := cl_is_undo (P := l.prog) (w := w) (base := base) F_is_undo (PySem.W.mg_of X G a_is_undo) b_is_undo m_len C_is_number
  have C_is_entry := cl_is_entry (P := l.prog) (w := w) (base := base) F_is_entry (PySem.W.mg_of X G a_is_entry) b_is_entry m_type m_tuple m_len m_str (ktab4 l_FORMS eh1 eh2 eh3 eh4 eLow) (PySem.W.mg_of X G a_FORMS) C_is_tell (PySem.W.mg_of X G a_is_tell) C_is_clear (PySem.W.mg_of X G a_is_clear) C_is_like (PySem.W.mg_of X G a_is_like) C_is_undo (PySem.W.mg_of X G a_is_undo)
  have C_need_entry := cl_need_entry (P := l.prog) (w := w) (base := base) F_need_entry (PySem.W.mg_of X G a_need_entry) b_need_entry C_is_entry
  have X_need_entry := cx_need_entry (P := l.prog) (w := w) (base := base) F_need_entry (PySem.W.mg_of X G a_need_entry) b_need_entry C_is_entry (⟨PySem.W.mg_of X G aC_BadEntry, xq_BadEntry, xk_BadEntry, xs_BadEntry, xt_BadEntry⟩ : ExcT K mg "BadEntry" K_BadEntry)
  have C__law_of := cl__law_of (P := l.prog) (w := w) (base := base) F__law_of (PySem.W.mg_of X G a__law_of) b__law_of
  have C__law_names := cl__law_names (P := l.prog) (w := w) (base := base) F__law_names (PySem.W.mg_of X G a__law_names) b__law_names m_range m_len
  have C__law_good := cl__law_good (P := l.prog) (w := w) (base := base) F__law_good (PySem.W.mg_of X G a__law_good) b__law_good m_min C__law_of C__law_names
  have C__law_odd := cl__law_odd (P := l.prog) (w := w) (base := base) F__law_odd (PySem.W.mg_of X G a__law_odd) b__law_odd
  have C__law_bent := cl__law_bent (P := l.prog) (w := w) (base := base) F__law_bent (PySem.W.mg_of X G a__law_bent) b__law_bent m_len m_list
  have C__law_is_name := cl__law_is_name (P := l.prog) (w := w) (base := base) F__law_is_name (PySem.W.mg_of X G a__law_is_name) b__law_is_name m_str m_isinstance m_len m_all
  have C__law_is_whole := cl__law_is_whole (P := l.prog) (w := w) (base := base) F__law_is_whole (PySem.W.mg_of X G a__law_is_whole) b__law_is_whole m_int m_isinstance m_bool
  have C__law_is_entry := cl__law_is_entry (P := l.prog) (w := w) (base := base) F__law_is_entry (PySem.W.mg_of X G a__law_is_entry) b__law_is_entry m_tuple m_isinstance m_len m_int C__law_is_whole C__law_is_name
  have C__law_refused := cl__law_refused (P := l.prog) (w := w) (base := base) F__law_refused (PySem.W.mg_of X G a__law_refused) b__law_refused m_isinstance m_ValueError X_need_entry (PySem.W.mg_of X G aC_BadEntry) (PySem.W.mg_of X G aC_BookError) ⟨x1_R, x2_R, xs_BadEntry, x4_R, x5_R, x6_R, x7_R, x8_R⟩ (hit_of xs_B x4_B xt_B xb_R) (isK_own xi_R xt_BadEntry x9_R x9_R) (isK_val xv_R) (PySem.W.mg_of X G aC_BadBook) (isK_own xi_BadBook xy_BadBook xn_BadBook x9_R) (PySem.W.mg_of X G aC_NoEntry) (isK_own xi_NoEntry xy_NoEntry xn_NoEntry x9_R) (PySem.W.mg_of X G aC_Closed) (isK_own xi_Closed xy_Closed xn_Closed x9_R) (PySem.W.mg_of X G aC_TooMany) (isK_own xi_TooMany xy_TooMany xn_TooMany x9_R) (PySem.W.mg_of X G aC_Gone) (isK_own xi_Gone xy_Gone xn_Gone x9_R) (PySem.W.mg_of X G aC_BadText) (isK_own xi_BadText xy_BadText xn_BadText x9_R)
  exact ok_law F_law m_bool m_isinstance m_tuple g_MOST C__law_good C__law_of C__law_odd C__law_bent C__law_names C_is_worth C_is_day C_is_name C__law_is_whole C__law_is_name C__law_is_entry C__law_refused C_need_entry

end Q
open PySem PySem.W PyProof.Rows
set_option maxHeartbeats 0 in
theorem PySem.Challenge.cw_saidthen_k01_entries_holds : PySem.Challenge.rw_saidthen_k01_entries.Holds := by
  w_on; o_law; k_head; (case hw => w_witness2)
  k_fill
  refine L2.walk_of (l := PySem.Challenge.rw_saidthen_k01_entries) (n := 63) (k := 8) (x := "_law_script") (CX := fun _ => L2.CX0) (sp := fun w => DL.spD _ 1 false Q.f_law) rfl (by decide) rfl ⟨rfl, by decide, by decide⟩ (fun w h Y => PySem.W.kIn_of Y) ?F (fun _ H a ns hl _ hS => DL.law_sp Q.law_true H a ns hl hS) (fun _ _ _ _ _ h => h)
  case F =>
    intro w mg fa h KX G hmg
    refine' Q.all_mk KX G hmg ?a_is_whole ?l_is_whole ?c_is_whole ?k_is_whole ?a_is_number ?l_is_number ?c_is_number ?k_is_number ?a_is_name ?l_is_name ?c_is_name ?k_is_name ?a_is_day ?l_is_day ?c_is_day ?k_is_day ?a_is_worth ?l_is_worth ?c_is_worth ?k_is_worth ?a_are_days ?l_are_days ?c_are_days ?k_are_days ?a_is_tell ?l_is_tell ?c_is_tell ?k_is_tell ?a_is_clear ?l_is_clear ?c_is_clear ?k_is_clear ?a_is_like ?l_is_like ?c_is_like ?k_is_like ?a_is_undo ?l_is_undo ?c_is_undo ?k_is_undo ?a_is_entry ?l_is_entry ?c_is_entry ?k_is_entry ?a_need_entry ?l_need_entry ?c_need_entry ?k_need_entry ?a__law_of ?l__law_of ?c__law_of ?k__law_of ?a__law_names ?l__law_names ?c__law_names ?k__law_names ?a__law_good ?l__law_good ?c__law_good ?k__law_good ?a__law_odd ?l__law_odd ?c__law_odd ?k__law_odd ?a__law_bent ?l__law_bent ?c__law_bent ?k__law_bent ?a__law_is_name ?l__law_is_name ?c__law_is_name ?k__law_is_name ?a__law_is_whole ?l__law_is_whole ?c__law_is_whole ?k__law_is_whole ?a__law_is_entry ?l__law_is_entry ?c__law_is_entry ?k__law_is_entry ?a__law_refused ?l__law_refused ?c__law_refused ?k__law_refused ?a_law ?l_law ?c_law ?k_law ?a_FORMS ?l_FORMS ?eh1 ?eh2 ?eh3 ?eh4 ?eLow ?aC_BadEntry ?aC_BadBook ?aC_NoEntry ?aC_Closed ?aC_TooMany ?aC_Gone ?aC_BadText ?aC_BookError ?xq_BadEntry ?xk_BadEntry ?xs_BadEntry ?xt_BadEntry ?xi_R ?x1_R ?x2_R ?x4_R ?x5_R ?x6_R ?x7_R ?x8_R ?x9_R ?xv_R ?xb_R ?xs_B ?x4_B ?xt_B ?xi_BadBook ?xy_BadBook ?xn_BadBook ?xi_NoEntry ?xy_NoEntry ?xn_NoEntry ?xi_Closed ?xy_Closed ?xn_Closed ?xi_TooMany ?xy_TooMany ?xn_TooMany ?xi_Gone ?xy_Gone ?xn_Gone ?xi_BadText ?xy_BadText ?xn_BadText ?z_type ?z_int ?z_str ?z_len ?z_all ?z_tuple ?z_range ?z_min ?z_list ?z_isinstance ?z_bool ?z_ValueError ?z_LONGEST_NAME ?z_LAST_DAY ?z_GREATEST_WORTH ?z_MOST
    (case a_is_whole => k_is); (case l_is_whole => k_is); (case c_is_whole => k_is); (case k_is_whole => k_is); (case a_is_number => k_is); (case l_is_number => k_is); (case c_is_number => k_is); (case k_is_number => k_is); (case a_is_name => k_is); (case l_is_name => k_is); (case c_is_name => k_is); (case k_is_name => k_is); (case a_is_day => k_is); (case l_is_day => k_is); (case c_is_day => k_is); (case k_is_day => k_is); (case a_is_worth => k_is); (case l_is_worth => k_is); (case c_is_worth => k_is); (case k_is_worth => k_is); (case a_are_days => k_is); (case l_are_days => k_is); (case c_are_days => k_is); (case k_are_days => k_is); (case a_is_tell => k_is); (case l_is_tell => k_is); (case c_is_tell => k_is); (case k_is_tell => k_is); (case a_is_clear => k_is); (case l_is_clear => k_is); (case c_is_clear => k_is); (case k_is_clear => k_is); (case a_is_like => k_is); (case l_is_like => k_is); (case c_is_like => k_is); (case k_is_like => k_is); (case a_is_undo => k_is); (case l_is_undo => k_is); (case c_is_undo => k_is); (case k_is_undo => k_is); (case a_is_entry => k_is); (case l_is_entry => k_is); (case c_is_entry => k_is); (case k_is_entry => k_is); (case a_need_entry => k_is); (case l_need_entry => k_is); (case c_need_entry => k_is); (case k_need_entry => k_is); (case a__law_of => k_is); (case l__law_of => k_is); (case c__law_of => k_is); (case k__law_of => k_is); (case a__law_names => k_is); (case l__law_names => k_is); (case c__law_names => k_is); (case k__law_names => k_is); (case a__law_good => k_is); (case l__law_good => k_is); (case c__law_good => k_is); (case k__law_good => k_is); (case a__law_odd => k_is); (case l__law_odd => k_is); (case c__law_odd => k_is); (case k__law_odd => k_is); (case a__law_bent => k_is); (case l__law_bent => k_is); (case c__law_bent => k_is); (case k__law_bent => k_is); (case a__law_is_name => k_is); (case l__law_is_name => k_is); (case c__law_is_name => k_is); (case k__law_is_name => k_is); (case a__law_is_whole => k_is); (case l__law_is_whole => k_is); (case c__law_is_whole => k_is); (case k__law_is_whole => k_is); (case a__law_is_entry => k_is); (case l__law_is_entry => k_is); (case c__law_is_entry => k_is); (case k__law_is_entry => k_is); (case a__law_refused => k_is); (case l__law_refused => k_is); (case c__law_refused => k_is); (case k__law_refused => k_is); (case a_law => k_is); (case l_law => k_is); (case c_law => k_is); (case k_law => k_is); (case a_FORMS => k_is); (case l_FORMS => k_is); (case eh1 => rfl); (case eh2 => rfl); (case eh3 => rfl); (case eh4 => rfl); (case eLow => first | rfl | decide +kernel); (case aC_BadEntry => k_is); (case aC_BadBook => k_is); (case aC_NoEntry => k_is); (case aC_Closed => k_is); (case aC_TooMany => k_is); (case aC_Gone => k_is); (case aC_BadText => k_is); (case aC_BookError => k_is); (case xq_BadEntry => k_exc); (case xk_BadEntry => k_is); (case xs_BadEntry => k_is); (case xt_BadEntry => k_is); (case xi_R => k_is); (case x1_R => k_is); (case x2_R => k_is); (case x4_R => k_is); (case x5_R => k_is); (case x6_R => k_is); (case x7_R => k_is); (case x8_R => k_is); (case x9_R => first | rfl | k_is); (case xv_R => k_is); (case xb_R => k_is); (case xs_B => k_is); (case x4_B => k_is); (case xt_B => k_is); (case xi_BadBook => k_is); (case xy_BadBook => k_is); (case xn_BadBook => k_is); (case xi_NoEntry => k_is); (case xy_NoEntry => k_is); (case xn_NoEntry => k_is); (case xi_Closed => k_is); (case xy_Closed => k_is); (case xn_Closed => k_is); (case xi_TooMany => k_is); (case xy_TooMany => k_is); (case xn_TooMany => k_is); (case xi_Gone => k_is); (case xy_Gone => k_is); (case xn_Gone => k_is); (case xi_BadText => k_is); (case xy_BadText => k_is); (case xn_BadText => k_is); (case z_type => k_is); (case z_int => k_is); (case z_str => k_is); (case z_len => k_is); (case z_all => k_is); (case z_tuple => k_is); (case z_range => k_is); (case z_min => k_is); (case z_list => k_is); (case z_isinstance => k_is); (case z_bool => k_is); (case z_ValueError => k_is); (case z_LONGEST_NAME => k_is); (case z_LAST_DAY => k_is); (case z_GREATEST_WORTH => k_is); (case z_MOST => k_is)
