import PyProof.Rows.All
import Wide.All
import OpenK.AllK
import Wide.FinOn
import PySem.Challenge.RW_fractionparts_k01_fractions_made
import HandS.ForExc
import HandS.Star
import HandS.Style
import HandS.Flow
import HandS.IsInst
import HandS.Wide
import HandS.Gcd
import HandS.Zip
import HandS.TupMul
import HandS.TupAny
import HandS.More
import HandS.Walk
import HandS.ExcIs
import HandS.TryOnly
set_option Elab.async false
set_option linter.all false
set_option maxRecDepth 100000
set_option maxHeartbeats 4000000
/-! a layer over HandS: expressions and statements by plain functions on data -/
namespace Pu
open PySem PySem.Spec PyProof.Rows L2

/-- what an evaluation comes to: a value, an exception of the class so called, or nothing that is told -/
inductive R (α : Type) where
  | ok (a : α) | ex (c : Str) | no
def R.bind {α β : Type} (x : R α) (f : α → R β) : R β := match x with
  | .ok a => f a
  | .ex c => .ex c
  | .no => .no
@[simp] theorem R.bind_ok {α β : Type} (a : α) (f : α → R β) : R.bind (.ok a) f = f a := rfl
@[simp] theorem R.bind_ex {α β : Type} (c : Str) (f : α → R β) : R.bind (.ex c) f = .ex c := rfl
@[simp] theorem R.bind_no {α β : Type} (f : α → R β) : R.bind .no f = .no := rfl

abbrev D := PyData
abbrev Fp := Addr → Prop

/-- a list of the written part -/
def KL (K : PySem.W.Frag) (a : Addr) (xs : List V) : Prop :=
  ∃ (o : Obj) (its : Array Value) (n : Nat), K.lookup a = some o ∧ o.cls = .type "list" ∧ o.dict = none ∧ o.data = .seq its n ∧ its.size ≤ sizeLine ∧ Vals xs its.toList
/-- a list that is read: of the written part, or tracked at an address of F -/
def LAt (K : PySem.W.Frag) (H : Hp) (F : Fp) (a : Addr) (xs : List V) : Prop := (Rd H a (.lst xs) ∧ F a) ∨ KL K a xs
theorem LAt.sq {K : PySem.W.Frag} {H : Hp} {F : Fp} {a : Addr} {xs : List V} (h : LAt K H F a xs) : SqL K H a xs := by
  rcases h with h | h
  · exact .inl h.1
  · exact .inr h

mutual
/-- v stands for d in H, its lists at addresses of F -/
inductive Rp (K : PySem.W.Frag) (H : Hp) (F : Fp) : V → D → Prop
  | non : Rp K H F .non .none
  | bl (b : Bool) : Rp K H F (.bl b) (.bool b)
  | int (i : Int) : Rp K H F (.int i) (.int i)
  | str (x : Str) : Rp K H F (.str x) (.str x)
  | lst {a : Addr} {xs : List V} {ds : List D} : LAt K H F a xs → RpA K H F xs ds → Rp K H F (.ref a) (.list ds)
  | tup {a : Addr} {xs : List V} {ds : List D} : SqT K H a xs → RpA K H F xs ds → Rp K H F (.ref a) (.tuple ds)
inductive RpA (K : PySem.W.Frag) (H : Hp) (F : Fp) : List V → List D → Prop
  | nil : RpA K H F [] []
  | cons {v : V} {vs : List V} {d : D} {ds : List D} : Rp K H F v d → RpA K H F vs ds → RpA K H F (v :: vs) (d :: ds)
end

section
variable {K : PySem.W.Frag} {H H' : Hp} {F F' : Fp}
theorem Same.rd {a : Addr} {u : HO} (e : Same H H') (h : Rd H a u) : Rd H' a u := by
  rcases h with h | ⟨o, h⟩
  · exact .inl (e _ _ h)
  · exact .inr ⟨o, e _ _ h⟩
theorem Same.sqt {a : Addr} {xs : List V} (e : Same H H') (h : SqT K H a xs) : SqT K H' a xs := by
  rcases h with h | h
  · exact .inl (Same.rd e h)
  · exact .inr h
theorem LAt.mono {a : Addr} {xs : List V} (h : LAt K H F a xs) (e : Same H H') (f : ∀ a, F a → F' a) : LAt K H' F' a xs := by
  rcases h with h | h
  · exact .inl ⟨Same.rd e h.1, f _ h.2⟩
  · exact .inr h
mutual
theorem Rp.mono (e : Same H H') (f : ∀ a, F a → F' a) : ∀ {d : D} {v : V}, Rp K H F v d → Rp K H' F' v d
  | .none, _, h => by cases h; exact .non
  | .bool b, _, h => by cases h; exact .bl b
  | .int i, _, h => by cases h; exact .int i
  | .str x, _, h => by cases h; exact .str x
  | .list ds, _, h => by
    cases h with
    | lst hl ha => exact .lst (hl.mono e f) (RpA.mono e f ha)
  | .tuple ds, _, h => by
    cases h with
    | tup hl ha => exact .tup (Same.sqt e hl) (RpA.mono e f ha)
  | .dict _, _, h => by cases h
theorem RpA.mono (e : Same H H') (f : ∀ a, F a → F' a) : ∀ {ds : List D} {vs : List V}, RpA K H F vs ds → RpA K H' F' vs ds
  | [], _, h => by cases h; exact .nil
  | d :: ds, _, h => by
    cases h with
    | cons h1 h2 => exact .cons (Rp.mono e f h1) (RpA.mono e f h2)
end
theorem RpA.length : ∀ {ds : List D} {vs : List V}, RpA K H F vs ds → vs.length = ds.length
  | [], _, h => by cases h; rfl
  | d :: ds, _, h => by
    cases h with
    | cons h1 h2 => exact congrArg (· + 1) (RpA.length h2)
theorem RpA.get : ∀ {ds : List D} {vs : List V} {i : Nat} {d : D}, RpA K H F vs ds → ds[i]? = some d → ∃ v, vs[i]? = some v ∧ Rp K H F v d
  | [], _, _, _, h, e => by simp at e
  | d :: ds, _, 0, d', h, e => by
    cases h with
    | cons h1 h2 =>
      simp at e
      subst e
      exact ⟨_, rfl, h1⟩
  | d :: ds, _, i + 1, d', h, e => by
    cases h with
    | cons h1 h2 =>
      obtain ⟨v, e1, r⟩ := RpA.get (i := i) h2 (by simpa using e)
      exact ⟨v, by simpa using e1, r⟩
theorem RpA.append : ∀ {ds es : List D} {vs us : List V}, RpA K H F vs ds → RpA K H F us es → RpA K H F (vs ++ us) (ds ++ es)
  | [], _, _, _, h, k => by cases h; exact k
  | d :: ds, _, _, _, h, k => by
    cases h with
    | cons h1 h2 => exact .cons h1 (RpA.append h2 k)
theorem RpA.take : ∀ {ds : List D} {vs : List V} (n : Nat), RpA K H F vs ds → RpA K H F (vs.take n) (ds.take n)
  | [], _, n, h => by cases h; simp; exact .nil
  | d :: ds, _, 0, h => .nil
  | d :: ds, _, n + 1, h => by
    cases h with
    | cons h1 h2 => exact .cons h1 (RpA.take n h2)
theorem RpA.drop : ∀ {ds : List D} {vs : List V} (n : Nat), RpA K H F vs ds → RpA K H F (vs.drop n) (ds.drop n)
  | [], _, n, h => by cases h; simp; exact .nil
  | d :: ds, _, 0, h => h
  | d :: ds, _, n + 1, h => by
    cases h with
    | cons h1 h2 => exact RpA.drop n h2
theorem RpA.snoc {ds : List D} {vs : List V} {d : D} {v : V} (h : RpA K H F vs ds) (k : Rp K H F v d) : RpA K H F (vs ++ [v]) (ds ++ [d]) := h.append (.cons k .nil)
theorem RpA.reverse : ∀ {ds : List D} {vs : List V}, RpA K H F vs ds → RpA K H F vs.reverse ds.reverse
  | [], _, h => by cases h; exact .nil
  | d :: ds, _, h => by
    cases h with
    | cons h1 h2 => rw [List.reverse_cons, List.reverse_cons]; exact (RpA.reverse h2).snoc h1
theorem RpA.set : ∀ {ds : List D} {vs : List V} {d : D} {v : V} (i : Nat), RpA K H F vs ds → Rp K H F v d → RpA K H F (vs.set i v) (ds.set i d)
  | [], _, _, _, i, h, k => by cases h; exact .nil
  | d :: ds, _, _, _, 0, h, k => by
    cases h with
    | cons h1 h2 => exact .cons k h2
  | d :: ds, _, _, _, i + 1, h, k => by
    cases h with
    | cons h1 h2 => exact .cons h1 (RpA.set i h2 k)
theorem RpA.dropLast : ∀ {ds : List D} {vs : List V}, RpA K H F vs ds → RpA K H F vs.dropLast ds.dropLast := fun {ds vs} h => by
  rw [List.dropLast_eq_take, List.dropLast_eq_take, h.length]
  exact h.take _
mutual
theorem Rp.dp : ∀ {d : D} {v : V}, Rp K H F v d → Dp K H v d
  | .none, _, h => by cases h; exact .non
  | .bool b, _, h => by cases h; exact .bl b
  | .int i, _, h => by cases h; exact .int i
  | .str x, _, h => by cases h; exact .str x
  | .list ds, _, h => by
    cases h with
    | lst hl ha => exact .lst hl.sq (RpA.dp ha)
  | .tuple ds, _, h => by
    cases h with
    | tup hl ha => exact .tup hl (RpA.dp ha)
  | .dict _, _, h => by cases h
theorem RpA.dp : ∀ {ds : List D} {vs : List V}, RpA K H F vs ds → DpAll K H vs ds
  | [], _, h => by cases h; exact .nil
  | d :: ds, _, h => by
    cases h with
    | cons h1 h2 => exact .cons (Rp.dp h1) (RpA.dp h2)
end
mutual
/-- no list in it -/
def lf : D → Bool
  | .list _ => false
  | .dict _ => false
  | .tuple ds => lfA ds
  | _ => true
def lfA : List D → Bool
  | [] => true
  | d :: ds => lf d && lfA ds
end
mutual
theorem Rp.free (e : ∀ a xs, SqT K H a xs → SqT K H' a xs) : ∀ {d : D} {v : V}, lf d = true → Rp K H F v d → Rp K H' F' v d
  | .none, _, _, h => by cases h; exact .non
  | .bool b, _, _, h => by cases h; exact .bl b
  | .int i, _, _, h => by cases h; exact .int i
  | .str x, _, _, h => by cases h; exact .str x
  | .list ds, _, z, h => by simp [lf] at z
  | .tuple ds, _, z, h => by
    cases h with
    | tup hl ha => exact .tup (e _ _ hl) (RpA.free e (by simpa [lf] using z) ha)
  | .dict _, _, _, h => by cases h
theorem RpA.free (e : ∀ a xs, SqT K H a xs → SqT K H' a xs) : ∀ {ds : List D} {vs : List V}, lfA ds = true → RpA K H F vs ds → RpA K H' F' vs ds
  | [], _, _, h => by cases h; exact .nil
  | d :: ds, _, z, h => by
    cases h with
    | cons h1 h2 =>
      simp [lfA] at z
      exact .cons (Rp.free e z.1 h1) (RpA.free e z.2 h2)
end
/-- a tracked list at p changes: what leans on no list at p stands -/
theorem sqt_upd {p : Addr} {xs ys : List V} (hp : H p = some (.lst xs)) {a : Addr} {ts : List V} (h : SqT K H a ts) : SqT K (upd H p (.lst ys)) a ts := by
  rcases h with (h | ⟨o, h⟩) | h
  · refine .inl (.inl ?_)
    rw [upd_ne (by rintro rfl; rw [hp] at h; cases h)]
    exact h
  · refine .inl (.inr ⟨o, ?_⟩)
    rw [upd_ne (by rintro rfl; rw [hp] at h; cases h)]
    exact h
  · exact .inr h
theorem LAt.upd {p : Addr} {u : HO} (hn : ¬ F p) {a : Addr} {xs : List V} (h : LAt K H F a xs) : LAt K (upd H p u) F a xs := by
  rcases h with ⟨h, f⟩ | h
  · have ne : a ≠ p := by rintro rfl; exact hn f
    refine .inl ⟨?_, f⟩
    rcases h with h | ⟨o, h⟩
    · exact .inl (by rw [upd_ne ne]; exact h)
    · exact .inr ⟨o, by rw [upd_ne ne]; exact h⟩
  · exact .inr h
mutual
theorem Rp.upd {p : Addr} {xs ys : List V} (hp : H p = some (.lst xs)) (hn : ¬ F p) : ∀ {d : D} {v : V}, Rp K H F v d → Rp K (upd H p (.lst ys)) F v d
  | .none, _, h => by cases h; exact .non
  | .bool b, _, h => by cases h; exact .bl b
  | .int i, _, h => by cases h; exact .int i
  | .str x, _, h => by cases h; exact .str x
  | .list ds, _, h => by
    cases h with
    | lst hl ha => exact .lst (hl.upd hn) (RpA.upd hp hn ha)
  | .tuple ds, _, h => by
    cases h with
    | tup hl ha => exact .tup (sqt_upd hp hl) (RpA.upd hp hn ha)
  | .dict _, _, h => by cases h
theorem RpA.upd {p : Addr} {xs ys : List V} (hp : H p = some (.lst xs)) (hn : ¬ F p) : ∀ {ds : List D} {vs : List V}, RpA K H F vs ds → RpA K (upd H p (.lst ys)) F vs ds
  | [], _, h => by cases h; exact .nil
  | d :: ds, _, h => by
    cases h with
    | cons h1 h2 => exact .cons (Rp.upd hp hn h1) (RpA.upd hp hn h2)
end
end

/-! ### the world, the context of a body -/
structure Wd where
  P : Program
  w : World
  K : PySem.W.Frag
  mg : Str → Option Value
  base : Heap

structure G where
  D : Wd
  N : List Str
  sc : Scope
  L : Nat
  /-- every name may be stored | nothing is being handled -/
  B : Bool
  calm : Bool

structure Cok (g : G) (X : Cx) (W : WX) : Prop where
  prog : X.prog = g.D.P
  w : X.w = g.D.w
  K : X.K = g.D.K
  mg : X.mg = g.D.mg
  base : X.base = g.D.base
  N : X.N = g.N
  sc : X.env.scope = g.sc
  nd : X.N.Nodup
  calm : X.calm = g.calm
  room : g.calm = true → Room g.L X.A
  units : X.A.units + 64 < cLine
  takes : Takes X W
  passes : PassesOwn (model X.prog X.w) X.A X.env X.xe
  fn : g.B = true → ∀ x, X.fn x = true
  top : g.B = true → X.stack = X.env :: X.outer ∧ X.env.frame = some X.env.locals

def notStar : Expr → Bool
  | .Starred _ _ => false
  | _ => true
theorem starEach_of {e : Expr} {es : List Expr} {env : Env} (h : notStar e = true) : starEach (e :: es) env = (false, eval e env) :: starEach es env := by
  cases e <;> first | rfl | (cases h; done)
/-! ### the widest readings -/
@[irreducible] def wE (X : Cx) (e : Expr) : TE := fun σ H Q => ∀ (pins : List (Addr × Obj)) (s : Shared), Inv X pins σ H s → wpAny (model X.prog X.w) X.A (eval e X.env) (EP X pins σ Q) X.xe s
theorem pe_w {X : Cx} {e : Expr} : PE X e (wE X e) := ⟨fun pins s _ _ _ I h => by unfold wE at h; exact h pins s I⟩
theorem wE_of {X : Cx} {e : Expr} {t : TE} (h : PE X e t) {σ : L2.St} {H : Hp} {Q : VK} (q : t σ H Q) : wE X e σ H Q := by unfold wE; exact fun pins s I => h.run pins s σ H Q I q
@[irreducible] def wT (X : Cx) (e : Expr) : TT := fun σ H Q => ∀ (pins : List (Addr × Obj)) (s : Shared), Inv X pins σ H s → wpAny (model X.prog X.w) X.A (isTrue e X.env (eval e X.env)) (TP X pins σ Q) X.xe s
theorem pt_w {X : Cx} {e : Expr} : PT X e (wT X e) := ⟨fun pins s _ _ _ I h => by unfold wT at h; exact h pins s I⟩
theorem wT_of {X : Cx} {e : Expr} {t : TT} (h : PT X e t) {σ : L2.St} {H : Hp} {Q : Bool → Hp → Prop} (q : t σ H Q) : wT X e σ H Q := by unfold wT; exact fun pins s I => h.run pins s σ H Q I q
@[irreducible] def wA (X : Cx) (es : List Expr) : TA := fun σ H Q => ∀ (pos : Pos) (pins : List (Addr × Obj)) (s : Shared), Inv X pins σ H s → wpAny (model X.prog X.w) X.A (spliced (backTo pos (starEach es X.env))) (AP X pins σ Q) X.xe s
theorem pa_w {X : Cx} {es : List Expr} : PA X es (wA X es) := ⟨fun pos pins s _ _ _ I h => by unfold wA at h; exact h pos pins s I⟩
theorem wA_of {X : Cx} {es : List Expr} {t : TA} (h : PA X es t) {σ : L2.St} {H : Hp} {Q : List V → Hp → Prop} (q : t σ H Q) : wA X es σ H Q := by unfold wA; exact fun pos pins s I => h.run pos pins s σ H Q I q
@[irreducible] def wS (X : Cx) (st : Stmt) : TS := fun D σ H => ∀ (pins : List (Addr × Obj)) (s : Shared), Inv X pins σ H s → wpAny (model X.prog X.w) X.A (exec st X.env) (SP X pins D) X.xe s
theorem ps_w {X : Cx} {st : Stmt} : PS X st (wS X st) := ⟨fun pins s _ _ _ I h => by unfold wS at h; exact h pins s I⟩
theorem wS_of {X : Cx} {st : Stmt} {t : TS} (h : PS X st t) {D : Ends} {σ : L2.St} {H : Hp} (q : t D σ H) : wS X st D σ H := by unfold wS; exact fun pins s I => h.run pins s σ H D I q
@[irreducible] def wB (X : Cx) (st : List Stmt) : TS := fun D σ H => ∀ (pins : List (Addr × Obj)) (s : Shared), Inv X pins σ H s → wpAny (model X.prog X.w) X.A (execs st X.env) (SP X pins D) X.xe s
theorem pss_w {X : Cx} {st : List Stmt} : PSs X st (wB X st) := ⟨fun pins s _ _ _ I h => by unfold wB at h; exact h pins s I⟩
theorem wB_of {X : Cx} {st : List Stmt} {t : TS} (h : PSs X st t) {D : Ends} {σ : L2.St} {H : Hp} (q : t D σ H) : wB X st D σ H := by unfold wB; exact fun pins s I => h.run pins s σ H D I q
@[irreducible] def wG (X : Cx) (tg : Expr) : TG := fun v σ H Q => ∀ (pins : List (Addr × Obj)) (s : Shared) (u : Value), Inv X pins σ H s → RelV v u →
  wpAny (model X.prog X.w) X.A (assign tg X.env u) (fun _ s' => ∃ σ' H', Inv X pins σ' H' s' ∧ Q σ' H') X.xe s
theorem pg_w {X : Cx} {tg : Expr} : PG X tg (wG X tg) := ⟨fun pins s _ _ _ u _ I r h => by unfold wG at h; exact h pins s u I r⟩
theorem wG_of {X : Cx} {tg : Expr} {t : TG} (h : PG X tg t) {v : V} {σ : L2.St} {H : Hp} {Q : L2.St → Hp → Prop} (q : t v σ H Q) : wG X tg v σ H Q := by unfold wG; exact fun pins s u I r => h.run pins s σ H v u Q I r q
@[irreducible] def wI (X : Cx) (tg iter : Expr) : TI := fun σ H Q => ∀ (pins : List (Addr × Obj)) (s : Shared), Inv X pins σ H s →
  wpAny (model X.prog X.w) X.A (eval iter X.env) (fun v s1 => wpAny (model X.prog X.w) X.A (pyIter v) (PIE X pins σ tg Q) X.xe s1) X.xe s
theorem pi_w {X : Cx} {tg iter : Expr} : PI X tg iter (wI X tg iter) := ⟨fun pins s _ _ _ I h => by unfold wI at h; exact h pins s I⟩
theorem wI_of {X : Cx} {tg iter : Expr} {t : TI} (h : PI X tg iter t) {σ : L2.St} {H : Hp} {Q : It → Hp → Prop} (q : t σ H Q) : wI X tg iter σ H Q := by unfold wI; exact fun pins s I => h.run pins s σ H Q I q
@[irreducible] def wO (X : Cx) (f : Value → Value → Sem Value) : R2 := fun x y H Q => ∀ (pins : List (Addr × Obj)) (s : Shared) (σ : L2.St) (v u : Value), Inv X pins σ H s → RelV x v → RelV y u →
  wpAny (model X.prog X.w) X.A (f v u) (EP X pins σ Q) X.xe s
theorem op_w {X : Cx} {f : Value → Value → Sem Value} : OpR X f (wO X f) := fun pins s σ _ _ _ v u _ I rx ry h => by unfold wO at h; exact h pins s σ v u I rx ry
theorem wO_of {X : Cx} {f : Value → Value → Sem Value} {r : R2} (h : OpR X f r) {x y : V} {H : Hp} {Q : VK} (q : r x y H Q) : wO X f x y H Q := by unfold wO; exact fun pins s σ v u I rx ry => h pins s σ H x y v u Q I rx ry q
end Pu
namespace Pu
open PySem PySem.Spec PyProof.Rows L2

abbrev En := List (Option D)
def EnvOk (K : PySem.W.Frag) (F : Fp) (σ : L2.St) (H : Hp) (env : En) : Prop := ∀ (i : Nat) (d : D), env[i]? = some (some d) → ∃ v, σ[i]? = some (some v) ∧ Rp K H F v d
theorem EnvOk.mono {K : PySem.W.Frag} {F F' : Fp} {σ : L2.St} {H H' : Hp} {env : En} (h : EnvOk K F σ H env) (e : Same H H') (f : ∀ a, F a → F' a) : EnvOk K F' σ H' env := fun i d q => by
  obtain ⟨v, h1, h2⟩ := h i d q
  exact ⟨v, h1, h2.mono e f⟩
/-- F and what H does not know -/
def Fx (F : Fp) (H : Hp) : Fp := fun a => F a ∨ H a = none
theorem Fx.le {F : Fp} {H : Hp} : ∀ a, F a → Fx F H a := fun _ h => .inl h
theorem Fx.back {F : Fp} {H H1 : Hp} (e : Same H H1) : ∀ a, Fx F H1 a → Fx F H a := fun a h => h.elim .inl fun z => .inr (e.free z)
theorem Fx.back2 {F : Fp} {H H1 : Hp} (e : Same H H1) : ∀ a, Fx (Fx F H) H1 a → Fx F H a := fun a h => h.elim id fun z => .inr (e.free z)
theorem Same.new {H : Hp} {p : Addr} {o : HO} (h : H p = none) : Same H (upd H p o) := fun a u e => by
  rw [upd_ne (ne_of_none e h)]
  exact e

/-- what is wanted of an outcome -/
def Wants (g : G) (W : WX) (σ : L2.St) (H : Hp) {α β : Type} (r : R α) (rel : α → β → Hp → Prop) (Q : β → Hp → Prop) : Prop :=
  match r with
  | .ok d => ∀ v H', Same H H' → rel d v H' → Q v H'
  | .ex c => ∀ cv H', Same H H' → g.D.mg c = some cv → W cv none σ H'
  | .no => False
section
variable {g : G} {W : WX} {σ : L2.St} {H H1 : Hp}
theorem Wants.bind {α β α' β' : Type} {r : R α} {k : α → R α'} {rel : α → β → Hp → Prop} {rel' : α' → β' → Hp → Prop} {Q : β' → Hp → Prop} {Q1 : β → Hp → Prop} (h : Wants g W σ H (r.bind k) rel' Q)
    (q : ∀ d v H1, r = .ok d → Same H H1 → rel d v H1 → Wants g W σ H1 (k d) rel' Q → Q1 v H1) : Wants g W σ H r rel Q1 := by
  cases r with
  | ok d =>
    intro v H1 e r1
    refine q d v H1 rfl e r1 ?_
    simp only [R.bind_ok] at h
    revert h
    cases k d with
    | ok d' => exact fun h v' H' e' r' => h v' H' (e.trans e') r'
    | ex c => exact fun h cv H' e' hm => h cv H' (e.trans e') hm
    | no => exact fun h => h
  | ex c => exact h
  | no => exact h
theorem Wants.imp {α β : Type} {r : R α} {rel rel' : α → β → Hp → Prop} {Q : β → Hp → Prop} (h : Wants g W σ H r rel Q) (f : ∀ d v H', Same H H' → rel' d v H' → rel d v H') : Wants g W σ H r rel' Q := by
  cases r with
  | ok d => exact fun v H' e r' => h v H' e (f d v H' e r')
  | ex c => exact h
  | no => exact h
theorem Wants.impQ {α β : Type} {r : R α} {rel : α → β → Hp → Prop} {Q Q' : β → Hp → Prop} (h : Wants g W σ H r rel Q) (f : ∀ v H', Same H H' → Q v H' → Q' v H') : Wants g W σ H r rel Q' := by
  cases r with
  | ok d => exact fun v H' e r' => f v H' e (h v H' e r')
  | ex c => exact h
  | no => exact h
end

def relE (K : PySem.W.Frag) (F : Fp) (H : Hp) : D → V → Hp → Prop := fun d v H' => Rp K H' (Fx F H) v d
def relA (K : PySem.W.Frag) (F : Fp) (H : Hp) : List D → List V → Hp → Prop := fun d v H' => RpA K H' (Fx F H) v d
def relT : Bool → Bool → Hp → Prop := fun a b _ => b = a
/-- an expression | a test | arguments, as functions on data -/
def Pur (g : G) (e : Expr) (f : En → R D) : Prop := ∀ X W, Cok g X W → ∀ σ H F env (Q : VK), EnvOk g.D.K F σ H env → Wants g W σ H (f env) (relE g.D.K F H) Q → wE X e σ H Q
def PurT (g : G) (e : Expr) (f : En → R Bool) : Prop := ∀ X W, Cok g X W → ∀ σ H F env (Q : Bool → Hp → Prop), EnvOk g.D.K F σ H env → Wants g W σ H (f env) relT Q → wT X e σ H Q
def PurA (g : G) (es : List Expr) (f : En → R (List D)) : Prop := ∀ X W, Cok g X W → ∀ σ H F env (Q : List V → Hp → Prop), EnvOk g.D.K F σ H env → Wants g W σ H (f env) (relA g.D.K F H) Q → wA X es σ H Q

section
variable {g : G} {pos p p2 : Pos} {a b c e : Expr} {es : List Expr} {fa fb fe : En → R D} {fs : En → R (List D)} {ft : En → R Bool}

/-! ### names, constants -/
def vis (sc : Scope) (x : Str) : Bool := match sc.names.lookup x with
  | some .local => true
  | some .cell => true
  | some .free => true
  | _ => false
theorem vis_ok {sc : Scope} {x : Str} (h : vis sc x = true) : Vis sc x := by
  unfold vis at h
  split at h
  · exact .inl (by assumption)
  · exact .inr (.inl (by assumption))
  · exact .inr (.inr (by assumption))
  · cases h
@[simp] def getV (i : Nat) (env : En) : R D := match env[i]? with
  | some (some d) => .ok d
  | _ => .no
theorem pur_var (i : Nat) {x : Str} (hN : g.N[i]? = some x := by rfl) (hv : vis g.sc x = true := by rfl) (hd : (x == ("__debug__" : Str)) = false := by decide) (hcd : (x == ("__classdict__" : Str)) = false := by decide) : Pur g (.Name x pos) (getV i) := by
  intro X W C σ H F env Q E h
  refine wE_of (pe_var (i := i) (by rw [C.N]; exact hN) (by rw [C.sc]; exact vis_ok hv) hd hcd) ?_
  unfold getV at h
  split at h
  · rename_i d hq
    obtain ⟨v, h1, h2⟩ := E i d hq
    exact ⟨v, h1, h v H (Same.refl H) (h2.mono (Same.refl H) Fx.le)⟩
  · exact h.elim
/-- a constant of the module -/
def Const (D : Wd) (x : Str) (d : PyData) : Prop := ∃ v u, D.mg x = some u ∧ RelV v u ∧ ∀ H F, Rp D.K H F v d
def gl (sc : Scope) (x : Str) : Bool := match sc.names.lookup x with
  | some .globalImplicit => true
  | _ => false
theorem gl_ok {X : Cx} {W : WX} {x : Str} (C : Cok g X W) (h : gl g.sc x = true) : Gl X x := by
  unfold gl at h
  show X.env.scope.names.lookup x = _
  rw [C.sc]
  split at h
  · assumption
  · cases h
theorem pur_const {x : Str} {d : D} (hc : Const g.D x d) (hg : gl g.sc x = true := by rfl) (hd : (x == ("__debug__" : Str)) = false := by decide) : Pur g (.Name x pos) (fun _ => .ok d) := by
  intro X W C σ H F env Q E h
  obtain ⟨v, u, hm, r, hr⟩ := hc
  exact wE_of (pe_glob (gl_ok C hg) (by rw [C.mg]; exact hm) r hd) (h v H (Same.refl H) (hr H _))
theorem pur_int {i : Int} {j : Nat} : Pur g (.Constant (.int i) j pos) (fun _ => .ok (.int i)) := fun X W C σ H F env Q E h => wE_of pe_int (h _ H (Same.refl H) (.int i))
theorem pur_bool {i : Bool} {j : Nat} : Pur g (.Constant (.bool i) j pos) (fun _ => .ok (.bool i)) := fun X W C σ H F env Q E h => wE_of pe_bl (h _ H (Same.refl H) (.bl i))
theorem pur_none {j : Nat} : Pur g (.Constant .none j pos) (fun _ => .ok .none) := fun X W C σ H F env Q E h => wE_of pe_non (h _ H (Same.refl H) .non)
theorem pur_str {i : Str} {j : Nat} : Pur g (.Constant (.str i) j pos) (fun _ => .ok (.str i)) := fun X W C σ H F env Q E h => wE_of pe_str (h _ H (Same.refl H) (.str i))

/-! ### arguments -/
theorem pura_nil : PurA g [] (fun _ => .ok []) := fun X W C σ H F env Q E h => wA_of pa_nil (h _ H (Same.refl H) .nil)
theorem pura_cons (he : Pur g e fe) (hr : PurA g es fs) (hs : ∀ env, starEach (e :: es) env = (false, eval e env) :: starEach es env := by intro _; exact starEach_of rfl) :
    PurA g (e :: es) (fun env => (fe env).bind fun d => (fs env).bind fun ds => .ok (d :: ds)) := by
  intro X W C σ H F env Q E h
  refine wA_of (pa_cons pe_w pa_w (hs _)) ?_
  refine he X W C σ H F env _ E (h.bind fun d v H1 _ e1 r1 h1 => ?_)
  refine hr X W C σ H1 F env _ (E.mono e1 fun _ z => z) (h1.bind fun ds vs H2 _ e2 r2 h2 => ?_)
  exact h2 _ H2 (Same.refl H2) (.cons (Rp.mono e2 (fun _ z => z) r1) (RpA.mono (Same.refl H2) (Fx.back e1) r2))
@[simp] def unstar : D → R (List D)
  | .list ds => .ok ds
  | .tuple ds => .ok ds
  | _ => .no
theorem pura_star (he : Pur g e fe) (hr : PurA g es fs) (hs : ∀ env, starEach (.Starred e p :: es) env = (true, eval e env) :: starEach es env := by intro _; rfl) :
    PurA g (.Starred e p :: es) (fun env => (fe env).bind fun d => (unstar d).bind fun ds => (fs env).bind fun es => .ok (ds ++ es)) := by
  intro X W C σ H F env Q E h
  refine wA_of (StX.pa_star pe_w pa_w (hs _)) ?_
  refine he X W C σ H F env _ E (h.bind fun d v H1 _ e1 r1 h1 => ?_)
  have go : ∀ (a : Addr) (xs : List V) (ds : List D), v = .ref a → (SqT X.K H1 a xs ∨ SqL X.K H1 a xs) → RpA g.D.K H1 (Fx F H) xs ds → Wants g W σ H1 ((fs env).bind fun es => .ok (ds ++ es)) (relA g.D.K F H) Q →
      ∃ p xs, v = V.ref p ∧ (SqT X.K H1 p xs ∨ SqL X.K H1 p xs) ∧ wA X es σ H1 fun ys H2 => Q (xs ++ ys) H2 := fun a xs ds ev hx ha h2 => by
    refine ⟨a, xs, ev, hx, ?_⟩
    refine hr X W C σ H1 F env _ (E.mono e1 fun _ z => z) (h2.bind fun ds' vs H2 _ e2 r2 h3 => ?_)
    exact h3 _ H2 (Same.refl H2) ((RpA.mono e2 (fun _ z => z) ha).append (RpA.mono (Same.refl H2) (Fx.back e1) r2))
  cases r1 with
  | lst hl ha => exact go _ _ _ rfl (.inr (by rw [C.K]; exact hl.sq)) ha h1
  | tup hl ha => exact go _ _ _ rfl (.inl (by rw [C.K]; exact hl)) ha h1
  | _ => exact h1.elim
def szOk (n : Nat) : Bool := decide (n ≤ sizeLine)
theorem pur_tup {k : Nat} (h : PurA g es fs) : Pur g (.Tuple es k pos) (fun env => (fs env).bind fun ds => if szOk ds.length then .ok (.tuple ds) else .no) := by
  intro X W C σ H F env Q E hq
  refine wE_of (pe_tup pa_w) ?_
  refine h X W C σ H F env _ E (hq.bind fun ds vs H1 _ e1 r1 h1 => ?_)
  by_cases z : szOk ds.length = true
  · rw [if_pos z] at h1
    refine ⟨by rw [r1.length]; exact of_decide_eq_true z, fun q hn => h1 _ _ (Same.new hn) ?_⟩
    exact .tup (.inl (.inl upd_same)) (RpA.mono (Same.new hn) (fun _ z => z) r1)
  · rw [if_neg z] at h1
    exact h1.elim
theorem pur_lst (h : PurA g es fs) : Pur g (.List es pos) (fun env => (fs env).bind fun ds => if szOk ds.length then .ok (.list ds) else .no) := by
  intro X W C σ H F env Q E hq
  refine wE_of (pe_lst pa_w) ?_
  refine h X W C σ H F env _ E (hq.bind fun ds vs H1 _ e1 r1 h1 => ?_)
  by_cases z : szOk ds.length = true
  · rw [if_pos z] at h1
    refine ⟨by rw [r1.length]; exact of_decide_eq_true z, fun q hn => h1 _ _ (Same.new hn) ?_⟩
    exact .lst (.inl ⟨.inl upd_same, .inr (e1.free hn)⟩) (RpA.mono (Same.new hn) (fun _ z => z) r1)
  · rw [if_neg z] at h1
    exact h1.elim
end

/-! ### operators -/
section
variable {g : G} {W : WX} {X : Cx} {σ : L2.St} {H : Hp} {F : Fp}
def mulOk (i j : Int) : Bool := decide (i.natAbs < 2 ^ 64) || decide (j.natAbs < 2 ^ 64) || decide (i.natAbs.log2 + j.natAbs.log2 < 134217720)
theorem mulOk_ok {i j : Int} (h : mulOk i j = true) : IntMulOk i j := by
  unfold mulOk at h
  simp only [Bool.or_eq_true, decide_eq_true_eq] at h
  have bits : ∀ x : Int, Builtin.Int.intBits x ≤ x.natAbs.log2 + 1 := fun x => by
    unfold Builtin.Int.intBits
    split <;> omega
  rcases h with (h | h) | h
  · exact .of_left (intBits_le_64 (by omega) (by omega))
  · exact .of_right (intBits_le_64 (by omega) (by omega))
  · have h1 := bits i
    have h2 := bits j
    have line : bitsLine = 2 ^ 27 := by decide
    unfold IntMulOk
    intro z
    rw [Bool.and_eq_true] at z
    have y2 := z.2
    unfold Builtin.Int.intTooBig at y2
    have y3 := of_decide_eq_true y2
    rw [line] at y3
    omega
def divOk (i j : Int) : Bool := decide (j ≠ 0) && (decide (j.natAbs.log2 < 9000) || decide (i.natAbs.log2 < 13000))
theorem divOk_ok {i j : Int} (h : divOk i j = true) : j ≠ 0 ∧ Builtin.divisionGoesByPylong i j = false := by
  unfold divOk at h
  simp only [Bool.and_eq_true, Bool.or_eq_true, decide_eq_true_eq] at h
  refine ⟨h.1, ?_⟩
  rcases h.2 with q | q
  · exact PyProof.noPylong_of_log2 q
  · show (decide ((if j == 0 then 0 else j.natAbs.log2 / 30 + 1) > 300) && decide ((if i == 0 then 0 else i.natAbs.log2 / 30 + 1) > (if j == 0 then 0 else j.natAbs.log2 / 30 + 1) + 150)) = false
    have hi : (if i == 0 then 0 else i.natAbs.log2 / 30 + 1) ≤ 450 := by
      by_cases z : (i == 0) = true
      · rw [if_pos z]; omega
      · rw [if_neg z]; omega
    by_cases z : (if j == 0 then 0 else j.natAbs.log2 / 30 + 1) > 300
    · rw [decide_eq_false (p := (if i == 0 then 0 else i.natAbs.log2 / 30 + 1) > (if j == 0 then 0 else j.natAbs.log2 / 30 + 1) + 150) (by omega), Bool.and_false]
    · rw [decide_eq_false z, Bool.false_and]
def opV : Operator → D → D → R D
  | .Add, .int i, .int j => .ok (.int (i + j))
  | .Sub, .int i, .int j => .ok (.int (i - j))
  | .Mult, .int i, .int j => if mulOk i j then .ok (.int (i * j)) else .no
  | .FloorDiv, .int i, .int j => if divOk i j then .ok (.int (i.fdiv j)) else .no
  | .Mod, .int i, .int j => if j = 0 then .no else .ok (.int (i.fmod j))
  | .Pow, .int i, .int j => if 0 ≤ j ∧ j ≤ 1000000 ∧ i.natAbs < 2 ^ 64 then .ok (.int (i ^ j.toNat)) else .no
  | .Add, .list xs, .list ys => if szOk (xs.length + ys.length) then .ok (.list (xs ++ ys)) else .no
  | .Add, .tuple xs, .tuple ys => if szOk (xs.length + ys.length) then .ok (.tuple (xs ++ ys)) else .no
  | .Mult, .list xs, .int k => if -(2 ^ 63) ≤ k ∧ k < 2 ^ 63 ∧ xs.length * k.toNat ≤ sizeLine then .ok (.list (List.replicate k.toNat xs).flatten) else .no
  | .Mult, .tuple xs, .int k => if 0 ≤ k ∧ k ≤ 1000 ∧ 0 < xs.length ∧ xs.length ≤ 1000 then .ok (.tuple (List.replicate k.toNat xs).flatten) else .no
  | .Add, .str x, .str y => if x.length + y.length ≤ sizeLine then .ok (.str (x ++ y)) else .no
  | _, _, _ => .no
end

/-! ### sequences put together and repeated -/
/-- a sequence as it lies in memory -/
abbrev sqO (T : String) (dd : Option Addr) (m : Nat) (sl : Array (Option Value)) (ws : Array Value) : Obj := ⟨.type T, dd, .seq ws m, sl⟩
/-- a method, the sequence o lying at a, tells v and leaves st -/
abbrev Tells (a : Addr) (o : Obj) (v : Shared → Value) (st : Shared → Shared) : Around → (Result → Shared → Prop) → Shared → Prop := fun _ R z => z.heap.get? a = some o ∧ R (.ok (.ret (v z))) (st z)
/-- a new sequence behind all that is -/
abbrev laid (T : String) (ws : Array Value) (z : Shared) : Shared := { z with heap := z.heap.push { cls := Value.type T, data := Data.seq ws }, toks := z.toks }
abbrev lastA (z : Shared) : Value := .ref z.heap.objs.size
abbrev manyOf (n : Nat) (ws : Array Value) : Array Value := List.foldl (fun x1 x2 => x1 ++ x2) #[] (List.replicate n ws)
section
variable {l : Addr} {ws : Array Value} {m : Nat} {dd : Option Addr} {sl : Array (Option Value)} {x : Int} {u : Tok}
theorem times_none (a : Int) (t : Tok) : Meets (Builtin.«int.__rmul__» ⟨[.int a t, .ref l], []⟩) (Tells l (sqO "list" dd m sl ws) (fun _ => .notImplemented) id) := .of_wp fun P w A R z ⟨hl, q⟩ => by
  rcases z with ⟨hp, g, d, tk, os⟩
  wp_walk using AutoSeq1.wpAny_loadPart' hl
  exact ⟨_, rfl, q⟩
theorem times_list (k0 : ¬(!Builtin.List.listFitsIndex x) = true) (k1 : ¬ws.size * x.toNat > (2 ^ 63 - 1) / 8) (k2 : ¬Builtin.List.listTooLong (ws.size * x.toNat) = true) :
    Meets (Builtin.«list.__mul__» ⟨[.ref l, .int x u], []⟩) (Tells l (sqO "list" dd m sl ws) lastA (laid "list" (manyOf (if ws.isEmpty = true then 0 else x.toNat) ws))) := .of_wp fun P w A R z ⟨hl, q⟩ => by
  rcases z with ⟨hp, g, d, tk, os⟩
  have fits := AutoListH.joined_fits k2
  wp_walk using AutoSeq1.wpAny_loadPart' hl
  refine wpAny_ite_false (decide_eq_false (by omega)) ?_
  wp_walk using AutoSeq1.wpAny_loadPart' hl
  exact ⟨_, rfl, q⟩
theorem times_tup0 (k0 : (decide (x < -(2 ^ 63)) || decide (x ≥ 2 ^ 63)) = false) (k1 : (ws.isEmpty || x == 1) = false) (k2 : (decide (x ≤ 0) || ws.isEmpty) = true) :
    Meets (Builtin.«tuple.__mul__» ⟨[.ref l, .int x u], []⟩) (Tells l (sqO "tuple" dd m sl ws) lastA (laid "tuple" #[])) := .of_wp fun P w A R z ⟨hl, q⟩ => by
  rcases z with ⟨hp, g, d, tk, os⟩
  have ix := AutoSeq1.idx_int
  wp_walk using AutoSeq1.wpAny_loadPart' hl
  refine wpAny_ite_false (decide_eq_false (fun e => Bool.false_ne_true (k0.symm.trans e))) ?_
  wp_walk using AutoSeq1.wpAny_loadPart' hl
  exact ⟨_, rfl, q⟩
theorem times_tup1 (k0 : (decide (x < -(2 ^ 63)) || decide (x ≥ 2 ^ 63)) = false) (k1 : (ws.isEmpty || x == 1) = true) :
    Meets (Builtin.«tuple.__mul__» ⟨[.ref l, .int x u], []⟩) (Tells l (sqO "tuple" dd m sl ws) (fun _ => .ref l) id) := .of_wp fun P w A R z ⟨hl, q⟩ => by
  rcases z with ⟨hp, g, d, tk, os⟩
  have ix := AutoSeq1.idx_int
  wp_walk using AutoSeq1.wpAny_loadPart' hl
  refine wpAny_ite_false (decide_eq_false (fun e => Bool.false_ne_true (k0.symm.trans e))) ?_
  wp_walk using AutoSeq1.wpAny_loadPart' hl
  exact ⟨_, rfl, q⟩
theorem manyOf_eq (its : List Value) (n : Nat) : manyOf (if its.toArray.isEmpty = true then 0 else n) its.toArray = (List.replicate n its).flatten.toArray := by
  have all : ∀ k : Nat, manyOf k its.toArray = (List.replicate k its).flatten.toArray := fun k => (foldl_rep its k []).trans (congrArg List.toArray (List.nil_append _))
  rw [all]
  rcases its with _ | ⟨a, r⟩
  · simp
  · exact congrArg (fun k => (List.replicate k (a :: r)).flatten.toArray) (if_neg (by simp))
end
section
variable {X : Cx}
/-- what is known of a list that may be read -/
theorem listX {pins : List (Addr × Obj)} {σ : L2.St} {H : Hp} {z : Shared} {a : Addr} {xs : List V} (I : Inv X pins σ H z) (h : SqL X.K H a xs) :
    ∃ (its : List Value) (m : Nat) (dd : Option Addr) (sl : Array (Option Value)), Vals xs its ∧ xs.length = its.length ∧ xs.length ≤ sizeLine ∧ z.heap.get? a = some (sqO "list" dd m sl its.toArray) := by
  obtain ⟨its, r, ⟨⟨c, dd, dt, sl⟩, m, ho, ec, _, ed⟩, hz⟩ := I.list h
  cases ec
  cases ed
  exact ⟨its, m, dd, sl, r, r.length, hz, ho⟩
/-- any two tuples, one behind the other -/
def rCatTU (K : PySem.W.Frag) : R2 := rCatA K
theorem op_catTU : OpR X (binaryOp .Add) (rCatTU X.K) := op_catA
/-- a list n times -/
def rRepS (K : PySem.W.Frag) : R2 := fun x y H Q => ∃ l k xs, x = .ref l ∧ y = .int k ∧ SqL K H l xs ∧ -(2 ^ 63) ≤ k ∧ k < 2 ^ 63 ∧ xs.length * k.toNat ≤ sizeLine ∧
  ∀ a, H a = none → Q (.ref a) (upd H a (.lst (List.replicate k.toNat xs).flatten))
theorem op_repS : OpR X (binaryOp .Mult) (rRepS X.K) := fun pins z σ H x y v w Q I rx ry ⟨l, k, xs, ex, ey, hl, lo, hi, few, q⟩ => by
  subst ex ey
  cases rx
  obtain ⟨t, rfl⟩ := ry
  obtain ⟨its, m, dd, sl, r, el, _, at_l⟩ := listX I hl
  have size : its.toArray.size * k.toNat ≤ sizeLine := by rw [el] at few; simpa using few
  have cap : its.toArray.size * k.toNat ≤ (2 ^ 63 - 1) / 8 := Nat.le_trans size (by decide)
  have fit : Builtin.List.listFitsIndex k = true := fitsIndex_both lo hi
  have told := times_list (l := l) (u := t) (dd := dd) (m := m) (sl := sl) (by rw [fit]; decide) (Nat.not_lt.mpr cap) (by rw [notLongL size]; decide)
  have none_ := times_none (l := l) (dd := dd) (m := m) (sl := sl) (ws := its.toArray) k t
  have ends : Q (.ref z.heap.objs.size) (upd H z.heap.objs.size (.lst (List.replicate k.toNat xs).flatten)) := q _ I.fresh
  refine wpAny_binaryOp_repeat_ref (T := "list") (by decide) ⟨_, at_l, rfl⟩ (fun _ => typeIs_int _ k t) noFill_list_mul F.fills_int_mul F.slot_int_rmul repeat_list F.slot_int_index.lookup ?_
  refine call_meets F.slot_int_rmul (typeIs_int z k t) F.entry_int_rmul (F.args_int_rmul_2 _ _) none_ ⟨at_l, rfl, ⟨_, at_l, rfl⟩, ?_⟩
  refine call_meets F.slot_list_mul ⟨_, at_l, rfl⟩ F.entry_list_mul (F.args_list_mul_2 _ _) told ⟨at_l, ?_⟩
  rw [manyOf_eq]
  exact ⟨.ref _, _, I.lnew (t' := z.toks) (r.rep k.toNat) (by rw [PyProof.Rows.lm_len_rep_flat]; rw [Nat.mul_comm] at few; exact few), rfl, ends⟩
/-- a list behind a list -/
def rCatS (K : PySem.W.Frag) : R2 := fun x y H Q => ∃ l b xs ys, x = .ref l ∧ y = .ref b ∧ SqL K H l xs ∧ SqL K H b ys ∧ xs.length + ys.length ≤ sizeLine ∧ ∀ a, H a = none → Q (.ref a) (upd H a (.lst (xs ++ ys)))
theorem op_catS : OpR X (binaryOp .Add) (rCatS X.K) := fun pins z σ H x y v w Q I rx ry ⟨l, b, xs, ys, ex, ey, hl, hb, few, q⟩ => by
  subst ex ey
  cases rx
  cases ry
  obtain ⟨is, m1, d1, s1, r1, n1, _, at1⟩ := listX I hl
  obtain ⟨js, m2, d2, s2, r2, n2, _, at2⟩ := listX I hb
  have two : xs.length + ys.length = is.toArray.size + js.toArray.size := by rw [n1, n2]; rfl
  have told := list_addW l b is.toArray js.toArray m1 m2 d1 d2 s1 s2 (two ▸ few)
  have ends : Q (.ref z.heap.objs.size) (upd H z.heap.objs.size (.lst (xs ++ ys))) := q _ I.fresh
  have e : is.toArray ++ js.toArray = (is ++ js).toArray := List.append_toArray is js
  refine concat_meets ⟨_, at1, rfl⟩ ⟨_, at2, rfl⟩ noFill_list_add seq_list_add F.slot_list_add F.entry_list_add (F.args_list_add_2 _ _) told ⟨at1, at2, ?_⟩
  rw [e]
  exact ⟨.ref _, _, I.lnew (t' := z.toks) (r1.append r2) (by rw [List.length_append]; exact few), rfl, ends⟩
/-- a tuple n times -/
def rRepTU (K : PySem.W.Frag) : R2 := fun x y H Q => ∃ l k xs, x = .ref l ∧ y = .int k ∧ SqT K H l xs ∧ 0 ≤ k ∧ k ≤ 1000 ∧ 0 < xs.length ∧ xs.length ≤ 1000 ∧ (k = 1 → Q (.ref l) H) ∧ ∀ a, H a = none → Q (.ref a) (upd H a (.tup (List.replicate k.toNat xs).flatten))
theorem op_repTU : OpR X (binaryOp .Mult) (rRepTU X.K) := fun pins z σ H x y v w Q I rx ry ⟨l, k, xs, ex, ey, ht, lo, hi, some_, few, q1, q⟩ => by
  subst ex ey
  have ne : xs ≠ [] := List.length_pos_iff.mp some_
  rcases (by omega : 2 ≤ k ∨ k = 1 ∨ k = 0) with two | one
  · exact op_repT pins z σ H _ _ v w Q I rx ry ⟨l, k, xs, rfl, rfl, ht, ne, two, hi, few, q⟩
  cases rx
  obtain ⟨t, rfl⟩ := ry
  obtain ⟨its, r, ⟨⟨c, dd, dt, sl⟩, at_l, ec, m, ed⟩, _⟩ := I.tuple ht
  cases ec
  cases ed
  have full : its.toArray.isEmpty = false := by
    rcases its with _ | ⟨a, r'⟩
    · exact absurd (r.nil_iff.mp rfl) ne
    · rfl
  have in_ : (decide (k < -(2 ^ 63)) || decide (k ≥ 2 ^ 63)) = false := Bool.or_eq_false_iff.mpr ⟨decide_eq_false (by omega), decide_eq_false (by omega)⟩
  have none_ := int_rmul_tuple k t l its.toArray m dd sl
  refine wpAny_binaryOp_repeat_ref (T := "tuple") (by decide) ⟨_, at_l, rfl⟩ (fun _ => typeIs_int _ k t) noFill_tuple_mul F.fills_int_mul F.slot_int_rmul repeat_tuple F.slot_int_index.lookup ?_
  refine call_meets F.slot_int_rmul (typeIs_int z k t) F.entry_int_rmul (F.args_int_rmul_2 _ _) none_ ⟨at_l, rfl, ⟨_, at_l, rfl⟩, ?_⟩
  rcases one with one | zero
  · have told := times_tup1 (l := l) (ws := its.toArray) (x := k) (u := t) (dd := dd) (m := m) (sl := sl) in_ (Bool.or_eq_true_iff.mpr (.inr (beq_iff_eq.mpr one)))
    exact call_meets F.slot_tuple_mul ⟨_, at_l, rfl⟩ F.entry_tuple_mul (F.args_tuple_mul_2 _ _) told ⟨at_l, ⟨.ref l, H, I, rfl, q1 one⟩⟩
  · have told := times_tup0 (l := l) (ws := its.toArray) (x := k) (u := t) (dd := dd) (m := m) (sl := sl) in_ (Bool.or_eq_false_iff.mpr ⟨full, beq_eq_false_iff_ne.mpr (by omega)⟩) (Bool.or_eq_true_iff.mpr (.inl (decide_eq_true (by omega))))
    have ends : Q (.ref z.heap.objs.size) (upd H z.heap.objs.size (.tup (List.replicate k.toNat xs).flatten)) := q _ I.fresh
    refine call_meets F.slot_tuple_mul ⟨_, at_l, rfl⟩ F.entry_tuple_mul (F.args_tuple_mul_2 _ _) told ⟨at_l, ?_⟩
    subst zero
    exact ⟨.ref _, _, I.laid (t' := z.toks) (o := .tup (List.replicate (0 : Int).toNat xs).flatten) (fun _ _ g => Heap.get?_push_of_some _ g) (Nat.le_refl _) ⟨Nat.zero_le _, [], .nil, IsTup.new _ _⟩, rfl, ends⟩
end

section
variable {g : G} {W : WX} {X : Cx} {σ : L2.St} {H : Hp} {F : Fp}
theorem RpA.rep {K : PySem.W.Frag} {H : Hp} {F : Fp} {vs : List V} {ds : List D} (h : RpA K H F vs ds) : ∀ k : Nat, RpA K H F (List.replicate k vs).flatten (List.replicate k ds).flatten
  | 0 => .nil
  | k + 1 => by
    simp only [List.replicate_succ, List.flatten_cons]
    exact h.append (RpA.rep h k)
theorem RpA.nil_iff {K : PySem.W.Frag} {H : Hp} {F : Fp} {vs : List V} {ds : List D} (h : RpA K H F vs ds) : vs = [] ↔ ds = [] := by
  cases h with
  | nil => simp
  | cons _ _ => simp
theorem int_fdivX : OpR X (binaryOp .FloorDiv) (rI (fun i j => j ≠ 0 ∧ Builtin.divisionGoesByPylong i j = false) fun i j => .int (i.fdiv j)) := opI fun i j _ _ _ _ _ hc q => floordiv_int hc.1 q (.inl hc.2)
theorem int_mulX : OpR X (binaryOp .Mult) (rI IntMulOk fun i j => .int (i * j)) := opI fun _ _ _ _ _ _ _ hc q => mul_int q hc
theorem opV_ok (C : Cok g X W) {op : Operator} {dx dy : D} {x y : V} {Q : VK} (rx : Rp g.D.K H (Fx F H) x dx) (ry : Rp g.D.K H (Fx F H) y dy) (h : Wants g W σ H (opV op dx dy) (relE g.D.K F H) Q) : wO X (binaryOp op) x y H Q := by
  unfold opV at h
  split at h
  · cases rx; cases ry
    exact wO_of op_add ⟨_, _, rfl, rfl, h _ H (Same.refl H) (.int _)⟩
  · cases rx; cases ry
    exact wO_of op_sub ⟨_, _, rfl, rfl, h _ H (Same.refl H) (.int _)⟩
  · cases rx; cases ry
    split at h
    · exact wO_of int_mulX ⟨_, _, rfl, rfl, mulOk_ok (by assumption), h _ H (Same.refl H) (.int _)⟩
    · exact h.elim
  · cases rx; cases ry
    split at h
    · exact wO_of int_fdivX ⟨_, _, rfl, rfl, divOk_ok (by assumption), h _ H (Same.refl H) (.int _)⟩
    · exact h.elim
  · cases rx; cases ry
    split at h
    · exact h.elim
    · exact wO_of op_modN ⟨_, _, rfl, rfl, by assumption, h _ H (Same.refl H) (.int _)⟩
  · cases rx; cases ry
    split at h
    · exact wO_of op_pow ⟨_, _, rfl, rfl, by assumption, h _ H (Same.refl H) (.int _)⟩
    · exact h.elim
  · cases rx with
    | lst h1 a1 =>
      cases ry with
      | lst h2 a2 =>
        split at h
        · refine wO_of op_catS ⟨_, _, _, _, rfl, rfl, by rw [C.K]; exact h1.sq, by rw [C.K]; exact h2.sq, by rw [a1.length, a2.length]; exact of_decide_eq_true (by assumption), fun p hn => h _ _ (Same.new hn) (.lst (.inl ⟨.inl upd_same, .inr hn⟩) ?_)⟩
          exact (RpA.mono (Same.new hn) (fun _ z => z) a1).append (RpA.mono (Same.new hn) (fun _ z => z) a2)
        · exact h.elim
  · cases rx with
    | tup h1 a1 =>
      cases ry with
      | tup h2 a2 =>
        split at h
        · refine wO_of op_catTU ⟨_, _, _, _, rfl, rfl, by rw [C.K]; exact h1, by rw [C.K]; exact h2, by rw [a1.length, a2.length]; exact of_decide_eq_true (by assumption), fun e => h _ H (Same.refl H) ?_, fun _ e => h _ H (Same.refl H) ?_, fun _ _ p hn => h _ _ (Same.new hn) (.tup (.inl (.inl upd_same)) ?_)⟩
          · have e' := a1.nil_iff.mp e
            subst e'
            exact .tup h2 a2
          · have e' := a2.nil_iff.mp e
            subst e'
            rw [List.append_nil]
            exact .tup h1 a1
          · exact (RpA.mono (Same.new hn) (fun _ z => z) a1).append (RpA.mono (Same.new hn) (fun _ z => z) a2)
        · exact h.elim
  · cases rx with
    | lst h1 a1 =>
      cases ry
      split at h
      · rename_i c
        exact wO_of op_repS ⟨_, _, _, rfl, rfl, by rw [C.K]; exact h1.sq, c.1, c.2.1, by rw [a1.length]; exact c.2.2, fun p hn => h _ _ (Same.new hn) (.lst (.inl ⟨.inl upd_same, .inr hn⟩) (RpA.rep (RpA.mono (Same.new hn) (fun _ z => z) a1) _))⟩
      · exact h.elim
  · cases rx with
    | tup h1 a1 =>
      cases ry
      split at h
      · rename_i c
        refine wO_of op_repTU ⟨_, _, _, rfl, rfl, by rw [C.K]; exact h1, c.1, c.2.1, by rw [a1.length]; exact c.2.2.1, by rw [a1.length]; exact c.2.2.2, fun e => h _ H (Same.refl H) ?_, fun p hn => h _ _ (Same.new hn) (.tup (.inl (.inl upd_same)) (RpA.rep (RpA.mono (Same.new hn) (fun _ z => z) a1) _))⟩
        subst e
        have : (List.replicate (1 : Int).toNat ‹List D›).flatten = ‹List D› := by simp
        rw [this]
        exact .tup h1 a1
      · exact h.elim
  · cases rx; cases ry
    split at h
    · exact wO_of op_add_str ⟨_, _, rfl, rfl, by assumption, h _ H (Same.refl H) (.str _)⟩
    · exact h.elim
  · exact h.elim
end

section
variable {g : G} {pos p p2 : Pos} {a b c e : Expr} {es : List Expr} {fa fb fe : En → R D} {fs : En → R (List D)} {ft : En → R Bool}
theorem relE.lift {K : PySem.W.Frag} {F : Fp} {H H1 H2 : Hp} (e1 : Same H H1) {d : D} {v : V} (r : relE K F H1 d v H2) : relE K F H d v H2 := Rp.mono (Same.refl H2) (Fx.back e1) r
theorem relA.lift {K : PySem.W.Frag} {F : Fp} {H H1 H2 : Hp} (e1 : Same H H1) {d : List D} {v : List V} (r : relA K F H1 d v H2) : relA K F H d v H2 := RpA.mono (Same.refl H2) (Fx.back e1) r
theorem relE.keep {K : PySem.W.Frag} {F : Fp} {H H1 H2 : Hp} (e1 : Same H1 H2) {d : D} {v : V} (r : relE K F H d v H1) : relE K F H d v H2 := Rp.mono e1 (fun _ z => z) r
/-- as seen from a later heap: what H did not know is either still unknown or allowed -/
theorem Fx.rebase {F : Fp} {H H1 : Hp} (e1 : Same H H1) : ∀ a, Fx F H a → Fx (Fx F H) H1 a := fun a h => .inl h
theorem pur_bin {op : Operator} (ha : Pur g a fa) (hb : Pur g b fb) : Pur g (.BinOp a op b pos) (fun env => (fa env).bind fun x => (fb env).bind fun y => opV op x y) := by
  intro X W C σ H F env Q E h
  refine wE_of (pe_op op_w pe_w pe_w) ?_
  refine ha X W C σ H F env _ E (h.bind fun x v H1 _ e1 r1 h1 => ?_)
  refine hb X W C σ H1 F env _ (E.mono e1 fun _ z => z) (h1.bind fun y u H2 _ e2 r2 h2 => ?_)
  refine opV_ok (σ := σ) (F := Fx F H) C (Rp.mono e2 (fun a z => .inl z) r1) (Rp.mono (Same.refl H2) (fun a z => .inl (Fx.back e1 a z)) r2) (h2.imp fun d v H' _ r => ?_)
  exact Rp.mono (Same.refl _) (fun a z => z.elim id fun z => .inr ((e1.trans e2).free z)) r
@[simp] def negV : D → R D
  | .int i => .ok (.int (-i))
  | _ => .no
theorem pur_neg (ha : Pur g a fa) : Pur g (.UnaryOp .USub a pos) (fun env => (fa env).bind negV) := by
  intro X W C σ H F env Q E h
  refine wE_of (pe_un un_neg pe_w) ?_
  refine ha X W C σ H F env _ E (h.bind fun x v H1 _ e1 r1 h1 => ?_)
  cases r1 with
  | int i => exact ⟨i, rfl, h1 _ H1 (Same.refl H1) (.int _)⟩
  | _ => exact h1.elim
end
end Pu
namespace Pu
open PySem PySem.Spec PyProof.Rows L2

section
variable {g : G} {pos p p2 : Pos} {a b c e : Expr} {es rest : List Expr} {fa fb fc fe : En → R D} {fs : En → R (List D)} {ft fu : En → R Bool}

/-! ### comparisons -/
def cmpV : CmpOp → D → D → R D
  | .Lt, .int i, .int j => .ok (.bool (decide (i < j)))
  | .LtE, .int i, .int j => .ok (.bool (decide (i ≤ j)))
  | .Gt, .int i, .int j => .ok (.bool (decide (j < i)))
  | .GtE, .int i, .int j => .ok (.bool (decide (j ≤ i)))
  | .Eq, .int i, .int j => .ok (.bool (decide (i = j)))
  | .NotEq, .int i, .int j => .ok (.bool (!decide (i = j)))
  | .Eq, x, y => if SeqAt.shaped x && SeqAt.shaped y then .ok (.bool (PyData.eqv x y)) else .no
  | .NotEq, x, y => if SeqAt.shaped x && SeqAt.shaped y then .ok (.bool (!PyData.eqv x y)) else .no
  | .Is, .bool i, .bool j => .ok (.bool (decide (i = j)))
  | .IsNot, .bool i, .bool j => .ok (.bool (!decide (i = j)))
  | .Is, x, .none => .ok (.bool (match x with | .none => true | _ => false))
  | .IsNot, x, .none => .ok (.bool (match x with | .none => false | _ => true))
  | _, _, _ => .no
theorem int_eqX {X : Cx} : OpR X (compareOp .Eq) (rI0 fun i j => .bl (decide (i = j))) := opB0 fun _ _ _ _ _ _ _ h => eq_int (by rw [Bool.beq_eq_decide_eq]; exact h)
theorem int_neX {X : Cx} : OpR X (compareOp .NotEq) (rI0 fun i j => .bl (!decide (i = j))) := opB0 fun _ _ _ _ _ _ _ h => ne_int (by rw [bne, Bool.beq_eq_decide_eq]; exact h)
theorem cmpV_ok {X : Cx} {W : WX} {σ : L2.St} {H : Hp} {F F' : Fp} (C : Cok g X W) {op : CmpOp} {dx dy : D} {x y : V} {Q : VK} (rx : Rp g.D.K H F' x dx) (ry : Rp g.D.K H F' y dy) (h : Wants g W σ H (cmpV op dx dy) (relE g.D.K F H) Q) : wO X (compareOp op) x y H Q := by
  unfold cmpV at h
  split at h
  · cases rx; cases ry; exact wO_of op_lt ⟨_, _, rfl, rfl, h _ H (Same.refl H) (.bl _)⟩
  · cases rx; cases ry; exact wO_of op_le ⟨_, _, rfl, rfl, h _ H (Same.refl H) (.bl _)⟩
  · cases rx; cases ry; exact wO_of op_gt ⟨_, _, rfl, rfl, h _ H (Same.refl H) (.bl _)⟩
  · cases rx; cases ry; exact wO_of op_ge ⟨_, _, rfl, rfl, h _ H (Same.refl H) (.bl _)⟩
  · cases rx; cases ry; exact wO_of int_eqX ⟨_, _, rfl, rfl, h _ H (Same.refl H) (.bl _)⟩
  · cases rx; cases ry; exact wO_of int_neX ⟨_, _, rfl, rfl, h _ H (Same.refl H) (.bl _)⟩
  · split at h
    · rename_i z
      rw [Bool.and_eq_true] at z
      exact wO_of (op_eqD C.units) ⟨_, _, by rw [C.K]; exact rx.dp, by rw [C.K]; exact ry.dp, z.1, z.2, h _ H (Same.refl H) (.bl _)⟩
    · exact h.elim
  · split at h
    · rename_i z
      rw [Bool.and_eq_true] at z
      exact wO_of (op_neD C.units) ⟨_, _, by rw [C.K]; exact rx.dp, by rw [C.K]; exact ry.dp, z.1, z.2, h _ H (Same.refl H) (.bl _)⟩
    · exact h.elim
  · cases rx; cases ry; exact wO_of op_isBl ⟨_, _, rfl, rfl, h _ H (Same.refl H) (.bl _)⟩
  · cases rx; cases ry; exact wO_of op_notBl ⟨_, _, rfl, rfl, h _ H (Same.refl H) (.bl _)⟩
  · cases ry
    refine wO_of op_isN ⟨rfl, h _ H (Same.refl H) ?_⟩
    cases rx <;> exact .bl _
  · cases ry
    refine wO_of op_notN ⟨rfl, h _ H (Same.refl H) ?_⟩
    cases rx <;> exact .bl _
  · exact h.elim
theorem pur_cmp {op : CmpOp} (ha : Pur g a fa) (hb : Pur g b fb) (hm : behindInMarks op b = false := by first | exact nobehind _ (by decide) (by decide) | rfl) :
    Pur g (.Compare a [op] [b] pos) (fun env => (fa env).bind fun x => (fb env).bind fun y => cmpV op x y) := by
  intro X W C σ H F env Q E h
  refine wE_of (pe_cmpR op_w pe_w pe_w hm) ?_
  refine ha X W C σ H F env _ E (h.bind fun x v H1 _ e1 r1 h1 => ?_)
  refine hb X W C σ H1 F env _ (E.mono e1 fun _ z => z) (h1.bind fun y u H2 _ e2 r2 h2 => ?_)
  refine cmpV_ok (σ := σ) (F := Fx F H) (F' := Fx F H) C (Rp.mono e2 (fun a z => z) r1) (Rp.mono (Same.refl H2) (fun a z => Fx.back e1 a z) r2) (h2.imp fun d v H' _ r => ?_)
  exact Rp.mono (Same.refl _) (fun a z => z.elim id fun z => .inr ((e1.trans e2).free z)) r
/-- the truth of a datum -/
def truth : D → R Bool
  | .none => .ok false
  | .bool b => .ok b
  | .int i => .ok (i != 0)
  | .str x => if szOk x.length then .ok ((x.length : Int) != 0) else .no
  | .list ds => .ok (!ds.isEmpty)
  | .tuple ds => .ok (!ds.isEmpty)
  | .dict _ => .no
theorem RpA.isEmpty {K : PySem.W.Frag} {H : Hp} {F : Fp} {vs : List V} {ds : List D} (h : RpA K H F vs ds) : vs.isEmpty = ds.isEmpty := by
  cases h <;> rfl
theorem truth_ok {K : PySem.W.Frag} {H : Hp} {F : Fp} {v : V} {d : D} {k : Bool} (r : Rp K H F v d) (h : truth d = .ok k) : TruV K v H k := by
  cases r with
  | non => cases h; exact rfl
  | bl b => cases h; exact rfl
  | int i => cases h; exact rfl
  | str x =>
    by_cases z : szOk x.length = true
    · simp [truth, z] at h
      subst h
      exact ⟨of_decide_eq_true z, by simp⟩
    · simp [truth, z] at h
  | lst hl ha => cases h; exact .inl ⟨_, hl.sq, by rw [ha.isEmpty]⟩
  | tup hl ha => cases h; exact .inr (.inl ⟨_, hl, by rw [ha.isEmpty]⟩)
/-- the plain form of a test -/
def Plain (e : Expr) : Prop := ∀ (env : Env) (whole : Sem Value), isTrue e env whole = (do let v ← whole; standAt e.pos; holding [v] (truthy v))
theorem truth_ex {d : D} {c : Str} : truth d ≠ .ex c := by
  cases d <;> simp [truth]
  split <;> simp
theorem purt_val (he : Pur g e fe) (hp : Plain e := by intro _ _; rfl) : PurT g e (fun env => (fe env).bind truth) := by
  intro X W C σ H F env Q E h
  refine wT_of (pt_truth pe_w (hp _)) ?_
  refine he X W C σ H F env _ E (h.bind fun x v H1 _ e1 r1 h1 => ?_)
  cases q : truth x with
  | ok k =>
    rw [q] at h1
    exact ⟨k, by rw [C.K]; exact truth_ok r1 q, h1 k H1 (Same.refl H1) rfl⟩
  | ex c => exact absurd q truth_ex
  | no => rw [q] at h1; exact h1.elim
@[simp] def boolOf : D → R Bool
  | .bool b => .ok b
  | _ => .no
theorem purt_cmp {op : CmpOp} (ha : Pur g a fa) (hb : Pur g b fb) (hm : behindInMarks op b = false := by first | exact nobehind _ (by decide) (by decide) | rfl) :
    PurT g (.Compare a [op] [b] pos) (fun env => (fa env).bind fun x => (fb env).bind fun y => (cmpV op x y).bind boolOf) := by
  intro X W C σ H F env Q E h
  refine wT_of (pt_cmpR op_w pe_w pe_w hm) ?_
  refine ha X W C σ H F env _ E (h.bind fun x v H1 _ e1 r1 h1 => ?_)
  refine hb X W C σ H1 F env _ (E.mono e1 fun _ z => z) (h1.bind fun y u H2 _ e2 r2 h2 => ?_)
  refine cmpV_ok (σ := σ) (F := Fx F H) (F' := Fx F H) C (Rp.mono e2 (fun a z => z) r1) (Rp.mono (Same.refl H2) (fun a z => Fx.back e1 a z) r2) (h2.bind fun d z H3 _ e3 r3 h3 => ?_)
  cases r3 with
  | bl k => exact ⟨k, rfl, h3 k H3 (Same.refl H3) rfl⟩
  | _ => exact h3.elim
theorem purt_not (ha : PurT g a ft) : PurT g (.UnaryOp .Not a pos) (fun env => (ft env).bind fun k => .ok (!k)) := by
  intro X W C σ H F env Q E h
  refine wT_of (pt_not pt_w) ?_
  refine ha X W C σ H F env _ E (h.bind fun x v H1 _ e1 r1 h1 => ?_)
  cases r1
  exact h1 _ H1 (Same.refl H1) rfl
/-- tests whatever their whole is -/
def wW (X : Cx) (e : Expr) : TT := fun σ H Q => ∀ (whole : Sem Value) (pins : List (Addr × Obj)) (s : Shared), Inv X pins σ H s → wpAny (model X.prog X.w) X.A (isTrue e X.env whole) (TP X pins σ Q) X.xe s
theorem pw_w {X : Cx} {e : Expr} : PW X e (wW X e) := ⟨fun wh pins s _ _ _ I h => h wh pins s I⟩
theorem wW_of {X : Cx} {e : Expr} {t : TT} (h : PW X e t) {σ : L2.St} {H : Hp} {Q : Bool → Hp → Prop} (q : t σ H Q) : wW X e σ H Q := fun wh pins s I => h.run wh pins s σ H Q I q
def PurW (g : G) (e : Expr) (f : En → R Bool) : Prop := ∀ X W, Cok g X W → ∀ σ H F env (Q : Bool → Hp → Prop), EnvOk g.D.K F σ H env → Wants g W σ H (f env) relT Q → wW X e σ H Q
theorem purt_w (h : PurW g e ft) : PurT g e ft := fun X W C σ H F env Q E q => wT_of (pw_w (X := X)).pt (h X W C σ H F env Q E q)
theorem purw_and1 (ha : PurT g a ft) : PurW g (.BoolOp .And [a] pos) ft := fun X W C σ H F env Q E q => wW_of (pw_and1 pt_w) (ha X W C σ H F env Q E q)
theorem purw_or1 (ha : PurT g a ft) : PurW g (.BoolOp .Or [a] pos) ft := fun X W C σ H F env Q E q => wW_of (pw_or1 pt_w) (ha X W C σ H F env Q E q)
theorem purw_and (ha : PurT g a ft) (hb : PurW g (.BoolOp .And (b :: rest) pos) fu) : PurW g (.BoolOp .And (a :: b :: rest) pos) (fun env => (ft env).bind fun k => if k then fu env else .ok false) := by
  intro X W C σ H F env Q E h
  refine wW_of (pw_and pt_w pw_w) ?_
  refine ha X W C σ H F env _ E (h.bind fun x v H1 _ e1 r1 h1 => ?_)
  cases r1
  cases x with
  | true => exact hb X W C σ H1 F env _ (E.mono e1 fun _ z => z) h1
  | false => exact h1 false H1 (Same.refl H1) rfl
theorem purw_or (ha : PurT g a ft) (hb : PurW g (.BoolOp .Or (b :: rest) pos) fu) : PurW g (.BoolOp .Or (a :: b :: rest) pos) (fun env => (ft env).bind fun k => if k then .ok true else fu env) := by
  intro X W C σ H F env Q E h
  refine wW_of (pw_or pt_w pw_w) ?_
  refine ha X W C σ H F env _ E (h.bind fun x v H1 _ e1 r1 h1 => ?_)
  cases r1
  cases x with
  | true => exact h1 true H1 (Same.refl H1) rfl
  | false => exact hb X W C σ H1 F env _ (E.mono e1 fun _ z => z) h1
/-! as values -/
theorem truth_step {X : Cx} {W : WX} {σ : L2.St} {H : Hp} {F : Fp} {d : D} {v : V} {α : Type} {β : Type} {k : Bool → R α} {rel : α → β → Hp → Prop} {Q : β → Hp → Prop} (C : Cok g X W) (r : Rp g.D.K H F v d) (h : Wants g W σ H ((truth d).bind k) rel Q) :
    ∃ c, TruV X.K v H c ∧ truth d = .ok c ∧ Wants g W σ H (k c) rel Q := by
  cases q : truth d with
  | ok c => rw [q] at h; exact ⟨c, by rw [C.K]; exact truth_ok r q, rfl, h⟩
  | ex c => exact absurd q truth_ex
  | no => rw [q] at h; exact h.elim
theorem pur_one {op : BoolOp} (ha : Pur g a fa) : Pur g (.BoolOp op [a] pos) fa := fun X W C σ H F env Q E h => wE_of (pe_one pe_w) (ha X W C σ H F env Q E h)
theorem pur_and (ha : Pur g a fa) (hb : Pur g (.BoolOp .And (b :: rest) pos) fb) : Pur g (.BoolOp .And (a :: b :: rest) pos) (fun env => (fa env).bind fun x => (truth x).bind fun k => if k then fb env else .ok x) := by
  intro X W C σ H F env Q E h
  refine wE_of (pe_andT pe_w pe_w) ?_
  refine ha X W C σ H F env _ E (h.bind fun x v H1 _ e1 r1 h1 => ?_)
  obtain ⟨c, t, _, h2⟩ := truth_step C r1 h1
  refine ⟨c, t, ?_⟩
  cases c with
  | true => exact hb X W C σ H1 F env _ (E.mono e1 fun _ z => z) (h2.imp fun d v H' _ r => relE.lift e1 r)
  | false => exact h2 v H1 (Same.refl H1) r1
theorem pur_or (ha : Pur g a fa) (hb : Pur g (.BoolOp .Or (b :: rest) pos) fb) : Pur g (.BoolOp .Or (a :: b :: rest) pos) (fun env => (fa env).bind fun x => (truth x).bind fun k => if k then .ok x else fb env) := by
  intro X W C σ H F env Q E h
  refine wE_of (pe_orT pe_w pe_w) ?_
  refine ha X W C σ H F env _ E (h.bind fun x v H1 _ e1 r1 h1 => ?_)
  obtain ⟨c, t, _, h2⟩ := truth_step C r1 h1
  refine ⟨c, t, ?_⟩
  cases c with
  | true => exact h2 v H1 (Same.refl H1) r1
  | false => exact hb X W C σ H1 F env _ (E.mono e1 fun _ z => z) (h2.imp fun d v H' _ r => relE.lift e1 r)
theorem pur_not (ha : Pur g a fa) : Pur g (.UnaryOp .Not a pos) (fun env => (fa env).bind fun x => (truth x).bind fun k => .ok (.bool (!k))) := by
  intro X W C σ H F env Q E h
  refine wE_of (pe_notT pe_w) ?_
  refine ha X W C σ H F env _ E (h.bind fun x v H1 _ e1 r1 h1 => ?_)
  obtain ⟨c, t, _, h2⟩ := truth_step C r1 h1
  exact ⟨c, t, h2 _ H1 (Same.refl H1) (.bl _)⟩
theorem pur_if (hc : PurT g c ft) (ha : Pur g a fa) (hb : Pur g b fb) : Pur g (.IfExp c a b pos) (fun env => (ft env).bind fun k => if k then fa env else fb env) := by
  intro X W C σ H F env Q E h
  refine wE_of (pe_ifExp pt_w pe_w pe_w) ?_
  refine hc X W C σ H F env _ E (h.bind fun x v H1 _ e1 r1 h1 => ?_)
  cases r1
  cases x with
  | true => exact ha X W C σ H1 F env _ (E.mono e1 fun _ z => z) (h1.imp fun d v H' _ r => relE.lift e1 r)
  | false => exact hb X W C σ H1 F env _ (E.mono e1 fun _ z => z) (h1.imp fun d v H' _ r => relE.lift e1 r)
/-- a < b < c -/
theorem pur_chain {op op' : CmpOp} (ha : Pur g a fa) (hb : Pur g b fb) (hc : Pur g c fc) (hm : lastMarks [op, op'] [b, c] = false := by with_unfolding_all rfl) :
    Pur g (.Compare a [op, op'] [b, c] pos) (fun env => (fa env).bind fun x => (fb env).bind fun y => (cmpV op x y).bind fun z => (boolOf z).bind fun k => if k then (fc env).bind fun w => cmpV op' y w else .ok (.bool false)) := by
  intro X W C σ H F env Q E h
  refine wE_of (pe_chain op_w op_w pe_w pe_w pe_w hm) ?_
  refine ha X W C σ H F env _ E (h.bind fun x v H1 _ e1 r1 h1 => ?_)
  refine hb X W C σ H1 F env _ (E.mono e1 fun _ z => z) (h1.bind fun y u H2 _ e2 r2 h2 => ?_)
  refine cmpV_ok (σ := σ) (F := Fx F H) (F' := Fx F H) C (Rp.mono e2 (fun a z => z) r1) (Rp.mono (Same.refl H2) (fun a z => Fx.back e1 a z) r2) (h2.bind fun d z H3 _ e3 r3 h3 => ?_)
  cases r3 with
  | bl k =>
    refine ⟨k, rfl, ?_⟩
    have h4 : Wants g W σ H3 (if k = true then (fc env).bind fun w => cmpV op' y w else R.ok (PyData.bool false)) (relE g.D.K F H) Q := h3
    cases k with
    | true =>
      rw [if_pos rfl] at h4
      show wE X c σ H3 _
      refine hc X W C σ H3 F env _ (E.mono ((e1.trans e2).trans e3) fun _ z => z) (h4.bind fun w wv H4 _ e4 r4 h5 => ?_)
      refine cmpV_ok (σ := σ) (F := Fx F H) (F' := Fx F H) C (Rp.mono (e3.trans e4) (fun a z => Fx.back e1 a z) r2) (Rp.mono (Same.refl H4) (fun a z => Fx.back ((e1.trans e2).trans e3) a z) r4) (h5.imp fun d v H' _ r => ?_)
      exact Rp.mono (Same.refl _) (fun a z => z.elim id fun z => .inr ((((e1.trans e2).trans e3).trans e4).free z)) r
    | false =>
      rw [if_neg Bool.false_ne_true] at h4
      show Q (.bl false) H3
      exact h4 _ H3 (Same.refl H3) (.bl _)
  | _ => exact h3.elim

/-! ### places, slices -/
@[simp] def ixV : D → D → R D
  | .list ds, .int k => match atI ds k with
    | some d => .ok d
    | none => .no
  | .tuple ds, .int k => match atI ds k with
    | some d => .ok d
    | none => .no
  | _, _ => .no
theorem RpA.atI {K : PySem.W.Frag} {H : Hp} {F : Fp} {vs : List V} {ds : List D} {k : Int} {d : D} (h : RpA K H F vs ds) (e : L2.atI ds k = some d) : ∃ v, L2.atI vs k = some v ∧ Rp K H F v d := by
  unfold L2.atI at e ⊢
  rw [h.length]
  cases q : ixN ds.length k with
  | none => rw [q] at e; cases e
  | some j =>
    rw [q] at e
    obtain ⟨v, h1, h2⟩ := h.get (i := j) (by simpa using e)
    exact ⟨v, by simpa using h1, h2⟩
theorem pur_ix (ha : Pur g a fa) (hb : Pur g b fb) (hs : PlainIx b := by intro _ _; rfl) : Pur g (.Subscript a b pos) (fun env => (fa env).bind fun x => (fb env).bind fun y => ixV x y) := by
  intro X W C σ H F env Q E h
  refine wE_of (pe_ix (ix_list.or ix_tup) pe_w pe_w hs) ?_
  refine ha X W C σ H F env _ E (h.bind fun x v H1 _ e1 r1 h1 => ?_)
  refine hb X W C σ H1 F env _ (E.mono e1 fun _ z => z) (h1.bind fun y u H2 _ e2 r2 h2 => ?_)
  have r1' := Rp.mono e2 (fun a z => z) r1
  unfold ixV at h2
  split at h2
  · cases r1' with
    | lst hl hA =>
      cases r2
      split at h2
      · obtain ⟨w, h3, h4⟩ := hA.atI (by assumption)
        exact .inl ⟨_, _, _, _, rfl, rfl, by rw [C.K]; exact hl.sq, h3, h2 _ H2 (Same.refl H2) h4⟩
      · exact h2.elim
  · cases r1' with
    | tup hl hA =>
      cases r2
      split at h2
      · obtain ⟨w, h3, h4⟩ := hA.atI (by assumption)
        exact .inr ⟨_, _, _, _, rfl, rfl, by rw [C.K]; exact hl, h3, h2 _ H2 (Same.refl H2) h4⟩
      · exact h2.elim
  · exact h2.elim
/-- a bound of a slice -/
def PurO (g : G) (e : Option Expr) (f : En → R (Option Int)) : Prop := ∀ X W, Cok g X W → ∀ σ H F env (Q : Option Int → Hp → Prop), EnvOk g.D.K F σ H env → Wants g W σ H (f env) (fun (a b : Option Int) _ => b = a) Q →
  ∃ t, PO X e t ∧ t σ H Q
theorem puro_none : PurO g none (fun _ => .ok none) := fun X W C σ H F env Q E h => ⟨_, po_none, h none H (Same.refl H) rfl⟩
@[simp] def intOf : D → R Int
  | .int i => .ok i
  | _ => .no
theorem puro_some (he : Pur g e fe) : PurO g (some e) (fun env => (fe env).bind fun d => (intOf d).bind fun i => .ok (some i)) := by
  intro X W C σ H F env Q E h
  refine ⟨_, po_some pe_w, ?_⟩
  refine he X W C σ H F env _ E (h.bind fun x v H1 _ e1 r1 h1 => ?_)
  cases r1 with
  | int i => exact ⟨i, rfl, h1 _ H1 (Same.refl H1) rfl⟩
  | _ => exact h1.elim
def cutD (xs : List D) (lo hi : Option Int) : List D := (xs.drop (HT.sIx xs.length 0 lo)).take (HT.sIx xs.length xs.length hi - HT.sIx xs.length 0 lo)
theorem RpA.cut {K : PySem.W.Frag} {H : Hp} {F : Fp} {vs : List V} {ds : List D} (h : RpA K H F vs ds) (lo hi : Option Int) : RpA K H F (cutV vs lo hi) (cutD ds lo hi) := by
  unfold cutV cutD
  rw [h.length]
  exact (h.drop _).take _
@[simp] def slV : D → Option Int → Option Int → R D
  | .list ds, lo, hi => .ok (.list (cutD ds lo hi))
  | .tuple ds, lo, hi => .ok (.tuple (cutD ds lo hi))
  | _, _, _ => .no
theorem cutD_whole {xs : List D} {lo hi : Option Int} (h : HT.sIx xs.length 0 lo = 0 ∧ HT.sIx xs.length xs.length hi = xs.length) : cutD xs lo hi = xs := by
  unfold cutD
  rw [h.1, h.2]
  simp
theorem pur_slice {lo hi : Option Expr} {fl fh : En → R (Option Int)} (ha : Pur g a fa) (hl : PurO g lo fl) (hh : PurO g hi fh) :
    Pur g (.Subscript a (.Slice lo hi none p2) pos) (fun env => (fa env).bind fun x => (fl env).bind fun l => (fh env).bind fun u => slV x l u) := by
  intro X W C σ H F env Q E h
  have tl : ∀ (lo : Option Expr), PO X lo (fun σ H Q => ∃ t, PO X lo t ∧ t σ H Q) := fun lo => ⟨fun pins s σ H Q I ⟨t, ht, q⟩ => ht.run pins s σ H Q I q⟩
  refine wE_of (pe_slice (sl_list.or sl_tupA) pe_w (tl lo) (tl hi)) ?_
  refine ha X W C σ H F env _ E (h.bind fun x v H1 _ e1 r1 h1 => ?_)
  refine hl X W C σ H1 F env _ (E.mono e1 fun _ z => z) (h1.bind fun l l' H2 _ e2 r2 h2 => ?_)
  refine hh X W C σ H2 F env _ (E.mono (e1.trans e2) fun _ z => z) (h2.bind fun u u' H3 _ e3 r3 h3 => ?_)
  cases r2
  cases r3
  have r1' := Rp.mono (e2.trans e3) (fun a z => z) r1
  have e0 := (e1.trans e2).trans e3
  cases r1' with
  | lst hq hA => exact .inl ⟨_, _, rfl, by rw [C.K]; exact hq.sq, fun p hn => h3 _ _ (Same.new hn) (.lst (.inl ⟨.inl upd_same, .inr (e0.free hn)⟩) (RpA.mono (Same.new hn) (fun _ z => z) (hA.cut _ _)))⟩
  | tup hq hA =>
    refine .inr ⟨_, _, rfl, by rw [C.K]; exact hq, fun hw => h3 _ H3 (Same.refl H3) ?_, fun _ p hn => h3 _ _ (Same.new hn) (.tup (.inl (.inl upd_same)) (RpA.mono (Same.new hn) (fun _ z => z) (hA.cut _ _)))⟩
    rw [cutD_whole (by rw [← hA.length]; exact hw)]
    exact .tup hq hA
  | _ => exact h3.elim
@[simp] def revV : D → R D
  | .list ds => .ok (.list ds.reverse)
  | _ => .no
theorem pur_rev {k : Nat} {q1 q2 q3 : Pos} (ha : Pur g a fa) : Pur g (.Subscript a (.Slice none none (some (.UnaryOp .USub (.Constant (.int 1) k q1) q2)) q3) pos) (fun env => (fa env).bind revV) := by
  intro X W C σ H F env Q E h
  refine wE_of (pe_revL pe_w) ?_
  refine ha X W C σ H F env _ E (h.bind fun x v H1 _ e1 r1 h1 => ?_)
  cases r1 with
  | lst hq hA => exact ⟨_, _, rfl, by rw [C.K]; exact hq.sq, fun p hn => h1 _ _ (Same.new hn) (.lst (.inl ⟨.inl upd_same, .inr (e1.free hn)⟩) (RpA.mono (Same.new hn) (fun _ z => z) hA.reverse))⟩
  | _ => exact h1.elim
end
end Pu
namespace Pu
open PySem PySem.Spec PyProof.Rows L2

/-! ### calls of built-ins -/
@[irreducible] def wC (X : Cx) (f : Value) : List V → Hp → VK → Prop := fun vs H Q => ∀ (pins : List (Addr × Obj)) (s : Shared) (σ : L2.St) (us : List Value), Inv X pins σ H s → Vals vs us → wpAny (model X.prog X.w) X.A (call f us) (EP X pins σ Q) X.xe s
theorem call_w {X : Cx} {f : Value} : CallR X f (wC X f) := fun pins s σ _ _ us _ I r h => by unfold wC at h; exact h pins s σ us I r
theorem wC_of {X : Cx} {f : Value} {r : List V → Hp → VK → Prop} (h : CallR X f r) {vs : List V} {H : Hp} {Q : VK} (q : r vs H Q) : wC X f vs H Q := by unfold wC; exact fun pins s σ us I rv => h pins s σ H vs us Q I rv q
/-- a built-in, by a function on data -/
def BltR (g : G) (f : Value) (Fn : List D → R D) : Prop := ∀ X W, Cok g X W → ∀ σ H F ds vs (Q : VK), RpA g.D.K H F vs ds → Wants g W σ H (Fn ds) (relE g.D.K F H) Q → wC X f vs H Q
section
variable {g : G} {pos p p2 p3 p4 : Pos} {a b c e : Expr} {es : List Expr} {fa fb fc fe : En → R D} {fs : En → R (List D)} {Fn : List D → R D} {x : Str} {id T : String}
theorem arg_step {X : Cx} {W : WX} {σ : L2.St} {H : Hp} {F : Fp} {env : En} {Q : VK} (C : Cok g X W) (f : Value) (hb : BltR g f Fn) (ha : PurA g es fs) (E : EnvOk g.D.K F σ H env) (h : Wants g W σ H ((fs env).bind Fn) (relE g.D.K F H) Q) :
    wA X es σ H fun vs H1 => wC X f vs H1 Q := by
  refine ha X W C σ H F env _ E (h.bind fun ds vs H1 _ e1 r1 h1 => ?_)
  refine hb X W C σ H1 (Fx F H) ds vs Q r1 (h1.imp fun d v H' _ r => ?_)
  exact Rp.mono (Same.refl _) (fun a z => Fx.back2 e1 a z) r
theorem pur_blt (hb : BltR g (.builtin id) Fn) (hm : g.D.mg x = none) (ha : PurA g (e :: es) fs) (hg : gl g.sc x = true := by rfl) (hv : bootBuiltins x = some (.builtin id) := by decide +kernel) (hn : x ≠ "__name__" := by decide) (hdb : (x == ("__debug__" : Str)) = false := by decide)
    (he : ∀ env, starEach (e :: es) env = (false, eval e env) :: starEach es env := by intro _; exact starEach_of rfl) (hpl : ∀ env, (backTo pos (starEach es env)).any (·.1) = false := by intro _; rfl) : Pur g (.Call (.Name x p) (e :: es) [] pos) (fun env => (fs env).bind Fn) := by
  intro X W C σ H F env Q E h
  exact wE_of (pe_callB call_w (gl_ok C hg) (by rw [C.mg]; exact hm) hv pa_w hn hdb (he _) (hpl _)) (arg_step C _ hb ha E h)
theorem pur_bltT (hb : BltR g (.type T) Fn) (hm : g.D.mg x = none) (ha : PurA g (e :: es) fs) (hg : gl g.sc x = true := by rfl) (hv : bootBuiltins x = some (.type T) := by decide +kernel) (hn : x ≠ "__name__" := by decide) (hdb : (x == ("__debug__" : Str)) = false := by decide)
    (he : ∀ env, starEach (e :: es) env = (false, eval e env) :: starEach es env := by intro _; exact starEach_of rfl) (hpl : ∀ env, (backTo pos (starEach es env)).any (·.1) = false := by intro _; rfl) : Pur g (.Call (.Name x p) (e :: es) [] pos) (fun env => (fs env).bind Fn) := by
  intro X W C σ H F env Q E h
  exact wE_of (pe_callTy call_w (gl_ok C hg) (by rw [C.mg]; exact hm) hv pa_w hn hdb (he _) (hpl _)) (arg_step C _ hb ha E h)
/-- a built-in that the module has imported -/
theorem pur_bltI (hb : BltR g (.builtin id) Fn) (hm : g.D.mg x = some (.builtin id)) (ha : PurA g (e :: es) fs) (hg : gl g.sc x = true := by rfl) (hdb : (x == ("__debug__" : Str)) = false := by decide)
    (he : ∀ env, starEach (e :: es) env = (false, eval e env) :: starEach es env := by intro _; exact starEach_of rfl) (hpl : ∀ env, (backTo pos (starEach es env)).any (·.1) = false := by intro _; rfl) : Pur g (.Call (.Name x p) (e :: es) [] pos) (fun env => (fs env).bind Fn) := by
  intro X W C σ H F env Q E h
  exact wE_of (pe_callBfun call_w (gl_ok C hg) (by rw [C.mg]; exact hm) pa_w hdb (he _) (hpl _)) (arg_step C _ hb ha E h)

@[simp] def lenF : List D → R D
  | [.list ds] => .ok (.int ds.length)
  | [.tuple ds] => .ok (.int ds.length)
  | _ => .no
theorem blt_len : BltR g (.builtin "len") lenF := by
  intro X W C σ H F ds vs Q r h
  unfold lenF at h
  split at h
  · cases r with
    | cons r1 r2 =>
      cases r2
      cases r1 with
      | lst hl hA => exact wC_of call_len_seq ⟨_, _, rfl, .inl (by rw [C.K]; exact hl.sq), by rw [hA.length]; exact h _ H (Same.refl H) (.int _)⟩
  · cases r with
    | cons r1 r2 =>
      cases r2
      cases r1 with
      | tup hl hA => exact wC_of call_len_seq ⟨_, _, rfl, .inr (by rw [C.K]; exact hl), by rw [hA.length]; exact h _ H (Same.refl H) (.int _)⟩
  · exact h.elim
@[simp] def absF : List D → R D
  | [.int i] => .ok (.int (if i < 0 then -i else i))
  | _ => .no
theorem blt_abs : BltR g (.builtin "abs") absF := by
  intro X W C σ H F ds vs Q r h
  unfold absF at h
  split at h
  · cases r with
    | cons r1 r2 =>
      cases r2
      cases r1
      exact wC_of call_abs ⟨_, rfl, h _ H (Same.refl H) (.int _)⟩
  · exact h.elim
@[simp] def minF : List D → R D
  | [.int i, .int j] => .ok (.int (if j < i then j else i))
  | _ => .no
theorem blt_min (hc : g.calm = true) : BltR g (.builtin "min") minF := by
  intro X W C σ H F ds vs Q r h
  unfold minF at h
  split at h
  · cases r with
    | cons r1 r2 =>
      cases r2 with
      | cons r2 r3 =>
        cases r3
        cases r1
        cases r2
        exact wC_of (call_min2 (by rw [C.calm]; exact hc)) ⟨_, _, rfl, h _ H (Same.refl H) (.int _)⟩
  · exact h.elim
@[simp] def maxF : List D → R D
  | [.int i, .int j] => .ok (.int (if j > i then j else i))
  | _ => .no
theorem blt_max (hc : g.calm = true) : BltR g (.builtin "max") maxF := by
  intro X W C σ H F ds vs Q r h
  unfold maxF at h
  split at h
  · cases r with
    | cons r1 r2 =>
      cases r2 with
      | cons r2 r3 =>
        cases r3
        cases r1
        cases r2
        exact wC_of (call_max2 (by rw [C.calm]; exact hc)) ⟨_, _, rfl, h _ H (Same.refl H) (.int _)⟩
  · exact h.elim
@[simp] def intF : List D → R D
  | [.int i] => .ok (.int i)
  | [.bool k] => .ok (.int (if k then 1 else 0))
  | _ => .no
theorem blt_int : BltR g (.type "int") intF := by
  intro X W C σ H F ds vs Q r h
  unfold intF at h
  split at h
  · cases r with
    | cons r1 r2 => cases r2; cases r1; exact wC_of call_int1 (.inl ⟨_, rfl, h _ H (Same.refl H) (.int _)⟩)
  · cases r with
    | cons r1 r2 => cases r2; cases r1; exact wC_of call_int1 (.inr ⟨_, rfl, h _ H (Same.refl H) (.int _)⟩)
  · exact h.elim
@[simp] def tupleF : List D → R D
  | [.list ds] => .ok (.tuple ds)
  | [.tuple ds] => .ok (.tuple ds)
  | _ => .no
theorem blt_tuple : BltR g (.type "tuple") tupleF := by
  intro X W C σ H F ds vs Q r h
  unfold tupleF at h
  split at h
  · cases r with
    | cons r1 r2 =>
      cases r2
      cases r1 with
      | lst hl hA => exact wC_of call_tuple_of ⟨_, _, rfl, .inl ⟨by rw [C.K]; exact hl.sq, fun l hn => h _ _ (Same.new hn) (.tup (.inl (.inl upd_same)) (RpA.mono (Same.new hn) (fun _ z => .inl z) hA))⟩⟩
  · cases r with
    | cons r1 r2 =>
      cases r2
      cases r1 with
      | tup hl hA => exact wC_of call_tuple_of ⟨_, _, rfl, .inr ⟨by rw [C.K]; exact hl, h _ H (Same.refl H) (.tup hl (RpA.mono (Same.refl H) (fun _ z => .inl z) hA))⟩⟩
  · exact h.elim
@[simp] def listF : List D → R D
  | [.list ds] => .ok (.list ds)
  | [.tuple ds] => .ok (.list ds)
  | _ => .no
theorem blt_list : BltR g (.type "list") listF := by
  intro X W C σ H F ds vs Q r h
  unfold listF at h
  split at h
  · cases r with
    | cons r1 r2 =>
      cases r2
      cases r1 with
      | lst hl hA => exact wC_of call_list_of ⟨_, _, rfl, .inl (by rw [C.K]; exact hl.sq), fun l hn => h _ _ (Same.new hn) (.lst (.inl ⟨.inl upd_same, .inr hn⟩) (RpA.mono (Same.new hn) (fun _ z => .inl z) hA))⟩
  · cases r with
    | cons r1 r2 =>
      cases r2
      cases r1 with
      | tup hl hA => exact wC_of call_list_of ⟨_, _, rfl, .inr (by rw [C.K]; exact hl), fun l hn => h _ _ (Same.new hn) (.lst (.inl ⟨.inl upd_same, .inr hn⟩) (RpA.mono (Same.new hn) (fun _ z => .inl z) hA))⟩
  · exact h.elim
/-- a list of truth values -/
def bools : List D → R (List Bool)
  | [] => .ok []
  | .bool b :: ds => (bools ds).bind fun bs => .ok (b :: bs)
  | _ :: _ => .no
theorem RpA.bools {K : PySem.W.Frag} {H : Hp} {F : Fp} : ∀ {ds : List D} {vs : List V} {bs : List Bool}, RpA K H F vs ds → Pu.bools ds = .ok bs → vs = bs.map V.bl
  | [], _, _, h, e => by cases h; cases e; rfl
  | d :: ds, _, bs, h, e => by
    cases h with
    | cons h1 h2 =>
      cases h1 with
      | bl b =>
        unfold Pu.bools at e
        cases q : Pu.bools ds with
        | ok cs =>
          rw [q] at e
          cases e
          rw [RpA.bools h2 q]
          rfl
        | ex c => rw [q] at e; cases e
        | no => rw [q] at e; cases e
      | _ => cases e
theorem bools_ex {ds : List D} {c : Str} : bools ds ≠ .ex c := by
  induction ds with
  | nil => intro h; cases h
  | cons d ds ih =>
    cases d with
    | bool b =>
      unfold bools
      cases q : bools ds with
      | ok bs => intro h; cases h
      | ex c' => exact fun h => ih (by rw [q]; cases h; rfl)
      | no => intro h; cases h
    | _ => intro h; cases h
@[simp] def allF : List D → R D
  | [.list ds] => (bools ds).bind fun bs => .ok (.bool (bs.all fun x => x))
  | _ => .no
theorem blt_all (hc : g.calm = true) : BltR g (.builtin "all") allF := by
  intro X W C σ H F ds vs Q r h
  unfold allF at h
  split at h
  · rename_i ds'
    cases r with
    | cons r1 r2 =>
      cases r2
      cases r1 with
      | lst hl hA =>
        cases q : bools ds' with
        | ok bs =>
          rw [q] at h
          exact wC_of (cr_all (by rw [C.calm]; exact hc)) ⟨_, bs, rfl, by rw [C.K, ← hA.bools q]; exact hl.sq, h _ H (Same.refl H) (.bl _)⟩
        | ex c => exact absurd q bools_ex
        | no => rw [q] at h; exact h.elim
  · exact h.elim
@[simp] def anyF : List D → R D
  | [.list ds] => (bools ds).bind fun bs => .ok (.bool (bs.any fun x => x))
  | _ => .no
theorem blt_any (hc : g.calm = true) : BltR g (.builtin "any") anyF := by
  intro X W C σ H F ds vs Q r h
  unfold anyF at h
  split at h
  · rename_i ds'
    cases r with
    | cons r1 r2 =>
      cases r2
      cases r1 with
      | lst hl hA =>
        cases q : bools ds' with
        | ok bs =>
          rw [q] at h
          exact wC_of (cr_any (by rw [C.calm]; exact hc)) ⟨_, bs, rfl, by rw [C.K, ← hA.bools q]; exact hl.sq, h _ H (Same.refl H) (.bl _)⟩
        | ex c => exact absurd q bools_ex
        | no => rw [q] at h; exact h.elim
  · exact h.elim
@[simp] def gcdF : List D → R D
  | [.int i, .int j] => .ok (.int ((Nat.gcd i.natAbs j.natAbs : Nat) : Int))
  | _ => .no
theorem blt_gcd : BltR g (.builtin "math.gcd") gcdF := by
  intro X W C σ H F ds vs Q r h
  unfold gcdF at h
  split at h
  · cases r with
    | cons r1 r2 =>
      cases r2 with
      | cons r2 r3 =>
        cases r3; cases r1; cases r2
        exact wC_of cr_gcd ⟨_, _, rfl, h _ H (Same.refl H) (.int _)⟩
  · exact h.elim
/-- what math.lcm is told of -/
def lcmOk (i j : Int) : Bool := decide (i.natAbs.log2 < 13500) && decide (j.natAbs.log2 < 13500)
theorem log2_lcm {a b : Nat} (ha : a.log2 < 13500) (hb : b.log2 < 13500) : (Nat.lcm a b).log2 < bitsLine := by
  have line : bitsLine = 2 ^ 27 := by decide
  rw [line]
  by_cases h0 : Nat.lcm a b = 0
  · rw [h0]; decide
  · have hle : Nat.lcm a b ≤ a * b := Nat.le_of_dvd (by
      have : a ≠ 0 ∧ b ≠ 0 := by
        constructor <;> (rintro rfl; simp at h0)
      exact Nat.mul_pos (by omega) (by omega)) (Nat.lcm_dvd_mul a b)
    have h1 : a < 2 ^ 13500 := Nat.log2_lt (by rintro rfl; simp at h0) |>.mp ha
    have h2 : b < 2 ^ 13500 := Nat.log2_lt (by rintro rfl; simp at h0) |>.mp hb
    have h3 : a * b < 2 ^ (13500 + 13500) := by
      rw [Nat.pow_add]
      exact Nat.mul_lt_mul'' h1 h2
    have h4 : Nat.lcm a b < 2 ^ (13500 + 13500) := Nat.lt_of_le_of_lt hle h3
    have h5 := (Nat.log2_lt h0).mpr h4
    omega
def rLcm : List V → Hp → VK → Prop := fun vs H Q => ∃ a b : Int, vs = [.int a, .int b] ∧ lcmOk a b = true ∧ Q (.int ((Nat.lcm a.natAbs b.natAbs : Nat) : Int)) H
theorem cr_lcm {X : Cx} : CallR X (.builtin "math.lcm") rLcm := by
  intro pins s σ H vs us Q I r h
  obtain ⟨a, b, rfl, hk, q⟩ := h
  obtain ⟨t, u, rfl⟩ := Vals.int2 r
  unfold lcmOk at hk
  simp only [Bool.and_eq_true, decide_eq_true_eq] at hk
  have l1 : Nat.lcm 1 a.natAbs = a.natAbs := by simp
  have m1 : (max 1 a.natAbs).log2 < 13500 := by
    by_cases z : a.natAbs = 0
    · rw [z]; decide
    · rw [Nat.max_eq_right (by omega)]; exact hk.1
  have m2 : (max a.natAbs b.natAbs).log2 < 13500 := by
    rcases Nat.le_total a.natAbs b.natAbs with z | z
    · rw [Nat.max_eq_right z]; exact hk.2
    · rw [Nat.max_eq_left z]; exact hk.1
  have hsz : ((((Nat.lcm 1 a.natAbs).lcm b.natAbs : Nat) : Int)).natAbs.log2 < bitsLine := by
    rw [l1, Int.natAbs_natCast]
    exact log2_lcm hk.1 hk.2
  have g := PySem.W.mg_run_lcm a t b u (by omega) (by omega) hsz
  rw [l1] at g
  exact call_function_meets PySem.W.MGF.kind_lcm PySem.W.MGF.plain_lcm PySem.W.MGF.entry_lcm (PySem.W.MGF.args_lcm _ _) g.meets ⟨.int _, H, I.tok _, ⟨_, rfl⟩, q⟩
def lcmF : List D → R D
  | [.int i, .int j] => if lcmOk i j then .ok (.int ((Nat.lcm i.natAbs j.natAbs : Nat) : Int)) else .no
  | _ => .no
theorem blt_lcm : BltR g (.builtin "math.lcm") lcmF := by
  intro X W C σ H F ds vs Q r h
  unfold lcmF at h
  split at h
  · cases r with
    | cons r1 r2 =>
      cases r2 with
      | cons r2 r3 =>
        cases r3; cases r1; cases r2
        split at h
        · exact wC_of cr_lcm ⟨_, _, rfl, by assumption, h _ H (Same.refl H) (.int _)⟩
        · exact h.elim
  · exact h.elim

/-! ### kinds -/
@[simp] def kindOf : D → String
  | .none => "NoneType"
  | .bool _ => "bool"
  | .int _ => "int"
  | .str _ => "str"
  | .list _ => "list"
  | .tuple _ => "tuple"
  | .dict _ => "dict"
theorem kind_tyx {K : PySem.W.Frag} {H : Hp} {F : Fp} {v : V} {d : D} (r : Rp K H F v d) : TyX K H v (.type (kindOf d)) := by
  cases r with
  | non => exact .base .non
  | bl b => exact .base (.bl b)
  | int i => exact .base (.int i)
  | str x => exact .base (.str x)
  | lst hl ha =>
    rcases hl with ⟨h | ⟨o, h⟩, _⟩ | ⟨o, its, n, h, hc, _⟩
    · exact .base (.lst h)
    · exact .base (.frz h)
    · exact .kList h hc
  | tup hl ha =>
    rcases hl with (h | ⟨o, h⟩) | ⟨o, its, n, h, hc, _⟩
    · exact .base (.tup h)
    · exact .fTuple h
    · exact .kTuple h hc
theorem kind_is {X : Cx} {pins : List (Addr × Obj)} {σ : L2.St} {H : Hp} {s : Shared} {F : Fp} {v : V} {u : Value} {d : D} (I : Inv X pins σ H s) (r : Rp X.K H F v d) (rv : RelV v u) : s.TypeIs u (kindOf d) ∧ (Value.type (kindOf d) == Value.type "builtin_function_or_method") = false := by
  have nb : (Value.type (kindOf d) == Value.type "builtin_function_or_method") = false := by
    have q : ∀ n ∈ ["NoneType", "bool", "int", "str", "list", "tuple", "dict"], (Value.type n == Value.type "builtin_function_or_method") = false := by decide +kernel
    exact q _ (by cases d <;> simp [kindOf])
  refine ⟨?_, nb⟩
  cases r with
  | non => cases rv; exact rfl
  | bl b => cases rv; exact rfl
  | int i => obtain ⟨t, rfl⟩ := rv; exact rfl
  | str x => obtain ⟨t, rfl⟩ := rv; exact rfl
  | lst hl ha =>
    cases rv
    obtain ⟨its, rv, p, _⟩ := I.list hl.sq
    exact p.isList.typeIs
  | tup hl ha =>
    cases rv
    obtain ⟨its, rv, p, _⟩ := I.tuple hl
    exact p.typeIs
/-- type(x) -/
def rTypeD (K : PySem.W.Frag) : List V → Hp → VK → Prop := fun vs H Q => ∃ v d F, vs = [v] ∧ Rp K H F v d ∧ Q (.ty (kindOf d)) H
theorem call_typeD {X : Cx} : CallR X (.type "type") (rTypeD X.K) := by
  intro pins s σ H xs us Q I r h
  obtain ⟨v, d, F, rfl, rd, q⟩ := h
  obtain ⟨u, rfl, rx⟩ := vals1 r
  obtain ⟨h1, h2⟩ := kind_is I rd rx
  exact call_type_of h1 h2 ⟨.ty _, H, I, rfl, q⟩
/-- type(x) is T, type(x) is not T -/
theorem type_step {X : Cx} {W : WX} (C : Cok g X W) {T : String} {y : Str} {op : CmpOp} {neg : Bool} (hop : OpR X (compareOp op) (fun x y H Q => ∃ m n : String, x = .ty m ∧ y = .ty n ∧ Q (.bl (if neg then !decide (m = n) else decide (m = n))) H))
    (ha : Pur g a fa) (hm : g.D.mg "type" = none) (hmT : g.D.mg y = none) (hg : gl g.sc "type" = true) (hgT : gl g.sc y = true) (hv : bootBuiltins y = some (.type T)) (hn : y ≠ "__name__") (hdb : (y == ("__debug__" : Str)) = false)
    (hst : ∀ env, starEach [a] env = (false, eval a env) :: starEach [] env) {σ : L2.St} {H : Hp} {F : Fp} {env : En} {Q : VK} (E : EnvOk g.D.K F σ H env)
    (h : Wants g W σ H ((fa env).bind fun d => .ok (.bool (if neg then !decide (kindOf d = T) else decide (kindOf d = T)))) (relE g.D.K F H) Q) :
    tOp (fun x y H Q => ∃ m n : String, x = .ty m ∧ y = .ty n ∧ Q (.bl (if neg then !decide (m = n) else decide (m = n))) H) (tCB (rTypeD X.K) (tCons (wE X a) tNil)) (tC (.ty T)) σ H Q := by
  refine ha X W C σ H F env _ E (h.bind fun d v H1 _ e1 r1 h1 => ?_)
  exact ⟨v, d, _, rfl, by rw [C.K]; exact r1, _, _, rfl, rfl, h1 _ H1 (Same.refl H1) (.bl _)⟩
theorem pur_typeIs {T : String} {y : Str} (hm : g.D.mg "type" = none) (hmT : g.D.mg y = none) (ha : Pur g a fa) (hg : gl g.sc "type" = true := by rfl) (hgT : gl g.sc y = true := by rfl) (hv : bootBuiltins y = some (.type T) := by decide +kernel) (hn : y ≠ "__name__" := by decide) (hdb : (y == ("__debug__" : Str)) = false := by decide)
    (hst : ∀ env, starEach [a] env = (false, eval a env) :: starEach [] env := by intro _; exact starEach_of rfl) : Pur g (.Compare (.Call (.Name "type" p) [a] [] p2) [.Is] [.Name y p3] pos) (fun env => (fa env).bind fun d => .ok (.bool (decide (kindOf d = T)))) := by
  intro X W C σ H F env Q E h
  refine wE_of (pe_cmpR (r := fun x y H Q => ∃ m n : String, x = .ty m ∧ y = .ty n ∧ Q (.bl (if false then !decide (m = n) else decide (m = n))) H) op_isTy (pe_callTy call_typeD (gl_ok C hg) (by rw [C.mg]; exact hm) (by decide +kernel) (pa_cons pe_w pa_nil (hst _)) (he := hst _)) (pe_bltn (v := .ty T) (gl_ok C hgT) (by rw [C.mg]; exact hmT) hv rfl hn hdb) (nomark _)) ?_
  exact type_step (neg := false) C op_isTy ha hm hmT hg hgT hv hn hdb hst E h
theorem pur_typeNot {T : String} {y : Str} (hm : g.D.mg "type" = none) (hmT : g.D.mg y = none) (ha : Pur g a fa) (hg : gl g.sc "type" = true := by rfl) (hgT : gl g.sc y = true := by rfl) (hv : bootBuiltins y = some (.type T) := by decide +kernel) (hn : y ≠ "__name__" := by decide) (hdb : (y == ("__debug__" : Str)) = false := by decide)
    (hst : ∀ env, starEach [a] env = (false, eval a env) :: starEach [] env := by intro _; exact starEach_of rfl) : Pur g (.Compare (.Call (.Name "type" p) [a] [] p2) [.IsNot] [.Name y p3] pos) (fun env => (fa env).bind fun d => .ok (.bool (!decide (kindOf d = T)))) := by
  intro X W C σ H F env Q E h
  refine wE_of (pe_cmpR (r := fun x y H Q => ∃ m n : String, x = .ty m ∧ y = .ty n ∧ Q (.bl (if true then !decide (m = n) else decide (m = n))) H) op_isNotTy (pe_callTy call_typeD (gl_ok C hg) (by rw [C.mg]; exact hm) (by decide +kernel) (pa_cons pe_w pa_nil (hst _)) (he := hst _)) (pe_bltn (v := .ty T) (gl_ok C hgT) (by rw [C.mg]; exact hmT) hv rfl hn hdb) (nomark _)) ?_
  exact type_step (neg := true) C op_isNotTy ha hm hmT hg hgT hv hn hdb hst E h
/-- the same as tests: a bool is what comes -/
theorem purt_typeIs {T : String} {y : Str} (hm : g.D.mg "type" = none) (hmT : g.D.mg y = none) (ha : Pur g a fa) (hg : gl g.sc "type" = true := by rfl) (hgT : gl g.sc y = true := by rfl) (hv : bootBuiltins y = some (.type T) := by decide +kernel) (hn : y ≠ "__name__" := by decide) (hdb : (y == ("__debug__" : Str)) = false := by decide)
    (hst : ∀ env, starEach [a] env = (false, eval a env) :: starEach [] env := by intro _; exact starEach_of rfl) : PurT g (.Compare (.Call (.Name "type" p) [a] [] p2) [.Is] [.Name y p3] pos) (fun env => (fa env).bind fun d => .ok (decide (kindOf d = T))) := by
  intro X W C σ H F env Q E h
  refine wT_of (pt_cmpR (r := fun x y H Q => ∃ m n : String, x = .ty m ∧ y = .ty n ∧ Q (.bl (decide (m = n))) H) op_isTy (pe_callTy call_typeD (gl_ok C hg) (by rw [C.mg]; exact hm) (by decide +kernel) (pa_cons pe_w pa_nil (hst _)) (he := hst _)) (pe_bltn (v := .ty T) (gl_ok C hgT) (by rw [C.mg]; exact hmT) hv rfl hn hdb) (nomark _)) ?_
  refine ha X W C σ H F env _ E (h.bind fun d v H1 _ e1 r1 h1 => ?_)
  exact ⟨v, d, _, rfl, by rw [C.K]; exact r1, _, _, rfl, rfl, _, rfl, h1 _ H1 (Same.refl H1) rfl⟩
theorem purt_typeNot {T : String} {y : Str} (hm : g.D.mg "type" = none) (hmT : g.D.mg y = none) (ha : Pur g a fa) (hg : gl g.sc "type" = true := by rfl) (hgT : gl g.sc y = true := by rfl) (hv : bootBuiltins y = some (.type T) := by decide +kernel) (hn : y ≠ "__name__" := by decide) (hdb : (y == ("__debug__" : Str)) = false := by decide)
    (hst : ∀ env, starEach [a] env = (false, eval a env) :: starEach [] env := by intro _; exact starEach_of rfl) : PurT g (.Compare (.Call (.Name "type" p) [a] [] p2) [.IsNot] [.Name y p3] pos) (fun env => (fa env).bind fun d => .ok (!decide (kindOf d = T))) := by
  intro X W C σ H F env Q E h
  refine wT_of (pt_cmpR (r := fun x y H Q => ∃ m n : String, x = .ty m ∧ y = .ty n ∧ Q (.bl (!decide (m = n))) H) op_isNotTy (pe_callTy call_typeD (gl_ok C hg) (by rw [C.mg]; exact hm) (by decide +kernel) (pa_cons pe_w pa_nil (hst _)) (he := hst _)) (pe_bltn (v := .ty T) (gl_ok C hgT) (by rw [C.mg]; exact hmT) hv rfl hn hdb) (nomark _)) ?_
  refine ha X W C σ H F env _ E (h.bind fun d v H1 _ e1 r1 h1 => ?_)
  exact ⟨v, d, _, rfl, by rw [C.K]; exact r1, _, _, rfl, rfl, _, rfl, h1 _ H1 (Same.refl H1) rfl⟩
/-- isinstance(x, T), T a built-in class -/
def isA (T : String) (d : D) : R D := match kitB (kindOf d) T with
  | some b => .ok (.bool b)
  | none => .no
theorem pur_isa {T : String} {y : Str} (hm : g.D.mg "isinstance" = none) (hmT : g.D.mg y = none) (ha : Pur g a fa) (hg : gl g.sc "isinstance" = true := by rfl) (hgT : gl g.sc y = true := by rfl) (hv : bootBuiltins y = some (.type T) := by decide +kernel) (hn : y ≠ "__name__" := by decide) (hdb : (y == ("__debug__" : Str)) = false := by decide)
    (hst : ∀ env, starEach [a, .Name y p3] env = (false, eval a env) :: starEach [.Name y p3] env := by intro _; exact starEach_of rfl) (hpl : ∀ env, (backTo pos (starEach [.Name y p3] env)).any (·.1) = false := by intro _; rfl) (hs1 : ∀ env, starEach [.Name y p3] env = (false, eval (.Name y p3) env) :: starEach [] env := by intro _; exact starEach_of rfl) : Pur g (.Call (.Name "isinstance" p) [a, .Name y p3] [] pos) (fun env => (fa env).bind fun d => isA T d) := by
  intro X W C σ H F env Q E h
  refine wE_of (pe_callB call_isi (gl_ok C hg) (by rw [C.mg]; exact hm) (by decide +kernel) (pa_cons pe_w (pa_cons (pe_bltn (v := .ty T) (gl_ok C hgT) (by rw [C.mg]; exact hmT) hv rfl hn hdb) pa_nil (hs1 _)) (hst _)) (he := hst _) (hpl := hpl _)) ?_
  refine ha X W C σ H F env _ E (h.bind fun d v H1 _ e1 r1 h1 => ?_)
  unfold isA at h1
  cases q : kitB (kindOf d) T with
  | none => rw [q] at h1; exact h1.elim
  | some b =>
    rw [q] at h1
    exact ⟨v, .ty T, _, _, b, rfl, .ty T, by rw [C.K]; exact kind_tyx r1, kit_ty q, h1 _ H1 (Same.refl H1) (.bl _)⟩
end
end Pu
namespace Pu
open PySem PySem.Spec PyProof.Rows L2

/-! ### defs, by functions on data -/
def spF (W : Wd) (n : Nat) (Fn : List D → R D) : Sp := fun vs H Q E => vs.length = n ∧ ∃ (ds : List D) (F : Fp), RpA W.K H F vs ds ∧ (match Fn ds with
  | .ok d => ∀ v H', Same H H' → Rp W.K H' (Fx F H) v d → Q v H'
  | .ex c => ∀ cv H', Same H H' → W.mg c = some cv → E cv none H'
  | .no => False)
/-- the def called x computes Fn, by at most level k -/
def FnSpec (W : Wd) (k : Nat) (x : Str) (n : Nat) (Fn : List D → R D) : Prop := ∃ (f : Addr) (fd : FuncData) (ps : List Str), ps.length = n ∧ W.mg x = some (.ref f) ∧ PySem.W.keepIn W.K (.ref f) = true ∧ Binds W.K fd ps [] ∧
  FnOk W.P W.w W.K W.mg W.base (L2.CX W.P W.w) k f fd ps (spF W n Fn)
section
variable {g : G} {pos p : Pos} {e : Expr} {es : List Expr} {fs : En → R (List D)} {Fn : List D → R D} {x : Str} {k n : Nat}
theorem pur_call (S : FnSpec g.D k x n Fn) (ha : PurA g (e :: es) fs) (hk : k ≤ g.L := by exact Nat.le_of_ble_eq_true rfl) (hc : g.calm = true := by rfl) (hg : gl g.sc x = true := by rfl) (hdb : (x == ("__debug__" : Str)) = false := by decide)
    (he : ∀ env, starEach (e :: es) env = (false, eval e env) :: starEach es env := by intro _; exact starEach_of rfl) (hpl : ∀ env, (backTo pos (starEach es env)).any (·.1) = false := by intro _; rfl) :
    Pur g (.Call (.Name x p) (e :: es) [] pos) (fun env => (fs env).bind fun ds => if ds.length = n then Fn ds else .no) := by
  intro X W C σ H F env Q E h
  obtain ⟨f, fd, ps, hl, hm, hkp, hb, ok⟩ := S
  have ok' : FnOk X.prog X.w X.K X.mg X.base (L2.CX X.prog X.w) k f fd ps (spF g.D n Fn) := by rw [C.prog, C.w, C.K, C.mg, C.base]; exact ok
  refine wE_of (pe_callS ok' ((C.room hc).mono hk) (gl_ok C hg) (by rw [C.mg]; exact hm) (by rw [C.K]; exact hkp) (by rw [C.K]; exact hb) (fun σ => passAt C.takes σ) pa_w hdb (he _) (hpl _)) ?_
  refine ha X W C σ H F env _ E (h.bind fun ds vs H1 _ e1 r1 h1 => ?_)
  by_cases hn : ds.length = n
  · rw [if_pos hn] at h1
    refine ⟨by rw [r1.length]; exact hn, ds, _, r1, ?_⟩
    cases q : Fn ds with
    | ok d => rw [q] at h1; exact fun v H' e' r' => h1 v H' e' (Rp.mono (Same.refl _) (fun a z => Fx.back2 e1 a z) r')
    | ex c => rw [q] at h1; exact fun cv H' e' hcm => h1 cv H' e' hcm
    | no => rw [q] at h1; exact h1.elim
  · rw [if_neg hn] at h1
    exact h1.elim
end

/-! ### statements -/
/-- at each slot a datum, and whether it is a list of this frame's own that may still be changed -/
abbrev SEn := List (Option (D × Bool))
inductive SR where
  | next (se : SEn) | ret (d : D) | brk (se : SEn) | cnt (se : SEn) | ex (c : Str) (se : SEn) | no
def SR.seq (r : SR) (f : SEn → SR) : SR := match r with
  | .next se => f se
  | r => r
@[simp] theorem SR.seq_next (se : SEn) (f : SEn → SR) : SR.seq (.next se) f = f se := rfl
@[simp] theorem SR.seq_ret (d : D) (f : SEn → SR) : SR.seq (.ret d) f = .ret d := rfl
@[simp] theorem SR.seq_ex (c : Str) (se : SEn) (f : SEn → SR) : SR.seq (.ex c se) f = .ex c se := rfl
@[simp] theorem SR.seq_no (f : SEn → SR) : SR.seq .no f = .no := rfl
@[simp] theorem SR.seq_brk (se : SEn) (f : SEn → SR) : SR.seq (.brk se) f = .brk se := rfl
@[simp] theorem SR.seq_cnt (se : SEn) (f : SEn → SR) : SR.seq (.cnt se) f = .cnt se := rfl

/-- the state of a body: F the addresses of the lists that are not its own; hs, hd: what is held besides (what a loop walks) -/
structure SOf (g : G) (H0 : Hp) (F0 : Fp) (hs : List V) (hd : List D) (σ : L2.St) (H : Hp) (se : SEn) (F : Fp) : Prop where
  ex : Same H0 H
  sub : ∀ a, F a → F0 a ∨ H0 a = none
  live : ∀ a, F a → H a ≠ none
  len : σ.length = se.length
  ent : ∀ (i : Nat) (d : D), se[i]? = some (some (d, false)) → ∃ v, σ[i]? = some (some v) ∧ Rp g.D.K H F v d
  own : ∀ (i : Nat) (d : D), se[i]? = some (some (d, true)) → ∃ p vs ds, σ[i]? = some (some (.ref p)) ∧ d = .list ds ∧ H p = some (.lst vs) ∧ H0 p = none ∧ ¬ F p ∧ RpA g.D.K H F vs ds ∧ lfA ds = true
  dist : ∀ (i j : Nat) (d e : D), se[i]? = some (some (d, true)) → se[j]? = some (some (e, true)) → σ[i]? = σ[j]? → i = j
  hid : RpA g.D.K H F hs hd
def SOk (g : G) (H0 : Hp) (F0 : Fp) (hs : List V) (hd : List D) (σ : L2.St) (H : Hp) (se : SEn) : Prop := ∃ F, SOf g H0 F0 hs hd σ H se F
/-- what is wanted behind a statement -/
def SEnds (g : G) (W : WX) (H0 : Hp) (F0 : Fp) (hs : List V) (hd : List D) (N : Ends) (r : SR) : Prop := match r with
  | .next se => ∀ σ H, SOk g H0 F0 hs hd σ H se → N.nx σ H
  | .ret d => ∀ v H, Same H0 H → Rp g.D.K H (Fx F0 H0) v d → N.rt v H
  | .brk se => ∀ σ H, SOk g H0 F0 hs hd σ H se → N.bk σ H
  | .cnt se => ∀ σ H, SOk g H0 F0 hs hd σ H se → N.ct σ H
  | .ex c se => ∀ cv σ H, g.D.mg c = some cv → SOk g H0 F0 hs hd σ H se → W cv none σ H
  | .no => False
def PurS (g : G) (st : Stmt) (f : SEn → SR) : Prop := ∀ X W, Cok g X W → ∀ H0 F0 hs hd σ H se (N : Ends), SOk g H0 F0 hs hd σ H se → SEnds g W H0 F0 hs hd N (f se) → wS X st N σ H
def PurB (g : G) (sts : List Stmt) (f : SEn → SR) : Prop := ∀ X W, Cok g X W → ∀ H0 F0 hs hd σ H se (N : Ends), SOk g H0 F0 hs hd σ H se → SEnds g W H0 F0 hs hd N (f se) → wB X sts N σ H

/-- what an expression may see: all that is not the frame's own, and of that the slots of m -/
@[simp] def view (m : List Nat) : Nat → SEn → En
  | _, [] => []
  | i, none :: r => none :: view m (i + 1) r
  | i, some (d, false) :: r => some d :: view m (i + 1) r
  | i, some (d, true) :: r => (if m.contains i then some d else none) :: view m (i + 1) r
/-- what was seen is no more the frame's own -/
@[simp] def demote (m : List Nat) : Nat → SEn → SEn
  | _, [] => []
  | i, none :: r => none :: demote m (i + 1) r
  | i, some (d, false) :: r => some (d, false) :: demote m (i + 1) r
  | i, some (d, true) :: r => (if m.contains i then some (d, false) else some (d, true)) :: demote m (i + 1) r
theorem view_get {m : List Nat} : ∀ {se : SEn} {k i : Nat} {d : D}, (view m k se)[i]? = some (some d) → ∃ b, se[i]? = some (some (d, b)) ∧ (b = true → m.contains (k + i) = true)
  | [], k, i, d, h => by simp [view] at h
  | none :: r, k, 0, d, h => by simp [view] at h
  | some (d', false) :: r, k, 0, d, h => by
    simp [view] at h
    exact ⟨false, by simp [h], fun z => by cases z⟩
  | some (d', true) :: r, k, 0, d, h => by
    unfold view at h
    by_cases c : m.contains k = true
    · rw [if_pos c] at h
      simp at h
      exact ⟨true, by simp [h], fun _ => c⟩
    · rw [if_neg c] at h
      simp at h
  | o :: r, k, i + 1, d, h => by
    have h' : (view m (k + 1) r)[i]? = some (some d) := by
      match o with
      | none => simpa [view] using h
      | some (d', false) => simpa [view] using h
      | some (d', true) => simpa [view] using h
    obtain ⟨b, h1, h2⟩ := view_get h'
    exact ⟨b, by simpa using h1, fun z => by have := h2 z; rw [Nat.add_assoc, Nat.add_comm 1 i] at this; exact this⟩
theorem demote_get {m : List Nat} : ∀ {se : SEn} {k i : Nat} {d : D} {b : Bool}, (demote m k se)[i]? = some (some (d, b)) → (b = true → se[i]? = some (some (d, true)) ∧ m.contains (k + i) = false) ∧ (b = false → se[i]? = some (some (d, false)) ∨ (se[i]? = some (some (d, true)) ∧ m.contains (k + i) = true))
  | [], k, i, d, b, h => by simp [demote] at h
  | none :: r, k, 0, d, b, h => by simp [demote] at h
  | some (d', false) :: r, k, 0, d, b, h => by
    simp [demote] at h
    obtain ⟨rfl, rfl⟩ := h
    exact ⟨fun z => by simp at z, fun _ => .inl rfl⟩
  | some (d', true) :: r, k, 0, d, b, h => by
    unfold demote at h
    by_cases c : m.contains k = true
    · rw [if_pos c] at h
      simp at h
      obtain ⟨rfl, rfl⟩ := h
      exact ⟨fun z => by simp at z, fun _ => .inr ⟨rfl, c⟩⟩
    · rw [if_neg c] at h
      simp at h
      obtain ⟨rfl, rfl⟩ := h
      exact ⟨fun _ => ⟨rfl, by simpa using c⟩, fun z => by simp at z⟩
  | o :: r, k, i + 1, d, b, h => by
    have h' : (demote m (k + 1) r)[i]? = some (some (d, b)) := by
      match o with
      | none => simpa [demote] using h
      | some (d', false) => simpa [demote] using h
      | some (d', true) => simpa [demote] using h
    obtain ⟨h1, h2⟩ := demote_get h'
    have e : k + 1 + i = k + (i + 1) := by omega
    rw [e] at h1 h2
    exact ⟨fun z => by simpa using h1 z, fun z => by simpa using h2 z⟩
theorem demote_len {m : List Nat} : ∀ {se : SEn} {k : Nat}, (demote m k se).length = se.length
  | [], _ => rfl
  | none :: r, k => by simp [demote, demote_len (se := r)]
  | some (d, false) :: r, k => by simp [demote, demote_len (se := r)]
  | some (d, true) :: r, k => by simp [demote, demote_len (se := r)]

mutual
/-- an address that is read is known -/
theorem Rp.tight {K : PySem.W.Frag} {H : Hp} {F : Fp} : ∀ {d : D} {v : V}, Rp K H F v d → Rp K H (fun a => F a ∧ H a ≠ none) v d
  | .none, _, h => by cases h; exact .non
  | .bool b, _, h => by cases h; exact .bl b
  | .int i, _, h => by cases h; exact .int i
  | .str x, _, h => by cases h; exact .str x
  | .list ds, _, h => by
    cases h with
    | lst hl ha =>
      refine .lst ?_ (RpA.tight ha)
      rcases hl with ⟨h, f⟩ | h
      · refine .inl ⟨h, f, ?_⟩
        rcases h with h | ⟨o, h⟩ <;> rw [h] <;> simp
      · exact .inr h
  | .tuple ds, _, h => by
    cases h with
    | tup hl ha => exact .tup hl (RpA.tight ha)
  | .dict _, _, h => by cases h
theorem RpA.tight {K : PySem.W.Frag} {H : Hp} {F : Fp} : ∀ {ds : List D} {vs : List V}, RpA K H F vs ds → RpA K H (fun a => F a ∧ H a ≠ none) vs ds
  | [], _, h => by cases h; exact .nil
  | d :: ds, _, h => by
    cases h with
    | cons h1 h2 => exact .cons (Rp.tight h1) (RpA.tight h2)
end

/-- F and the own lists at the slots of m -/
def Fo (F : Fp) (m : List Nat) (σ : L2.St) (se : SEn) : Fp := fun a => F a ∨ ∃ i d, se[i]? = some (some (d, true)) ∧ m.contains i = true ∧ σ[i]? = some (some (.ref a))
section
variable {g : G} {H0 : Hp} {F0 : Fp} {hs : List V} {hd : List D} {σ : L2.St} {H H1 : Hp} {se : SEn} {F : Fp} {m : List Nat}
theorem SOf.same (s : SOf g H0 F0 hs hd σ H se F) (e : Same H H1) : SOf g H0 F0 hs hd σ H1 se F where
  ex := s.ex.trans e
  sub := s.sub
  live := fun a f z => s.live a f (e.free z)
  len := s.len
  ent := fun i d h => by
    obtain ⟨v, h1, h2⟩ := s.ent i d h
    exact ⟨v, h1, h2.mono e fun _ z => z⟩
  own := fun i d h => by
    obtain ⟨p, vs, ds, h1, h2, h3, h4, h5, h6, h7⟩ := s.own i d h
    exact ⟨p, vs, ds, h1, h2, e _ _ h3, h4, h5, h6.mono e (fun _ z => z), h7⟩
  dist := s.dist
  hid := s.hid.mono e fun _ z => z
/-- what an expression sees -/
theorem SOf.env (s : SOf g H0 F0 hs hd σ H se F) : EnvOk g.D.K (Fo F m σ se) σ H (view m 0 se) := fun i d h => by
  obtain ⟨b, h1, h2⟩ := view_get h
  rw [Nat.zero_add] at h2
  cases b with
  | false =>
    obtain ⟨v, h3, h4⟩ := s.ent i d h1
    exact ⟨v, h3, h4.mono (Same.refl H) fun _ z => .inl z⟩
  | true =>
    obtain ⟨p, vs, ds, e1, rfl, e3, e4, e5, e6, e7⟩ := s.own i d h1
    exact ⟨_, e1, .lst (.inl ⟨.inl e3, .inr ⟨i, _, h1, h2 rfl, e1⟩⟩) (e6.mono (Same.refl H) fun _ z => .inl z)⟩
/-- the frame's own at m given up: their addresses, and new ones, join F -/
theorem SOf.give (s : SOf g H0 F0 hs hd σ H se F) (e : Same H H1) : SOf g H0 F0 hs hd σ H1 (demote m 0 se) (fun a => Fx (Fo F m σ se) H a ∧ H1 a ≠ none) := by
  have fle : ∀ a, F a → Fx (Fo F m σ se) H a ∧ H1 a ≠ none := fun a f => ⟨.inl (.inl f), fun z => s.live a f (e.free z)⟩
  refine ⟨s.ex.trans e, fun a ⟨f, _⟩ => ?_, fun a ⟨_, f⟩ => f, by rw [demote_len]; exact s.len, fun i d h => ?_, fun i d h => ?_, fun i j d d' h1 h2 => ?_, ?_⟩
  · rcases f with (f | ⟨i, d, h1, _, h2⟩) | f
    · exact s.sub a f
    · obtain ⟨p, vs, ds, e1, rfl, e3, e4, _⟩ := s.own i d h1
      rw [h2] at e1
      cases e1
      exact .inr e4
    · exact .inr (s.ex.free f)
  · obtain ⟨_, h2⟩ := demote_get h
    rw [Nat.zero_add] at h2
    rcases h2 rfl with h3 | ⟨h3, h4⟩
    · obtain ⟨v, h5, h6⟩ := s.ent i d h3
      exact ⟨v, h5, h6.mono e fle⟩
    · obtain ⟨p, vs, ds, e1, rfl, e3, e4, e5, e6, e7⟩ := s.own i d h3
      exact ⟨_, e1, .lst (.inl ⟨.inl (e _ _ e3), .inl (.inr ⟨i, _, h3, h4, e1⟩), by rw [e _ _ e3]; simp⟩) (e6.mono e fle)⟩
  · obtain ⟨h1, _⟩ := demote_get h
    rw [Nat.zero_add] at h1
    obtain ⟨h3, h4⟩ := h1 rfl
    obtain ⟨p, vs, ds, e1, rfl, e3, e4, e5, e6, e7⟩ := s.own i d h3
    refine ⟨p, vs, ds, e1, rfl, e _ _ e3, e4, fun ⟨z, _⟩ => ?_, e6.mono e fle, e7⟩
    rcases z with (z | ⟨j, d', h5, h6, h7⟩) | z
    · exact e5 z
    · have := s.dist i j _ _ h3 h5 (e1.trans h7.symm)
      rw [← this, h4] at h6
      cases h6
    · rw [e3] at z; cases z
  · have q1 := (demote_get h1).1 rfl
    have q2 := (demote_get h2).1 rfl
    exact s.dist i j _ _ q1.1 q2.1
  · exact s.hid.mono e fle
theorem get_set {α : Type} {l : List α} {i j : Nat} {a x : α} (h : (l.set i a)[j]? = some x) : (j = i ∧ x = a ∧ i < l.length) ∨ (j ≠ i ∧ l[j]? = some x) := by
  by_cases e : j = i
  · subst e
    by_cases hl : j < l.length
    · rw [List.getElem?_set_self hl] at h
      cases h
      exact .inl ⟨rfl, rfl, hl⟩
    · rw [List.getElem?_eq_none (by simpa using hl)] at h
      cases h
  · rw [List.getElem?_set_ne (Ne.symm e)] at h
    exact .inr ⟨e, h⟩
/-- a slot is stored: a datum whose lists are in F -/
theorem SOf.set (s : SOf g H0 F0 hs hd σ H se F) {v : V} {d : D} (r : Rp g.D.K H F v d) (i : Nat) : SOf g H0 F0 hs hd (σ.set i (some v)) H (se.set i (some (d, false))) F where
  ex := s.ex
  sub := s.sub
  live := s.live
  len := by rw [List.length_set, List.length_set]; exact s.len
  ent := fun j d' h => by
    rcases get_set h with ⟨rfl, e, hl⟩ | ⟨hne, h⟩
    · cases e
      exact ⟨v, List.getElem?_set_self (by rw [s.len]; exact hl), r⟩
    · obtain ⟨w, h1, h2⟩ := s.ent j d' h
      exact ⟨w, by rw [List.getElem?_set_ne (Ne.symm hne)]; exact h1, h2⟩
  own := fun j d' h => by
    rcases get_set h with ⟨rfl, e, hl⟩ | ⟨hne, h⟩
    · cases e
    · obtain ⟨p, vs, ds, h1, r⟩ := s.own j d' h
      exact ⟨p, vs, ds, by rw [List.getElem?_set_ne (Ne.symm hne)]; exact h1, r⟩
  dist := fun j k d' e' h1 h2 h3 => by
    rcases get_set h1 with ⟨rfl, e, hl⟩ | ⟨hn1, h1⟩
    · cases e
    rcases get_set h2 with ⟨rfl, e, hl⟩ | ⟨hn2, h2⟩
    · cases e
    rw [List.getElem?_set_ne (Ne.symm hn1), List.getElem?_set_ne (Ne.symm hn2)] at h3
    exact s.dist j k _ _ h1 h2 h3
  hid := s.hid
/-- a slot is stored: a list of the frame's own, new at p -/
theorem SOf.setOwn (s : SOf g H0 F0 hs hd σ H se F) (e : Same H H1) {p : Addr} {vs : List V} {ds : List D} (hn : H p = none) (hp : H1 p = some (.lst vs)) (r : RpA g.D.K H1 F vs ds) (hf : lfA ds = true) (i : Nat) :
    SOf g H0 F0 hs hd (σ.set i (some (.ref p))) H1 (se.set i (some (.list ds, true))) F := by
  have s1 := s.same e
  refine ⟨s1.ex, s1.sub, s1.live, by rw [List.length_set, List.length_set]; exact s.len, fun j d' h => ?_, fun j d' h => ?_, fun j k d' e' h1 h2 h3 => ?_, s1.hid⟩
  · rcases get_set h with ⟨rfl, e, hl⟩ | ⟨hne, h⟩
    · cases e
    · obtain ⟨w, h1, h2⟩ := s1.ent j d' h
      exact ⟨w, by rw [List.getElem?_set_ne (Ne.symm hne)]; exact h1, h2⟩
  · rcases get_set h with ⟨rfl, q, hl⟩ | ⟨hne, h⟩
    · cases q
      exact ⟨p, vs, ds, List.getElem?_set_self (by rw [s.len]; exact hl), rfl, hp, s.ex.free hn, fun f => s.live p f hn, r, hf⟩
    · obtain ⟨q, vs', ds', h1, rest⟩ := s1.own j d' h
      exact ⟨q, vs', ds', by rw [List.getElem?_set_ne (Ne.symm hne)]; exact h1, rest⟩
  · have other : ∀ {j : Nat} {d' : D}, j ≠ i → se[j]? = some (some (d', true)) → σ[j]? ≠ some (some (.ref p)) := fun {j d'} _ h z => by
      obtain ⟨q, _, _, h1, _, h3, _⟩ := s.own j d' h
      rw [z] at h1
      cases h1
      rw [hn] at h3
      cases h3
    rcases get_set h1 with ⟨z1, q, hl⟩ | ⟨hn1, k1⟩
    · rcases get_set h2 with ⟨z2, q2, _⟩ | ⟨hn2, k2⟩
      · rw [z1, z2]
      · rw [z1, List.getElem?_set_self (by rw [s.len]; exact hl), List.getElem?_set_ne (Ne.symm hn2)] at h3
        exact absurd h3.symm (other hn2 k2)
    · rcases get_set h2 with ⟨z2, q2, hl⟩ | ⟨hn2, k2⟩
      · rw [z2, List.getElem?_set_self (by rw [s.len]; exact hl), List.getElem?_set_ne (Ne.symm hn1)] at h3
        exact absurd h3 (other hn1 k1)
      · rw [List.getElem?_set_ne (Ne.symm hn1), List.getElem?_set_ne (Ne.symm hn2)] at h3
        exact s.dist j k _ _ k1 k2 h3
/-- a list of the frame's own changes -/
theorem SOf.upd (s : SOf g H0 F0 hs hd σ H se F) {i : Nat} {d : D} {p : Addr} {vs : List V} {ds : List D} (hi : se[i]? = some (some (d, true))) (hp : σ[i]? = some (some (.ref p))) (r : RpA g.D.K H F vs ds) (hf : lfA ds = true) :
    SOf g H0 F0 hs hd σ (L2.upd H p (.lst vs)) (se.set i (some (.list ds, true))) F := by
  obtain ⟨q, vs0, ds0, h1, rfl, h3, h4, h5, h6, h7⟩ := s.own i d hi
  rw [hp] at h1
  cases h1
  have hil : i < se.length := (List.getElem?_eq_some_iff.mp hi).1
  refine ⟨fun a o e => ?_, s.sub, fun a f => ?_, by rw [List.length_set]; exact s.len, fun j d' h => ?_, fun j d' h => ?_, fun j k d' e' h1 h2 => ?_, s.hid.upd h3 h5⟩
  · rw [upd_ne (by rintro rfl; rw [h4] at e; cases e)]
    exact s.ex a o e
  · rw [upd_ne (by rintro rfl; exact h5 f)]
    exact s.live a f
  · rcases get_set h with ⟨rfl, e, hl⟩ | ⟨hne, h⟩
    · cases e
    · obtain ⟨w, h1, h2⟩ := s.ent j d' h
      exact ⟨w, h1, h2.upd h3 h5⟩
  · rcases get_set h with ⟨rfl, e, hl⟩ | ⟨hne, h⟩
    · cases e
      exact ⟨p, vs, ds, hp, rfl, upd_same, h4, h5, RpA.free (fun a xs => sqt_upd h3) hf r, hf⟩
    · obtain ⟨p2, vs2, ds2, k1, rfl, k3, k4, k5, k6, k7⟩ := s.own j d' h
      have ne : p2 ≠ p := by
        rintro rfl
        exact hne (s.dist j i _ _ h hi (k1.trans hp.symm))
      exact ⟨p2, vs2, ds2, k1, rfl, by rw [upd_ne ne]; exact k3, k4, k5, k6.upd h3 h5, k7⟩
  · rcases get_set h1 with ⟨z1, _, _⟩ | ⟨hn1, k1⟩
    · rcases get_set h2 with ⟨z2, _, _⟩ | ⟨hn2, k2⟩
      · exact fun _ => by rw [z1, z2]
      · rw [z1]; exact s.dist _ _ _ _ hi k2
    · rcases get_set h2 with ⟨z2, _, _⟩ | ⟨hn2, k2⟩
      · rw [z2]; exact s.dist _ _ _ _ k1 hi
      · exact s.dist _ _ _ _ k1 k2
/-- what is told of an outcome of the frame: its lists are the arguments' or new -/
theorem SOf.out (s : SOf g H0 F0 hs hd σ H se F) (e : Same H H1) {v : V} {d : D} (r : Rp g.D.K H1 (Fx (Fo F m σ se) H) v d) : Rp g.D.K H1 (Fx F0 H0) v d := by
  refine r.mono (Same.refl _) fun a z => ?_
  rcases z with (f | ⟨i, d, h1, _, h2⟩) | f
  · exact s.sub a f
  · obtain ⟨p, vs, ds, e1, rfl, e3, e4, _⟩ := s.own i d h1
    rw [h2] at e1
    cases e1
    exact .inr e4
  · exact .inr (s.ex.free f)
end
end Pu
namespace Pu
open PySem PySem.Spec PyProof.Rows L2

def SR.of {α : Type} (r : R α) (se : SEn) (k : α → SR) : SR := match r with
  | .ok a => k a
  | .ex c => .ex c se
  | .no => .no
@[simp] theorem SR.of_ok {α : Type} (a : α) (se : SEn) (k : α → SR) : SR.of (.ok a) se k = k a := rfl
@[simp] theorem SR.of_ex {α : Type} (c : Str) (se : SEn) (k : α → SR) : SR.of (.ex c) se k = .ex c se := rfl
@[simp] theorem SR.of_no {α : Type} (se : SEn) (k : α → SR) : SR.of (.no : R α) se k = .no := rfl

section
variable {g : G} {W : WX} {X : Cx} {H0 : Hp} {F0 : Fp} {hs : List V} {hd : List D} {σ : L2.St} {H H1 : Hp} {se : SEn} {F : Fp} {m : List Nat} {N : Ends}
variable {pos p p2 : Pos} {a b c e : Expr} {es : List Expr} {fa fb fe : En → R D} {fs : En → R (List D)} {ft : En → R Bool}
/-- from what is wanted of a statement to what is wanted of its expression -/
theorem of_wants {α β : Type} {r : R α} {k : α → SR} {rel : α → β → Hp → Prop} {Q : β → Hp → Prop} (s : SOf g H0 F0 hs hd σ H se F) (h : SEnds g W H0 F0 hs hd N (SR.of r se k))
    (q : ∀ d v H1, r = .ok d → Same H H1 → rel d v H1 → SEnds g W H0 F0 hs hd N (k d) → Q v H1) : Wants g W σ H r rel Q := by
  cases r with
  | ok d => exact fun v H1 e r => q d v H1 rfl e r h
  | ex c => exact fun cv H1 e hm => h cv σ H1 hm ⟨F, s.same e⟩
  | no => exact h

theorem pus_pass : PurS g (.Pass pos) (fun se => .next se) := fun X W C H0 F0 hs hd σ H se N s h => wS_of ps_pass (h σ H s)
theorem pus_break : PurS g (.Break pos) (fun se => .brk se) := fun X W C H0 F0 hs hd σ H se N s h => wS_of ps_break (h σ H s)
theorem pus_continue : PurS g (.Continue pos) (fun se => .cnt se) := fun X W C H0 F0 hs hd σ H se N s h => wS_of ps_continue (h σ H s)
theorem pus_doc {x : Str} {j : Nat} : PurS g (.Expr (.Constant (.str x) j p) pos) (fun se => .next se) := fun X W C H0 F0 hs hd σ H se N s h => wS_of ps_doc (h σ H s)
theorem pus_expr (m : List Nat) (he : Pur g e fe) (hsw : ∀ env, swapsWith e none pos.line env = pure false := by intro _; rfl) : PurS g (.Expr e pos) (fun se => SR.of (fe (view m 0 se)) se fun _ => .next se) := by
  intro X W C H0 F0 hs hd σ H se N ⟨F, s⟩ h
  refine wS_of (ps_expr pe_w (hsw _)) ?_
  exact he X W C σ H _ _ _ (s.env (m := m)) (of_wants s h fun d v H1 _ e1 r1 h1 => h1 σ H1 ⟨F, s.same e1⟩)
theorem pus_ret (m : List Nat) (he : Pur g e fe) : PurS g (.Return (some e) pos) (fun se => SR.of (fe (view m 0 se)) se fun d => .ret d) := by
  intro X W C H0 F0 hs hd σ H se N ⟨F, s⟩ h
  refine wS_of (ps_ret pe_w) ?_
  exact he X W C σ H _ _ _ (s.env (m := m)) (of_wants s h fun d v H1 _ e1 r1 h1 => h1 v H1 (s.ex.trans e1) (s.out e1 r1))
theorem pus_retN : PurS g (.Return none pos) (fun se => .ret .none) := by
  intro X W C H0 F0 hs hd σ H se N ⟨F, s⟩ h
  exact wS_of ps_retN (h _ H s.ex .non)
theorem pus_if (m : List Nat) {p q : List Stmt} {f1 f2 : SEn → SR} (hc : PurT g c ft) (h1 : PurB g p f1) (h2 : PurB g q f2) : PurS g (.If c p q pos) (fun se => SR.of (ft (view m 0 se)) se fun k => if k then f1 se else f2 se) := by
  intro X W C H0 F0 hs hd σ H se N ⟨F, s⟩ h
  refine wS_of (ps_if pt_w pss_w pss_w) ?_
  refine hc X W C σ H _ _ _ (s.env (m := m)) (of_wants s h fun d v H1 _ e1 r1 h3 => ?_)
  cases r1
  cases d with
  | true => exact h1 X W C H0 F0 hs hd σ H1 se N ⟨F, s.same e1⟩ h3
  | false => exact h2 X W C H0 F0 hs hd σ H1 se N ⟨F, s.same e1⟩ h3
/-! blocks -/
theorem pub_nil : PurB g [] (fun se => .next se) := fun X W C H0 F0 hs hd σ H se N s h => wB_of pss_nil (h σ H s)
theorem SEnds.seq {r : SR} {f : SEn → SR} {N' : Ends} (h : SEnds g W H0 F0 hs hd N (r.seq f)) (hr : N'.rt = N.rt) (hb : N'.bk = N.bk) (hc : N'.ct = N.ct) (hn : ∀ se σ H, r = .next se → SOk g H0 F0 hs hd σ H se → SEnds g W H0 F0 hs hd N (f se) → N'.nx σ H) :
    SEnds g W H0 F0 hs hd N' r := by
  cases r with
  | next se => exact fun σ H s => hn se σ H rfl s h
  | ret d => show ∀ v H, Same H0 H → Rp g.D.K H (Fx F0 H0) v d → N'.rt v H; rw [hr]; exact h
  | brk se => show ∀ σ H, SOk g H0 F0 hs hd σ H se → N'.bk σ H; rw [hb]; exact h
  | cnt se => show ∀ σ H, SOk g H0 F0 hs hd σ H se → N'.ct σ H; rw [hc]; exact h
  | ex c se => exact h
  | no => exact h
theorem pub_cons {st : Stmt} {rest : List Stmt} {f1 f2 : SEn → SR} (h1 : PurS g st f1) (h2 : PurB g rest f2) : PurB g (st :: rest) (fun se => (f1 se).seq f2) := by
  intro X W C H0 F0 hs hd σ H se N s h
  refine wB_of (pss_cons ps_w pss_w) ?_
  exact h1 X W C H0 F0 hs hd σ H se _ s (h.seq rfl rfl rfl fun se' σ' H' _ s' h' => h2 X W C H0 F0 hs hd σ' H' se' N s' h')
theorem pub_one {st : Stmt} {f1 : SEn → SR} (h1 : PurS g st f1) : PurB g [st] f1 := by
  intro X W C H0 F0 hs hd σ H se N s h
  exact wB_of (pss_one ps_w) (h1 X W C H0 F0 hs hd σ H se N s h)

/-! ### new lists -/
/-- an expression whose value is a new list -/
def relL (K : PySem.W.Frag) (F : Fp) (H : Hp) : D → V → Hp → Prop := fun d v H' => ∃ p vs ds, v = .ref p ∧ d = .list ds ∧ H p = none ∧ H' p = some (.lst vs) ∧ RpA K H' (Fx F H) vs ds
def PurL (g : G) (e : Expr) (f : En → R D) : Prop := ∀ X W, Cok g X W → ∀ σ H F env (Q : VK), EnvOk g.D.K F σ H env → Wants g W σ H (f env) (relL g.D.K F H) Q → wE X e σ H Q
theorem PurL.pur (h : PurL g e fe) : Pur g e fe := fun X W C σ H F env Q E q => h X W C σ H F env Q E (q.imp fun d v H' _ ⟨p, vs, ds, ev, ed, hn, hp, r⟩ => by
  subst ev ed
  exact .lst (.inl ⟨.inl hp, .inr hn⟩) r)
theorem RpA.newL {K : PySem.W.Frag} {H1 : Hp} {F : Fp} {p : Addr} {o : HO} {vs : List V} {ds : List D} (hn : H1 p = none) (r : RpA K H1 F vs ds) : RpA K (L2.upd H1 p o) F vs ds := r.mono (Same.new hn) fun _ z => z
theorem purl_lst (h : PurA g es fs) : PurL g (.List es pos) (fun env => (fs env).bind fun ds => if szOk ds.length then .ok (.list ds) else .no) := by
  intro X W C σ H F env Q E hq
  refine wE_of (pe_lst pa_w) ?_
  refine h X W C σ H F env _ E (hq.bind fun ds vs H1 _ e1 r1 h1 => ?_)
  by_cases z : szOk ds.length = true
  · rw [if_pos z] at h1
    exact ⟨by rw [r1.length]; exact of_decide_eq_true z, fun q hn => h1 _ _ (Same.new hn) ⟨q, vs, ds, rfl, rfl, e1.free hn, upd_same, RpA.newL hn r1⟩⟩
  · rw [if_neg z] at h1
    exact h1.elim
@[simp] def slL : D → Option Int → Option Int → R D
  | .list ds, lo, hi => .ok (.list (cutD ds lo hi))
  | _, _, _ => .no
theorem purl_slice {lo hi : Option Expr} {fl fh : En → R (Option Int)} (ha : Pur g a fa) (hl : PurO g lo fl) (hh : PurO g hi fh) :
    PurL g (.Subscript a (.Slice lo hi none p2) pos) (fun env => (fa env).bind fun x => (fl env).bind fun l => (fh env).bind fun u => slL x l u) := by
  intro X W C σ H F env Q E h
  have tl : ∀ (lo : Option Expr), PO X lo (fun σ H Q => ∃ t, PO X lo t ∧ t σ H Q) := fun lo => ⟨fun pins s σ H Q I ⟨t, ht, q⟩ => ht.run pins s σ H Q I q⟩
  refine wE_of (pe_slice sl_list pe_w (tl lo) (tl hi)) ?_
  refine ha X W C σ H F env _ E (h.bind fun x v H1 _ e1 r1 h1 => ?_)
  refine hl X W C σ H1 F env _ (E.mono e1 fun _ z => z) (h1.bind fun l l' H2 _ e2 r2 h2 => ?_)
  refine hh X W C σ H2 F env _ (E.mono (e1.trans e2) fun _ z => z) (h2.bind fun u u' H3 _ e3 r3 h3 => ?_)
  cases r2
  cases r3
  have e0 := (e1.trans e2).trans e3
  cases Rp.mono (e2.trans e3) (fun a z => z) r1 with
  | lst hq hA => exact ⟨_, _, rfl, by rw [C.K]; exact hq.sq, fun p hn => h3 _ _ (Same.new hn) ⟨p, _, _, rfl, rfl, e0.free hn, upd_same, RpA.newL hn (hA.cut _ _)⟩⟩
  | _ => exact h3.elim
theorem purl_rev {k : Nat} {q1 q2 q3 : Pos} (ha : Pur g a fa) : PurL g (.Subscript a (.Slice none none (some (.UnaryOp .USub (.Constant (.int 1) k q1) q2)) q3) pos) (fun env => (fa env).bind revV) := by
  intro X W C σ H F env Q E h
  refine wE_of (pe_revL pe_w) ?_
  refine ha X W C σ H F env _ E (h.bind fun x v H1 _ e1 r1 h1 => ?_)
  cases r1 with
  | lst hq hA => exact ⟨_, _, rfl, by rw [C.K]; exact hq.sq, fun p hn => h1 _ _ (Same.new hn) ⟨p, _, _, rfl, rfl, e1.free hn, upd_same, RpA.newL hn hA.reverse⟩⟩
  | _ => exact h1.elim
/-- xs * n, xs + ys of lists -/
@[simp] def repL : D → D → R D
  | .list xs, .int k => if -(2 ^ 63) ≤ k ∧ k < 2 ^ 63 ∧ xs.length * k.toNat ≤ sizeLine then .ok (.list (List.replicate k.toNat xs).flatten) else .no
  | _, _ => .no
theorem purl_rep (ha : Pur g a fa) (hb : Pur g b fb) : PurL g (.BinOp a .Mult b pos) (fun env => (fa env).bind fun x => (fb env).bind fun y => repL x y) := by
  intro X W C σ H F env Q E h
  refine wE_of (pe_op op_repS pe_w pe_w) ?_
  refine ha X W C σ H F env _ E (h.bind fun x v H1 _ e1 r1 h1 => ?_)
  refine hb X W C σ H1 F env _ (E.mono e1 fun _ z => z) (h1.bind fun y u H2 _ e2 r2 h2 => ?_)
  unfold repL at h2
  split at h2
  · cases Rp.mono e2 (fun a z => z) r1 with
    | lst hq hA =>
      cases r2
      split at h2
      · rename_i c
        exact ⟨_, _, _, rfl, rfl, by rw [C.K]; exact hq.sq, c.1, c.2.1, by rw [hA.length]; exact c.2.2, fun p hn => h2 _ _ (Same.new hn) ⟨p, _, _, rfl, rfl, (e1.trans e2).free hn, upd_same, RpA.rep (RpA.newL hn hA) _⟩⟩
      · exact h2.elim
  · exact h2.elim
@[simp] def catL : D → D → R D
  | .list xs, .list ys => if szOk (xs.length + ys.length) then .ok (.list (xs ++ ys)) else .no
  | _, _ => .no
theorem purl_cat (ha : Pur g a fa) (hb : Pur g b fb) : PurL g (.BinOp a .Add b pos) (fun env => (fa env).bind fun x => (fb env).bind fun y => catL x y) := by
  intro X W C σ H F env Q E h
  refine wE_of (pe_op op_catS pe_w pe_w) ?_
  refine ha X W C σ H F env _ E (h.bind fun x v H1 _ e1 r1 h1 => ?_)
  refine hb X W C σ H1 F env _ (E.mono e1 fun _ z => z) (h1.bind fun y u H2 _ e2 r2 h2 => ?_)
  unfold catL at h2
  split at h2
  · cases Rp.mono e2 (fun a z => z) r1 with
    | lst hq hA =>
      cases r2 with
      | lst hq2 hA2 =>
        split at h2
        · exact ⟨_, _, _, _, rfl, rfl, by rw [C.K]; exact hq.sq, by rw [C.K]; exact hq2.sq, by rw [hA.length, hA2.length]; exact of_decide_eq_true (by assumption), fun p hn => h2 _ _ (Same.new hn) ⟨p, _, _, rfl, rfl, (e1.trans e2).free hn, upd_same,
            (RpA.newL hn hA).append ((RpA.newL hn hA2).mono (Same.refl _) fun a z => Fx.back e1 a z)⟩⟩
        · exact h2.elim
  · exact h2.elim

/-! ### stores -/
def isLoc (sc : Scope) (x : Str) : Bool := match sc.names.lookup x with
  | some .local => true
  | some .cell => true
  | _ => false
theorem isLoc_ok {sc : Scope} {x : Str} (h : isLoc sc x = true) : Loc sc x := by
  unfold isLoc at h
  split at h
  · exact .inl (by assumption)
  · exact .inr (by assumption)
  · cases h
/-- what a store of d makes of the state: without lists in it | a new list of the frame's own | anything else, what was seen given up -/
def storeV (m : List Nat) (i : Nat) (d : D) (se : SEn) : SEn := if lf d then se.set i (some (d, false)) else (demote m 0 se).set i (some (d, false))
def storeL (m : List Nat) (i : Nat) : D → SEn → SEn
  | .list ds, se => if lfA ds then se.set i (some (.list ds, true)) else (demote m 0 se).set i (some (.list ds, false))
  | d, se => (demote m 0 se).set i (some (d, false))
theorem SOf.storeV (s : SOf g H0 F0 hs hd σ H se F) (e1 : Same H H1) {v : V} {d : D} (r : Rp g.D.K H1 (Fx (Fo F m σ se) H) v d) (i : Nat) : SOk g H0 F0 hs hd (σ.set i (some v)) H1 (Pu.storeV m i d se) := by
  unfold Pu.storeV
  split
  · exact ⟨F, (s.same e1).set (r.free (fun _ _ h => h) (by assumption)) i⟩
  · exact ⟨_, (s.give (m := m) e1).set r.tight i⟩
theorem SOf.storeL (s : SOf g H0 F0 hs hd σ H se F) (e1 : Same H H1) {v : V} {d : D} (r : relL g.D.K (Fo F m σ se) H d v H1) (i : Nat) : SOk g H0 F0 hs hd (σ.set i (some v)) H1 (Pu.storeL m i d se) := by
  obtain ⟨p, vs, ds, rfl, rfl, hn, hp, rA⟩ := r
  unfold Pu.storeL
  split
  · rename_i ds' q
    cases q
    split
    · exact ⟨F, s.setOwn e1 hn hp (RpA.free (fun _ _ h => h) (by assumption) rA) (by assumption) i⟩
    · exact ⟨_, (s.give (m := m) e1).set (Rp.tight (.lst (.inl ⟨.inl hp, .inr hn⟩) rA)) i⟩
  · rename_i q
    exact absurd rfl (q ds)
theorem pus_set (i : Nat) (m : List Nat) {x : Str} (he : Pur g e fe) (hN : g.N[i]? = some x := by rfl) (hx : isLoc g.sc x = true := by rfl) (hB : g.B = true := by rfl) (hsw : ∀ env, swapsWith e (some (.Name x p)) pos.line env = pure false := by intro _; rfl) :
    PurS g (.Assign [.Name x p] e pos) (fun se => SR.of (fe (view m 0 se)) se fun d => .next (storeV m i d se)) := by
  intro X W C H0 F0 hs hd σ H se N ⟨F, s⟩ h
  refine wS_of (ps_set (i := i) C.nd (by rw [C.N]; exact hN) (by rw [C.sc]; exact isLoc_ok hx) pe_w (hsw _) (.inl (C.fn hB x))) ?_
  exact he X W C σ H _ _ _ (s.env (m := m)) (of_wants s h fun d v H1 _ e1 r1 h1 => h1 _ H1 (s.storeV e1 r1 i))
theorem pus_setL (i : Nat) (m : List Nat) {x : Str} (he : PurL g e fe) (hN : g.N[i]? = some x := by rfl) (hx : isLoc g.sc x = true := by rfl) (hB : g.B = true := by rfl) (hsw : ∀ env, swapsWith e (some (.Name x p)) pos.line env = pure false := by intro _; rfl) :
    PurS g (.Assign [.Name x p] e pos) (fun se => SR.of (fe (view m 0 se)) se fun d => .next (storeL m i d se)) := by
  intro X W C H0 F0 hs hd σ H se N ⟨F, s⟩ h
  refine wS_of (ps_set (i := i) C.nd (by rw [C.N]; exact hN) (by rw [C.sc]; exact isLoc_ok hx) pe_w (hsw _) (.inl (C.fn hB x))) ?_
  exact he X W C σ H _ _ _ (s.env (m := m)) (of_wants s h fun d v H1 _ e1 r1 h1 => h1 _ H1 (s.storeL e1 r1 i))
/-- a, b = x, y -/
theorem pus_par (i j : Nat) (m : List Nat) {x y : Str} {px py pt pt2 : Pos} {kt k2 : Nat} (ha : Pur g a fa) (hb : Pur g b fb) (hi : g.N[i]? = some x := by rfl) (hj : g.N[j]? = some y := by rfl) (hij : i ≠ j := by decide) (hc : g.calm = true := by rfl)
    (hx : g.sc.names.lookup x = some .local := by rfl) (hy : g.sc.names.lookup y = some .local := by rfl)
    (hst : ∀ env, starEach [a, b] env = (false, eval a env) :: starEach [b] env := by intro _; exact starEach_of rfl) (hst2 : ∀ env, starEach [b] env = (false, eval b env) :: starEach [] env := by intro _; exact starEach_of rfl)
    (hw : ∀ env : Env, env.scope = g.sc → swappedStores [.Tuple [.Name x px, .Name y py] kt pt] (.Tuple [a, b] k2 pt2) env = pure (some [x, y]) := by intro env he; obtain ⟨⟩ := env; cases he; rfl)
    (hsw : ∀ env, swapsWithSole [.Tuple [.Name x px, .Name y py] kt pt] (.Tuple [a, b] k2 pt2) pos.line env = pure false := by intro _; rfl) :
    PurS g (.Assign [.Tuple [.Name x px, .Name y py] kt pt] (.Tuple [a, b] k2 pt2) pos) (fun se => SR.of ((fa (view m 0 se)).bind fun d => (fb (view m 0 se)).bind fun d' => .ok (d, d')) se fun dd => if lf dd.1 && lf dd.2 then .next ((se.set i (some (dd.1, false))).set j (some (dd.2, false))) else .no) := by
  intro X W C H0 F0 hs hd σ H se N ⟨F, s⟩ h
  refine wS_of (ps_par (i := i) (j := j) (by rw [C.calm]; exact hc) C.nd (by rw [C.N]; exact hi) (by rw [C.N]; exact hj) hij (by rw [C.sc]; exact hx) (by rw [C.sc]; exact hy) (pa_cons pe_w (pa_cons pe_w pa_nil (hst2 _)) (hst _)) (hw _ C.sc) (hsw _)) ?_
  have E := s.env (m := m)
  have hW : Wants g W σ H ((fa (view m 0 se)).bind fun d => (fb (view m 0 se)).bind fun d' => .ok (d, d')) (fun dd (vv : V × V) H1 => Rp g.D.K H1 (Fx (Fo F m σ se) H) vv.1 dd.1 ∧ Rp g.D.K H1 (Fx (Fo F m σ se) H) vv.2 dd.2) (fun vv H1 => N.nx ((σ.set i (some vv.1)).set j (some vv.2)) H1) := of_wants s h fun dd vv H1 _ e1 r1 h1 => by
    by_cases z : (lf dd.1 && lf dd.2) = true
    · rw [if_pos z] at h1
      rw [Bool.and_eq_true] at z
      exact h1 _ H1 ⟨F, ((s.same e1).set (r1.1.free (fun _ _ h => h) z.1) i).set (r1.2.free (fun _ _ h => h) z.2) j⟩
    · rw [if_neg z] at h1
      exact h1.elim
  refine ha X W C σ H _ _ _ E (hW.bind fun d v H1 _ e1 r1 h1 => ?_)
  refine hb X W C σ H1 _ _ _ (E.mono e1 fun _ z => z) (h1.bind fun d' v' H2 _ e2 r2 h2 => ?_)
  exact ⟨v, v', rfl, h2 (v, v') H2 (Same.refl H2) ⟨r1.mono e2 fun _ z => z, r2.mono (Same.refl _) fun a z => Fx.back e1 a z⟩⟩
/-- a name op= e, ints -/
theorem ip_of {op : Operator} (hop : op = .Add ∨ op = .Sub) : PIp X op (ipI fun i j => if op = .Add then i + j else i - j) := by
  rcases hop with rfl | rfl
  · exact ip_add
  · exact ip_sub
theorem pus_aug (i : Nat) (m : List Nat) {x : Str} {op : Operator} (he : Pur g e fe) (hop : op = .Add ∨ op = .Sub := by first | exact .inl rfl | exact .inr rfl) (hN : g.N[i]? = some x := by rfl) (hx : isLoc g.sc x = true := by rfl) (hB : g.B = true := by rfl) :
    PurS g (.AugAssign (.Name x p) op e pos) (fun se => match se[i]? with
      | some (some (.int k, _)) => SR.of (fe (view m 0 se)) se fun d => match d with
        | .int j => .next (se.set i (some (.int (if op = .Add then k + j else k - j), false)))
        | _ => .no
      | _ => .no) := by
  intro X W C H0 F0 hs hd σ H se N ⟨F, s⟩ h
  refine wS_of (ps_aug (i := i) C.nd (by rw [C.N]; exact hN) (by rw [C.sc]; exact isLoc_ok hx) pe_w (ip_of hop) (.inl (C.fn hB x))) ?_
  dsimp only at h
  split at h
  · rename_i k b q
    have hv : σ[i]? = some (some (.int k)) := by
      cases b with
      | false =>
        obtain ⟨v, h1, h2⟩ := s.ent i _ q
        cases h2
        exact h1
      | true =>
        obtain ⟨_, _, _, _, e, _⟩ := s.own i _ q
        cases e
    refine ⟨_, hv, ?_⟩
    refine he X W C σ H _ _ _ (s.env (m := m)) (of_wants s h fun d v H1 _ e1 r1 h1 => ?_)
    cases r1 with
    | int j => exact ⟨k, j, rfl, rfl, h1 _ H1 ⟨F, (s.same e1).set (.int _) i⟩⟩
    | _ => exact h1.elim
  · exact h.elim
end
end Pu
namespace Pu
open PySem PySem.Spec PyProof.Rows L2

/-! ### targets -/
def PurG (g : G) (tg : Expr) (ft : D → SEn → Option SEn) : Prop := ∀ X W, Cok g X W → ∀ H0 F0 hs hd σ H se F v d (Q : L2.St → Hp → Prop), SOf g H0 F0 hs hd σ H se F → Rp g.D.K H F v d →
  (match ft d se with
   | some se' => ∀ σ', SOf g H0 F0 hs hd σ' H se' F → Q σ' H
   | none => False) → wG X tg v σ H Q
@[irreducible] def wGs (X : Cx) (ts : List Expr) : TGs := fun vs σ H Q => ∀ (pins : List (Addr × Obj)) (s : Shared) (us : List Value), Inv X pins σ H s → Vals vs us →
  wpAny (model X.prog X.w) X.A (assignInOrder ((assignEach ts X.env).map (·.2)) us) (fun _ s' => ∃ σ' H', Inv X pins σ' H' s' ∧ Q σ' H') X.xe s
theorem pgs_w {X : Cx} {ts : List Expr} : PGs X ts (wGs X ts) := ⟨fun pins s _ _ _ us _ I r h => by unfold wGs at h; exact h pins s us I r⟩
theorem wGs_of {X : Cx} {ts : List Expr} {t : TGs} (h : PGs X ts t) {vs : List V} {σ : L2.St} {H : Hp} {Q : L2.St → Hp → Prop} (q : t vs σ H Q) : wGs X ts vs σ H Q := by unfold wGs; exact fun pins s us I r => h.run pins s σ H vs us Q I r q
def PurGs (g : G) (ts : List Expr) (ft : List D → SEn → Option SEn) : Prop := ∀ X W, Cok g X W → ∀ H0 F0 hs hd σ H se F vs ds (Q : L2.St → Hp → Prop), SOf g H0 F0 hs hd σ H se F → RpA g.D.K H F vs ds →
  (match ft ds se with
   | some se' => ∀ σ', SOf g H0 F0 hs hd σ' H se' F → Q σ' H
   | none => False) → wGs X ts vs σ H Q
section
variable {g : G} {pos p p2 : Pos} {a b c e : Expr} {es : List Expr} {fa fb fe : En → R D} {fs : En → R (List D)} {ft : En → R Bool} {tg iter : Expr}
theorem pug_name (i : Nat) {x : Str} (hN : g.N[i]? = some x := by rfl) (hx : isLoc g.sc x = true := by rfl) (hB : g.B = true := by rfl) : PurG g (.Name x pos) (fun d se => some (se.set i (some (d, false)))) := by
  intro X W C H0 F0 hs hd σ H se F v d Q s r h
  exact wG_of (pg_name (i := i) C.nd (by rw [C.N]; exact hN) (by rw [C.sc]; exact isLoc_ok hx) (.inl (C.fn hB x))) (h _ (s.set r i))
theorem pugs_nil : PurGs g [] (fun ds se => match ds with | [] => some se | _ => none) := by
  intro X W C H0 F0 hs hd σ H se F vs ds Q s r h
  refine wGs_of pgs_nil ?_
  cases r with
  | nil => exact ⟨rfl, h _ s⟩
  | cons _ _ => exact h.elim
theorem pugs_cons {t : Expr} {ts : List Expr} {f1 : D → SEn → Option SEn} {f2 : List D → SEn → Option SEn} (h1 : PurG g t f1) (h2 : PurGs g ts f2) (hst : ∀ env, (assignEach (t :: ts) env).map (·.2) = assign t env :: (assignEach ts env).map (·.2) := by intro _; rfl) :
    PurGs g (t :: ts) (fun ds se => match ds with | d :: ds => (f1 d se).bind fun se' => f2 ds se' | [] => none) := by
  intro X W C H0 F0 hs hd σ H se F vs ds Q s r h
  refine wGs_of (pgs_cons pg_w pgs_w (hst _)) ?_
  cases r with
  | nil => exact h.elim
  | cons r1 r2 =>
    refine ⟨_, _, rfl, h1 X W C H0 F0 hs hd σ H se F _ _ _ s r1 ?_⟩
    cases q : f1 _ se with
    | none => simp [q] at h
    | some se' =>
      simp only [q, Option.bind_some] at h
      exact fun σ' s' => h2 X W C H0 F0 hs hd σ' H se' F _ _ _ s' r2 h
theorem pug_tup {k n : Nat} {f : List D → SEn → Option SEn} (hf : PurGs g es f) (hc : g.calm = true := by rfl) (hn : ∀ env, (assignEach es env).length = n := by intro _; rfl) (hst : ∀ env, (assignEach es env).findIdx? (·.1) = none := by intro _; rfl) :
    PurG g (.Tuple es k pos) (fun d se => match d with | .tuple ds => if ds.length = n then f ds se else none | _ => none) := by
  intro X W C H0 F0 hs hd σ H se F v d Q s r h
  refine wG_of (pg_tup (by rw [C.calm]; exact hc) pgs_w (hn _) (hst _)) ?_
  cases r with
  | tup hl hA =>
    by_cases z : ‹List D›.length = n
    · simp only [z, if_true] at h
      exact ⟨_, _, rfl, by rw [C.K]; exact hl, by rw [hA.length]; exact z, hf X W C H0 F0 hs hd σ H se F _ _ _ s hA h⟩
    · simp only [z, if_false] at h
  | _ => exact h.elim
@[simp] def SR.opt (o : Option SEn) : SR := match o with
  | some se => .next se
  | none => .no
def storeG (ft : D → SEn → Option SEn) (m : List Nat) (d : D) (se : SEn) : Option SEn := if lf d then ft d se else ft d (demote m 0 se)
theorem pus_asg (m : List Nat) {ft : D → SEn → Option SEn} (he : Pur g e fe) (hg : PurG g tg ft) (hsw : ∀ env : Env, env.scope = g.sc → swapsWithSole [tg] e pos.line env = pure false := by intro _ _; rfl) (hw : ∀ env : Env, env.scope = g.sc → swappedStores [tg] e env = pure none := by intro _ _; rfl)
    (h1 : ∀ env, (assignEach [tg] env).map (·.2) = [assign tg env] := by intro _; rfl) : PurS g (.Assign [tg] e pos) (fun se => SR.of (fe (view m 0 se)) se fun d => SR.opt (storeG ft m d se)) := by
  intro X W C H0 F0 hs hd σ H se N ⟨F, s⟩ h
  refine wS_of (ps_asg pe_w pg_w (hsw _ C.sc) (hw _ C.sc) (h1 _)) ?_
  refine he X W C σ H _ _ _ (s.env (m := m)) (of_wants s h fun d v H1 _ e1 r1 h2 => ?_)
  unfold storeG at h2
  split at h2
  · rename_i z
    refine hg X W C H0 F0 hs hd σ H1 se F v d _ (s.same e1) (Rp.free (fun _ _ h => h) z r1) ?_
    cases q : ft d se with
    | none => rw [q] at h2; exact h2
    | some se' => rw [q] at h2; exact fun σ' s' => h2 σ' H1 ⟨F, s'⟩
  · refine hg X W C H0 F0 hs hd σ H1 _ _ v d _ (s.give (m := m) e1) r1.tight ?_
    cases q : ft d (demote m 0 se) with
    | none => rw [q] at h2; exact h2
    | some se' => rw [q] at h2; exact fun σ' s' => h2 σ' H1 ⟨_, s'⟩

/-! ### changes of a list of the frame's own -/
/-- xs.append(e) -/
theorem pus_append (i : Nat) (m : List Nat) {x : Str} {apos cpos px : Pos} (he : Pur g e fe) (hN : g.N[i]? = some x := by rfl) (hv : vis g.sc x = true := by rfl) (hd1 : (x == ("__debug__" : Str)) = false := by decide) (hd2 : (x == ("__classdict__" : Str)) = false := by decide)
    (hsw : ∀ env, swapsWith (.Call (.Attribute (.Name x px) "append" apos) [e] [] cpos) none pos.line env = pure false := by intro _; rfl)
    (hbase : ∀ env, attributeBase (.Name x px) "append" env (eval (.Name x px) env) = eval (.Name x px) env := by intro _; rfl)
    (hfew : ∀ env, ((backTo cpos (starEach [e] env)).all (fun x => !x.1) && (backToKw cpos (keywordEach [] env)).all (fun x => x.1.isSome)
      && decide ([e].length + ([] : List Keyword).length + (if ([] : List Keyword).isEmpty then 0 else 1) < 30)) = true := by intro _; rfl)
    (hline : (apos.endLine == cpos.line) = true := by rfl) (hst : ∀ env, starEach [e] env = (false, eval e env) :: starEach [] env := by intro _; exact starEach_of rfl) :
    PurS g (.Expr (.Call (.Attribute (.Name x px) "append" apos) [e] [] cpos) pos) (fun se => match se[i]? with
      | some (some (.list ds, true)) => SR.of (fe (view m 0 se)) se fun d => if lf d && szOk (ds.length + 1) then .next (se.set i (some (.list (ds ++ [d]), true))) else .no
      | _ => .no) := by
  intro X W C H0 F0 hs hd σ H se N ⟨F, s⟩ h
  refine wS_of (ps_expr (pe_bm PySem.F.plainAttrs_list PySem.F.slot_list_append PySem.F.type_list_append mt_append (pe_var (i := i) (by rw [C.N]; exact hN) (by rw [C.sc]; exact vis_ok hv) hd1 hd2) (pa_cons pe_w pa_nil (hst _)) (hbase _) (hfew _) hline (hst _) rfl) (hsw _)) ?_
  dsimp only at h
  split at h
  · rename_i ds q
    obtain ⟨pa, vs, ds', e1, ed, e3, e4, e5, e6, e7⟩ := s.own i _ q
    cases ed
    refine ⟨_, e1, .inl ⟨rfl, _, .inl (.inl e3)⟩, ?_⟩
    refine he X W C σ H _ _ _ (s.env (m := m)) (of_wants s h fun d v H1 _ k1 r1 h2 => ?_)
    by_cases z : (lf d && szOk (ds.length + 1)) = true
    · rw [if_pos z] at h2
      rw [Bool.and_eq_true] at z
      have hz : ds.length + 1 ≤ sizeLine := of_decide_eq_true z.2
      refine ⟨pa, vs, v, rfl, rfl, k1 _ _ e3, by rw [e6.length]; omega, h2 σ _ ⟨F, (s.same k1).upd q e1 ((e6.mono k1 fun _ z => z).snoc (Rp.free (fun _ _ h => h) z.1 r1)) ?_⟩⟩
      have : ∀ (l : List D), lfA l = true → lfA (l ++ [d]) = true := by
        intro l
        induction l with
        | nil => intro _; simp [lfA, z.1]
        | cons a l ih => intro h; simp [lfA] at h ⊢; exact ⟨h.1, ih h.2⟩
      exact this ds e7
    · rw [if_neg z] at h2
      exact h2.elim
  · exact h.elim
theorem lfA_dropLast : ∀ {ds : List D}, lfA ds = true → lfA ds.dropLast = true
  | [], _ => rfl
  | [d], _ => rfl
  | d :: e :: ds, h => by
    simp [lfA] at h
    have := lfA_dropLast (ds := e :: ds) (by simp [lfA, h.2])
    show (lf d && lfA (e :: ds).dropLast) = true
    rw [h.1, this]
    rfl
/-- xs.pop() -/
theorem pus_pop (i : Nat) {x : Str} {apos cpos px : Pos} (hN : g.N[i]? = some x := by rfl) (hv : vis g.sc x = true := by rfl) (hd1 : (x == ("__debug__" : Str)) = false := by decide) (hd2 : (x == ("__classdict__" : Str)) = false := by decide)
    (hsw : ∀ env, swapsWith (.Call (.Attribute (.Name x px) "pop" apos) [] [] cpos) none pos.line env = pure false := by intro _; rfl)
    (hbase : ∀ env, attributeBase (.Name x px) "pop" env (eval (.Name x px) env) = eval (.Name x px) env := by intro _; rfl)
    (hline : (apos.endLine == cpos.line) = true := by rfl) :
    PurS g (.Expr (.Call (.Attribute (.Name x px) "pop" apos) [] [] cpos) pos) (fun se => match se[i]? with
      | some (some (.list ds, true)) => if ds.isEmpty then .no else .next (se.set i (some (.list ds.dropLast, true)))
      | _ => .no) := by
  intro X W C H0 F0 hs hd σ H se N ⟨F, s⟩ h
  refine wS_of (ps_expr (pe_bm0 PySem.F.plainAttrs_list PySem.F.slot_list_pop PySem.F.type_list_pop mt_pop (pe_var (i := i) (by rw [C.N]; exact hN) (by rw [C.sc]; exact vis_ok hv) hd1 hd2) (hbase _) hline) (hsw _)) ?_
  dsimp only at h
  split at h
  · rename_i ds q
    obtain ⟨pa, vs, ds', e1, ed, e3, e4, e5, e6, e7⟩ := s.own i _ q
    cases ed
    split at h
    · exact h.elim
    · rename_i z
      have hne : 0 < ds.length := by
        cases ds with
        | nil => simp at z
        | cons _ _ => simp
      have hl : vs.length - 1 < vs.length := by rw [e6.length]; omega
      exact ⟨_, e1, .inl ⟨rfl, _, .inl (.inl e3)⟩, pa, vs, vs[vs.length - 1], rfl, rfl, e3, List.getElem?_eq_getElem hl, h σ _ ⟨F, s.upd q e1 e6.dropLast (lfA_dropLast e7)⟩⟩
  · exact h.elim
/-- a place of a list, for a store -/
theorem get_listS {X : Cx} : PGet X (fun x y H Q => ∃ p xs i v, x = .ref p ∧ y = .int i ∧ SqL X.K H p xs ∧ atI xs i = some v ∧ Q v H) := by
  intro pins s σ H x y v u Q I rx ry h
  obtain ⟨p, xs, i, w, rfl, rfl, hq, ha, q⟩ := h
  cases rx
  obtain ⟨t, rfl⟩ := ry
  obtain ⟨j, hj, hx, hlt, h1, h2⟩ := atI_get ha
  obtain ⟨its, rv, pl, hz⟩ := I.list hq
  obtain ⟨wu, hwu, rw⟩ := rv.get hx
  have hlen := rv.length
  have hn := line63
  have fin : EP X pins σ Q wu s := ⟨w, H, I, rw, q⟩
  by_cases h0 : 0 ≤ i
  · have hj' : i.toNat = j := by
      rw [seqIndex_of h0 h2] at hj
      exact Option.some.inj hj
    exact wpAny_getItem_list pl.isList h0 (by omega) (by rw [hj']; simpa using hwu) fin
  · have hj' : (i + (its.toArray.size : Int)).toNat = j := by
      rw [seqIndex_neg (by omega) h1] at hj
      rw [List.size_toArray, ← hlen]
      exact Option.some.inj hj
    exact wpAny_getItem_list_neg pl.isList (by omega) (by rw [List.size_toArray] <;> omega) (by omega) (by rw [hj']; simpa using hwu) fin
theorem lfA_set {d : D} (hd : lf d = true) : ∀ {ds : List D} (i : Nat), lfA ds = true → lfA (ds.set i d) = true
  | [], _, _ => rfl
  | a :: ds, 0, h => by
    simp [lfA] at h ⊢
    exact ⟨hd, h.2⟩
  | a :: ds, i + 1, h => by
    simp [lfA] at h ⊢
    exact ⟨h.1, lfA_set hd i h.2⟩
theorem atI_ix {α : Type} {xs : List α} {k : Int} {v : α} (h : atI xs k = some v) : ∃ j, ixN xs.length k = some j ∧ xs[j]? = some v := by
  unfold atI at h
  cases q : ixN xs.length k with
  | none => rw [q] at h; cases h
  | some j => rw [q] at h; exact ⟨j, rfl, by simpa using h⟩
/-- xs[k] = e -/
theorem pus_sub (i : Nat) (m : List Nat) {x : Str} {px tpos : Pos} {ei : Expr} {fi : En → R D} (he : Pur g e fe) (hi : Pur g ei fi) (hN : g.N[i]? = some x := by rfl) (hv : vis g.sc x = true := by rfl) (hd1 : (x == ("__debug__" : Str)) = false := by decide) (hd2 : (x == ("__classdict__" : Str)) = false := by decide)
    (hsw : ∀ env : Env, env.scope = g.sc → swapsWithSole [.Subscript (.Name x px) ei tpos] e pos.line env = pure false := by intro _ _; rfl) (hw : ∀ env : Env, env.scope = g.sc → swappedStores [.Subscript (.Name x px) ei tpos] e env = pure none := by intro _ _; rfl)
    (h1 : ∀ env, (assignEach [.Subscript (.Name x px) ei tpos] env).map (·.2) = [assign (.Subscript (.Name x px) ei tpos) env] := by intro _; rfl)
    (ha : ∀ env v, assign (.Subscript (.Name x px) ei tpos) env v = (do
      let ov ← holding [v] (eval (.Name x px) env)
      let iv ← holding [v, ov] (eval ei env)
      standAt tpos
      holding [v, ov, iv] (setItem ov iv v)
      release [v, ov, iv] []) := by intro _ _; rfl) :
    PurS g (.Assign [.Subscript (.Name x px) ei tpos] e pos) (fun se => match se[i]? with
      | some (some (.list ds, true)) => SR.of ((fe (view m 0 se)).bind fun d => (fi (view m 0 se)).bind fun k => .ok (d, k)) se fun dk => match dk.2 with
        | .int k => match ixN ds.length k with
          | some j => if lf dk.1 then .next (se.set i (some (.list (ds.set j dk.1), true))) else .no
          | none => .no
        | _ => .no
      | _ => .no) := by
  intro X W C H0 F0 hs hd σ H se N ⟨F, s⟩ h
  refine wS_of (ps_asg pe_w (pg_sub (pe_var (i := i) (by rw [C.N]; exact hN) (by rw [C.sc]; exact vis_ok hv) hd1 hd2) pe_w set_list (ha _)) (hsw _ C.sc) (hw _ C.sc) (h1 _)) ?_
  dsimp only at h
  split at h
  · rename_i ds q
    obtain ⟨pa, vs, ds', e1, ed, e3, e4, e5, e6, e7⟩ := s.own i _ q
    cases ed
    have E := s.env (m := m)
    have hW : Wants g W σ H ((fe (view m 0 se)).bind fun d => (fi (view m 0 se)).bind fun k => .ok (d, k)) (fun dk (vv : V × V) H1 => Rp g.D.K H1 (Fx (Fo F m σ se) H) vv.1 dk.1 ∧ Rp g.D.K H1 (Fx (Fo F m σ se) H) vv.2 dk.2) (fun vv H1 => ∃ p xs k j, V.ref pa = .ref p ∧ vv.2 = .int k ∧ H1 p = some (.lst xs) ∧ ixN xs.length k = some j ∧ N.nx σ (L2.upd H1 p (.lst (xs.set j vv.1)))) := of_wants s h fun dk vv H1 _ k1 r1 h2 => by
      obtain ⟨d, k⟩ := dk
      obtain ⟨v, u⟩ := vv
      obtain ⟨r1, r2⟩ := r1
      cases r2 with
      | int k =>
        dsimp only at h2
        cases z : ixN ds.length k with
        | none => rw [z] at h2; exact h2.elim
        | some j =>
          rw [z] at h2
          dsimp only at h2
          by_cases zl : lf d = true
          · rw [if_pos zl] at h2
            refine ⟨pa, vs, k, j, rfl, rfl, k1 _ _ e3, by rw [e6.length]; exact z, h2 σ _ ⟨F, (s.same k1).upd q e1 (RpA.set j (e6.mono k1 fun _ z => z) (Rp.free (fun _ _ h => h) zl r1)) (lfA_set zl j e7)⟩⟩
          · rw [if_neg zl] at h2; exact h2.elim
      | _ => exact h2.elim
    refine he X W C σ H _ _ _ E (hW.bind fun d v H1 _ k1 r1 h2 => ?_)
    refine ⟨_, e1, ?_⟩
    refine hi X W C σ H1 _ _ _ (E.mono k1 fun _ z => z) (h2.bind fun k u H2 _ k2 r2 h3 => ?_)
    exact h3 (v, u) H2 (Same.refl H2) ⟨r1.mono k2 fun _ z => z, r2.mono (Same.refl _) fun a z => Fx.back k1 a z⟩
  · exact h.elim
/-- xs[k] += e, xs[k] -= e: ints -/
theorem pus_subaug (i : Nat) (m : List Nat) {x : Str} {px tpos : Pos} {op : Operator} {ei : Expr} {fi : En → R D} (hi : Pur g ei fi) (he : Pur g e fe) (hop : op = .Add ∨ op = .Sub := by first | exact .inl rfl | exact .inr rfl) (hN : g.N[i]? = some x := by rfl) (hv : vis g.sc x = true := by rfl) (hd1 : (x == ("__debug__" : Str)) = false := by decide) (hd2 : (x == ("__classdict__" : Str)) = false := by decide)
    (ha : ∀ ov iv new, augStore ei ov iv new = (do holding [new, ov, iv] (setItem ov iv new); release [new, ov, iv] []; pure .next) := by intros; rfl) :
    PurS g (.AugAssign (.Subscript (.Name x px) ei tpos) op e pos) (fun se => match se[i]? with
      | some (some (.list ds, true)) => SR.of (fi (view m 0 se)) se fun k => match k with
        | .int k => match atI ds k, ixN ds.length k with
          | some (.int o), some j => SR.of (fe (view m 0 se)) se fun d => match d with
            | .int d => .next (se.set i (some (.list (ds.set j (.int (if op = .Add then o + d else o - d))), true)))
            | _ => .no
          | _, _ => .no
        | _ => .no
      | _ => .no) := by
  intro X W C H0 F0 hs hd σ H se N ⟨F, s⟩ h
  refine wS_of (ps_augS (pe_var (i := i) (by rw [C.N]; exact hN) (by rw [C.sc]; exact vis_ok hv) hd1 hd2) pe_w get_listS pe_w (ip_of hop) set_list ha) ?_
  dsimp only at h
  split at h
  · rename_i ds q
    obtain ⟨pa, vs, ds', e1, ed, e3, e4, e5, e6, e7⟩ := s.own i _ q
    cases ed
    have E := s.env (m := m)
    refine ⟨_, e1, ?_⟩
    refine hi X W C σ H _ _ _ E (of_wants s h fun k u H1 _ k1 r1 h2 => ?_)
    have s1 := s.same k1
    cases r1 with
    | int k =>
      dsimp only at h2
      split at h2
      · rename_i o j za zj
        obtain ⟨w, hw1, hw2⟩ := (e6.mono k1 fun _ z => z).atI za
        cases hw2
        refine ⟨pa, vs, k, _, rfl, rfl, .inl (.inl (k1 _ _ e3)), hw1, ?_⟩
        refine he X W C σ H1 _ _ _ (s1.env (m := m)) (of_wants s1 h2 fun d v H2 _ k2 r2 h3 => ?_)
        cases r2 with
        | int d => exact ⟨o, d, rfl, rfl, pa, vs, k, j, rfl, rfl, k2 _ _ (k1 _ _ e3), by rw [e6.length]; exact zj, h3 σ _ ⟨F, (s1.same k2).upd q e1 (RpA.set j (e6.mono (k1.trans k2) fun _ z => z) (.int _)) (lfA_set rfl j e7)⟩⟩
        | _ => exact h3.elim
      · exact h2.elim
    | _ => exact h2.elim
  · exact h.elim
end

/-! ### what is walked -/
/-- J walks ds while what is held stands -/
def Wk (K : PySem.W.Frag) (J : It) (ds : List D) (hs : List V) (hd : List D) : Prop := ∀ F H, RpA K H F hs hd → (∀ i, i < ds.length → J.go i H) ∧ J.stop ds.length H ∧
  ∀ i x H', i < ds.length → J.yld i H x H' → Same H H' ∧ ∃ d, ds[i]? = some d ∧ Rp K H' (Fx F H) x d
def relI (K : PySem.W.Frag) (F : Fp) (H : Hp) : List D → It × List V × List D → Hp → Prop := fun ds jj H' => RpA K H' (Fx F H) jj.2.1 jj.2.2 ∧ Wk K jj.1 ds jj.2.1 jj.2.2
def PurI (g : G) (tg iter : Expr) (f : En → R (List D)) : Prop := ∀ X W, Cok g X W → ∀ σ H F env (Q : It → Hp → Prop), EnvOk g.D.K F σ H env → Wants g W σ H (f env) (relI g.D.K F H) (fun jj H' => Q jj.1 H') → wI X tg iter σ H Q
section
variable {g : G} {pos p p2 : Pos} {a b c e : Expr} {es : List Expr} {fa fb fe : En → R D} {fs : En → R (List D)} {ft : En → R Bool} {tg iter : Expr}
theorem RpA.one {K : PySem.W.Frag} {H : Hp} {F : Fp} {vs : List V} {d : D} (h : RpA K H F vs [d]) : ∃ v, vs = [v] ∧ Rp K H F v d := by
  cases h with
  | cons h1 h2 => cases h2; exact ⟨_, rfl, h1⟩
theorem wk_list {K : PySem.W.Frag} {a : Addr} {ds : List D} : Wk K (Itl K a) ds [.ref a] [.list ds] := by
  intro F H r
  cases r with
  | cons r1 _ =>
    cases r1 with
    | lst hl hA =>
      rename_i xs
      have w := walk_list (K := K) (a := a) (xs := xs)
      rw [hA.length] at w
      refine ⟨fun i hi => w.goes i H hi hl.sq, w.stops H hl.sq, fun i x H' hi y => ?_⟩
      obtain ⟨rfl, e⟩ := w.yields i H x H' hi hl.sq y
      have e2 : ds[i]? = some ds[i] := List.getElem?_eq_getElem hi
      obtain ⟨v, h1, h2⟩ := hA.get e2
      rw [e] at h1
      cases h1
      exact ⟨Same.refl _, _, e2, h2.mono (Same.refl _) Fx.le⟩
theorem wk_tup {K : PySem.W.Frag} {a : Addr} {ds : List D} : Wk K (Itt K a) ds [.ref a] [.tuple ds] := by
  intro F H r
  cases r with
  | cons r1 _ =>
    cases r1 with
    | tup hl hA =>
      rename_i xs
      have w := walk_tup (K := K) (a := a) (xs := xs)
      rw [hA.length] at w
      refine ⟨fun i hi => w.goes i H hi hl, w.stops H hl, fun i x H' hi y => ?_⟩
      obtain ⟨rfl, e⟩ := w.yields i H x H' hi hl y
      have e2 : ds[i]? = some ds[i] := List.getElem?_eq_getElem hi
      obtain ⟨v, h1, h2⟩ := hA.get e2
      rw [e] at h1
      cases h1
      exact ⟨Same.refl _, _, e2, h2.mono (Same.refl _) Fx.le⟩
/-- two rules for what is walked -/
def iSeq (K : PySem.W.Frag) (tl : TE) : TI := fun σ H R => tl σ H fun x H1 => ∃ a, x = .ref a ∧ (((∃ xs, SqL K H1 a xs) ∧ R (Itl K a) H1) ∨ ((∃ xs, SqT K H1 a xs) ∧ R (Itt K a) H1))
theorem pi_seq {X : Cx} {l : Expr} {tl : TE} (hl : PE X l tl) : PI X tg l (iSeq X.K tl) := by
  refine ⟨fun pins s σ H R I h => ?_⟩
  refine thn (hl.run pins s σ H _ I h) fun v s1 ⟨x, H1, I1, r1, q1⟩ => ?_
  obtain ⟨a, e, q⟩ := q1
  subst e
  cases r1
  rcases q with ⟨⟨xs, hq⟩, q⟩ | ⟨⟨xs, hq⟩, q⟩
  · obtain ⟨its, rv, p, hz⟩ := I1.list hq
    refine wpAny_pyIter_list p.isList ?_
    refine ⟨s1.heap.objs.size, [s1.heap.objs.size], _, _, H1, rfl, I1.kept (t' := s1.toks) fun b o e => Heap.get?_push_of_some _ e, turn_list a _, ⟨_, Heap.get?_push_size _ rfl, rfl, rfl⟩, fun b hb => ?_, q⟩
    have e : b = s1.heap.objs.size := by simpa using hb
    subst e
    exact I1.fpOk (Nat.le_refl _) (I1.hok.fresh (Nat.le_refl _))
  · obtain ⟨its, rv, p, hz⟩ := I1.tuple hq
    refine wpAny_pyIter_tuple (show s1.heap.IsTuple a its.toArray from p) ?_
    refine ⟨s1.heap.objs.size, [s1.heap.objs.size], _, _, H1, rfl, I1.kept (t' := s1.toks) fun b o e => Heap.get?_push_of_some _ e, turn_tuple a _, ⟨_, Heap.get?_push_size _ rfl, rfl, rfl⟩, fun b hb => ?_, q⟩
    have e : b = s1.heap.objs.size := by simpa using hb
    subst e
    exact I1.fpOk (Nat.le_refl _) (I1.hok.fresh (Nat.le_refl _))
/-- for x in xs, xs a list or a tuple -/
theorem puri_seq (ha : Pur g a fa) : PurI g tg a (fun env => (fa env).bind unstar) := by
  intro X W C σ H F env Q E h
  refine wI_of (pi_seq pe_w) ?_
  refine ha X W C σ H F env _ E (h.bind fun d v H1 _ e1 r1 h1 => ?_)
  cases r1 with
  | lst hl hA => exact ⟨_, rfl, .inl ⟨⟨_, by rw [C.K]; exact hl.sq⟩, by rw [C.K]; exact h1 (Itl g.D.K _, [.ref _], [.list _]) H1 (Same.refl H1) ⟨.cons (.lst hl hA) .nil, wk_list⟩⟩⟩
  | tup hl hA => exact ⟨_, rfl, .inr ⟨⟨_, by rw [C.K]; exact hl⟩, by rw [C.K]; exact h1 (Itt g.D.K _, [.ref _], [.tuple _]) H1 (Same.refl H1) ⟨.cons (.tup hl hA) .nil, wk_tup⟩⟩⟩
  | _ => exact h1.elim
/-- lo, lo + 1, .. -/
def upFrom (lo : Int) (n : Nat) : List D := (List.range n).map fun i => .int (lo + (i : Nat))
theorem upFrom_len {lo : Int} {n : Nat} : (upFrom lo n).length = n := by simp [upFrom]
theorem wk_range {K : PySem.W.Frag} {lo : Int} {n : Nat} : Wk K (Itr lo n) (upFrom lo n) [] [] := by
  intro F H _
  have w := walk_range (lo := lo) (n := n)
  rw [upFrom_len]
  refine ⟨fun i hi => w.goes i H hi trivial, w.stops H trivial, fun i x H' hi y => ?_⟩
  obtain ⟨rfl, rfl⟩ := w.yields i H x H' hi trivial y
  exact ⟨Same.refl _, .int (lo + i), by simp [upFrom, hi], .int _⟩
def rngOk (i : Int) : Bool := decide (-(2 ^ 62) ≤ i) && decide (i < 2 ^ 62)
def range1F : List D → R (List D)
  | [.int j] => if rngOk j then .ok (upFrom 0 j.toNat) else .no
  | _ => .no
def range2F : List D → R (List D)
  | [.int i, .int j] => if rngOk i && rngOk j then .ok (upFrom i (j - i).toNat) else .no
  | _ => .no
theorem puri_range1 (hm : g.D.mg "range" = none) (ha : PurA g [a] fs) (hg : gl g.sc "range" = true := by rfl) (hst : ∀ env, starEach [a] env = [(false, eval a env)] := by intro _; rfl) : PurI g tg (.Call (.Name "range" p) [a] [] pos) (fun env => (fs env).bind range1F) := by
  intro X W C σ H F env Q E h
  refine wI_of (pi_range1 (gl_ok C hg) (by rw [C.mg]; exact hm) pa_w (hst _)) ?_
  refine ha X W C σ H F env _ E (h.bind fun ds vs H1 _ e1 r1 h1 => ?_)
  unfold range1F at h1
  split at h1
  · cases r1 with
    | cons r1 r2 =>
      cases r2
      cases r1
      split at h1
      · rename_i z
        simp only [rngOk, Bool.and_eq_true, decide_eq_true_eq] at z
        exact ⟨_, rfl, z.1, z.2, h1 (Itr 0 _, [], []) H1 (Same.refl H1) ⟨.nil, wk_range⟩⟩
      · exact h1.elim
  · exact h1.elim
theorem puri_range2 (hm : g.D.mg "range" = none) (ha : PurA g [a, b] fs) (hg : gl g.sc "range" = true := by rfl) (hst : ∀ env, starEach [a, b] env = [(false, eval a env), (false, eval b env)] := by intro _; rfl) (hst2 : ∀ env, starEach [b] env = [(false, eval b env)] := by intro _; rfl) : PurI g tg (.Call (.Name "range" p) [a, b] [] pos) (fun env => (fs env).bind range2F) := by
  intro X W C σ H F env Q E h
  refine wI_of (pi_range2 (gl_ok C hg) (by rw [C.mg]; exact hm) pa_w (hst _) (hst2 _)) ?_
  refine ha X W C σ H F env _ E (h.bind fun ds vs H1 _ e1 r1 h1 => ?_)
  unfold range2F at h1
  split at h1
  · cases r1 with
    | cons r1 r2 =>
      cases r2 with
      | cons r2 r3 =>
        cases r3; cases r1; cases r2
        split at h1
        · rename_i z
          simp only [rngOk, Bool.and_eq_true, decide_eq_true_eq] at z
          exact ⟨_, _, rfl, ⟨z.1.1, z.1.2, z.2.1, z.2.2⟩, h1 (Itr _ _, [], []) H1 (Same.refl H1) ⟨.nil, wk_range⟩⟩
        · exact h1.elim
  · exact h1.elim
end
end Pu
namespace Pu
open PySem PySem.Spec PyProof.Rows L2

section
variable {g : G} {W : WX} {X : Cx} {H0 : Hp} {F0 : Fp} {hs : List V} {hd : List D} {σ : L2.St} {H H1 : Hp} {se : SEn} {F : Fp} {m : List Nat} {N : Ends}
variable {pos p p2 : Pos} {a b c e : Expr} {es : List Expr} {fa fb fe : En → R D} {fs : En → R (List D)} {ft : En → R Bool} {tg iter : Expr}

theorem demote_nil : ∀ {k : Nat} {se : SEn}, demote [] k se = se
  | _, [] => rfl
  | k, none :: r => by simp [demote, demote_nil (se := r)]
  | k, some (d, false) :: r => by simp [demote, demote_nil (se := r)]
  | k, some (d, true) :: r => by simp [demote, demote_nil (se := r)]
theorem Fo_nil : ∀ a, Fo F [] σ se a ↔ F a := fun a => ⟨fun h => h.elim id fun ⟨_, _, _, c, _⟩ => by simp at c, .inl⟩
/-- new addresses join F -/
theorem SOf.grow (s : SOf g H0 F0 hs hd σ H se F) (e : Same H H1) : SOf g H0 F0 hs hd σ H1 se (fun a => Fx F H a ∧ H1 a ≠ none) := by
  have q := s.give (m := []) e
  rw [demote_nil] at q
  have eF : (fun a => Fx (Fo F [] σ se) H a ∧ H1 a ≠ none) = fun a => Fx F H a ∧ H1 a ≠ none := by
    funext a
    apply propext
    constructor
    · rintro ⟨h, k⟩; exact ⟨h.elim (fun z => .inl (Fo_nil a |>.mp z)) .inr, k⟩
    · rintro ⟨h, k⟩; exact ⟨h.elim (fun z => .inl (Fo_nil a |>.mpr z)) .inr, k⟩
  rw [eF] at q
  exact q
theorem SOf.hide (s : SOf g H0 F0 hs hd σ H se F) {hs' : List V} {hd' : List D} (r : RpA g.D.K H F hs' hd') : SOf g H0 F0 (hs' ++ hs) (hd' ++ hd) σ H se F := { s with hid := r.append s.hid }
theorem RpA.split {K : PySem.W.Frag} {H : Hp} {F : Fp} : ∀ {hs' hs : List V} {hd' hd : List D}, hs'.length = hd'.length → RpA K H F (hs' ++ hs) (hd' ++ hd) → RpA K H F hs' hd' ∧ RpA K H F hs hd
  | [], _, [], _, _, r => ⟨.nil, r⟩
  | [], _, _ :: _, _, l, _ => by simp at l
  | _ :: _, _, [], _, l, _ => by simp at l
  | v :: hs', hs, d :: hd', hd, l, r => by
    cases r with
    | cons r1 r2 =>
      obtain ⟨h1, h2⟩ := RpA.split (hs' := hs') (hd' := hd') (by simpa using l) r2
      exact ⟨.cons r1 h1, h2⟩
theorem SOf.unhide {hs' : List V} {hd' : List D} (hl : hs'.length = hd'.length) (s : SOf g H0 F0 (hs' ++ hs) (hd' ++ hd) σ H se F) : SOf g H0 F0 hs hd σ H se F := { s with hid := (RpA.split hl s.hid).2 }

/-! ### for -/
def forD (ft : D → SEn → Option SEn) (fb : SEn → SR) : List D → SEn → SR
  | [], se => .next se
  | d :: ds, se => match ft d se with
    | none => .no
    | some se1 => match fb se1 with
      | .next s => forD ft fb ds s
      | .cnt s => forD ft fb ds s
      | .brk s => .next s
      | r => r
theorem pus_for (m : List Nat) {body : List Stmt} {fi : En → R (List D)} {ft : D → SEn → Option SEn} {fb : SEn → SR} (hi : PurI g tg iter fi) (hg : PurG g tg ft) (hb : PurB g body fb) (hc : g.calm = true := by rfl)
    (hfs : ∀ env x, foldedSetIterable iter env x = pure x := by intro _ _; rfl) : PurS g (.For tg iter body [] pos) (fun se => SR.of (fi (view m 0 se)) se fun ds => forD ft fb ds (demote m 0 se)) := by
  intro X W C H0 F0 hs hd σ H se N ⟨F, s⟩ h
  refine wS_of (ps_for C.passes (by rw [C.calm]; exact hc) pi_w pg_w pss_w (hfs _)) ?_
  refine hi X W C σ H _ _ _ (s.env (m := m)) (of_wants s h fun ds jj H1 _ e1 r1 h2 => ?_)
  obtain ⟨J, hs', hd'⟩ := jj
  obtain ⟨rs, wk⟩ := r1
  have hl := rs.length
  have s0 := (s.give (m := m) e1).hide rs.tight
  refine ⟨fun i n σ H => i + n = ds.length ∧ ∃ se, SOk g H0 F0 (hs' ++ hs) (hd' ++ hd) σ H se ∧ SEnds g W H0 F0 hs hd N (forD ft fb (ds.drop i) se), ⟨ds.length, by omega, _, ⟨_, s0⟩, by simpa using h2⟩, ?_⟩
  rintro i n σ3 H3 ⟨en, se3, ⟨F3, s3⟩, h3⟩
  obtain ⟨go, stop, yld⟩ := wk F3 H3 (RpA.split hl s3.hid).1
  by_cases hi : i < ds.length
  · refine .inr ⟨go i hi, fun σ' H' => ∃ se', SOk g H0 F0 (hs' ++ hs) (hd' ++ hd) σ' H' se' ∧ SEnds g W H0 F0 hs hd N (forD ft fb (ds.drop (i + 1)) se'), fun σ' H' q => ⟨n - 1, by omega, by omega, q⟩, fun x H4 y => ?_⟩
    obtain ⟨e4, d, hd4, r4⟩ := yld i x H4 hi y
    have edrop : ds.drop i = d :: ds.drop (i + 1) := by
      rw [List.drop_eq_getElem_cons hi]
      rw [List.getElem?_eq_getElem hi] at hd4
      rw [Option.some.inj hd4]
    rw [edrop] at h3
    have s4 := s3.grow e4
    refine hg X W C H0 F0 _ _ σ3 H4 se3 _ x d _ s4 r4.tight ?_
    unfold forD at h3
    cases q : ft d se3 with
    | none => rw [q] at h3; exact h3
    | some se5 =>
      rw [q] at h3
      dsimp only at h3
      intro σ5 s5
      refine hb X W C H0 F0 _ _ σ5 H4 se5 _ ⟨_, s5⟩ ?_
      cases q2 : fb se5 with
      | next s => rw [q2] at h3; exact fun σ' H' k => ⟨s, k, h3⟩
      | cnt s => rw [q2] at h3; exact fun σ' H' k => ⟨s, k, h3⟩
      | brk s => rw [q2] at h3; exact fun σ' H' ⟨F', k⟩ => h3 σ' H' ⟨F', k.unhide hl⟩
      | ret d => rw [q2] at h3; exact h3
      | ex c s => rw [q2] at h3; exact fun cv σ' H' hm ⟨F', k⟩ => h3 cv σ' H' hm ⟨F', k.unhide hl⟩
      | no => rw [q2] at h3; exact h3
  · have ei : i = ds.length := by omega
    subst ei
    rw [List.drop_length] at h3
    exact .inl ⟨stop, h3 σ3 H3 ⟨F3, s3.unhide hl⟩⟩

/-! ### while -/
def whileN (ft : SEn → R Bool) (fb : SEn → SR) : Nat → SEn → SR
  | 0, _ => .no
  | n + 1, se => SR.of (ft se) se fun k => if k then (match fb se with
      | .next s => whileN ft fb n s
      | .cnt s => whileN ft fb n s
      | .brk s => .next s
      | r => r) else .next se
open Classical in
noncomputable def whileD (ft : SEn → R Bool) (fb : SEn → SR) (se : SEn) : SR := if h : ∃ n, whileN ft fb n se ≠ .no then whileN ft fb h.choose se else .no
theorem whileN_succ {ft : SEn → R Bool} {fb : SEn → SR} : ∀ (n : Nat) (se : SEn), whileN ft fb n se ≠ .no → whileN ft fb (n + 1) se = whileN ft fb n se
  | 0, se, h => absurd rfl h
  | n + 1, se, h => by
    unfold whileN at h ⊢
    cases q : ft se with
    | ok k =>
      rw [q] at h
      cases k with
      | false => rfl
      | true =>
        simp only [SR.of_ok, if_true] at h ⊢
        cases q2 : fb se with
        | next s => rw [q2] at h; exact whileN_succ n s h
        | cnt s => rw [q2] at h; exact whileN_succ n s h
        | brk s => rfl
        | ret d => rfl
        | ex c s => rfl
        | no => rfl
    | ex c => rfl
    | no => rfl
theorem whileN_le {ft : SEn → R Bool} {fb : SEn → SR} {n : Nat} {se : SEn} (h : whileN ft fb n se ≠ .no) : ∀ k, whileN ft fb (n + k) se = whileN ft fb n se
  | 0 => rfl
  | k + 1 => by
    have ih := whileN_le h k
    rw [← Nat.add_assoc, whileN_succ _ _ (by rw [ih]; exact h), ih]
/-- a while that comes to r in some turns comes to r -/
theorem whileD_of {ft : SEn → R Bool} {fb : SEn → SR} {n : Nat} {se : SEn} {r : SR} (h : whileN ft fb n se = r) (hr : r ≠ .no) : whileD ft fb se = r := by
  have hn : whileN ft fb n se ≠ .no := by rw [h]; exact hr
  have hex : ∃ n, whileN ft fb n se ≠ .no := ⟨n, hn⟩
  unfold whileD
  rw [dif_pos hex]
  have hc := hex.choose_spec
  rcases Nat.le_total n hex.choose with z | z
  · obtain ⟨k, e⟩ := Nat.exists_eq_add_of_le z
    rw [e, whileN_le hn k, h]
  · obtain ⟨k, e⟩ := Nat.exists_eq_add_of_le z
    have := whileN_le hc k
    rw [← e, h] at this
    exact this.symm
theorem whileD_no {ft : SEn → R Bool} {fb : SEn → SR} {se : SEn} (h : whileD ft fb se = .no) (n : Nat) : whileN ft fb n se = .no := by
  refine Classical.byContradiction fun q => ?_
  exact q ((whileD_of (n := n) (se := se) rfl q).symm.trans h)
theorem whileD_step {ft : SEn → R Bool} {fb : SEn → SR} {se : SEn} : whileD ft fb se = SR.of (ft se) se fun k => if k then (match fb se with
      | .next s => whileD ft fb s
      | .cnt s => whileD ft fb s
      | .brk s => .next s
      | r => r) else .next se := by
  have go : ∀ s, whileD ft fb s ≠ .no → ∃ n, whileN ft fb n s = whileD ft fb s := fun s h => by
    unfold whileD at h ⊢
    by_cases hex : ∃ n, whileN ft fb n s ≠ .no
    · rw [dif_pos hex] at h ⊢; exact ⟨_, rfl⟩
    · rw [dif_neg hex] at h; exact absurd rfl h
  cases q : ft se with
  | ok k =>
    cases k with
    | false => exact whileD_of (n := 1) (by unfold whileN; rw [q]; rfl) (by simp)
    | true =>
      simp only [SR.of_ok, if_true]
      cases q2 : fb se with
      | next s =>
        by_cases z : whileD ft fb s = .no
        · rw [show (match SR.next s with | .next s => whileD ft fb s | .cnt s => whileD ft fb s | .brk s => .next s | r => r) = whileD ft fb s from rfl, z]
          unfold whileD
          rw [dif_neg]
          rintro ⟨n, hn⟩
          cases n with
          | zero => exact hn rfl
          | succ n =>
            unfold whileN at hn
            rw [q] at hn
            simp only [SR.of_ok, if_true, q2] at hn
            exact hn (whileD_no z n)
        · obtain ⟨n, hn⟩ := go s z
          exact whileD_of (n := n + 1) (by unfold whileN; rw [q]; simp only [SR.of_ok, if_true, q2]; exact hn) z
      | cnt s =>
        by_cases z : whileD ft fb s = .no
        · rw [show (match SR.cnt s with | .next s => whileD ft fb s | .cnt s => whileD ft fb s | .brk s => .next s | r => r) = whileD ft fb s from rfl, z]
          unfold whileD
          rw [dif_neg]
          rintro ⟨n, hn⟩
          cases n with
          | zero => exact hn rfl
          | succ n =>
            unfold whileN at hn
            rw [q] at hn
            simp only [SR.of_ok, if_true, q2] at hn
            exact hn (whileD_no z n)
        · obtain ⟨n, hn⟩ := go s z
          exact whileD_of (n := n + 1) (by unfold whileN; rw [q]; simp only [SR.of_ok, if_true, q2]; exact hn) z
      | brk s => exact whileD_of (n := 1) (by unfold whileN; rw [q]; simp only [SR.of_ok, if_true, q2]) (by simp)
      | ret d => exact whileD_of (n := 1) (by unfold whileN; rw [q]; simp only [SR.of_ok, if_true, q2]) (by simp)
      | ex c s => exact whileD_of (n := 1) (by unfold whileN; rw [q]; simp only [SR.of_ok, if_true, q2]) (by simp)
      | no =>
        show whileD ft fb se = .no
        unfold whileD
        rw [dif_neg]
        rintro ⟨n, hn⟩
        cases n with
        | zero => exact hn rfl
        | succ n => unfold whileN at hn; rw [q] at hn; simp only [SR.of_ok, if_true, q2] at hn; exact hn rfl
  | ex c => exact whileD_of (n := 1) (by unfold whileN; rw [q]; rfl) (by simp)
  | no =>
    show whileD ft fb se = .no
    unfold whileD
    rw [dif_neg]
    rintro ⟨n, hn⟩
    cases n with
    | zero => exact hn rfl
    | succ n => unfold whileN at hn; rw [q] at hn; exact hn rfl
theorem pus_while (m : List Nat) {body : List Stmt} {fb : SEn → SR} (hc : PurT g c ft) (hb : PurB g body fb) : PurS g (.While c body [] pos) (fun se => whileD (fun se => ft (view m 0 se)) fb se) := by
  intro X W C H0 F0 hs hd σ H se N s h
  refine wS_of (ps_while C.passes pt_w pss_w) ?_
  have start : ∃ n, SEnds g W H0 F0 hs hd N (whileN (fun se => ft (view m 0 se)) fb n se) := by
    dsimp only at h
    unfold whileD at h
    by_cases hex : ∃ n, whileN (fun se => ft (view m 0 se)) fb n se ≠ .no
    · rw [dif_pos hex] at h; exact ⟨_, h⟩
    · rw [dif_neg hex] at h; exact h.elim
  obtain ⟨n0, h0⟩ := start
  refine ⟨fun n σ H => ∃ se, SOk g H0 F0 hs hd σ H se ∧ SEnds g W H0 F0 hs hd N (whileN (fun se => ft (view m 0 se)) fb n se), ⟨n0, se, s, h0⟩, ?_⟩
  rintro n σ3 H3 ⟨se3, ⟨F3, s3⟩, h3⟩
  cases n with
  | zero => exact h3.elim
  | succ n =>
    unfold whileN at h3
    refine hc X W C σ3 H3 _ _ _ (s3.env (m := m)) (of_wants s3 h3 fun k k' H4 _ e4 r4 h4 => ?_)
    cases r4
    cases k with
    | true =>
      rw [if_pos rfl] at h4 ⊢
      refine ⟨fun σ' H' => ∃ se', SOk g H0 F0 hs hd σ' H' se' ∧ SEnds g W H0 F0 hs hd N (whileN (fun se => ft (view m 0 se)) fb n se'), fun σ' H' q => ⟨n, Nat.lt_succ_self n, q⟩, ?_⟩
      refine hb X W C H0 F0 hs hd σ3 H4 se3 _ ⟨F3, s3.same e4⟩ ?_
      cases q2 : fb se3 with
      | next s => rw [q2] at h4; exact fun σ' H' k => ⟨s, k, h4⟩
      | cnt s => rw [q2] at h4; exact fun σ' H' k => ⟨s, k, h4⟩
      | brk s => rw [q2] at h4; exact h4
      | ret d => rw [q2] at h4; exact h4
      | ex c s => rw [q2] at h4; exact h4
      | no => rw [q2] at h4; exact h4
    | false =>
      rw [if_neg Bool.false_ne_true] at h4 ⊢
      exact h4 σ3 H4 ⟨F3, s3.same e4⟩
end

/-! ### raise, try -/
/-- an own class of errors without __init__, below ValueError -/
def ExcOk (D : Wd) (x : Str) : Prop := ∃ C : Addr, D.mg x = some (.ref C) ∧ PySem.W.excIn D.K C [.type "ValueError", .type "Exception", .type "BaseException", .type "object"] "ValueError.__new__" = true ∧ PySem.W.keepIn D.K (.ref C) = true ∧
  PySem.W.subIn D.K (.ref C) (.type "BaseException") = some true ∧ PySem.W.typeIn D.K (.ref C) = some (.type "type")
section
variable {g : G} {pos p p2 p3 : Pos}
theorem pus_raise {x msg : Str} {j : Nat} (hx : ExcOk g.D x) (hc : g.calm = true := by rfl) (hg : gl g.sc x = true := by rfl) (hdb : (x == ("__debug__" : Str)) = false := by decide) :
    PurS g (.Raise (some (.Call (.Name x p) [.Constant (.str msg) j p2] [] p3)) none pos) (fun se => .ex x se) := by
  intro X W C H0 F0 hs hd σ H se N s h
  obtain ⟨Ca, gC, xP, kP, bP, tP⟩ := hx
  refine wS_of (ps_raise (by rw [C.calm]; exact hc) C.takes (pmk_own PySem.F.excBase_ValueError (by rw [C.K]; exact xP) (by rw [C.mg]; exact gC) (by rw [C.K]; exact kP) (raises_own (by rw [C.K]; exact bP) (by rw [C.K]; exact tP)) (gl_ok C hg) hdb)) ?_
  exact h _ σ H gC s
end

/-! ### a def -/
def startE (n : Nat) (ds : List D) : SEn := ds.map (fun d => some (d, false)) ++ List.replicate (n - ds.length) none
def runD (n : Nat) (f : SEn → SR) (ds : List D) : R D := match f (startE n ds) with
  | .next _ => .ok .none
  | .ret d => .ok d
  | .ex c _ => .ex c
  | _ => .no
theorem startE_get {n i : Nat} {ds : List D} {d : D} {b : Bool} (h : (startE n ds)[i]? = some (some (d, b))) : b = false ∧ ds[i]? = some d := by
  unfold startE at h
  by_cases hi : i < ds.length
  · rw [List.getElem?_append_left (by simpa using hi), List.getElem?_map] at h
    cases q : ds[i]? with
    | none => rw [q] at h; cases h
    | some d' => rw [q] at h; cases h; exact ⟨rfl, rfl⟩
  · rw [List.getElem?_append_right (by simpa using hi), List.getElem?_replicate] at h
    split at h <;> cases h
theorem fn_okAt {D : Wd} {k n : Nat} {x : Str} {st : Stmt} {f : Addr} {fd : FuncData} {N ps : List Str} {fb : SEn → SR} (Fu : Fun D.K x x st f fd) (S : FnScope N ps (defScope st)) (hn : ps.length = n)
    (hbody : PurB ⟨D, N, defScope st, k, true, true⟩ (defBody st) fb) : FnOk D.P D.w D.K D.mg D.base (L2.CX D.P D.w) (k + 1) f fd ps (spF D n (runD N.length fb)) := by
  refine Fu.okX S (fun vs H Q E h => h.1.trans hn.symm) (fun cdv A outer s H vs Q E hr h => ⟨_, pss_w, ?_⟩)
  obtain ⟨hl, ds, F, r, q⟩ := h
  have hlv : vs.length ≤ N.length := by
    have := congrArg List.length S.pre
    rw [List.length_take] at this
    omega
  have C : Cok ⟨D, N, defScope st, k, true, true⟩ (cxOf (L2.CX D.P D.w) D.P D.w D.K D.mg D.base N x (defScope st) f cdv A outer s H E) (fun cls d _ H => E cls d H) :=
    ⟨rfl, rfl, rfl, rfl, rfl, rfl, rfl, S.nd, rfl, fun _ => hr, hr.units, takes_of rfl rfl rfl rfl, passes_of rfl, fun _ _ => rfl, fun _ => ⟨rfl, rfl⟩⟩
  have r' := r.tight
  refine hbody _ _ C H (fun a => F a ∧ H a ≠ none) [] [] (L2.start N vs) H (startE N.length ds) _ ⟨fun a => F a ∧ H a ≠ none, ⟨Same.refl H, fun a z => .inl z, fun a z => z.2, ?_, fun i d hi => ?_, fun i d hi => ?_, fun i j d e hi => ?_, .nil⟩⟩ ?_
  · unfold L2.start startE
    have := r.length
    simp only [List.length_append, List.length_map, List.length_replicate]
    omega
  · obtain ⟨_, hi⟩ := startE_get hi
    obtain ⟨v, h1, h2⟩ := r'.get hi
    refine ⟨v, ?_, h2⟩
    unfold L2.start
    have hlt : i < vs.length := (List.getElem?_eq_some_iff.mp h1).1
    rw [List.getElem?_append_left (by simpa using hlt), List.getElem?_map, h1]
    rfl
  · exact absurd (startE_get hi).1 (by simp)
  · exact absurd (startE_get hi).1 (by simp)
  · have up : ∀ {H' : Hp} {v : V} {d : PyData}, Rp D.K H' (Fx (fun a => F a ∧ H a ≠ none) H) v d → Rp D.K H' (Fx F H) v d := fun r => r.mono (Same.refl _) fun a z => z.elim (fun z => .inl z.1) .inr
    unfold runD at q
    cases z : fb (startE N.length ds) with
    | next se => rw [z] at q; exact fun σ H' ⟨F', s'⟩ => q .non H' s'.ex .non
    | ret d => rw [z] at q; exact fun v H' e r => q v H' e (up r)
    | ex c se => rw [z] at q; exact fun cv σ H' hm ⟨F', s'⟩ => q cv H' s'.ex hm
    | brk se => rw [z] at q; exact q.elim
    | cnt se => rw [z] at q; exact q.elim
    | no => rw [z] at q; exact q.elim
theorem fn_spec {D : Wd} {k n : Nat} {x : Str} {st : Stmt} {f : Addr} {fd : FuncData} {N ps : List Str} {fb : SEn → SR} (Fu : Fun D.K x x st f fd) (S : FnScope N ps (defScope st)) (hm : D.mg x = some (.ref f)) (hn : ps.length = n)
    (hb : Binds D.K fd ps []) (hbody : PurB ⟨D, N, defScope st, k, true, true⟩ (defBody st) fb) : FnSpec D (k + 1) x n (runD N.length fb) := ⟨f, fd, ps, hn, hm, Fu.kp, hb, fn_okAt Fu S hn hbody⟩
end Pu
namespace Pu
open PySem PySem.Spec PyProof.Rows L2
/-- the def x of the text stands where x says -/
def DefOk (D : Wd) (x : Str) (st : Stmt) (ps : List Str) : Prop := ∃ (f : Addr) (fd : FuncData), Fun D.K x x st f fd ∧ D.mg x = some (.ref f) ∧ Binds D.K fd ps []
theorem fn_of' {D : Wd} {k : Nat} {x : Str} {st : Stmt} {N ps : List Str} {fb : SEn → SR} (h : DefOk D x st ps) (S : FnScope N ps (defScope st)) (hbody : PurB ⟨D, N, defScope st, k, true, true⟩ (defBody st) fb) : FnSpec D (k + 1) x ps.length (runD N.length fb) := by
  obtain ⟨f, fd, Fu, hm, hb⟩ := h
  exact fn_spec Fu S hm rfl hb hbody
/-- a def computes a function of that kind -/
def Spec (D : Wd) (k : Nat) (x : Str) (n : Nat) (Φ : (List PyData → R PyData) → Prop) : Prop := ∃ Fn, FnSpec D k x n Fn ∧ Φ Fn
end Pu
namespace Pu
open PySem PySem.Spec PyProof.Rows L2
theorem runD_ret {n : Nat} {f : SEn → SR} {ds : List D} {d : D} (h : f (startE n ds) = .ret d) : runD n f ds = .ok d := by
  unfold runD
  rw [h]
theorem runD_ex {n : Nat} {f : SEn → SR} {ds : List D} {c : Str} {se : SEn} (h : f (startE n ds) = .ex c se) : runD n f ds = .ex c := by
  unfold runD
  rw [h]
theorem runD_next {n : Nat} {f : SEn → SR} {ds : List D} {se : SEn} (h : f (startE n ds) = .next se) : runD n f ds = .ok .none := by
  unfold runD
  rw [h]
/-! ### sizes -/
theorem log2_lt' {n k : Nat} (h : n < 2 ^ k) (hk : 0 < k) : n.log2 < k := PySem.Flt.log2_lt_of hk h
theorem mulOk_of {i j : Int} {a b : Nat} (ha : i.natAbs < 2 ^ a) (hb : j.natAbs < 2 ^ b) (h0 : 0 < a) (h1 : 0 < b) (h : a + b ≤ 134000000) : mulOk i j = true := by
  have x := log2_lt' ha h0
  have y := log2_lt' hb h1
  unfold mulOk
  simp only [Bool.or_eq_true, decide_eq_true_eq]
  exact .inr (by omega)
theorem divOk_of {i j : Int} {b : Nat} (hj : j ≠ 0) (hb : j.natAbs < 2 ^ b) (h0 : 0 < b) (h : b ≤ 9000) : divOk i j = true := by
  have y := log2_lt' hb h0
  unfold divOk
  simp only [Bool.and_eq_true, Bool.or_eq_true, decide_eq_true_eq]
  exact ⟨hj, .inl (by omega)⟩
theorem divOk_of2 {i j : Int} {a : Nat} (hj : j ≠ 0) (ha : i.natAbs < 2 ^ a) (h0 : 0 < a) (h : a ≤ 13000) : divOk i j = true := by
  have y := log2_lt' ha h0
  unfold divOk
  simp only [Bool.and_eq_true, Bool.or_eq_true, decide_eq_true_eq]
  exact ⟨hj, .inr (by omega)⟩
theorem natAbs_mul_lt {i j : Int} {a b : Nat} (ha : i.natAbs < 2 ^ a) (hb : j.natAbs < 2 ^ b) : (i * j).natAbs < 2 ^ (a + b) := by
  rw [Int.natAbs_mul, Nat.pow_add]
  exact Nat.mul_lt_mul'' ha hb
theorem natAbs_add_lt {i j : Int} {a : Nat} (ha : i.natAbs < 2 ^ a) (hb : j.natAbs < 2 ^ a) : (i + j).natAbs < 2 ^ (a + 1) := by
  have h : (i + j).natAbs ≤ i.natAbs + j.natAbs := Int.natAbs_add_le i j
  rw [Nat.pow_succ]
  omega
theorem fmod_pos {a b : Int} (hb : 0 < b) : a.fmod b = a % b := Int.fmod_eq_emod_of_nonneg a (by omega)
theorem fdiv_pos {a b : Int} (hb : 0 < b) : a.fdiv b = a / b := Int.fdiv_eq_ediv_of_nonneg a (by omega)
theorem szOk_of {n : Nat} (h : n ≤ 1000000) : szOk n = true := decide_eq_true (Nat.le_trans h (by decide))
theorem mulOk_l {i j : Int} (h : i.natAbs < 2 ^ 64) : mulOk i j = true := by
  unfold mulOk
  simp [h]
theorem mulOk_r {i j : Int} (h : j.natAbs < 2 ^ 64) : mulOk i j = true := by
  unfold mulOk
  simp [h]
@[simp] theorem storeG_nil {ft : D → SEn → Option SEn} {d : D} {se : SEn} : storeG ft [] d se = ft d se := by
  unfold storeG
  rw [demote_nil]
  split <;> rfl
@[simp] theorem storeV_nil {i : Nat} {d : D} {se : SEn} : storeV [] i d se = se.set i (some (d, false)) := by
  unfold storeV
  rw [demote_nil]
  split <;> rfl
/-! ### loops -/
def stepQ (P : SEn → Prop) (Q : SR → Prop) : SR → Prop
  | .next s => P s
  | .cnt s => P s
  | .brk s => Q (.next s)
  | r => Q r
theorem stepQ_next {P : SEn → Prop} {Q : SR → Prop} {r : SR} (s : SEn) (h : r = .next s) (p : P s) : stepQ P Q r := by
  subst h
  exact p
theorem stepQ_ret {P : SEn → Prop} {Q : SR → Prop} {r : SR} (d : D) (h : r = .ret d) (p : Q (.ret d)) : stepQ P Q r := by
  subst h
  exact p
theorem forD_rule {ft : D → SEn → Option SEn} {fb : SEn → SR} : ∀ {ds : List D} {se : SEn} {r : SR}, forD ft fb ds se = r → ∀ (P : Nat → SEn → Prop) (Q : SR → Prop), P 0 se →
    (∀ i d se, ds[i]? = some d → P i se → ∃ se1, ft d se = some se1 ∧ stepQ (P (i + 1)) Q (fb se1)) → (∀ se, P ds.length se → Q (.next se)) → Q r
  | [], se, r, h, P, Q, h0, _, hd => by
    cases h
    exact hd se h0
  | d :: ds, se, r, h, P, Q, h0, hs, hd => by
    obtain ⟨se1, e, q⟩ := hs 0 d se rfl h0
    unfold forD at h
    rw [e] at h
    dsimp only at h
    cases z : fb se1 with
    | next s =>
      rw [z] at h q
      exact forD_rule h (fun i => P (i + 1)) Q q (fun i d' se' hi hp => hs (i + 1) d' se' (by simpa using hi) hp) hd
    | cnt s =>
      rw [z] at h q
      exact forD_rule h (fun i => P (i + 1)) Q q (fun i d' se' hi hp => hs (i + 1) d' se' (by simpa using hi) hp) hd
    | brk s => rw [z] at h q; cases h; exact q
    | ret d => rw [z] at h q; cases h; exact q
    | ex c s => rw [z] at h q; cases h; exact q
    | no => rw [z] at h q; cases h; exact q
theorem whileD_rule {ft : SEn → R Bool} {fb : SEn → SR} {se : SEn} {r : SR} (h : whileD ft fb se = r) (P : SEn → Prop) (Q : SR → Prop) (μ : SEn → Nat) (h0 : P se)
    (hs : ∀ se, P se → ∃ k, ft se = .ok k ∧ (k = false → Q (.next se)) ∧ (k = true → stepQ (fun s => P s ∧ μ s < μ se) Q (fb se))) : Q r := by
  have go : ∀ n se r, μ se ≤ n → whileD ft fb se = r → P se → Q r := by
    intro n
    induction n with
    | zero =>
      intro se r hn h p
      obtain ⟨k, e, q1, q2⟩ := hs se p
      rw [whileD_step, e] at h
      cases k with
      | false => cases h; exact q1 rfl
      | true =>
        have q := q2 rfl
        simp only [SR.of_ok, if_true] at h
        cases z : fb se with
        | next s => rw [z] at q; have := q.2; omega
        | cnt s => rw [z] at q; have := q.2; omega
        | brk s => rw [z] at h q; cases h; exact q
        | ret d => rw [z] at h q; cases h; exact q
        | ex c s => rw [z] at h q; cases h; exact q
        | no => rw [z] at h q; cases h; exact q
    | succ n ih =>
      intro se r hn h p
      obtain ⟨k, e, q1, q2⟩ := hs se p
      rw [whileD_step, e] at h
      cases k with
      | false => cases h; exact q1 rfl
      | true =>
        have q := q2 rfl
        simp only [SR.of_ok, if_true] at h
        cases z : fb se with
        | next s => rw [z] at h q; exact ih s r (by have := q.2; omega) h q.1
        | cnt s => rw [z] at h q; exact ih s r (by have := q.2; omega) h q.1
        | brk s => rw [z] at h q; cases h; exact q
        | ret d => rw [z] at h q; cases h; exact q
        | ex c s => rw [z] at h q; cases h; exact q
        | no => rw [z] at h q; cases h; exact q
  exact go _ se r (Nat.le_refl _) h h0
theorem upFrom_get {lo : Int} {n i : Nat} {d : D} (h : (upFrom lo n)[i]? = some d) : i < n ∧ d = .int (lo + i) := by
  unfold upFrom at h
  rw [List.getElem?_map] at h
  cases q : (List.range n)[i]? with
  | none => rw [q] at h; cases h
  | some j =>
    rw [q] at h
    obtain ⟨h1, h2⟩ := List.getElem?_eq_some_iff.mp q
    simp at h1 h2
    subst h2
    cases h
    exact ⟨h1, rfl⟩
end Pu
namespace Pu
open PySem PySem.Spec PyProof.Rows L2
theorem runD_ret_ex {α : Type} {n : Nat} {f : SEn → SR} {ds : List D} {P Q : α → Prop} {k : α → D} (h : ∃ x, P x ∧ Q x ∧ f (startE n ds) = .ret (k x)) : ∃ x, P x ∧ Q x ∧ runD n f ds = .ok (k x) := by
  obtain ⟨x, p, q, e⟩ := h
  exact ⟨x, p, q, runD_ret e⟩
theorem runD_ret_ex1 {α : Type} {n : Nat} {f : SEn → SR} {ds : List D} {P : α → Prop} {k : α → D} (h : ∃ x, P x ∧ f (startE n ds) = .ret (k x)) : ∃ x, P x ∧ runD n f ds = .ok (k x) := by
  obtain ⟨x, p, e⟩ := h
  exact ⟨x, p, runD_ret e⟩
end Pu
namespace Pu
open PySem PySem.Spec PyProof.Rows L2
/-! ### try .. except C as e: a suite that asks what e is, and goes back -/
abbrev W0 : WX := fun _ _ _ _ => False
theorem takesN {X : Cx} : Takes X W0 := fun _ _ x => by
  obtain ⟨_, _, _, _, _, _, _, _, _, _, _, _, _, _, _, _, z⟩ := x
  exact z.elim
section
variable {g : G} {W : WX} {X : Cx} {i : Nat} {c x : Str} {pos p p2 np : Pos} {a b e : Expr} {es rest : List Expr} {fa fb fe : En → R D} {fs : En → R (List D)}
theorem Cok.suite (C : Cok g X W) (a : Addr) (pn : List (Addr × Obj)) : Cok { g with calm := false } (X.suite a pn) W0 :=
  ⟨C.prog, C.w, C.K, C.mg, C.base, C.N, C.sc, C.nd, rfl, (fun z => by cases z), C.units, takesN, PassesOwn.never, C.fn, C.top⟩
theorem Cok.tr (C : Cok g X W) {W' : WX} {pn : List (Addr × Obj)} {xe : Value → Shared → Prop} (tk : Takes (X.tr pn xe) W') (ps : PassesOwn (model X.prog X.w) X.A X.env xe) : Cok g (X.tr pn xe) W' :=
  ⟨C.prog, C.w, C.K, C.mg, C.base, C.N, C.sc, C.nd, C.calm, C.room, C.units, tk, ps, C.fn, C.top⟩
/-- an expression of the suite: e's object at slot i, of the class x -/
def PurX (g : G) (i : Nat) (x : Str) (e : Expr) (f : En → R D) : Prop := ∀ X W, Cok g X W → ∀ cv, g.D.mg x = some cv → ∀ a oe pn, Zc cv none oe → (∃ vs, oe.data = .fields vs) → ∀ σ H F env (Q : VK), σ[i]? = some (some (.ref a)) →
  EnvOk g.D.K F σ H env → Wants g W0 σ H (f env) (relE g.D.K F H) Q → wE (X.suite a ((a, oe) :: pn)) e σ H Q
def PurXA (g : G) (i : Nat) (x : Str) (es : List Expr) (f : En → R (List D)) : Prop := ∀ X W, Cok g X W → ∀ cv, g.D.mg x = some cv → ∀ a oe pn, Zc cv none oe → (∃ vs, oe.data = .fields vs) → ∀ σ H F env (Q : List V → Hp → Prop), σ[i]? = some (some (.ref a)) →
  EnvOk g.D.K F σ H env → Wants g W0 σ H (f env) (relA g.D.K F H) Q → wA (X.suite a ((a, oe) :: pn)) es σ H Q
theorem purx_of (h : Pur { g with calm := false } e fe) : PurX g i x e fe := fun X W C cv _ a oe pn _ _ σ H F env Q _ E w => h (X.suite a ((a, oe) :: pn)) W0 (C.suite a _) σ H F env Q E w
theorem purxa_nil : PurXA g i x [] (fun _ => .ok []) := fun X W C cv _ a oe pn _ _ σ H F env Q _ E h => wA_of pa_nil (h _ H (Same.refl H) .nil)
theorem purxa_cons (he : PurX g i x e fe) (hr : PurXA g i x es fs) (hs : ∀ env, starEach (e :: es) env = (false, eval e env) :: starEach es env := by intro _; exact starEach_of rfl) :
    PurXA g i x (e :: es) (fun env => (fe env).bind fun d => (fs env).bind fun ds => .ok (d :: ds)) := by
  intro X W C cv hc a oe pn hz hf σ H F env Q hi E h
  refine wA_of (pa_cons pe_w pa_w (hs _)) ?_
  refine he X W C cv hc a oe pn hz hf σ H F env _ hi E (h.bind fun d v H1 _ e1 r1 h1 => ?_)
  refine hr X W C cv hc a oe pn hz hf σ H1 F env _ hi (E.mono e1 fun _ z => z) (h1.bind fun ds vs H2 _ e2 r2 h2 => ?_)
  exact h2 _ H2 (Same.refl H2) (.cons (Rp.mono e2 (fun _ z => z) r1) (RpA.mono (Same.refl H2) (Fx.back e1) r2))
theorem purx_lst (h : PurXA g i x es fs) : PurX g i x (.List es pos) (fun env => (fs env).bind fun ds => if szOk ds.length then .ok (.list ds) else .no) := by
  intro X W C cv hc a oe pn hz hf σ H F env Q hi E w
  refine wE_of (pe_lst pa_w) ?_
  refine h X W C cv hc a oe pn hz hf σ H F env _ hi E (w.bind fun ds vs H1 _ e1 r1 h1 => ?_)
  by_cases z : szOk ds.length = true
  · rw [if_pos z] at h1
    refine ⟨by rw [r1.length]; exact of_decide_eq_true z, fun q hn => h1 _ _ (Same.new hn) ?_⟩
    exact .lst (.inl ⟨.inl upd_same, .inr (e1.free hn)⟩) (RpA.mono (Same.new hn) (fun _ z => z) r1)
  · rw [if_neg z] at h1
    exact h1.elim
theorem purx_one {op : BoolOp} (ha : PurX g i x a fa) : PurX g i x (.BoolOp op [a] pos) fa := fun X W C cv hc a oe pn hz hf σ H F env Q hi E h => wE_of (pe_one pe_w) (ha X W C cv hc a oe pn hz hf σ H F env Q hi E h)
theorem purx_and (ha : PurX g i x a fa) (hb : PurX g i x (.BoolOp .And (b :: rest) pos) fb) : PurX g i x (.BoolOp .And (a :: b :: rest) pos) (fun env => (fa env).bind fun x => (truth x).bind fun k => if k then fb env else .ok x) := by
  intro X W C cv hc a oe pn hz hf σ H F env Q hi E h
  refine wE_of (pe_andT pe_w pe_w) ?_
  refine ha X W C cv hc a oe pn hz hf σ H F env _ hi E (h.bind fun x v H1 _ e1 r1 h1 => ?_)
  obtain ⟨c, t, _, h2⟩ := truth_step (g := { g with calm := false }) (C.suite a ((a, oe) :: pn)) r1 h1
  refine ⟨c, t, ?_⟩
  cases c with
  | true => exact hb X W C cv hc a oe pn hz hf σ H1 F env _ hi (E.mono e1 fun _ z => z) (h2.imp fun d v H' _ r => relE.lift e1 r)
  | false => exact h2 v H1 (Same.refl H1) r1
theorem purx_not (ha : PurX g i x a fa) : PurX g i x (.UnaryOp .Not a pos) (fun env => (fa env).bind fun x => (truth x).bind fun k => .ok (.bool (!k))) := by
  intro X W C cv hc a oe pn hz hf σ H F env Q hi E h
  refine wE_of (pe_notT pe_w) ?_
  refine ha X W C cv hc a oe pn hz hf σ H F env _ hi E (h.bind fun x v H1 _ e1 r1 h1 => ?_)
  obtain ⟨c, t, _, h2⟩ := truth_step (g := { g with calm := false }) (C.suite a ((a, oe) :: pn)) r1 h1
  exact ⟨c, t, h2 _ H1 (Same.refl H1) (.bl _)⟩
/-- what isinstance tells of an exception of the class x -/
def ExcI (D : Wd) (x c : Str) (b : Bool) : Prop := ∃ (Ce : Addr) (v : V) (u : Value), D.mg x = some (.ref Ce) ∧ ExcC D.K Ce ∧ RelV v u ∧ (∀ u', RelV v u' → u' = u) ∧ (D.mg c = some u ∨ (D.mg c = none ∧ bootBuiltins c = some u ∧ c ≠ "__name__")) ∧ PySem.W.kitOne D.K (.ref Ce) u = some b
theorem purx_isE {n : Str} {bb : Bool} (hI : ExcI g.D x c bb) (hm : g.D.mg "isinstance" = none) (hN : g.N[i]? = some n := by rfl) (hv : vis g.sc n = true := by rfl) (hg : gl g.sc "isinstance" = true := by rfl) (hgc : gl g.sc c = true := by rfl)
    (hd1 : (n == ("__debug__" : Str)) = false := by decide) (hd2 : (n == ("__classdict__" : Str)) = false := by decide) (hd3 : (c == ("__debug__" : Str)) = false := by decide) :
    PurX g i x (.Call (.Name "isinstance" p) [.Name n np, .Name c p2] [] pos) (fun _ => .ok (.bool bb)) := by
  intro X W C cv hc a oe pn hz hf σ H F env Q hi E h
  obtain ⟨Ce, v, u, hmx, EC, rv, ru, hmc, hk⟩ := hI
  rw [hmx] at hc
  cases hc
  have pc : PE (X.suite a ((a, oe) :: pn)) (.Name c p2) (tC v) := by
    rcases hmc with h | ⟨h, hb, hn⟩
    · exact pe_glob (gl_ok (C.suite a ((a, oe) :: pn)) hgc) (show X.mg c = _ by rw [C.mg]; exact h) rv hd3
    · exact pe_bltn (gl_ok (C.suite a ((a, oe) :: pn)) hgc) (show X.mg c = _ by rw [C.mg]; exact h) hb rv hn hd3
  refine wE_of (pe_callB (call_isE (by rw [C.K]; exact EC) hz hf) (gl_ok (C.suite a ((a, oe) :: pn)) hg) (show X.mg _ = _ by rw [C.mg]; exact hm) (by decide +kernel) (pa_cons (pe_var (i := i) (by rw [C.N]; exact hN) (show Vis X.env.scope n by rw [C.sc]; exact vis_ok hv) hd1 hd2) (pa_cons pc pa_nil))) ?_
  exact ⟨_, hi, v, u, bb, rfl, ru, by rw [C.K]; exact hk, h _ H (Same.refl H) (.bl _)⟩
/-- a suite -/
def Sui (g : G) (i : Nat) (x : Str) (sts : List Stmt) (f : SEn → SR) : Prop := ∀ X W, Cok g X W → ∀ cv, g.D.mg x = some cv → ∀ a oe pn, Zc cv none oe → (∃ vs, oe.data = .fields vs) → ∀ H0 F0 hs hd σ H se (N : Ends), σ[i]? = some (some (.ref a)) →
  SOk g H0 F0 hs hd σ H se → SEnds g W0 H0 F0 hs hd N (f se) → wB (X.suite a ((a, oe) :: pn)) sts N σ H
theorem of_wantsX {H0 : Hp} {F0 : Fp} {hs : List V} {hd : List D} {N : Ends} {σ : L2.St} {H : Hp} {se : SEn} {α β : Type} {r : R α} {k : α → SR} {rel : α → β → Hp → Prop} {Q : β → Hp → Prop} (s : SOk g H0 F0 hs hd σ H se) (h : SEnds g W0 H0 F0 hs hd N (SR.of r se k))
    (q : ∀ d v H1, r = .ok d → Same H H1 → rel d v H1 → SEnds g W0 H0 F0 hs hd N (k d) → Q v H1) : Wants g W0 σ H r rel Q := by
  cases r with
  | ok d => exact fun v H1 e r => q d v H1 rfl e r (by simpa using h)
  | ex c =>
    obtain ⟨F, s⟩ := s
    exact fun cv H' e hm => h cv σ H' hm ⟨F, s.same e⟩
  | no => exact h.elim
theorem sui_ret (m : List Nat) (he : PurX g i x e fe) : Sui g i x [.Return (some e) pos] (fun se => SR.of (fe (view m 0 se)) se fun d => .ret d) := by
  intro X W C cv hc a oe pn hz hf H0 F0 hs hd σ H se N hi ⟨F, s⟩ h
  refine wB_of (pss_one (ps_ret pe_w)) ?_
  exact he X W C cv hc a oe pn hz hf σ H _ _ _ hi (s.env (m := m)) (of_wantsX ⟨F, s⟩ h fun d v H1 _ e1 r1 h1 => h1 v H1 (s.ex.trans e1) (s.out e1 r1))
theorem sui_set (j : Nat) (m : List Nat) {y : Str} {sts : List Stmt} {f : SEn → SR} (he : PurX g i x e fe) (hr : Sui g i x sts f) (hij : j ≠ i := by decide) (hN : g.N[j]? = some y := by rfl) (hx : isLoc g.sc y = true := by rfl) (hB : g.B = true := by rfl)
    (hsw : ∀ env, swapsWith e (some (.Name y p)) pos.line env = pure false := by intro _; rfl) :
    Sui g i x (.Assign [.Name y p] e pos :: sts) (fun se => SR.of (fe (view m 0 se)) se fun d => f (storeV m j d se)) := by
  intro X W C cv hc a oe pn hz hf H0 F0 hs hd σ H se N hi ⟨F, s⟩ h
  refine wB_of (X := X.suite a ((a, oe) :: pn)) (pss_cons (ps_set (X := X.suite a ((a, oe) :: pn)) (i := j) C.nd (show X.N[j]? = some y by rw [C.N]; exact hN) (show L2.Loc X.env.scope y by rw [C.sc]; exact isLoc_ok hx) pe_w (hsw _) (.inl (C.fn hB y))) pss_w) ?_
  refine he X W C cv hc a oe pn hz hf σ H _ _ _ hi (s.env (m := m)) (of_wantsX ⟨F, s⟩ h fun d v H1 _ e1 r1 h1 => ?_)
  exact hr X W C cv hc a oe pn hz hf H0 F0 hs hd _ H1 _ N (by rw [List.getElem?_set_ne hij]; exact hi) (s.storeV e1 r1 j) h1
@[simp] def freeAt : Option (Option (D × Bool)) → Bool
  | some none => true
  | _ => false
@[simp] def SR.gone (i : Nat) : SR → SR
  | .next s => .next (s.set i none)
  | .ret d => .ret d
  | _ => .no
/-- an exception of one of the classes is taken -/
@[simp] def SR.take (xs : List Str) (i : Nat) (f : Str → SEn → SR) : SR → SR
  | .ex x s => if xs.contains x && freeAt (s[i]?) then SR.gone i (f x s) else .no
  | r => r
/-- the class x is taken by the clause of c -/
def ExcT (D : Wd) (x c : Str) : Prop := ∃ u v : Value, D.mg x = some u ∧ (D.mg c = some v ∨ (D.mg c = none ∧ bootBuiltins c = some v ∧ c ≠ "__name__")) ∧ PySem.W.exmOne D.K u v = some true
theorem SOf.exc {H0 : Hp} {F0 : Fp} {hs : List V} {hd : List D} {σ : L2.St} {H : Hp} {se : SEn} {F : Fp} (s : SOf g H0 F0 hs hd σ H se F) (h : se[i]? = some none) (v : Option V) : SOf g H0 F0 hs hd (σ.set i v) H se F where
  ex := s.ex
  sub := s.sub
  live := s.live
  len := by rw [List.length_set]; exact s.len
  ent := fun j d' q => by
    have hne : j ≠ i := fun z => by subst z; rw [h] at q; cases q
    rw [List.getElem?_set_ne (Ne.symm hne)]
    exact s.ent j d' q
  own := fun j d' q => by
    have hne : j ≠ i := fun z => by subst z; rw [h] at q; cases q
    rw [List.getElem?_set_ne (Ne.symm hne)]
    exact s.own j d' q
  dist := fun j k d' e' h1 h2 h3 => by
    have hj : j ≠ i := fun z => by subst z; rw [h] at h1; cases h1
    have hk : k ≠ i := fun z => by subst z; rw [h] at h2; cases h2
    rw [List.getElem?_set_ne (Ne.symm hj), List.getElem?_set_ne (Ne.symm hk)] at h3
    exact s.dist j k d' e' h1 h2 h3
  hid := s.hid
theorem SOf.unset {H0 : Hp} {F0 : Fp} {hs : List V} {hd : List D} {σ : L2.St} {H : Hp} {se : SEn} {F : Fp} (s : SOf g H0 F0 hs hd σ H se F) (i : Nat) : SOf g H0 F0 hs hd (σ.set i none) H (se.set i none) F where
  ex := s.ex
  sub := s.sub
  live := s.live
  len := by rw [List.length_set, List.length_set]; exact s.len
  ent := fun j d' q => by
    rcases get_set q with ⟨_, e, _⟩ | ⟨hne, q⟩
    · cases e
    · rw [List.getElem?_set_ne (Ne.symm hne)]
      exact s.ent j d' q
  own := fun j d' q => by
    rcases get_set q with ⟨_, e, _⟩ | ⟨hne, q⟩
    · cases e
    · rw [List.getElem?_set_ne (Ne.symm hne)]
      exact s.own j d' q
  dist := fun j k d' e' h1 h2 h3 => by
    rcases get_set h1 with ⟨_, e, _⟩ | ⟨hj, h1⟩
    · cases e
    rcases get_set h2 with ⟨_, e, _⟩ | ⟨hk, h2⟩
    · cases e
    rw [List.getElem?_set_ne (Ne.symm hj), List.getElem?_set_ne (Ne.symm hk)] at h3
    exact s.dist j k d' e' h1 h2 h3
  hid := s.hid
theorem names_ok {X : Cx} {W : WX} (C : Cok g X W) {v : Value} (hg : gl g.sc c = true) (hd : (c == ("__debug__" : Str)) = false) (h : g.D.mg c = some v ∨ (g.D.mg c = none ∧ bootBuiltins c = some v ∧ c ≠ "__name__")) : Names X c v :=
  ⟨gl_ok C hg, hd, by rw [C.mg]; exact h⟩
theorem isLoc_kind {X : Cx} {W : WX} {n : Str} (C : Cok g X W) (h : g.sc.names.lookup n = some .local) : X.env.kindOf n = some .local := by
  show X.env.scope.names.lookup n = _
  rw [C.sc]
  exact h
theorem pus_tryAs (i : Nat) (xs : List Str) {n : Str} {pos' : Pos} {body suite : List Stmt} {b₀ : Stmt} {fb : SEn → SR} {f : Str → SEn → SR} (hb : PurB g body fb) (hs : ∀ x ∈ xs, ExcT g.D x c ∧ Sui g i x (b₀ :: suite) (f x)) (hx0 : xs ≠ [] := by decide) (hN : g.N[i]? = some n := by rfl) (hl : g.sc.names.lookup n = some .local := by rfl)
    (hgc : gl g.sc c = true := by rfl) (hd3 : (c == ("__debug__" : Str)) = false := by decide) (hB : g.B = true := by rfl) :
    PurS g (.Try body [.ExceptHandler (some (.Name c np)) (some n) (b₀ :: suite) pos'] [] [] pos) (fun se => SR.take xs i f (fb se)) := by
  intro X W C H0 F0 hs0 hd σ H se N s h
  obtain ⟨t1, t2⟩ := C.top hB
  obtain ⟨x0, hx0'⟩ := List.exists_mem_of_ne_nil xs hx0
  obtain ⟨⟨_, v, _, hcv, _⟩, _⟩ := hs x0 hx0'
  have one : ∀ x ∈ xs, ∀ cv, g.D.mg x = some cv → PySem.W.exmOne X.K cv v = some true := fun x hx cv e => by
    obtain ⟨⟨u, v', h1, h2, h3⟩, _⟩ := hs x hx
    rw [h1] at e
    cases e
    have : v' = v := by
      rcases hcv with h | ⟨h, hb, _⟩ <;> rcases h2 with h' | ⟨h', hb', _⟩ <;> rw [h] at h' <;> try cases h'
      · rfl
      · rw [hb] at hb'; cases hb'; rfl
    subst this
    rw [C.K]
    exact h3
  refine wS_of (ps_try_as (i := i) (tb := fun W' => fun D' σ' H' => ∃ W1, W1 = W' ∧ ∀ pn xe, Takes (X.tr pn xe) W1 → PassesOwn (model X.prog X.w) X.A X.env xe → wB (X.tr pn xe) body D' σ' H') (ts := fun a cls d D' σ' H' => ∀ oe pn, Zc cls d oe → (∃ vs, oe.data = .fields vs) → wB (X.suite a ((a, oe) :: pn)) (b₀ :: suite) D' σ' H') (Wout := W)
    t1 t2 C.nd (by rw [C.N]; exact hN) (isLoc_kind C hl) (names_ok C hgc hd3 hcv) C.takes
    (fun W' pn xe tk ps => ⟨fun pins s1 σ1 H1 D1 I q => by
      obtain ⟨W1, rfl, q⟩ := q
      exact pss_w.run pins s1 σ1 H1 D1 I (q pn xe tk ps)⟩)
    (fun a oe cls d pn hz hf => ⟨fun pins s1 σ1 H1 D1 I q => pss_w.run pins s1 σ1 H1 D1 I (q oe pn hz hf)⟩)) ?_
  refine ⟨_, rfl, fun pn xe tk ps => hb _ _ (C.tr tk ps) H0 F0 hs0 hd σ H se N s ?_⟩
  dsimp only at h
  cases q : fb se with
  | next s' => rw [q] at h; exact h
  | ret d => rw [q] at h; exact h
  | brk s' => rw [q] at h; exact h
  | cnt s' => rw [q] at h; exact h
  | no => rw [q] at h; exact h
  | ex x s' =>
    rw [q] at h
    dsimp only [SR.take] at h
    by_cases z : (xs.contains x && freeAt (s'[i]?)) = true
    · rw [if_pos z] at h
      rw [Bool.and_eq_true] at z
      have hx : x ∈ xs := by simpa using z.1
      have hfr : s'[i]? = some none := by
        have := z.2
        unfold freeAt at this
        split at this
        · assumption
        · cases this
      intro cv σ1 H1 hcx ⟨F1, s1⟩
      refine ⟨true, one x hx cv hcx, fun _ a na oe pn hz hf => ?_, fun z => by cases z⟩
      have hlt : i < σ1.length := by
        rw [s1.len]
        exact (List.getElem?_eq_some_iff.mp hfr).1
      refine (hs x hx).2 X W C cv hcx a oe pn hz hf H0 F0 hs0 hd _ H1 s' _ (List.getElem?_set_self hlt) ⟨F1, s1.exc hfr _⟩ ?_
      cases q2 : f x s' with
      | next s2 =>
        rw [q2] at h
        exact fun σ2 H2 ⟨F2, k⟩ => h _ _ ⟨F2, k.unset i⟩
      | ret d => rw [q2] at h; exact h
      | brk s2 => rw [q2] at h; exact h.elim
      | cnt s2 => rw [q2] at h; exact h.elim
      | ex _ s2 => rw [q2] at h; exact h.elim
      | no => rw [q2] at h; exact h
    · rw [if_neg z] at h
      exact h.elim
end
end Pu
namespace Pu
open PySem PySem.Spec PyProof.Rows L2
section
variable {g : G} {c : Str} {pos np : Pos}
theorem pus_tryAs1 (i : Nat) (x : Str) {n : Str} {pos' : Pos} {body suite : List Stmt} {b₀ : Stmt} {fb f : SEn → SR} (hb : PurB g body fb) (ht : ExcT g.D x c) (hs : Sui g i x (b₀ :: suite) f) (hN : g.N[i]? = some n := by rfl) (hl : g.sc.names.lookup n = some .local := by rfl)
    (hgc : gl g.sc c = true := by rfl) (hd3 : (c == ("__debug__" : Str)) = false := by decide) (hB : g.B = true := by rfl) :
    PurS g (.Try body [.ExceptHandler (some (.Name c np)) (some n) (b₀ :: suite) pos'] [] [] pos) (fun se => SR.take [x] i (fun _ => f) (fb se)) :=
  pus_tryAs i [x] hb (fun y hy => by cases List.mem_singleton.mp hy; exact ⟨ht, hs⟩) (by simp) hN hl hgc hd3 hB
theorem SOf.calm {b : Bool} {H0 : Hp} {F0 : Fp} {hs : List V} {hd : List D} {σ : L2.St} {H : Hp} {se : SEn} {F : Fp} (s : SOf g H0 F0 hs hd σ H se F) : SOf { g with calm := b } H0 F0 hs hd σ H se F := ⟨s.ex, s.sub, s.live, s.len, s.ent, s.own, s.dist, s.hid⟩
theorem SOf.uncalm {b : Bool} {H0 : Hp} {F0 : Fp} {hs : List V} {hd : List D} {σ : L2.St} {H : Hp} {se : SEn} {F : Fp} (s : SOf { g with calm := b } H0 F0 hs hd σ H se F) : SOf g H0 F0 hs hd σ H se F := ⟨s.ex, s.sub, s.live, s.len, s.ent, s.own, s.dist, s.hid⟩
/-- an exception of one of the classes is taken, with no name -/
@[simp] def SR.takeN (xs : List Str) (f : SEn → SR) : SR → SR
  | .ex x s => if xs.contains x then f s else .no
  | r => r
theorem pus_tryOnly (xs : List Str) {pos' : Pos} {body suite : List Stmt} {b₀ : Stmt} {fb f : SEn → SR} (hb : PurB g body fb) (ht : ∀ x ∈ xs, ExcT g.D x c) (hs : PurB { g with calm := false } (b₀ :: suite) f) (hnx : ∀ se x s, f se ≠ .ex x s) (hx0 : xs ≠ [] := by simp)
    (hgc : gl g.sc c = true := by rfl) (hd3 : (c == ("__debug__" : Str)) = false := by decide) (hB : g.B = true := by rfl) :
    PurS g (.Try body [.ExceptHandler (some (.Name c np)) none (b₀ :: suite) pos'] [] [] pos) (fun se => SR.takeN xs f (fb se)) := by
  intro X W C H0 F0 hs0 hd σ H se N s h
  obtain ⟨t1, t2⟩ := C.top hB
  obtain ⟨x0, hx0'⟩ := List.exists_mem_of_ne_nil xs hx0
  obtain ⟨_, v, _, hcv, _⟩ := ht x0 hx0'
  have one : ∀ x ∈ xs, ∀ cv, g.D.mg x = some cv → PySem.W.exmOne X.K cv v = some true := fun x hx cv e => by
    obtain ⟨u, v', h1, h2, h3⟩ := ht x hx
    rw [h1] at e
    cases e
    have : v' = v := by
      rcases hcv with h | ⟨h, hb, _⟩ <;> rcases h2 with h' | ⟨h', hb', _⟩ <;> rw [h] at h' <;> try cases h'
      · rfl
      · rw [hb] at hb'; cases hb'; rfl
    subst this
    rw [C.K]
    exact h3
  refine wS_of (ps_try_only (tb := fun W' => fun D' σ' H' => ∃ W1, W1 = W' ∧ ∀ pn xe, Takes (X.tr pn xe) W1 → PassesOwn (model X.prog X.w) X.A X.env xe → wB (X.tr pn xe) body D' σ' H') (ts := fun a cls d D' σ' H' => ∀ oe pn, Zc cls d oe → (∃ vs, oe.data = .fields vs) → wB (X.suite a ((a, oe) :: pn)) (b₀ :: suite) D' σ' H') (Wout := W)
    t1 t2 (names_ok C hgc hd3 hcv) C.takes
    (fun W' pn xe tk ps => ⟨fun pins s1 σ1 H1 D1 I q => by
      obtain ⟨W1, rfl, q⟩ := q
      exact pss_w.run pins s1 σ1 H1 D1 I (q pn xe tk ps)⟩)
    (fun a oe cls d pn hz hf => ⟨fun pins s1 σ1 H1 D1 I q => pss_w.run pins s1 σ1 H1 D1 I (q oe pn hz hf)⟩)) ?_
  refine ⟨_, rfl, fun pn xe tk ps => hb _ _ (C.tr tk ps) H0 F0 hs0 hd σ H se N s ?_⟩
  dsimp only at h
  cases q : fb se with
  | next s' => rw [q] at h; exact h
  | ret d => rw [q] at h; exact h
  | brk s' => rw [q] at h; exact h
  | cnt s' => rw [q] at h; exact h
  | no => rw [q] at h; exact h
  | ex x s' =>
    rw [q] at h
    dsimp only [SR.takeN] at h
    by_cases z : xs.contains x = true
    · rw [if_pos z] at h
      have hx : x ∈ xs := by simpa using z
      intro cv σ1 H1 hcx ⟨F1, s1⟩
      refine ⟨true, one x hx cv hcx, fun _ a na oe pn hz hf => ?_, fun z => by cases z⟩
      refine hs (X.suite a ((a, oe) :: pn)) W0 (C.suite a _) H0 F0 hs0 hd _ H1 s' _ ⟨F1, s1.calm⟩ ?_
      cases q2 : f s' with
      | next s2 => rw [q2] at h; exact fun σ2 H2 ⟨F2, k⟩ => h σ2 H2 ⟨F2, k.uncalm⟩
      | ret d => rw [q2] at h; exact h
      | brk s2 => rw [q2] at h; exact fun σ2 H2 ⟨F2, k⟩ => h σ2 H2 ⟨F2, k.uncalm⟩
      | cnt s2 => rw [q2] at h; exact fun σ2 H2 ⟨F2, k⟩ => h σ2 H2 ⟨F2, k.uncalm⟩
      | ex y s2 => exact absurd q2 (hnx _ _ _)
      | no => rw [q2] at h; exact h
    · rw [if_neg z] at h
      exact h.elim
theorem pus_tryOnly1 (x : Str) {pos' : Pos} {body suite : List Stmt} {b₀ : Stmt} {fb f : SEn → SR} (hb : PurB g body fb) (ht : ExcT g.D x c) (hs : PurB { g with calm := false } (b₀ :: suite) f) (hf : ∀ se x s, f se ≠ .ex x s := by intros; first | (intro q; cases q; done) | simp)
    (hgc : gl g.sc c = true := by rfl) (hd3 : (c == ("__debug__" : Str)) = false := by decide) (hB : g.B = true := by rfl) :
    PurS g (.Try body [.ExceptHandler (some (.Name c np)) none (b₀ :: suite) pos'] [] [] pos) (fun se => SR.takeN [x] f (fb se)) :=
  pus_tryOnly [x] hb (fun y hy => by cases List.mem_singleton.mp hy; exact ht) hs hf (by simp) hgc hd3 hB
end
end Pu
namespace Pu
open PySem PySem.Spec PyProof.Rows L2
/-! ### the law's end -/
/-- the law's def tells True of every script -/
def LawOk (D : Wd) (k : Nat) (x : Str) (st : Stmt) (par : Str) : Prop := ∃ Fn : List PyData → R PyData, (∀ f fd, Fun D.K x x st f fd → FnOk D.P D.w D.K D.mg D.base (L2.CX D.P D.w) k f fd [par] (spF D 1 Fn)) ∧
  ∀ ks : List Int, ks.length ≤ 63 → Fn [.list (ks.map .int)] = .ok (.bool true)
theorem law_of {D : Wd} {k : Nat} {x par : Str} {st : Stmt} {N : List Str} {fb : SEn → SR} (S : FnScope N [par] (defScope st)) (hbody : PurB ⟨D, N, defScope st, k, true, true⟩ (defBody st) fb)
    (h : ∀ ks : List Int, ks.length ≤ 63 → runD N.length fb [.list (ks.map .int)] = .ok (.bool true)) : LawOk D (k + 1) x st par := ⟨_, fun _ _ Fu => fn_okAt Fu S rfl hbody, h⟩
def spLaw (K : PySem.W.Frag) : Sp := fun vs H Q _ => ∃ (a : Addr) (ks : List Int), vs = [.ref a] ∧ ks.length ≤ 63 ∧ SqL K H a (ks.map V.int) ∧ ∀ H', Q (.bl true) H'
theorem rpa_ints {K : PySem.W.Frag} {H : Hp} {F : Fp} : ∀ ks : List Int, RpA K H F (ks.map V.int) (ks.map .int)
  | [] => .nil
  | k :: r => .cons (.int k) (rpa_ints r)
theorem LawOk.fn {D : Wd} {k : Nat} {x par : Str} {st : Stmt} {f : Addr} {fd : FuncData} (L : LawOk D k x st par) (Fu : Fun D.K x x st f fd) : FnOk D.P D.w D.K D.mg D.base (L2.CX D.P D.w) k f fd [par] (spLaw D.K) := by
  obtain ⟨Fn, ok, h⟩ := L
  refine (ok f fd Fu).imp fun vs H Q E q => ?_
  obtain ⟨a, ks, rfl, hl, hs, hq⟩ := q
  refine ⟨rfl, [.list (ks.map .int)], fun _ => True, .cons (.lst ?_ (rpa_ints ks)) .nil, ?_⟩
  · rcases hs with hs | hs
    · exact .inl ⟨hs, trivial⟩
    · exact .inr hs
  · rw [h ks hl]
    intro v H' _ r
    cases r
    exact hq H'
theorem walk_law {l : PySem.W.OpenLaw} {k : Nat} {q : Program} {loose : List Str} {XP : (Str → Option Value) → Heap → Prop} {YP : World → Heap → Prop} {d : DefRec} {K : Params → PySem.W.Frag} {x : Str} (hn : l.most = some 63) (hdf : d.params.defaults = []) (hr : Room k callerA)
    (hY : ∀ (w : World) (h : Heap), YP w h → (K w.params).In h)
    (F : ∀ (w : World) (mg : Str → Option Value) (fa : Addr) (h : Heap), (K w.params).In h → h.Ns mainGlobals mg → mg d.name = some (.ref fa) →
      ∃ fd : FuncData, (∀ (s : Shared) (u : Value), BindsTo s fd ⟨[u], []⟩ [(x, u)]) ∧ ∀ base : Heap, (K w.params).In base → base.Ns mainGlobals mg → FnOk l.prog w (K w.params) mg base (L2.CX l.prog w) k fa fd [x] (spLaw (K w.params))) :
    PySem.W.WalkO q loose XP YP l.row.toRowW d [] (fun f vs => PySem.call f vs) :=
  L2.walk_of (n := 63) (k := k) (x := x) (CX := fun w => L2.CX l.prog w) (sp := fun w => spLaw (K w.params)) hn (by decide) hdf hr hY F (fun _ _ a ks hl _ hS => ⟨a, ks, rfl, hl, hS, fun _ => rfl⟩) fun _ _ _ _ _ ⟨_, _, _, _, _, _, _, _, _, _, _, _, z⟩ => z
/-! facts -/
section
variable {D : Wd} {h : Heap}
theorem defOk_mk {x : Str} {st : Stmt} {ps : List Str} {f : Addr} {fd : FuncData} (Fu : Fun D.K x x st f fd) (hm : D.mg x = some (.ref f)) (hb : Binds D.K fd ps []) : DefOk D x st ps := ⟨f, fd, Fu, hm, hb⟩
theorem excOk_mk {x : Str} {C : Addr} (hm : D.mg x = some (.ref C)) (h1 : PySem.W.excIn D.K C [.type "ValueError", .type "Exception", .type "BaseException", .type "object"] "ValueError.__new__" = true) (h2 : PySem.W.keepIn D.K (.ref C) = true)
    (h3 : PySem.W.subIn D.K (.ref C) (.type "BaseException") = some true) (h4 : PySem.W.typeIn D.K (.ref C) = some (.type "type")) : ExcOk D x := ⟨C, hm, h1, h2, h3, h4⟩
theorem excT_mk {x c : Str} {C E : Addr} (hx : D.mg x = some (.ref E)) (hc : D.mg c = some (.ref C)) (h1 : PySem.W.subIn D.K (.ref C) (.type "BaseException") = some true) (h2 : PySem.W.hasDictIn D.K C = true) (h3 : PySem.W.typeIn D.K (.ref C) = some (.type "type"))
    (h4 : PySem.W.subIn D.K (.ref E) (.ref C) = some true) : ExcT D x c := ⟨_, _, hx, .inl hc, PySem.W.exm_ref h1 h2 h3 h4⟩
theorem excI_self {x : Str} {E : Addr} (hx : D.mg x = some (.ref E)) (hE : ExcC D.K E) : ExcI D x x true := by
  refine ⟨E, .ref E, _, hx, hE, rfl, fun u h => h, .inl hx, ?_⟩
  unfold PySem.W.kitOne
  rw [if_pos (by simp)]
theorem excI_ref {x c : Str} {E C : Addr} {b : Bool} (hx : D.mg x = some (.ref E)) (hE : ExcC D.K E) (hc : D.mg c = some (.ref C)) (h1 : PySem.W.isClsIn D.K C = true) (h2 : PySem.W.typeIn D.K (.ref C) = some (.type "type")) (h3 : PySem.W.subIn D.K (.ref E) (.ref C) = some b)
    (h4 : PySem.W.subIn D.K (.ref C) (.ref C) = some true) : ExcI D x c b := by
  refine ⟨E, .ref C, _, hx, hE, rfl, fun u h => h, .inl hc, ?_⟩
  unfold PySem.W.kitOne
  split
  · rename_i z
    have e : Value.ref E = Value.ref C := beq_iff_eq.mp z
    rw [e, h4] at h3
    exact h3
  · unfold PySem.W.kitCls
    have h1' : (PySem.W.clsIn D.K C).isSome = true := h1
    dsimp only
    rw [h1', h2, if_pos (by decide)]
    exact h3
theorem excI_ty {x : Str} {E : Addr} {T : String} {b : Bool} (hx : D.mg x = some (.ref E)) (hE : ExcC D.K E) (hc : D.mg (Str.ofString T) = none) (hb : bootBuiltins (Str.ofString T) = some (.type T)) (hn : Str.ofString T ≠ "__name__") (hk : PySem.W.kitMeta T = true)
    (h3 : PySem.W.subIn D.K (.ref E) (.type T) = some b) : ExcI D x (Str.ofString T) b := by
  refine ⟨E, .ty T, _, hx, hE, rfl, fun u h => h, .inr ⟨hc, hb, hn⟩, ?_⟩
  unfold PySem.W.kitOne
  rw [if_neg (by intro z; cases beq_iff_eq.mp z)]
  unfold PySem.W.kitCls
  dsimp only
  rw [if_pos hk]
  exact h3
theorem const_int {x : Str} {i : Int} (hm : ∃ t, D.mg x = some (.int i t)) : Const D x (.int i) := by
  obtain ⟨t, h⟩ := hm
  exact ⟨.int i, _, h, ⟨t, rfl⟩, fun _ _ => .int i⟩
end
end Pu
namespace Q01
open PySem PySem.Spec PyProof.Rows L2 Pu 
def topS (i : Nat) : Stmt := PySem.Challenge.pw_fractionparts_k01_fractions_made.main.body.getD i (.Pass ⟨0, 0, 0, 0⟩)
abbrev s_fraction : Stmt := topS 7
theorem sc_fraction : FnScope ["top", "bottom", "shared"] ["top", "bottom"] (defScope s_fraction) := ⟨rfl, rfl, rfl, by decide +kernel, rfl, by decide +kernel, by decide +kernel⟩
abbrev s_is_fraction : Stmt := topS 8
theorem sc_is_fraction : FnScope ["thing", "top", "bottom"] ["thing"] (defScope s_is_fraction) := ⟨rfl, rfl, rfl, by decide +kernel, rfl, by decide +kernel, by decide +kernel⟩
abbrev s__law_cell_at : Stmt := topS 10
theorem sc__law_cell_at : FnScope ["_law_script", "_law_k"] ["_law_script", "_law_k"] (defScope s__law_cell_at) := ⟨rfl, rfl, rfl, by decide +kernel, rfl, by decide +kernel, by decide +kernel⟩
abbrev s__law_stream : Stmt := topS 11
theorem sc__law_stream : FnScope ["_law_cell", "_law_many", "_law_found", "_law_number", "_law_k"] ["_law_cell", "_law_many"] (defScope s__law_stream) := ⟨rfl, rfl, rfl, by decide +kernel, rfl, by decide +kernel, by decide +kernel⟩
abbrev s__law_whole : Stmt := topS 12
theorem sc__law_whole : FnScope ["_law_found"] ["_law_found"] (defScope s__law_whole) := ⟨rfl, rfl, rfl, by decide +kernel, rfl, by decide +kernel, by decide +kernel⟩
abbrev s__law_divisor : Stmt := topS 13
theorem sc__law_divisor : FnScope ["_law_one", "_law_other"] ["_law_one", "_law_other"] (defScope s__law_divisor) := ⟨rfl, rfl, rfl, by decide +kernel, rfl, by decide +kernel, by decide +kernel⟩
abbrev s__law_fraction : Stmt := topS 14
theorem sc__law_fraction : FnScope ["_law_top", "_law_bottom", "_law_by"] ["_law_top", "_law_bottom"] (defScope s__law_fraction) := ⟨rfl, rfl, rfl, by decide +kernel, rfl, by decide +kernel, by decide +kernel⟩
abbrev s__law_is_fraction : Stmt := topS 15
theorem sc__law_is_fraction : FnScope ["_law_found"] ["_law_found"] (defScope s__law_is_fraction) := ⟨rfl, rfl, rfl, by decide +kernel, rfl, by decide +kernel, by decide +kernel⟩
abbrev s__law_whole_by : Stmt := topS 16
theorem sc__law_whole_by : FnScope ["_law_x", "_law_y", "_law_way"] ["_law_x", "_law_y"] (defScope s__law_whole_by) := ⟨rfl, rfl, rfl, by decide +kernel, rfl, by decide +kernel, by decide +kernel⟩
abbrev s__law_refused : Stmt := topS 17
theorem sc__law_refused : FnScope ["_law_top", "e", "_law_kinds"] ["_law_top"] (defScope s__law_refused) := ⟨rfl, rfl, rfl, by decide +kernel, rfl, by decide +kernel, by decide +kernel⟩
abbrev s__law_things : Stmt := topS 18
theorem sc__law_things : FnScope ["_law_top", "_law_bottom", "_law_big", "_law_things_here"] ["_law_top", "_law_bottom"] (defScope s__law_things) := ⟨rfl, rfl, rfl, by decide +kernel, rfl, by decide +kernel, by decide +kernel⟩
abbrev s_law : Stmt := topS 19
theorem sc_law : FnScope ["_law_script", "_law_xs", "_law_top", "_law_bottom", "_law_found", "_law_thing", "_law_told"] ["_law_script"] (defScope s_law) := ⟨rfl, rfl, rfl, by decide +kernel, rfl, by decide +kernel, by decide +kernel⟩
structure Txt (D : Wd) : Prop where
  n_abs : D.mg "abs" = none
  n_bool : D.mg "bool" = none
  n_int : D.mg "int" = none
  n_isinstance : D.mg "isinstance" = none
  n_len : D.mg "len" = none
  n_range : D.mg "range" = none
  n_tuple : D.mg "tuple" = none
  n_type : D.mg "type" = none
  m_gcd : D.mg "gcd" = some (.builtin "math.gcd")
  x_NoQuotient : ExcOk D "NoQuotient"
  x_NoRow : ExcOk D "NoRow"
  x_Nought : ExcOk D "Nought"
  x_PartError : ExcOk D "PartError"
  t_Nought_PartError : ExcT D "Nought" "PartError"
  i_Nought_NoRow : ExcI D "Nought" "NoRow" false
  i_Nought_NoQuotient : ExcI D "Nought" "NoQuotient" false
  i_Nought_ValueError : ExcI D "Nought" "ValueError" true
  i_Nought_Nought : ExcI D "Nought" "Nought" true
  d_fraction : DefOk D "fraction" s_fraction ["top", "bottom"]
  d_is_fraction : DefOk D "is_fraction" s_is_fraction ["thing"]
  d__law_cell_at : DefOk D "_law_cell_at" s__law_cell_at ["_law_script", "_law_k"]
  d__law_stream : DefOk D "_law_stream" s__law_stream ["_law_cell", "_law_many"]
  d__law_whole : DefOk D "_law_whole" s__law_whole ["_law_found"]
  d__law_divisor : DefOk D "_law_divisor" s__law_divisor ["_law_one", "_law_other"]
  d__law_fraction : DefOk D "_law_fraction" s__law_fraction ["_law_top", "_law_bottom"]
  d__law_is_fraction : DefOk D "_law_is_fraction" s__law_is_fraction ["_law_found"]
  d__law_whole_by : DefOk D "_law_whole_by" s__law_whole_by ["_law_x", "_law_y"]
  d__law_refused : DefOk D "_law_refused" s__law_refused ["_law_top"]
  d__law_things : DefOk D "_law_things" s__law_things ["_law_top", "_law_bottom"]
  d_law : DefOk D "law" s_law ["_law_script"]
variable {D : Wd}
/-- lowest terms -/
def lowS (a b : Int) : Int := if b < 0 then -((Nat.gcd a.natAbs b.natAbs : Nat) : Int) else ((Nat.gcd a.natAbs b.natAbs : Nat) : Int)
def lowT (a b : Int) : Int × Int := (a.fdiv (lowS a b), b.fdiv (lowS a b))
def frD (q : Int × Int) : PyData := .tuple [.int q.1, .int q.2]
def M31 : Int := 2147483647
/-- a fraction: lowest terms, the bottom from 1 on -/
def IsFr (q : Int × Int) : Prop := 0 < q.2 ∧ Nat.gcd q.1.natAbs q.2.natAbs = 1
theorem lowS_ne {a b : Int} (hb : b ≠ 0) : lowS a b ≠ 0 := by
  have hg0 : (Nat.gcd a.natAbs b.natAbs) ≠ 0 := fun h => hb (Int.natAbs_eq_zero.mp (Nat.eq_zero_of_gcd_eq_zero_right h))
  unfold lowS
  split <;> omega
theorem lowS_abs {a b : Int} : (lowS a b).natAbs = Nat.gcd a.natAbs b.natAbs := by
  unfold lowS
  split <;> omega
theorem lowT_eq {a b : Int} (hb : b ≠ 0) : (lowT a b).1 * lowS a b = a ∧ (lowT a b).2 * lowS a b = b := by
  have h1 : lowS a b ∣ a := by
    apply Int.natAbs_dvd_natAbs.mp
    rw [lowS_abs]
    exact Nat.gcd_dvd_left _ _
  have h2 : lowS a b ∣ b := by
    apply Int.natAbs_dvd_natAbs.mp
    rw [lowS_abs]
    exact Nat.gcd_dvd_right _ _
  unfold lowT
  exact ⟨Int.fdiv_mul_cancel h1, Int.fdiv_mul_cancel h2⟩
theorem lowT_isFr {a b : Int} (hb : b ≠ 0) : IsFr (lowT a b) := by
  obtain ⟨e1, e2⟩ := lowT_eq (a := a) hb
  have hs := lowS_ne (a := a) hb
  have hsg : 0 < b ↔ 0 < lowS a b := by
    have hg : 0 < Nat.gcd a.natAbs b.natAbs := Nat.pos_of_ne_zero fun h => hb (Int.natAbs_eq_zero.mp (Nat.eq_zero_of_gcd_eq_zero_right h))
    unfold lowS
    split <;> constructor <;> omega
  refine ⟨?_, ?_⟩
  · rcases Int.lt_trichotomy 0 (lowT a b).2 with h | h | h
    · exact h
    · rw [← h, Int.zero_mul] at e2; exact absurd e2.symm hb
    · exfalso
      rcases Int.lt_trichotomy 0 b with h3 | h3 | h3
      · have h4 := hsg.mp h3
        have := Int.mul_neg_of_neg_of_pos h h4
        omega
      · exact hb h3.symm
      · have h4 : lowS a b < 0 := by
          rcases Int.lt_trichotomy 0 (lowS a b) with q | q | q
          · have := hsg.mpr q; omega
          · exact absurd q.symm hs
          · exact q
        have := Int.mul_pos_of_neg_of_neg h h4
        omega
  · have h1 : Nat.gcd ((lowT a b).1 * lowS a b).natAbs ((lowT a b).2 * lowS a b).natAbs = (lowS a b).natAbs := by rw [e1, e2, lowS_abs]
    rw [Int.natAbs_mul, Int.natAbs_mul, Nat.gcd_mul_right] at h1
    have hp : 0 < (lowS a b).natAbs := Int.natAbs_pos.mpr hs
    exact Nat.eq_of_mul_eq_mul_right hp (by rw [h1, Nat.one_mul])
theorem fdiv_small {a s : Int} (hs : s ≠ 0) (hd : s ∣ a) : (a.fdiv s).natAbs ≤ a.natAbs := by
  have e := Int.fdiv_mul_cancel hd
  have h : a.natAbs = (a.fdiv s).natAbs * s.natAbs := by rw [← Int.natAbs_mul, e]
  rw [h]
  exact Nat.le_mul_of_pos_right _ (Int.natAbs_pos.mpr hs)
theorem lowT_small {a b : Int} (hb : b ≠ 0) : (lowT a b).1.natAbs ≤ a.natAbs ∧ (lowT a b).2.natAbs ≤ b.natAbs := by
  have hs := lowS_ne (a := a) hb
  refine ⟨fdiv_small hs (Int.natAbs_dvd_natAbs.mp (by rw [lowS_abs]; exact Nat.gcd_dvd_left _ _)), fdiv_small hs (Int.natAbs_dvd_natAbs.mp (by rw [lowS_abs]; exact Nat.gcd_dvd_right _ _))⟩
def Φ_fraction (Fn : List PyData → R PyData) : Prop := (∀ a : Int, Fn [.int a, .int 0] = .ex "Nought") ∧ ∀ a b : Int, b ≠ 0 → b.natAbs < 2 ^ 8000 → Fn [.int a, .int b] = .ok (frD (lowT a b))
theorem spec_fraction (T : Txt D) : Spec D 1 "fraction" 2 Φ_fraction := by
  refine ⟨_, fn_of' T.d_fraction sc_fraction (pub_cons (pus_if [] (purt_cmp (pur_var 1) pur_int) (pub_one (pus_raise T.x_Nought)) pub_nil)
    (pub_cons (pus_set 2 [] (pur_bltI blt_gcd T.m_gcd (pura_cons (pur_var 0) (pura_cons (pur_var 1) pura_nil))))
    (pub_cons (pus_if [] (purt_cmp (pur_var 1) pur_int) (pub_one (pus_set 2 [] (pur_neg (pur_var 2)))) pub_nil)
    (pub_one (pus_ret [] (pur_tup (pura_cons (pur_bin (pur_var 0) (pur_var 2)) (pura_cons (pur_bin (pur_var 1) (pur_var 2)) pura_nil)))))))), ?_⟩
  refine ⟨fun a => rfl, fun a b hb hs => ?_⟩
  have hs' : (lowS a b).natAbs < 2 ^ 8000 := by
    rw [lowS_abs]
    exact Nat.lt_of_le_of_lt (Nat.gcd_le_right _ (by omega)) hs
  have d1 : ∀ x : Int, divOk x (lowS a b) = true := fun x => divOk_of (b := 8000) (lowS_ne hb) hs' (by decide) (by decide)
  unfold lowS at d1
  by_cases h : b < 0
  · simp [h] at d1
    simp -implicitDefEqProofs [runD, startE, cmpV, boolOf, hb, h, storeV, lf, opV, d1, szOk_of, frD, lowT, lowS]
  · simp [h] at d1
    simp -implicitDefEqProofs [runD, startE, cmpV, boolOf, hb, h, storeV, lf, opV, d1, szOk_of, frD, lowT, lowS]
/-- what is_fraction tells of a datum -/
def isFrB : PyData → Bool
  | .tuple [.int a, .int b] => decide (1 ≤ b) && decide (Nat.gcd a.natAbs b.natAbs = 1)
  | _ => false
def Φ_is_fraction (Fn : List PyData → R PyData) : Prop := ∀ d, Fn [d] = .ok (.bool (isFrB d))
theorem spec_is_fraction (T : Txt D) : Spec D 1 "is_fraction" 1 Φ_is_fraction := by
  refine ⟨_, fn_of' T.d_is_fraction sc_is_fraction (pub_cons (pus_if [] (purt_w (purw_or (purt_typeNot (T := "tuple") T.n_type T.n_tuple (pur_var 0)) (purw_or1 (purt_cmp (pur_blt blt_len T.n_len (pura_cons (pur_var 0) pura_nil)) pur_int)))) (pub_one (pus_ret [] pur_bool)) pub_nil)
    (pub_cons (pus_asg [] (pur_var 0) (pug_tup (n := 2) (pugs_cons (pug_name 1) (pugs_cons (pug_name 2) pugs_nil))))
    (pub_cons (pus_if [] (purt_w (purw_or (purt_typeNot (T := "int") T.n_type T.n_int (pur_var 1)) (purw_or1 (purt_typeNot (T := "int") T.n_type T.n_int (pur_var 2))))) (pub_one (pus_ret [] pur_bool)) pub_nil)
    (pub_one (pus_ret [] (pur_and (pur_cmp (pur_var 2) pur_int) (pur_one (pur_cmp (pur_bltI blt_gcd T.m_gcd (pura_cons (pur_var 1) (pura_cons (pur_var 2) pura_nil))) pur_int)))))))), ?_⟩
  intro d
  cases d with
  | tuple ds =>
    rcases ds with _ | ⟨a, _ | ⟨b, _ | ⟨c, ds⟩⟩⟩
    · simp -implicitDefEqProofs [runD, startE, cmpV, boolOf, isFrB]
    · simp -implicitDefEqProofs [runD, startE, cmpV, boolOf, isFrB]
    · cases a <;> cases b <;> simp -implicitDefEqProofs [runD, startE, cmpV, boolOf, isFrB]
      rename_i a b
      by_cases h : 1 ≤ b
      · have : (((Nat.gcd a.natAbs b.natAbs : Nat) : Int) = 1) ↔ (Nat.gcd a.natAbs b.natAbs = 1) := by omega
        simp [truth, h, this]
      · simp [truth, h]
    · have : ¬ ((ds.length : Int) + 1 + 1 + 1 = 2) := by omega
      simp -implicitDefEqProofs [runD, startE, cmpV, boolOf, isFrB, this]
  | _ => simp -implicitDefEqProofs [runD, startE, cmpV, boolOf, isFrB]
def Φ__law_cell_at (Fn : List PyData → R PyData) : Prop := ∀ (xs : List Int) (k : Nat), Fn [.list (xs.map .int), .int k] = .ok (.int (xs.getD k 0))
theorem spec__law_cell_at (T : Txt D) : Spec D 1 "_law_cell_at" 2 Φ__law_cell_at := by
  refine ⟨_, fn_of' T.d__law_cell_at sc__law_cell_at (pub_cons (pus_if [] (purt_cmp (pur_var 1) (pur_blt blt_len T.n_len (pura_cons (pur_var 0) pura_nil))) (pub_one (pus_ret [] (pur_ix (pur_var 0) (pur_var 1)))) pub_nil)
    (pub_one (pus_ret [] pur_int))), ?_⟩
  intro xs k
  by_cases h : k < xs.length
  · have e : atI (xs.map PyData.int) (k : Int) = some (.int (xs.getD k 0)) := atI_nat (by simp [h])
    simp -implicitDefEqProofs [runD, startE, cmpV, boolOf, h, e]
  · simp -implicitDefEqProofs [runD, startE, cmpV, boolOf, h, SR.seq]
def Φ__law_stream (Fn : List PyData → R PyData) : Prop := ∀ (c : Int) (many : Nat), many ≤ 1000 → ∃ xs : List Int, xs.length = many ∧ (∀ x ∈ xs, 0 ≤ x ∧ x < M31) ∧ Fn [.int c, .int many] = .ok (.list (xs.map .int))
theorem spec__law_stream (T : Txt D) : Spec D 1 "_law_stream" 2 Φ__law_stream := by
  refine ⟨_, fn_of' T.d__law_stream sc__law_stream (pub_cons (pus_setL 2 [] (purl_lst pura_nil))
    (pub_cons (pus_set 3 [] (pur_bin (pur_bin (pur_var 0) pur_int) pur_int))
    (pub_cons (pus_for [] (puri_range1 T.n_range (pura_cons (pur_bin (pur_var 1) pur_int) pura_nil)) (pug_name 4) (pub_cons (pus_set 3 [] (pur_bin (pur_bin (pur_bin (pur_bin (pur_var 3) (pur_var 3)) (pur_bin pur_int (pur_var 3))) (pur_var 4)) pur_int))
    (pub_one (pus_append 2 [2] (pur_var 3)))))
    (pub_one (pus_ret [2] (pur_slice (pur_var 2) (puro_some pur_int) puro_none)))))), ?_⟩
  intro c many hm
  have e0 : rngOk ((many : Int) + 1) = true := by
    unfold rngOk
    simp only [Bool.and_eq_true, decide_eq_true_eq]
    omega
  have n0 : c.fmod 2147483647 = c % 2147483647 := fmod_pos (by decide)
  refine runD_ret_ex ?_
  simp -implicitDefEqProofs [startE, storeV, storeL, lf, lfA, opV, range1F, e0, szOk_of]
  generalize hF : forD _ _ _ _ = r
  have := forD_rule hF (fun i se => ∃ (acc : List Int) (x : Int) (o : Option (PyData × Bool)), acc.length = i ∧ (∀ y ∈ acc, 0 ≤ y ∧ y < M31) ∧ 0 ≤ x ∧ x < 2147531918 ∧
      se = [some (.int c, false), some (.int many, false), some (.list (acc.map .int), true), some (.int x, false), o])
    (fun r => ∃ (acc : List Int) (x : Int) (o : Option (PyData × Bool)), acc.length = many + 1 ∧ (∀ y ∈ acc, 0 ≤ y ∧ y < M31) ∧
      r = .next [some (.int c, false), some (.int many, false), some (.list (acc.map .int), true), some (.int x, false), o])
    ⟨[], _, none, rfl, by simp, by rw [n0]; have := Int.emod_nonneg c (show (2147483647 : Int) ≠ 0 by decide); omega, by rw [n0]; have := Int.emod_lt_of_pos c (show (0 : Int) < 2147483647 by decide); omega, rfl⟩ ?_ ?_
  · obtain ⟨acc, x, o, hl, hb, rfl⟩ := this
    refine ⟨acc.drop 1, by simp [hl], fun y hy => hb y (List.mem_of_mem_drop hy), ?_⟩
    have e1 : Pu.cutD (acc.map PyData.int) (some 1) none = (acc.drop 1).map .int := by
      unfold Pu.cutD
      rw [show HT.sIx (acc.map PyData.int).length 0 (some 1) = min 1 (acc.map PyData.int).length from HT.sIx_nat _ 0 1, HT.sIx_none]
      have : min 1 (acc.map PyData.int).length = 1 := by simp; omega
      rw [this, List.map_drop]
      exact List.take_of_length_le (by simp)
    simp -implicitDefEqProofs [e1]
  · rintro i d se hi ⟨acc, x, o, hl, hb, hx0, hx1, rfl⟩
    obtain ⟨hlt, rfl⟩ := upFrom_get hi
    have hi' : i < many + 1 := by simpa using hlt
    refine ⟨_, rfl, ?_⟩
    have hxx : 0 ≤ x * x := Int.mul_nonneg hx0 hx0
    have m1 : mulOk x x = true := mulOk_l (by omega)
    have m2 : mulOk 48271 x = true := mulOk_l (by decide)
    have hl1 : szOk (i + 1) = true := szOk_of (by omega)
    generalize ez : (x * x + 48271 * x + (i : Int)).fmod 2147483647 = z
    have zb : 0 ≤ z ∧ z < M31 := by
      rw [← ez, fmod_pos (by decide)]
      exact ⟨Int.emod_nonneg _ (by decide), Int.emod_lt_of_pos _ (by decide)⟩
    refine stepQ_next [some (.int c, false), some (.int many, false), some (.list ((acc ++ [z]).map .int), true), some (.int z, false), some (.int (0 + (i : Int)), false)] ?_
      ⟨acc ++ [z], z, _, by simp [hl], ?_, zb.1, by have := zb.2; unfold M31 at this; omega, rfl⟩
    · simp -implicitDefEqProofs [lf, opV, m1, m2, ez, hl, hl1]
    intro y hy
    rcases List.mem_append.mp hy with h | h
    · exact hb y h
    · simp at h
      subst h
      exact zb
  · rintro se ⟨acc, x, o, hl, hb, hx0, hx1, rfl⟩
    refine ⟨acc, x, o, ?_, hb, rfl⟩
    rw [hl, upFrom_len]
def Φ__law_whole (Fn : List PyData → R PyData) : Prop := ∀ d, Fn [d] = .ok (.bool (match d with | .int _ => true | _ => false))
theorem spec__law_whole (T : Txt D) : Spec D 1 "_law_whole" 1 Φ__law_whole := by
  refine ⟨_, fn_of' T.d__law_whole sc__law_whole (pub_one (pus_ret [] (pur_and (pur_isa (T := "int") T.n_isinstance T.n_int (pur_var 0)) (pur_one (pur_not (pur_isa (T := "bool") T.n_isinstance T.n_bool (pur_var 0))))))), ?_⟩
  have k1 : ∀ d : PyData, isA "int" d = .ok (.bool (match d with | .int _ => true | .bool _ => true | _ => false)) := by
    intro d
    cases d <;> rfl
  have k2 : ∀ d : PyData, isA "bool" d = .ok (.bool (match d with | .bool _ => true | _ => false)) := by
    intro d
    cases d <;> rfl
  intro d
  cases d <;> simp -implicitDefEqProofs [runD, startE, k1, k2, truth]
def Φ__law_divisor (Fn : List PyData → R PyData) : Prop := ∀ a b : Nat, Fn [.int a, .int b] = .ok (.int ((Nat.gcd a b : Nat) : Int))
theorem spec__law_divisor (T : Txt D) : Spec D 1 "_law_divisor" 2 Φ__law_divisor := by
  refine ⟨_, fn_of' T.d__law_divisor sc__law_divisor (pub_cons (pus_while [] (purt_cmp (pur_var 0) pur_int) (pub_one (pus_par 0 1 [] (pur_bin (pur_var 1) (pur_var 0)) (pur_var 0))))
    (pub_one (pus_ret [] (pur_var 1)))), ?_⟩
  intro a b
  simp -implicitDefEqProofs [runD, startE, SR.seq]
  generalize hF : whileD _ _ _ = r
  have := whileD_rule hF (fun se => ∃ x y : Nat, se = [some (.int x, false), some (.int y, false)] ∧ Nat.gcd x y = Nat.gcd a b)
    (fun r => r = .next [some (.int 0, false), some (.int ((Nat.gcd a b : Nat) : Int), false)])
    (fun se => match se with | some (.int x, _) :: _ => x.toNat | _ => 0) ⟨a, b, rfl, rfl⟩ ?_
  · subst this
    simp []
  · rintro se ⟨x, y, rfl, hg⟩
    by_cases hx : 0 < x
    · refine ⟨true, by simp [cmpV, boolOf, hx], (fun h => by cases h), fun _ => ?_⟩
      have hx' : ((x : Int)) ≠ 0 := by omega
      have e : (y : Int).fmod (x : Int) = ((y % x : Nat) : Int) := by rw [fmod_pos (by omega)]; rfl
      refine stepQ_next [some (.int ((y % x : Nat) : Int), false), some (.int x, false)] ?_ ⟨⟨y % x, x, rfl, ?_⟩, ?_⟩
      · simp only [view, getV, List.getElem?_cons_zero, List.getElem?_cons_succ, R.bind, opV, hx', if_false, e, lf, List.set]
        rfl
      · rw [← hg]
        exact (Nat.gcd_rec x y).symm
      · show ((y % x : Nat) : Int).toNat < (x : Int).toNat
        have := Nat.mod_lt y hx
        omega
    · have h0 : x = 0 := by omega
      subst h0
      refine ⟨false, by simp [cmpV, boolOf], fun _ => ?_, (fun h => by cases h)⟩
      rw [Nat.gcd_zero_left] at hg
      rw [hg]
      rfl
def Φ__law_is_fraction (Fn : List PyData → R PyData) : Prop := ∀ d, Fn [d] = .ok (.bool (isFrB d))
theorem spec__law_is_fraction (T : Txt D) : Spec D 2 "_law_is_fraction" 1 Φ__law_is_fraction := by
  obtain ⟨F__law_whole, S__law_whole, h__law_whole⟩ := spec__law_whole T
  obtain ⟨F__law_divisor, S__law_divisor, h__law_divisor⟩ := spec__law_divisor T
  refine ⟨_, fn_of' T.d__law_is_fraction sc__law_is_fraction (pub_cons (pus_if [] (purt_w (purw_or (purt_not (purt_val (pur_isa (T := "tuple") T.n_isinstance T.n_tuple (pur_var 0)))) (purw_or (purt_cmp (pur_blt blt_len T.n_len (pura_cons (pur_var 0) pura_nil)) pur_int) (purw_or (purt_not (purt_val (pur_call S__law_whole (pura_cons (pur_ix (pur_var 0) pur_int) pura_nil)))) (purw_or1 (purt_not (purt_val (pur_call S__law_whole (pura_cons (pur_ix (pur_var 0) pur_int) pura_nil))))))))) (pub_one (pus_ret [] pur_bool)) pub_nil)
    (pub_one (pus_ret [] (pur_and (pur_cmp (pur_ix (pur_var 0) pur_int) pur_int) (pur_one (pur_cmp (pur_call S__law_divisor (pura_cons (pur_blt blt_abs T.n_abs (pura_cons (pur_ix (pur_var 0) pur_int) pura_nil)) (pura_cons (pur_ix (pur_var 0) pur_int) pura_nil))) pur_int)))))), ?_⟩
  have k1 : ∀ d : PyData, isA "tuple" d = .ok (.bool (match d with | .tuple _ => true | _ => false)) := by
    intro d
    cases d <;> rfl
  have hw := h__law_whole
  unfold Φ__law_whole at hw
  intro d
  cases d with
  | tuple ds =>
    rcases ds with _ | ⟨a, _ | ⟨b, _ | ⟨c, ds⟩⟩⟩
    · simp -implicitDefEqProofs [runD, startE, k1, truth, cmpV, boolOf, isFrB]
    · simp -implicitDefEqProofs [runD, startE, k1, truth, cmpV, boolOf, isFrB]
    · have i0 : atI [a, b] 0 = some a := rfl
      have i1 : atI [a, b] 1 = some b := rfl
      cases a <;> cases b <;> simp -implicitDefEqProofs [runD, startE, k1, truth, cmpV, boolOf, isFrB, i0, i1, hw]
      rename_i a b
      by_cases h : 1 ≤ b
      · have h2 : 0 < b := by omega
        obtain ⟨n, rfl⟩ : ∃ n : Nat, b = n := ⟨b.toNat, by omega⟩
        have ha : (if a < 0 then -a else a) = ((a.natAbs : Nat) : Int) := by split <;> omega
        have hd := h__law_divisor a.natAbs n
        have h3 : 0 < n := by omega
        simp [h, h2, h3, ha, hd]
        have : (((Nat.gcd a.natAbs n : Nat) : Int) = 1) ↔ (Nat.gcd a.natAbs n = 1) := by omega
        simp [this]
      · have h2 : ¬ 0 < b := by omega
        simp [h, h2]
    · have : ¬ ((ds.length : Int) + 1 + 1 + 1 = 2) := by omega
      simp -implicitDefEqProofs [runD, startE, k1, truth, cmpV, boolOf, isFrB, this]
  | _ => simp -implicitDefEqProofs [runD, startE, k1, truth, cmpV, boolOf, isFrB]
def Φ__law_fraction (Fn : List PyData → R PyData) : Prop := ∀ a b : Int, b ≠ 0 → b.natAbs < 2 ^ 8000 → Fn [.int a, .int b] = .ok (frD (lowT a b))
theorem lowT_neg {a b : Int} (hb : 0 < b) : lowT (-a) b = ((-(lowT a b).1), (lowT a b).2) := by
  have hn : ¬ b < 0 := by omega
  have hg : 0 < Nat.gcd a.natAbs b.natAbs := Nat.pos_of_ne_zero fun h => by have := Nat.eq_zero_of_gcd_eq_zero_right h; omega
  have hd : ((Nat.gcd a.natAbs b.natAbs : Nat) : Int) ∣ a := Int.natAbs_dvd_natAbs.mp (by rw [Int.natAbs_natCast]; exact Nat.gcd_dvd_left _ _)
  unfold lowT lowS
  rw [if_neg hn, if_neg hn, Int.natAbs_neg]
  generalize ((Nat.gcd a.natAbs b.natAbs : Nat) : Int) = s at hd
  obtain ⟨q, rfl⟩ := hd
  by_cases hs : s = 0
  · subst hs; simp
  · rw [Int.mul_fdiv_cancel_left _ hs, ← Int.mul_neg, Int.mul_fdiv_cancel_left _ hs]
theorem lowT_negneg {a b : Int} (hb : b < 0) : lowT (-a) (-b) = lowT a b := by
  have hn : ¬ (-b) < 0 := by omega
  have hd : ((Nat.gcd a.natAbs b.natAbs : Nat) : Int) ∣ a := Int.natAbs_dvd_natAbs.mp (by rw [Int.natAbs_natCast]; exact Nat.gcd_dvd_left _ _)
  have hd2 : ((Nat.gcd a.natAbs b.natAbs : Nat) : Int) ∣ b := Int.natAbs_dvd_natAbs.mp (by rw [Int.natAbs_natCast]; exact Nat.gcd_dvd_right _ _)
  unfold lowT lowS
  rw [if_pos hb, if_neg hn, Int.natAbs_neg, Int.natAbs_neg]
  generalize ((Nat.gcd a.natAbs b.natAbs : Nat) : Int) = s at hd hd2
  obtain ⟨q, rfl⟩ := hd
  obtain ⟨r, rfl⟩ := hd2
  by_cases hs : s = 0
  · subst hs; simp
  · have hs' : -s ≠ 0 := by omega
    have e1 : s * q = -s * -q := by rw [Int.neg_mul_neg]
    have e2 : s * r = -s * -r := by rw [Int.neg_mul_neg]
    have f1 : (s * q).fdiv (-s) = -q := by rw [e1]; exact Int.mul_fdiv_cancel_left _ hs'
    have f2 : (s * r).fdiv (-s) = -r := by rw [e2]; exact Int.mul_fdiv_cancel_left _ hs'
    have g1 : (-(s * q)).fdiv s = -q := by rw [← Int.mul_neg]; exact Int.mul_fdiv_cancel_left _ hs
    have g2 : (-(s * r)).fdiv s = -r := by rw [← Int.mul_neg]; exact Int.mul_fdiv_cancel_left _ hs
    rw [f1, f2, g1, g2]
theorem spec__law_fraction (T : Txt D) : Spec D 2 "_law_fraction" 2 Φ__law_fraction := by
  obtain ⟨F__law_divisor, S__law_divisor, h__law_divisor⟩ := spec__law_divisor T
  refine ⟨_, fn_of' T.d__law_fraction sc__law_fraction (pub_cons (pus_if [] (purt_cmp (pur_var 1) pur_int) (pub_cons (pus_set 0 [] (pur_neg (pur_var 0)))
    (pub_one (pus_set 1 [] (pur_neg (pur_var 1))))) pub_nil)
    (pub_cons (pus_set 2 [] (pur_call S__law_divisor (pura_cons (pur_blt blt_abs T.n_abs (pura_cons (pur_var 0) pura_nil)) (pura_cons (pur_var 1) pura_nil))))
    (pub_one (pus_ret [] (pur_tup (pura_cons (pur_bin (pur_var 0) (pur_var 2)) (pura_cons (pur_bin (pur_var 1) (pur_var 2)) pura_nil))))))), ?_⟩
  have pos : ∀ a b : Int, 0 < b → b.natAbs < 2 ^ 8000 → ∃ g : Int, F__law_divisor [.int (if a < 0 then -a else a), .int b] = .ok (.int g) ∧ (∀ x, divOk x g = true) ∧ lowT a b = (a.fdiv g, b.fdiv g) := by
    intro a b hb hs
    have hbn : ¬ b < 0 := by omega
    obtain ⟨n, rfl⟩ : ∃ n : Nat, b = n := ⟨b.toNat, by omega⟩
    have ha : (if a < 0 then -a else a) = ((a.natAbs : Nat) : Int) := by split <;> omega
    have hn : 0 < n := by omega
    have hg : 0 < Nat.gcd a.natAbs n := Nat.pos_of_ne_zero fun h => by have := Nat.eq_zero_of_gcd_eq_zero_right h; omega
    refine ⟨_, by rw [ha]; exact h__law_divisor a.natAbs n, fun x => divOk_of (b := 8000) (by omega) ?_ (by decide) (by decide), ?_⟩
    · rw [Int.natAbs_natCast]
      exact Nat.lt_of_le_of_lt (Nat.gcd_le_right _ hn) (by simpa using hs)
    · unfold lowT lowS
      rw [if_neg hbn, Int.natAbs_natCast]
  intro a b hb hs
  refine runD_ret ?_
  by_cases h : b < 0
  · obtain ⟨g, e1, e2, e3⟩ := pos (-a) (-b) (by omega) (by rw [Int.natAbs_neg]; exact hs)
    rw [lowT_negneg h] at e3
    simp at e1
    simp -implicitDefEqProofs [startE, cmpV, boolOf, h, storeV, lf, opV, e1, e2, szOk_of, frD, e3]
  · obtain ⟨g, e1, e2, e3⟩ := pos a b (by omega) hs
    simp -implicitDefEqProofs [startE, cmpV, boolOf, h, storeV, lf, opV, e1, e2, szOk_of, frD, e3]
def Φ__law_refused (Fn : List PyData → R PyData) : Prop := ∀ t : Int, Fn [.int t] = .ok (.bool true)
theorem spec__law_refused (T : Txt D) : Spec D 2 "_law_refused" 1 Φ__law_refused := by
  obtain ⟨F_fraction, S_fraction, h_fraction⟩ := spec_fraction T
  refine ⟨_, fn_of' T.d__law_refused sc__law_refused (pub_cons (pus_tryAs1 1 "Nought" (pub_one (pus_expr [] (pur_call S_fraction (pura_cons (pur_var 0) (pura_cons pur_int pura_nil))))) T.t_Nought_PartError (sui_set 2 [] (purx_lst (purxa_cons (purx_isE T.i_Nought_NoRow T.n_isinstance) (purxa_cons (purx_isE T.i_Nought_NoQuotient T.n_isinstance) purxa_nil))) (sui_ret [] (purx_and (purx_isE T.i_Nought_Nought T.n_isinstance) (purx_and (purx_isE T.i_Nought_ValueError T.n_isinstance) (purx_one (purx_of (pur_cmp (pur_var 2) (pur_lst (pura_cons pur_bool (pura_cons pur_bool pura_nil)))))))))))
    (pub_one (pus_ret [] pur_bool))), ?_⟩
  intro t
  refine runD_ret ?_
  have e1 : SeqAt.shaped (.list [.bool false, .bool false]) = true := by decide
  have e2 : PyData.eqv (.list [.bool false, .bool false]) (.list [.bool false, .bool false]) = true := by decide
  simp -implicitDefEqProofs [startE, h_fraction.1 t, szOk_of, storeV, lf, lfA, truth, cmpV, e1, e2]
def Φ__law_whole_by (Fn : List PyData → R PyData) : Prop := ∀ x y : Int, 0 ≤ x → x < M31 → 0 ≤ y → y < M31 → ∃ z : Int, z.natAbs < 2 ^ 64 ∧ Fn [.int x, .int y] = .ok (.int z)
theorem spec__law_whole_by (T : Txt D) : Spec D 1 "_law_whole_by" 2 Φ__law_whole_by := by
  refine ⟨_, fn_of' T.d__law_whole_by sc__law_whole_by (pub_cons (pus_set 2 [] (pur_bin (pur_var 0) pur_int))
    (pub_cons (pus_if [] (purt_cmp (pur_var 2) pur_int) (pub_one (pus_ret [] (pur_bin (pur_bin (pur_bin (pur_var 0) pur_int) pur_int) pur_int))) pub_nil)
    (pub_cons (pus_if [] (purt_cmp (pur_var 2) pur_int) (pub_one (pus_ret [] (pur_bin (pur_bin (pur_bin (pur_var 0) pur_int) pur_int) pur_int))) pub_nil)
    (pub_one (pus_ret [] (pur_bin (pur_bin (pur_bin (pur_var 0) (pur_var 1)) (pur_bin (pur_bin pur_int (pur_bin pur_int pur_int)) pur_int)) (pur_bin pur_int pur_int))))))), ?_⟩
  intro x y hx0 hx1 hy0 hy1
  unfold M31 at hx1 hy1
  have d4 : divOk x 4 = true := divOk_of (b := 8) (by decide) (by decide) (by decide) (by decide)
  have m1 : mulOk x y = true := mulOk_l (by omega)
  have m2 : mulOk 2 1000000000000000000 = true := mulOk_l (by decide)
  refine runD_ret_ex1 ?_
  by_cases h1 : x.fmod 4 < 2
  · refine ⟨(x.fdiv 4).fmod 61 - 30, ?_, ?_⟩
    · rw [fmod_pos (by decide)]
      have := Int.emod_nonneg (x.fdiv 4) (show (61 : Int) ≠ 0 by decide)
      have := Int.emod_lt_of_pos (x.fdiv 4) (show (0 : Int) < 61 by decide)
      omega
    · simp -implicitDefEqProofs [startE, storeV, lf, opV, cmpV, boolOf, h1, d4]
  · by_cases h2 : x.fmod 4 = 2
    · refine ⟨(x.fdiv 4).fmod 20001 - 10000, ?_, ?_⟩
      · rw [fmod_pos (by decide)]
        have := Int.emod_nonneg (x.fdiv 4) (show (20001 : Int) ≠ 0 by decide)
        have := Int.emod_lt_of_pos (x.fdiv 4) (show (0 : Int) < 20001 by decide)
        omega
      · simp -implicitDefEqProofs [startE, storeV, lf, opV, cmpV, boolOf, h1, h2, d4]
    · refine ⟨(x * y).fmod 2000000000000000001 - 1000000000000000000, ?_, ?_⟩
      · rw [fmod_pos (by decide)]
        have := Int.emod_nonneg (x * y) (show (2000000000000000001 : Int) ≠ 0 by decide)
        have := Int.emod_lt_of_pos (x * y) (show (0 : Int) < 2000000000000000001 by decide)
        omega
      · simp -implicitDefEqProofs [startE, storeV, lf, opV, cmpV, boolOf, h1, h2, d4, m1, m2]
def Φ__law_things (Fn : List PyData → R PyData) : Prop := ∀ t : Int, ∀ d, ∃ ds : List PyData, ds.length = 18 ∧ Fn [.int t, d] = .ok (.list ds)
theorem spec__law_things (T : Txt D) : Spec D 1 "_law_things" 2 Φ__law_things := by
  refine ⟨_, fn_of' T.d__law_things sc__law_things (pub_cons (pus_set 2 [] (pur_bin (pur_blt blt_abs T.n_abs (pura_cons (pur_var 0) pura_nil)) pur_int))
    (pub_cons (pus_set 3 [] (pur_lst (pura_cons (pur_tup (pura_cons pur_int (pura_cons pur_int pura_nil))) (pura_cons (pur_tup (pura_cons (pur_var 2) (pura_cons pur_int pura_nil))) (pura_cons (pur_tup (pura_cons (pur_neg (pur_var 2)) (pura_cons pur_int pura_nil))) (pura_cons (pur_tup (pura_cons pur_int (pura_cons (pur_var 2) pura_nil))) (pura_cons (pur_tup (pura_cons pur_int (pura_cons pur_int pura_nil))) (pura_cons (pur_tup (pura_cons (pur_var 2) (pura_cons pur_int pura_nil))) (pura_cons (pur_tup (pura_cons pur_int (pura_cons (pur_neg (pur_var 2)) pura_nil))) (pura_cons (pur_tup (pura_cons (pur_bin (pur_var 2) pur_int) (pura_cons pur_int pura_nil))) (pura_cons (pur_tup (pura_cons pur_bool (pura_cons pur_int pura_nil))) (pura_cons (pur_tup (pura_cons pur_int (pura_cons pur_bool pura_nil))) pura_nil))))))))))))
    (pub_cons (pus_set 3 [] (pur_bin (pur_var 3) (pur_lst (pura_cons (pur_lst (pura_cons pur_int (pura_cons pur_int pura_nil))) (pura_cons (pur_tup (pura_cons pur_int pura_nil)) (pura_cons (pur_tup (pura_cons pur_int (pura_cons pur_int (pura_cons pur_int pura_nil)))) (pura_cons pur_none (pura_cons pur_int (pura_cons pur_str (pura_cons (pur_tup (pura_cons pur_none (pura_cons pur_int pura_nil))) (pura_cons (pur_tup (pura_cons pur_int (pura_cons pur_str pura_nil))) pura_nil)))))))))))
    (pub_one (pus_ret [] (pur_var 3)))))), ?_⟩
  intro t d
  have m1 : mulOk ((if t < 0 then -t else t) + 2) 2 = true := mulOk_r (by decide)
  refine runD_ret_ex1 ?_
  simp -implicitDefEqProofs [startE, storeV, lf, lfA, opV, szOk_of, m1]
theorem isFr_is {q : Int × Int} (h : IsFr q) : isFrB (frD q) = true := by
  have := h.1
  have h2 := h.2
  simp [frD, isFrB, h2]
  omega
theorem isFr_3 {q : Int × Int} (h : IsFr q) : isFrB (.tuple [.int (q.1 * 3), .int (q.2 * 3)]) = false := by
  have h2 := h.2
  have : Nat.gcd (q.1 * 3).natAbs (q.2 * 3).natAbs = 3 := by
    rw [Int.natAbs_mul, Int.natAbs_mul, Nat.gcd_mul_right, h2]
    decide
  simp [isFrB, this]
theorem lowT_cross {a b : Int} (hb : b ≠ 0) : (lowT a b).1 * b = a * (lowT a b).2 := by
  obtain ⟨e1, e2⟩ := lowT_eq (a := a) hb
  generalize lowT a b = q at *
  generalize lowS a b = s at *
  rw [← e1, ← e2, Int.mul_comm q.2 s, Int.mul_assoc]
theorem len6 {α : Type} {xs : List α} (h : xs.length = 6) : ∃ a b c d e f, xs = [a, b, c, d, e, f] := by
  match xs, h with
  | [a, b, c, d, e, f], _ => exact ⟨a, b, c, d, e, f, rfl⟩
theorem spec_law (T : Txt D) : LawOk D 3 "law" s_law "_law_script" := by
  obtain ⟨F__law_stream, S__law_stream, h__law_stream⟩ := spec__law_stream T
  obtain ⟨F__law_whole_by, S__law_whole_by, h__law_whole_by⟩ := spec__law_whole_by T
  obtain ⟨F_fraction, S_fraction, h_fraction⟩ := spec_fraction T
  obtain ⟨F_is_fraction, S_is_fraction, h_is_fraction⟩ := spec_is_fraction T
  obtain ⟨F__law_cell_at, S__law_cell_at, h__law_cell_at⟩ := spec__law_cell_at T
  obtain ⟨F__law_refused, S__law_refused, h__law_refused⟩ := spec__law_refused T
  obtain ⟨F__law_things, S__law_things, h__law_things⟩ := spec__law_things T
  obtain ⟨F__law_is_fraction, S__law_is_fraction, h__law_is_fraction⟩ := spec__law_is_fraction T
  refine law_of sc_law (pub_cons (pus_set 1 [] (pur_call S__law_stream (pura_cons (pur_call S__law_cell_at (pura_cons (pur_var 0) (pura_cons pur_int pura_nil))) (pura_cons pur_int pura_nil))))
    (pub_cons (pus_set 2 [] (pur_call S__law_whole_by (pura_cons (pur_ix (pur_var 1) pur_int) (pura_cons (pur_ix (pur_var 1) pur_int) pura_nil))))
    (pub_cons (pus_set 3 [] (pur_call S__law_whole_by (pura_cons (pur_ix (pur_var 1) pur_int) (pura_cons (pur_ix (pur_var 1) pur_int) pura_nil))))
    (pub_cons (pus_if [] (purt_cmp (pur_bin (pur_ix (pur_var 1) pur_int) pur_int) pur_int) (pub_cons (pus_set 2 [] (pur_bin (pur_var 2) (pur_bin pur_int (pur_bin (pur_ix (pur_var 1) pur_int) pur_int))))
    (pub_one (pus_set 3 [] (pur_bin (pur_var 3) (pur_bin pur_int (pur_bin (pur_ix (pur_var 1) pur_int) pur_int)))))) pub_nil)
    (pub_cons (pus_if [] (purt_w (purw_or (purt_cmp (pur_bin (pur_bin (pur_ix (pur_var 1) pur_int) pur_int) pur_int) pur_int) (purw_or1 (purt_cmp (pur_var 3) pur_int)))) (pub_one (pus_ret [] (pur_call S__law_refused (pura_cons (pur_var 2) pura_nil)))) pub_nil)
    (pub_cons (pus_set 4 [] (pur_call S_fraction (pura_cons (pur_var 2) (pura_cons (pur_var 3) pura_nil))))
    (pub_cons (pus_if [] (purt_w (purw_or (purt_not (purt_val (pur_call S__law_is_fraction (pura_cons (pur_var 4) pura_nil)))) (purw_or1 (purt_cmp (pur_bin (pur_ix (pur_var 4) pur_int) (pur_var 3)) (pur_bin (pur_var 2) (pur_ix (pur_var 4) pur_int)))))) (pub_one (pus_ret [] pur_bool)) pub_nil)
    (pub_cons (pus_set 5 [] (pur_ix (pur_call S__law_things (pura_cons (pur_var 2) (pura_cons (pur_var 3) pura_nil))) (pur_bin (pur_call S__law_cell_at (pura_cons (pur_var 0) (pura_cons pur_int pura_nil))) pur_int)))
    (pub_cons (pus_set 6 [] (pur_call S_is_fraction (pura_cons (pur_var 5) pura_nil)))
    (pub_cons (pus_if [] (purt_w (purw_or (purt_not (purt_val (pur_isa (T := "bool") T.n_isinstance T.n_bool (pur_var 6)))) (purw_or1 (purt_cmp (pur_var 6) (pur_call S__law_is_fraction (pura_cons (pur_var 5) pura_nil)))))) (pub_one (pus_ret [] pur_bool)) pub_nil)
    (pub_one (pus_ret [] (pur_and (pur_cmp (pur_call S_is_fraction (pura_cons (pur_var 4) pura_nil)) pur_bool) (pur_one (pur_cmp (pur_call S_is_fraction (pura_cons (pur_tup (pura_cons (pur_bin (pur_ix (pur_var 4) pur_int) pur_int) (pura_cons (pur_bin (pur_ix (pur_var 4) pur_int) pur_int) pura_nil))) pura_nil)) pur_bool))))))))))))))) (fun ks hks => ?_)
  have e0 : F__law_cell_at [.list (ks.map .int), .int 0] = .ok (.int (ks.getD 0 0)) := h__law_cell_at ks 0
  have e1 : F__law_cell_at [.list (ks.map .int), .int 1] = .ok (.int (ks.getD 1 0)) := h__law_cell_at ks 1
  generalize ks.getD 0 0 = k0 at e0
  generalize ks.getD 1 0 = k1 at e1
  generalize ks.map PyData.int = kd at e0 e1
  obtain ⟨xs, hl, hx, es'⟩ := h__law_stream k0 6 (by decide)
  obtain ⟨x0, x1, x2, x3, x4, x5, rfl⟩ := len6 hl
  have es : F__law_stream [.int k0, .int 6] = .ok (.list [.int x0, .int x1, .int x2, .int x3, .int x4, .int x5]) := es'
  clear es'
  obtain ⟨h00, h01⟩ := hx x0 (by simp)
  obtain ⟨h10, h11⟩ := hx x1 (by simp)
  obtain ⟨h20, h21⟩ := hx x2 (by simp)
  obtain ⟨h30, h31⟩ := hx x3 (by simp)
  obtain ⟨h50, h51⟩ := hx x5 (by simp)
  obtain ⟨t, ht, et⟩ := h__law_whole_by x0 x1 h00 h01 h10 h11
  obtain ⟨b, hb, eb⟩ := h__law_whole_by x2 x3 h20 h21 h30 h31
  clear hx hl h00 h01 h10 h11 h20 h21 h30 h31
  have i0 : ∀ a b c d e f : PyData, atI [a, b, c, d, e, f] 0 = some a := fun _ _ _ _ _ _ => rfl
  have i1 : ∀ a b c d e f : PyData, atI [a, b, c, d, e, f] 1 = some b := fun _ _ _ _ _ _ => rfl
  have i2 : ∀ a b c d e f : PyData, atI [a, b, c, d, e, f] 2 = some c := fun _ _ _ _ _ _ => rfl
  have i3 : ∀ a b c d e f : PyData, atI [a, b, c, d, e, f] 3 = some d := fun _ _ _ _ _ _ => rfl
  have i4 : ∀ a b c d e f : PyData, atI [a, b, c, d, e, f] 4 = some e := fun _ _ _ _ _ _ => rfl
  have i5 : ∀ a b c d e f : PyData, atI [a, b, c, d, e, f] 5 = some f := fun _ _ _ _ _ _ => rfl
  have j0 : ∀ a b : PyData, atI [a, b] 0 = some a := fun _ _ => rfl
  have j1 : ∀ a b : PyData, atI [a, b] 1 = some b := fun _ _ => rfl
  have d3 : divOk x4 3 = true := divOk_of (b := 8) (by decide) (by decide) (by decide) (by decide)
  have sb : ∀ k : Bool, SeqAt.shaped (.bool k) = true := fun _ => rfl
  have qb : ∀ k : Bool, PyData.eqv (.bool k) (.bool k) = true := fun k => by cases k <;> decide
  have kb : ∀ k : Bool, isA "bool" (.bool k) = .ok (.bool true) := fun _ => rfl
  have y0 : 0 ≤ x5.fmod 30 := by rw [fmod_pos (by decide)]; exact Int.emod_nonneg _ (by decide)
  have y1 : x5.fmod 30 < 30 := by rw [fmod_pos (by decide)]; exact Int.emod_lt_of_pos _ (by decide)
  generalize hy0 : x5.fmod 30 = y at y0 y1
  have z0 : 0 ≤ k1.fmod 18 := by rw [fmod_pos (by decide)]; exact Int.emod_nonneg _ (by decide)
  have z1 : k1.fmod 18 < 18 := by rw [fmod_pos (by decide)]; exact Int.emod_lt_of_pos _ (by decide)
  have ref : ∀ t : Int, F__law_refused [.int t] = .ok (.bool true) := h__law_refused
  have things : ∀ t b : Int, ∃ (ds : List PyData) (d : PyData), F__law_things [.int t, .int b] = .ok (.list ds) ∧ atI ds (k1.fmod 18) = some d := fun t b => by
    obtain ⟨ds, hl, e⟩ := h__law_things t (.int b)
    obtain ⟨n, en⟩ : ∃ n : Nat, k1.fmod 18 = n := ⟨(k1.fmod 18).toNat, by omega⟩
    have hn : n < ds.length := by omega
    exact ⟨ds, ds[n], e, by rw [en]; exact atI_nat (by simp [hn])⟩
  have told : ∀ d, F_is_fraction [d] = .ok (.bool (isFrB d)) := h_is_fraction
  have lawt : ∀ d, F__law_is_fraction [d] = .ok (.bool (isFrB d)) := h__law_is_fraction
  have key : ∀ t b : Int, t.natAbs < 2 ^ 70 → b.natAbs < 2 ^ 70 → b ≠ 0 → ∃ p q : Int, F_fraction [.int t, .int b] = .ok (.tuple [.int p, .int q]) ∧ isFrB (.tuple [.int p, .int q]) = true ∧ isFrB (.tuple [.int (p * 3), .int (q * 3)]) = false ∧
      mulOk p b = true ∧ mulOk t q = true ∧ mulOk p 3 = true ∧ mulOk q 3 = true ∧ p * b = t * q := fun t b ht hb hb0 => by
    have hfr := lowT_isFr (a := t) hb0
    obtain ⟨s1, s2⟩ := lowT_small (a := t) hb0
    refine ⟨(lowT t b).1, (lowT t b).2, h_fraction.2 t b hb0 (Nat.lt_trans hb (Nat.pow_lt_pow_right (by decide) (by decide))), isFr_is hfr, isFr_3 hfr, ?_, ?_, mulOk_r (by decide), mulOk_r (by decide), lowT_cross hb0⟩
    · exact mulOk_of (a := 70) (b := 70) (Nat.lt_of_le_of_lt s1 ht) hb (by decide) (by decide) (by decide)
    · exact mulOk_of (a := 70) (b := 70) ht (Nat.lt_of_le_of_lt s2 hb) (by decide) (by decide) (by decide)
  have m1 : mulOk t (1 + y) = true := mulOk_l ht
  have m2 : mulOk b (1 + y) = true := mulOk_l hb
  have hy : (1 + y).natAbs < 2 ^ 6 := by omega
  have t70 : (t * (1 + y)).natAbs < 2 ^ 70 := natAbs_mul_lt ht hy
  have b70 : (b * (1 + y)).natAbs < 2 ^ 70 := natAbs_mul_lt hb hy
  have u70 : t.natAbs < 2 ^ 70 := Nat.lt_trans ht (by decide)
  have v70 : b.natAbs < 2 ^ 70 := Nat.lt_trans hb (by decide)
  refine runD_ret ?_
  by_cases c1 : x4.fmod 3 = 0
  · generalize p1 : t * (1 + y) = t2 at t70
    generalize p2 : b * (1 + y) = b2 at b70
    by_cases c2 : (x4.fdiv 3).fmod 16 = 0
    · simp -implicitDefEqProofs [startE, storeV, lf, lfA, e0, e1, es, et, eb, i0, i1, i2, i3, i4, i5, j0, j1, opV, cmpV, boolOf, d3, hy0, kb, c1, c2, ref, truth, m1, m2, p1, p2]
    by_cases c3 : b2 = 0
    · simp -implicitDefEqProofs [startE, storeV, lf, lfA, e0, e1, es, et, eb, i0, i1, i2, i3, i4, i5, j0, j1, opV, cmpV, boolOf, d3, hy0, kb, c1, c2, c3, ref, truth, m1, m2, p1, p2]
    obtain ⟨p, q, f1, f2, f3, n1, n2, n3, n4, cr⟩ := key t2 b2 t70 b70 c3
    obtain ⟨ds, d, f4, f5⟩ := things t2 b2
    simp -implicitDefEqProofs [startE, storeV, lf, lfA, e0, e1, es, et, eb, i0, i1, i2, i3, i4, i5, j0, j1, opV, cmpV, boolOf, d3, hy0, kb, c1, c2, c3, truth, f1, f2, f3, f4, f5, n1, n2, n3, n4, cr, told, lawt, sb, qb, szOk_of, m1, m2, p1, p2]
  · by_cases c2 : (x4.fdiv 3).fmod 16 = 0
    · simp -implicitDefEqProofs [startE, storeV, lf, lfA, e0, e1, es, et, eb, i0, i1, i2, i3, i4, i5, j0, j1, opV, cmpV, boolOf, d3, hy0, kb, c1, c2, ref, truth]
    by_cases c3 : b = 0
    · simp -implicitDefEqProofs [startE, storeV, lf, lfA, e0, e1, es, et, eb, i0, i1, i2, i3, i4, i5, j0, j1, opV, cmpV, boolOf, d3, hy0, kb, c1, c2, c3, ref, truth]
    obtain ⟨p, q, f1, f2, f3, n1, n2, n3, n4, cr⟩ := key t b u70 v70 c3
    obtain ⟨ds, d, f4, f5⟩ := things t b
    simp -implicitDefEqProofs [startE, storeV, lf, lfA, e0, e1, es, et, eb, i0, i1, i2, i3, i4, i5, j0, j1, opV, cmpV, boolOf, d3, hy0, kb, c1, c2, c3, truth, f1, f2, f3, f4, f5, n1, n2, n3, n4, cr, told, lawt, sb, qb, szOk_of]
theorem all_mk {l : PySem.W.OpenLaw} {w : World} {K : PySem.W.Frag} {h : Heap} {mg : Str → Option Value} {fa f0 f1 f2 f3 f4 f5 f6 f7 f8 f9 f10 f11 : Addr} {C_NoQuotient C_NoRow C_Nought C_PartError : Addr} (X : K.In h) (G : h.Ns mainGlobals mg) (hfa : mg "law" = some (.ref fa))
    {od0 an0 od1 an1 od2 an2 od3 an3 od4 an4 od5 an5 od6 an6 od7 an7 od8 an8 od9 an9 od10 an10 od11 an11 : Option Addr} {sl0 sl1 sl2 sl3 sl4 sl5 sl6 sl7 sl8 sl9 sl10 sl11 : Array (Option Value)} {oc0 kV0 dc0 pm0 cd0 ct0 oc1 kV1 dc1 pm1 cd1 ct1 oc2 kV2 dc2 pm2 cd2 ct2 oc3 kV3 dc3 pm3 cd3 ct3 oc4 kV4 dc4 pm4 cd4 ct4 oc5 kV5 dc5 pm5 cd5 ct5 oc6 kV6 dc6 pm6 cd6 ct6 oc7 kV7 dc7 pm7 cd7 ct7 oc8 kV8 dc8 pm8 cd8 ct8 oc9 kV9 dc9 pm9 cd9 ct9 oc10 kV10 dc10 pm10 cd10 ct10 oc11 kV11 dc11 pm11 cd11 ct11 : Value}
    (a0 : PySem.W.nsIn K mainGlobals "fraction" = some (some (.ref f0)))
    (l0 : K.lookup f0 = some ⟨oc0, od0, .func (PySem.W.fnOf "fraction" "fraction" (defArgs s_fraction) (defBody s_fraction) (defScope s_fraction) .none kV0 dc0 pm0 an0 cd0 ct0), sl0⟩)
    (c0 : PySem.W.codeIn K cd0 "fraction" = true)
    (k0 : PySem.W.keepIn K (.ref f0) = true)
    (a1 : PySem.W.nsIn K mainGlobals "is_fraction" = some (some (.ref f1)))
    (l1 : K.lookup f1 = some ⟨oc1, od1, .func (PySem.W.fnOf "is_fraction" "is_fraction" (defArgs s_is_fraction) (defBody s_is_fraction) (defScope s_is_fraction) .none kV1 dc1 pm1 an1 cd1 ct1), sl1⟩)
    (c1 : PySem.W.codeIn K cd1 "is_fraction" = true)
    (k1 : PySem.W.keepIn K (.ref f1) = true)
    (a2 : PySem.W.nsIn K mainGlobals "_law_cell_at" = some (some (.ref f2)))
    (l2 : K.lookup f2 = some ⟨oc2, od2, .func (PySem.W.fnOf "_law_cell_at" "_law_cell_at" (defArgs s__law_cell_at) (defBody s__law_cell_at) (defScope s__law_cell_at) .none kV2 dc2 pm2 an2 cd2 ct2), sl2⟩)
    (c2 : PySem.W.codeIn K cd2 "_law_cell_at" = true)
    (k2 : PySem.W.keepIn K (.ref f2) = true)
    (a3 : PySem.W.nsIn K mainGlobals "_law_stream" = some (some (.ref f3)))
    (l3 : K.lookup f3 = some ⟨oc3, od3, .func (PySem.W.fnOf "_law_stream" "_law_stream" (defArgs s__law_stream) (defBody s__law_stream) (defScope s__law_stream) .none kV3 dc3 pm3 an3 cd3 ct3), sl3⟩)
    (c3 : PySem.W.codeIn K cd3 "_law_stream" = true)
    (k3 : PySem.W.keepIn K (.ref f3) = true)
    (a4 : PySem.W.nsIn K mainGlobals "_law_whole" = some (some (.ref f4)))
    (l4 : K.lookup f4 = some ⟨oc4, od4, .func (PySem.W.fnOf "_law_whole" "_law_whole" (defArgs s__law_whole) (defBody s__law_whole) (defScope s__law_whole) .none kV4 dc4 pm4 an4 cd4 ct4), sl4⟩)
    (c4 : PySem.W.codeIn K cd4 "_law_whole" = true)
    (k4 : PySem.W.keepIn K (.ref f4) = true)
    (a5 : PySem.W.nsIn K mainGlobals "_law_divisor" = some (some (.ref f5)))
    (l5 : K.lookup f5 = some ⟨oc5, od5, .func (PySem.W.fnOf "_law_divisor" "_law_divisor" (defArgs s__law_divisor) (defBody s__law_divisor) (defScope s__law_divisor) .none kV5 dc5 pm5 an5 cd5 ct5), sl5⟩)
    (c5 : PySem.W.codeIn K cd5 "_law_divisor" = true)
    (k5 : PySem.W.keepIn K (.ref f5) = true)
    (a6 : PySem.W.nsIn K mainGlobals "_law_fraction" = some (some (.ref f6)))
    (l6 : K.lookup f6 = some ⟨oc6, od6, .func (PySem.W.fnOf "_law_fraction" "_law_fraction" (defArgs s__law_fraction) (defBody s__law_fraction) (defScope s__law_fraction) .none kV6 dc6 pm6 an6 cd6 ct6), sl6⟩)
    (c6 : PySem.W.codeIn K cd6 "_law_fraction" = true)
    (k6 : PySem.W.keepIn K (.ref f6) = true)
    (a7 : PySem.W.nsIn K mainGlobals "_law_is_fraction" = some (some (.ref f7)))
    (l7 : K.lookup f7 = some ⟨oc7, od7, .func (PySem.W.fnOf "_law_is_fraction" "_law_is_fraction" (defArgs s__law_is_fraction) (defBody s__law_is_fraction) (defScope s__law_is_fraction) .none kV7 dc7 pm7 an7 cd7 ct7), sl7⟩)
    (c7 : PySem.W.codeIn K cd7 "_law_is_fraction" = true)
    (k7 : PySem.W.keepIn K (.ref f7) = true)
    (a8 : PySem.W.nsIn K mainGlobals "_law_whole_by" = some (some (.ref f8)))
    (l8 : K.lookup f8 = some ⟨oc8, od8, .func (PySem.W.fnOf "_law_whole_by" "_law_whole_by" (defArgs s__law_whole_by) (defBody s__law_whole_by) (defScope s__law_whole_by) .none kV8 dc8 pm8 an8 cd8 ct8), sl8⟩)
    (c8 : PySem.W.codeIn K cd8 "_law_whole_by" = true)
    (k8 : PySem.W.keepIn K (.ref f8) = true)
    (a9 : PySem.W.nsIn K mainGlobals "_law_refused" = some (some (.ref f9)))
    (l9 : K.lookup f9 = some ⟨oc9, od9, .func (PySem.W.fnOf "_law_refused" "_law_refused" (defArgs s__law_refused) (defBody s__law_refused) (defScope s__law_refused) .none kV9 dc9 pm9 an9 cd9 ct9), sl9⟩)
    (c9 : PySem.W.codeIn K cd9 "_law_refused" = true)
    (k9 : PySem.W.keepIn K (.ref f9) = true)
    (a10 : PySem.W.nsIn K mainGlobals "_law_things" = some (some (.ref f10)))
    (l10 : K.lookup f10 = some ⟨oc10, od10, .func (PySem.W.fnOf "_law_things" "_law_things" (defArgs s__law_things) (defBody s__law_things) (defScope s__law_things) .none kV10 dc10 pm10 an10 cd10 ct10), sl10⟩)
    (c10 : PySem.W.codeIn K cd10 "_law_things" = true)
    (k10 : PySem.W.keepIn K (.ref f10) = true)
    (a11 : PySem.W.nsIn K mainGlobals "law" = some (some (.ref f11)))
    (l11 : K.lookup f11 = some ⟨oc11, od11, .func (PySem.W.fnOf "law" "law" (defArgs s_law) (defBody s_law) (defScope s_law) .none kV11 dc11 pm11 an11 cd11 ct11), sl11⟩)
    (c11 : PySem.W.codeIn K cd11 "law" = true)
    (k11 : PySem.W.keepIn K (.ref f11) = true)
    (z_abs : PySem.W.nsIn K mainGlobals "abs" = some none)
    (z_bool : PySem.W.nsIn K mainGlobals "bool" = some none)
    (z_int : PySem.W.nsIn K mainGlobals "int" = some none)
    (z_isinstance : PySem.W.nsIn K mainGlobals "isinstance" = some none)
    (z_len : PySem.W.nsIn K mainGlobals "len" = some none)
    (z_range : PySem.W.nsIn K mainGlobals "range" = some none)
    (z_tuple : PySem.W.nsIn K mainGlobals "tuple" = some none)
    (z_type : PySem.W.nsIn K mainGlobals "type" = some none)
    (m_gcd : PySem.W.nsIn K mainGlobals "gcd" = some (some (.builtin "math.gcd")))
    (ca_NoQuotient : PySem.W.nsIn K mainGlobals "NoQuotient" = some (some (.ref C_NoQuotient)))
    (ex_NoQuotient : PySem.W.excIn K C_NoQuotient [.type "ValueError", .type "Exception", .type "BaseException", .type "object"] "ValueError.__new__" = true)
    (ke_NoQuotient : PySem.W.keepIn K (.ref C_NoQuotient) = true)
    (su_NoQuotient_BaseException : PySem.W.subIn K (.ref C_NoQuotient) (.type "BaseException") = some true)
    (ty_NoQuotient : PySem.W.typeIn K (.ref C_NoQuotient) = some (.type "type"))
    (ca_NoRow : PySem.W.nsIn K mainGlobals "NoRow" = some (some (.ref C_NoRow)))
    (ex_NoRow : PySem.W.excIn K C_NoRow [.type "ValueError", .type "Exception", .type "BaseException", .type "object"] "ValueError.__new__" = true)
    (ke_NoRow : PySem.W.keepIn K (.ref C_NoRow) = true)
    (su_NoRow_BaseException : PySem.W.subIn K (.ref C_NoRow) (.type "BaseException") = some true)
    (ty_NoRow : PySem.W.typeIn K (.ref C_NoRow) = some (.type "type"))
    (ca_Nought : PySem.W.nsIn K mainGlobals "Nought" = some (some (.ref C_Nought)))
    (ex_Nought : PySem.W.excIn K C_Nought [.type "ValueError", .type "Exception", .type "BaseException", .type "object"] "ValueError.__new__" = true)
    (ke_Nought : PySem.W.keepIn K (.ref C_Nought) = true)
    (su_Nought_BaseException : PySem.W.subIn K (.ref C_Nought) (.type "BaseException") = some true)
    (ty_Nought : PySem.W.typeIn K (.ref C_Nought) = some (.type "type"))
    (ca_PartError : PySem.W.nsIn K mainGlobals "PartError" = some (some (.ref C_PartError)))
    (ex_PartError : PySem.W.excIn K C_PartError [.type "ValueError", .type "Exception", .type "BaseException", .type "object"] "ValueError.__new__" = true)
    (ke_PartError : PySem.W.keepIn K (.ref C_PartError) = true)
    (su_PartError_BaseException : PySem.W.subIn K (.ref C_PartError) (.type "BaseException") = some true)
    (ty_PartError : PySem.W.typeIn K (.ref C_PartError) = some (.type "type"))
    (hd_PartError : PySem.W.hasDictIn K C_PartError = true)
    (su_Nought_PartError : PySem.W.subIn K (.ref C_Nought) (.ref C_PartError) = some true)
    (ga_Nought : PySem.W.findIn K (.ref C_Nought) "__getattribute__" = some (some (.builtin "BaseException.__getattribute__")))
    (gg_Nought : PySem.W.findIn K (.ref C_Nought) "__getattr__" = some none)
    (hd_Nought : PySem.W.hasDictIn K C_Nought = true)
    (gc_Nought : PySem.W.findIn K (.ref C_Nought) "__class__" = some (some (.builtin "object.__class__")))
    (sp_c : PySem.W.specialIn K (.builtin "object.__class__") "__get__" = some (some (.builtin "getset_descriptor.__get__")))
    (tk_c : PySem.W.takesIn K (.builtin "object.__class__") = some true)
    (mr_Nought : PySem.W.mroIn K C_Nought (.type "object") = some true)
    (cl_NoRow : PySem.W.isClsIn K C_NoRow = true)
    (su_Nought_NoRow : PySem.W.subIn K (.ref C_Nought) (.ref C_NoRow) = some false)
    (su_NoRow_NoRow : PySem.W.subIn K (.ref C_NoRow) (.ref C_NoRow) = some true)
    (cl_NoQuotient : PySem.W.isClsIn K C_NoQuotient = true)
    (su_Nought_NoQuotient : PySem.W.subIn K (.ref C_Nought) (.ref C_NoQuotient) = some false)
    (su_NoQuotient_NoQuotient : PySem.W.subIn K (.ref C_NoQuotient) (.ref C_NoQuotient) = some true)
    (z_ValueError : PySem.W.nsIn K mainGlobals "ValueError" = some none)
    (su_Nought_ValueError : PySem.W.subIn K (.ref C_Nought) (.type "ValueError") = some true)
    : ∃ fd : FuncData, (∀ (s : Shared) (u : Value), BindsTo s fd ⟨[u], []⟩ [("_law_script", u)]) ∧ ∀ base : Heap, K.In base → base.Ns mainGlobals mg → FnOk l.prog w K mg base (L2.CX l.prog w) 3 fa fd ["_law_script"] (Pu.spLaw K) := by
  have e := hfa.symm.trans (PySem.W.mg_of X G a11)
  cases e
  have F0 := fun_mk (st := s_fraction) l0 c0 k0
  have b0 := F0.binds (ps := ["top", "bottom"]) fun _ _ _ _ _ _ us hl => match us, hl with | [_, _], _ => rfl
  have F1 := fun_mk (st := s_is_fraction) l1 c1 k1
  have b1 := F1.binds (ps := ["thing"]) fun _ _ _ _ _ _ us hl => match us, hl with | [_], _ => rfl
  have F2 := fun_mk (st := s__law_cell_at) l2 c2 k2
  have b2 := F2.binds (ps := ["_law_script", "_law_k"]) fun _ _ _ _ _ _ us hl => match us, hl with | [_, _], _ => rfl
  have F3 := fun_mk (st := s__law_stream) l3 c3 k3
  have b3 := F3.binds (ps := ["_law_cell", "_law_many"]) fun _ _ _ _ _ _ us hl => match us, hl with | [_, _], _ => rfl
  have F4 := fun_mk (st := s__law_whole) l4 c4 k4
  have b4 := F4.binds (ps := ["_law_found"]) fun _ _ _ _ _ _ us hl => match us, hl with | [_], _ => rfl
  have F5 := fun_mk (st := s__law_divisor) l5 c5 k5
  have b5 := F5.binds (ps := ["_law_one", "_law_other"]) fun _ _ _ _ _ _ us hl => match us, hl with | [_, _], _ => rfl
  have F6 := fun_mk (st := s__law_fraction) l6 c6 k6
  have b6 := F6.binds (ps := ["_law_top", "_law_bottom"]) fun _ _ _ _ _ _ us hl => match us, hl with | [_, _], _ => rfl
  have F7 := fun_mk (st := s__law_is_fraction) l7 c7 k7
  have b7 := F7.binds (ps := ["_law_found"]) fun _ _ _ _ _ _ us hl => match us, hl with | [_], _ => rfl
  have F8 := fun_mk (st := s__law_whole_by) l8 c8 k8
  have b8 := F8.binds (ps := ["_law_x", "_law_y"]) fun _ _ _ _ _ _ us hl => match us, hl with | [_, _], _ => rfl
  have F9 := fun_mk (st := s__law_refused) l9 c9 k9
  have b9 := F9.binds (ps := ["_law_top"]) fun _ _ _ _ _ _ us hl => match us, hl with | [_], _ => rfl
  have F10 := fun_mk (st := s__law_things) l10 c10 k10
  have b10 := F10.binds (ps := ["_law_top", "_law_bottom"]) fun _ _ _ _ _ _ us hl => match us, hl with | [_, _], _ => rfl
  have F11 := fun_mk (st := s_law) l11 c11 k11
  have b11 := F11.binds (ps := ["_law_script"]) fun _ _ _ _ _ _ us hl => match us, hl with | [_], _ => rfl
  refine ⟨PySem.W.fnOf "law" "law" (defArgs s_law) (defBody s_law) (defScope s_law) .none kV11 dc11 pm11 an11 cd11 ct11, fun s v => .of_eq rfl, fun base _ _ => ?_⟩
  have T : Txt ⟨l.prog, w, K, mg, base⟩ := { n_abs := PySem.W.mg_none_of X G z_abs, n_bool := PySem.W.mg_none_of X G z_bool, n_int := PySem.W.mg_none_of X G z_int, n_isinstance := PySem.W.mg_none_of X G z_isinstance, n_len := PySem.W.mg_none_of X G z_len, n_range := PySem.W.mg_none_of X G z_range, n_tuple := PySem.W.mg_none_of X G z_tuple, n_type := PySem.W.mg_none_of X G z_type, m_gcd := PySem.W.mg_of X G m_gcd, x_NoQuotient := excOk_mk (PySem.W.mg_of X G ca_NoQuotient) ex_NoQuotient ke_NoQuotient su_NoQuotient_BaseException ty_NoQuotient, x_NoRow := excOk_mk (PySem.W.mg_of X G ca_NoRow) ex_NoRow ke_NoRow su_NoRow_BaseException ty_NoRow, x_Nought := excOk_mk (PySem.W.mg_of X G ca_Nought) ex_Nought ke_Nought su_Nought_BaseException ty_Nought, x_PartError := excOk_mk (PySem.W.mg_of X G ca_PartError) ex_PartError ke_PartError su_PartError_BaseException ty_PartError, t_Nought_PartError := excT_mk (PySem.W.mg_of X G ca_Nought) (PySem.W.mg_of X G ca_PartError) su_PartError_BaseException hd_PartError ty_PartError su_Nought_PartError, i_Nought_NoRow := excI_ref (PySem.W.mg_of X G ca_Nought) ⟨ga_Nought, gg_Nought, su_Nought_BaseException, hd_Nought, gc_Nought, sp_c, tk_c, mr_Nought⟩ (PySem.W.mg_of X G ca_NoRow) cl_NoRow ty_NoRow su_Nought_NoRow su_NoRow_NoRow, i_Nought_NoQuotient := excI_ref (PySem.W.mg_of X G ca_Nought) ⟨ga_Nought, gg_Nought, su_Nought_BaseException, hd_Nought, gc_Nought, sp_c, tk_c, mr_Nought⟩ (PySem.W.mg_of X G ca_NoQuotient) cl_NoQuotient ty_NoQuotient su_Nought_NoQuotient su_NoQuotient_NoQuotient, i_Nought_ValueError := excI_ty (T := "ValueError") (PySem.W.mg_of X G ca_Nought) ⟨ga_Nought, gg_Nought, su_Nought_BaseException, hd_Nought, gc_Nought, sp_c, tk_c, mr_Nought⟩ (PySem.W.mg_none_of X G z_ValueError) (by decide +kernel) (by decide) (by decide +kernel) su_Nought_ValueError, i_Nought_Nought := excI_self (PySem.W.mg_of X G ca_Nought) ⟨ga_Nought, gg_Nought, su_Nought_BaseException, hd_Nought, gc_Nought, sp_c, tk_c, mr_Nought⟩, d_fraction := defOk_mk F0 (PySem.W.mg_of X G a0) b0, d_is_fraction := defOk_mk F1 (PySem.W.mg_of X G a1) b1, d__law_cell_at := defOk_mk F2 (PySem.W.mg_of X G a2) b2, d__law_stream := defOk_mk F3 (PySem.W.mg_of X G a3) b3, d__law_whole := defOk_mk F4 (PySem.W.mg_of X G a4) b4, d__law_divisor := defOk_mk F5 (PySem.W.mg_of X G a5) b5, d__law_fraction := defOk_mk F6 (PySem.W.mg_of X G a6) b6, d__law_is_fraction := defOk_mk F7 (PySem.W.mg_of X G a7) b7, d__law_whole_by := defOk_mk F8 (PySem.W.mg_of X G a8) b8, d__law_refused := defOk_mk F9 (PySem.W.mg_of X G a9) b9, d__law_things := defOk_mk F10 (PySem.W.mg_of X G a10) b10, d_law := defOk_mk F11 (PySem.W.mg_of X G a11) b11 }
  exact (spec_law T).fn F11
end Q01
open PySem PySem.W PyProof.Rows
set_option maxRecDepth 100000 in
set_option maxHeartbeats 0 in
theorem PySem.Challenge.cw_fractionparts_k01_fractions_made_holds : PySem.Challenge.rw_fractionparts_k01_fractions_made.Holds := by
  w_on; o_law; k_head; (case hw => w_witness2)
  k_fill
  refine Pu.walk_law (l := PySem.Challenge.rw_fractionparts_k01_fractions_made) (k := 3) (x := "_law_script") rfl rfl ⟨rfl, by decide, by decide⟩ (fun w h Y => PySem.W.kIn_of Y) ?F
  case F =>
    intro w mg fa h KX G hmg
    refine' Q01.all_mk KX G hmg ?a0 ?l0 ?c0 ?k0 ?a1 ?l1 ?c1 ?k1 ?a2 ?l2 ?c2 ?k2 ?a3 ?l3 ?c3 ?k3 ?a4 ?l4 ?c4 ?k4 ?a5 ?l5 ?c5 ?k5 ?a6 ?l6 ?c6 ?k6 ?a7 ?l7 ?c7 ?k7 ?a8 ?l8 ?c8 ?k8 ?a9 ?l9 ?c9 ?k9 ?a10 ?l10 ?c10 ?k10 ?a11 ?l11 ?c11 ?k11 ?z_abs ?z_bool ?z_int ?z_isinstance ?z_len ?z_range ?z_tuple ?z_type ?m_gcd ?ca_NoQuotient ?ex_NoQuotient ?ke_NoQuotient ?su_NoQuotient_BaseException ?ty_NoQuotient ?ca_NoRow ?ex_NoRow ?ke_NoRow ?su_NoRow_BaseException ?ty_NoRow ?ca_Nought ?ex_Nought ?ke_Nought ?su_Nought_BaseException ?ty_Nought ?ca_PartError ?ex_PartError ?ke_PartError ?su_PartError_BaseException ?ty_PartError ?hd_PartError ?su_Nought_PartError ?ga_Nought ?gg_Nought ?hd_Nought ?gc_Nought ?sp_c ?tk_c ?mr_Nought ?cl_NoRow ?su_Nought_NoRow ?su_NoRow_NoRow ?cl_NoQuotient ?su_Nought_NoQuotient ?su_NoQuotient_NoQuotient ?z_ValueError ?su_Nought_ValueError
    (case a0 => first | k_is | rfl)
    (case l0 => first | k_is | rfl)
    (case c0 => first | k_is | rfl)
    (case k0 => first | k_is | rfl)
    (case a1 => first | k_is | rfl)
    (case l1 => first | k_is | rfl)
    (case c1 => first | k_is | rfl)
    (case k1 => first | k_is | rfl)
    (case a2 => first | k_is | rfl)
    (case l2 => first | k_is | rfl)
    (case c2 => first | k_is | rfl)
    (case k2 => first | k_is | rfl)
    (case a3 => first | k_is | rfl)
    (case l3 => first | k_is | rfl)
    (case c3 => first | k_is | rfl)
    (case k3 => first | k_is | rfl)
    (case a4 => first | k_is | rfl)
    (case l4 => first | k_is | rfl)
    (case c4 => first | k_is | rfl)
    (case k4 => first | k_is | rfl)
    (case a5 => first | k_is | rfl)
    (case l5 => first | k_is | rfl)
    (case c5 => first | k_is | rfl)
    (case k5 => first | k_is | rfl)
    (case a6 => first | k_is | rfl)
    (case l6 => first | k_is | rfl)
    (case c6 => first | k_is | rfl)
    (case k6 => first | k_is | rfl)
    (case a7 => first | k_is | rfl)
    (case l7 => first | k_is | rfl)
    (case c7 => first | k_is | rfl)
    (case k7 => first | k_is | rfl)
    (case a8 => first | k_is | rfl)
    (case l8 => first | k_is | rfl)
    (case c8 => first | k_is | rfl)
    (case k8 => first | k_is | rfl)
    (case a9 => first | k_is | rfl)
    (case l9 => first | k_is | rfl)
    (case c9 => first | k_is | rfl)
    (case k9 => first | k_is | rfl)
    (case a10 => first | k_is | rfl)
    (case l10 => first | k_is | rfl)
    (case c10 => first | k_is | rfl)
    (case k10 => first | k_is | rfl)
    (case a11 => first | k_is | rfl)
    (case l11 => first | k_is | rfl)
    (case c11 => first | k_is | rfl)
    (case k11 => first | k_is | rfl)
    (case z_abs => first | k_is | rfl)
    (case z_bool => first | k_is | rfl)
    (case z_int => first | k_is | rfl)
    (case z_isinstance => first | k_is | rfl)
    (case z_len => first | k_is | rfl)
    (case z_range => first | k_is | rfl)
    (case z_tuple => first | k_is | rfl)
    (case z_type => first | k_is | rfl)
    (case m_gcd => first | k_is | rfl)
    (case ca_NoQuotient => first | k_is | rfl)
    (case ex_NoQuotient => k_exc)
    (case ke_NoQuotient => first | k_is | rfl)
    (case su_NoQuotient_BaseException => first | k_is | rfl)
    (case ty_NoQuotient => first | k_is | rfl)
    (case ca_NoRow => first | k_is | rfl)
    (case ex_NoRow => k_exc)
    (case ke_NoRow => first | k_is | rfl)
    (case su_NoRow_BaseException => first | k_is | rfl)
    (case ty_NoRow => first | k_is | rfl)
    (case ca_Nought => first | k_is | rfl)
    (case ex_Nought => k_exc)
    (case ke_Nought => first | k_is | rfl)
    (case su_Nought_BaseException => first | k_is | rfl)
    (case ty_Nought => first | k_is | rfl)
    (case ca_PartError => first | k_is | rfl)
    (case ex_PartError => k_exc)
    (case ke_PartError => first | k_is | rfl)
    (case su_PartError_BaseException => first | k_is | rfl)
    (case ty_PartError => first | k_is | rfl)
    (case hd_PartError => first | k_is | rfl)
    (case su_Nought_PartError => first | k_is | rfl)
    (case ga_Nought => first | k_is | rfl)
    (case gg_Nought => first | k_is | rfl)
    (case hd_Nought => first | k_is | rfl)
    (case gc_Nought => first | k_is | rfl)
    (case sp_c => first | k_is | rfl)
    (case tk_c => first | k_is | rfl)
    (case mr_Nought => first | k_is | rfl)
    (case cl_NoRow => first | k_is | rfl)
    (case su_Nought_NoRow => first | k_is | rfl)
    (case su_NoRow_NoRow => first | k_is | rfl)
    (case cl_NoQuotient => first | k_is | rfl)
    (case su_Nought_NoQuotient => first | k_is | rfl)
    (case su_NoQuotient_NoQuotient => first | k_is | rfl)
    (case z_ValueError => first | k_is | rfl)
    (case su_Nought_ValueError => first | k_is | rfl)
