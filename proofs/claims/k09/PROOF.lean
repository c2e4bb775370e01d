import PyProof.Rows.All
import Wide.All
import OpenK.AllK
import Wide.FinOn
import PySem.Challenge.RW_fractionparts_k09_whole_parts
import HandS.ForExc
import HandS.Star
import HandS.Style
import HandS.Flow
import HandS.IsInst
import HandS.Wide
import HandS.Gcd
import HandS.Zip
import HandS.TupMul
import HandS.TupAny
import HandS.WideBits
import HandS.Iter
import HandS.More
import KE.DataCmp
import HandS.Walk
import HandS.ExcIs
import HandS.TryOnly
import HandS.Comp
import KE.GoesEnum
import KE.DatumOrd
set_option Elab.async false
set_option linter.all false
set_option maxRecDepth 100000
set_option maxHeartbeats 4000000
/-! a layer over HandS: expressions and statements by plain functions on data -/
namespace Pu
open PySem PySem.Spec PyProof.Rows L2

/-- what an evaluation comes to: a value, an exception of the class so called, or nothing that is told -/
inductive R (α : Type) where
  | ok (a : α) | ex (c : Str) | no
def R.bind {α β : Type} (x : R α) (f : α → R β) : R β := match x with
  | .ok a => f a
  | .ex c => .ex c
  | .no => .no
@[simp] theorem R.bind_ok {α β : Type} (a : α) (f : α → R β) : R.bind (.ok a) f = f a := rfl
@[simp] theorem R.bind_ex {α β : Type} (c : Str) (f : α → R β) : R.bind (.ex c) f = .ex c := rfl
@[simp] theorem R.bind_no {α β : Type} (f : α → R β) : R.bind .no f = .no := rfl

abbrev D := PyData
abbrev Fp := Addr → Prop

/-- a list of the written part -/
def KL (K : PySem.W.Frag) (a : Addr) (xs : List V) : Prop :=
  ∃ (o : Obj) (its : Array Value) (n : Nat), K.lookup a = some o ∧ o.cls = .type "list" ∧ o.dict = none ∧ o.data = .seq its n ∧ its.size ≤ sizeLine ∧ Vals xs its.toList
/-- a list that is read: of the written part, or tracked at an address of F -/
def LAt (K : PySem.W.Frag) (H : Hp) (F : Fp) (a : Addr) (xs : List V) : Prop := (Rd H a (.lst xs) ∧ F a) ∨ KL K a xs
theorem LAt.sq {K : PySem.W.Frag} {H : Hp} {F : Fp} {a : Addr} {xs : List V} (h : LAt K H F a xs) : SqL K H a xs := by
  rcases h with h | h
  · exact .inl h.1
  · exact .inr h

mutual
/-- v stands for d in H, its lists at addresses of F -/
inductive Rp (K : PySem.W.Frag) (H : Hp) (F : Fp) : V → D → Prop
  | non : Rp K H F .non .none
  | bl (b : Bool) : Rp K H F (.bl b) (.bool b)
  | int (i : Int) : Rp K H F (.int i) (.int i)
  | str (x : Str) : Rp K H F (.str x) (.str x)
  | lst {a : Addr} {xs : List V} {ds : List D} : LAt K H F a xs → RpA K H F xs ds → Rp K H F (.ref a) (.list ds)
  | tup {a : Addr} {xs : List V} {ds : List D} : SqT K H a xs → RpA K H F xs ds → Rp K H F (.ref a) (.tuple ds)
inductive RpA (K : PySem.W.Frag) (H : Hp) (F : Fp) : List V → List D → Prop
  | nil : RpA K H F [] []
  | cons {v : V} {vs : List V} {d : D} {ds : List D} : Rp K H F v d → RpA K H F vs ds → RpA K H F (v :: vs) (d :: ds)
end

section
variable {K : PySem.W.Frag} {H H' : Hp} {F F' : Fp}
theorem Same.rd {a : Addr} {u : HO} (e : Same H H') (h : Rd H a u) : Rd H' a u := by
  rcases h with h | ⟨o, h⟩
  · exact .inl (e _ _ h)
  · exact .inr ⟨o, e _ _ h⟩
theorem Same.sqt {a : Addr} {xs : List V} (e : Same H H') (h : SqT K H a xs) : SqT K H' a xs := by
  rcases h with h | h
  · exact .inl (Same.rd e h)
  · exact .inr h
theorem LAt.mono {a : Addr} {xs : List V} (h : LAt K H F a xs) (e : Same H H') (f : ∀ a, F a → F' a) : LAt K H' F' a xs := by
  rcases h with h | h
  · exact .inl ⟨Same.rd e h.1, f _ h.2⟩
  · exact .inr h
mutual
theorem Rp.mono (e : Same H H') (f : ∀ a, F a → F' a) : ∀ {d : D} {v : V}, Rp K H F v d → Rp K H' F' v d
  | .none, _, h => by cases h; exact .non
  | .bool b, _, h => by cases h; exact .bl b
  | .int i, _, h => by cases h; exact .int i
  | .str x, _, h => by cases h; exact .str x
  | .list ds, _, h => by
    cases h with
    | lst hl ha => exact .lst (hl.mono e f) (RpA.mono e f ha)
  | .tuple ds, _, h => by
    cases h with
    | tup hl ha => exact .tup (Same.sqt e hl) (RpA.mono e f ha)
  | .dict _, _, h => by cases h
theorem RpA.mono (e : Same H H') (f : ∀ a, F a → F' a) : ∀ {ds : List D} {vs : List V}, RpA K H F vs ds → RpA K H' F' vs ds
  | [], _, h => by cases h; exact .nil
  | d :: ds, _, h => by
    cases h with
    | cons h1 h2 => exact .cons (Rp.mono e f h1) (RpA.mono e f h2)
end
theorem RpA.length : ∀ {ds : List D} {vs : List V}, RpA K H F vs ds → vs.length = ds.length
  | [], _, h => by cases h; rfl
  | d :: ds, _, h => by
    cases h with
    | cons h1 h2 => exact congrArg (· + 1) (RpA.length h2)
theorem RpA.get : ∀ {ds : List D} {vs : List V} {i : Nat} {d : D}, RpA K H F vs ds → ds[i]? = some d → ∃ v, vs[i]? = some v ∧ Rp K H F v d
  | [], _, _, _, h, e => by simp at e
  | d :: ds, _, 0, d', h, e => by
    cases h with
    | cons h1 h2 =>
      simp at e
      subst e
      exact ⟨_, rfl, h1⟩
  | d :: ds, _, i + 1, d', h, e => by
    cases h with
    | cons h1 h2 =>
      obtain ⟨v, e1, r⟩ := RpA.get (i := i) h2 (by simpa using e)
      exact ⟨v, by simpa using e1, r⟩
theorem RpA.append : ∀ {ds es : List D} {vs us : List V}, RpA K H F vs ds → RpA K H F us es → RpA K H F (vs ++ us) (ds ++ es)
  | [], _, _, _, h, k => by cases h; exact k
  | d :: ds, _, _, _, h, k => by
    cases h with
    | cons h1 h2 => exact .cons h1 (RpA.append h2 k)
theorem RpA.take : ∀ {ds : List D} {vs : List V} (n : Nat), RpA K H F vs ds → RpA K H F (vs.take n) (ds.take n)
  | [], _, n, h => by cases h; simp; exact .nil
  | d :: ds, _, 0, h => .nil
  | d :: ds, _, n + 1, h => by
    cases h with
    | cons h1 h2 => exact .cons h1 (RpA.take n h2)
theorem RpA.drop : ∀ {ds : List D} {vs : List V} (n : Nat), RpA K H F vs ds → RpA K H F (vs.drop n) (ds.drop n)
  | [], _, n, h => by cases h; simp; exact .nil
  | d :: ds, _, 0, h => h
  | d :: ds, _, n + 1, h => by
    cases h with
    | cons h1 h2 => exact RpA.drop n h2
theorem RpA.snoc {ds : List D} {vs : List V} {d : D} {v : V} (h : RpA K H F vs ds) (k : Rp K H F v d) : RpA K H F (vs ++ [v]) (ds ++ [d]) := h.append (.cons k .nil)
theorem RpA.reverse : ∀ {ds : List D} {vs : List V}, RpA K H F vs ds → RpA K H F vs.reverse ds.reverse
  | [], _, h => by cases h; exact .nil
  | d :: ds, _, h => by
    cases h with
    | cons h1 h2 => rw [List.reverse_cons, List.reverse_cons]; exact (RpA.reverse h2).snoc h1
theorem RpA.set : ∀ {ds : List D} {vs : List V} {d : D} {v : V} (i : Nat), RpA K H F vs ds → Rp K H F v d → RpA K H F (vs.set i v) (ds.set i d)
  | [], _, _, _, i, h, k => by cases h; exact .nil
  | d :: ds, _, _, _, 0, h, k => by
    cases h with
    | cons h1 h2 => exact .cons k h2
  | d :: ds, _, _, _, i + 1, h, k => by
    cases h with
    | cons h1 h2 => exact .cons h1 (RpA.set i h2 k)
theorem RpA.dropLast : ∀ {ds : List D} {vs : List V}, RpA K H F vs ds → RpA K H F vs.dropLast ds.dropLast := fun {ds vs} h => by
  rw [List.dropLast_eq_take, List.dropLast_eq_take, h.length]
  exact h.take _
mutual
theorem Rp.dp : ∀ {d : D} {v : V}, Rp K H F v d → Dp K H v d
  | .none, _, h => by cases h; exact .non
  | .bool b, _, h => by cases h; exact .bl b
  | .int i, _, h => by cases h; exact .int i
  | .str x, _, h => by cases h; exact .str x
  | .list ds, _, h => by
    cases h with
    | lst hl ha => exact .lst hl.sq (RpA.dp ha)
  | .tuple ds, _, h => by
    cases h with
    | tup hl ha => exact .tup hl (RpA.dp ha)
  | .dict _, _, h => by cases h
theorem RpA.dp : ∀ {ds : List D} {vs : List V}, RpA K H F vs ds → DpAll K H vs ds
  | [], _, h => by cases h; exact .nil
  | d :: ds, _, h => by
    cases h with
    | cons h1 h2 => exact .cons (Rp.dp h1) (RpA.dp h2)
end
mutual
/-- no list in it -/
def lf : D → Bool
  | .list _ => false
  | .dict _ => false
  | .tuple ds => lfA ds
  | _ => true
def lfA : List D → Bool
  | [] => true
  | d :: ds => lf d && lfA ds
end
mutual
theorem Rp.free (e : ∀ a xs, SqT K H a xs → SqT K H' a xs) : ∀ {d : D} {v : V}, lf d = true → Rp K H F v d → Rp K H' F' v d
  | .none, _, _, h => by cases h; exact .non
  | .bool b, _, _, h => by cases h; exact .bl b
  | .int i, _, _, h => by cases h; exact .int i
  | .str x, _, _, h => by cases h; exact .str x
  | .list ds, _, z, h => by simp [lf] at z
  | .tuple ds, _, z, h => by
    cases h with
    | tup hl ha => exact .tup (e _ _ hl) (RpA.free e (by simpa [lf] using z) ha)
  | .dict _, _, _, h => by cases h
theorem RpA.free (e : ∀ a xs, SqT K H a xs → SqT K H' a xs) : ∀ {ds : List D} {vs : List V}, lfA ds = true → RpA K H F vs ds → RpA K H' F' vs ds
  | [], _, _, h => by cases h; exact .nil
  | d :: ds, _, z, h => by
    cases h with
    | cons h1 h2 =>
      simp [lfA] at z
      exact .cons (Rp.free e z.1 h1) (RpA.free e z.2 h2)
end
/-- a tracked list at p changes: what leans on no list at p stands -/
theorem sqt_upd {p : Addr} {xs ys : List V} (hp : H p = some (.lst xs)) {a : Addr} {ts : List V} (h : SqT K H a ts) : SqT K (upd H p (.lst ys)) a ts := by
  rcases h with (h | ⟨o, h⟩) | h
  · refine .inl (.inl ?_)
    rw [upd_ne (by rintro rfl; rw [hp] at h; cases h)]
    exact h
  · refine .inl (.inr ⟨o, ?_⟩)
    rw [upd_ne (by rintro rfl; rw [hp] at h; cases h)]
    exact h
  · exact .inr h
theorem LAt.upd {p : Addr} {u : HO} (hn : ¬ F p) {a : Addr} {xs : List V} (h : LAt K H F a xs) : LAt K (upd H p u) F a xs := by
  rcases h with ⟨h, f⟩ | h
  · have ne : a ≠ p := by rintro rfl; exact hn f
    refine .inl ⟨?_, f⟩
    rcases h with h | ⟨o, h⟩
    · exact .inl (by rw [upd_ne ne]; exact h)
    · exact .inr ⟨o, by rw [upd_ne ne]; exact h⟩
  · exact .inr h
mutual
theorem Rp.upd {p : Addr} {xs ys : List V} (hp : H p = some (.lst xs)) (hn : ¬ F p) : ∀ {d : D} {v : V}, Rp K H F v d → Rp K (upd H p (.lst ys)) F v d
  | .none, _, h => by cases h; exact .non
  | .bool b, _, h => by cases h; exact .bl b
  | .int i, _, h => by cases h; exact .int i
  | .str x, _, h => by cases h; exact .str x
  | .list ds, _, h => by
    cases h with
    | lst hl ha => exact .lst (hl.upd hn) (RpA.upd hp hn ha)
  | .tuple ds, _, h => by
    cases h with
    | tup hl ha => exact .tup (sqt_upd hp hl) (RpA.upd hp hn ha)
  | .dict _, _, h => by cases h
theorem RpA.upd {p : Addr} {xs ys : List V} (hp : H p = some (.lst xs)) (hn : ¬ F p) : ∀ {ds : List D} {vs : List V}, RpA K H F vs ds → RpA K (upd H p (.lst ys)) F vs ds
  | [], _, h => by cases h; exact .nil
  | d :: ds, _, h => by
    cases h with
    | cons h1 h2 => exact .cons (Rp.upd hp hn h1) (RpA.upd hp hn h2)
end
end

/-! ### the world, the context of a body -/
structure Wd where
  P : Program
  w : World
  K : PySem.W.Frag
  mg : Str → Option Value
  base : Heap
  seer : base.NoSeer
  tree : P.given.tree = none

structure G where
  D : Wd
  N : List Str
  sc : Scope
  L : Nat
  /-- every name may be stored | nothing is being handled -/
  B : Bool
  calm : Bool

structure Cok (g : G) (X : Cx) (W : WX) : Prop where
  prog : X.prog = g.D.P
  w : X.w = g.D.w
  K : X.K = g.D.K
  mg : X.mg = g.D.mg
  base : X.base = g.D.base
  N : X.N = g.N
  sc : X.env.scope = g.sc
  nd : X.N.Nodup
  calm : X.calm = g.calm
  room : g.calm = true → Room g.L X.A
  units : X.A.units + 64 < cLine
  takes : Takes X W
  passes : PassesOwn (model X.prog X.w) X.A X.env X.xe
  fn : g.B = true → ∀ x, X.fn x = true
  top : g.B = true → X.stack = X.env :: X.outer ∧ X.env.frame = some X.env.locals
  deep : g.calm = true → X.A.depth + Builtin.pylongFrames < recursionLimit
  high : ∃ e r, X.stack = e :: r ∧ e.scope.isGenerator = false ∧ e.scope.isCoroutine = false ∧ e.builtins = builtinsNs ∧ e.globals = mainGlobals
/-- math.lcm's own asking for that room -/
def LcmRoom (M : Model) (A : Around) (s : Shared) : Prop := ∀ (u n : Nat) (E : Value → Shared → Prop) (Q : Unit → Shared → Prop), Q () s → wpAny M { A with units := u } (Builtin.roomForPylongsInverse n) Q E s
theorem lcmRoom_of {M : Model} {A : Around} {s : Shared} (hl : s.heap.NoLimit) (hd : A.depth + Builtin.pylongFrames < recursionLimit) (hs : PySem.SeerAt M A s.heap) : LcmRoom M A s := by
  intro u n E Q h
  unfold Builtin.roomForPylongsInverse
  rcases Decidable.em (n.log2 / 30 + 1 > 450) with z | z
  · rw [if_pos z]
    exact wpAny_bind (hs u s E _ rfl (PySem.wpAny_pylongFrames (A := { A with units := u }) hl hd h))
  · rw [if_neg z]
    exact wpAny_pure h
/-- a division of great numbers has room -/
theorem Cok.pylong {g : G} {X : Cx} {W : WX} (C : Cok g X W) (hc : g.calm = true) {pins : List (Addr × Obj)} {σ : L2.St} {H : Hp} {s : Shared} (I : Inv X pins σ H s) : PySem.PylongRoom (model X.prog X.w) X.A s := by
  obtain ⟨e, r, h1, h2, h3, h4, h5⟩ := C.high
  have hN : s.heap.NoSeer := by
    have h0 := g.D.seer
    rw [← C.base] at h0
    exact h0.keeps I.bk
  have hT : (model X.prog X.w).prog.given.tree = none := by
    have h0 := g.D.tree
    rw [← C.prog] at h0
    exact h0
  exact PySem.PylongRoom.of I.nolimit (C.deep hc) (PySem.SeerAt.of hN hT (by rw [← h1]; exact I.ok.frames) h2 h3 h4 h5)
theorem Cok.lcm {g : G} {X : Cx} {W : WX} (C : Cok g X W) (hc : g.calm = true) {pins : List (Addr × Obj)} {σ : L2.St} {H : Hp} {s : Shared} (I : Inv X pins σ H s) : LcmRoom (model X.prog X.w) X.A s := by
  obtain ⟨e, r, h1, h2, h3, h4, h5⟩ := C.high
  have hN : s.heap.NoSeer := by
    have h0 := g.D.seer
    rw [← C.base] at h0
    exact h0.keeps I.bk
  have hT : (model X.prog X.w).prog.given.tree = none := by
    have h0 := g.D.tree
    rw [← C.prog] at h0
    exact h0
  exact lcmRoom_of I.nolimit (C.deep hc) (PySem.SeerAt.of hN hT (by rw [← h1]; exact I.ok.frames) h2 h3 h4 h5)

def notStar : Expr → Bool
  | .Starred _ _ => false
  | _ => true
theorem starEach_of {e : Expr} {es : List Expr} {env : Env} (h : notStar e = true) : starEach (e :: es) env = (false, eval e env) :: starEach es env := by
  cases e <;> first | rfl | (cases h; done)
/-! ### the widest readings -/
@[irreducible] def wE (X : Cx) (e : Expr) : TE := fun σ H Q => ∀ (pins : List (Addr × Obj)) (s : Shared), Inv X pins σ H s → wpAny (model X.prog X.w) X.A (eval e X.env) (EP X pins σ Q) X.xe s
theorem pe_w {X : Cx} {e : Expr} : PE X e (wE X e) := ⟨fun pins s _ _ _ I h => by unfold wE at h; exact h pins s I⟩
theorem wE_of {X : Cx} {e : Expr} {t : TE} (h : PE X e t) {σ : L2.St} {H : Hp} {Q : VK} (q : t σ H Q) : wE X e σ H Q := by unfold wE; exact fun pins s I => h.run pins s σ H Q I q
@[irreducible] def wT (X : Cx) (e : Expr) : TT := fun σ H Q => ∀ (pins : List (Addr × Obj)) (s : Shared), Inv X pins σ H s → wpAny (model X.prog X.w) X.A (isTrue e X.env (eval e X.env)) (TP X pins σ Q) X.xe s
theorem pt_w {X : Cx} {e : Expr} : PT X e (wT X e) := ⟨fun pins s _ _ _ I h => by unfold wT at h; exact h pins s I⟩
theorem wT_of {X : Cx} {e : Expr} {t : TT} (h : PT X e t) {σ : L2.St} {H : Hp} {Q : Bool → Hp → Prop} (q : t σ H Q) : wT X e σ H Q := by unfold wT; exact fun pins s I => h.run pins s σ H Q I q
@[irreducible] def wA (X : Cx) (es : List Expr) : TA := fun σ H Q => ∀ (pos : Pos) (pins : List (Addr × Obj)) (s : Shared), Inv X pins σ H s → wpAny (model X.prog X.w) X.A (spliced (backTo pos (starEach es X.env))) (AP X pins σ Q) X.xe s
theorem pa_w {X : Cx} {es : List Expr} : PA X es (wA X es) := ⟨fun pos pins s _ _ _ I h => by unfold wA at h; exact h pos pins s I⟩
theorem wA_of {X : Cx} {es : List Expr} {t : TA} (h : PA X es t) {σ : L2.St} {H : Hp} {Q : List V → Hp → Prop} (q : t σ H Q) : wA X es σ H Q := by unfold wA; exact fun pos pins s I => h.run pos pins s σ H Q I q
@[irreducible] def wS (X : Cx) (st : Stmt) : TS := fun D σ H => ∀ (pins : List (Addr × Obj)) (s : Shared), Inv X pins σ H s → wpAny (model X.prog X.w) X.A (exec st X.env) (SP X pins D) X.xe s
theorem ps_w {X : Cx} {st : Stmt} : PS X st (wS X st) := ⟨fun pins s _ _ _ I h => by unfold wS at h; exact h pins s I⟩
theorem wS_of {X : Cx} {st : Stmt} {t : TS} (h : PS X st t) {D : Ends} {σ : L2.St} {H : Hp} (q : t D σ H) : wS X st D σ H := by unfold wS; exact fun pins s I => h.run pins s σ H D I q
@[irreducible] def wB (X : Cx) (st : List Stmt) : TS := fun D σ H => ∀ (pins : List (Addr × Obj)) (s : Shared), Inv X pins σ H s → wpAny (model X.prog X.w) X.A (execs st X.env) (SP X pins D) X.xe s
theorem pss_w {X : Cx} {st : List Stmt} : PSs X st (wB X st) := ⟨fun pins s _ _ _ I h => by unfold wB at h; exact h pins s I⟩
theorem wB_of {X : Cx} {st : List Stmt} {t : TS} (h : PSs X st t) {D : Ends} {σ : L2.St} {H : Hp} (q : t D σ H) : wB X st D σ H := by unfold wB; exact fun pins s I => h.run pins s σ H D I q
@[irreducible] def wG (X : Cx) (tg : Expr) : TG := fun v σ H Q => ∀ (pins : List (Addr × Obj)) (s : Shared) (u : Value), Inv X pins σ H s → RelV v u →
  wpAny (model X.prog X.w) X.A (assign tg X.env u) (fun _ s' => ∃ σ' H', Inv X pins σ' H' s' ∧ Q σ' H') X.xe s
theorem pg_w {X : Cx} {tg : Expr} : PG X tg (wG X tg) := ⟨fun pins s _ _ _ u _ I r h => by unfold wG at h; exact h pins s u I r⟩
theorem wG_of {X : Cx} {tg : Expr} {t : TG} (h : PG X tg t) {v : V} {σ : L2.St} {H : Hp} {Q : L2.St → Hp → Prop} (q : t v σ H Q) : wG X tg v σ H Q := by unfold wG; exact fun pins s u I r => h.run pins s σ H v u Q I r q
@[irreducible] def wI (X : Cx) (tg iter : Expr) : TI := fun σ H Q => ∀ (pins : List (Addr × Obj)) (s : Shared), Inv X pins σ H s →
  wpAny (model X.prog X.w) X.A (eval iter X.env) (fun v s1 => wpAny (model X.prog X.w) X.A (pyIter v) (PIE X pins σ tg Q) X.xe s1) X.xe s
theorem pi_w {X : Cx} {tg iter : Expr} : PI X tg iter (wI X tg iter) := ⟨fun pins s _ _ _ I h => by unfold wI at h; exact h pins s I⟩
theorem wI_of {X : Cx} {tg iter : Expr} {t : TI} (h : PI X tg iter t) {σ : L2.St} {H : Hp} {Q : It → Hp → Prop} (q : t σ H Q) : wI X tg iter σ H Q := by unfold wI; exact fun pins s I => h.run pins s σ H Q I q
@[irreducible] def wO (X : Cx) (f : Value → Value → Sem Value) : R2 := fun x y H Q => ∀ (pins : List (Addr × Obj)) (s : Shared) (σ : L2.St) (v u : Value), Inv X pins σ H s → RelV x v → RelV y u →
  wpAny (model X.prog X.w) X.A (f v u) (EP X pins σ Q) X.xe s
theorem op_w {X : Cx} {f : Value → Value → Sem Value} : OpR X f (wO X f) := fun pins s σ _ _ _ v u _ I rx ry h => by unfold wO at h; exact h pins s σ v u I rx ry
theorem wO_of {X : Cx} {f : Value → Value → Sem Value} {r : R2} (h : OpR X f r) {x y : V} {H : Hp} {Q : VK} (q : r x y H Q) : wO X f x y H Q := by unfold wO; exact fun pins s σ v u I rx ry => h pins s σ H x y v u Q I rx ry q
end Pu
namespace Pu
open PySem PySem.Spec PyProof.Rows L2

abbrev En := List (Option D)
def EnvOk (K : PySem.W.Frag) (F : Fp) (σ : L2.St) (H : Hp) (env : En) : Prop := ∀ (i : Nat) (d : D), env[i]? = some (some d) → ∃ v, σ[i]? = some (some v) ∧ Rp K H F v d
theorem EnvOk.mono {K : PySem.W.Frag} {F F' : Fp} {σ : L2.St} {H H' : Hp} {env : En} (h : EnvOk K F σ H env) (e : Same H H') (f : ∀ a, F a → F' a) : EnvOk K F' σ H' env := fun i d q => by
  obtain ⟨v, h1, h2⟩ := h i d q
  exact ⟨v, h1, h2.mono e f⟩
/-- F and what H does not know -/
def Fx (F : Fp) (H : Hp) : Fp := fun a => F a ∨ H a = none
theorem Fx.le {F : Fp} {H : Hp} : ∀ a, F a → Fx F H a := fun _ h => .inl h
theorem Fx.back {F : Fp} {H H1 : Hp} (e : Same H H1) : ∀ a, Fx F H1 a → Fx F H a := fun a h => h.elim .inl fun z => .inr (e.free z)
theorem Fx.back2 {F : Fp} {H H1 : Hp} (e : Same H H1) : ∀ a, Fx (Fx F H) H1 a → Fx F H a := fun a h => h.elim id fun z => .inr (e.free z)
theorem Same.new {H : Hp} {p : Addr} {o : HO} (h : H p = none) : Same H (upd H p o) := fun a u e => by
  rw [upd_ne (ne_of_none e h)]
  exact e

/-- what is wanted of an outcome -/
def Wants (g : G) (W : WX) (σ : L2.St) (H : Hp) {α β : Type} (r : R α) (rel : α → β → Hp → Prop) (Q : β → Hp → Prop) : Prop :=
  match r with
  | .ok d => ∀ v H', Same H H' → rel d v H' → Q v H'
  | .ex c => ∀ cv H', Same H H' → g.D.mg c = some cv → W cv none σ H'
  | .no => False
section
variable {g : G} {W : WX} {σ : L2.St} {H H1 : Hp}
theorem Wants.bind {α β α' β' : Type} {r : R α} {k : α → R α'} {rel : α → β → Hp → Prop} {rel' : α' → β' → Hp → Prop} {Q : β' → Hp → Prop} {Q1 : β → Hp → Prop} (h : Wants g W σ H (r.bind k) rel' Q)
    (q : ∀ d v H1, r = .ok d → Same H H1 → rel d v H1 → Wants g W σ H1 (k d) rel' Q → Q1 v H1) : Wants g W σ H r rel Q1 := by
  cases r with
  | ok d =>
    intro v H1 e r1
    refine q d v H1 rfl e r1 ?_
    simp only [R.bind_ok] at h
    revert h
    cases k d with
    | ok d' => exact fun h v' H' e' r' => h v' H' (e.trans e') r'
    | ex c => exact fun h cv H' e' hm => h cv H' (e.trans e') hm
    | no => exact fun h => h
  | ex c => exact h
  | no => exact h
theorem Wants.imp {α β : Type} {r : R α} {rel rel' : α → β → Hp → Prop} {Q : β → Hp → Prop} (h : Wants g W σ H r rel Q) (f : ∀ d v H', Same H H' → rel' d v H' → rel d v H') : Wants g W σ H r rel' Q := by
  cases r with
  | ok d => exact fun v H' e r' => h v H' e (f d v H' e r')
  | ex c => exact h
  | no => exact h
theorem Wants.impQ {α β : Type} {r : R α} {rel : α → β → Hp → Prop} {Q Q' : β → Hp → Prop} (h : Wants g W σ H r rel Q) (f : ∀ v H', Same H H' → Q v H' → Q' v H') : Wants g W σ H r rel Q' := by
  cases r with
  | ok d => exact fun v H' e r' => f v H' e (h v H' e r')
  | ex c => exact h
  | no => exact h
end

def relE (K : PySem.W.Frag) (F : Fp) (H : Hp) : D → V → Hp → Prop := fun d v H' => Rp K H' (Fx F H) v d
def relA (K : PySem.W.Frag) (F : Fp) (H : Hp) : List D → List V → Hp → Prop := fun d v H' => RpA K H' (Fx F H) v d
def relT : Bool → Bool → Hp → Prop := fun a b _ => b = a
/-- an expression | a test | arguments, as functions on data -/
def Pur (g : G) (e : Expr) (f : En → R D) : Prop := ∀ X W, Cok g X W → ∀ σ H F env (Q : VK), EnvOk g.D.K F σ H env → Wants g W σ H (f env) (relE g.D.K F H) Q → wE X e σ H Q
def PurT (g : G) (e : Expr) (f : En → R Bool) : Prop := ∀ X W, Cok g X W → ∀ σ H F env (Q : Bool → Hp → Prop), EnvOk g.D.K F σ H env → Wants g W σ H (f env) relT Q → wT X e σ H Q
def PurA (g : G) (es : List Expr) (f : En → R (List D)) : Prop := ∀ X W, Cok g X W → ∀ σ H F env (Q : List V → Hp → Prop), EnvOk g.D.K F σ H env → Wants g W σ H (f env) (relA g.D.K F H) Q → wA X es σ H Q

section
variable {g : G} {pos p p2 : Pos} {a b c e : Expr} {es : List Expr} {fa fb fe : En → R D} {fs : En → R (List D)} {ft : En → R Bool}

/-! ### names, constants -/
def vis (sc : Scope) (x : Str) : Bool := match sc.names.lookup x with
  | some .local => true
  | some .cell => true
  | some .free => true
  | _ => false
theorem vis_ok {sc : Scope} {x : Str} (h : vis sc x = true) : Vis sc x := by
  unfold vis at h
  split at h
  · exact .inl (by assumption)
  · exact .inr (.inl (by assumption))
  · exact .inr (.inr (by assumption))
  · cases h
@[simp] def getV (i : Nat) (env : En) : R D := match env[i]? with
  | some (some d) => .ok d
  | _ => .no
theorem pur_var (i : Nat) {x : Str} (hN : g.N[i]? = some x := by rfl) (hv : vis g.sc x = true := by rfl) (hd : (x == ("__debug__" : Str)) = false := by decide) (hcd : (x == ("__classdict__" : Str)) = false := by decide) : Pur g (.Name x pos) (getV i) := by
  intro X W C σ H F env Q E h
  refine wE_of (pe_var (i := i) (by rw [C.N]; exact hN) (by rw [C.sc]; exact vis_ok hv) hd hcd) ?_
  unfold getV at h
  split at h
  · rename_i d hq
    obtain ⟨v, h1, h2⟩ := E i d hq
    exact ⟨v, h1, h v H (Same.refl H) (h2.mono (Same.refl H) Fx.le)⟩
  · exact h.elim
/-- a constant of the module -/
def Const (D : Wd) (x : Str) (d : PyData) : Prop := ∃ v u, D.mg x = some u ∧ RelV v u ∧ ∀ H F, Rp D.K H F v d
def gl (sc : Scope) (x : Str) : Bool := match sc.names.lookup x with
  | some .globalImplicit => true
  | _ => false
theorem gl_ok {X : Cx} {W : WX} {x : Str} (C : Cok g X W) (h : gl g.sc x = true) : Gl X x := by
  unfold gl at h
  show X.env.scope.names.lookup x = _
  rw [C.sc]
  split at h
  · assumption
  · cases h
theorem pur_const {x : Str} {d : D} (hc : Const g.D x d) (hg : gl g.sc x = true := by rfl) (hd : (x == ("__debug__" : Str)) = false := by decide) : Pur g (.Name x pos) (fun _ => .ok d) := by
  intro X W C σ H F env Q E h
  obtain ⟨v, u, hm, r, hr⟩ := hc
  exact wE_of (pe_glob (gl_ok C hg) (by rw [C.mg]; exact hm) r hd) (h v H (Same.refl H) (hr H _))
theorem pur_int {i : Int} {j : Nat} : Pur g (.Constant (.int i) j pos) (fun _ => .ok (.int i)) := fun X W C σ H F env Q E h => wE_of pe_int (h _ H (Same.refl H) (.int i))
theorem pur_bool {i : Bool} {j : Nat} : Pur g (.Constant (.bool i) j pos) (fun _ => .ok (.bool i)) := fun X W C σ H F env Q E h => wE_of pe_bl (h _ H (Same.refl H) (.bl i))
theorem pur_none {j : Nat} : Pur g (.Constant .none j pos) (fun _ => .ok .none) := fun X W C σ H F env Q E h => wE_of pe_non (h _ H (Same.refl H) .non)
theorem pur_str {i : Str} {j : Nat} : Pur g (.Constant (.str i) j pos) (fun _ => .ok (.str i)) := fun X W C σ H F env Q E h => wE_of pe_str (h _ H (Same.refl H) (.str i))

/-! ### arguments -/
theorem pura_nil : PurA g [] (fun _ => .ok []) := fun X W C σ H F env Q E h => wA_of pa_nil (h _ H (Same.refl H) .nil)
theorem pura_cons (he : Pur g e fe) (hr : PurA g es fs) (hs : ∀ env, starEach (e :: es) env = (false, eval e env) :: starEach es env := by intro _; exact starEach_of rfl) :
    PurA g (e :: es) (fun env => (fe env).bind fun d => (fs env).bind fun ds => .ok (d :: ds)) := by
  intro X W C σ H F env Q E h
  refine wA_of (pa_cons pe_w pa_w (hs _)) ?_
  refine he X W C σ H F env _ E (h.bind fun d v H1 _ e1 r1 h1 => ?_)
  refine hr X W C σ H1 F env _ (E.mono e1 fun _ z => z) (h1.bind fun ds vs H2 _ e2 r2 h2 => ?_)
  exact h2 _ H2 (Same.refl H2) (.cons (Rp.mono e2 (fun _ z => z) r1) (RpA.mono (Same.refl H2) (Fx.back e1) r2))
@[simp] def unstar : D → R (List D)
  | .list ds => .ok ds
  | .tuple ds => .ok ds
  | _ => .no
theorem pura_star (he : Pur g e fe) (hr : PurA g es fs) (hs : ∀ env, starEach (.Starred e p :: es) env = (true, eval e env) :: starEach es env := by intro _; rfl) :
    PurA g (.Starred e p :: es) (fun env => (fe env).bind fun d => (unstar d).bind fun ds => (fs env).bind fun es => .ok (ds ++ es)) := by
  intro X W C σ H F env Q E h
  refine wA_of (StX.pa_star pe_w pa_w (hs _)) ?_
  refine he X W C σ H F env _ E (h.bind fun d v H1 _ e1 r1 h1 => ?_)
  have go : ∀ (a : Addr) (xs : List V) (ds : List D), v = .ref a → (SqT X.K H1 a xs ∨ SqL X.K H1 a xs) → RpA g.D.K H1 (Fx F H) xs ds → Wants g W σ H1 ((fs env).bind fun es => .ok (ds ++ es)) (relA g.D.K F H) Q →
      ∃ p xs, v = V.ref p ∧ (SqT X.K H1 p xs ∨ SqL X.K H1 p xs) ∧ wA X es σ H1 fun ys H2 => Q (xs ++ ys) H2 := fun a xs ds ev hx ha h2 => by
    refine ⟨a, xs, ev, hx, ?_⟩
    refine hr X W C σ H1 F env _ (E.mono e1 fun _ z => z) (h2.bind fun ds' vs H2 _ e2 r2 h3 => ?_)
    exact h3 _ H2 (Same.refl H2) ((RpA.mono e2 (fun _ z => z) ha).append (RpA.mono (Same.refl H2) (Fx.back e1) r2))
  cases r1 with
  | lst hl ha => exact go _ _ _ rfl (.inr (by rw [C.K]; exact hl.sq)) ha h1
  | tup hl ha => exact go _ _ _ rfl (.inl (by rw [C.K]; exact hl)) ha h1
  | _ => exact h1.elim
def szOk (n : Nat) : Bool := decide (n ≤ sizeLine)
theorem pur_tup {k : Nat} (h : PurA g es fs) : Pur g (.Tuple es k pos) (fun env => (fs env).bind fun ds => if szOk ds.length then .ok (.tuple ds) else .no) := by
  intro X W C σ H F env Q E hq
  refine wE_of (pe_tup pa_w) ?_
  refine h X W C σ H F env _ E (hq.bind fun ds vs H1 _ e1 r1 h1 => ?_)
  by_cases z : szOk ds.length = true
  · rw [if_pos z] at h1
    refine ⟨by rw [r1.length]; exact of_decide_eq_true z, fun q hn => h1 _ _ (Same.new hn) ?_⟩
    exact .tup (.inl (.inl upd_same)) (RpA.mono (Same.new hn) (fun _ z => z) r1)
  · rw [if_neg z] at h1
    exact h1.elim
theorem pur_lst (h : PurA g es fs) : Pur g (.List es pos) (fun env => (fs env).bind fun ds => if szOk ds.length then .ok (.list ds) else .no) := by
  intro X W C σ H F env Q E hq
  refine wE_of (pe_lst pa_w) ?_
  refine h X W C σ H F env _ E (hq.bind fun ds vs H1 _ e1 r1 h1 => ?_)
  by_cases z : szOk ds.length = true
  · rw [if_pos z] at h1
    refine ⟨by rw [r1.length]; exact of_decide_eq_true z, fun q hn => h1 _ _ (Same.new hn) ?_⟩
    exact .lst (.inl ⟨.inl upd_same, .inr (e1.free hn)⟩) (RpA.mono (Same.new hn) (fun _ z => z) r1)
  · rw [if_neg z] at h1
    exact h1.elim
end

/-! ### operators -/
section
variable {g : G} {W : WX} {X : Cx} {σ : L2.St} {H : Hp} {F : Fp}
def mulOk (i j : Int) : Bool := decide (i.natAbs < 2 ^ 64) || decide (j.natAbs < 2 ^ 64) || decide (i.natAbs.log2 + j.natAbs.log2 < 134217720)
theorem mulOk_ok {i j : Int} (h : mulOk i j = true) : IntMulOk i j := by
  unfold mulOk at h
  simp only [Bool.or_eq_true, decide_eq_true_eq] at h
  have bits : ∀ x : Int, Builtin.Int.intBits x ≤ x.natAbs.log2 + 1 := fun x => by
    unfold Builtin.Int.intBits
    split <;> omega
  rcases h with (h | h) | h
  · exact .of_left (intBits_le_64 (by omega) (by omega))
  · exact .of_right (intBits_le_64 (by omega) (by omega))
  · have h1 := bits i
    have h2 := bits j
    have line : bitsLine = 2 ^ 27 := by decide
    unfold IntMulOk
    intro z
    rw [Bool.and_eq_true] at z
    have y2 := z.2
    unfold Builtin.Int.intTooBig at y2
    have y3 := of_decide_eq_true y2
    rw [line] at y3
    omega
def divOk (_ j : Int) : Bool := decide (j ≠ 0)
theorem divOk_ok {i j : Int} (h : divOk i j = true) : j ≠ 0 := of_decide_eq_true h
def shlOk (i j : Int) : Bool := decide (0 ≤ j) && decide (i.natAbs.log2 + j.toNat < 134217000)
theorem shlOk_ok {i j : Int} (h : shlOk i j = true) : CShl i j := by
  unfold shlOk at h
  simp only [Bool.and_eq_true, decide_eq_true_eq] at h
  have bits : Builtin.Int.intBits i ≤ i.natAbs.log2 + 1 := by
    unfold Builtin.Int.intBits
    split <;> omega
  have e : (2 : Int) ^ 27 = 134217728 := by decide
  refine ⟨h.1, ?_⟩
  rw [e]
  omega
def opV : Operator → D → D → R D
  | .Add, .int i, .int j => .ok (.int (i + j))
  | .Sub, .int i, .int j => .ok (.int (i - j))
  | .Mult, .int i, .int j => if mulOk i j then .ok (.int (i * j)) else .no
  | .FloorDiv, .int i, .int j => if divOk i j then .ok (.int (i.fdiv j)) else .no
  | .Mod, .int i, .int j => if j = 0 then .no else .ok (.int (i.fmod j))
  | .Pow, .int i, .int j => if 0 ≤ j ∧ j ≤ 1000000 ∧ i.natAbs < 2 ^ 64 then .ok (.int (i ^ j.toNat)) else .no
  | .LShift, .int i, .int j => if shlOk i j then .ok (.int (i * 2 ^ j.toNat)) else .no
  | .RShift, .int i, .int j => if 0 ≤ j then .ok (.int (i / 2 ^ j.toNat)) else .no
  | .BitAnd, .int i, .int j => .ok (.int (Builtin.bitAnd i j))
  | .Add, .list xs, .list ys => if szOk (xs.length + ys.length) then .ok (.list (xs ++ ys)) else .no
  | .Add, .tuple xs, .tuple ys => if szOk (xs.length + ys.length) then .ok (.tuple (xs ++ ys)) else .no
  | .Mult, .list xs, .int k => if -(2 ^ 63) ≤ k ∧ k < 2 ^ 63 ∧ xs.length * k.toNat ≤ sizeLine then .ok (.list (List.replicate k.toNat xs).flatten) else .no
  | .Mult, .tuple xs, .int k => if 0 ≤ k ∧ k ≤ 1000 ∧ 0 < xs.length ∧ xs.length ≤ 1000 then .ok (.tuple (List.replicate k.toNat xs).flatten) else .no
  | .Add, .str x, .str y => if x.length + y.length ≤ sizeLine then .ok (.str (x ++ y)) else .no
  | _, _, _ => .no
end

/-! ### sequences put together and repeated -/
/-- a sequence as it lies in memory -/
abbrev sqO (T : String) (dd : Option Addr) (m : Nat) (sl : Array (Option Value)) (ws : Array Value) : Obj := ⟨.type T, dd, .seq ws m, sl⟩
/-- a method, the sequence o lying at a, tells v and leaves st -/
abbrev Tells (a : Addr) (o : Obj) (v : Shared → Value) (st : Shared → Shared) : Around → (Result → Shared → Prop) → Shared → Prop := fun _ R z => z.heap.get? a = some o ∧ R (.ok (.ret (v z))) (st z)
/-- a new sequence behind all that is -/
abbrev laid (T : String) (ws : Array Value) (z : Shared) : Shared := { z with heap := z.heap.push { cls := Value.type T, data := Data.seq ws }, toks := z.toks }
abbrev lastA (z : Shared) : Value := .ref z.heap.objs.size
abbrev manyOf (n : Nat) (ws : Array Value) : Array Value := List.foldl (fun x1 x2 => x1 ++ x2) #[] (List.replicate n ws)
section
variable {l : Addr} {ws : Array Value} {m : Nat} {dd : Option Addr} {sl : Array (Option Value)} {x : Int} {u : Tok}
theorem times_none (a : Int) (t : Tok) : Meets (Builtin.«int.__rmul__» ⟨[.int a t, .ref l], []⟩) (Tells l (sqO "list" dd m sl ws) (fun _ => .notImplemented) id) := .of_wp fun P w A R z ⟨hl, q⟩ => by
  rcases z with ⟨hp, g, d, tk, os⟩
  wp_walk using AutoSeq1.wpAny_loadPart' hl
  exact ⟨_, rfl, q⟩
theorem times_list (k0 : ¬(!Builtin.List.listFitsIndex x) = true) (k1 : ¬ws.size * x.toNat > (2 ^ 63 - 1) / 8) (k2 : ¬Builtin.List.listTooLong (ws.size * x.toNat) = true) :
    Meets (Builtin.«list.__mul__» ⟨[.ref l, .int x u], []⟩) (Tells l (sqO "list" dd m sl ws) lastA (laid "list" (manyOf (if ws.isEmpty = true then 0 else x.toNat) ws))) := .of_wp fun P w A R z ⟨hl, q⟩ => by
  rcases z with ⟨hp, g, d, tk, os⟩
  have fits := AutoListH.joined_fits k2
  wp_walk using AutoSeq1.wpAny_loadPart' hl
  refine wpAny_ite_false (decide_eq_false (by omega)) ?_
  wp_walk using AutoSeq1.wpAny_loadPart' hl
  exact ⟨_, rfl, q⟩
theorem times_tup0 (k0 : (decide (x < -(2 ^ 63)) || decide (x ≥ 2 ^ 63)) = false) (k1 : (ws.isEmpty || x == 1) = false) (k2 : (decide (x ≤ 0) || ws.isEmpty) = true) :
    Meets (Builtin.«tuple.__mul__» ⟨[.ref l, .int x u], []⟩) (Tells l (sqO "tuple" dd m sl ws) lastA (laid "tuple" #[])) := .of_wp fun P w A R z ⟨hl, q⟩ => by
  rcases z with ⟨hp, g, d, tk, os⟩
  have ix := AutoSeq1.idx_int
  wp_walk using AutoSeq1.wpAny_loadPart' hl
  refine wpAny_ite_false (decide_eq_false (fun e => Bool.false_ne_true (k0.symm.trans e))) ?_
  wp_walk using AutoSeq1.wpAny_loadPart' hl
  exact ⟨_, rfl, q⟩
theorem times_tup1 (k0 : (decide (x < -(2 ^ 63)) || decide (x ≥ 2 ^ 63)) = false) (k1 : (ws.isEmpty || x == 1) = true) :
    Meets (Builtin.«tuple.__mul__» ⟨[.ref l, .int x u], []⟩) (Tells l (sqO "tuple" dd m sl ws) (fun _ => .ref l) id) := .of_wp fun P w A R z ⟨hl, q⟩ => by
  rcases z with ⟨hp, g, d, tk, os⟩
  have ix := AutoSeq1.idx_int
  wp_walk using AutoSeq1.wpAny_loadPart' hl
  refine wpAny_ite_false (decide_eq_false (fun e => Bool.false_ne_true (k0.symm.trans e))) ?_
  wp_walk using AutoSeq1.wpAny_loadPart' hl
  exact ⟨_, rfl, q⟩
theorem manyOf_eq (its : List Value) (n : Nat) : manyOf (if its.toArray.isEmpty = true then 0 else n) its.toArray = (List.replicate n its).flatten.toArray := by
  have all : ∀ k : Nat, manyOf k its.toArray = (List.replicate k its).flatten.toArray := fun k => (foldl_rep its k []).trans (congrArg List.toArray (List.nil_append _))
  rw [all]
  rcases its with _ | ⟨a, r⟩
  · simp
  · exact congrArg (fun k => (List.replicate k (a :: r)).flatten.toArray) (if_neg (by simp))
end
section
variable {X : Cx}
/-- what is known of a list that may be read -/
theorem listX {pins : List (Addr × Obj)} {σ : L2.St} {H : Hp} {z : Shared} {a : Addr} {xs : List V} (I : Inv X pins σ H z) (h : SqL X.K H a xs) :
    ∃ (its : List Value) (m : Nat) (dd : Option Addr) (sl : Array (Option Value)), Vals xs its ∧ xs.length = its.length ∧ xs.length ≤ sizeLine ∧ z.heap.get? a = some (sqO "list" dd m sl its.toArray) := by
  obtain ⟨its, r, ⟨⟨c, dd, dt, sl⟩, m, ho, ec, _, ed⟩, hz⟩ := I.list h
  cases ec
  cases ed
  exact ⟨its, m, dd, sl, r, r.length, hz, ho⟩
/-- any two tuples, one behind the other -/
def rCatTU (K : PySem.W.Frag) : R2 := rCatA K
theorem op_catTU : OpR X (binaryOp .Add) (rCatTU X.K) := op_catA
/-- a list n times -/
def rRepS (K : PySem.W.Frag) : R2 := fun x y H Q => ∃ l k xs, x = .ref l ∧ y = .int k ∧ SqL K H l xs ∧ -(2 ^ 63) ≤ k ∧ k < 2 ^ 63 ∧ xs.length * k.toNat ≤ sizeLine ∧
  ∀ a, H a = none → Q (.ref a) (upd H a (.lst (List.replicate k.toNat xs).flatten))
theorem op_repS : OpR X (binaryOp .Mult) (rRepS X.K) := fun pins z σ H x y v w Q I rx ry ⟨l, k, xs, ex, ey, hl, lo, hi, few, q⟩ => by
  subst ex ey
  cases rx
  obtain ⟨t, rfl⟩ := ry
  obtain ⟨its, m, dd, sl, r, el, _, at_l⟩ := listX I hl
  have size : its.toArray.size * k.toNat ≤ sizeLine := by rw [el] at few; simpa using few
  have cap : its.toArray.size * k.toNat ≤ (2 ^ 63 - 1) / 8 := Nat.le_trans size (by decide)
  have fit : Builtin.List.listFitsIndex k = true := fitsIndex_both lo hi
  have told := times_list (l := l) (u := t) (dd := dd) (m := m) (sl := sl) (by rw [fit]; decide) (Nat.not_lt.mpr cap) (by rw [notLongL size]; decide)
  have none_ := times_none (l := l) (dd := dd) (m := m) (sl := sl) (ws := its.toArray) k t
  have ends : Q (.ref z.heap.objs.size) (upd H z.heap.objs.size (.lst (List.replicate k.toNat xs).flatten)) := q _ I.fresh
  refine wpAny_binaryOp_repeat_ref (T := "list") (by decide) ⟨_, at_l, rfl⟩ (fun _ => typeIs_int _ k t) noFill_list_mul F.fills_int_mul F.slot_int_rmul repeat_list F.slot_int_index.lookup ?_
  refine call_meets F.slot_int_rmul (typeIs_int z k t) F.entry_int_rmul (F.args_int_rmul_2 _ _) none_ ⟨at_l, rfl, ⟨_, at_l, rfl⟩, ?_⟩
  refine call_meets F.slot_list_mul ⟨_, at_l, rfl⟩ F.entry_list_mul (F.args_list_mul_2 _ _) told ⟨at_l, ?_⟩
  rw [manyOf_eq]
  exact ⟨.ref _, _, I.lnew (t' := z.toks) (r.rep k.toNat) (by rw [PyProof.Rows.lm_len_rep_flat]; rw [Nat.mul_comm] at few; exact few), rfl, ends⟩
/-- a list behind a list -/
def rCatS (K : PySem.W.Frag) : R2 := fun x y H Q => ∃ l b xs ys, x = .ref l ∧ y = .ref b ∧ SqL K H l xs ∧ SqL K H b ys ∧ xs.length + ys.length ≤ sizeLine ∧ ∀ a, H a = none → Q (.ref a) (upd H a (.lst (xs ++ ys)))
theorem op_catS : OpR X (binaryOp .Add) (rCatS X.K) := fun pins z σ H x y v w Q I rx ry ⟨l, b, xs, ys, ex, ey, hl, hb, few, q⟩ => by
  subst ex ey
  cases rx
  cases ry
  obtain ⟨is, m1, d1, s1, r1, n1, _, at1⟩ := listX I hl
  obtain ⟨js, m2, d2, s2, r2, n2, _, at2⟩ := listX I hb
  have two : xs.length + ys.length = is.toArray.size + js.toArray.size := by rw [n1, n2]; rfl
  have told := list_addW l b is.toArray js.toArray m1 m2 d1 d2 s1 s2 (two ▸ few)
  have ends : Q (.ref z.heap.objs.size) (upd H z.heap.objs.size (.lst (xs ++ ys))) := q _ I.fresh
  have e : is.toArray ++ js.toArray = (is ++ js).toArray := List.append_toArray is js
  refine concat_meets ⟨_, at1, rfl⟩ ⟨_, at2, rfl⟩ noFill_list_add seq_list_add F.slot_list_add F.entry_list_add (F.args_list_add_2 _ _) told ⟨at1, at2, ?_⟩
  rw [e]
  exact ⟨.ref _, _, I.lnew (t' := z.toks) (r1.append r2) (by rw [List.length_append]; exact few), rfl, ends⟩
/-- a tuple n times -/
def rRepTU (K : PySem.W.Frag) : R2 := fun x y H Q => ∃ l k xs, x = .ref l ∧ y = .int k ∧ SqT K H l xs ∧ 0 ≤ k ∧ k ≤ 1000 ∧ 0 < xs.length ∧ xs.length ≤ 1000 ∧ (k = 1 → Q (.ref l) H) ∧ ∀ a, H a = none → Q (.ref a) (upd H a (.tup (List.replicate k.toNat xs).flatten))
theorem op_repTU : OpR X (binaryOp .Mult) (rRepTU X.K) := fun pins z σ H x y v w Q I rx ry ⟨l, k, xs, ex, ey, ht, lo, hi, some_, few, q1, q⟩ => by
  subst ex ey
  have ne : xs ≠ [] := List.length_pos_iff.mp some_
  rcases (by omega : 2 ≤ k ∨ k = 1 ∨ k = 0) with two | one
  · exact op_repT pins z σ H _ _ v w Q I rx ry ⟨l, k, xs, rfl, rfl, ht, ne, two, hi, few, q⟩
  cases rx
  obtain ⟨t, rfl⟩ := ry
  obtain ⟨its, r, ⟨⟨c, dd, dt, sl⟩, at_l, ec, m, ed⟩, _⟩ := I.tuple ht
  cases ec
  cases ed
  have full : its.toArray.isEmpty = false := by
    rcases its with _ | ⟨a, r'⟩
    · exact absurd (r.nil_iff.mp rfl) ne
    · rfl
  have in_ : (decide (k < -(2 ^ 63)) || decide (k ≥ 2 ^ 63)) = false := Bool.or_eq_false_iff.mpr ⟨decide_eq_false (by omega), decide_eq_false (by omega)⟩
  have none_ := int_rmul_tuple k t l its.toArray m dd sl
  refine wpAny_binaryOp_repeat_ref (T := "tuple") (by decide) ⟨_, at_l, rfl⟩ (fun _ => typeIs_int _ k t) noFill_tuple_mul F.fills_int_mul F.slot_int_rmul repeat_tuple F.slot_int_index.lookup ?_
  refine call_meets F.slot_int_rmul (typeIs_int z k t) F.entry_int_rmul (F.args_int_rmul_2 _ _) none_ ⟨at_l, rfl, ⟨_, at_l, rfl⟩, ?_⟩
  rcases one with one | zero
  · have told := times_tup1 (l := l) (ws := its.toArray) (x := k) (u := t) (dd := dd) (m := m) (sl := sl) in_ (Bool.or_eq_true_iff.mpr (.inr (beq_iff_eq.mpr one)))
    exact call_meets F.slot_tuple_mul ⟨_, at_l, rfl⟩ F.entry_tuple_mul (F.args_tuple_mul_2 _ _) told ⟨at_l, ⟨.ref l, H, I, rfl, q1 one⟩⟩
  · have told := times_tup0 (l := l) (ws := its.toArray) (x := k) (u := t) (dd := dd) (m := m) (sl := sl) in_ (Bool.or_eq_false_iff.mpr ⟨full, beq_eq_false_iff_ne.mpr (by omega)⟩) (Bool.or_eq_true_iff.mpr (.inl (decide_eq_true (by omega))))
    have ends : Q (.ref z.heap.objs.size) (upd H z.heap.objs.size (.tup (List.replicate k.toNat xs).flatten)) := q _ I.fresh
    refine call_meets F.slot_tuple_mul ⟨_, at_l, rfl⟩ F.entry_tuple_mul (F.args_tuple_mul_2 _ _) told ⟨at_l, ?_⟩
    subst zero
    exact ⟨.ref _, _, I.laid (t' := z.toks) (o := .tup (List.replicate (0 : Int).toNat xs).flatten) (fun _ _ g => Heap.get?_push_of_some _ g) (Nat.le_refl _) ⟨Nat.zero_le _, [], .nil, IsTup.new _ _⟩, rfl, ends⟩
end

section
variable {g : G} {W : WX} {X : Cx} {σ : L2.St} {H : Hp} {F : Fp}
theorem RpA.rep {K : PySem.W.Frag} {H : Hp} {F : Fp} {vs : List V} {ds : List D} (h : RpA K H F vs ds) : ∀ k : Nat, RpA K H F (List.replicate k vs).flatten (List.replicate k ds).flatten
  | 0 => .nil
  | k + 1 => by
    simp only [List.replicate_succ, List.flatten_cons]
    exact h.append (RpA.rep h k)
theorem RpA.nil_iff {K : PySem.W.Frag} {H : Hp} {F : Fp} {vs : List V} {ds : List D} (h : RpA K H F vs ds) : vs = [] ↔ ds = [] := by
  cases h with
  | nil => simp
  | cons _ _ => simp
theorem int_fdivX (C : Cok g X W) (hc : g.calm = true) : OpR X (binaryOp .FloorDiv) (rI (fun _ j => j ≠ 0) fun i j => .int (i.fdiv j)) := by
  intro pins s σ H x y v u Q I rx ry h
  obtain ⟨i, j, rfl, rfl, hj, q⟩ := h
  obtain ⟨t, rfl⟩ := rx
  obtain ⟨t', rfl⟩ := ry
  exact floordiv_int hj ⟨.int (i.fdiv j), H, I.tok _, ⟨_, rfl⟩, q⟩ (.inr (C.pylong hc I))
theorem int_mulX : OpR X (binaryOp .Mult) (rI IntMulOk fun i j => .int (i * j)) := opI fun _ _ _ _ _ _ _ hc q => mul_int q hc
theorem opV_ok (C : Cok g X W) (hc : g.calm = true) {op : Operator} {dx dy : D} {x y : V} {Q : VK} (rx : Rp g.D.K H (Fx F H) x dx) (ry : Rp g.D.K H (Fx F H) y dy) (h : Wants g W σ H (opV op dx dy) (relE g.D.K F H) Q) : wO X (binaryOp op) x y H Q := by
  unfold opV at h
  split at h
  · cases rx; cases ry
    exact wO_of op_add ⟨_, _, rfl, rfl, h _ H (Same.refl H) (.int _)⟩
  · cases rx; cases ry
    exact wO_of op_sub ⟨_, _, rfl, rfl, h _ H (Same.refl H) (.int _)⟩
  · cases rx; cases ry
    split at h
    · exact wO_of int_mulX ⟨_, _, rfl, rfl, mulOk_ok (by assumption), h _ H (Same.refl H) (.int _)⟩
    · exact h.elim
  · cases rx; cases ry
    split at h
    · exact wO_of (int_fdivX C hc) ⟨_, _, rfl, rfl, divOk_ok (by assumption), h _ H (Same.refl H) (.int _)⟩
    · exact h.elim
  · cases rx; cases ry
    split at h
    · exact h.elim
    · exact wO_of op_modN ⟨_, _, rfl, rfl, by assumption, h _ H (Same.refl H) (.int _)⟩
  · cases rx; cases ry
    split at h
    · exact wO_of op_pow ⟨_, _, rfl, rfl, by assumption, h _ H (Same.refl H) (.int _)⟩
    · exact h.elim
  · cases rx; cases ry
    split at h
    · exact wO_of op_shlW ⟨_, _, rfl, rfl, shlOk_ok (by assumption), h _ H (Same.refl H) (.int _)⟩
    · exact h.elim
  · cases rx; cases ry
    split at h
    · exact wO_of op_shr ⟨_, _, rfl, rfl, by assumption, h _ H (Same.refl H) (.int _)⟩
    · exact h.elim
  · cases rx; cases ry
    exact wO_of op_and ⟨_, _, rfl, rfl, h _ H (Same.refl H) (.int _)⟩
  · cases rx with
    | lst h1 a1 =>
      cases ry with
      | lst h2 a2 =>
        split at h
        · refine wO_of op_catS ⟨_, _, _, _, rfl, rfl, by rw [C.K]; exact h1.sq, by rw [C.K]; exact h2.sq, by rw [a1.length, a2.length]; exact of_decide_eq_true (by assumption), fun p hn => h _ _ (Same.new hn) (.lst (.inl ⟨.inl upd_same, .inr hn⟩) ?_)⟩
          exact (RpA.mono (Same.new hn) (fun _ z => z) a1).append (RpA.mono (Same.new hn) (fun _ z => z) a2)
        · exact h.elim
  · cases rx with
    | tup h1 a1 =>
      cases ry with
      | tup h2 a2 =>
        split at h
        · refine wO_of op_catTU ⟨_, _, _, _, rfl, rfl, by rw [C.K]; exact h1, by rw [C.K]; exact h2, by rw [a1.length, a2.length]; exact of_decide_eq_true (by assumption), fun e => h _ H (Same.refl H) ?_, fun _ e => h _ H (Same.refl H) ?_, fun _ _ p hn => h _ _ (Same.new hn) (.tup (.inl (.inl upd_same)) ?_)⟩
          · have e' := a1.nil_iff.mp e
            subst e'
            exact .tup h2 a2
          · have e' := a2.nil_iff.mp e
            subst e'
            rw [List.append_nil]
            exact .tup h1 a1
          · exact (RpA.mono (Same.new hn) (fun _ z => z) a1).append (RpA.mono (Same.new hn) (fun _ z => z) a2)
        · exact h.elim
  · cases rx with
    | lst h1 a1 =>
      cases ry
      split at h
      · rename_i c
        exact wO_of op_repS ⟨_, _, _, rfl, rfl, by rw [C.K]; exact h1.sq, c.1, c.2.1, by rw [a1.length]; exact c.2.2, fun p hn => h _ _ (Same.new hn) (.lst (.inl ⟨.inl upd_same, .inr hn⟩) (RpA.rep (RpA.mono (Same.new hn) (fun _ z => z) a1) _))⟩
      · exact h.elim
  · cases rx with
    | tup h1 a1 =>
      cases ry
      split at h
      · rename_i c
        refine wO_of op_repTU ⟨_, _, _, rfl, rfl, by rw [C.K]; exact h1, c.1, c.2.1, by rw [a1.length]; exact c.2.2.1, by rw [a1.length]; exact c.2.2.2, fun e => h _ H (Same.refl H) ?_, fun p hn => h _ _ (Same.new hn) (.tup (.inl (.inl upd_same)) (RpA.rep (RpA.mono (Same.new hn) (fun _ z => z) a1) _))⟩
        subst e
        have : (List.replicate (1 : Int).toNat ‹List D›).flatten = ‹List D› := by simp
        rw [this]
        exact .tup h1 a1
      · exact h.elim
  · cases rx; cases ry
    split at h
    · exact wO_of op_add_str ⟨_, _, rfl, rfl, by assumption, h _ H (Same.refl H) (.str _)⟩
    · exact h.elim
  · exact h.elim
end

section
variable {g : G} {pos p p2 : Pos} {a b c e : Expr} {es : List Expr} {fa fb fe : En → R D} {fs : En → R (List D)} {ft : En → R Bool}
theorem relE.lift {K : PySem.W.Frag} {F : Fp} {H H1 H2 : Hp} (e1 : Same H H1) {d : D} {v : V} (r : relE K F H1 d v H2) : relE K F H d v H2 := Rp.mono (Same.refl H2) (Fx.back e1) r
theorem relA.lift {K : PySem.W.Frag} {F : Fp} {H H1 H2 : Hp} (e1 : Same H H1) {d : List D} {v : List V} (r : relA K F H1 d v H2) : relA K F H d v H2 := RpA.mono (Same.refl H2) (Fx.back e1) r
theorem relE.keep {K : PySem.W.Frag} {F : Fp} {H H1 H2 : Hp} (e1 : Same H1 H2) {d : D} {v : V} (r : relE K F H d v H1) : relE K F H d v H2 := Rp.mono e1 (fun _ z => z) r
/-- as seen from a later heap: what H did not know is either still unknown or allowed -/
theorem Fx.rebase {F : Fp} {H H1 : Hp} (e1 : Same H H1) : ∀ a, Fx F H a → Fx (Fx F H) H1 a := fun a h => .inl h
theorem pur_bin {op : Operator} (ha : Pur g a fa) (hb : Pur g b fb) (hcm : g.calm = true := by rfl) : Pur g (.BinOp a op b pos) (fun env => (fa env).bind fun x => (fb env).bind fun y => opV op x y) := by
  intro X W C σ H F env Q E h
  refine wE_of (pe_op op_w pe_w pe_w) ?_
  refine ha X W C σ H F env _ E (h.bind fun x v H1 _ e1 r1 h1 => ?_)
  refine hb X W C σ H1 F env _ (E.mono e1 fun _ z => z) (h1.bind fun y u H2 _ e2 r2 h2 => ?_)
  refine opV_ok (σ := σ) (F := Fx F H) C hcm (Rp.mono e2 (fun a z => .inl z) r1) (Rp.mono (Same.refl H2) (fun a z => .inl (Fx.back e1 a z)) r2) (h2.imp fun d v H' _ r => ?_)
  exact Rp.mono (Same.refl _) (fun a z => z.elim id fun z => .inr ((e1.trans e2).free z)) r
@[simp] def negV : D → R D
  | .int i => .ok (.int (-i))
  | _ => .no
theorem pur_neg (ha : Pur g a fa) : Pur g (.UnaryOp .USub a pos) (fun env => (fa env).bind negV) := by
  intro X W C σ H F env Q E h
  refine wE_of (pe_un un_neg pe_w) ?_
  refine ha X W C σ H F env _ E (h.bind fun x v H1 _ e1 r1 h1 => ?_)
  cases r1 with
  | int i => exact ⟨i, rfl, h1 _ H1 (Same.refl H1) (.int _)⟩
  | _ => exact h1.elim
end
end Pu
namespace Pu
open PySem PySem.Spec PyProof.Rows L2

section
variable {g : G} {pos p p2 : Pos} {a b c e : Expr} {es rest : List Expr} {fa fb fc fe : En → R D} {fs : En → R (List D)} {ft fu : En → R Bool}

/-! ### comparisons -/
/-- lists and the like, compared by their places -/
def ltK (x y : D) : Bool := PySem.W.alike x y && ((match x with | .none => false | _ => true) && decide (PyData.depth x ≤ 64))
theorem op_ltD {X : Cx} (hu : X.A.units + 64 < cLine) : OpR X (compareOp .Lt) (fun x y H Q => ∃ d e, Dp X.K H x d ∧ Dp X.K H y e ∧ ltK d e = true ∧ Q (.bl (PySem.W.dataLt d e)) H) := by
  intro pins s σ H x y v u Q I rx ry h
  obtain ⟨d, e, hd, he, k, q⟩ := h
  obtain ⟨as, r1⟩ := Dp.reads I d x v hd rx
  obtain ⟨bs, r2⟩ := Dp.reads I e y u he ry
  unfold ltK at k
  rw [Bool.and_eq_true, Bool.and_eq_true] at k
  have hn : d ≠ .none := fun z => by
    rw [z] at k
    cases k.2.1
  have hdp : PyData.depth d ≤ 64 := of_decide_eq_true k.2.2
  exact PySem.W.lt_data r1 r2 k.1 hn (by omega) ⟨.bl _, H, I, rfl, q⟩
def cmpV : CmpOp → D → D → R D
  | .Lt, .int i, .int j => .ok (.bool (decide (i < j)))
  | .LtE, .int i, .int j => .ok (.bool (decide (i ≤ j)))
  | .Gt, .int i, .int j => .ok (.bool (decide (j < i)))
  | .GtE, .int i, .int j => .ok (.bool (decide (j ≤ i)))
  | .Eq, .int i, .int j => .ok (.bool (decide (i = j)))
  | .NotEq, .int i, .int j => .ok (.bool (!decide (i = j)))
  | .Eq, x, y => if SeqAt.shaped x && SeqAt.shaped y then .ok (.bool (PyData.eqv x y)) else .no
  | .NotEq, x, y => if SeqAt.shaped x && SeqAt.shaped y then .ok (.bool (!PyData.eqv x y)) else .no
  | .Lt, x, y => if ltK x y then .ok (.bool (PySem.W.dataLt x y)) else .no
  | .Is, .bool i, .bool j => .ok (.bool (decide (i = j)))
  | .IsNot, .bool i, .bool j => .ok (.bool (!decide (i = j)))
  | .Is, x, .none => .ok (.bool (match x with | .none => true | _ => false))
  | .IsNot, x, .none => .ok (.bool (match x with | .none => false | _ => true))
  | _, _, _ => .no
theorem int_eqX {X : Cx} : OpR X (compareOp .Eq) (rI0 fun i j => .bl (decide (i = j))) := opB0 fun _ _ _ _ _ _ _ h => eq_int (by rw [Bool.beq_eq_decide_eq]; exact h)
theorem int_neX {X : Cx} : OpR X (compareOp .NotEq) (rI0 fun i j => .bl (!decide (i = j))) := opB0 fun _ _ _ _ _ _ _ h => ne_int (by rw [bne, Bool.beq_eq_decide_eq]; exact h)
theorem cmpV_ok {X : Cx} {W : WX} {σ : L2.St} {H : Hp} {F F' : Fp} (C : Cok g X W) {op : CmpOp} {dx dy : D} {x y : V} {Q : VK} (rx : Rp g.D.K H F' x dx) (ry : Rp g.D.K H F' y dy) (h : Wants g W σ H (cmpV op dx dy) (relE g.D.K F H) Q) : wO X (compareOp op) x y H Q := by
  unfold cmpV at h
  split at h
  · cases rx; cases ry; exact wO_of op_lt ⟨_, _, rfl, rfl, h _ H (Same.refl H) (.bl _)⟩
  · cases rx; cases ry; exact wO_of op_le ⟨_, _, rfl, rfl, h _ H (Same.refl H) (.bl _)⟩
  · cases rx; cases ry; exact wO_of op_gt ⟨_, _, rfl, rfl, h _ H (Same.refl H) (.bl _)⟩
  · cases rx; cases ry; exact wO_of op_ge ⟨_, _, rfl, rfl, h _ H (Same.refl H) (.bl _)⟩
  · cases rx; cases ry; exact wO_of int_eqX ⟨_, _, rfl, rfl, h _ H (Same.refl H) (.bl _)⟩
  · cases rx; cases ry; exact wO_of int_neX ⟨_, _, rfl, rfl, h _ H (Same.refl H) (.bl _)⟩
  · split at h
    · rename_i z
      rw [Bool.and_eq_true] at z
      exact wO_of (op_eqD C.units) ⟨_, _, by rw [C.K]; exact rx.dp, by rw [C.K]; exact ry.dp, z.1, z.2, h _ H (Same.refl H) (.bl _)⟩
    · exact h.elim
  · split at h
    · rename_i z
      rw [Bool.and_eq_true] at z
      exact wO_of (op_neD C.units) ⟨_, _, by rw [C.K]; exact rx.dp, by rw [C.K]; exact ry.dp, z.1, z.2, h _ H (Same.refl H) (.bl _)⟩
    · exact h.elim
  · split at h
    · rename_i z
      exact wO_of (op_ltD C.units) ⟨_, _, by rw [C.K]; exact rx.dp, by rw [C.K]; exact ry.dp, z, h _ H (Same.refl H) (.bl _)⟩
    · exact h.elim
  · cases rx; cases ry; exact wO_of op_isBl ⟨_, _, rfl, rfl, h _ H (Same.refl H) (.bl _)⟩
  · cases rx; cases ry; exact wO_of op_notBl ⟨_, _, rfl, rfl, h _ H (Same.refl H) (.bl _)⟩
  · cases ry
    refine wO_of op_isN ⟨rfl, h _ H (Same.refl H) ?_⟩
    cases rx <;> exact .bl _
  · cases ry
    refine wO_of op_notN ⟨rfl, h _ H (Same.refl H) ?_⟩
    cases rx <;> exact .bl _
  · exact h.elim
theorem pur_cmp {op : CmpOp} (ha : Pur g a fa) (hb : Pur g b fb) (hm : behindInMarks op b = false := by first | exact nobehind _ (by decide) (by decide) | rfl) :
    Pur g (.Compare a [op] [b] pos) (fun env => (fa env).bind fun x => (fb env).bind fun y => cmpV op x y) := by
  intro X W C σ H F env Q E h
  refine wE_of (pe_cmpR op_w pe_w pe_w hm) ?_
  refine ha X W C σ H F env _ E (h.bind fun x v H1 _ e1 r1 h1 => ?_)
  refine hb X W C σ H1 F env _ (E.mono e1 fun _ z => z) (h1.bind fun y u H2 _ e2 r2 h2 => ?_)
  refine cmpV_ok (σ := σ) (F := Fx F H) (F' := Fx F H) C (Rp.mono e2 (fun a z => z) r1) (Rp.mono (Same.refl H2) (fun a z => Fx.back e1 a z) r2) (h2.imp fun d v H' _ r => ?_)
  exact Rp.mono (Same.refl _) (fun a z => z.elim id fun z => .inr ((e1.trans e2).free z)) r
/-- the truth of a datum -/
def truth : D → R Bool
  | .none => .ok false
  | .bool b => .ok b
  | .int i => .ok (i != 0)
  | .str x => if szOk x.length then .ok ((x.length : Int) != 0) else .no
  | .list ds => .ok (!ds.isEmpty)
  | .tuple ds => .ok (!ds.isEmpty)
  | .dict _ => .no
theorem RpA.isEmpty {K : PySem.W.Frag} {H : Hp} {F : Fp} {vs : List V} {ds : List D} (h : RpA K H F vs ds) : vs.isEmpty = ds.isEmpty := by
  cases h <;> rfl
theorem truth_ok {K : PySem.W.Frag} {H : Hp} {F : Fp} {v : V} {d : D} {k : Bool} (r : Rp K H F v d) (h : truth d = .ok k) : TruV K v H k := by
  cases r with
  | non => cases h; exact rfl
  | bl b => cases h; exact rfl
  | int i => cases h; exact rfl
  | str x =>
    by_cases z : szOk x.length = true
    · simp [truth, z] at h
      subst h
      exact ⟨of_decide_eq_true z, by simp⟩
    · simp [truth, z] at h
  | lst hl ha => cases h; exact .inl ⟨_, hl.sq, by rw [ha.isEmpty]⟩
  | tup hl ha => cases h; exact .inr (.inl ⟨_, hl, by rw [ha.isEmpty]⟩)
/-- the plain form of a test -/
def Plain (e : Expr) : Prop := ∀ (env : Env) (whole : Sem Value), isTrue e env whole = (do let v ← whole; standAt e.pos; holding [v] (truthy v))
theorem truth_ex {d : D} {c : Str} : truth d ≠ .ex c := by
  cases d <;> simp [truth]
  split <;> simp
theorem purt_val (he : Pur g e fe) (hp : Plain e := by intro _ _; rfl) : PurT g e (fun env => (fe env).bind truth) := by
  intro X W C σ H F env Q E h
  refine wT_of (pt_truth pe_w (hp _)) ?_
  refine he X W C σ H F env _ E (h.bind fun x v H1 _ e1 r1 h1 => ?_)
  cases q : truth x with
  | ok k =>
    rw [q] at h1
    exact ⟨k, by rw [C.K]; exact truth_ok r1 q, h1 k H1 (Same.refl H1) rfl⟩
  | ex c => exact absurd q truth_ex
  | no => rw [q] at h1; exact h1.elim
@[simp] def boolOf : D → R Bool
  | .bool b => .ok b
  | _ => .no
theorem purt_cmp {op : CmpOp} (ha : Pur g a fa) (hb : Pur g b fb) (hm : behindInMarks op b = false := by first | exact nobehind _ (by decide) (by decide) | rfl) :
    PurT g (.Compare a [op] [b] pos) (fun env => (fa env).bind fun x => (fb env).bind fun y => (cmpV op x y).bind boolOf) := by
  intro X W C σ H F env Q E h
  refine wT_of (pt_cmpR op_w pe_w pe_w hm) ?_
  refine ha X W C σ H F env _ E (h.bind fun x v H1 _ e1 r1 h1 => ?_)
  refine hb X W C σ H1 F env _ (E.mono e1 fun _ z => z) (h1.bind fun y u H2 _ e2 r2 h2 => ?_)
  refine cmpV_ok (σ := σ) (F := Fx F H) (F' := Fx F H) C (Rp.mono e2 (fun a z => z) r1) (Rp.mono (Same.refl H2) (fun a z => Fx.back e1 a z) r2) (h2.bind fun d z H3 _ e3 r3 h3 => ?_)
  cases r3 with
  | bl k => exact ⟨k, rfl, h3 k H3 (Same.refl H3) rfl⟩
  | _ => exact h3.elim
theorem purt_not (ha : PurT g a ft) : PurT g (.UnaryOp .Not a pos) (fun env => (ft env).bind fun k => .ok (!k)) := by
  intro X W C σ H F env Q E h
  refine wT_of (pt_not pt_w) ?_
  refine ha X W C σ H F env _ E (h.bind fun x v H1 _ e1 r1 h1 => ?_)
  cases r1
  exact h1 _ H1 (Same.refl H1) rfl
/-- tests whatever their whole is -/
def wW (X : Cx) (e : Expr) : TT := fun σ H Q => ∀ (whole : Sem Value) (pins : List (Addr × Obj)) (s : Shared), Inv X pins σ H s → wpAny (model X.prog X.w) X.A (isTrue e X.env whole) (TP X pins σ Q) X.xe s
theorem pw_w {X : Cx} {e : Expr} : PW X e (wW X e) := ⟨fun wh pins s _ _ _ I h => h wh pins s I⟩
theorem wW_of {X : Cx} {e : Expr} {t : TT} (h : PW X e t) {σ : L2.St} {H : Hp} {Q : Bool → Hp → Prop} (q : t σ H Q) : wW X e σ H Q := fun wh pins s I => h.run wh pins s σ H Q I q
def PurW (g : G) (e : Expr) (f : En → R Bool) : Prop := ∀ X W, Cok g X W → ∀ σ H F env (Q : Bool → Hp → Prop), EnvOk g.D.K F σ H env → Wants g W σ H (f env) relT Q → wW X e σ H Q
theorem purt_w (h : PurW g e ft) : PurT g e ft := fun X W C σ H F env Q E q => wT_of (pw_w (X := X)).pt (h X W C σ H F env Q E q)
theorem purw_and1 (ha : PurT g a ft) : PurW g (.BoolOp .And [a] pos) ft := fun X W C σ H F env Q E q => wW_of (pw_and1 pt_w) (ha X W C σ H F env Q E q)
theorem purw_or1 (ha : PurT g a ft) : PurW g (.BoolOp .Or [a] pos) ft := fun X W C σ H F env Q E q => wW_of (pw_or1 pt_w) (ha X W C σ H F env Q E q)
theorem purw_and (ha : PurT g a ft) (hb : PurW g (.BoolOp .And (b :: rest) pos) fu) : PurW g (.BoolOp .And (a :: b :: rest) pos) (fun env => (ft env).bind fun k => if k then fu env else .ok false) := by
  intro X W C σ H F env Q E h
  refine wW_of (pw_and pt_w pw_w) ?_
  refine ha X W C σ H F env _ E (h.bind fun x v H1 _ e1 r1 h1 => ?_)
  cases r1
  cases x with
  | true => exact hb X W C σ H1 F env _ (E.mono e1 fun _ z => z) h1
  | false => exact h1 false H1 (Same.refl H1) rfl
theorem purw_or (ha : PurT g a ft) (hb : PurW g (.BoolOp .Or (b :: rest) pos) fu) : PurW g (.BoolOp .Or (a :: b :: rest) pos) (fun env => (ft env).bind fun k => if k then .ok true else fu env) := by
  intro X W C σ H F env Q E h
  refine wW_of (pw_or pt_w pw_w) ?_
  refine ha X W C σ H F env _ E (h.bind fun x v H1 _ e1 r1 h1 => ?_)
  cases r1
  cases x with
  | true => exact h1 true H1 (Same.refl H1) rfl
  | false => exact hb X W C σ H1 F env _ (E.mono e1 fun _ z => z) h1
/-! as values -/
theorem truth_step {X : Cx} {W : WX} {σ : L2.St} {H : Hp} {F : Fp} {d : D} {v : V} {α : Type} {β : Type} {k : Bool → R α} {rel : α → β → Hp → Prop} {Q : β → Hp → Prop} (C : Cok g X W) (r : Rp g.D.K H F v d) (h : Wants g W σ H ((truth d).bind k) rel Q) :
    ∃ c, TruV X.K v H c ∧ truth d = .ok c ∧ Wants g W σ H (k c) rel Q := by
  cases q : truth d with
  | ok c => rw [q] at h; exact ⟨c, by rw [C.K]; exact truth_ok r q, rfl, h⟩
  | ex c => exact absurd q truth_ex
  | no => rw [q] at h; exact h.elim
theorem pur_one {op : BoolOp} (ha : Pur g a fa) : Pur g (.BoolOp op [a] pos) fa := fun X W C σ H F env Q E h => wE_of (pe_one pe_w) (ha X W C σ H F env Q E h)
theorem pur_and (ha : Pur g a fa) (hb : Pur g (.BoolOp .And (b :: rest) pos) fb) : Pur g (.BoolOp .And (a :: b :: rest) pos) (fun env => (fa env).bind fun x => (truth x).bind fun k => if k then fb env else .ok x) := by
  intro X W C σ H F env Q E h
  refine wE_of (pe_andT pe_w pe_w) ?_
  refine ha X W C σ H F env _ E (h.bind fun x v H1 _ e1 r1 h1 => ?_)
  obtain ⟨c, t, _, h2⟩ := truth_step C r1 h1
  refine ⟨c, t, ?_⟩
  cases c with
  | true => exact hb X W C σ H1 F env _ (E.mono e1 fun _ z => z) (h2.imp fun d v H' _ r => relE.lift e1 r)
  | false => exact h2 v H1 (Same.refl H1) r1
theorem pur_or (ha : Pur g a fa) (hb : Pur g (.BoolOp .Or (b :: rest) pos) fb) : Pur g (.BoolOp .Or (a :: b :: rest) pos) (fun env => (fa env).bind fun x => (truth x).bind fun k => if k then .ok x else fb env) := by
  intro X W C σ H F env Q E h
  refine wE_of (pe_orT pe_w pe_w) ?_
  refine ha X W C σ H F env _ E (h.bind fun x v H1 _ e1 r1 h1 => ?_)
  obtain ⟨c, t, _, h2⟩ := truth_step C r1 h1
  refine ⟨c, t, ?_⟩
  cases c with
  | true => exact h2 v H1 (Same.refl H1) r1
  | false => exact hb X W C σ H1 F env _ (E.mono e1 fun _ z => z) (h2.imp fun d v H' _ r => relE.lift e1 r)
theorem pur_not (ha : Pur g a fa) : Pur g (.UnaryOp .Not a pos) (fun env => (fa env).bind fun x => (truth x).bind fun k => .ok (.bool (!k))) := by
  intro X W C σ H F env Q E h
  refine wE_of (pe_notT pe_w) ?_
  refine ha X W C σ H F env _ E (h.bind fun x v H1 _ e1 r1 h1 => ?_)
  obtain ⟨c, t, _, h2⟩ := truth_step C r1 h1
  exact ⟨c, t, h2 _ H1 (Same.refl H1) (.bl _)⟩
theorem pur_if (hc : PurT g c ft) (ha : Pur g a fa) (hb : Pur g b fb) : Pur g (.IfExp c a b pos) (fun env => (ft env).bind fun k => if k then fa env else fb env) := by
  intro X W C σ H F env Q E h
  refine wE_of (pe_ifExp pt_w pe_w pe_w) ?_
  refine hc X W C σ H F env _ E (h.bind fun x v H1 _ e1 r1 h1 => ?_)
  cases r1
  cases x with
  | true => exact ha X W C σ H1 F env _ (E.mono e1 fun _ z => z) (h1.imp fun d v H' _ r => relE.lift e1 r)
  | false => exact hb X W C σ H1 F env _ (E.mono e1 fun _ z => z) (h1.imp fun d v H' _ r => relE.lift e1 r)
/-- a < b < c -/
theorem pur_chain {op op' : CmpOp} (ha : Pur g a fa) (hb : Pur g b fb) (hc : Pur g c fc) (hm : lastMarks [op, op'] [b, c] = false := by with_unfolding_all rfl) :
    Pur g (.Compare a [op, op'] [b, c] pos) (fun env => (fa env).bind fun x => (fb env).bind fun y => (cmpV op x y).bind fun z => (boolOf z).bind fun k => if k then (fc env).bind fun w => cmpV op' y w else .ok (.bool false)) := by
  intro X W C σ H F env Q E h
  refine wE_of (pe_chain op_w op_w pe_w pe_w pe_w hm) ?_
  refine ha X W C σ H F env _ E (h.bind fun x v H1 _ e1 r1 h1 => ?_)
  refine hb X W C σ H1 F env _ (E.mono e1 fun _ z => z) (h1.bind fun y u H2 _ e2 r2 h2 => ?_)
  refine cmpV_ok (σ := σ) (F := Fx F H) (F' := Fx F H) C (Rp.mono e2 (fun a z => z) r1) (Rp.mono (Same.refl H2) (fun a z => Fx.back e1 a z) r2) (h2.bind fun d z H3 _ e3 r3 h3 => ?_)
  cases r3 with
  | bl k =>
    refine ⟨k, rfl, ?_⟩
    have h4 : Wants g W σ H3 (if k = true then (fc env).bind fun w => cmpV op' y w else R.ok (PyData.bool false)) (relE g.D.K F H) Q := h3
    cases k with
    | true =>
      rw [if_pos rfl] at h4
      show wE X c σ H3 _
      refine hc X W C σ H3 F env _ (E.mono ((e1.trans e2).trans e3) fun _ z => z) (h4.bind fun w wv H4 _ e4 r4 h5 => ?_)
      refine cmpV_ok (σ := σ) (F := Fx F H) (F' := Fx F H) C (Rp.mono (e3.trans e4) (fun a z => Fx.back e1 a z) r2) (Rp.mono (Same.refl H4) (fun a z => Fx.back ((e1.trans e2).trans e3) a z) r4) (h5.imp fun d v H' _ r => ?_)
      exact Rp.mono (Same.refl _) (fun a z => z.elim id fun z => .inr ((((e1.trans e2).trans e3).trans e4).free z)) r
    | false =>
      rw [if_neg Bool.false_ne_true] at h4
      show Q (.bl false) H3
      exact h4 _ H3 (Same.refl H3) (.bl _)
  | _ => exact h3.elim

/-! ### places, slices -/
@[simp] def ixV : D → D → R D
  | .list ds, .int k => match atI ds k with
    | some d => .ok d
    | none => .no
  | .tuple ds, .int k => match atI ds k with
    | some d => .ok d
    | none => .no
  | _, _ => .no
theorem RpA.atI {K : PySem.W.Frag} {H : Hp} {F : Fp} {vs : List V} {ds : List D} {k : Int} {d : D} (h : RpA K H F vs ds) (e : L2.atI ds k = some d) : ∃ v, L2.atI vs k = some v ∧ Rp K H F v d := by
  unfold L2.atI at e ⊢
  rw [h.length]
  cases q : ixN ds.length k with
  | none => rw [q] at e; cases e
  | some j =>
    rw [q] at e
    obtain ⟨v, h1, h2⟩ := h.get (i := j) (by simpa using e)
    exact ⟨v, by simpa using h1, h2⟩
theorem pur_ix (ha : Pur g a fa) (hb : Pur g b fb) (hs : PlainIx b := by intro _ _; rfl) : Pur g (.Subscript a b pos) (fun env => (fa env).bind fun x => (fb env).bind fun y => ixV x y) := by
  intro X W C σ H F env Q E h
  refine wE_of (pe_ix (ix_list.or ix_tup) pe_w pe_w hs) ?_
  refine ha X W C σ H F env _ E (h.bind fun x v H1 _ e1 r1 h1 => ?_)
  refine hb X W C σ H1 F env _ (E.mono e1 fun _ z => z) (h1.bind fun y u H2 _ e2 r2 h2 => ?_)
  have r1' := Rp.mono e2 (fun a z => z) r1
  unfold ixV at h2
  split at h2
  · cases r1' with
    | lst hl hA =>
      cases r2
      split at h2
      · obtain ⟨w, h3, h4⟩ := hA.atI (by assumption)
        exact .inl ⟨_, _, _, _, rfl, rfl, by rw [C.K]; exact hl.sq, h3, h2 _ H2 (Same.refl H2) h4⟩
      · exact h2.elim
  · cases r1' with
    | tup hl hA =>
      cases r2
      split at h2
      · obtain ⟨w, h3, h4⟩ := hA.atI (by assumption)
        exact .inr ⟨_, _, _, _, rfl, rfl, by rw [C.K]; exact hl, h3, h2 _ H2 (Same.refl H2) h4⟩
      · exact h2.elim
  · exact h2.elim
/-- a bound of a slice -/
def PurO (g : G) (e : Option Expr) (f : En → R (Option Int)) : Prop := ∀ X W, Cok g X W → ∀ σ H F env (Q : Option Int → Hp → Prop), EnvOk g.D.K F σ H env → Wants g W σ H (f env) (fun (a b : Option Int) _ => b = a) Q →
  ∃ t, PO X e t ∧ t σ H Q
theorem puro_none : PurO g none (fun _ => .ok none) := fun X W C σ H F env Q E h => ⟨_, po_none, h none H (Same.refl H) rfl⟩
@[simp] def intOf : D → R Int
  | .int i => .ok i
  | _ => .no
theorem puro_some (he : Pur g e fe) : PurO g (some e) (fun env => (fe env).bind fun d => (intOf d).bind fun i => .ok (some i)) := by
  intro X W C σ H F env Q E h
  refine ⟨_, po_some pe_w, ?_⟩
  refine he X W C σ H F env _ E (h.bind fun x v H1 _ e1 r1 h1 => ?_)
  cases r1 with
  | int i => exact ⟨i, rfl, h1 _ H1 (Same.refl H1) rfl⟩
  | _ => exact h1.elim
def cutD (xs : List D) (lo hi : Option Int) : List D := (xs.drop (HT.sIx xs.length 0 lo)).take (HT.sIx xs.length xs.length hi - HT.sIx xs.length 0 lo)
theorem RpA.cut {K : PySem.W.Frag} {H : Hp} {F : Fp} {vs : List V} {ds : List D} (h : RpA K H F vs ds) (lo hi : Option Int) : RpA K H F (cutV vs lo hi) (cutD ds lo hi) := by
  unfold cutV cutD
  rw [h.length]
  exact (h.drop _).take _
@[simp] def slV : D → Option Int → Option Int → R D
  | .list ds, lo, hi => .ok (.list (cutD ds lo hi))
  | .tuple ds, lo, hi => .ok (.tuple (cutD ds lo hi))
  | _, _, _ => .no
theorem cutD_whole {xs : List D} {lo hi : Option Int} (h : HT.sIx xs.length 0 lo = 0 ∧ HT.sIx xs.length xs.length hi = xs.length) : cutD xs lo hi = xs := by
  unfold cutD
  rw [h.1, h.2]
  simp
theorem pur_slice {lo hi : Option Expr} {fl fh : En → R (Option Int)} (ha : Pur g a fa) (hl : PurO g lo fl) (hh : PurO g hi fh) :
    Pur g (.Subscript a (.Slice lo hi none p2) pos) (fun env => (fa env).bind fun x => (fl env).bind fun l => (fh env).bind fun u => slV x l u) := by
  intro X W C σ H F env Q E h
  have tl : ∀ (lo : Option Expr), PO X lo (fun σ H Q => ∃ t, PO X lo t ∧ t σ H Q) := fun lo => ⟨fun pins s σ H Q I ⟨t, ht, q⟩ => ht.run pins s σ H Q I q⟩
  refine wE_of (pe_slice (sl_list.or sl_tupA) pe_w (tl lo) (tl hi)) ?_
  refine ha X W C σ H F env _ E (h.bind fun x v H1 _ e1 r1 h1 => ?_)
  refine hl X W C σ H1 F env _ (E.mono e1 fun _ z => z) (h1.bind fun l l' H2 _ e2 r2 h2 => ?_)
  refine hh X W C σ H2 F env _ (E.mono (e1.trans e2) fun _ z => z) (h2.bind fun u u' H3 _ e3 r3 h3 => ?_)
  cases r2
  cases r3
  have r1' := Rp.mono (e2.trans e3) (fun a z => z) r1
  have e0 := (e1.trans e2).trans e3
  cases r1' with
  | lst hq hA => exact .inl ⟨_, _, rfl, by rw [C.K]; exact hq.sq, fun p hn => h3 _ _ (Same.new hn) (.lst (.inl ⟨.inl upd_same, .inr (e0.free hn)⟩) (RpA.mono (Same.new hn) (fun _ z => z) (hA.cut _ _)))⟩
  | tup hq hA =>
    refine .inr ⟨_, _, rfl, by rw [C.K]; exact hq, fun hw => h3 _ H3 (Same.refl H3) ?_, fun _ p hn => h3 _ _ (Same.new hn) (.tup (.inl (.inl upd_same)) (RpA.mono (Same.new hn) (fun _ z => z) (hA.cut _ _)))⟩
    rw [cutD_whole (by rw [← hA.length]; exact hw)]
    exact .tup hq hA
  | _ => exact h3.elim
@[simp] def revV : D → R D
  | .list ds => .ok (.list ds.reverse)
  | _ => .no
theorem pur_rev {k : Nat} {q1 q2 q3 : Pos} (ha : Pur g a fa) : Pur g (.Subscript a (.Slice none none (some (.UnaryOp .USub (.Constant (.int 1) k q1) q2)) q3) pos) (fun env => (fa env).bind revV) := by
  intro X W C σ H F env Q E h
  refine wE_of (pe_revL pe_w) ?_
  refine ha X W C σ H F env _ E (h.bind fun x v H1 _ e1 r1 h1 => ?_)
  cases r1 with
  | lst hq hA => exact ⟨_, _, rfl, by rw [C.K]; exact hq.sq, fun p hn => h1 _ _ (Same.new hn) (.lst (.inl ⟨.inl upd_same, .inr (e1.free hn)⟩) (RpA.mono (Same.new hn) (fun _ z => z) hA.reverse))⟩
  | _ => exact h1.elim
end
end Pu
namespace Pu
open PySem PySem.Spec PyProof.Rows L2

/-! ### calls of built-ins -/
@[irreducible] def wC (X : Cx) (f : Value) : List V → Hp → VK → Prop := fun vs H Q => ∀ (pins : List (Addr × Obj)) (s : Shared) (σ : L2.St) (us : List Value), Inv X pins σ H s → Vals vs us → wpAny (model X.prog X.w) X.A (call f us) (EP X pins σ Q) X.xe s
theorem call_w {X : Cx} {f : Value} : CallR X f (wC X f) := fun pins s σ _ _ us _ I r h => by unfold wC at h; exact h pins s σ us I r
theorem wC_of {X : Cx} {f : Value} {r : List V → Hp → VK → Prop} (h : CallR X f r) {vs : List V} {H : Hp} {Q : VK} (q : r vs H Q) : wC X f vs H Q := by unfold wC; exact fun pins s σ us I rv => h pins s σ H vs us Q I rv q
/-- a built-in, by a function on data -/
def BltR (g : G) (f : Value) (Fn : List D → R D) : Prop := ∀ X W, Cok g X W → ∀ σ H F ds vs (Q : VK), RpA g.D.K H F vs ds → Wants g W σ H (Fn ds) (relE g.D.K F H) Q → wC X f vs H Q
section
variable {g : G} {pos p p2 p3 p4 : Pos} {a b c e : Expr} {es : List Expr} {fa fb fc fe : En → R D} {fs : En → R (List D)} {Fn : List D → R D} {x : Str} {id T : String}
theorem arg_step {X : Cx} {W : WX} {σ : L2.St} {H : Hp} {F : Fp} {env : En} {Q : VK} (C : Cok g X W) (f : Value) (hb : BltR g f Fn) (ha : PurA g es fs) (E : EnvOk g.D.K F σ H env) (h : Wants g W σ H ((fs env).bind Fn) (relE g.D.K F H) Q) :
    wA X es σ H fun vs H1 => wC X f vs H1 Q := by
  refine ha X W C σ H F env _ E (h.bind fun ds vs H1 _ e1 r1 h1 => ?_)
  refine hb X W C σ H1 (Fx F H) ds vs Q r1 (h1.imp fun d v H' _ r => ?_)
  exact Rp.mono (Same.refl _) (fun a z => Fx.back2 e1 a z) r
theorem pur_blt (hb : BltR g (.builtin id) Fn) (hm : g.D.mg x = none) (ha : PurA g (e :: es) fs) (hg : gl g.sc x = true := by rfl) (hv : bootBuiltins x = some (.builtin id) := by decide +kernel) (hn : x ≠ "__name__" := by decide) (hdb : (x == ("__debug__" : Str)) = false := by decide)
    (he : ∀ env, starEach (e :: es) env = (false, eval e env) :: starEach es env := by intro _; exact starEach_of rfl) (hpl : ∀ env, (backTo pos (starEach es env)).any (·.1) = false := by intro _; rfl) : Pur g (.Call (.Name x p) (e :: es) [] pos) (fun env => (fs env).bind Fn) := by
  intro X W C σ H F env Q E h
  exact wE_of (pe_callB call_w (gl_ok C hg) (by rw [C.mg]; exact hm) hv pa_w hn hdb (he _) (hpl _)) (arg_step C _ hb ha E h)
theorem pur_bltT (hb : BltR g (.type T) Fn) (hm : g.D.mg x = none) (ha : PurA g (e :: es) fs) (hg : gl g.sc x = true := by rfl) (hv : bootBuiltins x = some (.type T) := by decide +kernel) (hn : x ≠ "__name__" := by decide) (hdb : (x == ("__debug__" : Str)) = false := by decide)
    (he : ∀ env, starEach (e :: es) env = (false, eval e env) :: starEach es env := by intro _; exact starEach_of rfl) (hpl : ∀ env, (backTo pos (starEach es env)).any (·.1) = false := by intro _; rfl) : Pur g (.Call (.Name x p) (e :: es) [] pos) (fun env => (fs env).bind Fn) := by
  intro X W C σ H F env Q E h
  exact wE_of (pe_callTy call_w (gl_ok C hg) (by rw [C.mg]; exact hm) hv pa_w hn hdb (he _) (hpl _)) (arg_step C _ hb ha E h)
/-- a built-in that the module has imported -/
theorem pur_bltI (hb : BltR g (.builtin id) Fn) (hm : g.D.mg x = some (.builtin id)) (ha : PurA g (e :: es) fs) (hg : gl g.sc x = true := by rfl) (hdb : (x == ("__debug__" : Str)) = false := by decide)
    (he : ∀ env, starEach (e :: es) env = (false, eval e env) :: starEach es env := by intro _; exact starEach_of rfl) (hpl : ∀ env, (backTo pos (starEach es env)).any (·.1) = false := by intro _; rfl) : Pur g (.Call (.Name x p) (e :: es) [] pos) (fun env => (fs env).bind Fn) := by
  intro X W C σ H F env Q E h
  exact wE_of (pe_callBfun call_w (gl_ok C hg) (by rw [C.mg]; exact hm) pa_w hdb (he _) (hpl _)) (arg_step C _ hb ha E h)

@[simp] def lenF : List D → R D
  | [.list ds] => .ok (.int ds.length)
  | [.tuple ds] => .ok (.int ds.length)
  | _ => .no
theorem blt_len : BltR g (.builtin "len") lenF := by
  intro X W C σ H F ds vs Q r h
  unfold lenF at h
  split at h
  · cases r with
    | cons r1 r2 =>
      cases r2
      cases r1 with
      | lst hl hA => exact wC_of call_len_seq ⟨_, _, rfl, .inl (by rw [C.K]; exact hl.sq), by rw [hA.length]; exact h _ H (Same.refl H) (.int _)⟩
  · cases r with
    | cons r1 r2 =>
      cases r2
      cases r1 with
      | tup hl hA => exact wC_of call_len_seq ⟨_, _, rfl, .inr (by rw [C.K]; exact hl), by rw [hA.length]; exact h _ H (Same.refl H) (.int _)⟩
  · exact h.elim
@[simp] def absF : List D → R D
  | [.int i] => .ok (.int (if i < 0 then -i else i))
  | _ => .no
theorem blt_abs : BltR g (.builtin "abs") absF := by
  intro X W C σ H F ds vs Q r h
  unfold absF at h
  split at h
  · cases r with
    | cons r1 r2 =>
      cases r2
      cases r1
      exact wC_of call_abs ⟨_, rfl, h _ H (Same.refl H) (.int _)⟩
  · exact h.elim
@[simp] def minF : List D → R D
  | [.int i, .int j] => .ok (.int (if j < i then j else i))
  | _ => .no
theorem blt_min (hc : g.calm = true) : BltR g (.builtin "min") minF := by
  intro X W C σ H F ds vs Q r h
  unfold minF at h
  split at h
  · cases r with
    | cons r1 r2 =>
      cases r2 with
      | cons r2 r3 =>
        cases r3
        cases r1
        cases r2
        exact wC_of (call_min2 (by rw [C.calm]; exact hc)) ⟨_, _, rfl, h _ H (Same.refl H) (.int _)⟩
  · exact h.elim
/-- whole numbers alone -/
def intsOf : List D → Option (List Int)
  | [] => some []
  | .int i :: ds => (intsOf ds).map (i :: ·)
  | _ :: _ => none
theorem RpA.intsOf {K : PySem.W.Frag} {H : Hp} {F : Fp} : ∀ {ds : List D} {vs : List V} {ns : List Int}, RpA K H F vs ds → Pu.intsOf ds = some ns → vs = ns.map V.int
  | [], _, _, h, e => by cases h; cases e; rfl
  | d :: ds, _, ns, h, e => by
    cases h with
    | cons h1 h2 =>
      cases h1 with
      | int i =>
        unfold Pu.intsOf at e
        cases q : Pu.intsOf ds with
        | some ms =>
          rw [q] at e
          cases e
          rw [RpA.intsOf h2 q]
          rfl
        | none => rw [q] at e; cases e
      | _ => cases e
def maxI : Int → List Int → Int
  | m, [] => m
  | m, n :: ns => maxI (if n > m then n else m) ns
theorem maxI_ge : ∀ (ns : List Int) (m : Int), m ≤ maxI m ns ∧ ∀ y, y ∈ ns → y ≤ maxI m ns
  | [], m => ⟨Int.le_refl _, fun y h => by cases h⟩
  | n :: ns, m => by
    obtain ⟨a, b⟩ := maxI_ge ns (if n > m then n else m)
    unfold maxI
    have c : m ≤ (if n > m then n else m) ∧ n ≤ (if n > m then n else m) := by split <;> omega
    refine ⟨by omega, fun y h => ?_⟩
    rcases List.mem_cons.mp h with rfl | h
    · omega
    · exact b y h
theorem maxI_mem : ∀ (ns : List Int) (m : Int), maxI m ns = m ∨ maxI m ns ∈ ns
  | [], m => .inl rfl
  | n :: ns, m => by
    unfold maxI
    rcases maxI_mem ns (if n > m then n else m) with h | h
    · rw [h]
      split
      · exact .inr (by simp)
      · exact .inl rfl
    · exact .inr (List.mem_cons_of_mem _ h)
@[simp] def maxF : List D → R D
  | [.int i, .int j] => .ok (.int (if j > i then j else i))
  | [.list ds] => match intsOf ds with
    | some (n :: ns) => .ok (.int (maxI n ns))
    | _ => .no
  | _ => .no
theorem blt_max (hc : g.calm = true) : BltR g (.builtin "max") maxF := by
  intro X W C σ H F ds vs Q r h
  unfold maxF at h
  split at h
  · cases r with
    | cons r1 r2 =>
      cases r2 with
      | cons r2 r3 =>
        cases r3
        cases r1
        cases r2
        exact wC_of (call_max2 (by rw [C.calm]; exact hc)) ⟨_, _, rfl, h _ H (Same.refl H) (.int _)⟩
  · rename_i ds'
    cases r with
    | cons r1 r2 =>
      cases r2
      cases r1 with
      | lst hl hA =>
        split at h
        · rename_i n ns q
          obtain ⟨a, b⟩ := maxI_ge ns n
          refine wC_of (cr_max (by rw [C.calm]; exact hc)) ⟨_, n :: ns, rfl, by rw [C.K, ← hA.intsOf q]; exact hl.sq, Nat.succ_pos _, fun m hm top => ?_⟩
          have e : m = maxI n ns := by
            have h1 : maxI n ns ≤ m := by
              rcases maxI_mem ns n with e | e
              · rw [e]; exact top n (by simp)
              · exact top _ (List.mem_cons_of_mem _ e)
            have h2 : m ≤ maxI n ns := by
              rcases List.mem_cons.mp hm with e | e
              · rw [e]; exact a
              · exact b m e
            omega
          rw [e]
          exact h _ H (Same.refl H) (.int _)
        · exact h.elim
  · exact h.elim
@[simp] def intF : List D → R D
  | [.int i] => .ok (.int i)
  | [.bool k] => .ok (.int (if k then 1 else 0))
  | _ => .no
theorem blt_int : BltR g (.type "int") intF := by
  intro X W C σ H F ds vs Q r h
  unfold intF at h
  split at h
  · cases r with
    | cons r1 r2 => cases r2; cases r1; exact wC_of call_int1 (.inl ⟨_, rfl, h _ H (Same.refl H) (.int _)⟩)
  · cases r with
    | cons r1 r2 => cases r2; cases r1; exact wC_of call_int1 (.inr ⟨_, rfl, h _ H (Same.refl H) (.int _)⟩)
  · exact h.elim
@[simp] def tupleF : List D → R D
  | [.list ds] => .ok (.tuple ds)
  | [.tuple ds] => .ok (.tuple ds)
  | _ => .no
theorem blt_tuple : BltR g (.type "tuple") tupleF := by
  intro X W C σ H F ds vs Q r h
  unfold tupleF at h
  split at h
  · cases r with
    | cons r1 r2 =>
      cases r2
      cases r1 with
      | lst hl hA => exact wC_of call_tuple_of ⟨_, _, rfl, .inl ⟨by rw [C.K]; exact hl.sq, fun l hn => h _ _ (Same.new hn) (.tup (.inl (.inl upd_same)) (RpA.mono (Same.new hn) (fun _ z => .inl z) hA))⟩⟩
  · cases r with
    | cons r1 r2 =>
      cases r2
      cases r1 with
      | tup hl hA => exact wC_of call_tuple_of ⟨_, _, rfl, .inr ⟨by rw [C.K]; exact hl, h _ H (Same.refl H) (.tup hl (RpA.mono (Same.refl H) (fun _ z => .inl z) hA))⟩⟩
  · exact h.elim
@[simp] def listF : List D → R D
  | [.list ds] => .ok (.list ds)
  | [.tuple ds] => .ok (.list ds)
  | _ => .no
theorem blt_list : BltR g (.type "list") listF := by
  intro X W C σ H F ds vs Q r h
  unfold listF at h
  split at h
  · cases r with
    | cons r1 r2 =>
      cases r2
      cases r1 with
      | lst hl hA => exact wC_of call_list_of ⟨_, _, rfl, .inl (by rw [C.K]; exact hl.sq), fun l hn => h _ _ (Same.new hn) (.lst (.inl ⟨.inl upd_same, .inr hn⟩) (RpA.mono (Same.new hn) (fun _ z => .inl z) hA))⟩
  · cases r with
    | cons r1 r2 =>
      cases r2
      cases r1 with
      | tup hl hA => exact wC_of call_list_of ⟨_, _, rfl, .inr (by rw [C.K]; exact hl), fun l hn => h _ _ (Same.new hn) (.lst (.inl ⟨.inl upd_same, .inr hn⟩) (RpA.mono (Same.new hn) (fun _ z => .inl z) hA))⟩
  · exact h.elim
/-- a list of truth values -/
def bools : List D → R (List Bool)
  | [] => .ok []
  | .bool b :: ds => (bools ds).bind fun bs => .ok (b :: bs)
  | _ :: _ => .no
theorem RpA.bools {K : PySem.W.Frag} {H : Hp} {F : Fp} : ∀ {ds : List D} {vs : List V} {bs : List Bool}, RpA K H F vs ds → Pu.bools ds = .ok bs → vs = bs.map V.bl
  | [], _, _, h, e => by cases h; cases e; rfl
  | d :: ds, _, bs, h, e => by
    cases h with
    | cons h1 h2 =>
      cases h1 with
      | bl b =>
        unfold Pu.bools at e
        cases q : Pu.bools ds with
        | ok cs =>
          rw [q] at e
          cases e
          rw [RpA.bools h2 q]
          rfl
        | ex c => rw [q] at e; cases e
        | no => rw [q] at e; cases e
      | _ => cases e
theorem bools_ex {ds : List D} {c : Str} : bools ds ≠ .ex c := by
  induction ds with
  | nil => intro h; cases h
  | cons d ds ih =>
    cases d with
    | bool b =>
      unfold bools
      cases q : bools ds with
      | ok bs => intro h; cases h
      | ex c' => exact fun h => ih (by rw [q]; cases h; rfl)
      | no => intro h; cases h
    | _ => intro h; cases h
@[simp] def allF : List D → R D
  | [.list ds] => (bools ds).bind fun bs => .ok (.bool (bs.all fun x => x))
  | _ => .no
theorem blt_all (hc : g.calm = true) : BltR g (.builtin "all") allF := by
  intro X W C σ H F ds vs Q r h
  unfold allF at h
  split at h
  · rename_i ds'
    cases r with
    | cons r1 r2 =>
      cases r2
      cases r1 with
      | lst hl hA =>
        cases q : bools ds' with
        | ok bs =>
          rw [q] at h
          exact wC_of (cr_all (by rw [C.calm]; exact hc)) ⟨_, bs, rfl, by rw [C.K, ← hA.bools q]; exact hl.sq, h _ H (Same.refl H) (.bl _)⟩
        | ex c => exact absurd q bools_ex
        | no => rw [q] at h; exact h.elim
  · exact h.elim
@[simp] def anyF : List D → R D
  | [.list ds] => (bools ds).bind fun bs => .ok (.bool (bs.any fun x => x))
  | _ => .no
theorem blt_any (hc : g.calm = true) : BltR g (.builtin "any") anyF := by
  intro X W C σ H F ds vs Q r h
  unfold anyF at h
  split at h
  · rename_i ds'
    cases r with
    | cons r1 r2 =>
      cases r2
      cases r1 with
      | lst hl hA =>
        cases q : bools ds' with
        | ok bs =>
          rw [q] at h
          exact wC_of (cr_any (by rw [C.calm]; exact hc)) ⟨_, bs, rfl, by rw [C.K, ← hA.bools q]; exact hl.sq, h _ H (Same.refl H) (.bl _)⟩
        | ex c => exact absurd q bools_ex
        | no => rw [q] at h; exact h.elim
  · exact h.elim
@[simp] def gcdF : List D → R D
  | [.int i, .int j] => .ok (.int ((Nat.gcd i.natAbs j.natAbs : Nat) : Int))
  | _ => .no
theorem blt_gcd : BltR g (.builtin "math.gcd") gcdF := by
  intro X W C σ H F ds vs Q r h
  unfold gcdF at h
  split at h
  · cases r with
    | cons r1 r2 =>
      cases r2 with
      | cons r2 r3 =>
        cases r3; cases r1; cases r2
        exact wC_of cr_gcd ⟨_, _, rfl, h _ H (Same.refl H) (.int _)⟩
  · exact h.elim
/-- what math.lcm is told of -/
def lcmOk (i j : Int) : Bool := decide (i.natAbs.log2 < 60000000) && decide (j.natAbs.log2 < 60000000)
theorem log2_lcm {a b : Nat} (ha : a.log2 < 60000000) (hb : b.log2 < 60000000) : (Nat.lcm a b).log2 < bitsLine := by
  have line : bitsLine = 134217728 := by decide
  rw [line]
  by_cases h0 : Nat.lcm a b = 0
  · rw [h0]; decide
  · have hle : Nat.lcm a b ≤ a * b := Nat.le_of_dvd (by
      have : a ≠ 0 ∧ b ≠ 0 := by
        constructor <;> (rintro rfl; simp at h0)
      exact Nat.mul_pos (by omega) (by omega)) (Nat.lcm_dvd_mul a b)
    have h1 : a < 2 ^ 60000000 := Nat.log2_lt (by rintro rfl; simp at h0) |>.mp ha
    have h2 : b < 2 ^ 60000000 := Nat.log2_lt (by rintro rfl; simp at h0) |>.mp hb
    have h3 : a * b < 2 ^ (60000000 + 60000000) := by
      rw [Nat.pow_add]
      exact Nat.mul_lt_mul'' h1 h2
    have h4 : Nat.lcm a b < 2 ^ (60000000 + 60000000) := Nat.lt_of_le_of_lt hle h3
    have h5 := (Nat.log2_lt h0).mpr h4
    omega
def rLcm : List V → Hp → VK → Prop := fun vs H Q => ∃ a b : Int, vs = [.int a, .int b] ∧ lcmOk a b = true ∧ Q (.int ((Nat.lcm a.natAbs b.natAbs : Nat) : Int)) H
theorem cr_lcm (C : Cok g X W) (hc : g.calm = true) : CallR X (.builtin "math.lcm") rLcm := by
  intro pins s σ H vs us Q I r h
  obtain ⟨a, b, rfl, hk, q⟩ := h
  obtain ⟨t, u, rfl⟩ := Vals.int2 r
  unfold lcmOk at hk
  simp only [Bool.and_eq_true, decide_eq_true_eq] at hk
  have l1 : Nat.lcm 1 a.natAbs = a.natAbs := by simp
  have hsz : ((((Nat.lcm 1 a.natAbs).lcm b.natAbs : Nat) : Int)).natAbs.log2 < bitsLine := by
    rw [l1, Int.natAbs_natCast]
    exact log2_lcm hk.1 hk.2
  have R := C.lcm hc I
  have fin : EP X pins σ Q (.int (((Nat.lcm 1 a.natAbs).lcm b.natAbs : Nat) : Int) s.toks) { s with toks := s.toks + 1 } := by
    rw [l1]
    exact ⟨.int _, H, I.tok _, ⟨_, rfl⟩, q⟩
  refine Calls.call_function_entry PySem.W.MGF.kind_lcm PySem.W.MGF.plain_lcm PySem.W.MGF.entry_lcm (PySem.W.MGF.args_lcm _ _) ?_
  have R1 : ∀ (n : Nat) (E : Value → Shared → Prop) (Q : Unit → Shared → Prop), Q () s → wpAny (model X.prog X.w) X.A.in1 (Builtin.roomForPylongsInverse n) Q E s := fun n E Q h => R _ n E Q h
  generalize X.A.in1 = A1 at R1 ⊢
  wp_walk using R1
  have small : ¬ bitsLine ≤ ((((Nat.lcm 1 a.natAbs).lcm b.natAbs : Nat) : Int)).natAbs.log2 := Nat.not_le.mpr hsz
  rw [if_neg small]
  wp_walk
  exact ⟨_, rfl, fin⟩
def lcmF : List D → R D
  | [.int i, .int j] => if lcmOk i j then .ok (.int ((Nat.lcm i.natAbs j.natAbs : Nat) : Int)) else .no
  | _ => .no
theorem blt_lcm (hcm : g.calm = true := by rfl) : BltR g (.builtin "math.lcm") lcmF := by
  intro X W C σ H F ds vs Q r h
  unfold lcmF at h
  split at h
  · cases r with
    | cons r1 r2 =>
      cases r2 with
      | cons r2 r3 =>
        cases r3; cases r1; cases r2
        split at h
        · exact wC_of (cr_lcm C hcm) ⟨_, _, rfl, by assumption, h _ H (Same.refl H) (.int _)⟩
        · exact h.elim
  · exact h.elim

/-! ### kinds -/
@[simp] def kindOf : D → String
  | .none => "NoneType"
  | .bool _ => "bool"
  | .int _ => "int"
  | .str _ => "str"
  | .list _ => "list"
  | .tuple _ => "tuple"
  | .dict _ => "dict"
theorem kind_tyx {K : PySem.W.Frag} {H : Hp} {F : Fp} {v : V} {d : D} (r : Rp K H F v d) : TyX K H v (.type (kindOf d)) := by
  cases r with
  | non => exact .base .non
  | bl b => exact .base (.bl b)
  | int i => exact .base (.int i)
  | str x => exact .base (.str x)
  | lst hl ha =>
    rcases hl with ⟨h | ⟨o, h⟩, _⟩ | ⟨o, its, n, h, hc, _⟩
    · exact .base (.lst h)
    · exact .base (.frz h)
    · exact .kList h hc
  | tup hl ha =>
    rcases hl with (h | ⟨o, h⟩) | ⟨o, its, n, h, hc, _⟩
    · exact .base (.tup h)
    · exact .fTuple h
    · exact .kTuple h hc
theorem kind_is {X : Cx} {pins : List (Addr × Obj)} {σ : L2.St} {H : Hp} {s : Shared} {F : Fp} {v : V} {u : Value} {d : D} (I : Inv X pins σ H s) (r : Rp X.K H F v d) (rv : RelV v u) : s.TypeIs u (kindOf d) ∧ (Value.type (kindOf d) == Value.type "builtin_function_or_method") = false := by
  have nb : (Value.type (kindOf d) == Value.type "builtin_function_or_method") = false := by
    have q : ∀ n ∈ ["NoneType", "bool", "int", "str", "list", "tuple", "dict"], (Value.type n == Value.type "builtin_function_or_method") = false := by decide +kernel
    exact q _ (by cases d <;> simp [kindOf])
  refine ⟨?_, nb⟩
  cases r with
  | non => cases rv; exact rfl
  | bl b => cases rv; exact rfl
  | int i => obtain ⟨t, rfl⟩ := rv; exact rfl
  | str x => obtain ⟨t, rfl⟩ := rv; exact rfl
  | lst hl ha =>
    cases rv
    obtain ⟨its, rv, p, _⟩ := I.list hl.sq
    exact p.isList.typeIs
  | tup hl ha =>
    cases rv
    obtain ⟨its, rv, p, _⟩ := I.tuple hl
    exact p.typeIs
/-- type(x) -/
def rTypeD (K : PySem.W.Frag) : List V → Hp → VK → Prop := fun vs H Q => ∃ v d F, vs = [v] ∧ Rp K H F v d ∧ Q (.ty (kindOf d)) H
theorem call_typeD {X : Cx} : CallR X (.type "type") (rTypeD X.K) := by
  intro pins s σ H xs us Q I r h
  obtain ⟨v, d, F, rfl, rd, q⟩ := h
  obtain ⟨u, rfl, rx⟩ := vals1 r
  obtain ⟨h1, h2⟩ := kind_is I rd rx
  exact call_type_of h1 h2 ⟨.ty _, H, I, rfl, q⟩
/-- type(x) is T, type(x) is not T -/
theorem type_step {X : Cx} {W : WX} (C : Cok g X W) {T : String} {y : Str} {op : CmpOp} {neg : Bool} (hop : OpR X (compareOp op) (fun x y H Q => ∃ m n : String, x = .ty m ∧ y = .ty n ∧ Q (.bl (if neg then !decide (m = n) else decide (m = n))) H))
    (ha : Pur g a fa) (hm : g.D.mg "type" = none) (hmT : g.D.mg y = none) (hg : gl g.sc "type" = true) (hgT : gl g.sc y = true) (hv : bootBuiltins y = some (.type T)) (hn : y ≠ "__name__") (hdb : (y == ("__debug__" : Str)) = false)
    (hst : ∀ env, starEach [a] env = (false, eval a env) :: starEach [] env) {σ : L2.St} {H : Hp} {F : Fp} {env : En} {Q : VK} (E : EnvOk g.D.K F σ H env)
    (h : Wants g W σ H ((fa env).bind fun d => .ok (.bool (if neg then !decide (kindOf d = T) else decide (kindOf d = T)))) (relE g.D.K F H) Q) :
    tOp (fun x y H Q => ∃ m n : String, x = .ty m ∧ y = .ty n ∧ Q (.bl (if neg then !decide (m = n) else decide (m = n))) H) (tCB (rTypeD X.K) (tCons (wE X a) tNil)) (tC (.ty T)) σ H Q := by
  refine ha X W C σ H F env _ E (h.bind fun d v H1 _ e1 r1 h1 => ?_)
  exact ⟨v, d, _, rfl, by rw [C.K]; exact r1, _, _, rfl, rfl, h1 _ H1 (Same.refl H1) (.bl _)⟩
theorem pur_typeIs {T : String} {y : Str} (hm : g.D.mg "type" = none) (hmT : g.D.mg y = none) (ha : Pur g a fa) (hg : gl g.sc "type" = true := by rfl) (hgT : gl g.sc y = true := by rfl) (hv : bootBuiltins y = some (.type T) := by decide +kernel) (hn : y ≠ "__name__" := by decide) (hdb : (y == ("__debug__" : Str)) = false := by decide)
    (hst : ∀ env, starEach [a] env = (false, eval a env) :: starEach [] env := by intro _; exact starEach_of rfl) : Pur g (.Compare (.Call (.Name "type" p) [a] [] p2) [.Is] [.Name y p3] pos) (fun env => (fa env).bind fun d => .ok (.bool (decide (kindOf d = T)))) := by
  intro X W C σ H F env Q E h
  refine wE_of (pe_cmpR (r := fun x y H Q => ∃ m n : String, x = .ty m ∧ y = .ty n ∧ Q (.bl (if false then !decide (m = n) else decide (m = n))) H) op_isTy (pe_callTy call_typeD (gl_ok C hg) (by rw [C.mg]; exact hm) (by decide +kernel) (pa_cons pe_w pa_nil (hst _)) (he := hst _)) (pe_bltn (v := .ty T) (gl_ok C hgT) (by rw [C.mg]; exact hmT) hv rfl hn hdb) (nomark _)) ?_
  exact type_step (neg := false) C op_isTy ha hm hmT hg hgT hv hn hdb hst E h
theorem pur_typeNot {T : String} {y : Str} (hm : g.D.mg "type" = none) (hmT : g.D.mg y = none) (ha : Pur g a fa) (hg : gl g.sc "type" = true := by rfl) (hgT : gl g.sc y = true := by rfl) (hv : bootBuiltins y = some (.type T) := by decide +kernel) (hn : y ≠ "__name__" := by decide) (hdb : (y == ("__debug__" : Str)) = false := by decide)
    (hst : ∀ env, starEach [a] env = (false, eval a env) :: starEach [] env := by intro _; exact starEach_of rfl) : Pur g (.Compare (.Call (.Name "type" p) [a] [] p2) [.IsNot] [.Name y p3] pos) (fun env => (fa env).bind fun d => .ok (.bool (!decide (kindOf d = T)))) := by
  intro X W C σ H F env Q E h
  refine wE_of (pe_cmpR (r := fun x y H Q => ∃ m n : String, x = .ty m ∧ y = .ty n ∧ Q (.bl (if true then !decide (m = n) else decide (m = n))) H) op_isNotTy (pe_callTy call_typeD (gl_ok C hg) (by rw [C.mg]; exact hm) (by decide +kernel) (pa_cons pe_w pa_nil (hst _)) (he := hst _)) (pe_bltn (v := .ty T) (gl_ok C hgT) (by rw [C.mg]; exact hmT) hv rfl hn hdb) (nomark _)) ?_
  exact type_step (neg := true) C op_isNotTy ha hm hmT hg hgT hv hn hdb hst E h
/-- the same as tests: a bool is what comes -/
theorem purt_typeIs {T : String} {y : Str} (hm : g.D.mg "type" = none) (hmT : g.D.mg y = none) (ha : Pur g a fa) (hg : gl g.sc "type" = true := by rfl) (hgT : gl g.sc y = true := by rfl) (hv : bootBuiltins y = some (.type T) := by decide +kernel) (hn : y ≠ "__name__" := by decide) (hdb : (y == ("__debug__" : Str)) = false := by decide)
    (hst : ∀ env, starEach [a] env = (false, eval a env) :: starEach [] env := by intro _; exact starEach_of rfl) : PurT g (.Compare (.Call (.Name "type" p) [a] [] p2) [.Is] [.Name y p3] pos) (fun env => (fa env).bind fun d => .ok (decide (kindOf d = T))) := by
  intro X W C σ H F env Q E h
  refine wT_of (pt_cmpR (r := fun x y H Q => ∃ m n : String, x = .ty m ∧ y = .ty n ∧ Q (.bl (decide (m = n))) H) op_isTy (pe_callTy call_typeD (gl_ok C hg) (by rw [C.mg]; exact hm) (by decide +kernel) (pa_cons pe_w pa_nil (hst _)) (he := hst _)) (pe_bltn (v := .ty T) (gl_ok C hgT) (by rw [C.mg]; exact hmT) hv rfl hn hdb) (nomark _)) ?_
  refine ha X W C σ H F env _ E (h.bind fun d v H1 _ e1 r1 h1 => ?_)
  exact ⟨v, d, _, rfl, by rw [C.K]; exact r1, _, _, rfl, rfl, _, rfl, h1 _ H1 (Same.refl H1) rfl⟩
theorem purt_typeNot {T : String} {y : Str} (hm : g.D.mg "type" = none) (hmT : g.D.mg y = none) (ha : Pur g a fa) (hg : gl g.sc "type" = true := by rfl) (hgT : gl g.sc y = true := by rfl) (hv : bootBuiltins y = some (.type T) := by decide +kernel) (hn : y ≠ "__name__" := by decide) (hdb : (y == ("__debug__" : Str)) = false := by decide)
    (hst : ∀ env, starEach [a] env = (false, eval a env) :: starEach [] env := by intro _; exact starEach_of rfl) : PurT g (.Compare (.Call (.Name "type" p) [a] [] p2) [.IsNot] [.Name y p3] pos) (fun env => (fa env).bind fun d => .ok (!decide (kindOf d = T))) := by
  intro X W C σ H F env Q E h
  refine wT_of (pt_cmpR (r := fun x y H Q => ∃ m n : String, x = .ty m ∧ y = .ty n ∧ Q (.bl (!decide (m = n))) H) op_isNotTy (pe_callTy call_typeD (gl_ok C hg) (by rw [C.mg]; exact hm) (by decide +kernel) (pa_cons pe_w pa_nil (hst _)) (he := hst _)) (pe_bltn (v := .ty T) (gl_ok C hgT) (by rw [C.mg]; exact hmT) hv rfl hn hdb) (nomark _)) ?_
  refine ha X W C σ H F env _ E (h.bind fun d v H1 _ e1 r1 h1 => ?_)
  exact ⟨v, d, _, rfl, by rw [C.K]; exact r1, _, _, rfl, rfl, _, rfl, h1 _ H1 (Same.refl H1) rfl⟩
/-- isinstance(x, T), T a built-in class -/
def isA (T : String) (d : D) : R D := match kitB (kindOf d) T with
  | some b => .ok (.bool b)
  | none => .no
theorem pur_isa {T : String} {y : Str} (hm : g.D.mg "isinstance" = none) (hmT : g.D.mg y = none) (ha : Pur g a fa) (hg : gl g.sc "isinstance" = true := by rfl) (hgT : gl g.sc y = true := by rfl) (hv : bootBuiltins y = some (.type T) := by decide +kernel) (hn : y ≠ "__name__" := by decide) (hdb : (y == ("__debug__" : Str)) = false := by decide)
    (hst : ∀ env, starEach [a, .Name y p3] env = (false, eval a env) :: starEach [.Name y p3] env := by intro _; exact starEach_of rfl) (hpl : ∀ env, (backTo pos (starEach [.Name y p3] env)).any (·.1) = false := by intro _; rfl) (hs1 : ∀ env, starEach [.Name y p3] env = (false, eval (.Name y p3) env) :: starEach [] env := by intro _; exact starEach_of rfl) : Pur g (.Call (.Name "isinstance" p) [a, .Name y p3] [] pos) (fun env => (fa env).bind fun d => isA T d) := by
  intro X W C σ H F env Q E h
  refine wE_of (pe_callB call_isi (gl_ok C hg) (by rw [C.mg]; exact hm) (by decide +kernel) (pa_cons pe_w (pa_cons (pe_bltn (v := .ty T) (gl_ok C hgT) (by rw [C.mg]; exact hmT) hv rfl hn hdb) pa_nil (hs1 _)) (hst _)) (he := hst _) (hpl := hpl _)) ?_
  refine ha X W C σ H F env _ E (h.bind fun d v H1 _ e1 r1 h1 => ?_)
  unfold isA at h1
  cases q : kitB (kindOf d) T with
  | none => rw [q] at h1; exact h1.elim
  | some b =>
    rw [q] at h1
    exact ⟨v, .ty T, _, _, b, rfl, .ty T, by rw [C.K]; exact kind_tyx r1, kit_ty q, h1 _ H1 (Same.refl H1) (.bl _)⟩
end
end Pu
namespace Pu
open PySem PySem.Spec PyProof.Rows L2

/-! ### defs, by functions on data -/
def spF (W : Wd) (n : Nat) (Fn : List D → R D) : Sp := fun vs H Q E => vs.length = n ∧ ∃ (ds : List D) (F : Fp), RpA W.K H F vs ds ∧ (match Fn ds with
  | .ok d => ∀ v H', Same H H' → Rp W.K H' (Fx F H) v d → Q v H'
  | .ex c => ∀ cv H', Same H H' → W.mg c = some cv → E cv none H'
  | .no => False)
/-- the def called x computes Fn, by at most level k -/
def FnSpec (W : Wd) (k : Nat) (x : Str) (n : Nat) (Fn : List D → R D) : Prop := ∃ (f : Addr) (fd : FuncData) (ps : List Str), ps.length = n ∧ W.mg x = some (.ref f) ∧ PySem.W.keepIn W.K (.ref f) = true ∧ Binds W.K fd ps [] ∧
  FnOk W.P W.w W.K W.mg W.base (L2.CX W.P W.w) k f fd ps (spF W n Fn)
section
variable {g : G} {pos p : Pos} {e : Expr} {es : List Expr} {fs : En → R (List D)} {Fn : List D → R D} {x : Str} {k n : Nat}
theorem pur_call (S : FnSpec g.D k x n Fn) (ha : PurA g (e :: es) fs) (hk : k ≤ g.L := by exact Nat.le_of_ble_eq_true rfl) (hc : g.calm = true := by rfl) (hg : gl g.sc x = true := by rfl) (hdb : (x == ("__debug__" : Str)) = false := by decide)
    (he : ∀ env, starEach (e :: es) env = (false, eval e env) :: starEach es env := by intro _; exact starEach_of rfl) (hpl : ∀ env, (backTo pos (starEach es env)).any (·.1) = false := by intro _; rfl) :
    Pur g (.Call (.Name x p) (e :: es) [] pos) (fun env => (fs env).bind fun ds => if ds.length = n then Fn ds else .no) := by
  intro X W C σ H F env Q E h
  obtain ⟨f, fd, ps, hl, hm, hkp, hb, ok⟩ := S
  have ok' : FnOk X.prog X.w X.K X.mg X.base (L2.CX X.prog X.w) k f fd ps (spF g.D n Fn) := by rw [C.prog, C.w, C.K, C.mg, C.base]; exact ok
  refine wE_of (pe_callS ok' ((C.room hc).mono hk) (gl_ok C hg) (by rw [C.mg]; exact hm) (by rw [C.K]; exact hkp) (by rw [C.K]; exact hb) (fun σ => passAt C.takes σ) pa_w hdb (he _) (hpl _)) ?_
  refine ha X W C σ H F env _ E (h.bind fun ds vs H1 _ e1 r1 h1 => ?_)
  by_cases hn : ds.length = n
  · rw [if_pos hn] at h1
    refine ⟨by rw [r1.length]; exact hn, ds, _, r1, ?_⟩
    cases q : Fn ds with
    | ok d => rw [q] at h1; exact fun v H' e' r' => h1 v H' e' (Rp.mono (Same.refl _) (fun a z => Fx.back2 e1 a z) r')
    | ex c => rw [q] at h1; exact fun cv H' e' hcm => h1 cv H' e' hcm
    | no => rw [q] at h1; exact h1.elim
  · rw [if_neg hn] at h1
    exact h1.elim
end

/-! ### statements -/
/-- at each slot a datum, and whether it is a list of this frame's own that may still be changed -/
abbrev SEn := List (Option (D × Bool))
inductive SR where
  | next (se : SEn) | ret (d : D) | brk (se : SEn) | cnt (se : SEn) | ex (c : Str) (se : SEn) | no
def SR.seq (r : SR) (f : SEn → SR) : SR := match r with
  | .next se => f se
  | r => r
@[simp] theorem SR.seq_next (se : SEn) (f : SEn → SR) : SR.seq (.next se) f = f se := rfl
@[simp] theorem SR.seq_ret (d : D) (f : SEn → SR) : SR.seq (.ret d) f = .ret d := rfl
@[simp] theorem SR.seq_ex (c : Str) (se : SEn) (f : SEn → SR) : SR.seq (.ex c se) f = .ex c se := rfl
@[simp] theorem SR.seq_no (f : SEn → SR) : SR.seq .no f = .no := rfl
@[simp] theorem SR.seq_brk (se : SEn) (f : SEn → SR) : SR.seq (.brk se) f = .brk se := rfl
@[simp] theorem SR.seq_cnt (se : SEn) (f : SEn → SR) : SR.seq (.cnt se) f = .cnt se := rfl

/-- the state of a body: F the addresses of the lists that are not its own; hs, hd: what is held besides (what a loop walks) -/
structure SOf (g : G) (H0 : Hp) (F0 : Fp) (hs : List V) (hd : List D) (σ : L2.St) (H : Hp) (se : SEn) (F : Fp) : Prop where
  ex : Same H0 H
  sub : ∀ a, F a → F0 a ∨ H0 a = none
  live : ∀ a, F a → H a ≠ none
  len : σ.length = se.length
  ent : ∀ (i : Nat) (d : D), se[i]? = some (some (d, false)) → ∃ v, σ[i]? = some (some v) ∧ Rp g.D.K H F v d
  own : ∀ (i : Nat) (d : D), se[i]? = some (some (d, true)) → ∃ p vs ds, σ[i]? = some (some (.ref p)) ∧ d = .list ds ∧ H p = some (.lst vs) ∧ H0 p = none ∧ ¬ F p ∧ RpA g.D.K H F vs ds ∧ True
  dist : ∀ (i j : Nat) (d e : D), se[i]? = some (some (d, true)) → se[j]? = some (some (e, true)) → σ[i]? = σ[j]? → i = j
  hid : RpA g.D.K H F hs hd
def SOk (g : G) (H0 : Hp) (F0 : Fp) (hs : List V) (hd : List D) (σ : L2.St) (H : Hp) (se : SEn) : Prop := ∃ F, SOf g H0 F0 hs hd σ H se F
/-- what is wanted behind a statement -/
def SEnds (g : G) (W : WX) (H0 : Hp) (F0 : Fp) (hs : List V) (hd : List D) (N : Ends) (r : SR) : Prop := match r with
  | .next se => ∀ σ H, SOk g H0 F0 hs hd σ H se → N.nx σ H
  | .ret d => ∀ v H, Same H0 H → Rp g.D.K H (Fx F0 H0) v d → N.rt v H
  | .brk se => ∀ σ H, SOk g H0 F0 hs hd σ H se → N.bk σ H
  | .cnt se => ∀ σ H, SOk g H0 F0 hs hd σ H se → N.ct σ H
  | .ex c se => ∀ cv σ H, g.D.mg c = some cv → SOk g H0 F0 hs hd σ H se → W cv none σ H
  | .no => False
def PurS (g : G) (st : Stmt) (f : SEn → SR) : Prop := ∀ X W, Cok g X W → ∀ H0 F0 hs hd σ H se (N : Ends), SOk g H0 F0 hs hd σ H se → SEnds g W H0 F0 hs hd N (f se) → wS X st N σ H
def PurB (g : G) (sts : List Stmt) (f : SEn → SR) : Prop := ∀ X W, Cok g X W → ∀ H0 F0 hs hd σ H se (N : Ends), SOk g H0 F0 hs hd σ H se → SEnds g W H0 F0 hs hd N (f se) → wB X sts N σ H

/-- what an expression may see: all that is not the frame's own, and of that the slots of m -/
@[simp] def view (m : List Nat) : Nat → SEn → En
  | _, [] => []
  | i, none :: r => none :: view m (i + 1) r
  | i, some (d, false) :: r => some d :: view m (i + 1) r
  | i, some (d, true) :: r => (if m.contains i then some d else none) :: view m (i + 1) r
/-- what was seen is no more the frame's own -/
@[simp] def demote (m : List Nat) : Nat → SEn → SEn
  | _, [] => []
  | i, none :: r => none :: demote m (i + 1) r
  | i, some (d, false) :: r => some (d, false) :: demote m (i + 1) r
  | i, some (d, true) :: r => (if m.contains i then some (d, false) else some (d, true)) :: demote m (i + 1) r
theorem view_get {m : List Nat} : ∀ {se : SEn} {k i : Nat} {d : D}, (view m k se)[i]? = some (some d) → ∃ b, se[i]? = some (some (d, b)) ∧ (b = true → m.contains (k + i) = true)
  | [], k, i, d, h => by simp [view] at h
  | none :: r, k, 0, d, h => by simp [view] at h
  | some (d', false) :: r, k, 0, d, h => by
    simp [view] at h
    exact ⟨false, by simp [h], fun z => by cases z⟩
  | some (d', true) :: r, k, 0, d, h => by
    unfold view at h
    by_cases c : m.contains k = true
    · rw [if_pos c] at h
      simp at h
      exact ⟨true, by simp [h], fun _ => c⟩
    · rw [if_neg c] at h
      simp at h
  | o :: r, k, i + 1, d, h => by
    have h' : (view m (k + 1) r)[i]? = some (some d) := by
      match o with
      | none => simpa [view] using h
      | some (d', false) => simpa [view] using h
      | some (d', true) => simpa [view] using h
    obtain ⟨b, h1, h2⟩ := view_get h'
    exact ⟨b, by simpa using h1, fun z => by have := h2 z; rw [Nat.add_assoc, Nat.add_comm 1 i] at this; exact this⟩
theorem demote_get {m : List Nat} : ∀ {se : SEn} {k i : Nat} {d : D} {b : Bool}, (demote m k se)[i]? = some (some (d, b)) → (b = true → se[i]? = some (some (d, true)) ∧ m.contains (k + i) = false) ∧ (b = false → se[i]? = some (some (d, false)) ∨ (se[i]? = some (some (d, true)) ∧ m.contains (k + i) = true))
  | [], k, i, d, b, h => by simp [demote] at h
  | none :: r, k, 0, d, b, h => by simp [demote] at h
  | some (d', false) :: r, k, 0, d, b, h => by
    simp [demote] at h
    obtain ⟨rfl, rfl⟩ := h
    exact ⟨fun z => by simp at z, fun _ => .inl rfl⟩
  | some (d', true) :: r, k, 0, d, b, h => by
    unfold demote at h
    by_cases c : m.contains k = true
    · rw [if_pos c] at h
      simp at h
      obtain ⟨rfl, rfl⟩ := h
      exact ⟨fun z => by simp at z, fun _ => .inr ⟨rfl, c⟩⟩
    · rw [if_neg c] at h
      simp at h
      obtain ⟨rfl, rfl⟩ := h
      exact ⟨fun _ => ⟨rfl, by simpa using c⟩, fun z => by simp at z⟩
  | o :: r, k, i + 1, d, b, h => by
    have h' : (demote m (k + 1) r)[i]? = some (some (d, b)) := by
      match o with
      | none => simpa [demote] using h
      | some (d', false) => simpa [demote] using h
      | some (d', true) => simpa [demote] using h
    obtain ⟨h1, h2⟩ := demote_get h'
    have e : k + 1 + i = k + (i + 1) := by omega
    rw [e] at h1 h2
    exact ⟨fun z => by simpa using h1 z, fun z => by simpa using h2 z⟩
theorem demote_keep {m : List Nat} : ∀ {se : SEn} {k i : Nat} {d : D}, se[i]? = some (some (d, true)) → m.contains (k + i) = false → (demote m k se)[i]? = some (some (d, true))
  | [], k, i, d, h, _ => by simp at h
  | some (d', true) :: r, k, 0, d, h, z => by
    simp at h
    subst h
    rw [Nat.add_zero] at z
    unfold demote
    rw [z]
    rfl
  | some (d', false) :: r, k, 0, d, h, _ => by simp at h
  | none :: r, k, 0, d, h, _ => by simp at h
  | o :: r, k, i + 1, d, h, z => by
    have ih := demote_keep (m := m) (se := r) (k := k + 1) (i := i) (d := d) (by simpa using h) (by rw [show k + 1 + i = k + (i + 1) by omega]; exact z)
    match o with
    | none => simpa [demote] using ih
    | some (d', false) => simpa [demote] using ih
    | some (d', true) => simpa [demote] using ih
theorem demote_len {m : List Nat} : ∀ {se : SEn} {k : Nat}, (demote m k se).length = se.length
  | [], _ => rfl
  | none :: r, k => by simp [demote, demote_len (se := r)]
  | some (d, false) :: r, k => by simp [demote, demote_len (se := r)]
  | some (d, true) :: r, k => by simp [demote, demote_len (se := r)]

mutual
/-- an address that is read is known -/
theorem Rp.tight {K : PySem.W.Frag} {H : Hp} {F : Fp} : ∀ {d : D} {v : V}, Rp K H F v d → Rp K H (fun a => F a ∧ H a ≠ none) v d
  | .none, _, h => by cases h; exact .non
  | .bool b, _, h => by cases h; exact .bl b
  | .int i, _, h => by cases h; exact .int i
  | .str x, _, h => by cases h; exact .str x
  | .list ds, _, h => by
    cases h with
    | lst hl ha =>
      refine .lst ?_ (RpA.tight ha)
      rcases hl with ⟨h, f⟩ | h
      · refine .inl ⟨h, f, ?_⟩
        rcases h with h | ⟨o, h⟩ <;> rw [h] <;> simp
      · exact .inr h
  | .tuple ds, _, h => by
    cases h with
    | tup hl ha => exact .tup hl (RpA.tight ha)
  | .dict _, _, h => by cases h
theorem RpA.tight {K : PySem.W.Frag} {H : Hp} {F : Fp} : ∀ {ds : List D} {vs : List V}, RpA K H F vs ds → RpA K H (fun a => F a ∧ H a ≠ none) vs ds
  | [], _, h => by cases h; exact .nil
  | d :: ds, _, h => by
    cases h with
    | cons h1 h2 => exact .cons (Rp.tight h1) (RpA.tight h2)
end

/-- F and the own lists at the slots of m -/
def Fo (F : Fp) (m : List Nat) (σ : L2.St) (se : SEn) : Fp := fun a => F a ∨ ∃ i d, se[i]? = some (some (d, true)) ∧ m.contains i = true ∧ σ[i]? = some (some (.ref a))
section
variable {g : G} {H0 : Hp} {F0 : Fp} {hs : List V} {hd : List D} {σ : L2.St} {H H1 : Hp} {se : SEn} {F : Fp} {m : List Nat}
theorem SOf.same (s : SOf g H0 F0 hs hd σ H se F) (e : Same H H1) : SOf g H0 F0 hs hd σ H1 se F where
  ex := s.ex.trans e
  sub := s.sub
  live := fun a f z => s.live a f (e.free z)
  len := s.len
  ent := fun i d h => by
    obtain ⟨v, h1, h2⟩ := s.ent i d h
    exact ⟨v, h1, h2.mono e fun _ z => z⟩
  own := fun i d h => by
    obtain ⟨p, vs, ds, h1, h2, h3, h4, h5, h6, h7⟩ := s.own i d h
    exact ⟨p, vs, ds, h1, h2, e _ _ h3, h4, h5, h6.mono e (fun _ z => z), h7⟩
  dist := s.dist
  hid := s.hid.mono e fun _ z => z
/-- what an expression sees -/
theorem SOf.env (s : SOf g H0 F0 hs hd σ H se F) : EnvOk g.D.K (Fo F m σ se) σ H (view m 0 se) := fun i d h => by
  obtain ⟨b, h1, h2⟩ := view_get h
  rw [Nat.zero_add] at h2
  cases b with
  | false =>
    obtain ⟨v, h3, h4⟩ := s.ent i d h1
    exact ⟨v, h3, h4.mono (Same.refl H) fun _ z => .inl z⟩
  | true =>
    obtain ⟨p, vs, ds, e1, rfl, e3, e4, e5, e6, e7⟩ := s.own i d h1
    exact ⟨_, e1, .lst (.inl ⟨.inl e3, .inr ⟨i, _, h1, h2 rfl, e1⟩⟩) (e6.mono (Same.refl H) fun _ z => .inl z)⟩
/-- the frame's own at m given up: their addresses, and new ones, join F -/
theorem SOf.give (s : SOf g H0 F0 hs hd σ H se F) (e : Same H H1) : SOf g H0 F0 hs hd σ H1 (demote m 0 se) (fun a => Fx (Fo F m σ se) H a ∧ H1 a ≠ none) := by
  have fle : ∀ a, F a → Fx (Fo F m σ se) H a ∧ H1 a ≠ none := fun a f => ⟨.inl (.inl f), fun z => s.live a f (e.free z)⟩
  refine ⟨s.ex.trans e, fun a ⟨f, _⟩ => ?_, fun a ⟨_, f⟩ => f, by rw [demote_len]; exact s.len, fun i d h => ?_, fun i d h => ?_, fun i j d d' h1 h2 => ?_, ?_⟩
  · rcases f with (f | ⟨i, d, h1, _, h2⟩) | f
    · exact s.sub a f
    · obtain ⟨p, vs, ds, e1, rfl, e3, e4, _⟩ := s.own i d h1
      rw [h2] at e1
      cases e1
      exact .inr e4
    · exact .inr (s.ex.free f)
  · obtain ⟨_, h2⟩ := demote_get h
    rw [Nat.zero_add] at h2
    rcases h2 rfl with h3 | ⟨h3, h4⟩
    · obtain ⟨v, h5, h6⟩ := s.ent i d h3
      exact ⟨v, h5, h6.mono e fle⟩
    · obtain ⟨p, vs, ds, e1, rfl, e3, e4, e5, e6, e7⟩ := s.own i d h3
      exact ⟨_, e1, .lst (.inl ⟨.inl (e _ _ e3), .inl (.inr ⟨i, _, h3, h4, e1⟩), by rw [e _ _ e3]; simp⟩) (e6.mono e fle)⟩
  · obtain ⟨h1, _⟩ := demote_get h
    rw [Nat.zero_add] at h1
    obtain ⟨h3, h4⟩ := h1 rfl
    obtain ⟨p, vs, ds, e1, rfl, e3, e4, e5, e6, e7⟩ := s.own i d h3
    refine ⟨p, vs, ds, e1, rfl, e _ _ e3, e4, fun ⟨z, _⟩ => ?_, e6.mono e fle, e7⟩
    rcases z with (z | ⟨j, d', h5, h6, h7⟩) | z
    · exact e5 z
    · have := s.dist i j _ _ h3 h5 (e1.trans h7.symm)
      rw [← this, h4] at h6
      cases h6
    · rw [e3] at z; cases z
  · have q1 := (demote_get h1).1 rfl
    have q2 := (demote_get h2).1 rfl
    exact s.dist i j _ _ q1.1 q2.1
  · exact s.hid.mono e fle
theorem get_set {α : Type} {l : List α} {i j : Nat} {a x : α} (h : (l.set i a)[j]? = some x) : (j = i ∧ x = a ∧ i < l.length) ∨ (j ≠ i ∧ l[j]? = some x) := by
  by_cases e : j = i
  · subst e
    by_cases hl : j < l.length
    · rw [List.getElem?_set_self hl] at h
      cases h
      exact .inl ⟨rfl, rfl, hl⟩
    · rw [List.getElem?_eq_none (by simpa using hl)] at h
      cases h
  · rw [List.getElem?_set_ne (Ne.symm e)] at h
    exact .inr ⟨e, h⟩
/-- a slot is stored: a datum whose lists are in F -/
theorem SOf.set (s : SOf g H0 F0 hs hd σ H se F) {v : V} {d : D} (r : Rp g.D.K H F v d) (i : Nat) : SOf g H0 F0 hs hd (σ.set i (some v)) H (se.set i (some (d, false))) F where
  ex := s.ex
  sub := s.sub
  live := s.live
  len := by rw [List.length_set, List.length_set]; exact s.len
  ent := fun j d' h => by
    rcases get_set h with ⟨rfl, e, hl⟩ | ⟨hne, h⟩
    · cases e
      exact ⟨v, List.getElem?_set_self (by rw [s.len]; exact hl), r⟩
    · obtain ⟨w, h1, h2⟩ := s.ent j d' h
      exact ⟨w, by rw [List.getElem?_set_ne (Ne.symm hne)]; exact h1, h2⟩
  own := fun j d' h => by
    rcases get_set h with ⟨rfl, e, hl⟩ | ⟨hne, h⟩
    · cases e
    · obtain ⟨p, vs, ds, h1, r⟩ := s.own j d' h
      exact ⟨p, vs, ds, by rw [List.getElem?_set_ne (Ne.symm hne)]; exact h1, r⟩
  dist := fun j k d' e' h1 h2 h3 => by
    rcases get_set h1 with ⟨rfl, e, hl⟩ | ⟨hn1, h1⟩
    · cases e
    rcases get_set h2 with ⟨rfl, e, hl⟩ | ⟨hn2, h2⟩
    · cases e
    rw [List.getElem?_set_ne (Ne.symm hn1), List.getElem?_set_ne (Ne.symm hn2)] at h3
    exact s.dist j k _ _ h1 h2 h3
  hid := s.hid
/-- a slot is stored: a list of the frame's own, at p, which no slot holds as such -/
theorem SOf.setOwnAt (s : SOf g H0 F0 hs hd σ H se F) {p : Addr} {vs : List V} {ds : List D} (hp : H p = some (.lst vs)) (h0 : H0 p = none) (hF : ¬ F p) (other : ∀ (j : Nat) (d' : D), se[j]? = some (some (d', true)) → σ[j]? ≠ some (some (.ref p))) (r : RpA g.D.K H F vs ds) (i : Nat) :
    SOf g H0 F0 hs hd (σ.set i (some (.ref p))) H (se.set i (some (.list ds, true))) F := by
  refine ⟨s.ex, s.sub, s.live, by rw [List.length_set, List.length_set]; exact s.len, fun j d' h => ?_, fun j d' h => ?_, fun j k d' e' h1 h2 h3 => ?_, s.hid⟩
  · rcases get_set h with ⟨rfl, e, hl⟩ | ⟨hne, h⟩
    · cases e
    · obtain ⟨w, h1, h2⟩ := s.ent j d' h
      exact ⟨w, by rw [List.getElem?_set_ne (Ne.symm hne)]; exact h1, h2⟩
  · rcases get_set h with ⟨rfl, q, hl⟩ | ⟨hne, h⟩
    · cases q
      exact ⟨p, vs, ds, List.getElem?_set_self (by rw [s.len]; exact hl), rfl, hp, h0, hF, r, trivial⟩
    · obtain ⟨q, vs', ds', h1, rest⟩ := s.own j d' h
      exact ⟨q, vs', ds', by rw [List.getElem?_set_ne (Ne.symm hne)]; exact h1, rest⟩
  · rcases get_set h1 with ⟨z1, q, hl⟩ | ⟨hn1, k1⟩
    · rcases get_set h2 with ⟨z2, q2, _⟩ | ⟨hn2, k2⟩
      · rw [z1, z2]
      · rw [z1, List.getElem?_set_self (by rw [s.len]; exact hl), List.getElem?_set_ne (Ne.symm hn2)] at h3
        exact absurd h3.symm (other _ _ k2)
    · rcases get_set h2 with ⟨z2, q2, hl⟩ | ⟨hn2, k2⟩
      · rw [z2, List.getElem?_set_self (by rw [s.len]; exact hl), List.getElem?_set_ne (Ne.symm hn1)] at h3
        exact absurd h3 (other _ _ k1)
      · rw [List.getElem?_set_ne (Ne.symm hn1), List.getElem?_set_ne (Ne.symm hn2)] at h3
        exact s.dist j k _ _ k1 k2 h3
/-- a slot is stored: a list of the frame's own, new at p -/
theorem SOf.setOwn (s : SOf g H0 F0 hs hd σ H se F) (e : Same H H1) {p : Addr} {vs : List V} {ds : List D} (hn : H p = none) (hp : H1 p = some (.lst vs)) (r : RpA g.D.K H1 F vs ds) (i : Nat) :
    SOf g H0 F0 hs hd (σ.set i (some (.ref p))) H1 (se.set i (some (.list ds, true))) F :=
  (s.same e).setOwnAt hp (s.ex.free hn) (fun f => s.live p f hn) (fun j d' h z => by
    obtain ⟨q, _, _, h1, _, h3, _⟩ := s.own j d' h
    rw [z] at h1
    cases h1
    rw [hn] at h3
    cases h3) r i
/-- the frame's own at m given up: their addresses, and new ones but p, join F -/
theorem SOf.giveBut (s : SOf g H0 F0 hs hd σ H se F) (e : Same H H1) {p : Addr} (hn : H p = none) : SOf g H0 F0 hs hd σ H1 (demote m 0 se) (fun a => (Fx (Fo F m σ se) H a ∧ a ≠ p) ∧ H1 a ≠ none) := by
  have fle : ∀ a, F a → (Fx (Fo F m σ se) H a ∧ a ≠ p) ∧ H1 a ≠ none := fun a f => ⟨⟨.inl (.inl f), fun z => s.live a f (by rw [z]; exact hn)⟩, fun z => s.live a f (e.free z)⟩
  refine ⟨s.ex.trans e, fun a ⟨⟨f, _⟩, _⟩ => ?_, fun a ⟨_, f⟩ => f, by rw [demote_len]; exact s.len, fun i d h => ?_, fun i d h => ?_, fun i j d d' h1 h2 => ?_, ?_⟩
  · rcases f with (f | ⟨i, d, h1, _, h2⟩) | f
    · exact s.sub a f
    · obtain ⟨p, vs, ds, e1, rfl, e3, e4, _⟩ := s.own i d h1
      rw [h2] at e1
      cases e1
      exact .inr e4
    · exact .inr (s.ex.free f)
  · obtain ⟨_, h2⟩ := demote_get h
    rw [Nat.zero_add] at h2
    rcases h2 rfl with h3 | ⟨h3, h4⟩
    · obtain ⟨v, h5, h6⟩ := s.ent i d h3
      exact ⟨v, h5, h6.mono e fle⟩
    · obtain ⟨q, vs, ds, e1, rfl, e3, e4, e5, e6, e7⟩ := s.own i d h3
      exact ⟨_, e1, .lst (.inl ⟨.inl (e _ _ e3), ⟨.inl (.inr ⟨i, _, h3, h4, e1⟩), fun z => by rw [z, hn] at e3; cases e3⟩, by rw [e _ _ e3]; simp⟩) (e6.mono e fle)⟩
  · obtain ⟨h1, _⟩ := demote_get h
    rw [Nat.zero_add] at h1
    obtain ⟨h3, h4⟩ := h1 rfl
    obtain ⟨q, vs, ds, e1, rfl, e3, e4, e5, e6, e7⟩ := s.own i d h3
    refine ⟨q, vs, ds, e1, rfl, e _ _ e3, e4, fun ⟨⟨z, _⟩, _⟩ => ?_, e6.mono e fle, e7⟩
    rcases z with (z | ⟨j, d', h5, h6, h7⟩) | z
    · exact e5 z
    · have := s.dist i j _ _ h3 h5 (e1.trans h7.symm)
      rw [← this, h4] at h6
      cases h6
    · rw [e3] at z; cases z
  · have q1 := (demote_get h1).1 rfl
    have q2 := (demote_get h2).1 rfl
    exact s.dist i j _ _ q1.1 q2.1
  · exact s.hid.mono e fle
/-- a list of the frame's own changes -/
theorem SOf.upd (s : SOf g H0 F0 hs hd σ H se F) {i : Nat} {d : D} {p : Addr} {vs : List V} {ds : List D} (hi : se[i]? = some (some (d, true))) (hp : σ[i]? = some (some (.ref p))) (r : RpA g.D.K H F vs ds) :
    SOf g H0 F0 hs hd σ (L2.upd H p (.lst vs)) (se.set i (some (.list ds, true))) F := by
  obtain ⟨q, vs0, ds0, h1, rfl, h3, h4, h5, h6, h7⟩ := s.own i d hi
  rw [hp] at h1
  cases h1
  have hil : i < se.length := (List.getElem?_eq_some_iff.mp hi).1
  refine ⟨fun a o e => ?_, s.sub, fun a f => ?_, by rw [List.length_set]; exact s.len, fun j d' h => ?_, fun j d' h => ?_, fun j k d' e' h1 h2 => ?_, s.hid.upd h3 h5⟩
  · rw [upd_ne (by rintro rfl; rw [h4] at e; cases e)]
    exact s.ex a o e
  · rw [upd_ne (by rintro rfl; exact h5 f)]
    exact s.live a f
  · rcases get_set h with ⟨rfl, e, hl⟩ | ⟨hne, h⟩
    · cases e
    · obtain ⟨w, h1, h2⟩ := s.ent j d' h
      exact ⟨w, h1, h2.upd h3 h5⟩
  · rcases get_set h with ⟨rfl, e, hl⟩ | ⟨hne, h⟩
    · cases e
      exact ⟨p, vs, ds, hp, rfl, upd_same, h4, h5, r.upd h3 h5, trivial⟩
    · obtain ⟨p2, vs2, ds2, k1, rfl, k3, k4, k5, k6, k7⟩ := s.own j d' h
      have ne : p2 ≠ p := by
        rintro rfl
        exact hne (s.dist j i _ _ h hi (k1.trans hp.symm))
      exact ⟨p2, vs2, ds2, k1, rfl, by rw [upd_ne ne]; exact k3, k4, k5, k6.upd h3 h5, k7⟩
  · rcases get_set h1 with ⟨z1, _, _⟩ | ⟨hn1, k1⟩
    · rcases get_set h2 with ⟨z2, _, _⟩ | ⟨hn2, k2⟩
      · exact fun _ => by rw [z1, z2]
      · rw [z1]; exact s.dist _ _ _ _ hi k2
    · rcases get_set h2 with ⟨z2, _, _⟩ | ⟨hn2, k2⟩
      · rw [z2]; exact s.dist _ _ _ _ k1 hi
      · exact s.dist _ _ _ _ k1 k2
/-- what is told of an outcome of the frame: its lists are the arguments' or new -/
theorem SOf.out (s : SOf g H0 F0 hs hd σ H se F) (e : Same H H1) {v : V} {d : D} (r : Rp g.D.K H1 (Fx (Fo F m σ se) H) v d) : Rp g.D.K H1 (Fx F0 H0) v d := by
  refine r.mono (Same.refl _) fun a z => ?_
  rcases z with (f | ⟨i, d, h1, _, h2⟩) | f
  · exact s.sub a f
  · obtain ⟨p, vs, ds, e1, rfl, e3, e4, _⟩ := s.own i d h1
    rw [h2] at e1
    cases e1
    exact .inr e4
  · exact .inr (s.ex.free f)
end
end Pu
namespace Pu
open PySem PySem.Spec PyProof.Rows L2

def SR.of {α : Type} (r : R α) (se : SEn) (k : α → SR) : SR := match r with
  | .ok a => k a
  | .ex c => .ex c se
  | .no => .no
@[simp] theorem SR.of_ok {α : Type} (a : α) (se : SEn) (k : α → SR) : SR.of (.ok a) se k = k a := rfl
@[simp] theorem SR.of_ex {α : Type} (c : Str) (se : SEn) (k : α → SR) : SR.of (.ex c) se k = .ex c se := rfl
@[simp] theorem SR.of_no {α : Type} (se : SEn) (k : α → SR) : SR.of (.no : R α) se k = .no := rfl

section
variable {g : G} {W : WX} {X : Cx} {H0 : Hp} {F0 : Fp} {hs : List V} {hd : List D} {σ : L2.St} {H H1 : Hp} {se : SEn} {F : Fp} {m : List Nat} {N : Ends}
variable {pos p p2 : Pos} {a b c e : Expr} {es : List Expr} {fa fb fe : En → R D} {fs : En → R (List D)} {ft : En → R Bool}
/-- from what is wanted of a statement to what is wanted of its expression -/
theorem of_wants {α β : Type} {r : R α} {k : α → SR} {rel : α → β → Hp → Prop} {Q : β → Hp → Prop} (s : SOf g H0 F0 hs hd σ H se F) (h : SEnds g W H0 F0 hs hd N (SR.of r se k))
    (q : ∀ d v H1, r = .ok d → Same H H1 → rel d v H1 → SEnds g W H0 F0 hs hd N (k d) → Q v H1) : Wants g W σ H r rel Q := by
  cases r with
  | ok d => exact fun v H1 e r => q d v H1 rfl e r h
  | ex c => exact fun cv H1 e hm => h cv σ H1 hm ⟨F, s.same e⟩
  | no => exact h

theorem pus_pass : PurS g (.Pass pos) (fun se => .next se) := fun X W C H0 F0 hs hd σ H se N s h => wS_of ps_pass (h σ H s)
theorem pus_break : PurS g (.Break pos) (fun se => .brk se) := fun X W C H0 F0 hs hd σ H se N s h => wS_of ps_break (h σ H s)
theorem pus_continue : PurS g (.Continue pos) (fun se => .cnt se) := fun X W C H0 F0 hs hd σ H se N s h => wS_of ps_continue (h σ H s)
theorem pus_doc {x : Str} {j : Nat} : PurS g (.Expr (.Constant (.str x) j p) pos) (fun se => .next se) := fun X W C H0 F0 hs hd σ H se N s h => wS_of ps_doc (h σ H s)
theorem pus_expr (m : List Nat) (he : Pur g e fe) (hsw : ∀ env, swapsWith e none pos.line env = pure false := by intro _; rfl) : PurS g (.Expr e pos) (fun se => SR.of (fe (view m 0 se)) se fun _ => .next se) := by
  intro X W C H0 F0 hs hd σ H se N ⟨F, s⟩ h
  refine wS_of (ps_expr pe_w (hsw _)) ?_
  exact he X W C σ H _ _ _ (s.env (m := m)) (of_wants s h fun d v H1 _ e1 r1 h1 => h1 σ H1 ⟨F, s.same e1⟩)
theorem pus_ret (m : List Nat) (he : Pur g e fe) : PurS g (.Return (some e) pos) (fun se => SR.of (fe (view m 0 se)) se fun d => .ret d) := by
  intro X W C H0 F0 hs hd σ H se N ⟨F, s⟩ h
  refine wS_of (ps_ret pe_w) ?_
  exact he X W C σ H _ _ _ (s.env (m := m)) (of_wants s h fun d v H1 _ e1 r1 h1 => h1 v H1 (s.ex.trans e1) (s.out e1 r1))
theorem pus_retN : PurS g (.Return none pos) (fun se => .ret .none) := by
  intro X W C H0 F0 hs hd σ H se N ⟨F, s⟩ h
  exact wS_of ps_retN (h _ H s.ex .non)
theorem pus_if (m : List Nat) {p q : List Stmt} {f1 f2 : SEn → SR} (hc : PurT g c ft) (h1 : PurB g p f1) (h2 : PurB g q f2) : PurS g (.If c p q pos) (fun se => SR.of (ft (view m 0 se)) se fun k => if k then f1 se else f2 se) := by
  intro X W C H0 F0 hs hd σ H se N ⟨F, s⟩ h
  refine wS_of (ps_if pt_w pss_w pss_w) ?_
  refine hc X W C σ H _ _ _ (s.env (m := m)) (of_wants s h fun d v H1 _ e1 r1 h3 => ?_)
  cases r1
  cases d with
  | true => exact h1 X W C H0 F0 hs hd σ H1 se N ⟨F, s.same e1⟩ h3
  | false => exact h2 X W C H0 F0 hs hd σ H1 se N ⟨F, s.same e1⟩ h3
/-! blocks -/
theorem pub_nil : PurB g [] (fun se => .next se) := fun X W C H0 F0 hs hd σ H se N s h => wB_of pss_nil (h σ H s)
theorem SEnds.seq {r : SR} {f : SEn → SR} {N' : Ends} (h : SEnds g W H0 F0 hs hd N (r.seq f)) (hr : N'.rt = N.rt) (hb : N'.bk = N.bk) (hc : N'.ct = N.ct) (hn : ∀ se σ H, r = .next se → SOk g H0 F0 hs hd σ H se → SEnds g W H0 F0 hs hd N (f se) → N'.nx σ H) :
    SEnds g W H0 F0 hs hd N' r := by
  cases r with
  | next se => exact fun σ H s => hn se σ H rfl s h
  | ret d => show ∀ v H, Same H0 H → Rp g.D.K H (Fx F0 H0) v d → N'.rt v H; rw [hr]; exact h
  | brk se => show ∀ σ H, SOk g H0 F0 hs hd σ H se → N'.bk σ H; rw [hb]; exact h
  | cnt se => show ∀ σ H, SOk g H0 F0 hs hd σ H se → N'.ct σ H; rw [hc]; exact h
  | ex c se => exact h
  | no => exact h
theorem pub_cons {st : Stmt} {rest : List Stmt} {f1 f2 : SEn → SR} (h1 : PurS g st f1) (h2 : PurB g rest f2) : PurB g (st :: rest) (fun se => (f1 se).seq f2) := by
  intro X W C H0 F0 hs hd σ H se N s h
  refine wB_of (pss_cons ps_w pss_w) ?_
  exact h1 X W C H0 F0 hs hd σ H se _ s (h.seq rfl rfl rfl fun se' σ' H' _ s' h' => h2 X W C H0 F0 hs hd σ' H' se' N s' h')
theorem pub_one {st : Stmt} {f1 : SEn → SR} (h1 : PurS g st f1) : PurB g [st] f1 := by
  intro X W C H0 F0 hs hd σ H se N s h
  exact wB_of (pss_one ps_w) (h1 X W C H0 F0 hs hd σ H se N s h)

/-! ### new lists -/
/-- an expression whose value is a new list -/
def relL (K : PySem.W.Frag) (F : Fp) (H : Hp) : D → V → Hp → Prop := fun d v H' => ∃ p vs ds, v = .ref p ∧ d = .list ds ∧ H p = none ∧ H' p = some (.lst vs) ∧ RpA K H' (fun a => Fx F H a ∧ a ≠ p) vs ds
def PurL (g : G) (e : Expr) (f : En → R D) : Prop := ∀ X W, Cok g X W → ∀ σ H F env (Q : VK), EnvOk g.D.K F σ H env → Wants g W σ H (f env) (relL g.D.K F H) Q → wE X e σ H Q
theorem PurL.pur (h : PurL g e fe) : Pur g e fe := fun X W C σ H F env Q E q => h X W C σ H F env Q E (q.imp fun d v H' _ ⟨p, vs, ds, ev, ed, hn, hp, r⟩ => by
  subst ev ed
  exact .lst (.inl ⟨.inl hp, .inr hn⟩) (r.mono (Same.refl _) fun _ z => z.1))
theorem RpA.newL {K : PySem.W.Frag} {H1 : Hp} {F : Fp} {p : Addr} {o : HO} {vs : List V} {ds : List D} (hn : H1 p = none) (r : RpA K H1 F vs ds) : RpA K (L2.upd H1 p o) (fun a => F a ∧ a ≠ p) vs ds := r.tight.mono (Same.new hn) fun a z => ⟨z.1, fun e => z.2 (by rw [e]; exact hn)⟩
theorem purl_lst (h : PurA g es fs) : PurL g (.List es pos) (fun env => (fs env).bind fun ds => if szOk ds.length then .ok (.list ds) else .no) := by
  intro X W C σ H F env Q E hq
  refine wE_of (pe_lst pa_w) ?_
  refine h X W C σ H F env _ E (hq.bind fun ds vs H1 _ e1 r1 h1 => ?_)
  by_cases z : szOk ds.length = true
  · rw [if_pos z] at h1
    exact ⟨by rw [r1.length]; exact of_decide_eq_true z, fun q hn => h1 _ _ (Same.new hn) ⟨q, vs, ds, rfl, rfl, e1.free hn, upd_same, RpA.newL hn r1⟩⟩
  · rw [if_neg z] at h1
    exact h1.elim
@[simp] def slL : D → Option Int → Option Int → R D
  | .list ds, lo, hi => .ok (.list (cutD ds lo hi))
  | _, _, _ => .no
theorem purl_slice {lo hi : Option Expr} {fl fh : En → R (Option Int)} (ha : Pur g a fa) (hl : PurO g lo fl) (hh : PurO g hi fh) :
    PurL g (.Subscript a (.Slice lo hi none p2) pos) (fun env => (fa env).bind fun x => (fl env).bind fun l => (fh env).bind fun u => slL x l u) := by
  intro X W C σ H F env Q E h
  have tl : ∀ (lo : Option Expr), PO X lo (fun σ H Q => ∃ t, PO X lo t ∧ t σ H Q) := fun lo => ⟨fun pins s σ H Q I ⟨t, ht, q⟩ => ht.run pins s σ H Q I q⟩
  refine wE_of (pe_slice sl_list pe_w (tl lo) (tl hi)) ?_
  refine ha X W C σ H F env _ E (h.bind fun x v H1 _ e1 r1 h1 => ?_)
  refine hl X W C σ H1 F env _ (E.mono e1 fun _ z => z) (h1.bind fun l l' H2 _ e2 r2 h2 => ?_)
  refine hh X W C σ H2 F env _ (E.mono (e1.trans e2) fun _ z => z) (h2.bind fun u u' H3 _ e3 r3 h3 => ?_)
  cases r2
  cases r3
  have e0 := (e1.trans e2).trans e3
  cases Rp.mono (e2.trans e3) (fun a z => z) r1 with
  | lst hq hA => exact ⟨_, _, rfl, by rw [C.K]; exact hq.sq, fun p hn => h3 _ _ (Same.new hn) ⟨p, _, _, rfl, rfl, e0.free hn, upd_same, RpA.newL hn (hA.cut _ _)⟩⟩
  | _ => exact h3.elim
theorem purl_rev {k : Nat} {q1 q2 q3 : Pos} (ha : Pur g a fa) : PurL g (.Subscript a (.Slice none none (some (.UnaryOp .USub (.Constant (.int 1) k q1) q2)) q3) pos) (fun env => (fa env).bind revV) := by
  intro X W C σ H F env Q E h
  refine wE_of (pe_revL pe_w) ?_
  refine ha X W C σ H F env _ E (h.bind fun x v H1 _ e1 r1 h1 => ?_)
  cases r1 with
  | lst hq hA => exact ⟨_, _, rfl, by rw [C.K]; exact hq.sq, fun p hn => h1 _ _ (Same.new hn) ⟨p, _, _, rfl, rfl, e1.free hn, upd_same, RpA.newL hn hA.reverse⟩⟩
  | _ => exact h1.elim
/-- xs * n, xs + ys of lists -/
@[simp] def repL : D → D → R D
  | .list xs, .int k => if -(2 ^ 63) ≤ k ∧ k < 2 ^ 63 ∧ xs.length * k.toNat ≤ sizeLine then .ok (.list (List.replicate k.toNat xs).flatten) else .no
  | _, _ => .no
theorem purl_rep (ha : Pur g a fa) (hb : Pur g b fb) : PurL g (.BinOp a .Mult b pos) (fun env => (fa env).bind fun x => (fb env).bind fun y => repL x y) := by
  intro X W C σ H F env Q E h
  refine wE_of (pe_op op_repS pe_w pe_w) ?_
  refine ha X W C σ H F env _ E (h.bind fun x v H1 _ e1 r1 h1 => ?_)
  refine hb X W C σ H1 F env _ (E.mono e1 fun _ z => z) (h1.bind fun y u H2 _ e2 r2 h2 => ?_)
  unfold repL at h2
  split at h2
  · cases Rp.mono e2 (fun a z => z) r1 with
    | lst hq hA =>
      cases r2
      split at h2
      · rename_i c
        exact ⟨_, _, _, rfl, rfl, by rw [C.K]; exact hq.sq, c.1, c.2.1, by rw [hA.length]; exact c.2.2, fun p hn => h2 _ _ (Same.new hn) ⟨p, _, _, rfl, rfl, (e1.trans e2).free hn, upd_same, RpA.rep (RpA.newL hn hA) _⟩⟩
      · exact h2.elim
  · exact h2.elim
@[simp] def catL : D → D → R D
  | .list xs, .list ys => if szOk (xs.length + ys.length) then .ok (.list (xs ++ ys)) else .no
  | _, _ => .no
theorem purl_cat (ha : Pur g a fa) (hb : Pur g b fb) : PurL g (.BinOp a .Add b pos) (fun env => (fa env).bind fun x => (fb env).bind fun y => catL x y) := by
  intro X W C σ H F env Q E h
  refine wE_of (pe_op op_catS pe_w pe_w) ?_
  refine ha X W C σ H F env _ E (h.bind fun x v H1 _ e1 r1 h1 => ?_)
  refine hb X W C σ H1 F env _ (E.mono e1 fun _ z => z) (h1.bind fun y u H2 _ e2 r2 h2 => ?_)
  unfold catL at h2
  split at h2
  · cases Rp.mono e2 (fun a z => z) r1 with
    | lst hq hA =>
      cases r2 with
      | lst hq2 hA2 =>
        split at h2
        · exact ⟨_, _, _, _, rfl, rfl, by rw [C.K]; exact hq.sq, by rw [C.K]; exact hq2.sq, by rw [hA.length, hA2.length]; exact of_decide_eq_true (by assumption), fun p hn => h2 _ _ (Same.new hn) ⟨p, _, _, rfl, rfl, (e1.trans e2).free hn, upd_same,
            (RpA.newL hn hA).append ((RpA.newL hn hA2).mono (Same.refl _) fun a z => ⟨Fx.back e1 a z.1, z.2⟩)⟩⟩
        · exact h2.elim
  · exact h2.elim

/-! ### stores -/
def isLoc (sc : Scope) (x : Str) : Bool := match sc.names.lookup x with
  | some .local => true
  | some .cell => true
  | _ => false
theorem isLoc_ok {sc : Scope} {x : Str} (h : isLoc sc x = true) : Loc sc x := by
  unfold isLoc at h
  split at h
  · exact .inl (by assumption)
  · exact .inr (by assumption)
  · cases h
/-- what a store of d makes of the state: without lists in it | a new list of the frame's own | anything else, what was seen given up -/
def storeV (m : List Nat) (i : Nat) (d : D) (se : SEn) : SEn := if lf d then se.set i (some (d, false)) else (demote m 0 se).set i (some (d, false))
def storeL (m : List Nat) (i : Nat) : D → SEn → SEn
  | .list ds, se => if lfA ds then se.set i (some (.list ds, true)) else (demote m 0 se).set i (some (.list ds, true))
  | d, se => (demote m 0 se).set i (some (d, false))
theorem SOf.storeV (s : SOf g H0 F0 hs hd σ H se F) (e1 : Same H H1) {v : V} {d : D} (r : Rp g.D.K H1 (Fx (Fo F m σ se) H) v d) (i : Nat) : SOk g H0 F0 hs hd (σ.set i (some v)) H1 (Pu.storeV m i d se) := by
  unfold Pu.storeV
  split
  · exact ⟨F, (s.same e1).set (r.free (fun _ _ h => h) (by assumption)) i⟩
  · exact ⟨_, (s.give (m := m) e1).set r.tight i⟩
theorem SOf.storeL (s : SOf g H0 F0 hs hd σ H se F) (e1 : Same H H1) {v : V} {d : D} (r : relL g.D.K (Fo F m σ se) H d v H1) (i : Nat) : SOk g H0 F0 hs hd (σ.set i (some v)) H1 (Pu.storeL m i d se) := by
  obtain ⟨p, vs, ds, rfl, rfl, hn, hp, rA⟩ := r
  unfold Pu.storeL
  split
  · rename_i ds' q
    cases q
    split
    · exact ⟨F, s.setOwn e1 hn hp (RpA.free (fun _ _ h => h) (by assumption) rA) i⟩
    · refine ⟨_, (s.giveBut (m := m) e1 hn).setOwnAt hp (s.ex.free hn) (fun z => z.1.2 rfl) (fun j d' h z => ?_) rA.tight i⟩
      have h1 := (demote_get h).1 rfl
      obtain ⟨q, _, _, k1, _, k3, _⟩ := s.own j d' h1.1
      rw [z] at k1
      cases k1
      rw [hn] at k3
      cases k3
  · rename_i q
    exact absurd rfl (q ds)
theorem pus_set (i : Nat) (m : List Nat) {x : Str} (he : Pur g e fe) (hN : g.N[i]? = some x := by rfl) (hx : isLoc g.sc x = true := by rfl) (hB : g.B = true := by rfl) (hsw : ∀ env, swapsWith e (some (.Name x p)) pos.line env = pure false := by intro _; rfl) :
    PurS g (.Assign [.Name x p] e pos) (fun se => SR.of (fe (view m 0 se)) se fun d => .next (storeV m i d se)) := by
  intro X W C H0 F0 hs hd σ H se N ⟨F, s⟩ h
  refine wS_of (ps_set (i := i) C.nd (by rw [C.N]; exact hN) (by rw [C.sc]; exact isLoc_ok hx) pe_w (hsw _) (.inl (C.fn hB x))) ?_
  exact he X W C σ H _ _ _ (s.env (m := m)) (of_wants s h fun d v H1 _ e1 r1 h1 => h1 _ H1 (s.storeV e1 r1 i))
theorem pus_setL (i : Nat) (m : List Nat) {x : Str} (he : PurL g e fe) (hN : g.N[i]? = some x := by rfl) (hx : isLoc g.sc x = true := by rfl) (hB : g.B = true := by rfl) (hsw : ∀ env, swapsWith e (some (.Name x p)) pos.line env = pure false := by intro _; rfl) :
    PurS g (.Assign [.Name x p] e pos) (fun se => SR.of (fe (view m 0 se)) se fun d => .next (storeL m i d se)) := by
  intro X W C H0 F0 hs hd σ H se N ⟨F, s⟩ h
  refine wS_of (ps_set (i := i) C.nd (by rw [C.N]; exact hN) (by rw [C.sc]; exact isLoc_ok hx) pe_w (hsw _) (.inl (C.fn hB x))) ?_
  exact he X W C σ H _ _ _ (s.env (m := m)) (of_wants s h fun d v H1 _ e1 r1 h1 => h1 _ H1 (s.storeL e1 r1 i))
/-- a, b = x, y -/
theorem pus_par (i j : Nat) (m : List Nat) {x y : Str} {px py pt pt2 : Pos} {kt k2 : Nat} (ha : Pur g a fa) (hb : Pur g b fb) (hi : g.N[i]? = some x := by rfl) (hj : g.N[j]? = some y := by rfl) (hij : i ≠ j := by decide) (hc : g.calm = true := by rfl)
    (hx : g.sc.names.lookup x = some .local := by rfl) (hy : g.sc.names.lookup y = some .local := by rfl)
    (hst : ∀ env, starEach [a, b] env = (false, eval a env) :: starEach [b] env := by intro _; exact starEach_of rfl) (hst2 : ∀ env, starEach [b] env = (false, eval b env) :: starEach [] env := by intro _; exact starEach_of rfl)
    (hw : ∀ env : Env, env.scope = g.sc → swappedStores [.Tuple [.Name x px, .Name y py] kt pt] (.Tuple [a, b] k2 pt2) env = pure (some [x, y]) := by intro env he; obtain ⟨⟩ := env; cases he; rfl)
    (hsw : ∀ env, swapsWithSole [.Tuple [.Name x px, .Name y py] kt pt] (.Tuple [a, b] k2 pt2) pos.line env = pure false := by intro _; rfl) :
    PurS g (.Assign [.Tuple [.Name x px, .Name y py] kt pt] (.Tuple [a, b] k2 pt2) pos) (fun se => SR.of ((fa (view m 0 se)).bind fun d => (fb (view m 0 se)).bind fun d' => .ok (d, d')) se fun dd => if lf dd.1 && lf dd.2 then .next ((se.set i (some (dd.1, false))).set j (some (dd.2, false))) else .next (((demote m 0 se).set i (some (dd.1, false))).set j (some (dd.2, false)))) := by
  intro X W C H0 F0 hs hd σ H se N ⟨F, s⟩ h
  refine wS_of (ps_par (i := i) (j := j) (by rw [C.calm]; exact hc) C.nd (by rw [C.N]; exact hi) (by rw [C.N]; exact hj) hij (by rw [C.sc]; exact hx) (by rw [C.sc]; exact hy) (pa_cons pe_w (pa_cons pe_w pa_nil (hst2 _)) (hst _)) (hw _ C.sc) (hsw _)) ?_
  have E := s.env (m := m)
  have hW : Wants g W σ H ((fa (view m 0 se)).bind fun d => (fb (view m 0 se)).bind fun d' => .ok (d, d')) (fun dd (vv : V × V) H1 => Rp g.D.K H1 (Fx (Fo F m σ se) H) vv.1 dd.1 ∧ Rp g.D.K H1 (Fx (Fo F m σ se) H) vv.2 dd.2) (fun vv H1 => N.nx ((σ.set i (some vv.1)).set j (some vv.2)) H1) := of_wants s h fun dd vv H1 _ e1 r1 h1 => by
    by_cases z : (lf dd.1 && lf dd.2) = true
    · rw [if_pos z] at h1
      rw [Bool.and_eq_true] at z
      exact h1 _ H1 ⟨F, ((s.same e1).set (r1.1.free (fun _ _ h => h) z.1) i).set (r1.2.free (fun _ _ h => h) z.2) j⟩
    · rw [if_neg z] at h1
      exact h1 _ H1 ⟨_, ((s.give (m := m) e1).set r1.1.tight i).set r1.2.tight j⟩
  refine ha X W C σ H _ _ _ E (hW.bind fun d v H1 _ e1 r1 h1 => ?_)
  refine hb X W C σ H1 _ _ _ (E.mono e1 fun _ z => z) (h1.bind fun d' v' H2 _ e2 r2 h2 => ?_)
  exact ⟨v, v', rfl, h2 (v, v') H2 (Same.refl H2) ⟨r1.mono e2 fun _ z => z, r2.mono (Same.refl _) fun a z => Fx.back e1 a z⟩⟩
/-- a name op= e, ints -/
theorem ip_of {op : Operator} (hop : op = .Add ∨ op = .Sub) : PIp X op (ipI fun i j => if op = .Add then i + j else i - j) := by
  rcases hop with rfl | rfl
  · exact ip_add
  · exact ip_sub
theorem pus_aug (i : Nat) (m : List Nat) {x : Str} {op : Operator} (he : Pur g e fe) (hop : op = .Add ∨ op = .Sub := by first | exact .inl rfl | exact .inr rfl) (hN : g.N[i]? = some x := by rfl) (hx : isLoc g.sc x = true := by rfl) (hB : g.B = true := by rfl) :
    PurS g (.AugAssign (.Name x p) op e pos) (fun se => match se[i]? with
      | some (some (.int k, _)) => SR.of (fe (view m 0 se)) se fun d => match d with
        | .int j => .next (se.set i (some (.int (if op = .Add then k + j else k - j), false)))
        | _ => .no
      | _ => .no) := by
  intro X W C H0 F0 hs hd σ H se N ⟨F, s⟩ h
  refine wS_of (ps_aug (i := i) C.nd (by rw [C.N]; exact hN) (by rw [C.sc]; exact isLoc_ok hx) pe_w (ip_of hop) (.inl (C.fn hB x))) ?_
  dsimp only at h
  split at h
  · rename_i k b q
    have hv : σ[i]? = some (some (.int k)) := by
      cases b with
      | false =>
        obtain ⟨v, h1, h2⟩ := s.ent i _ q
        cases h2
        exact h1
      | true =>
        obtain ⟨_, _, _, _, e, _⟩ := s.own i _ q
        cases e
    refine ⟨_, hv, ?_⟩
    refine he X W C σ H _ _ _ (s.env (m := m)) (of_wants s h fun d v H1 _ e1 r1 h1 => ?_)
    cases r1 with
    | int j => exact ⟨k, j, rfl, rfl, h1 _ H1 ⟨F, (s.same e1).set (.int _) i⟩⟩
    | _ => exact h1.elim
  · exact h.elim
end
end Pu
namespace Pu
open PySem PySem.Spec PyProof.Rows L2

/-! ### targets -/
def PurG (g : G) (tg : Expr) (ft : D → SEn → Option SEn) : Prop := ∀ X W, Cok g X W → ∀ H0 F0 hs hd σ H se F v d (Q : L2.St → Hp → Prop), SOf g H0 F0 hs hd σ H se F → Rp g.D.K H F v d →
  (match ft d se with
   | some se' => ∀ σ', SOf g H0 F0 hs hd σ' H se' F → Q σ' H
   | none => False) → wG X tg v σ H Q
@[irreducible] def wGs (X : Cx) (ts : List Expr) : TGs := fun vs σ H Q => ∀ (pins : List (Addr × Obj)) (s : Shared) (us : List Value), Inv X pins σ H s → Vals vs us →
  wpAny (model X.prog X.w) X.A (assignInOrder ((assignEach ts X.env).map (·.2)) us) (fun _ s' => ∃ σ' H', Inv X pins σ' H' s' ∧ Q σ' H') X.xe s
theorem pgs_w {X : Cx} {ts : List Expr} : PGs X ts (wGs X ts) := ⟨fun pins s _ _ _ us _ I r h => by unfold wGs at h; exact h pins s us I r⟩
theorem wGs_of {X : Cx} {ts : List Expr} {t : TGs} (h : PGs X ts t) {vs : List V} {σ : L2.St} {H : Hp} {Q : L2.St → Hp → Prop} (q : t vs σ H Q) : wGs X ts vs σ H Q := by unfold wGs; exact fun pins s us I r => h.run pins s σ H vs us Q I r q
def PurGs (g : G) (ts : List Expr) (ft : List D → SEn → Option SEn) : Prop := ∀ X W, Cok g X W → ∀ H0 F0 hs hd σ H se F vs ds (Q : L2.St → Hp → Prop), SOf g H0 F0 hs hd σ H se F → RpA g.D.K H F vs ds →
  (match ft ds se with
   | some se' => ∀ σ', SOf g H0 F0 hs hd σ' H se' F → Q σ' H
   | none => False) → wGs X ts vs σ H Q
section
variable {g : G} {pos p p2 : Pos} {a b c e : Expr} {es : List Expr} {fa fb fe : En → R D} {fs : En → R (List D)} {ft : En → R Bool} {tg iter : Expr}
theorem pug_name (i : Nat) {x : Str} (hN : g.N[i]? = some x := by rfl) (hx : isLoc g.sc x = true := by rfl) (hB : g.B = true := by rfl) : PurG g (.Name x pos) (fun d se => some (se.set i (some (d, false)))) := by
  intro X W C H0 F0 hs hd σ H se F v d Q s r h
  exact wG_of (pg_name (i := i) C.nd (by rw [C.N]; exact hN) (by rw [C.sc]; exact isLoc_ok hx) (.inl (C.fn hB x))) (h _ (s.set r i))
theorem pugs_nil : PurGs g [] (fun ds se => match ds with | [] => some se | _ => none) := by
  intro X W C H0 F0 hs hd σ H se F vs ds Q s r h
  refine wGs_of pgs_nil ?_
  cases r with
  | nil => exact ⟨rfl, h _ s⟩
  | cons _ _ => exact h.elim
theorem pugs_cons {t : Expr} {ts : List Expr} {f1 : D → SEn → Option SEn} {f2 : List D → SEn → Option SEn} (h1 : PurG g t f1) (h2 : PurGs g ts f2) (hst : ∀ env, (assignEach (t :: ts) env).map (·.2) = assign t env :: (assignEach ts env).map (·.2) := by intro _; rfl) :
    PurGs g (t :: ts) (fun ds se => match ds with | d :: ds => (f1 d se).bind fun se' => f2 ds se' | [] => none) := by
  intro X W C H0 F0 hs hd σ H se F vs ds Q s r h
  refine wGs_of (pgs_cons pg_w pgs_w (hst _)) ?_
  cases r with
  | nil => exact h.elim
  | cons r1 r2 =>
    refine ⟨_, _, rfl, h1 X W C H0 F0 hs hd σ H se F _ _ _ s r1 ?_⟩
    cases q : f1 _ se with
    | none => simp [q] at h
    | some se' =>
      simp only [q, Option.bind_some] at h
      exact fun σ' s' => h2 X W C H0 F0 hs hd σ' H se' F _ _ _ s' r2 h
theorem pug_tup {k n : Nat} {f : List D → SEn → Option SEn} (hf : PurGs g es f) (hc : g.calm = true := by rfl) (hn : ∀ env, (assignEach es env).length = n := by intro _; rfl) (hst : ∀ env, (assignEach es env).findIdx? (·.1) = none := by intro _; rfl) :
    PurG g (.Tuple es k pos) (fun d se => match d with | .tuple ds => if ds.length = n then f ds se else none | _ => none) := by
  intro X W C H0 F0 hs hd σ H se F v d Q s r h
  refine wG_of (pg_tup (by rw [C.calm]; exact hc) pgs_w (hn _) (hst _)) ?_
  cases r with
  | tup hl hA =>
    by_cases z : ‹List D›.length = n
    · simp only [z, if_true] at h
      exact ⟨_, _, rfl, by rw [C.K]; exact hl, by rw [hA.length]; exact z, hf X W C H0 F0 hs hd σ H se F _ _ _ s hA h⟩
    · simp only [z, if_false] at h
  | _ => exact h.elim
@[simp] def SR.opt (o : Option SEn) : SR := match o with
  | some se => .next se
  | none => .no
def storeG (ft : D → SEn → Option SEn) (m : List Nat) (d : D) (se : SEn) : Option SEn := if lf d then ft d se else ft d (demote m 0 se)
theorem pus_asg (m : List Nat) {ft : D → SEn → Option SEn} (he : Pur g e fe) (hg : PurG g tg ft) (hsw : ∀ env : Env, env.scope = g.sc → swapsWithSole [tg] e pos.line env = pure false := by intro _ _; rfl) (hw : ∀ env : Env, env.scope = g.sc → swappedStores [tg] e env = pure none := by intro _ _; rfl)
    (h1 : ∀ env, (assignEach [tg] env).map (·.2) = [assign tg env] := by intro _; rfl) : PurS g (.Assign [tg] e pos) (fun se => SR.of (fe (view m 0 se)) se fun d => SR.opt (storeG ft m d se)) := by
  intro X W C H0 F0 hs hd σ H se N ⟨F, s⟩ h
  refine wS_of (ps_asg pe_w pg_w (hsw _ C.sc) (hw _ C.sc) (h1 _)) ?_
  refine he X W C σ H _ _ _ (s.env (m := m)) (of_wants s h fun d v H1 _ e1 r1 h2 => ?_)
  unfold storeG at h2
  split at h2
  · rename_i z
    refine hg X W C H0 F0 hs hd σ H1 se F v d _ (s.same e1) (Rp.free (fun _ _ h => h) z r1) ?_
    cases q : ft d se with
    | none => rw [q] at h2; exact h2
    | some se' => rw [q] at h2; exact fun σ' s' => h2 σ' H1 ⟨F, s'⟩
  · refine hg X W C H0 F0 hs hd σ H1 _ _ v d _ (s.give (m := m) e1) r1.tight ?_
    cases q : ft d (demote m 0 se) with
    | none => rw [q] at h2; exact h2
    | some se' => rw [q] at h2; exact fun σ' s' => h2 σ' H1 ⟨_, s'⟩

/-! ### changes of a list of the frame's own -/
/-- xs.append(e) -/
theorem pus_append (i : Nat) (m : List Nat) {x : Str} {apos cpos px : Pos} (he : Pur g e fe) (hN : g.N[i]? = some x := by rfl) (hv : vis g.sc x = true := by rfl) (hd1 : (x == ("__debug__" : Str)) = false := by decide) (hd2 : (x == ("__classdict__" : Str)) = false := by decide)
    (hsw : ∀ env, swapsWith (.Call (.Attribute (.Name x px) "append" apos) [e] [] cpos) none pos.line env = pure false := by intro _; rfl)
    (hbase : ∀ env, attributeBase (.Name x px) "append" env (eval (.Name x px) env) = eval (.Name x px) env := by intro _; rfl)
    (hfew : ∀ env, ((backTo cpos (starEach [e] env)).all (fun x => !x.1) && (backToKw cpos (keywordEach [] env)).all (fun x => x.1.isSome)
      && decide ([e].length + ([] : List Keyword).length + (if ([] : List Keyword).isEmpty then 0 else 1) < 30)) = true := by intro _; rfl)
    (hline : (apos.endLine == cpos.line) = true := by rfl) (hst : ∀ env, starEach [e] env = (false, eval e env) :: starEach [] env := by intro _; exact starEach_of rfl) :
    PurS g (.Expr (.Call (.Attribute (.Name x px) "append" apos) [e] [] cpos) pos) (fun se => match se[i]? with
      | some (some (.list ds, true)) => SR.of (fe (view m 0 se)) se fun d => if szOk (ds.length + 1) then (if lf d then .next (se.set i (some (.list (ds ++ [d]), true))) else if m.contains i then .no else .next ((demote m 0 se).set i (some (.list (ds ++ [d]), true)))) else .no
      | _ => .no) := by
  intro X W C H0 F0 hs hd σ H se N ⟨F, s⟩ h
  refine wS_of (ps_expr (pe_bm PySem.F.plainAttrs_list PySem.F.slot_list_append PySem.F.type_list_append mt_append (pe_var (i := i) (by rw [C.N]; exact hN) (by rw [C.sc]; exact vis_ok hv) hd1 hd2) (pa_cons pe_w pa_nil (hst _)) (hbase _) (hfew _) hline (hst _) rfl) (hsw _)) ?_
  dsimp only at h
  split at h
  · rename_i ds q
    obtain ⟨pa, vs, ds', e1, ed, e3, e4, e5, e6, e7⟩ := s.own i _ q
    cases ed
    refine ⟨_, e1, .inl ⟨rfl, _, .inl (.inl e3)⟩, ?_⟩
    refine he X W C σ H _ _ _ (s.env (m := m)) (of_wants s h fun d v H1 _ k1 r1 h2 => ?_)
    by_cases hz0 : szOk (ds.length + 1) = true
    · rw [if_pos hz0] at h2
      have hz : ds.length + 1 ≤ sizeLine := of_decide_eq_true hz0
      by_cases z : lf d = true
      · rw [if_pos z] at h2
        exact ⟨pa, vs, v, rfl, rfl, k1 _ _ e3, by rw [e6.length]; omega, h2 σ _ ⟨F, (s.same k1).upd q e1 ((e6.mono k1 fun _ z => z).snoc (Rp.free (fun _ _ h => h) z r1))⟩⟩
      · rw [if_neg z] at h2
        by_cases zm : m.contains i = true
        · rw [if_pos zm] at h2
          exact h2.elim
        · rw [if_neg zm] at h2
          have s2 := s.give (m := m) k1
          have q2 : (demote m 0 se)[i]? = some (some (.list ds, true)) := demote_keep q (by rw [Nat.zero_add]; simpa using zm)
          obtain ⟨pa2, vs2, ds2, b1, bd, b3, b4, b5, b6, _⟩ := s2.own i _ q2
          cases bd
          rw [e1] at b1
          cases b1
          rw [k1 _ _ e3] at b3
          cases b3
          exact ⟨pa, vs, v, rfl, rfl, k1 _ _ e3, by rw [e6.length]; omega, h2 σ _ ⟨_, s2.upd q2 e1 (b6.snoc r1.tight)⟩⟩
    · rw [if_neg hz0] at h2
      exact h2.elim
  · exact h.elim
theorem lfA_dropLast : ∀ {ds : List D}, lfA ds = true → lfA ds.dropLast = true
  | [], _ => rfl
  | [d], _ => rfl
  | d :: e :: ds, h => by
    simp [lfA] at h
    have := lfA_dropLast (ds := e :: ds) (by simp [lfA, h.2])
    show (lf d && lfA (e :: ds).dropLast) = true
    rw [h.1, this]
    rfl
/-- xs.pop() -/
theorem pus_pop (i : Nat) {x : Str} {apos cpos px : Pos} (hN : g.N[i]? = some x := by rfl) (hv : vis g.sc x = true := by rfl) (hd1 : (x == ("__debug__" : Str)) = false := by decide) (hd2 : (x == ("__classdict__" : Str)) = false := by decide)
    (hsw : ∀ env, swapsWith (.Call (.Attribute (.Name x px) "pop" apos) [] [] cpos) none pos.line env = pure false := by intro _; rfl)
    (hbase : ∀ env, attributeBase (.Name x px) "pop" env (eval (.Name x px) env) = eval (.Name x px) env := by intro _; rfl)
    (hline : (apos.endLine == cpos.line) = true := by rfl) :
    PurS g (.Expr (.Call (.Attribute (.Name x px) "pop" apos) [] [] cpos) pos) (fun se => match se[i]? with
      | some (some (.list ds, true)) => if ds.isEmpty then .no else .next (se.set i (some (.list ds.dropLast, true)))
      | _ => .no) := by
  intro X W C H0 F0 hs hd σ H se N ⟨F, s⟩ h
  refine wS_of (ps_expr (pe_bm0 PySem.F.plainAttrs_list PySem.F.slot_list_pop PySem.F.type_list_pop mt_pop (pe_var (i := i) (by rw [C.N]; exact hN) (by rw [C.sc]; exact vis_ok hv) hd1 hd2) (hbase _) hline) (hsw _)) ?_
  dsimp only at h
  split at h
  · rename_i ds q
    obtain ⟨pa, vs, ds', e1, ed, e3, e4, e5, e6, e7⟩ := s.own i _ q
    cases ed
    split at h
    · exact h.elim
    · rename_i z
      have hne : 0 < ds.length := by
        cases ds with
        | nil => simp at z
        | cons _ _ => simp
      have hl : vs.length - 1 < vs.length := by rw [e6.length]; omega
      exact ⟨_, e1, .inl ⟨rfl, _, .inl (.inl e3)⟩, pa, vs, vs[vs.length - 1], rfl, rfl, e3, List.getElem?_eq_getElem hl, h σ _ ⟨F, s.upd q e1 e6.dropLast⟩⟩
  · exact h.elim
/-- a place of a list, for a store -/
theorem get_listS {X : Cx} : PGet X (fun x y H Q => ∃ p xs i v, x = .ref p ∧ y = .int i ∧ SqL X.K H p xs ∧ atI xs i = some v ∧ Q v H) := by
  intro pins s σ H x y v u Q I rx ry h
  obtain ⟨p, xs, i, w, rfl, rfl, hq, ha, q⟩ := h
  cases rx
  obtain ⟨t, rfl⟩ := ry
  obtain ⟨j, hj, hx, hlt, h1, h2⟩ := atI_get ha
  obtain ⟨its, rv, pl, hz⟩ := I.list hq
  obtain ⟨wu, hwu, rw⟩ := rv.get hx
  have hlen := rv.length
  have hn := line63
  have fin : EP X pins σ Q wu s := ⟨w, H, I, rw, q⟩
  by_cases h0 : 0 ≤ i
  · have hj' : i.toNat = j := by
      rw [seqIndex_of h0 h2] at hj
      exact Option.some.inj hj
    exact wpAny_getItem_list pl.isList h0 (by omega) (by rw [hj']; simpa using hwu) fin
  · have hj' : (i + (its.toArray.size : Int)).toNat = j := by
      rw [seqIndex_neg (by omega) h1] at hj
      rw [List.size_toArray, ← hlen]
      exact Option.some.inj hj
    exact wpAny_getItem_list_neg pl.isList (by omega) (by rw [List.size_toArray] <;> omega) (by omega) (by rw [hj']; simpa using hwu) fin
theorem lfA_set {d : D} (hd : lf d = true) : ∀ {ds : List D} (i : Nat), lfA ds = true → lfA (ds.set i d) = true
  | [], _, _ => rfl
  | a :: ds, 0, h => by
    simp [lfA] at h ⊢
    exact ⟨hd, h.2⟩
  | a :: ds, i + 1, h => by
    simp [lfA] at h ⊢
    exact ⟨h.1, lfA_set hd i h.2⟩
theorem atI_ix {α : Type} {xs : List α} {k : Int} {v : α} (h : atI xs k = some v) : ∃ j, ixN xs.length k = some j ∧ xs[j]? = some v := by
  unfold atI at h
  cases q : ixN xs.length k with
  | none => rw [q] at h; cases h
  | some j => rw [q] at h; exact ⟨j, rfl, by simpa using h⟩
/-- xs[k] = e -/
theorem pus_sub (i : Nat) (m : List Nat) {x : Str} {px tpos : Pos} {ei : Expr} {fi : En → R D} (he : Pur g e fe) (hi : Pur g ei fi) (hN : g.N[i]? = some x := by rfl) (hv : vis g.sc x = true := by rfl) (hd1 : (x == ("__debug__" : Str)) = false := by decide) (hd2 : (x == ("__classdict__" : Str)) = false := by decide)
    (hsw : ∀ env : Env, env.scope = g.sc → swapsWithSole [.Subscript (.Name x px) ei tpos] e pos.line env = pure false := by intro _ _; rfl) (hw : ∀ env : Env, env.scope = g.sc → swappedStores [.Subscript (.Name x px) ei tpos] e env = pure none := by intro _ _; rfl)
    (h1 : ∀ env, (assignEach [.Subscript (.Name x px) ei tpos] env).map (·.2) = [assign (.Subscript (.Name x px) ei tpos) env] := by intro _; rfl)
    (ha : ∀ env v, assign (.Subscript (.Name x px) ei tpos) env v = (do
      let ov ← holding [v] (eval (.Name x px) env)
      let iv ← holding [v, ov] (eval ei env)
      standAt tpos
      holding [v, ov, iv] (setItem ov iv v)
      release [v, ov, iv] []) := by intro _ _; rfl) :
    PurS g (.Assign [.Subscript (.Name x px) ei tpos] e pos) (fun se => match se[i]? with
      | some (some (.list ds, true)) => SR.of ((fe (view m 0 se)).bind fun d => (fi (view m 0 se)).bind fun k => .ok (d, k)) se fun dk => match dk.2 with
        | .int k => match ixN ds.length k with
          | some j => if lf dk.1 then .next (se.set i (some (.list (ds.set j dk.1), true))) else .no
          | none => .no
        | _ => .no
      | _ => .no) := by
  intro X W C H0 F0 hs hd σ H se N ⟨F, s⟩ h
  refine wS_of (ps_asg pe_w (pg_sub (pe_var (i := i) (by rw [C.N]; exact hN) (by rw [C.sc]; exact vis_ok hv) hd1 hd2) pe_w set_list (ha _)) (hsw _ C.sc) (hw _ C.sc) (h1 _)) ?_
  dsimp only at h
  split at h
  · rename_i ds q
    obtain ⟨pa, vs, ds', e1, ed, e3, e4, e5, e6, e7⟩ := s.own i _ q
    cases ed
    have E := s.env (m := m)
    have hW : Wants g W σ H ((fe (view m 0 se)).bind fun d => (fi (view m 0 se)).bind fun k => .ok (d, k)) (fun dk (vv : V × V) H1 => Rp g.D.K H1 (Fx (Fo F m σ se) H) vv.1 dk.1 ∧ Rp g.D.K H1 (Fx (Fo F m σ se) H) vv.2 dk.2) (fun vv H1 => ∃ p xs k j, V.ref pa = .ref p ∧ vv.2 = .int k ∧ H1 p = some (.lst xs) ∧ ixN xs.length k = some j ∧ N.nx σ (L2.upd H1 p (.lst (xs.set j vv.1)))) := of_wants s h fun dk vv H1 _ k1 r1 h2 => by
      obtain ⟨d, k⟩ := dk
      obtain ⟨v, u⟩ := vv
      obtain ⟨r1, r2⟩ := r1
      cases r2 with
      | int k =>
        dsimp only at h2
        cases z : ixN ds.length k with
        | none => rw [z] at h2; exact h2.elim
        | some j =>
          rw [z] at h2
          dsimp only at h2
          by_cases zl : lf d = true
          · rw [if_pos zl] at h2
            refine ⟨pa, vs, k, j, rfl, rfl, k1 _ _ e3, by rw [e6.length]; exact z, h2 σ _ ⟨F, (s.same k1).upd q e1 (RpA.set j (e6.mono k1 fun _ z => z) (Rp.free (fun _ _ h => h) zl r1)) ⟩⟩
          · rw [if_neg zl] at h2; exact h2.elim
      | _ => exact h2.elim
    refine he X W C σ H _ _ _ E (hW.bind fun d v H1 _ k1 r1 h2 => ?_)
    refine ⟨_, e1, ?_⟩
    refine hi X W C σ H1 _ _ _ (E.mono k1 fun _ z => z) (h2.bind fun k u H2 _ k2 r2 h3 => ?_)
    exact h3 (v, u) H2 (Same.refl H2) ⟨r1.mono k2 fun _ z => z, r2.mono (Same.refl _) fun a z => Fx.back k1 a z⟩
  · exact h.elim
/-- xs[k] += e, xs[k] -= e: ints -/
theorem pus_subaug (i : Nat) (m : List Nat) {x : Str} {px tpos : Pos} {op : Operator} {ei : Expr} {fi : En → R D} (hi : Pur g ei fi) (he : Pur g e fe) (hop : op = .Add ∨ op = .Sub := by first | exact .inl rfl | exact .inr rfl) (hN : g.N[i]? = some x := by rfl) (hv : vis g.sc x = true := by rfl) (hd1 : (x == ("__debug__" : Str)) = false := by decide) (hd2 : (x == ("__classdict__" : Str)) = false := by decide)
    (ha : ∀ ov iv new, augStore ei ov iv new = (do holding [new, ov, iv] (setItem ov iv new); release [new, ov, iv] []; pure .next) := by intros; rfl) :
    PurS g (.AugAssign (.Subscript (.Name x px) ei tpos) op e pos) (fun se => match se[i]? with
      | some (some (.list ds, true)) => SR.of (fi (view m 0 se)) se fun k => match k with
        | .int k => match atI ds k, ixN ds.length k with
          | some (.int o), some j => SR.of (fe (view m 0 se)) se fun d => match d with
            | .int d => .next (se.set i (some (.list (ds.set j (.int (if op = .Add then o + d else o - d))), true)))
            | _ => .no
          | _, _ => .no
        | _ => .no
      | _ => .no) := by
  intro X W C H0 F0 hs hd σ H se N ⟨F, s⟩ h
  refine wS_of (ps_augS (pe_var (i := i) (by rw [C.N]; exact hN) (by rw [C.sc]; exact vis_ok hv) hd1 hd2) pe_w get_listS pe_w (ip_of hop) set_list ha) ?_
  dsimp only at h
  split at h
  · rename_i ds q
    obtain ⟨pa, vs, ds', e1, ed, e3, e4, e5, e6, e7⟩ := s.own i _ q
    cases ed
    have E := s.env (m := m)
    refine ⟨_, e1, ?_⟩
    refine hi X W C σ H _ _ _ E (of_wants s h fun k u H1 _ k1 r1 h2 => ?_)
    have s1 := s.same k1
    cases r1 with
    | int k =>
      dsimp only at h2
      split at h2
      · rename_i o j za zj
        obtain ⟨w, hw1, hw2⟩ := (e6.mono k1 fun _ z => z).atI za
        cases hw2
        refine ⟨pa, vs, k, _, rfl, rfl, .inl (.inl (k1 _ _ e3)), hw1, ?_⟩
        refine he X W C σ H1 _ _ _ (s1.env (m := m)) (of_wants s1 h2 fun d v H2 _ k2 r2 h3 => ?_)
        cases r2 with
        | int d => exact ⟨o, d, rfl, rfl, pa, vs, k, j, rfl, rfl, k2 _ _ (k1 _ _ e3), by rw [e6.length]; exact zj, h3 σ _ ⟨F, (s1.same k2).upd q e1 (RpA.set j (e6.mono (k1.trans k2) fun _ z => z) (.int _))⟩⟩
        | _ => exact h3.elim
      · exact h2.elim
    | _ => exact h2.elim
  · exact h.elim
end

/-! ### what is walked -/
/-- J walks ds while what is held stands -/
def Wk (K : PySem.W.Frag) (J : It) (ds : List D) (hs : List V) (hd : List D) : Prop := ∀ F H, RpA K H F hs hd → (∀ i, i < ds.length → J.go i H) ∧ J.stop ds.length H ∧
  ∀ i x H', i < ds.length → J.yld i H x H' → Same H H' ∧ ∃ d, ds[i]? = some d ∧ Rp K H' (Fx F H) x d
def relI (K : PySem.W.Frag) (F : Fp) (H : Hp) : List D → It × List V × List D → Hp → Prop := fun ds jj H' => RpA K H' (Fx F H) jj.2.1 jj.2.2 ∧ Wk K jj.1 ds jj.2.1 jj.2.2
def PurI (g : G) (tg iter : Expr) (f : En → R (List D)) : Prop := ∀ X W, Cok g X W → ∀ σ H F env (Q : It → Hp → Prop), EnvOk g.D.K F σ H env → Wants g W σ H (f env) (relI g.D.K F H) (fun jj H' => Q jj.1 H') → wI X tg iter σ H Q
section
variable {g : G} {pos p p2 : Pos} {a b c e : Expr} {es : List Expr} {fa fb fe : En → R D} {fs : En → R (List D)} {ft : En → R Bool} {tg iter : Expr}
theorem RpA.one {K : PySem.W.Frag} {H : Hp} {F : Fp} {vs : List V} {d : D} (h : RpA K H F vs [d]) : ∃ v, vs = [v] ∧ Rp K H F v d := by
  cases h with
  | cons h1 h2 => cases h2; exact ⟨_, rfl, h1⟩
theorem wk_list {K : PySem.W.Frag} {a : Addr} {ds : List D} : Wk K (Itl K a) ds [.ref a] [.list ds] := by
  intro F H r
  cases r with
  | cons r1 _ =>
    cases r1 with
    | lst hl hA =>
      rename_i xs
      have w := walk_list (K := K) (a := a) (xs := xs)
      rw [hA.length] at w
      refine ⟨fun i hi => w.goes i H hi hl.sq, w.stops H hl.sq, fun i x H' hi y => ?_⟩
      obtain ⟨rfl, e⟩ := w.yields i H x H' hi hl.sq y
      have e2 : ds[i]? = some ds[i] := List.getElem?_eq_getElem hi
      obtain ⟨v, h1, h2⟩ := hA.get e2
      rw [e] at h1
      cases h1
      exact ⟨Same.refl _, _, e2, h2.mono (Same.refl _) Fx.le⟩
theorem wk_tup {K : PySem.W.Frag} {a : Addr} {ds : List D} : Wk K (Itt K a) ds [.ref a] [.tuple ds] := by
  intro F H r
  cases r with
  | cons r1 _ =>
    cases r1 with
    | tup hl hA =>
      rename_i xs
      have w := walk_tup (K := K) (a := a) (xs := xs)
      rw [hA.length] at w
      refine ⟨fun i hi => w.goes i H hi hl, w.stops H hl, fun i x H' hi y => ?_⟩
      obtain ⟨rfl, e⟩ := w.yields i H x H' hi hl y
      have e2 : ds[i]? = some ds[i] := List.getElem?_eq_getElem hi
      obtain ⟨v, h1, h2⟩ := hA.get e2
      rw [e] at h1
      cases h1
      exact ⟨Same.refl _, _, e2, h2.mono (Same.refl _) Fx.le⟩
/-- two rules for what is walked -/
def iSeq (K : PySem.W.Frag) (tl : TE) : TI := fun σ H R => tl σ H fun x H1 => ∃ a, x = .ref a ∧ (((∃ xs, SqL K H1 a xs) ∧ R (Itl K a) H1) ∨ ((∃ xs, SqT K H1 a xs) ∧ R (Itt K a) H1))
theorem pi_seq {X : Cx} {l : Expr} {tl : TE} (hl : PE X l tl) : PI X tg l (iSeq X.K tl) := by
  refine ⟨fun pins s σ H R I h => ?_⟩
  refine thn (hl.run pins s σ H _ I h) fun v s1 ⟨x, H1, I1, r1, q1⟩ => ?_
  obtain ⟨a, e, q⟩ := q1
  subst e
  cases r1
  rcases q with ⟨⟨xs, hq⟩, q⟩ | ⟨⟨xs, hq⟩, q⟩
  · obtain ⟨its, rv, p, hz⟩ := I1.list hq
    refine wpAny_pyIter_list p.isList ?_
    refine ⟨s1.heap.objs.size, [s1.heap.objs.size], _, _, H1, rfl, I1.kept (t' := s1.toks) fun b o e => Heap.get?_push_of_some _ e, turn_list a _, ⟨_, Heap.get?_push_size _ rfl, rfl, rfl⟩, fun b hb => ?_, q⟩
    have e : b = s1.heap.objs.size := by simpa using hb
    subst e
    exact I1.fpOk (Nat.le_refl _) (I1.hok.fresh (Nat.le_refl _))
  · obtain ⟨its, rv, p, hz⟩ := I1.tuple hq
    refine wpAny_pyIter_tuple (show s1.heap.IsTuple a its.toArray from p) ?_
    refine ⟨s1.heap.objs.size, [s1.heap.objs.size], _, _, H1, rfl, I1.kept (t' := s1.toks) fun b o e => Heap.get?_push_of_some _ e, turn_tuple a _, ⟨_, Heap.get?_push_size _ rfl, rfl, rfl⟩, fun b hb => ?_, q⟩
    have e : b = s1.heap.objs.size := by simpa using hb
    subst e
    exact I1.fpOk (Nat.le_refl _) (I1.hok.fresh (Nat.le_refl _))
/-- for x in xs, xs a list or a tuple -/
theorem puri_seq (ha : Pur g a fa) : PurI g tg a (fun env => (fa env).bind unstar) := by
  intro X W C σ H F env Q E h
  refine wI_of (pi_seq pe_w) ?_
  refine ha X W C σ H F env _ E (h.bind fun d v H1 _ e1 r1 h1 => ?_)
  cases r1 with
  | lst hl hA => exact ⟨_, rfl, .inl ⟨⟨_, by rw [C.K]; exact hl.sq⟩, by rw [C.K]; exact h1 (Itl g.D.K _, [.ref _], [.list _]) H1 (Same.refl H1) ⟨.cons (.lst hl hA) .nil, wk_list⟩⟩⟩
  | tup hl hA => exact ⟨_, rfl, .inr ⟨⟨_, by rw [C.K]; exact hl⟩, by rw [C.K]; exact h1 (Itt g.D.K _, [.ref _], [.tuple _]) H1 (Same.refl H1) ⟨.cons (.tup hl hA) .nil, wk_tup⟩⟩⟩
  | _ => exact h1.elim
/-- lo, lo + 1, .. -/
def upFrom (lo : Int) (n : Nat) : List D := (List.range n).map fun i => .int (lo + (i : Nat))
theorem upFrom_len {lo : Int} {n : Nat} : (upFrom lo n).length = n := by simp [upFrom]
theorem wk_range {K : PySem.W.Frag} {lo : Int} {n : Nat} : Wk K (Itr lo n) (upFrom lo n) [] [] := by
  intro F H _
  have w := walk_range (lo := lo) (n := n)
  rw [upFrom_len]
  refine ⟨fun i hi => w.goes i H hi trivial, w.stops H trivial, fun i x H' hi y => ?_⟩
  obtain ⟨rfl, rfl⟩ := w.yields i H x H' hi trivial y
  exact ⟨Same.refl _, .int (lo + i), by simp [upFrom, hi], .int _⟩
def rngOk (i : Int) : Bool := decide (-(2 ^ 62) ≤ i) && decide (i < 2 ^ 62)
def range1F : List D → R (List D)
  | [.int j] => if rngOk j then .ok (upFrom 0 j.toNat) else .no
  | _ => .no
def range2F : List D → R (List D)
  | [.int i, .int j] => if rngOk i && rngOk j then .ok (upFrom i (j - i).toNat) else .no
  | _ => .no
theorem puri_range1 (hm : g.D.mg "range" = none) (ha : PurA g [a] fs) (hg : gl g.sc "range" = true := by rfl) (hst : ∀ env, starEach [a] env = [(false, eval a env)] := by intro _; rfl) : PurI g tg (.Call (.Name "range" p) [a] [] pos) (fun env => (fs env).bind range1F) := by
  intro X W C σ H F env Q E h
  refine wI_of (pi_range1 (gl_ok C hg) (by rw [C.mg]; exact hm) pa_w (hst _)) ?_
  refine ha X W C σ H F env _ E (h.bind fun ds vs H1 _ e1 r1 h1 => ?_)
  unfold range1F at h1
  split at h1
  · cases r1 with
    | cons r1 r2 =>
      cases r2
      cases r1
      split at h1
      · rename_i z
        simp only [rngOk, Bool.and_eq_true, decide_eq_true_eq] at z
        exact ⟨_, rfl, z.1, z.2, h1 (Itr 0 _, [], []) H1 (Same.refl H1) ⟨.nil, wk_range⟩⟩
      · exact h1.elim
  · exact h1.elim
theorem puri_range2 (hm : g.D.mg "range" = none) (ha : PurA g [a, b] fs) (hg : gl g.sc "range" = true := by rfl) (hst : ∀ env, starEach [a, b] env = [(false, eval a env), (false, eval b env)] := by intro _; rfl) (hst2 : ∀ env, starEach [b] env = [(false, eval b env)] := by intro _; rfl) : PurI g tg (.Call (.Name "range" p) [a, b] [] pos) (fun env => (fs env).bind range2F) := by
  intro X W C σ H F env Q E h
  refine wI_of (pi_range2 (gl_ok C hg) (by rw [C.mg]; exact hm) pa_w (hst _) (hst2 _)) ?_
  refine ha X W C σ H F env _ E (h.bind fun ds vs H1 _ e1 r1 h1 => ?_)
  unfold range2F at h1
  split at h1
  · cases r1 with
    | cons r1 r2 =>
      cases r2 with
      | cons r2 r3 =>
        cases r3; cases r1; cases r2
        split at h1
        · rename_i z
          simp only [rngOk, Bool.and_eq_true, decide_eq_true_eq] at z
          exact ⟨_, _, rfl, ⟨z.1.1, z.1.2, z.2.1, z.2.2⟩, h1 (Itr _ _, [], []) H1 (Same.refl H1) ⟨.nil, wk_range⟩⟩
        · exact h1.elim
  · exact h1.elim
end
end Pu
namespace Pu
open PySem PySem.Spec PyProof.Rows L2

section
variable {g : G} {W : WX} {X : Cx} {H0 : Hp} {F0 : Fp} {hs : List V} {hd : List D} {σ : L2.St} {H H1 : Hp} {se : SEn} {F : Fp} {m : List Nat} {N : Ends}
variable {pos p p2 : Pos} {a b c e : Expr} {es : List Expr} {fa fb fe : En → R D} {fs : En → R (List D)} {ft : En → R Bool} {tg iter : Expr}

theorem demote_nil : ∀ {k : Nat} {se : SEn}, demote [] k se = se
  | _, [] => rfl
  | k, none :: r => by simp [demote, demote_nil (se := r)]
  | k, some (d, false) :: r => by simp [demote, demote_nil (se := r)]
  | k, some (d, true) :: r => by simp [demote, demote_nil (se := r)]
theorem Fo_nil : ∀ a, Fo F [] σ se a ↔ F a := fun a => ⟨fun h => h.elim id fun ⟨_, _, _, c, _⟩ => by simp at c, .inl⟩
/-- new addresses join F -/
theorem SOf.grow (s : SOf g H0 F0 hs hd σ H se F) (e : Same H H1) : SOf g H0 F0 hs hd σ H1 se (fun a => Fx F H a ∧ H1 a ≠ none) := by
  have q := s.give (m := []) e
  rw [demote_nil] at q
  have eF : (fun a => Fx (Fo F [] σ se) H a ∧ H1 a ≠ none) = fun a => Fx F H a ∧ H1 a ≠ none := by
    funext a
    apply propext
    constructor
    · rintro ⟨h, k⟩; exact ⟨h.elim (fun z => .inl (Fo_nil a |>.mp z)) .inr, k⟩
    · rintro ⟨h, k⟩; exact ⟨h.elim (fun z => .inl (Fo_nil a |>.mpr z)) .inr, k⟩
  rw [eF] at q
  exact q
theorem SOf.hide (s : SOf g H0 F0 hs hd σ H se F) {hs' : List V} {hd' : List D} (r : RpA g.D.K H F hs' hd') : SOf g H0 F0 (hs' ++ hs) (hd' ++ hd) σ H se F := { s with hid := r.append s.hid }
theorem RpA.split {K : PySem.W.Frag} {H : Hp} {F : Fp} : ∀ {hs' hs : List V} {hd' hd : List D}, hs'.length = hd'.length → RpA K H F (hs' ++ hs) (hd' ++ hd) → RpA K H F hs' hd' ∧ RpA K H F hs hd
  | [], _, [], _, _, r => ⟨.nil, r⟩
  | [], _, _ :: _, _, l, _ => by simp at l
  | _ :: _, _, [], _, l, _ => by simp at l
  | v :: hs', hs, d :: hd', hd, l, r => by
    cases r with
    | cons r1 r2 =>
      obtain ⟨h1, h2⟩ := RpA.split (hs' := hs') (hd' := hd') (by simpa using l) r2
      exact ⟨.cons r1 h1, h2⟩
theorem SOf.unhide {hs' : List V} {hd' : List D} (hl : hs'.length = hd'.length) (s : SOf g H0 F0 (hs' ++ hs) (hd' ++ hd) σ H se F) : SOf g H0 F0 hs hd σ H se F := { s with hid := (RpA.split hl s.hid).2 }

/-! ### for -/
def forD (ft : D → SEn → Option SEn) (fb : SEn → SR) : List D → SEn → SR
  | [], se => .next se
  | d :: ds, se => match ft d se with
    | none => .no
    | some se1 => match fb se1 with
      | .next s => forD ft fb ds s
      | .cnt s => forD ft fb ds s
      | .brk s => .next s
      | r => r
theorem pus_for (m : List Nat) {body : List Stmt} {fi : En → R (List D)} {ft : D → SEn → Option SEn} {fb : SEn → SR} (hi : PurI g tg iter fi) (hg : PurG g tg ft) (hb : PurB g body fb) (hc : g.calm = true := by rfl)
    (hfs : ∀ env x, foldedSetIterable iter env x = pure x := by intro _ _; rfl) : PurS g (.For tg iter body [] pos) (fun se => SR.of (fi (view m 0 se)) se fun ds => forD ft fb ds (demote m 0 se)) := by
  intro X W C H0 F0 hs hd σ H se N ⟨F, s⟩ h
  refine wS_of (ps_for C.passes (by rw [C.calm]; exact hc) pi_w pg_w pss_w (hfs _)) ?_
  refine hi X W C σ H _ _ _ (s.env (m := m)) (of_wants s h fun ds jj H1 _ e1 r1 h2 => ?_)
  obtain ⟨J, hs', hd'⟩ := jj
  obtain ⟨rs, wk⟩ := r1
  have hl := rs.length
  have s0 := (s.give (m := m) e1).hide rs.tight
  refine ⟨fun i n σ H => i + n = ds.length ∧ ∃ se, SOk g H0 F0 (hs' ++ hs) (hd' ++ hd) σ H se ∧ SEnds g W H0 F0 hs hd N (forD ft fb (ds.drop i) se), ⟨ds.length, by omega, _, ⟨_, s0⟩, by simpa using h2⟩, ?_⟩
  rintro i n σ3 H3 ⟨en, se3, ⟨F3, s3⟩, h3⟩
  obtain ⟨go, stop, yld⟩ := wk F3 H3 (RpA.split hl s3.hid).1
  by_cases hi : i < ds.length
  · refine .inr ⟨go i hi, fun σ' H' => ∃ se', SOk g H0 F0 (hs' ++ hs) (hd' ++ hd) σ' H' se' ∧ SEnds g W H0 F0 hs hd N (forD ft fb (ds.drop (i + 1)) se'), fun σ' H' q => ⟨n - 1, by omega, by omega, q⟩, fun x H4 y => ?_⟩
    obtain ⟨e4, d, hd4, r4⟩ := yld i x H4 hi y
    have edrop : ds.drop i = d :: ds.drop (i + 1) := by
      rw [List.drop_eq_getElem_cons hi]
      rw [List.getElem?_eq_getElem hi] at hd4
      rw [Option.some.inj hd4]
    rw [edrop] at h3
    have s4 := s3.grow e4
    refine hg X W C H0 F0 _ _ σ3 H4 se3 _ x d _ s4 r4.tight ?_
    unfold forD at h3
    cases q : ft d se3 with
    | none => rw [q] at h3; exact h3
    | some se5 =>
      rw [q] at h3
      dsimp only at h3
      intro σ5 s5
      refine hb X W C H0 F0 _ _ σ5 H4 se5 _ ⟨_, s5⟩ ?_
      cases q2 : fb se5 with
      | next s => rw [q2] at h3; exact fun σ' H' k => ⟨s, k, h3⟩
      | cnt s => rw [q2] at h3; exact fun σ' H' k => ⟨s, k, h3⟩
      | brk s => rw [q2] at h3; exact fun σ' H' ⟨F', k⟩ => h3 σ' H' ⟨F', k.unhide hl⟩
      | ret d => rw [q2] at h3; exact h3
      | ex c s => rw [q2] at h3; exact fun cv σ' H' hm ⟨F', k⟩ => h3 cv σ' H' hm ⟨F', k.unhide hl⟩
      | no => rw [q2] at h3; exact h3
  · have ei : i = ds.length := by omega
    subst ei
    rw [List.drop_length] at h3
    exact .inl ⟨stop, h3 σ3 H3 ⟨F3, s3.unhide hl⟩⟩

/-! ### while -/
def whileN (ft : SEn → R Bool) (fb : SEn → SR) : Nat → SEn → SR
  | 0, _ => .no
  | n + 1, se => SR.of (ft se) se fun k => if k then (match fb se with
      | .next s => whileN ft fb n s
      | .cnt s => whileN ft fb n s
      | .brk s => .next s
      | r => r) else .next se
open Classical in
noncomputable def whileD (ft : SEn → R Bool) (fb : SEn → SR) (se : SEn) : SR := if h : ∃ n, whileN ft fb n se ≠ .no then whileN ft fb h.choose se else .no
theorem whileN_succ {ft : SEn → R Bool} {fb : SEn → SR} : ∀ (n : Nat) (se : SEn), whileN ft fb n se ≠ .no → whileN ft fb (n + 1) se = whileN ft fb n se
  | 0, se, h => absurd rfl h
  | n + 1, se, h => by
    unfold whileN at h ⊢
    cases q : ft se with
    | ok k =>
      rw [q] at h
      cases k with
      | false => rfl
      | true =>
        simp only [SR.of_ok, if_true] at h ⊢
        cases q2 : fb se with
        | next s => rw [q2] at h; exact whileN_succ n s h
        | cnt s => rw [q2] at h; exact whileN_succ n s h
        | brk s => rfl
        | ret d => rfl
        | ex c s => rfl
        | no => rfl
    | ex c => rfl
    | no => rfl
theorem whileN_le {ft : SEn → R Bool} {fb : SEn → SR} {n : Nat} {se : SEn} (h : whileN ft fb n se ≠ .no) : ∀ k, whileN ft fb (n + k) se = whileN ft fb n se
  | 0 => rfl
  | k + 1 => by
    have ih := whileN_le h k
    rw [← Nat.add_assoc, whileN_succ _ _ (by rw [ih]; exact h), ih]
/-- a while that comes to r in some turns comes to r -/
theorem whileD_of {ft : SEn → R Bool} {fb : SEn → SR} {n : Nat} {se : SEn} {r : SR} (h : whileN ft fb n se = r) (hr : r ≠ .no) : whileD ft fb se = r := by
  have hn : whileN ft fb n se ≠ .no := by rw [h]; exact hr
  have hex : ∃ n, whileN ft fb n se ≠ .no := ⟨n, hn⟩
  unfold whileD
  rw [dif_pos hex]
  have hc := hex.choose_spec
  rcases Nat.le_total n hex.choose with z | z
  · obtain ⟨k, e⟩ := Nat.exists_eq_add_of_le z
    rw [e, whileN_le hn k, h]
  · obtain ⟨k, e⟩ := Nat.exists_eq_add_of_le z
    have := whileN_le hc k
    rw [← e, h] at this
    exact this.symm
theorem whileD_no {ft : SEn → R Bool} {fb : SEn → SR} {se : SEn} (h : whileD ft fb se = .no) (n : Nat) : whileN ft fb n se = .no := by
  refine Classical.byContradiction fun q => ?_
  exact q ((whileD_of (n := n) (se := se) rfl q).symm.trans h)
theorem whileD_step {ft : SEn → R Bool} {fb : SEn → SR} {se : SEn} : whileD ft fb se = SR.of (ft se) se fun k => if k then (match fb se with
      | .next s => whileD ft fb s
      | .cnt s => whileD ft fb s
      | .brk s => .next s
      | r => r) else .next se := by
  have go : ∀ s, whileD ft fb s ≠ .no → ∃ n, whileN ft fb n s = whileD ft fb s := fun s h => by
    unfold whileD at h ⊢
    by_cases hex : ∃ n, whileN ft fb n s ≠ .no
    · rw [dif_pos hex] at h ⊢; exact ⟨_, rfl⟩
    · rw [dif_neg hex] at h; exact absurd rfl h
  cases q : ft se with
  | ok k =>
    cases k with
    | false => exact whileD_of (n := 1) (by unfold whileN; rw [q]; rfl) (by simp)
    | true =>
      simp only [SR.of_ok, if_true]
      cases q2 : fb se with
      | next s =>
        by_cases z : whileD ft fb s = .no
        · rw [show (match SR.next s with | .next s => whileD ft fb s | .cnt s => whileD ft fb s | .brk s => .next s | r => r) = whileD ft fb s from rfl, z]
          unfold whileD
          rw [dif_neg]
          rintro ⟨n, hn⟩
          cases n with
          | zero => exact hn rfl
          | succ n =>
            unfold whileN at hn
            rw [q] at hn
            simp only [SR.of_ok, if_true, q2] at hn
            exact hn (whileD_no z n)
        · obtain ⟨n, hn⟩ := go s z
          exact whileD_of (n := n + 1) (by unfold whileN; rw [q]; simp only [SR.of_ok, if_true, q2]; exact hn) z
      | cnt s =>
        by_cases z : whileD ft fb s = .no
        · rw [show (match SR.cnt s with | .next s => whileD ft fb s | .cnt s => whileD ft fb s | .brk s => .next s | r => r) = whileD ft fb s from rfl, z]
          unfold whileD
          rw [dif_neg]
          rintro ⟨n, hn⟩
          cases n with
          | zero => exact hn rfl
          | succ n =>
            unfold whileN at hn
            rw [q] at hn
            simp only [SR.of_ok, if_true, q2] at hn
            exact hn (whileD_no z n)
        · obtain ⟨n, hn⟩ := go s z
          exact whileD_of (n := n + 1) (by unfold whileN; rw [q]; simp only [SR.of_ok, if_true, q2]; exact hn) z
      | brk s => exact whileD_of (n := 1) (by unfold whileN; rw [q]; simp only [SR.of_ok, if_true, q2]) (by simp)
      | ret d => exact whileD_of (n := 1) (by unfold whileN; rw [q]; simp only [SR.of_ok, if_true, q2]) (by simp)
      | ex c s => exact whileD_of (n := 1) (by unfold whileN; rw [q]; simp only [SR.of_ok, if_true, q2]) (by simp)
      | no =>
        show whileD ft fb se = .no
        unfold whileD
        rw [dif_neg]
        rintro ⟨n, hn⟩
        cases n with
        | zero => exact hn rfl
        | succ n => unfold whileN at hn; rw [q] at hn; simp only [SR.of_ok, if_true, q2] at hn; exact hn rfl
  | ex c => exact whileD_of (n := 1) (by unfold whileN; rw [q]; rfl) (by simp)
  | no =>
    show whileD ft fb se = .no
    unfold whileD
    rw [dif_neg]
    rintro ⟨n, hn⟩
    cases n with
    | zero => exact hn rfl
    | succ n => unfold whileN at hn; rw [q] at hn; exact hn rfl
theorem pus_while (m : List Nat) {body : List Stmt} {fb : SEn → SR} (hc : PurT g c ft) (hb : PurB g body fb) : PurS g (.While c body [] pos) (fun se => whileD (fun se => ft (view m 0 se)) fb se) := by
  intro X W C H0 F0 hs hd σ H se N s h
  refine wS_of (ps_while C.passes pt_w pss_w) ?_
  have start : ∃ n, SEnds g W H0 F0 hs hd N (whileN (fun se => ft (view m 0 se)) fb n se) := by
    dsimp only at h
    unfold whileD at h
    by_cases hex : ∃ n, whileN (fun se => ft (view m 0 se)) fb n se ≠ .no
    · rw [dif_pos hex] at h; exact ⟨_, h⟩
    · rw [dif_neg hex] at h; exact h.elim
  obtain ⟨n0, h0⟩ := start
  refine ⟨fun n σ H => ∃ se, SOk g H0 F0 hs hd σ H se ∧ SEnds g W H0 F0 hs hd N (whileN (fun se => ft (view m 0 se)) fb n se), ⟨n0, se, s, h0⟩, ?_⟩
  rintro n σ3 H3 ⟨se3, ⟨F3, s3⟩, h3⟩
  cases n with
  | zero => exact h3.elim
  | succ n =>
    unfold whileN at h3
    refine hc X W C σ3 H3 _ _ _ (s3.env (m := m)) (of_wants s3 h3 fun k k' H4 _ e4 r4 h4 => ?_)
    cases r4
    cases k with
    | true =>
      rw [if_pos rfl] at h4 ⊢
      refine ⟨fun σ' H' => ∃ se', SOk g H0 F0 hs hd σ' H' se' ∧ SEnds g W H0 F0 hs hd N (whileN (fun se => ft (view m 0 se)) fb n se'), fun σ' H' q => ⟨n, Nat.lt_succ_self n, q⟩, ?_⟩
      refine hb X W C H0 F0 hs hd σ3 H4 se3 _ ⟨F3, s3.same e4⟩ ?_
      cases q2 : fb se3 with
      | next s => rw [q2] at h4; exact fun σ' H' k => ⟨s, k, h4⟩
      | cnt s => rw [q2] at h4; exact fun σ' H' k => ⟨s, k, h4⟩
      | brk s => rw [q2] at h4; exact h4
      | ret d => rw [q2] at h4; exact h4
      | ex c s => rw [q2] at h4; exact h4
      | no => rw [q2] at h4; exact h4
    | false =>
      rw [if_neg Bool.false_ne_true] at h4 ⊢
      exact h4 σ3 H4 ⟨F3, s3.same e4⟩
end

/-! ### raise, try -/
/-- an own class of errors without __init__, below ValueError -/
def ExcOk (D : Wd) (x : Str) : Prop := ∃ C : Addr, D.mg x = some (.ref C) ∧ PySem.W.excIn D.K C [.type "ValueError", .type "Exception", .type "BaseException", .type "object"] "ValueError.__new__" = true ∧ PySem.W.keepIn D.K (.ref C) = true ∧
  PySem.W.subIn D.K (.ref C) (.type "BaseException") = some true ∧ PySem.W.typeIn D.K (.ref C) = some (.type "type")
section
variable {g : G} {pos p p2 p3 : Pos}
theorem pus_raise {x msg : Str} {j : Nat} (hx : ExcOk g.D x) (hc : g.calm = true := by rfl) (hg : gl g.sc x = true := by rfl) (hdb : (x == ("__debug__" : Str)) = false := by decide) :
    PurS g (.Raise (some (.Call (.Name x p) [.Constant (.str msg) j p2] [] p3)) none pos) (fun se => .ex x se) := by
  intro X W C H0 F0 hs hd σ H se N s h
  obtain ⟨Ca, gC, xP, kP, bP, tP⟩ := hx
  refine wS_of (ps_raise (by rw [C.calm]; exact hc) C.takes (pmk_own PySem.F.excBase_ValueError (by rw [C.K]; exact xP) (by rw [C.mg]; exact gC) (by rw [C.K]; exact kP) (raises_own (by rw [C.K]; exact bP) (by rw [C.K]; exact tP)) (gl_ok C hg) hdb)) ?_
  exact h _ σ H gC s
end

/-! ### a def -/
def startE (n : Nat) (ds : List D) : SEn := ds.map (fun d => some (d, false)) ++ List.replicate (n - ds.length) none
def runD (n : Nat) (f : SEn → SR) (ds : List D) : R D := match f (startE n ds) with
  | .next _ => .ok .none
  | .ret d => .ok d
  | .ex c _ => .ex c
  | _ => .no
theorem startE_get {n i : Nat} {ds : List D} {d : D} {b : Bool} (h : (startE n ds)[i]? = some (some (d, b))) : b = false ∧ ds[i]? = some d := by
  unfold startE at h
  by_cases hi : i < ds.length
  · rw [List.getElem?_append_left (by simpa using hi), List.getElem?_map] at h
    cases q : ds[i]? with
    | none => rw [q] at h; cases h
    | some d' => rw [q] at h; cases h; exact ⟨rfl, rfl⟩
  · rw [List.getElem?_append_right (by simpa using hi), List.getElem?_replicate] at h
    split at h <;> cases h
theorem fn_okAt {D : Wd} {k n : Nat} {x : Str} {st : Stmt} {f : Addr} {fd : FuncData} {N ps : List Str} {fb : SEn → SR} (Fu : Fun D.K x x st f fd) (S : FnScope N ps (defScope st)) (hn : ps.length = n)
    (hbody : PurB ⟨D, N, defScope st, k, true, true⟩ (defBody st) fb) (hk : 32 ≤ k) : FnOk D.P D.w D.K D.mg D.base (L2.CX D.P D.w) (k + 1) f fd ps (spF D n (runD N.length fb)) := by
  refine Fu.okX S (fun vs H Q E h => h.1.trans hn.symm) (fun cdv A outer s H vs Q E hr h => ⟨_, pss_w, ?_⟩)
  obtain ⟨hl, ds, F, r, q⟩ := h
  have hlv : vs.length ≤ N.length := by
    have := congrArg List.length S.pre
    rw [List.length_take] at this
    omega
  have C : Cok ⟨D, N, defScope st, k, true, true⟩ (cxOf (L2.CX D.P D.w) D.P D.w D.K D.mg D.base N x (defScope st) f cdv A outer s H E) (fun cls d _ H => E cls d H) :=
    ⟨rfl, rfl, rfl, rfl, rfl, rfl, rfl, S.nd, rfl, fun _ => hr, hr.units, takes_of rfl rfl rfl rfl, passes_of rfl, fun _ _ => rfl, fun _ => ⟨rfl, rfl⟩, fun _ => Nat.lt_of_le_of_lt (Nat.add_le_add_left (show Builtin.pylongFrames ≤ 3 * k + 5 by have h2 : Builtin.pylongFrames = 100 := rfl; omega) _) (by rw [← Nat.add_assoc]; exact hr.dp), ⟨_, _, rfl, S.gen, S.co, rfl, rfl⟩⟩
  have r' := r.tight
  refine hbody _ _ C H (fun a => F a ∧ H a ≠ none) [] [] (L2.start N vs) H (startE N.length ds) _ ⟨fun a => F a ∧ H a ≠ none, ⟨Same.refl H, fun a z => .inl z, fun a z => z.2, ?_, fun i d hi => ?_, fun i d hi => ?_, fun i j d e hi => ?_, .nil⟩⟩ ?_
  · unfold L2.start startE
    have := r.length
    simp only [List.length_append, List.length_map, List.length_replicate]
    omega
  · obtain ⟨_, hi⟩ := startE_get hi
    obtain ⟨v, h1, h2⟩ := r'.get hi
    refine ⟨v, ?_, h2⟩
    unfold L2.start
    have hlt : i < vs.length := (List.getElem?_eq_some_iff.mp h1).1
    rw [List.getElem?_append_left (by simpa using hlt), List.getElem?_map, h1]
    rfl
  · exact absurd (startE_get hi).1 (by simp)
  · exact absurd (startE_get hi).1 (by simp)
  · have up : ∀ {H' : Hp} {v : V} {d : PyData}, Rp D.K H' (Fx (fun a => F a ∧ H a ≠ none) H) v d → Rp D.K H' (Fx F H) v d := fun r => r.mono (Same.refl _) fun a z => z.elim (fun z => .inl z.1) .inr
    unfold runD at q
    cases z : fb (startE N.length ds) with
    | next se => rw [z] at q; exact fun σ H' ⟨F', s'⟩ => q .non H' s'.ex .non
    | ret d => rw [z] at q; exact fun v H' e r => q v H' e (up r)
    | ex c se => rw [z] at q; exact fun cv σ H' hm ⟨F', s'⟩ => q cv H' s'.ex hm
    | brk se => rw [z] at q; exact q.elim
    | cnt se => rw [z] at q; exact q.elim
    | no => rw [z] at q; exact q.elim
theorem fn_spec {D : Wd} {k n : Nat} {x : Str} {st : Stmt} {f : Addr} {fd : FuncData} {N ps : List Str} {fb : SEn → SR} (Fu : Fun D.K x x st f fd) (S : FnScope N ps (defScope st)) (hm : D.mg x = some (.ref f)) (hn : ps.length = n)
    (hb : Binds D.K fd ps []) (hbody : PurB ⟨D, N, defScope st, k, true, true⟩ (defBody st) fb) (hk : 32 ≤ k) : FnSpec D (k + 1) x n (runD N.length fb) := ⟨f, fd, ps, hn, hm, Fu.kp, hb, fn_okAt Fu S hn hbody hk⟩
end Pu
namespace Pu
open PySem PySem.Spec PyProof.Rows L2
/-- the def x of the text stands where x says -/
def DefOk (D : Wd) (x : Str) (st : Stmt) (ps : List Str) : Prop := ∃ (f : Addr) (fd : FuncData), Fun D.K x x st f fd ∧ D.mg x = some (.ref f) ∧ Binds D.K fd ps []
theorem fn_of' {D : Wd} {k : Nat} {x : Str} {st : Stmt} {N ps : List Str} {fb : SEn → SR} (h : DefOk D x st ps) (S : FnScope N ps (defScope st)) (hbody : PurB ⟨D, N, defScope st, k, true, true⟩ (defBody st) fb) (hk : 32 ≤ k := by decide) : FnSpec D (k + 1) x ps.length (runD N.length fb) := by
  obtain ⟨f, fd, Fu, hm, hb⟩ := h
  exact fn_spec Fu S hm rfl hb hbody hk
/-- a def computes a function of that kind -/
def Spec (D : Wd) (k : Nat) (x : Str) (n : Nat) (Φ : (List PyData → R PyData) → Prop) : Prop := ∃ Fn, FnSpec D k x n Fn ∧ Φ Fn
end Pu
namespace Pu
open PySem PySem.Spec PyProof.Rows L2
theorem runD_ret {n : Nat} {f : SEn → SR} {ds : List D} {d : D} (h : f (startE n ds) = .ret d) : runD n f ds = .ok d := by
  unfold runD
  rw [h]
theorem runD_ex {n : Nat} {f : SEn → SR} {ds : List D} {c : Str} {se : SEn} (h : f (startE n ds) = .ex c se) : runD n f ds = .ex c := by
  unfold runD
  rw [h]
theorem runD_next {n : Nat} {f : SEn → SR} {ds : List D} {se : SEn} (h : f (startE n ds) = .next se) : runD n f ds = .ok .none := by
  unfold runD
  rw [h]
/-! ### sizes -/
theorem log2_lt' {n k : Nat} (h : n < 2 ^ k) (hk : 0 < k) : n.log2 < k := PySem.Flt.log2_lt_of hk h
theorem mulOk_of {i j : Int} {a b : Nat} (ha : i.natAbs < 2 ^ a) (hb : j.natAbs < 2 ^ b) (h0 : 0 < a) (h1 : 0 < b) (h : a + b ≤ 134000000) : mulOk i j = true := by
  have x := log2_lt' ha h0
  have y := log2_lt' hb h1
  unfold mulOk
  simp only [Bool.or_eq_true, decide_eq_true_eq]
  exact .inr (by omega)
theorem divOk_ne {i j : Int} (hj : j ≠ 0) : divOk i j = true := decide_eq_true hj
theorem divOk_of {i j : Int} {b : Nat} (hj : j ≠ 0) (_ : j.natAbs < 2 ^ b) (_ : 0 < b) (_ : b ≤ 900000000) : divOk i j = true := divOk_ne hj
theorem divOk_of2 {i j : Int} {a : Nat} (hj : j ≠ 0) (_ : i.natAbs < 2 ^ a) (_ : 0 < a) (_ : a ≤ 900000000) : divOk i j = true := divOk_ne hj
theorem divOk_of3 {i j q : Int} (hj : j ≠ 0) (_ : i = q * j) (_ : q.natAbs < 2 ^ 439900) : divOk i j = true := divOk_ne hj
theorem natAbs_mul_lt {i j : Int} {a b : Nat} (ha : i.natAbs < 2 ^ a) (hb : j.natAbs < 2 ^ b) : (i * j).natAbs < 2 ^ (a + b) := by
  rw [Int.natAbs_mul, Nat.pow_add]
  exact Nat.mul_lt_mul'' ha hb
theorem natAbs_add_lt {i j : Int} {a : Nat} (ha : i.natAbs < 2 ^ a) (hb : j.natAbs < 2 ^ a) : (i + j).natAbs < 2 ^ (a + 1) := by
  have h : (i + j).natAbs ≤ i.natAbs + j.natAbs := Int.natAbs_add_le i j
  rw [Nat.pow_succ]
  omega
theorem fmod_pos {a b : Int} (hb : 0 < b) : a.fmod b = a % b := Int.fmod_eq_emod_of_nonneg a (by omega)
theorem fdiv_pos {a b : Int} (hb : 0 < b) : a.fdiv b = a / b := Int.fdiv_eq_ediv_of_nonneg a (by omega)
theorem szOk_of {n : Nat} (h : n ≤ 1000000) : szOk n = true := decide_eq_true (Nat.le_trans h (by decide))
theorem mulOk_l {i j : Int} (h : i.natAbs < 2 ^ 64) : mulOk i j = true := by
  unfold mulOk
  simp [h]
theorem mulOk_r {i j : Int} (h : j.natAbs < 2 ^ 64) : mulOk i j = true := by
  unfold mulOk
  simp [h]
@[simp] theorem storeG_nil {ft : D → SEn → Option SEn} {d : D} {se : SEn} : storeG ft [] d se = ft d se := by
  unfold storeG
  rw [demote_nil]
  split <;> rfl
@[simp] theorem storeV_nil {i : Nat} {d : D} {se : SEn} : storeV [] i d se = se.set i (some (d, false)) := by
  unfold storeV
  rw [demote_nil]
  split <;> rfl
/-! ### loops -/
def stepQ (P : SEn → Prop) (Q : SR → Prop) : SR → Prop
  | .next s => P s
  | .cnt s => P s
  | .brk s => Q (.next s)
  | r => Q r
theorem stepQ_next {P : SEn → Prop} {Q : SR → Prop} {r : SR} (s : SEn) (h : r = .next s) (p : P s) : stepQ P Q r := by
  subst h
  exact p
theorem stepQ_ret {P : SEn → Prop} {Q : SR → Prop} {r : SR} (d : D) (h : r = .ret d) (p : Q (.ret d)) : stepQ P Q r := by
  subst h
  exact p
theorem forD_rule {ft : D → SEn → Option SEn} {fb : SEn → SR} : ∀ {ds : List D} {se : SEn} {r : SR}, forD ft fb ds se = r → ∀ (P : Nat → SEn → Prop) (Q : SR → Prop), P 0 se →
    (∀ i d se, ds[i]? = some d → P i se → ∃ se1, ft d se = some se1 ∧ stepQ (P (i + 1)) Q (fb se1)) → (∀ se, P ds.length se → Q (.next se)) → Q r
  | [], se, r, h, P, Q, h0, _, hd => by
    cases h
    exact hd se h0
  | d :: ds, se, r, h, P, Q, h0, hs, hd => by
    obtain ⟨se1, e, q⟩ := hs 0 d se rfl h0
    unfold forD at h
    rw [e] at h
    dsimp only at h
    cases z : fb se1 with
    | next s =>
      rw [z] at h q
      exact forD_rule h (fun i => P (i + 1)) Q q (fun i d' se' hi hp => hs (i + 1) d' se' (by simpa using hi) hp) hd
    | cnt s =>
      rw [z] at h q
      exact forD_rule h (fun i => P (i + 1)) Q q (fun i d' se' hi hp => hs (i + 1) d' se' (by simpa using hi) hp) hd
    | brk s => rw [z] at h q; cases h; exact q
    | ret d => rw [z] at h q; cases h; exact q
    | ex c s => rw [z] at h q; cases h; exact q
    | no => rw [z] at h q; cases h; exact q
theorem whileD_rule {ft : SEn → R Bool} {fb : SEn → SR} {se : SEn} {r : SR} (h : whileD ft fb se = r) (P : SEn → Prop) (Q : SR → Prop) (μ : SEn → Nat) (h0 : P se)
    (hs : ∀ se, P se → ∃ k, ft se = .ok k ∧ (k = false → Q (.next se)) ∧ (k = true → stepQ (fun s => P s ∧ μ s < μ se) Q (fb se))) : Q r := by
  have go : ∀ n se r, μ se ≤ n → whileD ft fb se = r → P se → Q r := by
    intro n
    induction n with
    | zero =>
      intro se r hn h p
      obtain ⟨k, e, q1, q2⟩ := hs se p
      rw [whileD_step, e] at h
      cases k with
      | false => cases h; exact q1 rfl
      | true =>
        have q := q2 rfl
        simp only [SR.of_ok, if_true] at h
        cases z : fb se with
        | next s => rw [z] at q; have := q.2; omega
        | cnt s => rw [z] at q; have := q.2; omega
        | brk s => rw [z] at h q; cases h; exact q
        | ret d => rw [z] at h q; cases h; exact q
        | ex c s => rw [z] at h q; cases h; exact q
        | no => rw [z] at h q; cases h; exact q
    | succ n ih =>
      intro se r hn h p
      obtain ⟨k, e, q1, q2⟩ := hs se p
      rw [whileD_step, e] at h
      cases k with
      | false => cases h; exact q1 rfl
      | true =>
        have q := q2 rfl
        simp only [SR.of_ok, if_true] at h
        cases z : fb se with
        | next s => rw [z] at h q; exact ih s r (by have := q.2; omega) h q.1
        | cnt s => rw [z] at h q; exact ih s r (by have := q.2; omega) h q.1
        | brk s => rw [z] at h q; cases h; exact q
        | ret d => rw [z] at h q; cases h; exact q
        | ex c s => rw [z] at h q; cases h; exact q
        | no => rw [z] at h q; cases h; exact q
  exact go _ se r (Nat.le_refl _) h h0
theorem upFrom_get {lo : Int} {n i : Nat} {d : D} (h : (upFrom lo n)[i]? = some d) : i < n ∧ d = .int (lo + i) := by
  unfold upFrom at h
  rw [List.getElem?_map] at h
  cases q : (List.range n)[i]? with
  | none => rw [q] at h; cases h
  | some j =>
    rw [q] at h
    obtain ⟨h1, h2⟩ := List.getElem?_eq_some_iff.mp q
    simp at h1 h2
    subst h2
    cases h
    exact ⟨h1, rfl⟩
end Pu
namespace Pu
open PySem PySem.Spec PyProof.Rows L2
theorem runD_ret_ex {α : Type} {n : Nat} {f : SEn → SR} {ds : List D} {P Q : α → Prop} {k : α → D} (h : ∃ x, P x ∧ Q x ∧ f (startE n ds) = .ret (k x)) : ∃ x, P x ∧ Q x ∧ runD n f ds = .ok (k x) := by
  obtain ⟨x, p, q, e⟩ := h
  exact ⟨x, p, q, runD_ret e⟩
theorem runD_ret_ex1 {α : Type} {n : Nat} {f : SEn → SR} {ds : List D} {P : α → Prop} {k : α → D} (h : ∃ x, P x ∧ f (startE n ds) = .ret (k x)) : ∃ x, P x ∧ runD n f ds = .ok (k x) := by
  obtain ⟨x, p, e⟩ := h
  exact ⟨x, p, runD_ret e⟩
end Pu
namespace Pu
open PySem PySem.Spec PyProof.Rows L2
/-! ### try .. except C as e: a suite that asks what e is, and goes back -/
abbrev W0 : WX := fun _ _ _ _ => False
theorem takesN {X : Cx} : Takes X W0 := fun _ _ x => by
  obtain ⟨_, _, _, _, _, _, _, _, _, _, _, _, _, _, _, _, z⟩ := x
  exact z.elim
section
variable {g : G} {W : WX} {X : Cx} {i : Nat} {c x : Str} {pos p p2 np : Pos} {a b e : Expr} {es rest : List Expr} {fa fb fe : En → R D} {fs : En → R (List D)}
theorem Cok.suite (C : Cok g X W) (a : Addr) (pn : List (Addr × Obj)) : Cok { g with calm := false } (X.suite a pn) W0 :=
  ⟨C.prog, C.w, C.K, C.mg, C.base, C.N, C.sc, C.nd, rfl, (fun z => by cases z), C.units, takesN, PassesOwn.never, C.fn, C.top, (fun z => by cases z), C.high⟩
theorem Cok.tr (C : Cok g X W) {W' : WX} {pn : List (Addr × Obj)} {xe : Value → Shared → Prop} (tk : Takes (X.tr pn xe) W') (ps : PassesOwn (model X.prog X.w) X.A X.env xe) : Cok g (X.tr pn xe) W' :=
  ⟨C.prog, C.w, C.K, C.mg, C.base, C.N, C.sc, C.nd, C.calm, C.room, C.units, tk, ps, C.fn, C.top, C.deep, C.high⟩
/-- an expression of the suite: e's object at slot i, of the class x -/
def PurX (g : G) (i : Nat) (x : Str) (e : Expr) (f : En → R D) : Prop := ∀ X W, Cok g X W → ∀ cv, g.D.mg x = some cv → ∀ a oe pn, Zc cv none oe → (∃ vs, oe.data = .fields vs) → ∀ σ H F env (Q : VK), σ[i]? = some (some (.ref a)) →
  EnvOk g.D.K F σ H env → Wants g W0 σ H (f env) (relE g.D.K F H) Q → wE (X.suite a ((a, oe) :: pn)) e σ H Q
def PurXA (g : G) (i : Nat) (x : Str) (es : List Expr) (f : En → R (List D)) : Prop := ∀ X W, Cok g X W → ∀ cv, g.D.mg x = some cv → ∀ a oe pn, Zc cv none oe → (∃ vs, oe.data = .fields vs) → ∀ σ H F env (Q : List V → Hp → Prop), σ[i]? = some (some (.ref a)) →
  EnvOk g.D.K F σ H env → Wants g W0 σ H (f env) (relA g.D.K F H) Q → wA (X.suite a ((a, oe) :: pn)) es σ H Q
theorem purx_of (h : Pur { g with calm := false } e fe) : PurX g i x e fe := fun X W C cv _ a oe pn _ _ σ H F env Q _ E w => h (X.suite a ((a, oe) :: pn)) W0 (C.suite a _) σ H F env Q E w
theorem purxa_nil : PurXA g i x [] (fun _ => .ok []) := fun X W C cv _ a oe pn _ _ σ H F env Q _ E h => wA_of pa_nil (h _ H (Same.refl H) .nil)
theorem purxa_cons (he : PurX g i x e fe) (hr : PurXA g i x es fs) (hs : ∀ env, starEach (e :: es) env = (false, eval e env) :: starEach es env := by intro _; exact starEach_of rfl) :
    PurXA g i x (e :: es) (fun env => (fe env).bind fun d => (fs env).bind fun ds => .ok (d :: ds)) := by
  intro X W C cv hc a oe pn hz hf σ H F env Q hi E h
  refine wA_of (pa_cons pe_w pa_w (hs _)) ?_
  refine he X W C cv hc a oe pn hz hf σ H F env _ hi E (h.bind fun d v H1 _ e1 r1 h1 => ?_)
  refine hr X W C cv hc a oe pn hz hf σ H1 F env _ hi (E.mono e1 fun _ z => z) (h1.bind fun ds vs H2 _ e2 r2 h2 => ?_)
  exact h2 _ H2 (Same.refl H2) (.cons (Rp.mono e2 (fun _ z => z) r1) (RpA.mono (Same.refl H2) (Fx.back e1) r2))
theorem purx_lst (h : PurXA g i x es fs) : PurX g i x (.List es pos) (fun env => (fs env).bind fun ds => if szOk ds.length then .ok (.list ds) else .no) := by
  intro X W C cv hc a oe pn hz hf σ H F env Q hi E w
  refine wE_of (pe_lst pa_w) ?_
  refine h X W C cv hc a oe pn hz hf σ H F env _ hi E (w.bind fun ds vs H1 _ e1 r1 h1 => ?_)
  by_cases z : szOk ds.length = true
  · rw [if_pos z] at h1
    refine ⟨by rw [r1.length]; exact of_decide_eq_true z, fun q hn => h1 _ _ (Same.new hn) ?_⟩
    exact .lst (.inl ⟨.inl upd_same, .inr (e1.free hn)⟩) (RpA.mono (Same.new hn) (fun _ z => z) r1)
  · rw [if_neg z] at h1
    exact h1.elim
theorem purx_one {op : BoolOp} (ha : PurX g i x a fa) : PurX g i x (.BoolOp op [a] pos) fa := fun X W C cv hc a oe pn hz hf σ H F env Q hi E h => wE_of (pe_one pe_w) (ha X W C cv hc a oe pn hz hf σ H F env Q hi E h)
theorem purx_and (ha : PurX g i x a fa) (hb : PurX g i x (.BoolOp .And (b :: rest) pos) fb) : PurX g i x (.BoolOp .And (a :: b :: rest) pos) (fun env => (fa env).bind fun x => (truth x).bind fun k => if k then fb env else .ok x) := by
  intro X W C cv hc a oe pn hz hf σ H F env Q hi E h
  refine wE_of (pe_andT pe_w pe_w) ?_
  refine ha X W C cv hc a oe pn hz hf σ H F env _ hi E (h.bind fun x v H1 _ e1 r1 h1 => ?_)
  obtain ⟨c, t, _, h2⟩ := truth_step (g := { g with calm := false }) (C.suite a ((a, oe) :: pn)) r1 h1
  refine ⟨c, t, ?_⟩
  cases c with
  | true => exact hb X W C cv hc a oe pn hz hf σ H1 F env _ hi (E.mono e1 fun _ z => z) (h2.imp fun d v H' _ r => relE.lift e1 r)
  | false => exact h2 v H1 (Same.refl H1) r1
theorem purx_not (ha : PurX g i x a fa) : PurX g i x (.UnaryOp .Not a pos) (fun env => (fa env).bind fun x => (truth x).bind fun k => .ok (.bool (!k))) := by
  intro X W C cv hc a oe pn hz hf σ H F env Q hi E h
  refine wE_of (pe_notT pe_w) ?_
  refine ha X W C cv hc a oe pn hz hf σ H F env _ hi E (h.bind fun x v H1 _ e1 r1 h1 => ?_)
  obtain ⟨c, t, _, h2⟩ := truth_step (g := { g with calm := false }) (C.suite a ((a, oe) :: pn)) r1 h1
  exact ⟨c, t, h2 _ H1 (Same.refl H1) (.bl _)⟩
/-- what isinstance tells of an exception of the class x -/
def ExcI (D : Wd) (x c : Str) (b : Bool) : Prop := ∃ (Ce : Addr) (v : V) (u : Value), D.mg x = some (.ref Ce) ∧ ExcC D.K Ce ∧ RelV v u ∧ (∀ u', RelV v u' → u' = u) ∧ (D.mg c = some u ∨ (D.mg c = none ∧ bootBuiltins c = some u ∧ c ≠ "__name__")) ∧ PySem.W.kitOne D.K (.ref Ce) u = some b
theorem purx_isE {n : Str} {bb : Bool} (hI : ExcI g.D x c bb) (hm : g.D.mg "isinstance" = none) (hN : g.N[i]? = some n := by rfl) (hv : vis g.sc n = true := by rfl) (hg : gl g.sc "isinstance" = true := by rfl) (hgc : gl g.sc c = true := by rfl)
    (hd1 : (n == ("__debug__" : Str)) = false := by decide) (hd2 : (n == ("__classdict__" : Str)) = false := by decide) (hd3 : (c == ("__debug__" : Str)) = false := by decide) :
    PurX g i x (.Call (.Name "isinstance" p) [.Name n np, .Name c p2] [] pos) (fun _ => .ok (.bool bb)) := by
  intro X W C cv hc a oe pn hz hf σ H F env Q hi E h
  obtain ⟨Ce, v, u, hmx, EC, rv, ru, hmc, hk⟩ := hI
  rw [hmx] at hc
  cases hc
  have pc : PE (X.suite a ((a, oe) :: pn)) (.Name c p2) (tC v) := by
    rcases hmc with h | ⟨h, hb, hn⟩
    · exact pe_glob (gl_ok (C.suite a ((a, oe) :: pn)) hgc) (show X.mg c = _ by rw [C.mg]; exact h) rv hd3
    · exact pe_bltn (gl_ok (C.suite a ((a, oe) :: pn)) hgc) (show X.mg c = _ by rw [C.mg]; exact h) hb rv hn hd3
  refine wE_of (pe_callB (call_isE (by rw [C.K]; exact EC) hz hf) (gl_ok (C.suite a ((a, oe) :: pn)) hg) (show X.mg _ = _ by rw [C.mg]; exact hm) (by decide +kernel) (pa_cons (pe_var (i := i) (by rw [C.N]; exact hN) (show Vis X.env.scope n by rw [C.sc]; exact vis_ok hv) hd1 hd2) (pa_cons pc pa_nil))) ?_
  exact ⟨_, hi, v, u, bb, rfl, ru, by rw [C.K]; exact hk, h _ H (Same.refl H) (.bl _)⟩
/-- a suite -/
def Sui (g : G) (i : Nat) (x : Str) (sts : List Stmt) (f : SEn → SR) : Prop := ∀ X W, Cok g X W → ∀ cv, g.D.mg x = some cv → ∀ a oe pn, Zc cv none oe → (∃ vs, oe.data = .fields vs) → ∀ H0 F0 hs hd σ H se (N : Ends), σ[i]? = some (some (.ref a)) →
  SOk g H0 F0 hs hd σ H se → SEnds g W0 H0 F0 hs hd N (f se) → wB (X.suite a ((a, oe) :: pn)) sts N σ H
theorem of_wantsX {H0 : Hp} {F0 : Fp} {hs : List V} {hd : List D} {N : Ends} {σ : L2.St} {H : Hp} {se : SEn} {α β : Type} {r : R α} {k : α → SR} {rel : α → β → Hp → Prop} {Q : β → Hp → Prop} (s : SOk g H0 F0 hs hd σ H se) (h : SEnds g W0 H0 F0 hs hd N (SR.of r se k))
    (q : ∀ d v H1, r = .ok d → Same H H1 → rel d v H1 → SEnds g W0 H0 F0 hs hd N (k d) → Q v H1) : Wants g W0 σ H r rel Q := by
  cases r with
  | ok d => exact fun v H1 e r => q d v H1 rfl e r (by simpa using h)
  | ex c =>
    obtain ⟨F, s⟩ := s
    exact fun cv H' e hm => h cv σ H' hm ⟨F, s.same e⟩
  | no => exact h.elim
theorem sui_ret (m : List Nat) (he : PurX g i x e fe) : Sui g i x [.Return (some e) pos] (fun se => SR.of (fe (view m 0 se)) se fun d => .ret d) := by
  intro X W C cv hc a oe pn hz hf H0 F0 hs hd σ H se N hi ⟨F, s⟩ h
  refine wB_of (pss_one (ps_ret pe_w)) ?_
  exact he X W C cv hc a oe pn hz hf σ H _ _ _ hi (s.env (m := m)) (of_wantsX ⟨F, s⟩ h fun d v H1 _ e1 r1 h1 => h1 v H1 (s.ex.trans e1) (s.out e1 r1))
theorem sui_set (j : Nat) (m : List Nat) {y : Str} {sts : List Stmt} {f : SEn → SR} (he : PurX g i x e fe) (hr : Sui g i x sts f) (hij : j ≠ i := by decide) (hN : g.N[j]? = some y := by rfl) (hx : isLoc g.sc y = true := by rfl) (hB : g.B = true := by rfl)
    (hsw : ∀ env, swapsWith e (some (.Name y p)) pos.line env = pure false := by intro _; rfl) :
    Sui g i x (.Assign [.Name y p] e pos :: sts) (fun se => SR.of (fe (view m 0 se)) se fun d => f (storeV m j d se)) := by
  intro X W C cv hc a oe pn hz hf H0 F0 hs hd σ H se N hi ⟨F, s⟩ h
  refine wB_of (X := X.suite a ((a, oe) :: pn)) (pss_cons (ps_set (X := X.suite a ((a, oe) :: pn)) (i := j) C.nd (show X.N[j]? = some y by rw [C.N]; exact hN) (show L2.Loc X.env.scope y by rw [C.sc]; exact isLoc_ok hx) pe_w (hsw _) (.inl (C.fn hB y))) pss_w) ?_
  refine he X W C cv hc a oe pn hz hf σ H _ _ _ hi (s.env (m := m)) (of_wantsX ⟨F, s⟩ h fun d v H1 _ e1 r1 h1 => ?_)
  exact hr X W C cv hc a oe pn hz hf H0 F0 hs hd _ H1 _ N (by rw [List.getElem?_set_ne hij]; exact hi) (s.storeV e1 r1 j) h1
@[simp] def freeAt : Option (Option (D × Bool)) → Bool
  | some none => true
  | _ => false
@[simp] def SR.gone (i : Nat) : SR → SR
  | .next s => .next (s.set i none)
  | .ret d => .ret d
  | _ => .no
/-- an exception of one of the classes is taken -/
@[simp] def SR.take (xs : List Str) (i : Nat) (f : Str → SEn → SR) : SR → SR
  | .ex x s => if xs.contains x && freeAt (s[i]?) then SR.gone i (f x s) else .no
  | r => r
/-- the class x is taken by the clause of c -/
def ExcT (D : Wd) (x c : Str) : Prop := ∃ u v : Value, D.mg x = some u ∧ (D.mg c = some v ∨ (D.mg c = none ∧ bootBuiltins c = some v ∧ c ≠ "__name__")) ∧ PySem.W.exmOne D.K u v = some true
theorem SOf.exc {H0 : Hp} {F0 : Fp} {hs : List V} {hd : List D} {σ : L2.St} {H : Hp} {se : SEn} {F : Fp} (s : SOf g H0 F0 hs hd σ H se F) (h : se[i]? = some none) (v : Option V) : SOf g H0 F0 hs hd (σ.set i v) H se F where
  ex := s.ex
  sub := s.sub
  live := s.live
  len := by rw [List.length_set]; exact s.len
  ent := fun j d' q => by
    have hne : j ≠ i := fun z => by subst z; rw [h] at q; cases q
    rw [List.getElem?_set_ne (Ne.symm hne)]
    exact s.ent j d' q
  own := fun j d' q => by
    have hne : j ≠ i := fun z => by subst z; rw [h] at q; cases q
    rw [List.getElem?_set_ne (Ne.symm hne)]
    exact s.own j d' q
  dist := fun j k d' e' h1 h2 h3 => by
    have hj : j ≠ i := fun z => by subst z; rw [h] at h1; cases h1
    have hk : k ≠ i := fun z => by subst z; rw [h] at h2; cases h2
    rw [List.getElem?_set_ne (Ne.symm hj), List.getElem?_set_ne (Ne.symm hk)] at h3
    exact s.dist j k d' e' h1 h2 h3
  hid := s.hid
theorem SOf.unset {H0 : Hp} {F0 : Fp} {hs : List V} {hd : List D} {σ : L2.St} {H : Hp} {se : SEn} {F : Fp} (s : SOf g H0 F0 hs hd σ H se F) (i : Nat) : SOf g H0 F0 hs hd (σ.set i none) H (se.set i none) F where
  ex := s.ex
  sub := s.sub
  live := s.live
  len := by rw [List.length_set, List.length_set]; exact s.len
  ent := fun j d' q => by
    rcases get_set q with ⟨_, e, _⟩ | ⟨hne, q⟩
    · cases e
    · rw [List.getElem?_set_ne (Ne.symm hne)]
      exact s.ent j d' q
  own := fun j d' q => by
    rcases get_set q with ⟨_, e, _⟩ | ⟨hne, q⟩
    · cases e
    · rw [List.getElem?_set_ne (Ne.symm hne)]
      exact s.own j d' q
  dist := fun j k d' e' h1 h2 h3 => by
    rcases get_set h1 with ⟨_, e, _⟩ | ⟨hj, h1⟩
    · cases e
    rcases get_set h2 with ⟨_, e, _⟩ | ⟨hk, h2⟩
    · cases e
    rw [List.getElem?_set_ne (Ne.symm hj), List.getElem?_set_ne (Ne.symm hk)] at h3
    exact s.dist j k d' e' h1 h2 h3
  hid := s.hid
theorem names_ok {X : Cx} {W : WX} (C : Cok g X W) {v : Value} (hg : gl g.sc c = true) (hd : (c == ("__debug__" : Str)) = false) (h : g.D.mg c = some v ∨ (g.D.mg c = none ∧ bootBuiltins c = some v ∧ c ≠ "__name__")) : Names X c v :=
  ⟨gl_ok C hg, hd, by rw [C.mg]; exact h⟩
theorem isLoc_kind {X : Cx} {W : WX} {n : Str} (C : Cok g X W) (h : g.sc.names.lookup n = some .local) : X.env.kindOf n = some .local := by
  show X.env.scope.names.lookup n = _
  rw [C.sc]
  exact h
theorem pus_tryAs (i : Nat) (xs : List Str) {n : Str} {pos' : Pos} {body suite : List Stmt} {b₀ : Stmt} {fb : SEn → SR} {f : Str → SEn → SR} (hb : PurB g body fb) (hs : ∀ x ∈ xs, ExcT g.D x c ∧ Sui g i x (b₀ :: suite) (f x)) (hx0 : xs ≠ [] := by decide) (hN : g.N[i]? = some n := by rfl) (hl : g.sc.names.lookup n = some .local := by rfl)
    (hgc : gl g.sc c = true := by rfl) (hd3 : (c == ("__debug__" : Str)) = false := by decide) (hB : g.B = true := by rfl) :
    PurS g (.Try body [.ExceptHandler (some (.Name c np)) (some n) (b₀ :: suite) pos'] [] [] pos) (fun se => SR.take xs i f (fb se)) := by
  intro X W C H0 F0 hs0 hd σ H se N s h
  obtain ⟨t1, t2⟩ := C.top hB
  obtain ⟨x0, hx0'⟩ := List.exists_mem_of_ne_nil xs hx0
  obtain ⟨⟨_, v, _, hcv, _⟩, _⟩ := hs x0 hx0'
  have one : ∀ x ∈ xs, ∀ cv, g.D.mg x = some cv → PySem.W.exmOne X.K cv v = some true := fun x hx cv e => by
    obtain ⟨⟨u, v', h1, h2, h3⟩, _⟩ := hs x hx
    rw [h1] at e
    cases e
    have : v' = v := by
      rcases hcv with h | ⟨h, hb, _⟩ <;> rcases h2 with h' | ⟨h', hb', _⟩ <;> rw [h] at h' <;> try cases h'
      · rfl
      · rw [hb] at hb'; cases hb'; rfl
    subst this
    rw [C.K]
    exact h3
  refine wS_of (ps_try_as (i := i) (tb := fun W' => fun D' σ' H' => ∃ W1, W1 = W' ∧ ∀ pn xe, Takes (X.tr pn xe) W1 → PassesOwn (model X.prog X.w) X.A X.env xe → wB (X.tr pn xe) body D' σ' H') (ts := fun a cls d D' σ' H' => ∀ oe pn, Zc cls d oe → (∃ vs, oe.data = .fields vs) → wB (X.suite a ((a, oe) :: pn)) (b₀ :: suite) D' σ' H') (Wout := W)
    t1 t2 C.nd (by rw [C.N]; exact hN) (isLoc_kind C hl) (names_ok C hgc hd3 hcv) C.takes
    (fun W' pn xe tk ps => ⟨fun pins s1 σ1 H1 D1 I q => by
      obtain ⟨W1, rfl, q⟩ := q
      exact pss_w.run pins s1 σ1 H1 D1 I (q pn xe tk ps)⟩)
    (fun a oe cls d pn hz hf => ⟨fun pins s1 σ1 H1 D1 I q => pss_w.run pins s1 σ1 H1 D1 I (q oe pn hz hf)⟩)) ?_
  refine ⟨_, rfl, fun pn xe tk ps => hb _ _ (C.tr tk ps) H0 F0 hs0 hd σ H se N s ?_⟩
  dsimp only at h
  cases q : fb se with
  | next s' => rw [q] at h; exact h
  | ret d => rw [q] at h; exact h
  | brk s' => rw [q] at h; exact h
  | cnt s' => rw [q] at h; exact h
  | no => rw [q] at h; exact h
  | ex x s' =>
    rw [q] at h
    dsimp only [SR.take] at h
    by_cases z : (xs.contains x && freeAt (s'[i]?)) = true
    · rw [if_pos z] at h
      rw [Bool.and_eq_true] at z
      have hx : x ∈ xs := by simpa using z.1
      have hfr : s'[i]? = some none := by
        have := z.2
        unfold freeAt at this
        split at this
        · assumption
        · cases this
      intro cv σ1 H1 hcx ⟨F1, s1⟩
      refine ⟨true, one x hx cv hcx, fun _ a na oe pn hz hf => ?_, fun z => by cases z⟩
      have hlt : i < σ1.length := by
        rw [s1.len]
        exact (List.getElem?_eq_some_iff.mp hfr).1
      refine (hs x hx).2 X W C cv hcx a oe pn hz hf H0 F0 hs0 hd _ H1 s' _ (List.getElem?_set_self hlt) ⟨F1, s1.exc hfr _⟩ ?_
      cases q2 : f x s' with
      | next s2 =>
        rw [q2] at h
        exact fun σ2 H2 ⟨F2, k⟩ => h _ _ ⟨F2, k.unset i⟩
      | ret d => rw [q2] at h; exact h
      | brk s2 => rw [q2] at h; exact h.elim
      | cnt s2 => rw [q2] at h; exact h.elim
      | ex _ s2 => rw [q2] at h; exact h.elim
      | no => rw [q2] at h; exact h
    · rw [if_neg z] at h
      exact h.elim
end
end Pu
namespace Pu
open PySem PySem.Spec PyProof.Rows L2
section
variable {g : G} {c : Str} {pos np : Pos}
theorem pus_tryAs1 (i : Nat) (x : Str) {n : Str} {pos' : Pos} {body suite : List Stmt} {b₀ : Stmt} {fb f : SEn → SR} (hb : PurB g body fb) (ht : ExcT g.D x c) (hs : Sui g i x (b₀ :: suite) f) (hN : g.N[i]? = some n := by rfl) (hl : g.sc.names.lookup n = some .local := by rfl)
    (hgc : gl g.sc c = true := by rfl) (hd3 : (c == ("__debug__" : Str)) = false := by decide) (hB : g.B = true := by rfl) :
    PurS g (.Try body [.ExceptHandler (some (.Name c np)) (some n) (b₀ :: suite) pos'] [] [] pos) (fun se => SR.take [x] i (fun _ => f) (fb se)) :=
  pus_tryAs i [x] hb (fun y hy => by cases List.mem_singleton.mp hy; exact ⟨ht, hs⟩) (by simp) hN hl hgc hd3 hB
theorem SOf.calm {b : Bool} {H0 : Hp} {F0 : Fp} {hs : List V} {hd : List D} {σ : L2.St} {H : Hp} {se : SEn} {F : Fp} (s : SOf g H0 F0 hs hd σ H se F) : SOf { g with calm := b } H0 F0 hs hd σ H se F := ⟨s.ex, s.sub, s.live, s.len, s.ent, s.own, s.dist, s.hid⟩
theorem SOf.uncalm {b : Bool} {H0 : Hp} {F0 : Fp} {hs : List V} {hd : List D} {σ : L2.St} {H : Hp} {se : SEn} {F : Fp} (s : SOf { g with calm := b } H0 F0 hs hd σ H se F) : SOf g H0 F0 hs hd σ H se F := ⟨s.ex, s.sub, s.live, s.len, s.ent, s.own, s.dist, s.hid⟩
/-- an exception of one of the classes is taken, with no name -/
@[simp] def SR.takeN (xs : List Str) (f : SEn → SR) : SR → SR
  | .ex x s => if xs.contains x then f s else .no
  | r => r
theorem pus_tryOnly (xs : List Str) {pos' : Pos} {body suite : List Stmt} {b₀ : Stmt} {fb f : SEn → SR} (hb : PurB g body fb) (ht : ∀ x ∈ xs, ExcT g.D x c) (hs : PurB { g with calm := false } (b₀ :: suite) f) (hnx : ∀ se x s, f se ≠ .ex x s) (hx0 : xs ≠ [] := by simp)
    (hgc : gl g.sc c = true := by rfl) (hd3 : (c == ("__debug__" : Str)) = false := by decide) (hB : g.B = true := by rfl) :
    PurS g (.Try body [.ExceptHandler (some (.Name c np)) none (b₀ :: suite) pos'] [] [] pos) (fun se => SR.takeN xs f (fb se)) := by
  intro X W C H0 F0 hs0 hd σ H se N s h
  obtain ⟨t1, t2⟩ := C.top hB
  obtain ⟨x0, hx0'⟩ := List.exists_mem_of_ne_nil xs hx0
  obtain ⟨_, v, _, hcv, _⟩ := ht x0 hx0'
  have one : ∀ x ∈ xs, ∀ cv, g.D.mg x = some cv → PySem.W.exmOne X.K cv v = some true := fun x hx cv e => by
    obtain ⟨u, v', h1, h2, h3⟩ := ht x hx
    rw [h1] at e
    cases e
    have : v' = v := by
      rcases hcv with h | ⟨h, hb, _⟩ <;> rcases h2 with h' | ⟨h', hb', _⟩ <;> rw [h] at h' <;> try cases h'
      · rfl
      · rw [hb] at hb'; cases hb'; rfl
    subst this
    rw [C.K]
    exact h3
  refine wS_of (ps_try_only (tb := fun W' => fun D' σ' H' => ∃ W1, W1 = W' ∧ ∀ pn xe, Takes (X.tr pn xe) W1 → PassesOwn (model X.prog X.w) X.A X.env xe → wB (X.tr pn xe) body D' σ' H') (ts := fun a cls d D' σ' H' => ∀ oe pn, Zc cls d oe → (∃ vs, oe.data = .fields vs) → wB (X.suite a ((a, oe) :: pn)) (b₀ :: suite) D' σ' H') (Wout := W)
    t1 t2 (names_ok C hgc hd3 hcv) C.takes
    (fun W' pn xe tk ps => ⟨fun pins s1 σ1 H1 D1 I q => by
      obtain ⟨W1, rfl, q⟩ := q
      exact pss_w.run pins s1 σ1 H1 D1 I (q pn xe tk ps)⟩)
    (fun a oe cls d pn hz hf => ⟨fun pins s1 σ1 H1 D1 I q => pss_w.run pins s1 σ1 H1 D1 I (q oe pn hz hf)⟩)) ?_
  refine ⟨_, rfl, fun pn xe tk ps => hb _ _ (C.tr tk ps) H0 F0 hs0 hd σ H se N s ?_⟩
  dsimp only at h
  cases q : fb se with
  | next s' => rw [q] at h; exact h
  | ret d => rw [q] at h; exact h
  | brk s' => rw [q] at h; exact h
  | cnt s' => rw [q] at h; exact h
  | no => rw [q] at h; exact h
  | ex x s' =>
    rw [q] at h
    dsimp only [SR.takeN] at h
    by_cases z : xs.contains x = true
    · rw [if_pos z] at h
      have hx : x ∈ xs := by simpa using z
      intro cv σ1 H1 hcx ⟨F1, s1⟩
      refine ⟨true, one x hx cv hcx, fun _ a na oe pn hz hf => ?_, fun z => by cases z⟩
      refine hs (X.suite a ((a, oe) :: pn)) W0 (C.suite a _) H0 F0 hs0 hd _ H1 s' _ ⟨F1, s1.calm⟩ ?_
      cases q2 : f s' with
      | next s2 => rw [q2] at h; exact fun σ2 H2 ⟨F2, k⟩ => h σ2 H2 ⟨F2, k.uncalm⟩
      | ret d => rw [q2] at h; exact h
      | brk s2 => rw [q2] at h; exact fun σ2 H2 ⟨F2, k⟩ => h σ2 H2 ⟨F2, k.uncalm⟩
      | cnt s2 => rw [q2] at h; exact fun σ2 H2 ⟨F2, k⟩ => h σ2 H2 ⟨F2, k.uncalm⟩
      | ex y s2 => exact absurd q2 (hnx _ _ _)
      | no => rw [q2] at h; exact h
    · rw [if_neg z] at h
      exact h.elim
theorem pus_tryOnly1 (x : Str) {pos' : Pos} {body suite : List Stmt} {b₀ : Stmt} {fb f : SEn → SR} (hb : PurB g body fb) (ht : ExcT g.D x c) (hs : PurB { g with calm := false } (b₀ :: suite) f) (hf : ∀ se x s, f se ≠ .ex x s := by intros; first | (intro q; cases q; done) | simp)
    (hgc : gl g.sc c = true := by rfl) (hd3 : (c == ("__debug__" : Str)) = false := by decide) (hB : g.B = true := by rfl) :
    PurS g (.Try body [.ExceptHandler (some (.Name c np)) none (b₀ :: suite) pos'] [] [] pos) (fun se => SR.takeN [x] f (fb se)) :=
  pus_tryOnly [x] hb (fun y hy => by cases List.mem_singleton.mp hy; exact ht) hs hf (by simp) hgc hd3 hB
end
end Pu
namespace Pu
open PySem PySem.Spec PyProof.Rows L2
/-! ### the law's end -/
/-- the law's def tells True of every script -/
def LawOk (D : Wd) (k : Nat) (x : Str) (st : Stmt) (par : Str) : Prop := ∃ Fn : List PyData → R PyData, (∀ f fd, Fun D.K x x st f fd → FnOk D.P D.w D.K D.mg D.base (L2.CX D.P D.w) k f fd [par] (spF D 1 Fn)) ∧
  ∀ ks : List Int, ks.length ≤ 63 → Fn [.list (ks.map .int)] = .ok (.bool true)
theorem law_of {D : Wd} {k : Nat} {x par : Str} {st : Stmt} {N : List Str} {fb : SEn → SR} (S : FnScope N [par] (defScope st)) (hbody : PurB ⟨D, N, defScope st, k, true, true⟩ (defBody st) fb)
    (h : ∀ ks : List Int, ks.length ≤ 63 → runD N.length fb [.list (ks.map .int)] = .ok (.bool true)) (hk : 32 ≤ k := by decide) : LawOk D (k + 1) x st par := ⟨_, fun _ _ Fu => fn_okAt Fu S rfl hbody hk, h⟩
def spLaw (K : PySem.W.Frag) : Sp := fun vs H Q _ => ∃ (a : Addr) (ks : List Int), vs = [.ref a] ∧ ks.length ≤ 63 ∧ SqL K H a (ks.map V.int) ∧ ∀ H', Q (.bl true) H'
theorem rpa_ints {K : PySem.W.Frag} {H : Hp} {F : Fp} : ∀ ks : List Int, RpA K H F (ks.map V.int) (ks.map .int)
  | [] => .nil
  | k :: r => .cons (.int k) (rpa_ints r)
theorem LawOk.fn {D : Wd} {k : Nat} {x par : Str} {st : Stmt} {f : Addr} {fd : FuncData} (L : LawOk D k x st par) (Fu : Fun D.K x x st f fd) : FnOk D.P D.w D.K D.mg D.base (L2.CX D.P D.w) k f fd [par] (spLaw D.K) := by
  obtain ⟨Fn, ok, h⟩ := L
  refine (ok f fd Fu).imp fun vs H Q E q => ?_
  obtain ⟨a, ks, rfl, hl, hs, hq⟩ := q
  refine ⟨rfl, [.list (ks.map .int)], fun _ => True, .cons (.lst ?_ (rpa_ints ks)) .nil, ?_⟩
  · rcases hs with hs | hs
    · exact .inl ⟨hs, trivial⟩
    · exact .inr hs
  · rw [h ks hl]
    intro v H' _ r
    cases r
    exact hq H'
/-- what stands of the heap without what is tracked: nothing but one list is tracked -/
theorem seer_hid {h : Heap} {H : Hp} {a : Addr} {d : Data} (N : h.NoSeer) (oa : h.get? a = some { cls := .type "list", data := d }) (hd : ∀ es n, d ≠ .dict es n) (hA : ∀ b, H b ≠ none → b = a) : (hidT h H).NoSeer := by
  have up : ∀ {b : Addr} {o : Obj}, h.get? b = some o → (o.cls ≠ .type "list" ∨ ∃ es n, o.data = .dict es n) → (hidT h H).get? b = some o := fun {b o} e n => by
    refine hidT_get e (Decidable.byContradiction fun hb => ?_)
    obtain rfl := hA b hb
    rw [oa] at e
    cases e
    rcases n with n | ⟨es, k, n⟩
    · exact n rfl
    · exact hd _ _ n
  have ns : ∀ {b : Addr} {m : Str → Option Value}, h.Ns b m → (hidT h H).Ns b m := fun x =>
    let ⟨o, es, ep, e, d, r⟩ := x
    ⟨o, es, ep, up e (.inr ⟨_, _, d⟩), d, r⟩
  constructor
  · obtain ⟨m, x, y⟩ := N.statics
    exact ⟨m, ns x, y⟩
  · obtain ⟨m, x, y⟩ := N.mods
    exact ⟨m, ns x, y⟩
  · obtain ⟨m, x, y⟩ := N.imp
    exact ⟨m, ns x, y⟩
  · obtain ⟨m, bm, ob, x, y, z, c, e⟩ := N.main
    exact ⟨m, bm, ob, ns x, y, up z (.inl (by rw [c]; decide)), c, e⟩
section
variable {P : Program} {w : World} {K : PySem.W.Frag} {mg mb : Str → Option Value} {k : Nat} {fa a : Addr} {fd : FuncData} {x : Str} {t : Shared} {us : List Value} {ks : List Int}
/-- the script's abstract heap: nothing, where the list is one of the module's own -/
theorem script_hp (KX : K.In t.heap) (oa : t.heap.get? a = some { cls := .type "list", data := .seq us.toArray }) (ia : IntsAre us ks) (la : ks.length ≤ 63) :
    ∃ H : Hp, Only H ∧ SqL K H a (ks.map V.int) ∧ HOk P w H t.heap ∧ (∀ b, H b ≠ none → b = a) ∧ (H a ≠ none → K.lookup a = none) := by
  have va : Vals (ks.map V.int) us := vals_ints ia
  have ll : ks.length ≤ sizeLine := Nat.le_trans la (by decide)
  have lu := ia.length
  rcases q : K.lookup a with _ | o
  · refine ⟨fun b => if b = a then some (.frz { cls := .type "list", data := .seq us.toArray } (.lst (ks.map V.int))) else none, ?_, .inl (.inr ⟨_, if_pos rfl⟩), ?_, ?_, fun _ => rfl⟩
    · intro b
      rcases Decidable.em (b = a) with h | h
      · exact .inr ⟨_, _, if_pos h⟩
      · exact .inl (if_neg h)
    · intro b u hu
      dsimp only at hu
      rcases Decidable.em (b = a) with h | h
      · rw [if_pos h] at hu
        cases hu
        rw [h]
        exact ⟨oa, by rw [List.length_map]; exact ll, us, _, va, oa⟩
      · rw [if_neg h] at hu
        cases hu
    · intro b hb
      exact Decidable.byContradiction fun h => hb (if_neg h)
  · have e := (KX a o q).symm.trans oa
    cases e
    refine ⟨fun _ => none, fun _ => .inl rfl, .inr ⟨_, us.toArray, _, q, rfl, rfl, rfl, by rw [List.size_toArray, lu]; exact ll, by simpa using va⟩, ?_, ?_, ?_⟩
    · intro b u hu
      cases hu
    · intro b hb
      exact absurd rfl hb
    · intro hb
      exact absurd rfl hb
theorem law_runS (KX : K.In t.heap) (n1 : t.heap.Ns mainGlobals mg) (n2 : t.heap.Ns builtinsNs mb) (n3 : ∀ y : Str, y ≠ "__name__" → mb y = bootBuiltins y) (n4 : t.heap.NoLimit) (n5 : t.heap.NoSeer) (g0 : t.gens = #[])
    (oa : t.heap.get? a = some { cls := .type "list", data := .seq us.toArray }) (ia : IntsAre us ks) (la : ks.length ≤ 63) (R : Room k callerA) (bi : ∀ (s : Shared) (u : Value), BindsTo s fd ⟨[u], []⟩ [(x, u)])
    (F : ∀ base : Heap, K.In base → base.Ns mainGlobals mg → base.NoSeer → FnOk P w K mg base (L2.CX P w) k fa fd [x] (spLaw K)) :
    codeAny (model P w) callerA (.call (.ref fa) ⟨[.ref a], []⟩) (fun r t' => r = .ok (.ret (.bool true)) ∧ OldK t.heap t'.heap ∧ t'.os = t.os ∧ AllBare t'.gens) t := by
  obtain ⟨H, hO, hS, hok, hA, hK⟩ := script_hp (P := P) (w := w) KX oa ia la
  have stay : ∀ {b : Addr} {o : Obj} {es : Array DictEntry} {n : Nat}, t.heap.get? b = some o → o.data = .dict es n → (hidT t.heap H).get? b = some o := fun {b o es n} e d => by
    refine hidT_get e (Decidable.byContradiction fun hb => ?_)
    obtain rfl := hA b hb
    rw [oa] at e
    cases e
    cases d
  have ns : ∀ {b : Addr} {m : Str → Option Value}, t.heap.Ns b m → (hidT t.heap H).Ns b m := fun y =>
    let ⟨o, es, ep, e, d, r⟩ := y
    ⟨o, es, ep, stay e d, d, r⟩
  have kb : K.In (hidT t.heap H) := fun b o e => by
    refine hidT_get (KX b o e) (Decidable.byContradiction fun hb => ?_)
    obtain rfl := hA b hb
    rw [hK hb] at e
    cases e
  have seer := seer_hid (H := H) n5 oa (fun _ _ z => by cases z) hA
  have E : Env0 P w K mg (hidT t.heap H) callerA [] t H := by
    refine ⟨rfl, ⟨kb, ns n1, ⟨mb, ns n2, n3⟩, ?_⟩, fun b o e => of_hidT e, Nat.le_of_eq (hidT_size _ _), trivial, fun b hb => (by cases hb), hok, .of_eq g0⟩
    obtain ⟨m, y, z⟩ := n4
    exact ⟨m, ns y, z⟩
  have G := (F _ kb (ns n1) seer).run callerA [] t H ⟨[.ref a], []⟩ [.ref a] [.ref a] (fun v _ => v = .bl true) (fun _ _ _ => False) R E (bi t (.ref a)) (.cons rfl .nil) ⟨a, ks, rfl, la, hS, fun _ => rfl⟩
  refine codeAny_mono G fun r t' h => ?_
  rcases r with e | r
  · obtain ⟨_, _, _, _, _, _, _, _, _, _, _, _, z⟩ := h
    exact z.elim
  · cases r with
    | ret u =>
      obtain ⟨v, H', hos, bare, un, hok', rel, q⟩ := h
      have q' : v = .bl true := q
      rw [q'] at rel
      have ru : u = Value.bool true := rel
      rw [ru]
      refine ⟨rfl, .of_keep ?_, hos, bare⟩
      intro b o e
      rcases hO b with n | ⟨ob, zs, n⟩
      · exact un.keep b o e n (fun z => by cases z) (fun z => by cases z)
      · have h1 := (hok b _ n).1
        have h2 := (hok' b _ (un.frzs b ob _ n)).1
        rw [e] at h1
        cases h1
        exact h2
    | next => exact False.elim h
    | brk => exact False.elim h
    | cont => exact False.elim h
end
theorem walk_law {l : PySem.W.OpenLaw} {k : Nat} {q : Program} {loose : List Str} {XP : (Str → Option Value) → Heap → Prop} {YP : World → Heap → Prop} {d : DefRec} {K : Params → PySem.W.Frag} {x : Str} (hn : l.most = some 63) (hdf : d.params.defaults = []) (hr : Room k callerA)
    (hi : importsNone q = true) (hT : l.prog.given.tree = none) (hY : ∀ (w : World) (h : Heap), YP w h → (K w.params).In h)
    (F : ∀ (w : World) (mg : Str → Option Value) (fa : Addr) (h : Heap), (K w.params).In h → h.Ns mainGlobals mg → mg d.name = some (.ref fa) →
      ∃ fd : FuncData, (∀ (s : Shared) (u : Value), BindsTo s fd ⟨[u], []⟩ [(x, u)]) ∧ ∀ base : Heap, (K w.params).In base → base.Ns mainGlobals mg → base.NoSeer → l.prog.given.tree = none → FnOk l.prog w (K w.params) mg base (L2.CX l.prog w) k fa fd [x] (spLaw (K w.params))) :
    PySem.W.WalkO q loose XP YP l.row.toRowW d [] (fun f vs => PySem.call f vs) := by
  refine Att.attach_call hn hdf ?_
  intro w _ t mg mb fa _ _ _ _ a us ks G Y _ _ _ mf oa ia la g0
  obtain ⟨fd, bi, f⟩ := F w mg fa _ (hY w _ Y) G.T.g mf
  exact law_runS (hY w _ Y) G.T.g G.T.b G.T.builtins G.T.nolimit (G.T.seer hi) g0 oa ia la hr bi fun base b1 b2 b3 => f base b1 b2 b3 hT
/-! facts -/
section
variable {D : Wd} {h : Heap}
theorem defOk_mk {x : Str} {st : Stmt} {ps : List Str} {f : Addr} {fd : FuncData} (Fu : Fun D.K x x st f fd) (hm : D.mg x = some (.ref f)) (hb : Binds D.K fd ps []) : DefOk D x st ps := ⟨f, fd, Fu, hm, hb⟩
theorem excOk_mk {x : Str} {C : Addr} (hm : D.mg x = some (.ref C)) (h1 : PySem.W.excIn D.K C [.type "ValueError", .type "Exception", .type "BaseException", .type "object"] "ValueError.__new__" = true) (h2 : PySem.W.keepIn D.K (.ref C) = true)
    (h3 : PySem.W.subIn D.K (.ref C) (.type "BaseException") = some true) (h4 : PySem.W.typeIn D.K (.ref C) = some (.type "type")) : ExcOk D x := ⟨C, hm, h1, h2, h3, h4⟩
theorem excT_mk {x c : Str} {C E : Addr} (hx : D.mg x = some (.ref E)) (hc : D.mg c = some (.ref C)) (h1 : PySem.W.subIn D.K (.ref C) (.type "BaseException") = some true) (h2 : PySem.W.hasDictIn D.K C = true) (h3 : PySem.W.typeIn D.K (.ref C) = some (.type "type"))
    (h4 : PySem.W.subIn D.K (.ref E) (.ref C) = some true) : ExcT D x c := ⟨_, _, hx, .inl hc, PySem.W.exm_ref h1 h2 h3 h4⟩
theorem excI_self {x : Str} {E : Addr} (hx : D.mg x = some (.ref E)) (hE : ExcC D.K E) : ExcI D x x true := by
  refine ⟨E, .ref E, _, hx, hE, rfl, fun u h => h, .inl hx, ?_⟩
  unfold PySem.W.kitOne
  rw [if_pos (by simp)]
theorem excI_ref {x c : Str} {E C : Addr} {b : Bool} (hx : D.mg x = some (.ref E)) (hE : ExcC D.K E) (hc : D.mg c = some (.ref C)) (h1 : PySem.W.isClsIn D.K C = true) (h2 : PySem.W.typeIn D.K (.ref C) = some (.type "type")) (h3 : PySem.W.subIn D.K (.ref E) (.ref C) = some b)
    (h4 : PySem.W.subIn D.K (.ref C) (.ref C) = some true) : ExcI D x c b := by
  refine ⟨E, .ref C, _, hx, hE, rfl, fun u h => h, .inl hc, ?_⟩
  unfold PySem.W.kitOne
  split
  · rename_i z
    have e : Value.ref E = Value.ref C := beq_iff_eq.mp z
    rw [e, h4] at h3
    exact h3
  · unfold PySem.W.kitCls
    have h1' : (PySem.W.clsIn D.K C).isSome = true := h1
    dsimp only
    rw [h1', h2, if_pos (by decide)]
    exact h3
theorem excI_ty {x : Str} {E : Addr} {T : String} {b : Bool} (hx : D.mg x = some (.ref E)) (hE : ExcC D.K E) (hc : D.mg (Str.ofString T) = none) (hb : bootBuiltins (Str.ofString T) = some (.type T)) (hn : Str.ofString T ≠ "__name__") (hk : PySem.W.kitMeta T = true)
    (h3 : PySem.W.subIn D.K (.ref E) (.type T) = some b) : ExcI D x (Str.ofString T) b := by
  refine ⟨E, .ty T, _, hx, hE, rfl, fun u h => h, .inr ⟨hc, hb, hn⟩, ?_⟩
  unfold PySem.W.kitOne
  rw [if_neg (by intro z; cases beq_iff_eq.mp z)]
  unfold PySem.W.kitCls
  dsimp only
  rw [if_pos hk]
  exact h3
theorem const_int {x : Str} {i : Int} (hm : ∃ t, D.mg x = some (.int i t)) : Const D x (.int i) := by
  obtain ⟨t, h⟩ := hm
  exact ⟨.int i, _, h, ⟨t, rfl⟩, fun _ _ => .int i⟩
end
end Pu
namespace Pu
open PySem PySem.Spec PyProof.Rows L2
/-! ### list comprehensions -/
def wipeE (env : En) : List Nat → En
  | [] => env
  | v :: vs => (wipeE env vs).set v none
theorem wipeE_ok {K : PySem.W.Frag} {F : Fp} {σ : L2.St} {H : Hp} {env : En} (E : EnvOk K F σ H env) : ∀ vs : List Nat, EnvOk K F (wipe σ vs) H (wipeE env vs)
  | [] => E
  | v :: vs => fun i d h => by
    unfold wipeE at h
    rcases get_set h with ⟨_, e, _⟩ | ⟨hne, h⟩
    · cases e
    · obtain ⟨u, h1, h2⟩ := wipeE_ok E vs i d h
      unfold wipe
      exact ⟨u, by rw [List.getElem?_set_ne (Ne.symm hne)]; exact h1, h2⟩
theorem wipe_setI {σ : L2.St} {i : Nat} {x : Option V} : ∀ {vs : List Nat}, i ∈ vs → wipe (σ.set i x) vs = wipe σ vs
  | v :: vs, h => by
    unfold wipe
    by_cases hv : i ∈ vs
    · rw [wipe_setI hv]
    · have e : i = v := by
        rcases List.mem_cons.mp h with h | h
        · exact h
        · exact absurd h hv
      subst e
      apply List.ext_getElem?
      intro j
      by_cases hj : j = i
      · subst hj
        by_cases hl : j < σ.length
        · rw [List.getElem?_set_self (by rw [wipe_length, List.length_set]; exact hl), List.getElem?_set_self (by rw [wipe_length]; exact hl)]
        · rw [List.getElem?_eq_none (by rw [List.length_set, wipe_length, List.length_set]; omega), List.getElem?_eq_none (by rw [List.length_set, wipe_length]; omega)]
      · rw [List.getElem?_set_ne (Ne.symm hj), List.getElem?_set_ne (Ne.symm hj)]
        by_cases hjv : j ∈ vs
        · have : ∀ (σ : L2.St), (wipe σ vs)[j]? = if j < σ.length then some none else none := by
            intro σ
            cases q : (wipe σ vs)[j]? with
            | none =>
              have := List.getElem?_eq_none_iff.mp q
              rw [wipe_length] at this
              rw [if_neg (by omega)]
            | some o =>
              have hlt := (List.getElem?_eq_some_iff.mp q).1
              rw [wipe_length] at hlt
              rw [if_pos hlt]
              cases o with
              | none => rfl
              | some u => exact absurd hjv (wipe_some q).2
          rw [this, this, List.length_set]
        · rw [wipe_out hjv, wipe_out hjv, List.getElem?_set_ne (Ne.symm hj)]
theorem EnvOk.set {K : PySem.W.Frag} {F : Fp} {σ : L2.St} {H : Hp} {env : En} (E : EnvOk K F σ H env) {v : V} {d : D} (r : Rp K H F v d) (i : Nat) (hl : i < σ.length) : EnvOk K F (σ.set i (some v)) H (env.set i (some d)) := fun j d' h => by
  rcases get_set h with ⟨rfl, e, _⟩ | ⟨hne, h⟩
  · cases e
    exact ⟨v, List.getElem?_set_self hl, r⟩
  · obtain ⟨u, h1, h2⟩ := E j d' h
    exact ⟨u, by rw [List.getElem?_set_ne (Ne.symm hne)]; exact h1, h2⟩
theorem wG_len {X : Cx} {tg : Expr} {v : V} {σ : L2.St} {H : Hp} {Q : L2.St → Hp → Prop} (h : σ.length = X.N.length → wG X tg v σ H Q) : wG X tg v σ H Q := by
  unfold wG at h ⊢
  exact fun pins s u I r => h I.len pins s u I r
@[simp] def R.val {α : Type} : R α → Option α
  | .ok a => some a
  | _ => none
def PurGE (g : G) (vs : List Nat) (tg : Expr) (ft : D → En → Option En) : Prop := ∀ X W, Cok g X W → ∀ σ H F env v d (Q : L2.St → Hp → Prop), EnvOk g.D.K F σ H env → Rp g.D.K H F v d →
  (match ft d env with
   | some env' => ∀ σ', wipe σ' vs = wipe σ vs → EnvOk g.D.K F σ' H env' → Q σ' H
   | none => False) → wG X tg v σ H Q
def PurGEs (g : G) (ws : List Nat) (ts : List Expr) (ft : List D → En → Option En) : Prop := ∀ X W, Cok g X W → ∀ σ H F env vs ds (Q : L2.St → Hp → Prop), EnvOk g.D.K F σ H env → RpA g.D.K H F vs ds →
  (match ft ds env with
   | some env' => ∀ σ', wipe σ' ws = wipe σ ws → EnvOk g.D.K F σ' H env' → Q σ' H
   | none => False) → wGs X ts vs σ H Q
def PurTs (g : G) (ifs : List Expr) (ft : En → R Bool) : Prop := ∀ X W, Cok g X W → ∀ σ H F env (Q : Bool → Hp → Prop), EnvOk g.D.K F σ H env → Wants g W σ H (ft env) relT Q → ∃ t, PTs X ifs t ∧ t σ H Q
/-- the list that a comprehension makes -/
def lcD (gt : D → En → Option En) (ft : En → R Bool) (fe : En → R D) (env : En) : List D → Option (List D)
  | [] => some []
  | d :: ds => (gt d env).bind fun e => (ft e).val.bind fun k => if k then (fe e).val.bind fun y => (lcD gt ft fe env ds).map (y :: ·) else lcD gt ft fe env ds
def ofO : Option (List D) → R D
  | some ys => if szOk ys.length then .ok (.list ys) else .no
  | none => .no
@[simp] theorem ofO_some {ys : List D} : ofO (some ys) = if szOk ys.length then .ok (.list ys) else .no := rfl
@[simp] theorem ofO_none : ofO none = .no := rfl
section
variable {g : G} {W : WX} {X : Cx} {pos p py spos : Pos} {c elt tg iter : Expr} {es ifs : List Expr} {ws : List Nat} {fi : En → R (List D)} {ft : En → R Bool} {fe : En → R D} {gt : D → En → Option En}
theorem puge_name (i : Nat) {x : Str} (hN : g.N[i]? = some x := by rfl) (hx : g.sc.names.lookup x = some .local := by rfl) (hi : i ∈ ws := by decide) : PurGE g ws (.Name x pos) (fun d env => some (env.set i (some d))) := by
  intro X W C σ H F env v d Q E r h
  have hx' : X.env.scope.names.lookup x = some .local := by rw [C.sc]; exact hx
  have hN' : X.N[i]? = some x := by rw [C.N]; exact hN
  refine wG_len fun hl => wG_of (pg_name (i := i) C.nd hN' (.inl hx') (.inr hx')) ?_
  have hlt : i < σ.length := by rw [hl]; exact (List.getElem?_eq_some_iff.mp hN').1
  exact h (σ.set i (some v)) (wipe_setI hi) (E.set r i hlt)
theorem puges_nil : PurGEs g ws [] (fun ds env => match ds with | [] => some env | _ => none) := by
  intro X W C σ H F env vs ds Q E r h
  refine wGs_of pgs_nil ?_
  cases r with
  | nil => exact ⟨rfl, h σ rfl E⟩
  | cons _ _ => exact h.elim
theorem puges_cons {t : Expr} {ts : List Expr} {f1 : D → En → Option En} {f2 : List D → En → Option En} (h1 : PurGE g ws t f1) (h2 : PurGEs g ws ts f2) (hst : ∀ env, (assignEach (t :: ts) env).map (·.2) = assign t env :: (assignEach ts env).map (·.2) := by intro _; rfl) :
    PurGEs g ws (t :: ts) (fun ds env => match ds with | d :: ds => (f1 d env).bind fun e => f2 ds e | [] => none) := by
  intro X W C σ H F env vs ds Q E r h
  refine wGs_of (pgs_cons pg_w pgs_w (hst _)) ?_
  cases r with
  | nil => exact h.elim
  | cons r1 r2 =>
    refine ⟨_, _, rfl, h1 X W C σ H F env _ _ _ E r1 ?_⟩
    cases q : f1 _ env with
    | none => simp [q] at h
    | some e1 =>
      simp only [q, Option.bind_some] at h
      refine fun σ' hw E1 => h2 X W C σ' H F e1 _ _ _ E1 r2 ?_
      cases q2 : f2 _ e1 with
      | none => rw [q2] at h; exact h
      | some e2 => rw [q2] at h; exact fun σ2 hw2 E2 => h σ2 (hw2.trans hw) E2
theorem puge_tup {k n : Nat} {f : List D → En → Option En} (hf : PurGEs g ws es f) (hc : g.calm = true := by rfl) (hn : ∀ env, (assignEach es env).length = n := by intro _; rfl) (hst : ∀ env, (assignEach es env).findIdx? (·.1) = none := by intro _; rfl) :
    PurGE g ws (.Tuple es k pos) (fun d env => match d with | .tuple ds => if ds.length = n then f ds env else none | _ => none) := by
  intro X W C σ H F env v d Q E r h
  refine wG_of (pg_tup (by rw [C.calm]; exact hc) pgs_w (hn _) (hst _)) ?_
  cases r with
  | tup hl hA =>
    by_cases z : ‹List D›.length = n
    · simp only [z, if_true] at h
      exact ⟨_, _, rfl, by rw [C.K]; exact hl, by rw [hA.length]; exact z, hf X W C σ H F env _ _ _ E hA h⟩
    · simp only [z, if_false] at h
  | _ => exact h.elim
theorem purts_nil : PurTs g [] (fun _ => .ok true) := fun X W C σ H F env Q E h => ⟨tYes, pts_nil, h true H (Same.refl H) rfl⟩
theorem purts_one (hc : PurT g c ft) : PurTs g [c] ft := fun X W C σ H F env Q E h => ⟨_, pts_one pt_w, hc X W C σ H F env Q E h⟩
/-- the context of a comprehension's block -/
abbrev G.blk (g : G) (scope : Scope) : G := { g with sc := relS scope g.sc, B := false }
theorem Cok.blk (C : Cok g X W) (s : Shared) (H : Hp) (scope : Scope) (cl : List (Str × Addr)) (L : Addr) (fp : List Addr) : Cok (g.blk scope) (X.blk s H scope (compEnvC scope cl L X.env) fp) W0 :=
  ⟨C.prog, C.w, C.K, C.mg, C.base, C.N, by show relS scope X.env.scope = _; rw [C.sc], C.nd, C.calm, C.room, C.units, takesN, PassesOwn.never, (fun z => by cases z), (fun z => by cases z), C.deep, C.high⟩
def gBlk (X : Cx) (scope : Scope) (tg : Expr) : TG := fun v σ H Q => ∀ (s : Shared) (H0 : Hp) (C : Addr) (cl : List (Str × Addr)) (fp : List Addr), wG (X.blk s H0 scope (compEnvC scope cl C X.env) fp) tg v σ H Q
def tBlk (X : Cx) (scope : Scope) (ifs : List Expr) : TT := fun σ H Q => ∀ (s : Shared) (H0 : Hp) (C : Addr) (cl : List (Str × Addr)) (fp : List Addr), ∃ t, PTs (X.blk s H0 scope (compEnvC scope cl C X.env) fp) ifs t ∧ t σ H Q
def eBlk (X : Cx) (scope : Scope) (elt : Expr) : TE := fun σ H Q => ∀ (s : Shared) (H0 : Hp) (C : Addr) (cl : List (Str × Addr)) (fp : List Addr), wE (X.blk s H0 scope (compEnvC scope cl C X.env) fp) elt σ H Q
theorem lc_main {scope : Scope} (vs : List Nat) (C : Cok g X W) (hi : PurI g tg iter fi) (hg : PurGE (g.blk scope) vs tg gt) (ht : PurTs (g.blk scope) ifs ft) (he : Pur (g.blk scope) elt fe) {σ : L2.St} {H : Hp} {F : Fp} {env : En} {Q : VK} (E : EnvOk g.D.K F σ H env)
    (h : Wants g W σ H ((fi env).bind fun ds => ofO (lcD gt ft fe (wipeE env vs) ds)) (relL g.D.K F H) Q) : tLc (wI X tg iter) (gBlk X scope tg) (tBlk X scope ifs) (eBlk X scope elt) vs σ H Q := by
  refine hi X W C σ H F env _ E (h.bind fun ds jj H1 _ e1 r1 h1 => ?_)
  obtain ⟨J, hs', hd'⟩ := jj
  obtain ⟨rs, wk⟩ := r1
  intro Dn hD
  have hDH : H Dn = none := e1.free hD
  generalize henv : wipeE env vs = env0 at h1
  have E0 : EnvOk g.D.K F (wipe σ vs) H env0 := henv ▸ wipeE_ok E vs
  cases q : lcD gt ft fe env0 ds with
  | none => rw [q] at h1; exact h1.elim
  | some ys =>
    rw [q, ofO_some] at h1
    by_cases z : szOk ys.length = true
    · rw [if_pos z] at h1
      have hz : ys.length ≤ sizeLine := of_decide_eq_true z
      let S : Fp := fun a => Fx F H a ∧ a ≠ Dn
      let Pv : Nat → Hp → Prop := fun i H3 => ∃ acc ys1 ys2, H3 Dn = some (.lst acc) ∧ Same H1 H3 ∧ RpA g.D.K H3 S acc ys1 ∧ lcD gt ft fe env0 (ds.drop i) = some ys2 ∧ ys = ys1 ++ ys2
      refine ⟨fun i m H3 => m = ds.length - i ∧ i ≤ ds.length ∧ Pv i H3, ⟨_, rfl, Nat.zero_le _, [], [], ys, upd_same, Same.new hD, .nil, by simpa using q, rfl⟩, ?_⟩
      rintro i m H3 ⟨rfl, hil, acc, ys1, ys2, hDn, sm, rA, eq, ey⟩
      obtain ⟨go, stop, yld⟩ := wk (fun a => Fx F H a ∧ H1 a ≠ none) H3 (RpA.mono sm (fun _ z => z) rs.tight)
      by_cases hlt : i < ds.length
      · refine .inr ⟨go i hlt, Pv (i + 1), fun H' p => ⟨_, by omega, rfl, hlt, p⟩, fun x H4 y => ?_⟩
        obtain ⟨e4, d, hd4, r4⟩ := yld i x H4 hlt y
        have edrop : ds.drop i = d :: ds.drop (i + 1) := by
          rw [List.drop_eq_getElem_cons hlt]
          rw [List.getElem?_eq_getElem hlt] at hd4
          rw [Option.some.inj hd4]
        rw [edrop] at eq
        unfold lcD at eq
        have s4 := sm.trans e4
        have hD4 : H4 Dn = some (.lst acc) := e4 _ _ hDn
        let F4 : Fp := fun a => Fx F H a ∧ a ≠ Dn ∧ H4 a ≠ none
        have E4 : EnvOk g.D.K F4 (wipe σ vs) H4 env0 := fun j d' hj => by
          obtain ⟨u, h2, h3⟩ := E0 j d' hj
          refine ⟨u, h2, h3.tight.mono (e1.trans s4) fun a ⟨fa, na⟩ => ⟨.inl fa, fun z => na (by rw [z]; exact hDH), fun z => na ((e1.trans s4).free z)⟩⟩
        have r4' : Rp g.D.K H4 F4 x d := r4.tight.mono (Same.refl _) fun a ⟨fa, na⟩ => by
          rcases fa with ⟨fa, nb⟩ | fa
          · exact ⟨fa, fun z => nb (by rw [z]; exact hD), na⟩
          · exact ⟨.inr ((e1.trans sm).free fa), (fun z => by rw [z, hDn] at fa; cases fa), na⟩
        cases qg : gt d env0 with
        | none => rw [qg] at eq; cases eq
        | some en =>
          rw [qg, Option.bind_some] at eq
          cases qt : ft en with
          | ex c => rw [qt] at eq; cases eq
          | no => rw [qt] at eq; cases eq
          | ok k =>
            rw [qt] at eq
            simp only [R.val, Option.bind_some] at eq
            intro s0 H0 L cl fp
            refine hg _ W0 (C.blk s0 H0 scope cl L fp) _ H4 F4 env0 x d _ E4 r4' ?_
            rw [qg]
            intro σ2 hw2 E5
            have ww : wipe (wipe σ vs) vs = wipe σ vs := by
              apply List.ext_getElem?
              intro j
              by_cases hjv : j ∈ vs
              · cases qq : (wipe (wipe σ vs) vs)[j]? with
                | none =>
                  have := List.getElem?_eq_none_iff.mp qq
                  rw [wipe_length] at this
                  rw [List.getElem?_eq_none this]
                | some o =>
                  have hlt2 := (List.getElem?_eq_some_iff.mp qq).1
                  rw [wipe_length] at hlt2
                  cases o with
                  | some u => exact absurd hjv (wipe_some qq).2
                  | none =>
                    cases q3 : (wipe σ vs)[j]? with
                    | none =>
                      have := List.getElem?_eq_none_iff.mp q3
                      omega
                    | some o2 =>
                      cases o2 with
                      | none => rfl
                      | some u => exact absurd hjv (wipe_some q3).2
              · rw [wipe_out hjv]
            refine ⟨hw2.trans ww, ?_⟩
            intro s0 H0 L cl fp
            refine ht _ W0 (C.blk s0 H0 scope cl L fp) σ2 H4 F4 en _ E5 ?_
            rw [qt]
            intro b H5 e5 rb
            cases rb
            cases k with
            | true =>
              rw [if_pos rfl] at eq
              rw [if_pos rfl]
              cases qe : fe en with
              | ex c => rw [qe] at eq; cases eq
              | no => rw [qe] at eq; cases eq
              | ok yv =>
                rw [qe] at eq
                simp only [R.val, Option.bind_some] at eq
                intro s0 H0 L cl fp
                refine he _ W0 (C.blk s0 H0 scope cl L fp) σ2 H5 F4 en _ (E5.mono e5 fun _ z => z) ?_
                rw [qe]
                intro v H6 e6 r6
                have hD5 := e5 _ _ hD4
                have hD6 := e6 _ _ hD5
                have s6 := (s4.trans e5).trans e6
                cases q4 : lcD gt ft fe env0 (ds.drop (i + 1)) with
                | none => rw [q4] at eq; cases eq
                | some ys3 =>
                  rw [q4] at eq
                  cases eq
                  have hlen : acc.length < sizeLine := by
                    rw [rA.length]
                    rw [ey, List.length_append, List.length_cons] at hz
                    omega
                  refine ⟨acc, hD6, hlen, acc ++ [v], ys1 ++ [yv], ys3, upd_same, fun a o ha => ?_, ?_, q4, by rw [ey]; simp⟩
                  · rw [upd_ne (fun z => by rw [z, hD] at ha; cases ha)]
                    exact s6 _ _ ha
                  · refine RpA.upd hD6 (fun z => z.2 rfl) ((rA.mono ((e4.trans e5).trans e6) fun _ z => z).snoc (r6.mono (Same.refl _) fun a za => ?_))
                    rcases za with za | za
                    · exact ⟨za.1, za.2.1⟩
                    · exact ⟨.inr ((e1.trans (s4.trans e5)).free za), fun zz => by rw [zz, hD5] at za; cases za⟩
            | false =>
              rw [if_neg (by simp)] at eq
              rw [if_neg (by simp)]
              exact ⟨acc, ys1, ys2, e5 _ _ hD4, s4.trans e5, rA.mono (e4.trans e5) fun _ z => z, eq, ey⟩
      · have ei : i = ds.length := by omega
        subst ei
        rw [List.drop_length] at eq
        cases eq
        rw [List.append_nil] at ey
        subst ey
        exact .inl ⟨stop, h1 (.ref Dn) H3 sm ⟨Dn, acc, _, rfl, rfl, hDH, hDn, rA⟩⟩
    · rw [if_neg z] at h1
      exact h1.elim
theorem blk_ok {X : Cx} {W : WX} {scope : Scope} {own : List (Str × Nat)} (C : Cok g X W) (ok : BlkOk g.N g.sc scope own) : BlkOk X.N X.env.scope scope own := by
  rw [C.N, C.sc]
  exact ok
/-- [e for t in i if c] -/
theorem purl_comp {scope : Scope} (own : List (Str × Nat)) (hi : PurI g tg iter fi) (hg : PurGE (g.blk scope) (own.map (·.2)) tg gt) (ht : PurTs (g.blk scope) ifs ft) (he : Pur (g.blk scope) elt fe) (ok : BlkOk g.N g.sc scope own := by dsimp only; exact ⟨rfl, by decide +kernel, by decide +kernel, by decide +kernel, by decide +kernel⟩)
    (hc : g.calm = true := by rfl) (hs : ∀ env x, foldedSetIterable iter env x = pure x := by intro _ _; rfl) :
    PurL g (.ListComp elt [⟨tg, iter, ifs, 0⟩] scope pos) (fun env => (fi env).bind fun ds => ofO (lcD gt ft fe (wipeE env (own.map (·.2))) ds)) := by
  intro X W C σ H F env Q E h
  refine wE_of (pe_lc (by rw [C.calm]; exact hc) C.nd pi_w (blk_ok C ok) (g := gBlk X scope tg) (tt := tBlk X scope ifs) (te := eBlk X scope elt) ?_ ?_ ?_ (hs _)) (lc_main _ C hi hg ht he E h)
  · exact fun s H0 L cl fp => ⟨fun pins s1 σ1 H1 v u Q I r q => pg_w.run pins s1 σ1 H1 v u Q I r (q s H0 L cl fp)⟩
  · exact fun s H0 L cl fp => ⟨fun pins s1 σ1 H1 Q I q => by
      obtain ⟨t, ht, q⟩ := q s H0 L cl fp
      exact ht.run pins s1 σ1 H1 Q I q⟩
  · exact fun s H0 L cl fp => ⟨fun pins s1 σ1 H1 Q I q => pe_w.run pins s1 σ1 H1 Q I (q s H0 L cl fp)⟩
/-- name = [e for t in i if c], on one line -/
theorem pus_setLc (i : Nat) (m : List Nat) {y : Str} {scope : Scope} (own : List (Str × Nat)) (hi : PurI g tg iter fi) (hg : PurGE (g.blk scope) (own.map (·.2)) tg gt) (ht : PurTs (g.blk scope) ifs ft) (he : Pur (g.blk scope) elt fe) (hy : g.N[i]? = some y := by rfl) (hyl : g.sc.names.lookup y = some .local := by rfl)
    (hsw : ∀ env : Env, env.scope = g.sc → swapsWith (.ListComp elt [⟨tg, iter, ifs, 0⟩] scope pos) (some (.Name y py)) spos.line env = pure true := by intro env he; obtain ⟨⟩ := env; cases he; rfl)
    (ok : BlkOk g.N g.sc scope own := by dsimp only; exact ⟨rfl, by decide +kernel, by decide +kernel, by decide +kernel, by decide +kernel⟩)
    (hc : g.calm = true := by rfl) (hs : ∀ env x, foldedSetIterable iter env x = pure x := by intro _ _; rfl) :
    PurS g (.Assign [.Name y py] (.ListComp elt [⟨tg, iter, ifs, 0⟩] scope pos) spos) (fun se => SR.of ((fi (view m 0 se)).bind fun ds => ofO (lcD gt ft fe (wipeE (view m 0 se) (own.map (·.2))) ds)) se fun d => .next (storeL m i d se)) := by
  intro X W C H0 F0 hs0 hd σ H se N ⟨F, s⟩ h
  refine wS_of (ps_setLc (by rw [C.calm]; exact hc) C.nd (by rw [C.N]; exact hy) (by rw [C.sc]; exact hyl) (hsw _ C.sc) pi_w (blk_ok C ok) (g := gBlk X scope tg) (tt := tBlk X scope ifs) (te := eBlk X scope elt) ?_ ?_ ?_ (hs _))
    (lc_main _ C hi hg ht he (s.env (m := m)) (of_wants s h fun d v H1 _ e1 r1 h1 => h1 _ H1 (s.storeL e1 r1 i)))
  · exact fun s H0 L cl fp => ⟨fun pins s1 σ1 H1 v u Q I r q => pg_w.run pins s1 σ1 H1 v u Q I r (q s H0 L cl fp)⟩
  · exact fun s H0 L cl fp => ⟨fun pins s1 σ1 H1 Q I q => by
      obtain ⟨t, ht, q⟩ := q s H0 L cl fp
      exact ht.run pins s1 σ1 H1 Q I q⟩
  · exact fun s H0 L cl fp => ⟨fun pins s1 σ1 H1 Q I q => pe_w.run pins s1 σ1 H1 Q I (q s H0 L cl fp)⟩
end
end Pu
namespace Pu
open PySem PySem.Spec PyProof.Rows L2
/-! ### enumerate, zip -/
def enumD : Nat → List D → List D
  | _, [] => []
  | k, d :: ds => .tuple [.int (k : Nat), d] :: enumD (k + 1) ds
@[simp] theorem enumD_len : ∀ {ds : List D} {k : Nat}, (enumD k ds).length = ds.length
  | [], _ => rfl
  | d :: ds, k => by unfold enumD; simp [enumD_len (ds := ds)]
theorem enumD_get : ∀ {ds : List D} {k i : Nat}, (enumD k ds)[i]? = (ds[i]?).map fun d => .tuple [.int ((k + i : Nat) : Int), d]
  | [], _, _ => by simp [enumD]
  | d :: ds, k, 0 => by simp [enumD]
  | d :: ds, k, i + 1 => by
    unfold enumD
    rw [List.getElem?_cons_succ, List.getElem?_cons_succ, enumD_get]
    congr
    funext d
    congr 3
    omega
theorem pair_at {K : PySem.W.Frag} {H : Hp} {F : Fp} {T : Addr} {x y : V} {d e : D} (hT : H T = none) (h1 : Rp K H F x d) (h2 : Rp K H F y e) : Rp K (L2.upd H T (.tup [x, y])) (Fx F H) (.ref T) (.tuple [d, e]) :=
  .tup (.inl (.inl upd_same)) (.cons (h1.mono (Same.new hT) fun _ z => .inl z) (.cons (h2.mono (Same.new hT) fun _ z => .inl z) .nil))
theorem wk_enum {K : PySem.W.Frag} {a : Addr} {ds : List D} : Wk K (Ite K a) (enumD 0 ds) [.ref a] [.list ds] := by
  intro F H r
  cases r with
  | cons r1 _ =>
    cases r1 with
    | lst hl hA =>
      rename_i xs
      rw [enumD_len, ← hA.length]
      refine ⟨fun i hi => ⟨xs, xs[i], hl.sq, by simp [hi]⟩, ⟨xs, hl.sq, Nat.le_refl _⟩, fun i x H' hi y => ?_⟩
      obtain ⟨T, u, rfl, hT, rfl, hu⟩ := y
      have hi' : i < ds.length := by rw [← hA.length]; exact hi
      have e2 : ds[i]? = some ds[i] := List.getElem?_eq_getElem hi'
      obtain ⟨v, h1, h2⟩ := hA.get e2
      have h3 := hu xs hl.sq
      rw [h3] at h1
      cases h1
      refine ⟨Same.new hT, _, by rw [enumD_get, e2]; rfl, pair_at hT ?_ h2⟩
      rw [Nat.zero_add]
      exact .int _
def zipD : List D → List D → List D
  | d :: ds, e :: es => .tuple [d, e] :: zipD ds es
  | _, _ => []
@[simp] theorem zipD_len : ∀ {ds es : List D}, (zipD ds es).length = min ds.length es.length
  | [], es => by simp [zipD]
  | d :: ds, [] => by simp [zipD]
  | d :: ds, e :: es => by unfold zipD; simp [zipD_len (ds := ds) (es := es)]
theorem zipD_get : ∀ {ds es : List D} {i : Nat} {d e : D}, ds[i]? = some d → es[i]? = some e → (zipD ds es)[i]? = some (.tuple [d, e])
  | [], _, _, _, _, h, _ => by simp at h
  | _ :: _, [], _, _, _, _, h => by simp at h
  | d :: ds, e :: es, 0, _, _, h1, h2 => by simp at h1 h2; simp [zipD, h1, h2]
  | d :: ds, e :: es, i + 1, _, _, h1, h2 => by
    unfold zipD
    rw [List.getElem?_cons_succ]
    exact zipD_get (by simpa using h1) (by simpa using h2)
theorem wk_zip {K : PySem.W.Frag} {a b : Addr} {ds es : List D} : Wk K (Itz K a b) (zipD ds es) [.ref a, .ref b] [.list ds, .list es] := by
  intro F H r
  cases r with
  | cons r1 r =>
    cases r with
    | cons r2 _ =>
      cases r1 with
      | lst hl hA =>
        rename_i xs
        cases r2 with
        | lst hl2 hB =>
          rename_i ys
          rw [zipD_len, ← hA.length, ← hB.length]
          refine ⟨fun i hi => ⟨xs, ys, xs[i]'(by omega), ys[i]'(by omega), hl.sq, hl2.sq, List.getElem?_eq_getElem _, List.getElem?_eq_getElem _⟩, ⟨xs, ys, hl.sq, hl2.sq, by omega⟩, fun i x H' hi y => ?_⟩
          obtain ⟨T, u, v, rfl, hT, rfl, hu, hv⟩ := y
          have h1 := hA.length
          have h2 := hB.length
          have e1 : ds[i]? = some (ds[i]'(by omega)) := List.getElem?_eq_getElem _
          have e2 : es[i]? = some (es[i]'(by omega)) := List.getElem?_eq_getElem _
          obtain ⟨u', p1, p2⟩ := hA.get e1
          obtain ⟨v', q1, q2⟩ := hB.get e2
          rw [hu xs hl.sq] at p1
          rw [hv ys hl2.sq] at q1
          cases p1
          cases q1
          exact ⟨Same.new hT, _, zipD_get e1 e2, pair_at hT p2 q2⟩
theorem wk_zipT {K : PySem.W.Frag} {a b : Addr} {ds es : List D} : Wk K (RZ.ItzT K a b) (zipD ds es) [.ref a, .ref b] [.tuple ds, .tuple es] := by
  intro F H r
  cases r with
  | cons r1 r =>
    cases r with
    | cons r2 _ =>
      cases r1 with
      | tup hl hA =>
        rename_i xs
        cases r2 with
        | tup hl2 hB =>
          rename_i ys
          rw [zipD_len, ← hA.length, ← hB.length]
          refine ⟨fun i hi => ⟨xs, ys, xs[i]'(by omega), ys[i]'(by omega), hl, hl2, List.getElem?_eq_getElem _, List.getElem?_eq_getElem _⟩, ⟨xs, ys, hl, hl2, by omega⟩, fun i x H' hi y => ?_⟩
          obtain ⟨T, u, v, rfl, hT, rfl, hu, hv⟩ := y
          have h1 := hA.length
          have h2 := hB.length
          have e1 : ds[i]? = some (ds[i]'(by omega)) := List.getElem?_eq_getElem _
          have e2 : es[i]? = some (es[i]'(by omega)) := List.getElem?_eq_getElem _
          obtain ⟨u', p1, p2⟩ := hA.get e1
          obtain ⟨v', q1, q2⟩ := hB.get e2
          rw [hu xs hl] at p1
          rw [hv ys hl2] at q1
          cases p1
          cases q1
          exact ⟨Same.new hT, _, zipD_get e1 e2, pair_at hT p2 q2⟩
def zipF : List D → R (List D)
  | [.list ds, .list es] => .ok (zipD ds es)
  | [.tuple ds, .tuple es] => .ok (zipD ds es)
  | _ => .no
section
variable {g : G} {pos p tpos : Pos} {a b : Expr} {es : List Expr} {kk : Nat} {fs : En → R (List D)}
theorem puri_zip (hm : g.D.mg "zip" = none) (ha : PurA g [a, b] fs) (hg : gl g.sc "zip" = true := by rfl) (hst : ∀ env, starEach [a, b] env = (false, eval a env) :: starEach [b] env := by intro _; exact starEach_of rfl)
    (hpl : ∀ env, (backTo pos (starEach [b] env)).any (·.1) = false := by intro _; rfl) :
    PurI g (.Tuple es kk tpos) (.Call (.Name "zip" p) [a, b] [] pos) (fun env => (fs env).bind zipF) := by
  intro X W C σ H F env Q E h
  refine wI_of (RZ.pi_zipA (gl_ok C hg) (by rw [C.mg]; exact hm) pa_w (hst _) (hpl _)) ?_
  refine ha X W C σ H F env _ E (h.bind fun ds vs H1 _ e1 r1 h1 => ?_)
  unfold zipF at h1
  split at h1
  · cases r1 with
    | cons ra rb =>
      obtain ⟨v, rfl, rc⟩ := rb.one
      cases ra with
      | lst hl hA =>
        cases rc with
        | lst hl2 hB =>
          refine ⟨_, _, _, _, rfl, .inl ⟨by rw [C.K]; exact hl.sq, by rw [C.K]; exact hl2.sq, ?_⟩⟩
          rw [C.K]
          exact h1 (Itz g.D.K _ _, _, _) H1 (Same.refl H1) ⟨.cons (.lst hl hA) (.cons (.lst hl2 hB) .nil), wk_zip⟩
  · cases r1 with
    | cons ra rb =>
      obtain ⟨v, rfl, rc⟩ := rb.one
      cases ra with
      | tup hl hA =>
        cases rc with
        | tup hl2 hB =>
          refine ⟨_, _, _, _, rfl, .inr ⟨by rw [C.K]; exact hl, by rw [C.K]; exact hl2, ?_⟩⟩
          rw [C.K]
          exact h1 (RZ.ItzT g.D.K _ _, _, _) H1 (Same.refl H1) ⟨.cons (.tup hl hA) (.cons (.tup hl2 hB) .nil), wk_zipT⟩
  · exact h1.elim
end
end Pu
namespace PySem
open Sem (wp)
set_option maxHeartbeats 1000000 in
/-- enumerate(v), v told by its new iterator -/
theorem purEnumNew {v : Value} {o : Obj} {Hb : Heap → Prop} (B : Begins v o Hb) :
    Meets (Builtin.«enumerate.__new__» ⟨[.type "enumerate", v], []⟩) (fun _ R s => Hb s.heap ∧
      R (.ok (.ret (.ref (s.heap.push o).objs.size))) { s with heap := (s.heap.push o).push { cls := .type "enumerate", data := .fields #[.none, .bool false, .ref s.heap.objs.size, rawInt 0, .none, .none] } }) :=
  .of_wp fun prog w A R s hh => by
    obtain ⟨hp, gg, dd, tt, oo⟩ := s; obtain ⟨hb, hh⟩ := hh
    have hsub := sub_enumerate
    have q0 : ∀ {A' : Around} {E' : Value → Shared → Prop} {Q' : Value → Shared → Prop}, Q' (.ref hp.objs.size) ⟨hp.push o, gg, dd, tt, oo⟩ → wpAny (model prog w) A' (pyIter v) Q' E' ⟨hp, gg, dd, tt, oo⟩ :=
      fun q => B.iter prog w _ _ ⟨hp, gg, dd, tt, oo⟩ _ hb q
    wp_walk using q0
    refine wpAny_stack_any fun st => wpAny_pure ?_
    split
    · rename_i c _ _ _ _ _
      cases (c == Value.type "enumerate")
      · wp_walk using q0
        exact ⟨_, rfl, hh⟩
      · wp_walk using q0
        exact ⟨_, rfl, hh⟩
    · wp_walk using q0
      exact ⟨_, rfl, hh⟩
theorem purEnumCall {prog : Program} {w : World} {A : Around} {E : Value → Shared → Prop} {s : Shared} {v : Value} {o : Obj} {Hb : Heap → Prop} {Q : Value → Shared → Prop} (B : Begins v o Hb) (hb : Hb s.heap)
    (hQ : ∀ h', IsEnum h' (s.heap.objs.size + 1) s.heap.objs.size 0 .none → h'.get? s.heap.objs.size = some o → (∀ b u, s.heap.get? b = some u → h'.get? b = some u) → Q (.ref (s.heap.objs.size + 1)) { s with heap := h' }) :
    wpAny (model prog w) A (call (.type "enumerate") [v]) Q E s := by
  have hs : (s.heap.push o).objs.size = s.heap.objs.size + 1 := Heap.size_push ..
  refine callType_new F.called_enumerate (by decide) (F.typeCall_enumerate_1 _) (F.newCall_enumerate_1 _) (fun obj => F.args_object_init_2 obj _) F.entry_enumerate_new (purEnumNew B) ⟨hb, ?_⟩
  show _ ∧ _
  rw [hs]
  have hI : IsEnum ((s.heap.push o).push { cls := .type "enumerate", data := .fields #[.none, .bool false, .ref s.heap.objs.size, rawInt 0, .none, .none] }) (s.heap.objs.size + 1) s.heap.objs.size 0 .none := by
    have z := Heap.get?_push_size (s.heap.push o) (o := { cls := .type "enumerate", data := .fields #[.none, .bool false, .ref s.heap.objs.size, rawInt 0, .none, .none] }) rfl
    rw [hs] at z; exact z
  exact ⟨⟨_, hI, rfl⟩, hQ _ hI (Heap.get?_push_of_some _ (Heap.get?_push_size _ B.free)) fun b u z => Heap.get?_push_of_some _ (Heap.get?_push_of_some _ z)⟩
end PySem
namespace Pu
open PySem PySem.Spec PyProof.Rows L2
/-- the tuple at a, its items with their places in new pairs -/
def IteT (K : PySem.W.Frag) (a : Addr) : It :=
  ⟨fun i H => ∃ (xs : List V) (x : V), SqT K H a xs ∧ xs[i]? = some x, fun i H v H' => ∃ T x, v = .ref T ∧ H T = none ∧ H' = upd H T (.tup [.int (i : Nat), x]) ∧ ∀ xs, SqT K H a xs → xs[i]? = some x, fun i H => ∃ xs : List V, SqT K H a xs ∧ xs.length = i⟩
theorem turn_enumT {P : Program} {w : World} {K : PySem.W.Frag} {elts : List Expr} {kk : Nat} {tpos : Pos} (a e it : Addr) (hei : e ≠ it) (hai : a ≠ it) (hea : e ≠ a) :
    Turn P w K (.Tuple elts kk tpos) (IteT K a) [e, it] e (fun i h => (∃ old, IsEnum h e it ((i : Nat) : Int) old) ∧ h.IsTupleIter it a i) where
  mem := by simp
  obj := fun i h st b hb => by
    obtain ⟨⟨old, he⟩, ⟨o, ho, hc, hd⟩⟩ := st
    rcases (by simpa using hb : b = e ∨ b = it) with z | z <;> rw [z]
    · exact ⟨_, he, fun v q => nomatch q⟩
    · exact ⟨o, ho, fun v q => by rw [hd] at q; cases q⟩
  keep := fun i h h' st k => ⟨st.1.elim fun old he => ⟨old, k e (by simp) _ he⟩, st.2.at fun o q => k it (by simp) o q⟩
  item := by
    intro X hP hw hK hc i pins s σ H E I hf st hg
    subst hP hw hK
    obtain ⟨⟨old, he⟩, hit⟩ := st
    obtain ⟨xs, x, hq, hx⟩ := hg
    obtain ⟨its, rv, pt, _⟩ := I.tuple hq
    obtain ⟨u, hu, ru⟩ := rv.get hx
    have lt_e : e < s.heap.objs.size := Heap.lt_size he
    have lt_i : it < s.heap.objs.size := hit.elim fun _ q => Heap.lt_size q.1
    have hlt : i < its.toArray.size := by
      have := (List.getElem?_eq_some_iff.mp hu).1
      simpa using this
    refine wpAny_pyNext_enum_itemD (Draws.tuple (A := X.A.in1) (I.ok.hd hc) it a hai its.toArray) he ⟨hit, pt⟩ hlt hei (by simp; exact ⟨hei, hea⟩) fun u' h' tk hu' ho st' hT hsz hk => ?_
    have eu : u' = u := by
      have : its[i]? = some u' := by simpa using hu'
      rw [hu] at this
      exact (Option.some.inj this).symm
    subst eu
    refine ⟨_, rfl, wpAny_letOwnedTupleGo_enum (s := { s with heap := h', toks := tk + 1 }) ho fun h2 he2 sb => ?_⟩
    have tup2 : h2.get? s.heap.objs.size = some { cls := .type "tuple", data := .seq #[.int i tk, u'] } := (sb.2 _ (Nat.ne_of_gt lt_e)).trans hT
    have fresh : ObjOk X.prog X.w (upd H s.heap.objs.size (.tup [.int (i : Nat), x])) h2 s.heap.objs.size (.tup [.int (i : Nat), x]) := by
      refine ⟨?_, [.int i tk, u'], .cons ⟨_, rfl⟩ (.cons ru .nil), _, tup2, rfl, _, rfl⟩
      show 2 ≤ sizeLine
      decide
    have J : Inv X pins σ (upd H s.heap.objs.size (.tup [.int (i : Nat), x])) { s with heap := h2, toks := tk + 1 } := by
      refine I.turnedNew (ch := [e, it]) (fun b ob hb q => ?_) hf (Nat.le_refl _) fresh
      have n1 : b ≠ e := fun z => hb (by simp [z])
      have n2 : b ≠ it := fun z => hb (by simp [z])
      exact (sb.2 b n1).trans (hk b ob n1 n2 q)
    refine ⟨.ref s.heap.objs.size, _, J, rfl, ⟨_, x, rfl, I.hok.fresh (Nat.le_refl _), rfl, fun ys hy => by rw [I.tuple_inj hy hq]; exact hx⟩, ⟨⟨u', ?_⟩, st'.1.at fun o q => (sb.2 it (Ne.symm hei)).trans q⟩, fun b hb => ?_⟩
    · rw [show ((i + 1 : Nat) : Int) = (i : Int) + 1 by omega]
      exact he2
    · have : b < s.heap.objs.size := by
        rcases (by simpa using hb : b = e ∨ b = it) with z | z <;> rw [z]
        · exact lt_e
        · exact lt_i
      rw [upd_ne (Nat.ne_of_lt this)]
      exact (hf b hb).1
  done := by
    intro X hP hw hK hc i pins s σ H E I hf st hg
    subst hP hw hK
    obtain ⟨⟨old, he⟩, hit⟩ := st
    obtain ⟨xs, hq, rfl⟩ := hg
    obtain ⟨its, rv, pt, _⟩ := I.tuple hq
    obtain ⟨f0, f1, f2, f3, f4, f5⟩ := hf it (by simp)
    have hn : xs.length = its.toArray.size := by rw [rv.length]; simp
    exact wpAny_pyNext_enum_endD (Draws.tuple (A := X.A.in1) (I.ok.hd hc) it a hai its.toArray) he ⟨by rw [← hn]; exact hit, pt⟩ fun h' eb => ⟨rfl, I.turned (t' := s.toks) eb f0 f1 f3 f4 f5⟩
  self := fun A i s Q E st h => st.1.elim fun _ he => wpAny_pyIter_enum he h
def iEnumB (K : PySem.W.Frag) (ta : TA) : TI := fun σ H R => ta σ H fun vs H1 => ∃ a xs, vs = [.ref a] ∧ ((SqL K H1 a xs ∧ R (Ite K a) H1) ∨ (SqT K H1 a xs ∧ R (IteT K a) H1))
theorem pi_enumB {X : Cx} {e : Expr} {ta : TA} {p pos tpos : Pos} {elts : List Expr} {kk : Nat} (hg : Gl X "enumerate") (hm : X.mg "enumerate" = none) (ha : PA X [e] ta) (hs : starEach [e] X.env = [(false, eval e X.env)]) :
    PI X (.Tuple elts kk tpos) (.Call (.Name "enumerate" p) [e] [] pos) (iEnumB X.K ta) := by
  refine ⟨fun pins s σ H R I h => ?_⟩
  refine Call_ (ld_blt I hg hm boot_enumerate (PyProof.Rows.callWith_type1 (thn (ha.run pos pins s σ H _ I h) fun us s1 ⟨vs, H1, I1, r1, a, xs, ev, hh⟩ => ?_) hs rfl))
  subst ev
  cases r1 with
  | cons ra rb =>
    cases rb
    cases ra
    have low : ∀ b, b ∈ [s1.heap.objs.size + 1, s1.heap.objs.size] → s1.heap.objs.size ≤ b := fun b hb => by
      rcases (by simpa using hb : b = s1.heap.objs.size + 1 ∨ b = s1.heap.objs.size) with z | z <;> rw [z]
      · exact Nat.le_add_right _ _
      · exact Nat.le_refl _
    rcases hh with ⟨hq, q⟩ | ⟨hq, q⟩
    · obtain ⟨its, rv, pl, _⟩ := I1.list hq
      refine call_enumerate_list pl.isList fun h' he hi _ hk => wpAny_pyIter_enum he ?_
      refine ⟨s1.heap.objs.size + 1, _, _, _, H1, rfl, I1.kept (t' := s1.toks) hk, turn_enum a (s1.heap.objs.size + 1) s1.heap.objs.size, ⟨⟨.none, he⟩, hi, Nat.succ_ne_self _⟩, fun b hb => I1.fpOk (low b hb) (I1.hok.fresh (low b hb)), q⟩
    · obtain ⟨its, rv, pt, _⟩ := I1.tuple hq
      have ha1 : a < s1.heap.objs.size := pt.elim fun _ z => Heap.lt_size z.1
      refine purEnumCall (begins_tuple a its.toArray) pt fun h' he hi hk => wpAny_pyIter_enum he ?_
      refine ⟨s1.heap.objs.size + 1, _, _, _, H1, rfl, I1.kept (t' := s1.toks) hk, turn_enumT a (s1.heap.objs.size + 1) s1.heap.objs.size (Nat.succ_ne_self _) (Nat.ne_of_lt ha1) (Nat.ne_of_gt (Nat.lt_succ_of_lt ha1)), ⟨⟨.none, he⟩, ⟨_, hi, rfl, rfl⟩⟩, fun b hb => I1.fpOk (low b hb) (I1.hok.fresh (low b hb)), q⟩
theorem wk_enumT {K : PySem.W.Frag} {a : Addr} {ds : List D} : Wk K (IteT K a) (enumD 0 ds) [.ref a] [.tuple ds] := by
  intro F H r
  cases r with
  | cons r1 _ =>
    cases r1 with
    | tup hl hA =>
      rename_i xs
      rw [enumD_len, ← hA.length]
      refine ⟨fun i hi => ⟨xs, xs[i], hl, by simp [hi]⟩, ⟨xs, hl, rfl⟩, fun i x H' hi y => ?_⟩
      obtain ⟨T, u, rfl, hT, rfl, hu⟩ := y
      have hi' : i < ds.length := by rw [← hA.length]; exact hi
      have e2 : ds[i]? = some ds[i] := List.getElem?_eq_getElem hi'
      obtain ⟨v, h1, h2⟩ := hA.get e2
      have h3 := hu xs hl
      rw [h3] at h1
      cases h1
      refine ⟨Same.new hT, _, by rw [enumD_get, e2]; rfl, pair_at hT ?_ h2⟩
      rw [Nat.zero_add]
      exact .int _
def enumF : List D → R (List D)
  | [.list ds] => .ok (enumD 0 ds)
  | [.tuple ds] => .ok (enumD 0 ds)
  | _ => .no
theorem puri_enum {g : G} {pos p tpos : Pos} {a : Expr} {es : List Expr} {kk : Nat} {fs : En → R (List D)} (hm : g.D.mg "enumerate" = none) (ha : PurA g [a] fs) (hg : gl g.sc "enumerate" = true := by rfl) (hst : ∀ env, starEach [a] env = [(false, eval a env)] := by intro _; exact starEach_of rfl) :
    PurI g (.Tuple es kk tpos) (.Call (.Name "enumerate" p) [a] [] pos) (fun env => (fs env).bind enumF) := by
  intro X W C σ H F env Q E h
  refine wI_of (pi_enumB (gl_ok C hg) (by rw [C.mg]; exact hm) pa_w (hst _)) ?_
  refine ha X W C σ H F env _ E (h.bind fun ds vs H1 _ e1 r1 h1 => ?_)
  unfold enumF at h1
  split at h1
  · obtain ⟨v, rfl, r⟩ := r1.one
    cases r with
    | lst hl hA =>
      refine ⟨_, _, rfl, .inl ⟨by rw [C.K]; exact hl.sq, ?_⟩⟩
      rw [C.K]
      exact h1 (Ite g.D.K _, _, _) H1 (Same.refl H1) ⟨.cons (.lst hl hA) .nil, wk_enum⟩
  · obtain ⟨v, rfl, r⟩ := r1.one
    cases r with
    | tup hl hA =>
      refine ⟨_, _, rfl, .inr ⟨by rw [C.K]; exact hl, ?_⟩⟩
      rw [C.K]
      exact h1 (IteT g.D.K _, _, _) H1 (Same.refl H1) ⟨.cons (.tup hl hA) .nil, wk_enumT⟩
  · exact h1.elim
end Pu
namespace Pu
open PySem PySem.Spec PyProof.Rows L2
/-- a module's own tuple of whole numbers -/
theorem const_tup {D : Wd} {x : Str} {a : Addr} {its : Array Value} {n : Nat} {sl : Array (Option Value)} {is : List Int} (hm : D.mg x = some (.ref a)) (hl : D.K.lookup a = some ⟨.type "tuple", none, .seq its n, sl⟩) (hv : Vals (is.map V.int) its.toList) (hz : its.size ≤ sizeLine) : Const D x (.tuple (is.map .int)) :=
  ⟨.ref a, _, hm, rfl, fun _ _ => .tup (.inr ⟨_, _, _, hl, rfl, rfl, hz, hv⟩) (rpa_ints is)⟩
end Pu
namespace Pu
open PySem PySem.Spec PyProof.Rows L2
section
variable {g : G} {W : WX} {X : Cx} {pos p py spos : Pos} {c elt tg iter : Expr} {es ifs : List Expr} {ws : List Nat} {fi : En → R (List D)} {ft : En → R Bool} {fe : En → R D} {gt : D → En → Option En}
/-- name = [e for t in i if c], on one line; the list is no more the frame's own -/
theorem pus_setLcV (i : Nat) (m : List Nat) {y : Str} {scope : Scope} (own : List (Str × Nat)) (hi : PurI g tg iter fi) (hg : PurGE (g.blk scope) (own.map (·.2)) tg gt) (ht : PurTs (g.blk scope) ifs ft) (he : Pur (g.blk scope) elt fe) (hy : g.N[i]? = some y := by rfl) (hyl : g.sc.names.lookup y = some .local := by rfl)
    (hsw : ∀ env : Env, env.scope = g.sc → swapsWith (.ListComp elt [⟨tg, iter, ifs, 0⟩] scope pos) (some (.Name y py)) spos.line env = pure true := by intro env he; obtain ⟨⟩ := env; cases he; rfl)
    (ok : BlkOk g.N g.sc scope own := by dsimp only; exact ⟨rfl, by decide +kernel, by decide +kernel, by decide +kernel, by decide +kernel⟩)
    (hc : g.calm = true := by rfl) (hs : ∀ env x, foldedSetIterable iter env x = pure x := by intro _ _; rfl) :
    PurS g (.Assign [.Name y py] (.ListComp elt [⟨tg, iter, ifs, 0⟩] scope pos) spos) (fun se => SR.of ((fi (view m 0 se)).bind fun ds => ofO (lcD gt ft fe (wipeE (view m 0 se) (own.map (·.2))) ds)) se fun d => .next (storeV m i d se)) := by
  intro X W C H0 F0 hs0 hd σ H se N ⟨F, s⟩ h
  refine wS_of (ps_setLc (by rw [C.calm]; exact hc) C.nd (by rw [C.N]; exact hy) (by rw [C.sc]; exact hyl) (hsw _ C.sc) pi_w (blk_ok C ok) (g := gBlk X scope tg) (tt := tBlk X scope ifs) (te := eBlk X scope elt) ?_ ?_ ?_ (hs _))
    (lc_main _ C hi hg ht he (s.env (m := m)) (of_wants s h fun d v H1 _ e1 ⟨p, vs, ds, ev, ed, hn, hp, r⟩ h1 => by
      subst ev ed
      exact h1 _ H1 (s.storeV e1 (.lst (.inl ⟨.inl hp, .inr hn⟩) (r.mono (Same.refl _) fun _ z => z.1)) i)))
  · exact fun s H0 L cl fp => ⟨fun pins s1 σ1 H1 v u Q I r q => pg_w.run pins s1 σ1 H1 v u Q I r (q s H0 L cl fp)⟩
  · exact fun s H0 L cl fp => ⟨fun pins s1 σ1 H1 Q I q => by
      obtain ⟨t, ht, q⟩ := q s H0 L cl fp
      exact ht.run pins s1 σ1 H1 Q I q⟩
  · exact fun s H0 L cl fp => ⟨fun pins s1 σ1 H1 Q I q => pe_w.run pins s1 σ1 H1 Q I (q s H0 L cl fp)⟩
end
end Pu
namespace Pu
open PySem PySem.Spec PyProof.Rows L2
section
variable {g : G} {pos p apos tpos : Pos} {a e : Expr} {fe : En → R D} {fs : En → R (List D)}
/-! ### bit_length, divmod -/
@[simp] def bitsV : D → R D
  | .int i => .ok (.int (Builtin.Int.intBits i : Nat))
  | _ => .no
theorem pur_bits (he : Pur g e fe) (hbase : ∀ env : Env, attributeBase e "bit_length" env (eval e env) = eval e env := by intro _; rfl) (hline : (apos.endLine == pos.line) = true := by rfl) :
    Pur g (.Call (.Attribute e "bit_length" apos) [] [] pos) (fun env => (fe env).bind bitsV) := by
  intro X W C σ H F env Q E h
  refine wE_of (pe_bits pe_w (hbase _) hline) ?_
  refine he X W C σ H F env _ E (h.bind fun x v H1 _ e1 r1 h1 => ?_)
  cases r1 with
  | int i => exact ⟨i, rfl, h1 _ H1 (Same.refl H1) (.int _)⟩
  | _ => exact h1.elim
@[simp] def divmodF : List D → R D
  | [.int i, .int j] => if 0 < j then .ok (.tuple [.int (i / j), .int (i % j)]) else .no
  | _ => .no
theorem call_divmodC {W : WX} {X : Cx} (C : Cok g X W) (hc : g.calm = true) : CallR X (.builtin "divmod") (fun xs H Q => ∃ i j, xs = [.int i, .int j] ∧ 0 < j ∧ ∀ p, H p = none → Q (.ref p) (upd H p (.tup [.int (i / j), .int (i % j)]))) := by
  intro pins s σ H xs us Q I r h
  obtain ⟨i, j, rfl, hj, q⟩ := h
  obtain ⟨u, u', rfl, ⟨t, rfl⟩, ⟨t', rfl⟩⟩ := vals2 r
  refine divmod_int (Int.ne_of_gt hj) ?_ (.inr (C.pylong hc I))
  have z1 : i.fdiv j = i / j := Int.fdiv_eq_ediv_of_nonneg i (Int.le_of_lt hj)
  have z2 : i.fmod j = i % j := Int.fmod_eq_emod_of_nonneg i (Int.le_of_lt hj)
  rw [z1, z2]
  have fresh := I.hok.fresh (Nat.le_refl s.heap.objs.size)
  have new : ObjOk X.prog X.w (upd H s.heap.objs.size (.tup [.int (i / j), .int (i % j)])) (s.heap.push { cls := .type "tuple", data := .seq #[.int (i / j) s.toks, .int (i % j) (s.toks + 1)] }) s.heap.objs.size (.tup [.int (i / j), .int (i % j)]) :=
    ⟨(by show 2 ≤ sizeLine; decide), [.int (i / j) s.toks, .int (i % j) (s.toks + 1)], .cons ⟨s.toks, rfl⟩ (.cons ⟨s.toks + 1, rfl⟩ .nil), ⟨_, Heap.get?_push_size s.heap rfl, rfl, 0, rfl⟩⟩
  exact ⟨.ref s.heap.objs.size, _, I.laid (fun _ _ e => Heap.get?_push_of_some _ e) (Nat.le_refl _) new, rfl, q _ fresh⟩
theorem blt_divmod (hcm : g.calm = true := by rfl) : BltR g (.builtin "divmod") divmodF := by
  intro X W C σ H F ds vs Q r h
  unfold divmodF at h
  split at h
  · split at h
    · rename_i c
      cases r with
      | cons r1 r2 =>
        cases r2 with
        | cons r2 r3 =>
          cases r3; cases r1; cases r2
          exact wC_of (call_divmodC C hcm) ⟨_, _, rfl, c, fun p hn => h _ _ (Same.new hn) (.tup (.inl (.inl upd_same)) (.cons (.int _) (.cons (.int _) .nil)))⟩
    · exact h.elim
  · exact h.elim
/-! ### a list from its end -/
theorem wk_rev {K : PySem.W.Frag} {a : Addr} {ds : List D} : Wk K (Itv K a ds.length) ds.reverse [.ref a] [.list ds] := by
  intro F H r
  cases r with
  | cons r1 _ =>
    cases r1 with
    | lst hl hA =>
      rename_i xs
      have len := hA.length
      rw [List.length_reverse]
      refine ⟨fun i hi => ⟨hi, xs, xs[ds.length - 1 - i]'(by omega), hl.sq, List.getElem?_eq_getElem _⟩, Nat.le_refl _, fun i x H' hi y => ?_⟩
      obtain ⟨rfl, hu⟩ := y
      have e2 : ds[ds.length - 1 - i]? = some (ds[ds.length - 1 - i]'(by omega)) := List.getElem?_eq_getElem _
      obtain ⟨v, h1, h2⟩ := hA.get e2
      have h3 := hu xs hl.sq
      rw [h3] at h1
      cases h1
      exact ⟨Same.refl _, _, by rw [List.getElem?_reverse hi]; exact e2, h2.mono (Same.refl _) fun _ z => .inl z⟩
def revF : List D → R (List D)
  | [.list ds] => .ok ds.reverse
  | _ => .no
theorem puri_rev {tg : Expr} (hm : g.D.mg "reversed" = none) (ha : PurA g [a] fs) (hg : gl g.sc "reversed" = true := by rfl) (hst : ∀ env, starEach [a] env = [(false, eval a env)] := by intro _; exact starEach_of rfl) :
    PurI g tg (.Call (.Name "reversed" p) [a] [] pos) (fun env => (fs env).bind revF) := by
  intro X W C σ H F env Q E h
  refine wI_of (pi_reversed (gl_ok C hg) (by rw [C.mg]; exact hm) pa_w (hst _)) ?_
  refine ha X W C σ H F env _ E (h.bind fun ds vs H1 _ e1 r1 h1 => ?_)
  unfold revF at h1
  split at h1
  · obtain ⟨v, rfl, r⟩ := r1.one
    cases r with
    | lst hl hA =>
      refine ⟨_, _, rfl, by rw [C.K]; exact hl.sq, ?_⟩
      rw [C.K, hA.length]
      exact h1 (Itv g.D.K _ _, _, _) H1 (Same.refl H1) ⟨.cons (.lst hl hA) .nil, wk_rev⟩
  · exact h1.elim
end
/-- a module's own tuple of one tuple of whole numbers -/
theorem const_tup1 {D : Wd} {x : Str} {a b : Addr} {its : Array Value} {n m : Nat} {sl sl2 : Array (Option Value)} {is : List Int} (hm : D.mg x = some (.ref a)) (hl : D.K.lookup a = some ⟨.type "tuple", none, .seq #[.ref b] n, sl⟩)
    (hb : D.K.lookup b = some ⟨.type "tuple", none, .seq its m, sl2⟩) (hv : Vals (is.map V.int) its.toList) (hz : its.size ≤ sizeLine) : Const D x (.tuple [.tuple (is.map .int)]) :=
  ⟨.ref a, _, hm, rfl, fun _ _ => .tup (xs := [.ref b]) (.inr ⟨_, _, _, hl, rfl, rfl, by show 1 ≤ sizeLine; decide, .cons rfl .nil⟩) (.cons (.tup (.inr ⟨_, _, _, hb, rfl, rfl, hz, hv⟩) (rpa_ints is)) .nil)⟩
end Pu
namespace Pu
open PySem PySem.Spec PyProof.Rows L2
/-! ### a comprehension of two loops -/
/-- the list that it makes -/
def lcD2 (gt : D → En → Option En) (ft : En → R Bool) (fi1 : En → R (List D)) (gt1 : D → En → Option En) (ft1 : En → R Bool) (fe : En → R D) (vs1 : List Nat) (env : En) : List D → Option (List D)
  | [] => some []
  | d :: ds => (gt d env).bind fun e => (ft e).val.bind fun k => if k then (fi1 e).val.bind fun ds1 => (lcD gt1 ft1 fe (wipeE e vs1) ds1).bind fun ys => (lcD2 gt ft fi1 gt1 ft1 fe vs1 env ds).map (ys ++ ·) else lcD2 gt ft fi1 gt1 ft1 fe vs1 env ds
def iBlk (X : Cx) (scope : Scope) (tg iter : Expr) : TI := fun σ H Q => ∀ (s : Shared) (H0 : Hp) (C : Addr) (cl : List (Str × Addr)) (fp : List Addr), wI (X.blk s H0 scope (compEnvC scope cl C X.env) fp) tg iter σ H Q
theorem wipe_wipe {σ : L2.St} {vs : List Nat} : wipe (wipe σ vs) vs = wipe σ vs := by
  apply List.ext_getElem?
  intro j
  by_cases hjv : j ∈ vs
  · cases qq : (wipe (wipe σ vs) vs)[j]? with
    | none =>
      have := List.getElem?_eq_none_iff.mp qq
      rw [wipe_length] at this
      rw [List.getElem?_eq_none this]
    | some o =>
      have hlt2 := (List.getElem?_eq_some_iff.mp qq).1
      rw [wipe_length] at hlt2
      cases o with
      | some u => exact absurd hjv (wipe_some qq).2
      | none =>
        cases q3 : (wipe σ vs)[j]? with
        | none =>
          have := List.getElem?_eq_none_iff.mp q3
          omega
        | some o2 =>
          cases o2 with
          | none => rfl
          | some u => exact absurd hjv (wipe_some q3).2
  · rw [wipe_out hjv]
section
variable {g : G} {W : WX} {X : Cx} {pos p py spos : Pos} {c elt tg iter tg1 iter1 : Expr} {es ifs ifs1 : List Expr} {ws : List Nat} {fi fi1 : En → R (List D)} {ft ft1 : En → R Bool} {fe : En → R D} {gt gt1 : D → En → Option En}
theorem lc2_main {scope : Scope} (vs vs1 : List Nat) (C : Cok g X W) (hi : PurI g tg iter fi) (hg : PurGE (g.blk scope) vs tg gt) (ht : PurTs (g.blk scope) ifs ft) (hi1 : PurI (g.blk scope) tg1 iter1 fi1) (hg1 : PurGE (g.blk scope) vs1 tg1 gt1) (ht1 : PurTs (g.blk scope) ifs1 ft1) (he : Pur (g.blk scope) elt fe)
    {σ : L2.St} {H : Hp} {F : Fp} {env : En} {Q : VK} (E : EnvOk g.D.K F σ H env)
    (h : Wants g W σ H ((fi env).bind fun ds => ofO (lcD2 gt ft fi1 gt1 ft1 fe vs1 (wipeE env vs) ds)) (relL g.D.K F H) Q) :
    tLc2 (wI X tg iter) (gBlk X scope tg) (tBlk X scope ifs) (iBlk X scope tg1 iter1) (gBlk X scope tg1) (tBlk X scope ifs1) (eBlk X scope elt) vs vs1 σ H Q := by
  refine hi X W C σ H F env _ E (h.bind fun ds jj H1 _ e1 r1 h1 => ?_)
  obtain ⟨J, hs', hd'⟩ := jj
  obtain ⟨rs, wk⟩ := r1
  intro Dn hD
  have hDH : H Dn = none := e1.free hD
  generalize henv : wipeE env vs = env0 at h1
  have E0 : EnvOk g.D.K F (wipe σ vs) H env0 := henv ▸ wipeE_ok E vs
  cases q : lcD2 gt ft fi1 gt1 ft1 fe vs1 env0 ds with
  | none => rw [q] at h1; exact h1.elim
  | some ys =>
    rw [q, ofO_some] at h1
    by_cases z : szOk ys.length = true
    · rw [if_pos z] at h1
      have hz : ys.length ≤ sizeLine := of_decide_eq_true z
      let S : Fp := fun a => Fx F H a ∧ a ≠ Dn
      let Pv : Nat → Hp → Prop := fun i H3 => ∃ acc ys1 ys2, H3 Dn = some (.lst acc) ∧ Same H1 H3 ∧ RpA g.D.K H3 S acc ys1 ∧ lcD2 gt ft fi1 gt1 ft1 fe vs1 env0 (ds.drop i) = some ys2 ∧ ys = ys1 ++ ys2
      refine ⟨fun i m H3 => m = ds.length - i ∧ i ≤ ds.length ∧ Pv i H3, ⟨_, rfl, Nat.zero_le _, [], [], ys, upd_same, Same.new hD, .nil, by simpa using q, rfl⟩, ?_⟩
      rintro i m H3 ⟨rfl, hil, acc, ys1, ys2, hDn, sm, rA, eq, ey⟩
      obtain ⟨go, stop, yld⟩ := wk (fun a => Fx F H a ∧ H1 a ≠ none) H3 (RpA.mono sm (fun _ z => z) rs.tight)
      by_cases hlt : i < ds.length
      · refine .inr ⟨go i hlt, Pv (i + 1), fun H' p => ⟨_, by omega, rfl, hlt, p⟩, fun x H4 y => ?_⟩
        obtain ⟨e4, d, hd4, r4⟩ := yld i x H4 hlt y
        have edrop : ds.drop i = d :: ds.drop (i + 1) := by
          rw [List.drop_eq_getElem_cons hlt]
          rw [List.getElem?_eq_getElem hlt] at hd4
          rw [Option.some.inj hd4]
        rw [edrop] at eq
        unfold lcD2 at eq
        have s4 := sm.trans e4
        have hD4 : H4 Dn = some (.lst acc) := e4 _ _ hDn
        let F4 : Fp := fun a => Fx F H a ∧ a ≠ Dn ∧ H4 a ≠ none
        have E4 : EnvOk g.D.K F4 (wipe σ vs) H4 env0 := fun j d' hj => by
          obtain ⟨u, h2, h3⟩ := E0 j d' hj
          refine ⟨u, h2, h3.tight.mono (e1.trans s4) fun a ⟨fa, na⟩ => ⟨.inl fa, fun z => na (by rw [z]; exact hDH), fun z => na ((e1.trans s4).free z)⟩⟩
        have r4' : Rp g.D.K H4 F4 x d := r4.tight.mono (Same.refl _) fun a ⟨fa, na⟩ => by
          rcases fa with ⟨fa, nb⟩ | fa
          · exact ⟨fa, fun z => nb (by rw [z]; exact hD), na⟩
          · exact ⟨.inr ((e1.trans sm).free fa), (fun z => by rw [z, hDn] at fa; cases fa), na⟩
        cases qg : gt d env0 with
        | none => rw [qg] at eq; cases eq
        | some en =>
          rw [qg, Option.bind_some] at eq
          cases qt : ft en with
          | ex c => rw [qt] at eq; cases eq
          | no => rw [qt] at eq; cases eq
          | ok k =>
            rw [qt] at eq
            simp only [R.val, Option.bind_some] at eq
            intro s0 H0 L cl fp
            refine hg _ W0 (C.blk s0 H0 scope cl L fp) _ H4 F4 env0 x d _ E4 r4' ?_
            rw [qg]
            intro σ2 hw2 E5
            refine ⟨hw2.trans wipe_wipe, ?_⟩
            intro s0 H0 L cl fp
            refine ht _ W0 (C.blk s0 H0 scope cl L fp) σ2 H4 F4 en _ E5 ?_
            rw [qt]
            intro b H5 e5 rb
            cases rb
            cases k with
            | true =>
              rw [if_pos rfl] at eq
              rw [if_pos rfl]
              cases qi : fi1 en with
              | ex c => rw [qi] at eq; cases eq
              | no => rw [qi] at eq; cases eq
              | ok ds1 =>
                rw [qi] at eq
                simp only [R.val, Option.bind_some] at eq
                have hD5 := e5 _ _ hD4
                cases qn : lcD gt1 ft1 fe (wipeE en vs1) ds1 with
                | none => rw [qn] at eq; cases eq
                | some yn =>
                  rw [qn, Option.bind_some] at eq
                  cases q4 : lcD2 gt ft fi1 gt1 ft1 fe vs1 env0 (ds.drop (i + 1)) with
                  | none => rw [q4] at eq; cases eq
                  | some ys3 =>
                    rw [q4] at eq
                    have eq' : yn ++ ys3 = ys2 := Option.some.inj eq
                    clear eq
                    intro s0 H0 L cl fp
                    refine hi1 _ W0 (C.blk s0 H0 scope cl L fp) σ2 H5 F4 en _ (E5.mono e5 fun _ z => z) ?_
                    rw [qi]
                    intro jj H6 e6 r6
                    obtain ⟨J1, hs1, hd1⟩ := jj
                    obtain ⟨rs1, wk1⟩ := r6
                    have hD6 := e6 _ _ hD5
                    have s6 := (s4.trans e5).trans e6
                    generalize hen2 : wipeE en vs1 = en2 at qn
                    have E6 : EnvOk g.D.K F4 (wipe σ2 vs1) H6 en2 := hen2 ▸ wipeE_ok ((E5.mono e5 fun _ z => z).mono e6 fun _ z => z) vs1
                    let F6 : Fp := fun a => Fx F4 H5 a ∧ H6 a ≠ none
                    have nF6 : ¬ F6 Dn := fun ⟨zf, _⟩ => by
                      rcases zf with zf | zf
                      · exact zf.2.1 rfl
                      · rw [hD5] at zf; cases zf
                    have nF4 : ¬ F4 Dn := fun zf => zf.2.1 rfl
                    let Pv1 : Nat → Hp → Prop := fun j H7 => ∃ acc1 za zb, H7 Dn = some (.lst acc1) ∧ Same H1 H7 ∧ RpA g.D.K H7 F6 hs1 hd1 ∧ EnvOk g.D.K F4 (wipe σ2 vs1) H7 en2 ∧ RpA g.D.K H7 S acc1 za ∧ lcD gt1 ft1 fe en2 (ds1.drop j) = some zb ∧ ys = za ++ zb ++ ys3
                    refine ⟨fun j m H7 => m = ds1.length - j ∧ j ≤ ds1.length ∧ Pv1 j H7, ⟨_, rfl, Nat.zero_le _, acc, ys1, yn, hD6, s6, rs1.tight, E6, rA.mono ((e4.trans e5).trans e6) fun _ z => z, by simpa using qn, by rw [ey, ← eq', List.append_assoc]⟩, ?_⟩
                    rintro j m H7 ⟨rfl, hjl, acc1, za, zb, hDn7, sm7, rs7, E7, rA7, eq7, ey7⟩
                    obtain ⟨go1, stop1, yld1⟩ := wk1 _ H7 rs7
                    by_cases hlt1 : j < ds1.length
                    · refine .inr ⟨go1 j hlt1, Pv1 (j + 1), fun H' p => ⟨_, by omega, rfl, hlt1, p⟩, fun x1 H8 y1 => ?_⟩
                      obtain ⟨e8, d1, hd8, r8⟩ := yld1 j x1 H8 hlt1 y1
                      have edrop1 : ds1.drop j = d1 :: ds1.drop (j + 1) := by
                        rw [List.drop_eq_getElem_cons hlt1]
                        rw [List.getElem?_eq_getElem hlt1] at hd8
                        rw [Option.some.inj hd8]
                      rw [edrop1] at eq7
                      unfold lcD at eq7
                      have hD8 : H8 Dn = some (.lst acc1) := e8 _ _ hDn7
                      have s8 := sm7.trans e8
                      let F8 : Fp := fun a => Fx F H a ∧ a ≠ Dn ∧ H8 a ≠ none
                      have E8 : EnvOk g.D.K F8 (wipe σ2 vs1) H8 en2 := fun k d' hk => by
                        obtain ⟨u, h2, h3⟩ := E7 k d' hk
                        exact ⟨u, h2, h3.tight.mono e8 fun a ⟨fa, na⟩ => ⟨fa.1, fa.2.1, fun zz => na (e8.free zz)⟩⟩
                      have up : ∀ a, Fx F4 H5 a → Fx F H a ∧ a ≠ Dn := fun a fa => by
                        rcases fa with fa | fa
                        · exact ⟨fa.1, fa.2.1⟩
                        · exact ⟨.inr ((e1.trans (s4.trans e5)).free fa), fun zz => by rw [zz, hD5] at fa; cases fa⟩
                      have r8' : Rp g.D.K H8 F8 x1 d1 := r8.tight.mono (Same.refl _) fun a ⟨fa, na⟩ => by
                        rcases fa with fa | fa
                        · exact ⟨(up a fa.1).1, (up a fa.1).2, na⟩
                        · exact ⟨.inr ((e1.trans sm7).free fa), (fun zz => by rw [zz, hDn7] at fa; cases fa), na⟩
                      cases qg1 : gt1 d1 en2 with
                      | none => rw [qg1] at eq7; cases eq7
                      | some en3 =>
                        rw [qg1, Option.bind_some] at eq7
                        cases qt1 : ft1 en3 with
                        | ex c => rw [qt1] at eq7; cases eq7
                        | no => rw [qt1] at eq7; cases eq7
                        | ok k1 =>
                          rw [qt1] at eq7
                          simp only [R.val, Option.bind_some] at eq7
                          intro s0 H0 L cl fp
                          refine hg1 _ W0 (C.blk s0 H0 scope cl L fp) _ H8 F8 en2 x1 d1 _ E8 r8' ?_
                          rw [qg1]
                          intro σ3 hw3 E9
                          refine ⟨hw3.trans wipe_wipe, ?_⟩
                          intro s0 H0 L cl fp
                          refine ht1 _ W0 (C.blk s0 H0 scope cl L fp) σ3 H8 F8 en3 _ E9 ?_
                          rw [qt1]
                          intro b1 H9 e9 rb1
                          cases rb1
                          have hD9 := e9 _ _ hD8
                          cases k1 with
                          | true =>
                            rw [if_pos rfl] at eq7
                            rw [if_pos rfl]
                            cases qe : fe en3 with
                            | ex c => rw [qe] at eq7; cases eq7
                            | no => rw [qe] at eq7; cases eq7
                            | ok yv =>
                              rw [qe] at eq7
                              simp only [R.val, Option.bind_some] at eq7
                              intro s0 H0 L cl fp
                              refine he _ W0 (C.blk s0 H0 scope cl L fp) σ3 H9 F8 en3 _ (E9.mono e9 fun _ z => z) ?_
                              rw [qe]
                              intro v H10 e10 r10
                              have hD10 := e10 _ _ hD9
                              have s10 := (s8.trans e9).trans e10
                              have e7 := (e8.trans e9).trans e10
                              cases q5 : lcD gt1 ft1 fe en2 (ds1.drop (j + 1)) with
                              | none => rw [q5] at eq7; cases eq7
                              | some zb' =>
                                rw [q5] at eq7
                                cases eq7
                                have hlen : acc1.length < sizeLine := by
                                  rw [rA7.length]
                                  rw [ey7, List.length_append, List.length_append, List.length_cons] at hz
                                  omega
                                refine ⟨acc1, hD10, hlen, acc1 ++ [v], za ++ [yv], zb', upd_same, fun a o ha => ?_, RpA.upd hD10 nF6 (rs7.mono e7 fun _ z => z), fun k d' hk => ?_, ?_, q5, by rw [ey7]; simp⟩
                                · rw [upd_ne (fun z => by rw [z, hD] at ha; cases ha)]
                                  exact s10 _ _ ha
                                · obtain ⟨u, h2, h3⟩ := E7 k d' hk
                                  exact ⟨u, h2, (h3.mono e7 fun _ z => z).upd hD10 nF4⟩
                                · refine RpA.upd hD10 (fun z => z.2 rfl) ((rA7.mono e7 fun _ z => z).snoc (r10.mono (Same.refl _) fun a za => ?_))
                                  rcases za with za | za
                                  · exact ⟨za.1, za.2.1⟩
                                  · exact ⟨.inr ((e1.trans (s8.trans e9)).free za), fun zz => by rw [zz, hD9] at za; cases za⟩
                          | false =>
                            rw [if_neg (by simp)] at eq7
                            rw [if_neg (by simp)]
                            have e7 := e8.trans e9
                            exact ⟨acc1, za, zb, hD9, s8.trans e9, rs7.mono e7 fun _ z => z, E7.mono e7 fun _ z => z, rA7.mono e7 fun _ z => z, eq7, ey7⟩
                    · have ej : j = ds1.length := by omega
                      subst ej
                      rw [List.drop_length] at eq7
                      cases eq7
                      rw [List.append_nil] at ey7
                      exact .inl ⟨stop1, acc1, za, ys3, hDn7, sm7, rA7, q4, ey7⟩
            | false =>
              rw [if_neg (by simp)] at eq
              rw [if_neg (by simp)]
              exact ⟨acc, ys1, ys2, e5 _ _ hD4, s4.trans e5, rA.mono (e4.trans e5) fun _ z => z, eq, ey⟩
      · have ei : i = ds.length := by omega
        subst ei
        rw [List.drop_length] at eq
        cases eq
        rw [List.append_nil] at ey
        subst ey
        exact .inl ⟨stop, h1 (.ref Dn) H3 sm ⟨Dn, acc, _, rfl, rfl, hDH, hDn, rA⟩⟩
    · rw [if_neg z] at h1
      exact h1.elim
/-- name = [e for t in i if c for t1 in i1 if c1], on one line; the list is not the frame's own -/
theorem pus_setLc2V (i : Nat) (m : List Nat) {y : Str} {scope : Scope} (own : List (Str × Nat)) (vs1 : List Nat) (hi : PurI g tg iter fi) (hg : PurGE (g.blk scope) (own.map (·.2)) tg gt) (ht : PurTs (g.blk scope) ifs ft) (hi1 : PurI (g.blk scope) tg1 iter1 fi1) (hg1 : PurGE (g.blk scope) vs1 tg1 gt1) (ht1 : PurTs (g.blk scope) ifs1 ft1) (he : Pur (g.blk scope) elt fe)
    (hy : g.N[i]? = some y := by rfl) (hyl : g.sc.names.lookup y = some .local := by rfl) (hv : ∀ j ∈ vs1, j ∈ own.map (·.2) := by decide)
    (hsw : ∀ env : Env, env.scope = g.sc → swapsWith (.ListComp elt [⟨tg, iter, ifs, 0⟩, ⟨tg1, iter1, ifs1, 0⟩] scope pos) (some (.Name y py)) spos.line env = pure true := by intro env he; obtain ⟨⟩ := env; cases he; rfl)
    (ok : BlkOk g.N g.sc scope own := by dsimp only; exact ⟨rfl, by decide +kernel, by decide +kernel, by decide +kernel, by decide +kernel⟩)
    (hc : g.calm = true := by rfl) (hs : ∀ env x, foldedSetIterable iter env x = pure x := by intro _ _; rfl) (hs1 : ∀ env x, foldedSetIterable iter1 env x = pure x := by intro _ _; rfl) :
    PurS g (.Assign [.Name y py] (.ListComp elt [⟨tg, iter, ifs, 0⟩, ⟨tg1, iter1, ifs1, 0⟩] scope pos) spos) (fun se => SR.of ((fi (view m 0 se)).bind fun ds => ofO (lcD2 gt ft fi1 gt1 ft1 fe vs1 (wipeE (view m 0 se) (own.map (·.2))) ds)) se fun d => .next (storeV m i d se)) := by
  intro X W C H0 F0 hs0 hd σ H se N ⟨F, s⟩ h
  refine wS_of (ps_setLc2 (by rw [C.calm]; exact hc) C.nd (by rw [C.N]; exact hy) (by rw [C.sc]; exact hyl) (hsw _ C.sc) pi_w (blk_ok C ok) hv (g := gBlk X scope tg) (tt := tBlk X scope ifs) (wi1 := iBlk X scope tg1 iter1) (g1 := gBlk X scope tg1) (tt1 := tBlk X scope ifs1) (te := eBlk X scope elt) ?_ ?_ ?_ ?_ ?_ ?_ (hs _) hs1)
    (lc2_main _ vs1 C hi hg ht hi1 hg1 ht1 he (s.env (m := m)) (of_wants s h fun d v H1 _ e1 ⟨p, vs, ds, ev, ed, hn, hp, r⟩ h1 => by
      subst ev ed
      exact h1 _ H1 (s.storeV e1 (.lst (.inl ⟨.inl hp, .inr hn⟩) (r.mono (Same.refl _) fun _ z => z.1)) i)))
  · exact fun s H0 L cl fp => ⟨fun pins s1 σ1 H1 v u Q I r q => pg_w.run pins s1 σ1 H1 v u Q I r (q s H0 L cl fp)⟩
  · exact fun s H0 L cl fp => ⟨fun pins s1 σ1 H1 Q I q => by
      obtain ⟨t, ht, q⟩ := q s H0 L cl fp
      exact ht.run pins s1 σ1 H1 Q I q⟩
  · exact fun s H0 L cl fp => ⟨fun pins s1 σ1 H1 Q I q => pi_w.run pins s1 σ1 H1 Q I (q s H0 L cl fp)⟩
  · exact fun s H0 L cl fp => ⟨fun pins s1 σ1 H1 v u Q I r q => pg_w.run pins s1 σ1 H1 v u Q I r (q s H0 L cl fp)⟩
  · exact fun s H0 L cl fp => ⟨fun pins s1 σ1 H1 Q I q => by
      obtain ⟨t, ht, q⟩ := q s H0 L cl fp
      exact ht.run pins s1 σ1 H1 Q I q⟩
  · exact fun s H0 L cl fp => ⟨fun pins s1 σ1 H1 Q I q => pe_w.run pins s1 σ1 H1 Q I (q s H0 L cl fp)⟩
end
end Pu
/-! rows of rational numbers as a ring -/
namespace Al
/-! ### lists by their places -/
def cf (p : List Rat) (i : Nat) : Rat := p.getD i 0
@[simp] theorem cf_nil (i : Nat) : cf [] i = 0 := by simp [cf]
@[simp] theorem cf_zero (a : Rat) (p : List Rat) : cf (a :: p) 0 = a := by simp [cf]
@[simp] theorem cf_succ (a : Rat) (p : List Rat) (i : Nat) : cf (a :: p) (i + 1) = cf p i := by simp [cf]
theorem cf_ge {p : List Rat} {i : Nat} (h : p.length ≤ i) : cf p i = 0 := by simp [cf, List.getElem?_eq_none h]
/-- without the noughts behind -/
def trimL : List Rat → List Rat
  | [] => []
  | c :: p => if trimL p = [] ∧ c = 0 then [] else c :: trimL p
theorem cf_trim : ∀ (p : List Rat) (i : Nat), cf (trimL p) i = cf p i
  | [], i => rfl
  | c :: p, i => by
    unfold trimL
    split
    · rename_i h
      cases i with
      | zero => simp [h.2]
      | succ i =>
        have := cf_trim p i
        rw [h.1] at this
        simpa using this
    · cases i with
      | zero => simp
      | succ i => simpa using cf_trim p i
theorem trim_nil_of {p : List Rat} (h : ∀ i, cf p i = 0) : trimL p = [] := by
  induction p with
  | nil => rfl
  | cons c p ih =>
    have h0 := h 0
    have hs : ∀ i, cf p i = 0 := fun i => by simpa using h (i + 1)
    unfold trimL
    rw [if_pos ⟨ih hs, by simpa using h0⟩]
theorem trim_ext : ∀ {p q : List Rat}, (∀ i, cf p i = cf q i) → trimL p = trimL q
  | [], q, h => (trim_nil_of fun i => by rw [← h i]; simp).symm
  | c :: p, [], h => trim_nil_of fun i => by rw [h i]; simp
  | c :: p, d :: q, h => by
    have h0 : c = d := by simpa using h 0
    have hs : trimL p = trimL q := trim_ext fun i => by simpa using h (i + 1)
    unfold trimL
    rw [h0, hs]
theorem trim_trim (p : List Rat) : trimL (trimL p) = trimL p := trim_ext (cf_trim p)
theorem trim_len : ∀ (p : List Rat), (trimL p).length ≤ p.length
  | [] => Nat.le_refl _
  | c :: p => by
    have := trim_len p
    unfold trimL
    split <;> simp <;> omega
theorem trim_last : ∀ {p : List Rat}, trimL p ≠ [] → cf (trimL p) ((trimL p).length - 1) ≠ 0
  | [], h => absurd rfl h
  | c :: p, h => by
    unfold trimL at h ⊢
    split
    · rename_i z; rw [if_pos z] at h; exact absurd rfl h
    · rename_i z
      by_cases hp : trimL p = []
      · rw [hp]; simp; exact fun e => z ⟨hp, e⟩
      · have := trim_last hp
        have hl : (trimL p).length ≠ 0 := fun e => hp (List.length_eq_zero_iff.mp e)
        rw [List.length_cons, Nat.add_sub_cancel]
        obtain ⟨n, hn⟩ : ∃ n, (trimL p).length = n + 1 := ⟨(trimL p).length - 1, by omega⟩
        rw [hn, cf_succ]
        rwa [hn, Nat.add_sub_cancel] at this
/-! ### the operations on lists -/
def addL : List Rat → List Rat → List Rat
  | [], q => q
  | p, [] => p
  | a :: p, b :: q => (a + b) :: addL p q
theorem cf_add : ∀ (p q : List Rat) (i : Nat), cf (addL p q) i = cf p i + cf q i
  | [], q, i => by cases q <;> simp [addL, Rat.zero_add]
  | a :: p, [], i => by simp [addL, Rat.add_zero]
  | a :: p, b :: q, 0 => by simp [addL]
  | a :: p, b :: q, i + 1 => by simpa [addL] using cf_add p q i
def sclL (c : Rat) (p : List Rat) : List Rat := p.map (c * ·)
theorem cf_scl (c : Rat) : ∀ (p : List Rat) (i : Nat), cf (sclL c p) i = c * cf p i
  | [], i => by simp [sclL, Rat.mul_zero]
  | a :: p, 0 => by simp [sclL]
  | a :: p, i + 1 => by simpa [sclL] using cf_scl c p i
def sh (f : Nat → Rat) : Nat → Rat
  | 0 => 0
  | i + 1 => f i
@[simp] theorem sh_zero (f : Nat → Rat) : sh f 0 = 0 := rfl
@[simp] theorem sh_succ (f : Nat → Rat) (i : Nat) : sh f (i + 1) = f i := rfl
/-- a row times what stands at the places -/
def mulF : List Rat → (Nat → Rat) → Nat → Rat
  | [], _ => fun _ => 0
  | a :: p, f => fun i => a * f i + sh (mulF p f) i
def mulL : List Rat → List Rat → List Rat
  | [], _ => []
  | a :: p, q => addL (sclL a q) (0 :: mulL p q)
theorem cf_cons0 (p : List Rat) (i : Nat) : cf (0 :: p) i = sh (cf p) i := by cases i <;> simp
theorem cf_mul : ∀ (p q : List Rat), cf (mulL p q) = mulF p (cf q)
  | [], q => by funext i; simp [mulL, mulF]
  | a :: p, q => by
    funext i
    simp only [mulL, mulF]
    rw [cf_add, cf_scl, cf_cons0, cf_mul p q]
theorem mulF_add (p : List Rat) (f g : Nat → Rat) (i : Nat) : mulF p (fun j => f j + g j) i = mulF p f i + mulF p g i := by
  induction p generalizing i with
  | nil => simp [mulF, Rat.add_zero]
  | cons a p ih =>
    simp only [mulF]
    cases i with
    | zero => simp only [sh_zero]; grind
    | succ i => simp only [sh_succ]; rw [ih]; grind
theorem mulF_scl (p : List Rat) (c : Rat) (f : Nat → Rat) (i : Nat) : mulF p (fun j => c * f j) i = c * mulF p f i := by
  induction p generalizing i with
  | nil => simp [mulF, Rat.mul_zero]
  | cons a p ih =>
    simp only [mulF]
    cases i with
    | zero => simp only [sh_zero]; grind
    | succ i => simp only [sh_succ]; rw [ih]; grind
theorem mulF_sh (p : List Rat) (f : Nat → Rat) (i : Nat) : mulF p (sh f) i = sh (mulF p f) i := by
  induction p generalizing i with
  | nil => cases i <;> simp [mulF]
  | cons a p ih =>
    cases i with
    | zero => simp [mulF]; grind
    | succ i =>
      simp only [mulF, sh_succ]
      rw [ih]
theorem mulF_zero (p : List Rat) (i : Nat) : mulF p (fun _ => 0) i = 0 := by
  induction p generalizing i with
  | nil => rfl
  | cons a p ih =>
    show a * 0 + sh (mulF p fun _ => 0) i = 0
    cases i with
    | zero => simp only [sh_zero]; grind
    | succ i => simp only [sh_succ]; rw [ih]; grind
theorem mulF_addL (p q : List Rat) (f : Nat → Rat) (i : Nat) : mulF (addL p q) f i = mulF p f i + mulF q f i := by
  induction p generalizing q i with
  | nil => simp [addL, mulF]; grind
  | cons a p ih =>
    cases q with
    | nil => simp [addL, mulF]; grind
    | cons b q =>
      simp only [addL, mulF]
      cases i with
      | zero => simp only [sh_zero]; grind
      | succ i => simp only [sh_succ]; rw [ih]; grind
theorem mulF_sclL (c : Rat) (p : List Rat) (f : Nat → Rat) (i : Nat) : mulF (sclL c p) f i = c * mulF p f i := by
  induction p generalizing i with
  | nil => show (0 : Rat) = c * 0; grind
  | cons a p ih =>
    have e : sclL c (a :: p) = (c * a) :: sclL c p := rfl
    rw [e]
    simp only [mulF]
    cases i with
    | zero => simp only [sh_zero]; grind
    | succ i => simp only [sh_succ]; rw [ih]; grind
theorem mulF_cons0 (p : List Rat) (f : Nat → Rat) (i : Nat) : mulF (0 :: p) f i = sh (mulF p f) i := by
  show 0 * f i + _ = _
  grind
theorem mulF_mulL (p q : List Rat) (f : Nat → Rat) : mulF (mulL p q) f = mulF p (mulF q f) := by
  induction p with
  | nil => rfl
  | cons a p ih =>
    funext i
    simp only [mulL]
    rw [mulF_addL, mulF_sclL, mulF_cons0, ih]
    rfl
theorem mulF_trim (p : List Rat) (f : Nat → Rat) : mulF (trimL p) f = mulF p f := by
  induction p with
  | nil => rfl
  | cons c p ih =>
    unfold trimL
    split
    · rename_i h
      funext i
      simp only [mulF]
      rw [← ih, h.1, h.2]
      cases i <;> simp [mulF] <;> grind
    · funext i
      simp only [mulF]
      rw [ih]
def dl : Nat → Rat
  | 0 => 1
  | _ => 0
theorem mulF_dl (p : List Rat) : mulF p dl = cf p := by
  induction p with
  | nil => funext i; simp [mulF]
  | cons a p ih =>
    funext i
    simp only [mulF]
    rw [ih]
    cases i <;> simp [dl] <;> grind
theorem mulF_comm (p q : List Rat) : mulF p (cf q) = mulF q (cf p) := by
  induction p with
  | nil =>
    funext i
    have e : cf [] = fun _ => 0 := by funext j; simp
    rw [e, mulF_zero]
    rfl
  | cons a p ih =>
    funext i
    have e : cf (a :: p) = fun j => a * dl j + sh (cf p) j := by
      funext j
      cases j <;> simp [dl] <;> grind
    rw [e, mulF_add, mulF_scl, mulF_sh, mulF_dl]
    show a * cf q i + sh (mulF p (cf q)) i = _
    rw [ih]
/-! ### the ring -/
structure Poly where
  val : List Rat
  ok : trimL val = val
def ofL (p : List Rat) : Poly := ⟨trimL p, trim_trim p⟩
def Poly.c (p : Poly) (i : Nat) : Rat := cf p.val i
@[simp] theorem c_ofL (p : List Rat) (i : Nat) : (ofL p).c i = cf p i := cf_trim p i
theorem Poly.ext {p q : Poly} (h : ∀ i, p.c i = q.c i) : p = q := by
  obtain ⟨p, hp⟩ := p
  obtain ⟨q, hq⟩ := q
  have : trimL p = trimL q := trim_ext h
  rw [hp, hq] at this
  subst this
  rfl
theorem Poly.ext_iff' {p q : Poly} : p = q ↔ ∀ i, p.c i = q.c i := ⟨fun h i => by rw [h], Poly.ext⟩
theorem ofL_val (p : Poly) : ofL p.val = p := Poly.ext fun i => c_ofL _ i
instance : DecidableEq Poly := fun p q => if h : p.val = q.val then isTrue (by cases p; cases q; cases h; rfl) else isFalse (fun e => h (by rw [e]))
/-- a number -/
def C (a : Rat) : Poly := ofL [a]
@[simp] theorem c_C (a : Rat) (i : Nat) : (C a).c i = if i = 0 then a else 0 := by
  unfold C
  rw [c_ofL]
  cases i <;> simp
instance (n : Nat) : OfNat Poly n := ⟨C n⟩
instance : Add Poly := ⟨fun p q => ofL (addL p.val q.val)⟩
instance : Mul Poly := ⟨fun p q => ofL (mulL p.val q.val)⟩
instance : Neg Poly := ⟨fun p => ofL (sclL (-1) p.val)⟩
instance : Sub Poly := ⟨fun p q => p + -q⟩
@[simp] theorem c_zero (i : Nat) : (0 : Poly).c i = 0 := by
  show (C ((0 : Nat) : Rat)).c i = 0
  rw [c_C]
  split <;> rfl
@[simp] theorem c_one (i : Nat) : (1 : Poly).c i = if i = 0 then 1 else 0 := c_C _ i
@[simp] theorem c_add (p q : Poly) (i : Nat) : (p + q).c i = p.c i + q.c i := by
  show (ofL (addL p.val q.val)).c i = _
  rw [c_ofL, cf_add]
  rfl
theorem c_mulF (p q : Poly) : (p * q).c = mulF p.val q.c := by
  funext i
  show (ofL (mulL p.val q.val)).c i = _
  rw [c_ofL, cf_mul]
  rfl
@[simp] theorem c_neg (p : Poly) (i : Nat) : (-p).c i = -p.c i := by
  show (ofL (sclL (-1) p.val)).c i = _
  rw [c_ofL, cf_scl]
  show -1 * p.c i = _
  grind
@[simp] theorem c_sub (p q : Poly) (i : Nat) : (p - q).c i = p.c i - q.c i := by
  show (p + -q).c i = _
  rw [c_add, c_neg]
  grind
theorem mul_comm' (p q : Poly) : p * q = q * p := Poly.ext fun i => by rw [c_mulF, c_mulF]; exact congrFun (mulF_comm p.val q.val) i
theorem mul_assoc' (p q r : Poly) : p * q * r = p * (q * r) := Poly.ext fun i => by
  rw [c_mulF, c_mulF, c_mulF]
  show mulF (trimL (mulL p.val q.val)) r.c i = _
  rw [mulF_trim, mulF_mulL]
theorem mul_add' (p q r : Poly) : p * (q + r) = p * q + p * r := Poly.ext fun i => by
  rw [c_mulF, c_add, c_mulF, c_mulF, ← mulF_add]
  congr 1
  funext j
  rw [c_add]
@[simp] theorem c_Cmul (a : Rat) (p : Poly) (i : Nat) : (C a * p).c i = a * p.c i := by
  rw [c_mulF]
  show mulF (trimL [a]) p.c i = _
  rw [mulF_trim]
  cases i <;> simp [mulF] <;> grind
theorem one_mul' (p : Poly) : 1 * p = p := Poly.ext fun i => by
  show (C 1 * p).c i = _
  rw [c_Cmul]
  grind
theorem zero_mul' (p : Poly) : 0 * p = 0 := Poly.ext fun i => by
  show (C 0 * p).c i = _
  rw [c_Cmul, c_zero]
  grind
instance : NatCast Poly := ⟨fun n => C n⟩
instance : IntCast Poly := ⟨fun n => C n⟩
def npow (p : Poly) : Nat → Poly
  | 0 => 1
  | n + 1 => npow p n * p
instance : HPow Poly Nat Poly := ⟨npow⟩
instance : SMul Nat Poly := ⟨fun n p => (n : Poly) * p⟩
instance : SMul Int Poly := ⟨fun n p => (n : Poly) * p⟩
theorem C_add (a b : Rat) : C (a + b) = C a + C b := Poly.ext fun i => by
  rw [c_add, c_C, c_C, c_C]
  split <;> grind
theorem C_mul (a b : Rat) : C (a * b) = C a * C b := Poly.ext fun i => by
  rw [c_Cmul, c_C, c_C]
  split <;> grind
theorem C_neg (a : Rat) : C (-a) = -C a := Poly.ext fun i => by
  rw [c_neg, c_C, c_C]
  split <;> grind
theorem C_sub (a b : Rat) : C (a - b) = C a - C b := Poly.ext fun i => by
  rw [c_sub, c_C, c_C, c_C]
  split <;> grind
instance : Lean.Grind.CommRing Poly where
  add_zero p := Poly.ext fun i => by rw [c_add, c_zero]; grind
  add_comm p q := Poly.ext fun i => by rw [c_add, c_add]; grind
  add_assoc p q r := Poly.ext fun i => by simp only [c_add]; grind
  mul_assoc := mul_assoc'
  mul_comm := mul_comm'
  mul_one p := by rw [mul_comm', one_mul']
  one_mul := one_mul'
  left_distrib := mul_add'
  right_distrib p q r := by rw [mul_comm', mul_add', mul_comm' r, mul_comm' r]
  mul_zero p := by rw [mul_comm', zero_mul']
  zero_mul := zero_mul'
  pow_zero p := rfl
  pow_succ p n := rfl
  ofNat_succ n := by
    show C ((n + 1 : Nat) : Rat) = C (n : Rat) + C ((1 : Nat) : Rat)
    rw [← C_add]
    congr 1
    rw [Rat.natCast_add]
  neg_add_cancel p := Poly.ext fun i => by simp only [c_add, c_neg, c_zero]; grind
  sub_eq_add_neg p q := rfl
  neg_zsmul i p := by
    show C ((-i : Int) : Rat) * p = -(C (i : Rat) * p)
    refine Poly.ext fun j => ?_
    rw [c_neg, c_Cmul, c_Cmul, Rat.intCast_neg]
    grind
  zsmul_natCast_eq_nsmul n p := by
    show C (((n : Nat) : Int) : Rat) * p = C (n : Rat) * p
    rw [Rat.intCast_natCast]
  intCast_ofNat n := by
    show C (((n : Nat) : Int) : Rat) = C (n : Rat)
    rw [Rat.intCast_natCast]
  intCast_neg i := by
    show C ((-i : Int) : Rat) = -C (i : Rat)
    rw [← C_neg, Rat.intCast_neg]
theorem C_zero : C 0 = 0 := rfl
theorem C_one : C 1 = 1 := rfl
example (p q r : Poly) : (p + q) * (p - q) + r * 2 = p * p - q * q + r + r := by grind
end Al
namespace Al
/-! ### lengths -/
namespace Poly
def len (p : Poly) : Nat := p.val.length
def ld (p : Poly) : Rat := p.c (p.len - 1)
theorem c_ge {p : Poly} {i : Nat} (h : p.len ≤ i) : p.c i = 0 := cf_ge h
theorem len_ofL (l : List Rat) : (ofL l).len ≤ l.length := trim_len l
theorem ld_ne {p : Poly} (h : p ≠ 0) : p.ld ≠ 0 := by
  have hv : trimL p.val ≠ [] := by
    rw [p.ok]
    exact fun e => h (by rw [← ofL_val p, e]; rfl)
  have := trim_last hv
  rw [p.ok] at this
  exact this
theorem len_zero : (0 : Poly).len = 0 := rfl
theorem len_eq_zero {p : Poly} : p.len = 0 ↔ p = 0 := by
  refine ⟨fun h => ?_, fun h => by rw [h]; rfl⟩
  have : p.val = [] := List.length_eq_zero_iff.mp h
  rw [← ofL_val p, this]
  rfl
theorem len_pos {p : Poly} : 0 < p.len ↔ p ≠ 0 := by
  rw [Nat.pos_iff_ne_zero, Ne, len_eq_zero]
theorem len_le {p : Poly} {n : Nat} (h : ∀ i, n ≤ i → p.c i = 0) : p.len ≤ n := by
  by_cases hp : p = 0
  · rw [hp]; exact Nat.zero_le _
  · have := ld_ne hp
    have h1 := len_pos.mpr hp
    rcases Nat.lt_or_ge n p.len with h2 | h2
    · exact absurd (h (p.len - 1) (by omega)) this
    · exact h2
theorem len_eq {p : Poly} {n : Nat} (h : ∀ i, n < i → p.c i = 0) (h0 : p.c n ≠ 0) : p.len = n + 1 := by
  have h1 : p.len ≤ n + 1 := len_le fun i hi => h i (by omega)
  rcases Nat.lt_or_ge p.len (n + 1) with h2 | h2
  · exact absurd (c_ge (by omega)) h0
  · omega
theorem ld_eq {p : Poly} {n : Nat} (h : p.len = n + 1) : p.ld = p.c n := by unfold ld; rw [h]; rfl
theorem lt_len {p : Poly} {i : Nat} (h : p.c i ≠ 0) : i < p.len := by
  rcases Nat.lt_or_ge i p.len with h1 | h1
  · exact h1
  · exact absurd (c_ge h1) h
theorem len_add (p q : Poly) : (p + q).len ≤ max p.len q.len := len_le fun i hi => by
  rw [c_add, c_ge (by omega), c_ge (by omega)]; exact Rat.add_zero _
theorem len_neg (p : Poly) : (-p).len = p.len := by
  refine Nat.le_antisymm (len_le fun i hi => by rw [c_neg, c_ge hi]; rfl) ?_
  have : p = -(-p) := by grind
  rw [this]
  refine len_le fun i hi => by rw [c_neg, c_ge (by rw [← this] at *; exact hi)]; rfl
theorem len_sub (p q : Poly) : (p - q).len ≤ max p.len q.len := len_le fun i hi => by
  rw [c_sub, c_ge (by omega), c_ge (by omega)]; exact Rat.sub_self
theorem len_C {a : Rat} (h : a ≠ 0) : (C a).len = 1 := len_eq (n := 0) (fun i hi => by rw [c_C, if_neg (by omega)]) (by rw [c_C]; simpa using h)
theorem len_C_le (a : Rat) : (C a).len ≤ 1 := len_le fun i hi => by rw [c_C, if_neg (by omega)]
theorem len_one : (1 : Poly).len = 1 := len_C (by decide)
theorem C_inj {a b : Rat} (h : C a = C b) : a = b := by
  have := congrArg (fun p => p.c 0) h
  simpa using this
theorem C_ne {a : Rat} (h : a ≠ 0) : C a ≠ 0 := fun e => h (C_inj e)
theorem len_one_iff {p : Poly} : p.len ≤ 1 ↔ p = C (p.c 0) := by
  refine ⟨fun h => Poly.ext fun i => ?_, fun h => by rw [h]; exact len_C_le _⟩
  rw [c_C]
  by_cases hi : i = 0
  · rw [if_pos hi, hi]
  · rw [if_neg hi, c_ge (by omega)]
end Poly
open Poly
/-! ### a number and a power of the letter -/
def mo (a : Rat) (k : Nat) : Poly := ofL (List.replicate k 0 ++ [a])
theorem cf_pad : ∀ (k : Nat) (p : List Rat) (i : Nat), cf (List.replicate k 0 ++ p) i = if i < k then 0 else cf p (i - k)
  | 0, p, i => by simp
  | k + 1, p, 0 => by simp [List.replicate_succ]
  | k + 1, p, i + 1 => by
    rw [List.replicate_succ, List.cons_append, cf_succ, cf_pad k p i]
    by_cases h : i < k
    · rw [if_pos h, if_pos (by omega)]
    · rw [if_neg h, if_neg (by omega), Nat.add_sub_add_right]
@[simp] theorem c_mo (a : Rat) (k i : Nat) : (mo a k).c i = if i = k then a else 0 := by
  unfold mo
  rw [c_ofL, cf_pad]
  by_cases h : i < k
  · rw [if_pos h, if_neg (by omega)]
  · rw [if_neg h]
    by_cases h2 : i = k
    · subst h2; simp
    · rw [if_neg h2, cf_ge]
      simp
      omega
theorem c_moMul (a : Rat) (k : Nat) (p : Poly) (i : Nat) : (mo a k * p).c i = if i < k then 0 else a * p.c (i - k) := by
  rw [c_mulF]
  show mulF (trimL (List.replicate k 0 ++ [a])) p.c i = _
  rw [mulF_trim]
  induction k generalizing i with
  | zero =>
    show a * p.c i + sh (mulF [] p.c) i = _
    have : sh (mulF [] p.c) i = 0 := by cases i <;> rfl
    rw [this, if_neg (by omega), Nat.sub_zero]
    grind
  | succ k ih =>
    rw [List.replicate_succ, List.cons_append]
    show (0 : Rat) * p.c i + sh (mulF (List.replicate k 0 ++ [a]) p.c) i = _
    cases i with
    | zero => rw [if_pos (by omega), sh_zero]; grind
    | succ i =>
      rw [sh_succ, ih]
      by_cases h : i < k
      · rw [if_pos h, if_pos (by omega)]; grind
      · rw [if_neg h, if_neg (by omega), Nat.add_sub_add_right]; grind
theorem mo_zero (a : Rat) : mo a 0 = C a := rfl
theorem mo_mul (a b : Rat) (k m : Nat) : mo a k * mo b m = mo (a * b) (k + m) := Poly.ext fun i => by
  rw [c_moMul, c_mo, c_mo]
  by_cases h : i < k
  · rw [if_pos h, if_neg (by omega)]
  · rw [if_neg h]
    by_cases h2 : i = k + m
    · rw [if_pos (by omega), if_pos h2]
    · rw [if_neg (by omega), if_neg h2]; grind
theorem C_mo (a b : Rat) (m : Nat) : C a * mo b m = mo (a * b) m := by rw [← mo_zero, mo_mul, Nat.zero_add]
def X : Poly := mo 1 1
/-- a row from its first place on -/
theorem ofL_cons (a : Rat) (l : List Rat) : ofL (a :: l) = C a + X * ofL l := Poly.ext fun i => by
  rw [c_add, c_C, X, c_moMul, c_ofL, c_ofL]
  cases i with
  | zero => simp; grind
  | succ i => simp; grind
theorem ind_cons {P : Poly → Prop} (h0 : P 0) (hs : ∀ a p, P p → P (C a + X * p)) (p : Poly) : P p := by
  have : ∀ l : List Rat, P (ofL l) := by
    intro l
    induction l with
    | nil => exact h0
    | cons a l ih => rw [ofL_cons]; exact hs a _ ih
  rw [← ofL_val p]
  exact this _
theorem c_Xmul (p : Poly) (i : Nat) : (X * p).c (i + 1) = p.c i := by
  rw [X, c_moMul, if_neg (by omega)]
  simp
theorem c_Xmul0 (p : Poly) : (X * p).c 0 = 0 := by
  rw [X, c_moMul, if_pos (by omega)]
/-! ### the product's first and last places -/
theorem c_mul_top : ∀ (m n : Nat) (p q : Poly), p.len ≤ m + 1 → q.len ≤ n + 1 → (p * q).c (m + n) = p.c m * q.c n := by
  intro m
  induction m with
  | zero =>
    intro n p q hp hq
    rw [len_one_iff.mp hp, c_Cmul, Nat.zero_add, c_C, if_pos rfl]
  | succ m ih =>
    intro n p q hp hq
    -- p = C a + X * p'
    obtain ⟨a, p', rfl⟩ : ∃ a p', p = C a + X * p' := ⟨p.c 0, ofL (p.val.drop 1), Poly.ext fun i => by
      cases i with
      | zero => rw [c_add, c_C, c_Xmul0]; simp; grind
      | succ i =>
        rw [c_add, c_C, c_Xmul, c_ofL]
        have : cf (p.val.drop 1) i = p.c (i + 1) := by simp [cf, Poly.c, Nat.add_comm]
        rw [this, if_neg (by omega)]
        grind⟩
    have hp' : p'.len ≤ m + 1 := len_le fun i hi => by
      have := c_ge (p := C a + X * p') (i := i + 1) (by omega)
      rw [c_add, c_Xmul, c_C, if_neg (by omega)] at this
      grind
    have e : (C a + X * p') * q = C a * q + X * (p' * q) := by grind
    rw [e, c_add, c_Cmul, show m + 1 + n = (m + n) + 1 by omega, c_Xmul, ih n p' q hp' hq, c_ge (p := q) (by omega), c_add, c_C, c_Xmul, if_neg (by omega)]
    grind
theorem len_mul_le (p q : Poly) : (p * q).len ≤ p.len + q.len - 1 := by
  by_cases hp : p = 0
  · rw [hp, show (0 : Poly) * q = 0 by grind]; exact Nat.zero_le _
  · by_cases hq : q = 0
    · rw [hq, show p * (0 : Poly) = 0 by grind]; exact Nat.zero_le _
    · have h1 := len_pos.mpr hp
      have h2 := len_pos.mpr hq
      refine len_le fun i hi => ?_
      -- i = m + n with p.len ≤ m, or n
      rw [show i = p.len + (i - p.len) by omega, c_mul_top p.len (i - p.len) p q (by omega) (by omega), c_ge (p := p) (Nat.le_refl _)]
      grind
theorem mul_ne {p q : Poly} (hp : p ≠ 0) (hq : q ≠ 0) : p * q ≠ 0 := by
  have h1 := len_pos.mpr hp
  have h2 := len_pos.mpr hq
  have e := c_mul_top (p.len - 1) (q.len - 1) p q (by omega) (by omega)
  intro z
  rw [z, c_zero] at e
  rcases Rat.mul_eq_zero.mp e.symm with h | h
  · exact ld_ne hp h
  · exact ld_ne hq h
theorem len_mul {p q : Poly} (hp : p ≠ 0) (hq : q ≠ 0) : (p * q).len + 1 = p.len + q.len := by
  have h1 := len_pos.mpr hp
  have h2 := len_pos.mpr hq
  have e := c_mul_top (p.len - 1) (q.len - 1) p q (by omega) (by omega)
  have : p.len - 1 + (q.len - 1) < (p * q).len := lt_len (by
    rw [e]
    intro z
    rcases Rat.mul_eq_zero.mp z with h | h
    · exact ld_ne hp h
    · exact ld_ne hq h)
  have := len_mul_le p q
  omega
theorem ld_mul {p q : Poly} (hp : p ≠ 0) (hq : q ≠ 0) : (p * q).ld = p.ld * q.ld := by
  have h1 := len_pos.mpr hp
  have h2 := len_pos.mpr hq
  have h3 := len_mul hp hq
  have e := c_mul_top (p.len - 1) (q.len - 1) p q (by omega) (by omega)
  unfold ld
  rw [← e]
  congr 1
  omega
theorem mul_eq_zero {p q : Poly} : p * q = 0 ↔ p = 0 ∨ q = 0 := by
  refine ⟨fun h => ?_, fun h => ?_⟩
  · by_cases hp : p = 0
    · exact .inl hp
    · by_cases hq : q = 0
      · exact .inr hq
      · exact absurd h (mul_ne hp hq)
  · rcases h with h | h <;> rw [h] <;> grind
theorem mul_cancel {p q r : Poly} (hp : p ≠ 0) (h : p * q = p * r) : q = r := by
  have : p * (q - r) = 0 := by grind
  rcases mul_eq_zero.mp this with h | h
  · exact absurd h hp
  · grind
theorem c_mul0 (p q : Poly) : (p * q).c 0 = p.c 0 * q.c 0 := by
  refine ind_cons (P := fun p => (p * q).c 0 = p.c 0 * q.c 0) ?_ (fun a p ih => ?_) p
  · rw [show (0 : Poly) * q = 0 by grind, c_zero]; grind
  · rw [show (C a + X * p) * q = C a * q + X * (p * q) by grind, c_add, c_add, c_Cmul, c_Xmul0, c_Xmul0, c_C, if_pos rfl]; grind
end Al
namespace Al
theorem trim_id : ∀ {m : List Rat}, (m = [] ∨ cf m (m.length - 1) ≠ 0) → trimL m = m
  | [], _ => rfl
  | [a], h => by
    have ha : a ≠ 0 := by simpa using h
    simp [trimL, ha]
  | a :: b :: m, h => by
    have h' : cf (b :: m) ((b :: m).length - 1) ≠ 0 := by simpa using h
    have ih := trim_id (m := b :: m) (.inr h')
    unfold trimL
    rw [ih, if_neg (fun e => by cases e.1)]
theorem trim_eq {l m : List Rat} (h : ∀ i, cf l i = cf m i) (hm : m = [] ∨ cf m (m.length - 1) ≠ 0) : trimL l = m := (trim_ext h).trans (trim_id hm)
theorem cf_take (l : List Rat) (n i : Nat) : cf (l.take n) i = if i < n then cf l i else 0 := by
  by_cases h : i < n
  · rw [if_pos h]; simp [cf, List.getElem?_take, h]
  · rw [if_neg h]; simp [cf, List.getElem?_take, h]
/-- the first n, where all behind is nought and the last of them isn't -/
theorem trim_take {l : List Rat} {n : Nat} (hn : n ≤ l.length) (h0 : ∀ i, n ≤ i → cf l i = 0) (h1 : n = 0 ∨ cf l (n - 1) ≠ 0) : trimL l = l.take n := by
  refine trim_eq (fun i => ?_) ?_
  · rw [cf_take]
    split
    · rfl
    · exact h0 i (by omega)
  · rcases h1 with h1 | h1
    · left; rw [h1]; rfl
    · by_cases hz : n = 0
      · left; rw [hz]; rfl
      · right
        rw [List.length_take, cf_take, Nat.min_eq_left hn, if_pos (by omega)]
        exact h1
theorem cf_getD (l : List Rat) (i : Nat) : l.getD i 0 = cf l i := rfl
theorem poly_last {p : Poly} : p.val = [] ∨ cf p.val (p.val.length - 1) ≠ 0 := by
  by_cases h : p = 0
  · left; rw [h]; rfl
  · right; exact Poly.ld_ne h
end Al
namespace Al
open Poly
/-! ### whole numbers as a row -/
def gi (ts : List Int) (i : Nat) : Int := ts.getD i 0
def zp (ts : List Int) : Poly := ofL (ts.map fun i : Int => (i : Rat))
@[simp] theorem c_zp (ts : List Int) (i : Nat) : (zp ts).c i = ((gi ts i : Int) : Rat) := by
  unfold zp gi
  rw [c_ofL]
  simp only [cf, List.getD_eq_getElem?_getD, List.getElem?_map]
  cases ts[i]? <;> simp
theorem gi_ge {ts : List Int} {i : Nat} (h : ts.length ≤ i) : gi ts i = 0 := by simp [gi, List.getElem?_eq_none h]
theorem zp_len (ts : List Int) : (zp ts).len ≤ ts.length := by
  refine Nat.le_trans (len_ofL _) ?_
  simp
theorem zp_ext {ts : List Int} {p : Poly} (h : ∀ i, p.c i = ((gi ts i : Int) : Rat)) : p = zp ts := Poly.ext fun i => by rw [h, c_zp]
theorem gi_set {ts : List Int} {k : Nat} {v : Int} (hk : k < ts.length) (i : Nat) : gi (ts.set k v) i = if i = k then v else gi ts i := by
  unfold gi
  simp only [List.getD_eq_getElem?_getD, List.getElem?_set]
  by_cases h : k = i
  · subst h; simp [hk]
  · simp [h, Ne.symm h]
theorem zp_set_add {ts : List Int} {k : Nat} {v : Int} (hk : k < ts.length) : zp (ts.set k (gi ts k + v)) = zp ts + mo (v : Rat) k := Poly.ext fun i => by
  rw [c_add, c_zp, c_zp, c_mo, gi_set hk]
  by_cases h : i = k
  · rw [if_pos h, if_pos h, h, Rat.intCast_add]
  · rw [if_neg h, if_neg h, Rat.add_zero]
theorem gi_take (ts : List Int) (n i : Nat) : gi (ts.take n) i = if i < n then gi ts i else 0 := by
  by_cases h : i < n
  · rw [if_pos h]; simp [gi, List.getElem?_take, h]
  · rw [if_neg h]; simp [gi, List.getElem?_take, h]
theorem zp_take_succ (ts : List Int) (n : Nat) : zp (ts.take (n + 1)) = zp (ts.take n) + mo (gi ts n : Rat) n := Poly.ext fun i => by
  rw [c_add, c_zp, c_zp, c_mo, gi_take, gi_take]
  rcases Nat.lt_trichotomy i n with h | h | h
  · rw [if_pos (by omega), if_pos h, if_neg (by omega), Rat.add_zero]
  · rw [if_pos (by omega), if_neg (by omega), if_pos h, h]; simp; grind
  · rw [if_neg (by omega), if_neg (by omega), if_neg (by omega)]; simp; grind
theorem zp_take_all {ts : List Int} {n : Nat} (h : ts.length ≤ n) : zp (ts.take n) = zp ts := by rw [List.take_of_length_le h]
theorem zp_take_zero (ts : List Int) : zp (ts.take 0) = 0 := by
  rw [List.take_zero]; exact Poly.ext fun i => by rw [c_zp, c_zero]; rfl
theorem gi_rep (n i : Nat) : gi (List.replicate n 0) i = 0 := by
  unfold gi
  rw [List.getD_eq_getElem?_getD, List.getElem?_replicate]
  split <;> rfl
theorem zp_rep (n : Nat) : zp (List.replicate n 0) = 0 := Poly.ext fun i => by
  rw [c_zp, c_zero, gi_rep]; rfl
/-! ### heights: the places over one bottom D, the tops at most N -/
def Hn (p : Poly) (D N : Nat) : Prop := 0 < D ∧ ∀ i, ∃ t : Int, p.c i * (D : Rat) = (t : Rat) ∧ t.natAbs ≤ N
theorem Hn.mono {p : Poly} {D N M : Nat} (h : Hn p D N) (hm : N ≤ M) : Hn p D M := ⟨h.1, fun i => (h.2 i).elim fun t ht => ⟨t, ht.1, Nat.le_trans ht.2 hm⟩⟩
theorem Hn.zero {D N : Nat} (h : 0 < D) : Hn 0 D N := ⟨h, fun i => ⟨0, by rw [c_zero]; exact Rat.zero_mul _, Nat.zero_le _⟩⟩
theorem rat_num (a : Rat) : a * (a.den : Rat) = (a.num : Rat) := by
  have e1 : a = (a.num : Rat) / ((a.den : Int) : Rat) := by rw [← Rat.divInt_eq_div]; exact (Rat.num_divInt_den a).symm
  have hd : (a.den : Rat) ≠ 0 := fun e => by have := Rat.natCast_eq_zero_iff.mp e; have := a.den_pos; omega
  rw [Rat.intCast_natCast] at e1
  generalize (a.den : Rat) = d at *
  generalize (a.num : Rat) = n at *
  rw [e1]
  grind
theorem natCast_ne {n : Nat} (h : 0 < n) : (n : Rat) ≠ 0 := fun e => by have := Rat.natCast_eq_zero_iff.mp e; omega
theorem Hn.add {p q : Poly} {D N M : Nat} (h : Hn p D N) (k : Hn q D M) : Hn (p + q) D (N + M) := ⟨h.1, fun i => by
  obtain ⟨t, e, ht⟩ := h.2 i
  obtain ⟨u, f, hu⟩ := k.2 i
  refine ⟨t + u, ?_, ?_⟩
  · rw [c_add, Rat.intCast_add]; grind
  · omega⟩
theorem Hn.neg {p : Poly} {D N : Nat} (h : Hn p D N) : Hn (-p) D N := ⟨h.1, fun i => by
  obtain ⟨t, e, ht⟩ := h.2 i
  refine ⟨-t, ?_, ?_⟩
  · rw [c_neg, Rat.intCast_neg]; grind
  · omega⟩
theorem Hn.sub {p q : Poly} {D N M : Nat} (h : Hn p D N) (k : Hn q D M) : Hn (p - q) D (N + M) := h.add k.neg
/-- over a bottom m times as great -/
theorem Hn.up {p : Poly} {D N : Nat} (h : Hn p D N) {m : Nat} (hm : 0 < m) : Hn p (D * m) (N * m) := ⟨Nat.mul_pos h.1 hm, fun i => by
  obtain ⟨t, e, ht⟩ := h.2 i
  refine ⟨t * (m : Int), ?_, ?_⟩
  · rw [Rat.intCast_mul, Rat.natCast_mul, Rat.intCast_natCast]; grind
  · rw [Int.natAbs_mul, Int.natAbs_natCast]; exact Nat.mul_le_mul_right _ ht⟩
theorem Hn.up' {p : Poly} {D N : Nat} (h : Hn p D N) {m : Nat} (hm : 0 < m) : Hn p (m * D) (m * N) := by rw [Nat.mul_comm m D, Nat.mul_comm m N]; exact h.up hm
/-- a place in lowest terms -/
theorem Hn.place {p : Poly} {D N : Nat} (h : Hn p D N) (i : Nat) : (p.c i).den ∣ D ∧ (p.c i).num.natAbs ≤ N := by
  obtain ⟨t, e, ht⟩ := h.2 i
  generalize p.c i = q at *
  have e1 : q = (q.num : Rat) / ((q.den : Int) : Rat) := by rw [← Rat.divInt_eq_div]; exact (Rat.num_divInt_den q).symm
  have hd : ((q.den : Int) : Rat) ≠ 0 := by rw [Rat.intCast_natCast]; exact natCast_ne q.den_pos
  have e2 : q.num * (D : Int) = t * (q.den : Int) := by
    apply Rat.intCast_inj.mp
    rw [Rat.intCast_mul, Rat.intCast_mul, Rat.intCast_natCast D]
    grind
  have e3 : q.num.natAbs * D = t.natAbs * q.den := by
    have := congrArg Int.natAbs e2
    rwa [Int.natAbs_mul, Int.natAbs_mul, Int.natAbs_natCast, Int.natAbs_natCast] at this
  have hdv : q.den ∣ D := by
    have : q.den ∣ q.num.natAbs * D := ⟨t.natAbs, by rw [e3, Nat.mul_comm]⟩
    exact (Nat.Coprime.dvd_of_dvd_mul_left q.reduced.symm this)
  refine ⟨hdv, ?_⟩
  obtain ⟨m, hm⟩ := hdv
  have hm0 : 0 < m := Nat.pos_of_ne_zero fun z => by rw [z, Nat.mul_zero] at hm; have := h.1; omega
  have : q.num.natAbs * m = t.natAbs := by
    apply Nat.eq_of_mul_eq_mul_right q.den_pos
    rw [← e3, hm]
    rw [Nat.mul_assoc, Nat.mul_comm m]
  have h2 : q.num.natAbs ≤ q.num.natAbs * m := Nat.le_mul_of_pos_right _ hm0
  omega
theorem Hn.den_le {p : Poly} {D N : Nat} (h : Hn p D N) (i : Nat) : (p.c i).den ≤ D := Nat.le_of_dvd h.1 (h.place i).1
theorem Hn.num_le {p : Poly} {D N : Nat} (h : Hn p D N) (i : Nat) : (p.c i).num.natAbs ≤ N := (h.place i).2
theorem Hn.zp {ts : List Int} {N : Nat} (h : ∀ i, (gi ts i).natAbs ≤ N) : Hn (zp ts) 1 N := ⟨by decide, fun i => ⟨gi ts i, by rw [c_zp]; show _ * (1 : Rat) = _; grind, h i⟩⟩
theorem Hn.C {a : Rat} : Hn (C a) a.den a.num.natAbs := ⟨a.den_pos, fun i => by
  rw [c_C]
  split
  · exact ⟨a.num, rat_num a, Nat.le_refl _⟩
  · exact ⟨0, Rat.zero_mul _, Nat.zero_le _⟩⟩
/-- a number and a power of the letter, times a row -/
theorem Hn.mo_mul {p : Poly} {D N : Nat} (h : Hn p D N) (a : Rat) (k : Nat) : Hn (mo a k * p) (a.den * D) (a.num.natAbs * N) := ⟨Nat.mul_pos a.den_pos h.1, fun i => by
  rw [c_moMul]
  split
  · exact ⟨0, Rat.zero_mul _, Nat.zero_le _⟩
  · obtain ⟨t, e, ht⟩ := h.2 (i - k)
    refine ⟨a.num * t, ?_, ?_⟩
    · rw [Rat.intCast_mul, Rat.natCast_mul, ← rat_num a]; grind
    · rw [Int.natAbs_mul]; exact Nat.mul_le_mul_left _ ht⟩
/-- p over one bottom and q over another: each place of the product is a sum of at most len of products -/
theorem Hn.mul {p q : Poly} {D N E M : Nat} (h : Hn p D N) (k : Hn q E M) : Hn (p * q) (D * E) (p.len * (N * M)) := by
  have key : ∀ n, ∀ p : Poly, p.len ≤ n → Hn p D N → Hn (p * q) (D * E) (n * (N * M)) := by
    intro n
    induction n with
    | zero =>
      intro p hl h
      have : p = 0 := len_eq_zero.mp (by omega)
      rw [this, show (0 : Poly) * q = 0 by grind]
      exact Hn.zero (Nat.mul_pos h.1 k.1)
    | succ n ih =>
      intro p hl h
      -- p = (p without place n) + mo (p.c n) n
      have e : p = (p - mo (p.c n) n) + mo (p.c n) n := by grind
      have hl' : (p - mo (p.c n) n).len ≤ n := len_le fun i hi => by
        rw [c_sub, c_mo]
        by_cases z : i = n
        · rw [if_pos z, z]; exact Rat.sub_self
        · rw [if_neg z, c_ge (by omega)]; exact Rat.sub_self
      have h' : Hn (p - mo (p.c n) n) D N := ⟨h.1, fun i => by
        rw [c_sub, c_mo]
        by_cases z : i = n
        · rw [if_pos z, z, Rat.sub_self]; exact ⟨0, Rat.zero_mul _, Nat.zero_le _⟩
        · rw [if_neg z]
          obtain ⟨t, e, ht⟩ := h.2 i
          exact ⟨t, by rw [← e]; grind, ht⟩⟩
      have h2 : Hn (mo (p.c n) n * q) (D * E) (N * M) := ⟨Nat.mul_pos h.1 k.1, fun i => by
        rw [c_moMul]
        split
        · exact ⟨0, Rat.zero_mul _, Nat.zero_le _⟩
        · obtain ⟨t, e, ht⟩ := h.2 n
          obtain ⟨u, f, hu⟩ := k.2 (i - n)
          refine ⟨t * u, ?_, ?_⟩
          · rw [Rat.intCast_mul, Rat.natCast_mul]; grind
          · rw [Int.natAbs_mul]; exact Nat.mul_le_mul ht hu⟩
      have := (ih _ hl' h').add h2
      rw [e, show (p - mo (p.c n) n + mo (p.c n) n) * q = (p - mo (p.c n) n) * q + mo (p.c n) n * q by grind, Nat.succ_mul]
      exact this
  exact key _ p (Nat.le_refl _) h
theorem tops_le {p : Poly} {D N b : Nat} (h : Hn p D N) (hbd : b ∣ D) {i : Nat} {t : Int} (e : p.c i * (b : Rat) = (t : Rat)) : t.natAbs ≤ N := by
  obtain ⟨u, f, hu⟩ := h.2 i
  obtain ⟨k, rfl⟩ := hbd
  have hk : 0 < k := Nat.pos_of_ne_zero fun z => by have := h.1; rw [z, Nat.mul_zero] at this; omega
  have e2 : u = t * (k : Int) := by
    apply Rat.intCast_inj.mp
    rw [Rat.intCast_mul, Rat.intCast_natCast, ← f, Rat.natCast_mul, ← e]
    grind
  have : u.natAbs = t.natAbs * k := by rw [e2, Int.natAbs_mul, Int.natAbs_natCast]
  have h2 : t.natAbs ≤ t.natAbs * k := Nat.le_mul_of_pos_right _ hk
  omega
/-- a fraction over a bottom that its own bottom divides -/
theorem over_b {q : Rat} {b : Nat} (h : q.den ∣ b) : q * (b : Rat) = ((q.num * ((b / q.den : Nat) : Int) : Int) : Rat) := by
  obtain ⟨m, rfl⟩ := h
  rw [Nat.mul_div_cancel_left _ q.den_pos, Rat.intCast_mul, Rat.intCast_natCast, Rat.natCast_mul, ← rat_num q]
  grind
theorem c_val (p : Poly) (i : Nat) : cf p.val i = p.c i := rfl
theorem Hn.len {p : Poly} {D N : Nat} (h : ∀ i, i < p.len → (p.c i).den ∣ D ∧ ∃ t : Int, p.c i * (D : Rat) = t ∧ t.natAbs ≤ N) (hD : 0 < D) : Hn p D N := ⟨hD, fun i => by
  rcases Nat.lt_or_ge i p.len with hi | hi
  · exact (h i hi).2
  · exact ⟨0, by rw [c_ge hi]; exact Rat.zero_mul _, Nat.zero_le _⟩⟩
/-- every place a part of the sum over one bottom -/
theorem inv_C {b : Rat} {p q : Poly} (hb : b ≠ 0) (h : C b * p = q) : p = C (1 / b) * q := by
  rw [← h]
  have : C (1 / b) * C b = 1 := by
    rw [← C_mul, show 1 / b * b = 1 by grind]
    rfl
  grind
/-! ### the rate -/
def dr (p : Poly) : Poly := ofL ((List.range p.len).map fun k => ((k + 1 : Nat) : Rat) * p.c (k + 1))
theorem cf_range (f : Nat → Rat) (n i : Nat) : cf ((List.range n).map f) i = if i < n then f i else 0 := by
  unfold cf
  rw [List.getD_eq_getElem?_getD, List.getElem?_map]
  by_cases h : i < n
  · rw [if_pos h, List.getElem?_range h]; rfl
  · rw [if_neg h, List.getElem?_eq_none (by simp; omega)]; rfl
@[simp] theorem c_dr (p : Poly) (i : Nat) : (dr p).c i = ((i + 1 : Nat) : Rat) * p.c (i + 1) := by
  unfold dr
  rw [c_ofL, cf_range]
  split
  · rfl
  · rw [c_ge (p := p) (by omega)]; exact (Rat.mul_zero _).symm
theorem dr_len (p : Poly) : (dr p).len = p.len - 1 := by
  by_cases h : p.len ≤ 1
  · have : (dr p).len ≤ 0 := len_le fun i _ => by rw [c_dr, c_ge (by omega)]; exact Rat.mul_zero _
    omega
  · have hp : p ≠ 0 := fun e => by rw [e, len_zero] at h; omega
    have := ld_ne hp
    rw [len_eq (p := dr p) (n := p.len - 2) (fun i hi => by rw [c_dr, c_ge (by omega)]; exact Rat.mul_zero _) ?_]
    · omega
    · rw [c_dr, show p.len - 2 + 1 = p.len - 1 by omega]
      intro z
      rcases Rat.mul_eq_zero.mp z with z | z
      · have := Rat.natCast_eq_zero_iff.mp z; omega
      · exact this z
/-! ### the first places of a row -/
def zt (p : Poly) (n : Nat) : Poly := ofL (p.val.take n)
@[simp] theorem c_zt (p : Poly) (n i : Nat) : (zt p n).c i = if i < n then p.c i else 0 := by
  unfold zt
  rw [c_ofL, cf_take]
  rfl
theorem zt_zero (p : Poly) : zt p 0 = 0 := Poly.ext fun i => by rw [c_zt, c_zero, if_neg (by omega)]
theorem zt_succ (p : Poly) (n : Nat) : zt p (n + 1) = zt p n + mo (p.c n) n := Poly.ext fun i => by
  rw [c_add, c_zt, c_zt, c_mo]
  rcases Nat.lt_trichotomy i n with h | h | h
  · rw [if_pos (by omega), if_pos h, if_neg (by omega), Rat.add_zero]
  · rw [if_pos (by omega), if_neg (by omega), if_pos h, h, Rat.zero_add]
  · rw [if_neg (by omega), if_neg (by omega), if_neg (by omega)]; exact (Rat.add_zero _).symm
theorem zt_all (p : Poly) : zt p p.len = p := Poly.ext fun i => by
  rw [c_zt]
  split
  · rfl
  · rw [c_ge (by omega)]
theorem zt_len (p : Poly) (n : Nat) : (zt p n).len ≤ n := len_le fun i hi => by rw [c_zt, if_neg (by omega)]
theorem mo_len (a : Rat) (k : Nat) : (mo a k).len ≤ k + 1 := len_le fun i hi => by rw [c_mo, if_neg (by omega)]
theorem Hn.zt {p : Poly} {D N : Nat} (h : Hn p D N) (n : Nat) : Hn (zt p n) D N := ⟨h.1, fun i => by
  rw [c_zt]
  split
  · exact h.2 i
  · exact ⟨0, Rat.zero_mul _, Nat.zero_le _⟩⟩
theorem Hn.mo_place {p : Poly} {D N : Nat} (h : Hn p D N) (n : Nat) : Hn (mo (p.c n) n) D N := ⟨h.1, fun i => by
  rw [c_mo]
  split
  · exact h.2 n
  · exact ⟨0, Rat.zero_mul _, Nat.zero_le _⟩⟩
theorem ofL_rep0 (n : Nat) : ofL (List.replicate n 0) = 0 := Poly.ext fun i => by
  rw [c_ofL, c_zero]
  unfold cf
  rw [List.getD_eq_getElem?_getD, List.getElem?_replicate]
  split <;> rfl
end Al
namespace Al
open Poly
/-! ### division -/
theorem div_unique {p q w r w' r' : Poly} (e : p = w * q + r) (h : r.len < q.len) (e' : p = w' * q + r') (h' : r'.len < q.len) : w = w' ∧ r = r' := by
  have d : (w - w') * q = r' - r := by grind
  have hq : q ≠ 0 := fun z => by rw [z, len_zero] at h; omega
  have hw : w - w' = 0 := by
    refine Decidable.byContradiction fun hn => ?_
    have h1 := len_mul hn hq
    have h2 := len_pos.mpr hn
    have h3 := len_sub r' r
    rw [d] at h1
    omega
  have : w = w' := by grind
  refine ⟨this, ?_⟩
  grind
/-- one step: the last place goes -/
theorem div_step {p q : Poly} (hq : q ≠ 0) (h : q.len ≤ p.len) : (p - mo (p.ld / q.ld) (p.len - q.len) * q).len ≤ p.len - 1 := by
  have h1 := len_pos.mpr hq
  have hl := ld_ne hq
  refine len_le fun i hi => ?_
  rw [c_sub, c_moMul, if_neg (by omega)]
  by_cases z : i = p.len - 1
  · have e1 : p.c i = p.ld := by rw [z]; rfl
    have e2 : q.c (i - (p.len - q.len)) = q.ld := by
      rw [z, show p.len - 1 - (p.len - q.len) = q.len - 1 by omega]; rfl
    rw [e1, e2]
    grind
  · rw [c_ge (p := p) (by omega), c_ge (p := q) (by omega)]
    grind
theorem div_ex (q : Poly) (hq : q ≠ 0) : ∀ n, ∀ p : Poly, p.len ≤ n → ∃ w r, p = w * q + r ∧ r.len < q.len
  | 0, p, h => ⟨0, 0, by rw [len_eq_zero.mp (by omega : p.len = 0)]; grind, by rw [len_zero]; exact len_pos.mpr hq⟩
  | n + 1, p, h => by
    by_cases hl : q.len ≤ p.len
    · obtain ⟨w, r, e, hr⟩ := div_ex q hq n (p - mo (p.ld / q.ld) (p.len - q.len) * q) (by have := div_step hq hl; omega)
      exact ⟨mo (p.ld / q.ld) (p.len - q.len) + w, r, by grind, hr⟩
    · exact ⟨0, p, by grind, by omega⟩
open Classical in
noncomputable def dv (p q : Poly) : Poly := if h : q ≠ 0 then (div_ex q h p.len p (Nat.le_refl _)).choose else 0
open Classical in
noncomputable def md (p q : Poly) : Poly := p - dv p q * q
theorem dv_md (p q : Poly) : p = dv p q * q + md p q := by unfold md; grind
theorem md_len {p q : Poly} (hq : q ≠ 0) : (md p q).len < q.len := by
  unfold md dv
  rw [dif_pos hq]
  obtain ⟨r, e, h⟩ := (div_ex q hq p.len p (Nat.le_refl _)).choose_spec
  generalize (div_ex q hq p.len p (Nat.le_refl _)).choose = w at *
  have : p - w * q = r := by grind
  rw [this]
  exact h
theorem dv_eq {p q w r : Poly} (e : p = w * q + r) (h : r.len < q.len) : dv p q = w ∧ md p q = r := by
  have hq : q ≠ 0 := fun z => by rw [z, len_zero] at h; omega
  exact div_unique (dv_md p q) (md_len hq) e h
theorem dv_len {p q : Poly} (hq : q ≠ 0) : (dv p q).len ≤ p.len := by
  by_cases hw : dv p q = 0
  · rw [hw]; exact Nat.zero_le _
  · have h1 := len_mul hw hq
    have h2 := md_len (p := p) hq
    have h3 := len_pos.mpr hq
    have h4 : (dv p q * q).len ≤ max p.len (md p q).len := by
      have : dv p q * q = p - md p q := by have := dv_md p q; grind
      rw [this]
      exact len_sub _ _
    have h5 := len_pos.mpr hw
    omega
/-- a row divides another one -/
def Dvd (q p : Poly) : Prop := ∃ w, p = w * q
theorem md_zero {p q : Poly} (hq : q ≠ 0) : md p q = 0 ↔ Dvd q p := by
  constructor
  · intro h
    exact ⟨dv p q, by have := dv_md p q; rw [h] at this; grind⟩
  · rintro ⟨w, e⟩
    exact (dv_eq (w := w) (r := 0) (by grind) (by rw [len_zero]; exact len_pos.mpr hq)).2
/-! ### heights of a division -/
theorem div_hT {q : Poly} {E M : Nat} (hq : q ≠ 0) (hh : Hn q E M) : ∃ T, 0 < T ∧ T ≤ M ∧ (∃ t : Int, q.ld * (E : Rat) = (t : Rat) ∧ t.natAbs = T) ∧ ∀ k, ∀ (p : Poly) (D N : Nat), p.len < q.len + k → Hn p D N →
    Hn (dv p q) (D * T ^ k) (E * N * (3 * M) ^ k) ∧ Hn (md p q) (D * T ^ k) (N * (2 * M) ^ k) := by
  obtain ⟨t, et, ht⟩ := hh.2 (q.len - 1)
  have hl := ld_ne hq
  have et' : q.ld * (E : Rat) = (t : Rat) := et
  have hE := natCast_ne hh.1
  have ht0 : t ≠ 0 := by
    rintro rfl
    rcases Rat.mul_eq_zero.mp et' with z | z
    · exact hl z
    · exact hE z
  have hT : 0 < t.natAbs := Int.natAbs_pos.mpr ht0
  refine ⟨t.natAbs, hT, ht, ⟨t, et', rfl⟩, ?_⟩
  intro k
  induction k with
  | zero =>
    intro p D N hlen h
    obtain ⟨e1, e2⟩ := dv_eq (p := p) (q := q) (w := 0) (r := p) (by grind) (by omega)
    rw [e1, e2, Nat.pow_zero, Nat.mul_one, Nat.pow_zero, Nat.pow_zero, Nat.mul_one, Nat.mul_one]
    exact ⟨Hn.zero h.1, h⟩
  | succ k ih =>
    intro p D N hlen h
    by_cases hle : p.len < q.len + k
    · obtain ⟨a, b⟩ := ih p D N hle h
      have u1 := a.up hT
      have u2 := b.up hT
      rw [Nat.mul_assoc, ← Nat.pow_succ] at u1 u2
      refine ⟨u1.mono ?_, u2.mono ?_⟩
      · rw [Nat.pow_succ (3 * M), ← Nat.mul_assoc]
        exact Nat.mul_le_mul_left _ (by omega)
      · rw [Nat.pow_succ (2 * M), ← Nat.mul_assoc]
        exact Nat.mul_le_mul_left _ (by omega)
    · -- the step
      have hpl : q.len ≤ p.len := by omega
      have hs := div_step hq hpl
      have hqp := len_pos.mpr hq
      obtain ⟨a, ea, ha⟩ := h.2 (p.len - 1)
      have ea' : p.ld * (D : Rat) = (a : Rat) := ea
      have hD := natCast_ne h.1
      obtain ⟨sg, hsg, hT2⟩ : ∃ sg : Int, sg.natAbs = 1 ∧ ((t.natAbs : Nat) : Rat) = (sg : Rat) * (t : Rat) := by
        rcases Int.le_total 0 t with z | z
        · refine ⟨1, rfl, ?_⟩
          rw [← Rat.intCast_natCast, Int.natAbs_of_nonneg z]
          show _ = (1 : Rat) * _
          grind
        · refine ⟨-1, rfl, ?_⟩
          rw [← Rat.intCast_natCast, Int.ofNat_natAbs_of_nonpos z, Rat.intCast_neg]
          show _ = (-1 : Rat) * _
          grind
      have htr : (t : Rat) ≠ 0 := fun z => ht0 (Rat.intCast_eq_zero_iff.mp z)
      have hp' : Hn (p - mo (p.ld / q.ld) (p.len - q.len) * q) (D * t.natAbs) (2 * M * N) := ⟨Nat.mul_pos h.1 hT, fun i => by
        rw [c_sub, c_moMul]
        obtain ⟨u, eu, hu⟩ := h.2 i
        split
        · refine ⟨u * t * sg, ?_, ?_⟩
          · rw [Rat.natCast_mul, hT2, Rat.intCast_mul, Rat.intCast_mul, ← eu]
            grind
          · rw [Int.natAbs_mul, Int.natAbs_mul, hsg, Nat.mul_one]
            have := Nat.mul_le_mul hu ht
            rw [Nat.mul_comm N M] at this
            rw [Nat.mul_assoc]
            omega
        · obtain ⟨v, ev, hv⟩ := hh.2 (i - (p.len - q.len))
          refine ⟨(u * t - a * v) * sg, ?_, ?_⟩
          · rw [Rat.natCast_mul, hT2, Rat.intCast_mul, Rat.intCast_sub, Rat.intCast_mul, Rat.intCast_mul, ← eu]
            generalize q.c (i - (p.len - q.len)) = x at *
            generalize p.c i = y at *
            have e1 : p.ld = (a : Rat) / (D : Rat) := by grind
            have e2 : q.ld = (t : Rat) / (E : Rat) := by grind
            have e3 : x = (v : Rat) / (E : Rat) := by grind
            rw [e1, e2, e3]
            grind
          · rw [Int.natAbs_mul, hsg, Nat.mul_one]
            have h1 := Nat.mul_le_mul hu ht
            have h2 := Nat.mul_le_mul ha hv
            have h3 : (u * t - a * v).natAbs ≤ (u * t).natAbs + (a * v).natAbs := Int.natAbs_sub_le _ _
            rw [Int.natAbs_mul, Int.natAbs_mul] at h3
            rw [Nat.mul_comm N M] at h1 h2
            rw [Nat.mul_assoc]
            omega⟩
      obtain ⟨i1, i2⟩ := ih _ _ _ (by omega) hp'
      obtain ⟨d1, d2⟩ := dv_eq (p := p) (q := q) (w := mo (p.ld / q.ld) (p.len - q.len) + dv (p - mo (p.ld / q.ld) (p.len - q.len) * q) q) (r := md (p - mo (p.ld / q.ld) (p.len - q.len) * q) q)
        (by have := dv_md (p - mo (p.ld / q.ld) (p.len - q.len) * q) q; grind) (md_len hq)
      have hDT : D * t.natAbs * t.natAbs ^ k = D * t.natAbs ^ (k + 1) := by rw [Nat.pow_succ, Nat.mul_assoc, Nat.mul_comm t.natAbs]
      rw [hDT] at i1 i2
      rw [d1, d2]
      have hM : 0 < M := by omega
      have hMk : 0 < M ^ k := Nat.pow_pos hM
      refine ⟨?_, i2.mono (Nat.le_of_eq ?_)⟩
      · have hmo : Hn (mo (p.ld / q.ld) (p.len - q.len)) (D * t.natAbs ^ (k + 1)) (E * N * M ^ k) := ⟨i1.1, fun i => by
          rw [c_mo]
          split
          · refine ⟨a * (E : Int) * (t.natAbs ^ k : Nat) * sg, ?_, ?_⟩
            · rw [Rat.intCast_mul, Rat.intCast_mul, Rat.intCast_mul, Rat.intCast_natCast, Rat.intCast_natCast, Nat.pow_succ, Rat.natCast_mul, Rat.natCast_mul, hT2]
              have e1 : p.ld = (a : Rat) / (D : Rat) := by grind
              have e2 : q.ld = (t : Rat) / (E : Rat) := by grind
              rw [e1, e2]
              grind
            · rw [Int.natAbs_mul, hsg, Nat.mul_one, Int.natAbs_mul, Int.natAbs_mul, Int.natAbs_natCast, Int.natAbs_natCast, Nat.mul_comm a.natAbs]
              exact Nat.mul_le_mul (Nat.mul_le_mul_left _ ha) (Nat.pow_le_pow_left ht k)
          · exact ⟨0, Rat.zero_mul _, Nat.zero_le _⟩⟩
        refine (hmo.add i1).mono ?_
        have e1 : (3 * M) ^ (k + 1) = 3 ^ k * M ^ k * (3 * M) := by rw [Nat.pow_succ, Nat.mul_pow]
        have e2 : (3 * M) ^ k = 3 ^ k * M ^ k := by rw [Nat.mul_pow]
        rw [e1, e2]
        have h3 : 0 < 3 ^ k := Nat.pow_pos (by decide)
        generalize M ^ k = mk at *
        generalize 3 ^ k = tk at *
        have g1 : E * (2 * M * N) * (tk * mk) = E * N * (2 * (tk * mk * M)) := by grind
        have g2 : E * N * (tk * mk * (3 * M)) = E * N * (3 * (tk * mk * M)) := by grind
        rw [g1, g2, ← Nat.mul_add]
        refine Nat.mul_le_mul_left _ ?_
        have g3 : mk ≤ tk * mk * M := Nat.le_trans (Nat.le_mul_of_pos_left mk h3) (Nat.le_mul_of_pos_right _ hM)
        omega
      · rw [Nat.pow_succ]
        grind
theorem div_h {q : Poly} {E M : Nat} (hq : q ≠ 0) (hh : Hn q E M) : ∃ T, 0 < T ∧ T ≤ M ∧ ∀ k, ∀ (p : Poly) (D N : Nat), p.len < q.len + k → Hn p D N →
    Hn (dv p q) (D * T ^ k) (E * N * (3 * M) ^ k) ∧ Hn (md p q) (D * T ^ k) (N * (2 * M) ^ k) := by
  obtain ⟨T, h0, h1, _, h2⟩ := div_hT hq hh
  exact ⟨T, h0, h1, h2⟩
theorem dv_len_eq {p q : Poly} (hq : q ≠ 0) (h : q.len ≤ p.len) : (dv p q).len = p.len - q.len + 1 := by
  have h1 := md_len (p := p) hq
  have h2 := len_pos.mpr hq
  have e := dv_md p q
  have hw : dv p q ≠ 0 := fun z => by
    rw [z] at e
    have : p = md p q := by grind
    rw [← this] at h1
    omega
  have h3 := len_mul hw hq
  have h4 : p.len ≤ max (dv p q * q).len (md p q).len := by
    have := len_add (dv p q * q) (md p q)
    rwa [← e] at this
  have h5 : (dv p q * q).len ≤ max p.len (md p q).len := by
    have : dv p q * q = p - md p q := by grind
    rw [this]
    exact len_sub _ _
  omega
theorem gi_lead {ts : List Int} {p : Poly} {c : Rat} (h : C c * p = zp ts) (hc : c ≠ 0) (hp : p ≠ 0) : gi ts (p.len - 1) ≠ 0 := fun z => by
  have e := congrArg (fun r => r.c (p.len - 1)) h
  simp only [c_Cmul, c_zp, z] at e
  rcases Rat.mul_eq_zero.mp e with h | h
  · exact hc h
  · exact ld_ne hp h
end Al
namespace Al
open Poly
/-! ### what divides, what is shared -/
theorem Dvd.refl (p : Poly) : Dvd p p := ⟨1, by grind⟩
theorem Dvd.zero (p : Poly) : Dvd p 0 := ⟨0, by grind⟩
theorem Dvd.trans {p q r : Poly} (h : Dvd p q) (k : Dvd q r) : Dvd p r := by
  obtain ⟨u, e⟩ := h
  obtain ⟨v, f⟩ := k
  exact ⟨v * u, by rw [f, e]; grind⟩
theorem Dvd.mul {p q : Poly} (h : Dvd p q) (r : Poly) : Dvd p (r * q) := by
  obtain ⟨u, e⟩ := h
  exact ⟨r * u, by rw [e]; grind⟩
theorem Dvd.mul' {p q : Poly} (h : Dvd p q) (r : Poly) : Dvd p (q * r) := by
  obtain ⟨u, e⟩ := h
  exact ⟨r * u, by rw [e]; grind⟩
theorem Dvd.add {p q r : Poly} (h : Dvd p q) (k : Dvd p r) : Dvd p (q + r) := by
  obtain ⟨u, e⟩ := h
  obtain ⟨v, f⟩ := k
  exact ⟨u + v, by rw [f, e]; grind⟩
theorem Dvd.sub {p q r : Poly} (h : Dvd p q) (k : Dvd p r) : Dvd p (q - r) := by
  obtain ⟨u, e⟩ := h
  obtain ⟨v, f⟩ := k
  exact ⟨u - v, by rw [f, e]; grind⟩
theorem Dvd.len {p q : Poly} (h : Dvd p q) (hq : q ≠ 0) : p.len ≤ q.len := by
  obtain ⟨u, e⟩ := h
  have hu : u ≠ 0 := fun z => hq (by rw [e, z]; grind)
  have hp : p ≠ 0 := fun z => hq (by rw [e, z]; grind)
  have h1 := len_mul hu hp
  have h2 := len_pos.mpr hu
  rw [← e] at h1
  omega
theorem Dvd.ne {p q : Poly} (h : Dvd p q) (hq : q ≠ 0) : p ≠ 0 := fun z => by
  obtain ⟨u, e⟩ := h
  exact hq (by rw [e, z]; grind)
theorem dvd_C {a : Rat} (ha : a ≠ 0) (p : Poly) : Dvd (C a) p := ⟨C (1 / a) * p, by
  have : C (1 / a) * C a = 1 := by
    rw [← C_mul, show 1 / a * a = 1 by grind]; rfl
  grind⟩
/-- sharing nothing: 1 comes of them -/
def Cop (p q : Poly) : Prop := ∃ u v, u * p + v * q = 1
theorem Cop.symm {p q : Poly} (h : Cop p q) : Cop q p := by
  obtain ⟨u, v, e⟩ := h
  exact ⟨v, u, by grind⟩
theorem Cop.mul {p q r : Poly} (h : Cop p r) (k : Cop q r) : Cop (p * q) r := by
  obtain ⟨u, v, e⟩ := h
  obtain ⟨x, y, f⟩ := k
  exact ⟨u * x, u * p * y + v * x * q + v * y * r, by grind⟩
theorem Cop.dvd_left {p q r : Poly} (h : Cop p q) (d : Dvd r p) : Cop r q := by
  obtain ⟨u, v, e⟩ := h
  obtain ⟨w, f⟩ := d
  exact ⟨u * w, v, by grind⟩
theorem Cop.dvd_mul {p q r : Poly} (h : Cop p q) (d : Dvd p (q * r)) : Dvd p r := by
  obtain ⟨u, v, e⟩ := h
  obtain ⟨w, f⟩ := d
  exact ⟨u * r + v * w, by grind⟩
theorem Cop.mul_dvd {p q r : Poly} (h : Cop p q) (d : Dvd p r) (k : Dvd q r) : Dvd (p * q) r := by
  obtain ⟨u, v, e⟩ := h
  obtain ⟨w, f⟩ := d
  obtain ⟨x, g⟩ := k
  exact ⟨u * x + v * w, by grind⟩
theorem cop_one (p : Poly) : Cop 1 p := ⟨1, 0, by grind⟩
theorem Cop.pow {p q : Poly} (h : Cop p q) (n : Nat) : Cop (p ^ n) q := by
  induction n with
  | zero => exact cop_one q
  | succ n ih =>
    show Cop (p ^ n * p) q
    exact ih.mul h
/-- led: the last place is 1 -/
def Led (p : Poly) : Prop := p.ld = 1
theorem Led.ne {p : Poly} (h : Led p) : p ≠ 0 := fun z => by
  rw [z] at h
  have : (0 : Poly).ld = 0 := c_zero _
  unfold Led at h
  rw [this] at h
  exact absurd h (by decide)
theorem ld_C {a : Rat} : (C a).ld = a := by
  by_cases h : a = 0
  · subst h; exact c_zero _
  · unfold ld
    rw [len_C h, c_C, if_pos rfl]
theorem led_of {p : Poly} (hp : p ≠ 0) : Led (C (1 / p.ld) * p) := by
  have h := ld_ne hp
  have hc : C (1 / p.ld) ≠ 0 := C_ne (by grind)
  unfold Led
  rw [ld_mul hc hp, ld_C]
  grind
theorem Led.mul {p q : Poly} (h : Led p) (k : Led q) : Led (p * q) := by
  have e := ld_mul h.ne k.ne
  unfold Led at *
  rw [e, h, k]; exact Rat.one_mul _
theorem Led.unique {p q : Poly} (h : Led p) (k : Led q) (d : Dvd p q) (e : Dvd q p) : p = q := by
  obtain ⟨u, f⟩ := d
  have hl : p.len = q.len := Nat.le_antisymm (Dvd.len ⟨u, f⟩ k.ne) (Dvd.len e h.ne)
  have hu : u ≠ 0 := fun z => k.ne (by rw [f, z]; grind)
  have h1 := len_mul hu h.ne
  rw [← f] at h1
  have h2 : u.len = 1 := by have := len_pos.mpr h.ne; omega
  have h3 := len_one_iff.mp (Nat.le_of_eq h2)
  have h4 := ld_mul hu h.ne
  rw [← f] at h4
  unfold Led at h k
  rw [h, k] at h4
  have h5 : u.c 0 = 1 := by
    have : u.ld = u.c 0 := by unfold ld; rw [h2]
    rw [← this]; grind
  rw [f, h3, h5, C_one]
  grind
/-- what two rows share: it divides both and comes of them -/
theorem gc_ex : ∀ n, ∀ p q : Poly, q.len ≤ n → ∃ g u v, g = u * p + v * q ∧ Dvd g p ∧ Dvd g q
  | 0, p, q, h => ⟨p, 1, 0, by grind, Dvd.refl p, by rw [len_eq_zero.mp (by omega : q.len = 0)]; exact Dvd.zero p⟩
  | n + 1, p, q, h => by
    by_cases hq : q = 0
    · exact ⟨p, 1, 0, by grind, Dvd.refl p, by rw [hq]; exact Dvd.zero p⟩
    · obtain ⟨g, u, v, e, d1, d2⟩ := gc_ex n q (md p q) (by have := md_len (p := p) hq; omega)
      have hm := dv_md p q
      refine ⟨g, v, u - v * dv p q, by unfold md at e; grind, ?_, d1⟩
      rw [hm]
      exact (d1.mul _).add d2
theorem gcl_ex (p q : Poly) : ∃ g u v, g = u * p + v * q ∧ Dvd g p ∧ Dvd g q ∧ (g = 0 ∨ Led g) := by
  obtain ⟨g, u, v, e, d1, d2⟩ := gc_ex q.len p q (Nat.le_refl _)
  by_cases hg : g = 0
  · exact ⟨g, u, v, e, d1, d2, .inl hg⟩
  · have h := ld_ne hg
    have hi : C g.ld * C (1 / g.ld) = 1 := by
      rw [← C_mul, show g.ld * (1 / g.ld) = 1 by grind]; rfl
    refine ⟨C (1 / g.ld) * g, C (1 / g.ld) * u, C (1 / g.ld) * v, by grind, ?_, ?_, .inr (led_of hg)⟩
    · obtain ⟨w, f⟩ := d1
      exact ⟨w * C g.ld, by grind⟩
    · obtain ⟨w, f⟩ := d2
      exact ⟨w * C g.ld, by grind⟩
noncomputable def gc (p q : Poly) : Poly := (gcl_ex p q).choose
theorem gc_comb (p q : Poly) : ∃ u v, gc p q = u * p + v * q := by
  obtain ⟨u, v, e, _⟩ := (gcl_ex p q).choose_spec
  exact ⟨u, v, e⟩
theorem gc_left (p q : Poly) : Dvd (gc p q) p := by
  obtain ⟨u, v, e, d, _⟩ := (gcl_ex p q).choose_spec
  exact d
theorem gc_right (p q : Poly) : Dvd (gc p q) q := by
  obtain ⟨u, v, e, d, d2, _⟩ := (gcl_ex p q).choose_spec
  exact d2
theorem gc_zero_or (p q : Poly) : gc p q = 0 ∨ Led (gc p q) := by
  obtain ⟨u, v, e, d, d2, h⟩ := (gcl_ex p q).choose_spec
  exact h
theorem gc_led {p q : Poly} (h : p ≠ 0 ∨ q ≠ 0) : Led (gc p q) := by
  rcases gc_zero_or p q with z | z
  · exfalso
    obtain ⟨u, e⟩ := gc_left p q
    obtain ⟨v, f⟩ := gc_right p q
    rw [z] at e f
    rcases h with h | h
    · exact h (by rw [e]; grind)
    · exact h (by rw [f]; grind)
  · exact z
theorem gc_great {p q d : Poly} (h : Dvd d p) (k : Dvd d q) : Dvd d (gc p q) := by
  obtain ⟨u, v, e⟩ := gc_comb p q
  rw [e]
  exact (h.mul u).add (k.mul v)
theorem gc_eq {p q g : Poly} (hl : Led g) (h : Dvd g p) (k : Dvd g q) (m : ∃ u v, g = u * p + v * q) (hn : p ≠ 0 ∨ q ≠ 0) : gc p q = g := by
  refine Led.unique (gc_led hn) hl ?_ (gc_great h k)
  obtain ⟨u, v, e⟩ := m
  rw [e]
  exact ((gc_left p q).mul u).add ((gc_right p q).mul v)
/-- a led row that divides both and that every row that divides both divides -/
theorem gc_eq' {p q g : Poly} (hl : Led g) (h : Dvd g p) (k : Dvd g q) (m : ∀ d, Dvd d p → Dvd d q → Dvd d g) (hn : p ≠ 0 ∨ q ≠ 0) : gc p q = g :=
  Led.unique (gc_led hn) hl (m _ (gc_left p q) (gc_right p q)) (gc_great h k)
theorem gc_zero : gc 0 0 = 0 := by
  obtain ⟨u, v, e⟩ := gc_comb 0 0
  rw [e]; grind
theorem gc_right_zero {p : Poly} (hp : p ≠ 0) : gc p 0 = C (1 / p.ld) * p := by
  have h := ld_ne hp
  refine gc_eq (led_of hp) ⟨C p.ld, ?_⟩ (Dvd.zero _) ⟨C (1 / p.ld), 0, by grind⟩ (.inl hp)
  have : C p.ld * C (1 / p.ld) = 1 := by rw [← C_mul, show p.ld * (1 / p.ld) = 1 by grind]; rfl
  grind
theorem gc_comm (p q : Poly) : gc p q = gc q p := by
  by_cases h : p = 0 ∧ q = 0
  · rw [h.1, h.2]
  · have hn : p ≠ 0 ∨ q ≠ 0 := by
      by_cases hp : p = 0
      · exact .inr fun z => h ⟨hp, z⟩
      · exact .inl hp
    refine gc_eq' (gc_led hn.symm) (gc_right q p) (gc_left q p) (fun d a b => gc_great b a) hn
theorem cop_gc {p q : Poly} : Cop p q ↔ gc p q = 1 := by
  constructor
  · rintro ⟨u, v, e⟩
    have hn : p ≠ 0 ∨ q ≠ 0 := by
      by_cases hp : p = 0
      · refine .inr fun hq => ?_
        rw [hp, hq] at e
        have : (0 : Poly) = 1 := by grind
        have := congrArg len this
        rw [len_zero, len_one] at this
        omega
      · exact .inl hp
    have l1 : Led 1 := by
      show (C 1).ld = 1
      exact ld_C
    exact gc_eq l1 ⟨p, by grind⟩ ⟨q, by grind⟩ ⟨u, v, e.symm⟩ hn
  · intro h
    obtain ⟨u, v, e⟩ := gc_comb p q
    exact ⟨u, v, by rw [← e, h]⟩
/-- the parts without what is shared share nothing -/
theorem gc_parts {p q u v : Poly} (h : p ≠ 0 ∨ q ≠ 0) (e : p = u * gc p q) (f : q = v * gc p q) : Cop u v := by
  obtain ⟨x, y, g⟩ := gc_comb p q
  have hg := (gc_led h).ne
  refine ⟨x, y, mul_cancel hg ?_⟩
  generalize gc p q = z at *
  grind
/-- 1 comes of rows sharing nothing by just one pair that is short -/
theorem bez_short {p q : Poly} (h : Cop p q) (hq : q ≠ 0) : ∃ u v, u * p + v * q = 1 ∧ u.len < q.len := by
  obtain ⟨u, v, e⟩ := h
  refine ⟨md u q, v + dv u q * p, ?_, md_len hq⟩
  have := dv_md u q
  grind
theorem bez_len {p q u v : Poly} (e : u * p + v * q = 1) (hq : 1 < q.len) (hu : u.len < q.len) : v.len < max p.len 1 ∨ p.len = 0 := by
  by_cases hp : p = 0
  · right; rw [hp]; rfl
  left
  by_cases hv : v = 0
  · rw [hv, len_zero]; omega
  have hq0 : q ≠ 0 := fun z => by rw [z, len_zero] at hq; omega
  have h1 := len_mul hv hq0
  have h2 : v * q = 1 - u * p := by grind
  have h3 := len_sub 1 (u * p)
  have h4 := len_mul_le u p
  rw [h2] at h1
  rw [len_one] at h3
  have h5 := len_pos.mpr hp
  have h6 := len_pos.mpr hv
  omega
theorem bez_unique {p q u v u' v' : Poly} (e : u * p + v * q = 1) (f : u' * p + v' * q = 1) (hu : u.len < q.len) (hu' : u'.len < q.len) : u = u' ∧ v = v' := by
  have hq : q ≠ 0 := fun z => by rw [z, len_zero] at hu; omega
  have hc : Cop q p := ⟨v, u, by grind⟩
  have hd : Dvd q (p * (u - u')) := ⟨v' - v, by grind⟩
  have h1 := hc.dvd_mul hd
  have h2 : u - u' = 0 := by
    refine Decidable.byContradiction fun hn => ?_
    have := h1.len hn
    have := len_sub u u'
    omega
  have h3 : u = u' := by grind
  refine ⟨h3, ?_⟩
  have h4 : q * v = q * v' := by rw [h3] at e; grind
  exact mul_cancel hq h4
end Al
namespace Al
open Poly
/-! ### whole numbers at all places, multiples of d -/
def Ml (d : Int) (p : Poly) : Prop := ∀ i, ∃ t : Int, p.c i = ((d * t : Int) : Rat)
theorem Ml.add {d : Int} {p q : Poly} (h : Ml d p) (k : Ml d q) : Ml d (p + q) := fun i => by
  obtain ⟨t, e⟩ := h i
  obtain ⟨u, f⟩ := k i
  exact ⟨t + u, by rw [c_add, e, f, ← Rat.intCast_add]; congr 1; grind⟩
theorem Ml.neg {d : Int} {p : Poly} (h : Ml d p) : Ml d (-p) := fun i => by
  obtain ⟨t, e⟩ := h i
  exact ⟨-t, by rw [c_neg, e, ← Rat.intCast_neg]; congr 1; grind⟩
theorem Ml.sub {d : Int} {p q : Poly} (h : Ml d p) (k : Ml d q) : Ml d (p - q) := h.add k.neg
theorem Ml.zero (d : Int) : Ml d 0 := fun i => ⟨0, by rw [c_zero, Int.mul_zero]; rfl⟩
theorem Ml.cst {d t : Int} : Ml d (C ((d * t : Int) : Rat)) := fun i => by
  rw [c_C]
  split
  · exact ⟨t, rfl⟩
  · exact ⟨0, by rw [Int.mul_zero]; rfl⟩
theorem Ml.byX {d : Int} {p : Poly} (h : Ml d p) : Ml d (X * p) := fun i => by
  cases i with
  | zero => exact ⟨0, by rw [c_Xmul0, Int.mul_zero]; rfl⟩
  | succ i => rw [c_Xmul]; exact h i
theorem Ml.smul {d e : Int} {p : Poly} (h : Ml d p) : Ml (e * d) (Al.C (e : Rat) * p) := fun i => by
  obtain ⟨t, f⟩ := h i
  exact ⟨t, by rw [c_Cmul, f, ← Rat.intCast_mul, Int.mul_assoc]⟩
theorem Ml.int {d : Int} {p : Poly} (h : Ml d p) : Ml 1 p := fun i => by
  obtain ⟨t, f⟩ := h i
  exact ⟨d * t, by rw [f, Int.one_mul]⟩
theorem Ml.up {d e : Int} {p : Poly} (h : Ml d p) (k : e ∣ d) : Ml e p := fun i => by
  obtain ⟨t, f⟩ := h i
  obtain ⟨u, rfl⟩ := k
  exact ⟨u * t, by rw [f, Int.mul_assoc]⟩
theorem split0 (p : Poly) : ∃ p', p = C (p.c 0) + X * p' ∧ p'.len = p.len - 1 ∧ ∀ i, p'.c i = p.c (i + 1) := by
  have hc : ∀ i, (ofL (p.val.drop 1)).c i = p.c (i + 1) := fun i => by
    rw [c_ofL]
    simp [cf, Poly.c, Nat.add_comm]
  refine ⟨ofL (p.val.drop 1), Poly.ext fun i => ?_, ?_, hc⟩
  · cases i with
    | zero => rw [c_add, c_C, c_Xmul0]; simp; grind
    | succ i => rw [c_add, c_C, c_Xmul, hc, if_neg (by omega)]; grind
  · by_cases h : p.len ≤ 1
    · have : (ofL (p.val.drop 1)).len ≤ 0 := len_le fun i _ => by rw [hc, c_ge (by omega)]
      omega
    · have hp : p ≠ 0 := fun e => by rw [e, len_zero] at h; omega
      have hl := ld_ne hp
      rw [len_eq (n := p.len - 2) (fun i hi => by rw [hc, c_ge (by omega)]) (by rw [hc, show p.len - 2 + 1 = p.len - 1 by omega]; exact hl)]
      omega
theorem Ml.of_split {d : Int} {p p' : Poly} (h0 : ∃ t : Int, p.c 0 = ((d * t : Int) : Rat)) (hp : ∀ i, p'.c i = p.c (i + 1)) (h : Ml d p') : Ml d p := fun i => by
  cases i with
  | zero => exact h0
  | succ i => rw [← hp]; exact h i
theorem Ml.tail {d : Int} {p p' : Poly} (hp : ∀ i, p'.c i = p.c (i + 1)) (h : Ml d p) : Ml d p' := fun i => by rw [hp]; exact h (i + 1)
theorem Ml.mul {d : Int} {p q : Poly} (h : Ml 1 p) (k : Ml d q) : Ml d (p * q) := by
  have : ∀ n, ∀ p : Poly, p.len ≤ n → Ml 1 p → Ml d (p * q) := by
    intro n
    induction n with
    | zero =>
      intro p hl _
      rw [len_eq_zero.mp (by omega : p.len = 0), show (0 : Poly) * q = 0 by grind]
      exact Ml.zero d
    | succ n ih =>
      intro p hl h
      obtain ⟨p', e, hl', hc⟩ := split0 p
      obtain ⟨t, f⟩ := h 0
      rw [Int.one_mul] at f
      have e2 : p * q = Al.C (t : Rat) * q + Al.X * (p' * q) := by rw [e, f]; grind
      rw [e2]
      have h1 : Ml (t * d) (Al.C (t : Rat) * q) := k.smul
      exact (h1.up ⟨t, by grind⟩).add (ih p' (by omega) (h.tail hc)).byX
  exact this _ p (Nat.le_refl _) h
/-! ### prime numbers -/
def Pr (p : Nat) : Prop := 1 < p ∧ ∀ m, m ∣ p → m = 1 ∨ m = p
theorem pr_ex : ∀ n : Nat, 1 < n → ∃ p, Pr p ∧ p ∣ n := by
  intro n
  induction n using Nat.strongRecOn with
  | _ n ih =>
    intro hn
    by_cases h : Pr n
    · exact ⟨n, h, Nat.dvd_refl n⟩
    · obtain ⟨m, hm, h1, h2⟩ : ∃ m, m ∣ n ∧ m ≠ 1 ∧ m ≠ n := by
        refine Classical.byContradiction fun hc => h ⟨hn, fun m hm => ?_⟩
        by_cases h1 : m = 1
        · exact .inl h1
        · by_cases h2 : m = n
          · exact .inr h2
          · exact absurd ⟨m, hm, h1, h2⟩ hc
      have hle := Nat.le_of_dvd (by omega) hm
      have h0 : m ≠ 0 := fun z => by rw [z] at hm; have := Nat.eq_zero_of_zero_dvd hm; omega
      obtain ⟨p, hp, hd⟩ := ih m (by omega) (by omega)
      exact ⟨p, hp, Nat.dvd_trans hd hm⟩
theorem Pr.dvd_mul {p : Nat} (hp : Pr p) {a b : Int} (h : (p : Int) ∣ a * b) : (p : Int) ∣ a ∨ (p : Int) ∣ b := by
  have h' : p ∣ a.natAbs * b.natAbs := by
    rw [← Int.natAbs_mul]
    have := Int.natAbs_dvd_natAbs.mpr h
    rwa [Int.natAbs_natCast] at this
  rcases hp.2 _ (Nat.gcd_dvd_left p a.natAbs) with g | g
  · right
    have := (Nat.Coprime.dvd_of_dvd_mul_left (show Nat.Coprime p a.natAbs from g) h')
    exact Int.natAbs_dvd_natAbs.mp (by rwa [Int.natAbs_natCast])
  · left
    have : p ∣ a.natAbs := by
      have := Nat.gcd_dvd_right p a.natAbs
      rwa [g] at this
    exact Int.natAbs_dvd_natAbs.mp (by rwa [Int.natAbs_natCast])
theorem Pr.mul_poly {p : Nat} (hp : Pr p) : ∀ n, ∀ f k : Poly, f.len + k.len ≤ n → Ml 1 f → Ml 1 k → Ml p (f * k) → Ml p f ∨ Ml p k := by
  intro n
  induction n with
  | zero =>
    intro f k hl _ _ _
    left
    rw [len_eq_zero.mp (by omega : f.len = 0)]
    exact Ml.zero _
  | succ n ih =>
    intro f k hl hf hk h
    by_cases hf0 : f = 0
    · left; rw [hf0]; exact Ml.zero _
    by_cases hk0 : k = 0
    · right; rw [hk0]; exact Ml.zero _
    have lf := len_pos.mpr hf0
    have lk := len_pos.mpr hk0
    obtain ⟨f', ef, hfl, hfc⟩ := split0 f
    obtain ⟨k', ek, hkl, hkc⟩ := split0 k
    obtain ⟨a, ea⟩ := hf 0
    obtain ⟨b, eb⟩ := hk 0
    obtain ⟨t, et⟩ := h 0
    rw [c_mul0, ea, eb, ← Rat.intCast_mul] at et
    have hd : (p : Int) ∣ a * b := ⟨t, by have := Rat.intCast_inj.mp et; grind⟩
    rcases hp.dvd_mul hd with ⟨u, hu⟩ | ⟨u, hu⟩
    · -- the first place of f goes
      have h0 : ∃ t : Int, f.c 0 = ((p * t : Int) : Rat) := ⟨u, by rw [ea, hu, Int.one_mul]⟩
      have e1 : Al.X * (f' * k) = f * k - C (f.c 0) * k := by
        generalize C (f.c 0) = z at *
        rw [ef]
        grind
      have h1 : Ml p (C (f.c 0) * k) := by
        rw [ea, hu, Int.one_mul]
        have := (hk.smul (e := (p : Int) * u))
        exact this.up ⟨u, by rw [Int.mul_one]⟩
      have h2 : Ml p (f' * k) := by
        have := h.sub h1
        rw [← e1] at this
        exact fun i => by rw [← c_Xmul]; exact this (i + 1)
      rcases ih f' k (by omega) (hf.tail hfc) hk h2 with r | r
      · exact .inl (Ml.of_split h0 hfc r)
      · exact .inr r
    · have h0 : ∃ t : Int, k.c 0 = ((p * t : Int) : Rat) := ⟨u, by rw [eb, hu, Int.one_mul]⟩
      have e1 : Al.X * (f * k') = f * k - C (k.c 0) * f := by
        generalize C (k.c 0) = z at *
        rw [ek]
        grind
      have h1 : Ml p (C (k.c 0) * f) := by
        rw [eb, hu, Int.one_mul]
        have := (hf.smul (e := (p : Int) * u))
        exact this.up ⟨u, by rw [Int.mul_one]⟩
      have h2 : Ml p (f * k') := by
        have := h.sub h1
        rw [← e1] at this
        exact fun i => by rw [← c_Xmul]; exact this (i + 1)
      rcases ih f k' (by omega) hf (hk.tail hkc) h2 with r | r
      · exact .inl r
      · exact .inr (Ml.of_split h0 hkc r)
/-- whole numbers that share no divisor but 1 -/
def Prim (f : Poly) : Prop := Ml 1 f ∧ ∀ d : Nat, Ml d f → d = 1
theorem Ml.div {d e : Nat} (hd : 0 < d) {k k' : Poly} (h : Ml ((d * e : Nat) : Int) k) (f : k = C (d : Rat) * k') : Ml e k' := fun i => by
  obtain ⟨t, g⟩ := h i
  refine ⟨t, ?_⟩
  have hd' := natCast_ne hd
  rw [f, c_Cmul, Rat.intCast_mul, Rat.intCast_natCast, Rat.natCast_mul] at g
  rw [Rat.intCast_mul, Rat.intCast_natCast]
  grind
theorem Ml.part {d : Nat} (hd : 0 < d) {k : Poly} (h : Ml d k) : ∃ k', k = C (d : Rat) * k' ∧ Ml 1 k' := by
  have hd' := natCast_ne hd
  have e : k = C (d : Rat) * (C (1 / (d : Rat)) * k) := by
    have : C (d : Rat) * C (1 / (d : Rat)) = 1 := by rw [← C_mul, show (d : Rat) * (1 / (d : Rat)) = 1 by grind]; rfl
    grind
  refine ⟨_, e, ?_⟩
  have := Ml.div (e := 1) hd (by rw [Nat.mul_one]; exact h) e
  exact this
theorem Prim.gauss {f : Poly} (hf : Prim f) : ∀ d : Nat, 0 < d → ∀ k : Poly, Ml 1 k → Ml d (f * k) → Ml d k := by
  intro d
  induction d using Nat.strongRecOn with
  | _ d ih =>
    intro hd k hk h
    by_cases h1 : d = 1
    · subst h1; exact hk
    · obtain ⟨p, hp, e, rfl⟩ := pr_ex d (by omega)
      have hp0 : 0 < p := by have := hp.1; omega
      have he0 : 0 < e := Nat.pos_of_ne_zero fun z => by rw [z, Nat.mul_zero] at hd; omega
      have h2 : Ml p (f * k) := h.up ⟨(e : Int), by rw [Int.natCast_mul]⟩
      rcases hp.mul_poly _ f k (Nat.le_refl _) hf.1 hk h2 with r | r
      · exact absurd (hf.2 p r) (by have := hp.1; omega)
      · obtain ⟨k', ek, hk'⟩ := r.part hp0
        have h3 : Ml e (f * k') := Ml.div (d := p) hp0 h (by rw [ek]; grind)
        have h4 := ih e (by
          have := hp.1
          calc e = 1 * e := by omega
            _ < p * e := Nat.mul_lt_mul_of_pos_right this he0) he0 k' hk' h3
        rw [ek]
        have h5 := h4.smul (e := (p : Int))
        rw [Rat.intCast_natCast, ← Int.natCast_mul] at h5
        exact h5
theorem hn_ex (p : Poly) : ∃ D N, Hn p D N := by
  have : ∀ l : List Rat, ∃ D N, Hn (ofL l) D N := by
    intro l
    induction l with
    | nil => exact ⟨1, 0, Hn.zero (by decide)⟩
    | cons a l ih =>
      obtain ⟨D, N, h⟩ := ih
      refine ⟨a.den * D, a.num.natAbs * D + a.den * N, Nat.mul_pos a.den_pos h.1, fun i => ?_⟩
      rw [c_ofL]
      cases i with
      | zero =>
        refine ⟨a.num * (D : Int), ?_, ?_⟩
        · rw [cf_zero, Rat.intCast_mul, Rat.natCast_mul, Rat.intCast_natCast, ← rat_num a]; grind
        · rw [Int.natAbs_mul, Int.natAbs_natCast]; omega
      | succ i =>
        obtain ⟨t, e, ht⟩ := h.2 i
        rw [c_ofL] at e
        refine ⟨(a.den : Int) * t, ?_, ?_⟩
        · rw [cf_succ, Rat.intCast_mul, Rat.natCast_mul, Rat.intCast_natCast, ← e]; grind
        · rw [Int.natAbs_mul, Int.natAbs_natCast]
          have := Nat.mul_le_mul_left a.den ht
          omega
  rw [← ofL_val p]
  exact this _
theorem Prim.quot {f h g : Poly} (hf : Prim f) (e : f * h = g) (hg : Ml 1 g) : Ml 1 h := by
  obtain ⟨D, N, hD, hh⟩ := hn_ex h
  have h1 : Ml 1 (C (D : Rat) * h) := fun i => by
    obtain ⟨t, e, _⟩ := hh i
    exact ⟨t, by rw [c_Cmul, Int.one_mul, ← e]; exact Rat.mul_comm _ _⟩
  have h2 : Ml D (f * (C (D : Rat) * h)) := by
    have := hg.smul (e := (D : Int))
    rw [Int.mul_one, Rat.intCast_natCast] at this
    rw [show f * (C (D : Rat) * h) = C (D : Rat) * (f * h) by grind, e]
    exact this
  have h3 := hf.gauss D hD _ h1 h2
  have := Ml.div (d := D) (e := 1) hD (by rw [Nat.mul_one]; exact h3) rfl
  exact this
theorem Prim.ne {f : Poly} (h : Prim f) : f ≠ 0 := fun z => by
  have := h.2 2 (by rw [z]; exact Ml.zero _)
  omega
/-- a row is a number times whole numbers that share nothing -/
theorem prim_ex {p : Poly} (hp : p ≠ 0) : ∃ (c : Rat) (f : Poly), c ≠ 0 ∧ Prim f ∧ p = C c * f ∧ 0 < f.ld := by
  obtain ⟨D, N, hD, hh⟩ := hn_ex p
  have hDr := natCast_ne hD
  have h1 : Ml 1 (C (D : Rat) * p) := fun i => by
    obtain ⟨t, e, _⟩ := hh i
    exact ⟨t, by rw [c_Cmul, Int.one_mul, ← e]; exact Rat.mul_comm _ _⟩
  -- the greatest number whose multiples they all are
  have hq : C (D : Rat) * p ≠ 0 := mul_ne (C_ne hDr) hp
  have key : ∀ n, ∀ q : Poly, q ≠ 0 → Ml 1 q → (∃ t : Int, q.ld = (t : Rat) ∧ t.natAbs ≤ n) → ∃ (c : Rat) (f : Poly), c ≠ 0 ∧ Prim f ∧ q = C c * f := by
    intro n
    induction n with
    | zero =>
      intro q hq _ ⟨t, e, ht⟩
      have : t = 0 := Int.natAbs_eq_zero.mp (by omega)
      exact absurd (by rw [e, this]; rfl) (ld_ne hq)
    | succ n ih =>
      intro q hq hm ⟨t, e, ht⟩
      by_cases hP : Prim q
      · exact ⟨1, q, by decide, hP, by rw [C_one]; grind⟩
      · obtain ⟨d, hd, hd1⟩ : ∃ d : Nat, Ml d q ∧ d ≠ 1 := by
          refine Classical.byContradiction fun hc => hP ⟨hm, fun d h => ?_⟩
          refine Decidable.byContradiction fun h1 => hc ⟨d, h, h1⟩
        have hd0 : 0 < d := Nat.pos_of_ne_zero fun z => by
          subst z
          obtain ⟨t, f⟩ := hd (q.len - 1)
          have : q.ld = 0 := by unfold ld; rw [f]; simp
          exact ld_ne hq this
        have hdr := natCast_ne hd0
        obtain ⟨k, ek, hk⟩ := hd.part hd0
        have hk0 : k ≠ 0 := fun z => hq (by rw [ek, z]; grind)
        have hkl : k.len = q.len := by
          have := len_mul (C_ne hdr) hk0
          rw [← ek, len_C hdr] at this
          omega
        obtain ⟨s, es⟩ := hk (k.len - 1)
        rw [Int.one_mul] at es
        have hld : q.ld = (d : Rat) * k.ld := by
          rw [ek, ld_mul (C_ne hdr) hk0, ld_C]
        have hts : t = (d : Int) * s := by
          apply Rat.intCast_inj.mp
          rw [← e, hld, Rat.intCast_mul, Rat.intCast_natCast]
          congr 1
        have hs0 : s ≠ 0 := fun z => ld_ne hk0 (by show k.c (k.len - 1) = 0; rw [es, z]; rfl)
        have hlt : s.natAbs ≤ n := by
          have h2 : t.natAbs = d * s.natAbs := by rw [hts, Int.natAbs_mul, Int.natAbs_natCast]
          have h3 : 0 < s.natAbs := Int.natAbs_pos.mpr hs0
          have h4 : 2 * s.natAbs ≤ d * s.natAbs := Nat.mul_le_mul_right _ (by omega)
          omega
        obtain ⟨c, f, hc, hf, ef⟩ := ih k hk0 hk ⟨s, es, hlt⟩
        exact ⟨(d : Rat) * c, f, fun z => by rcases Rat.mul_eq_zero.mp z with z | z; exact hdr z; exact hc z, hf, by rw [ek, ef, C_mul]; grind⟩
  obtain ⟨t, et⟩ := h1 ((C (D : Rat) * p).len - 1)
  rw [Int.one_mul] at et
  obtain ⟨c, f, hc, hf, ef⟩ := key _ _ hq h1 ⟨t, et, Nat.le_refl _⟩
  have hfl := ld_ne hf.ne
  have e2 : p = C (1 / (D : Rat) * c) * f := by
    have := inv_C hDr ef
    rw [this, C_mul]; grind
  have hc2 : 1 / (D : Rat) * c ≠ 0 := fun z => by
    rcases Rat.mul_eq_zero.mp z with z | z
    · grind
    · exact hc z
  by_cases hs : 0 < f.ld
  · exact ⟨_, f, hc2, hf, e2, hs⟩
  · refine ⟨-(1 / (D : Rat) * c), -f, fun z => hc2 (by grind), ⟨hf.1.neg, fun d h => hf.2 d (by have := h.neg; rwa [show - -f = f by grind] at this)⟩, by rw [C_neg, e2]; grind, ?_⟩
    have : (-f).ld = -f.ld := by unfold ld; rw [len_neg, c_neg]
    rw [this]
    have h1 : f.ld < 0 := Rat.lt_of_le_of_ne (Rat.not_lt.mp hs) hfl
    grind
end Al
namespace Al
open Poly
/-! ### sums -/
def sm (f : Nat → Int) : Nat → Int
  | 0 => 0
  | n + 1 => sm f n + f n
theorem sm_abs {f : Nat → Int} {B : Nat} : ∀ {n : Nat}, (∀ j, j < n → (f j).natAbs ≤ B) → (sm f n).natAbs ≤ n * B
  | 0, _ => by simp [sm]
  | n + 1, h => by
    have h1 := sm_abs (f := f) (n := n) fun j hj => h j (by omega)
    have h2 := h n (by omega)
    have h3 : (sm f (n + 1)).natAbs ≤ (sm f n).natAbs + (f n).natAbs := Int.natAbs_add_le _ _
    rw [Nat.succ_mul]
    omega
theorem sm_sub (f g : Nat → Int) : ∀ n, sm (fun j => f j - g j) n = sm f n - sm g n
  | 0 => rfl
  | n + 1 => by simp only [sm]; rw [sm_sub f g n]; omega
theorem sm_congr {f g : Nat → Int} : ∀ {n}, (∀ j, j < n → f j = g j) → sm f n = sm g n
  | 0, _ => rfl
  | n + 1, h => by simp only [sm]; rw [sm_congr fun j hj => h j (by omega), h n (by omega)]
theorem sm_add (f : Nat → Int) (n : Nat) : ∀ m, sm f (n + m) = sm f n + sm (fun j => f (n + j)) m
  | 0 => by simp [sm]
  | m + 1 => by rw [← Nat.add_assoc]; simp only [sm]; rw [sm_add f n m]; omega
/-! ### more things than places -/
theorem holes : ∀ (M N : Nat) (f : Nat → Nat), (∀ i, i < N → f i < M) → M < N → ∃ i j, i < j ∧ j < N ∧ f i = f j
  | 0, N, f, h, hl => absurd (h 0 (by omega)) (by omega)
  | M + 1, N, f, h, hl => by
    by_cases hc : ∃ i, i < N - 1 ∧ f i = f (N - 1)
    · obtain ⟨i, hi, e⟩ := hc
      exact ⟨i, N - 1, hi, by omega, e⟩
    · have ne : ∀ i, i < N - 1 → f i ≠ f (N - 1) := fun i hi e => hc ⟨i, hi, e⟩
      have hv := h (N - 1) (by omega)
      obtain ⟨i, j, hij, hj, e⟩ := holes M (N - 1) (fun i => if f (N - 1) < f i then f i - 1 else f i) (fun i hi => by
        have h1 := h i (by omega)
        have h2 := ne i hi
        show (if f (N - 1) < f i then f i - 1 else f i) < M
        split <;> omega) (by omega)
      refine ⟨i, j, hij, by omega, ?_⟩
      have h1 := ne i (by omega)
      have h2 := ne j hj
      have e' : (if f (N - 1) < f i then f i - 1 else f i) = (if f (N - 1) < f j then f j - 1 else f j) := e
      split at e' <;> split at e' <;> omega
/-- the digits of a number to the bottom b -/
def dig (b i k : Nat) : Nat := i / b ^ k % b
theorem dig_ext {b : Nat} (hb : 0 < b) : ∀ (n i j : Nat), i < b ^ n → j < b ^ n → (∀ k, k < n → dig b i k = dig b j k) → i = j
  | 0, i, j, hi, hj, _ => by simp at hi hj; omega
  | n + 1, i, j, hi, hj, h => by
    have h0 := h 0 (by omega)
    unfold dig at h0
    rw [Nat.pow_zero, Nat.div_one, Nat.div_one] at h0
    have hq : i / b = j / b := by
      refine dig_ext hb n _ _ ?_ ?_ fun k hk => ?_
      · exact Nat.div_lt_of_lt_mul (by rw [Nat.mul_comm, ← Nat.pow_succ]; exact hi)
      · exact Nat.div_lt_of_lt_mul (by rw [Nat.mul_comm, ← Nat.pow_succ]; exact hj)
      · have := h (k + 1) (by omega)
        unfold dig at this ⊢
        rw [Nat.div_div_eq_div_mul, Nat.div_div_eq_div_mul, Nat.mul_comm b, ← Nat.pow_succ]
        exact this
    rw [← Nat.div_add_mod i b, ← Nat.div_add_mod j b, hq, h0]
/-- numbers below b as one number -/
def code (b : Nat) (w : Nat → Nat) : Nat → Nat
  | 0 => 0
  | n + 1 => code b w n * b + w n
theorem code_lt {b : Nat} {w : Nat → Nat} : ∀ {n}, (∀ k, k < n → w k < b) → code b w n < b ^ n
  | 0, _ => by simp [code]
  | n + 1, h => by
    have h1 := code_lt (n := n) fun k hk => h k (by omega)
    have h2 := h n (by omega)
    have h3 : (code b w n + 1) * b ≤ b ^ n * b := Nat.mul_le_mul_right _ h1
    simp only [code]
    rw [Nat.pow_succ]
    rw [Nat.succ_mul] at h3
    omega
theorem code_ext {b : Nat} {w v : Nat → Nat} : ∀ {n}, (∀ k, k < n → w k < b) → (∀ k, k < n → v k < b) → code b w n = code b v n → ∀ k, k < n → w k = v k
  | 0, _, _, _, k, hk => by omega
  | n + 1, hw, hv, e, k, hk => by
    have h1 := hw n (by omega)
    have h2 := hv n (by omega)
    simp only [code] at e
    have hm : (code b w n * b + w n) % b = (code b v n * b + v n) % b := by rw [e]
    rw [Nat.mul_comm, Nat.mul_add_mod, Nat.mul_comm, Nat.mul_add_mod, Nat.mod_eq_of_lt h1, Nat.mod_eq_of_lt h2] at hm
    have hq : code b w n = code b v n := by
      have : code b w n * b = code b v n * b := by omega
      exact Nat.eq_of_mul_eq_mul_right (by omega) this
    by_cases hkn : k = n
    · rw [hkn]; exact hm
    · exact code_ext (fun k hk => hw k (by omega)) (fun k hk => hv k (by omega)) hq k (by omega)
/-- fewer equations than unknowns: small whole numbers that are not all nought -/
theorem siegel (n e A : Nat) (c : Nat → Nat → Int) (he : e < n) (hc : ∀ k j, (c k j).natAbs ≤ A) :
    ∃ x : Nat → Int, (∃ j, j < n ∧ x j ≠ 0) ∧ (∀ j, (x j).natAbs ≤ (2 * n * A + 2) ^ e) ∧ ∀ k, k < e → sm (fun j => c k j * x j) n = 0 := by
  obtain ⟨W, hW⟩ : ∃ W, W = 2 * n * A + 2 := ⟨_, rfl⟩
  obtain ⟨H, hH⟩ : ∃ H, H = W ^ e := ⟨_, rfl⟩
  have hW0 : 0 < W := by omega
  have hH0 : 0 < H := by rw [hH]; exact Nat.pow_pos hW0
  obtain ⟨Y, hY⟩ : ∃ Y, Y = n * (A * H) := ⟨_, rfl⟩
  -- the sums stay within Y
  have hy : ∀ i k, (sm (fun j => c k j * (dig (H + 1) i j : Int)) n).natAbs ≤ Y := fun i k => by
    rw [hY]
    refine sm_abs fun j _ => ?_
    rw [Int.natAbs_mul, Int.natAbs_natCast]
    refine Nat.mul_le_mul (hc k j) ?_
    have : dig (H + 1) i j < H + 1 := Nat.mod_lt _ (by omega)
    omega
  have hw : ∀ i k, (sm (fun j => c k j * (dig (H + 1) i j : Int)) n + (Y : Int)).toNat < 2 * Y + 1 := fun i k => by
    have := hy i k
    omega
  have hB : (2 * Y + 1) ^ e < (H + 1) ^ n := by
    have h1 : 2 * Y + 1 ≤ W * H := by
      have h2 : W * H = 2 * (n * (A * H)) + 2 * H := by rw [hW]; grind
      rw [h2, ← hY]
      omega
    calc (2 * Y + 1) ^ e ≤ (W * H) ^ e := Nat.pow_le_pow_left h1 e
      _ = H * H ^ e := by rw [Nat.mul_pow, ← hH]
      _ = H ^ (e + 1) := by rw [Nat.pow_succ, Nat.mul_comm]
      _ < (H + 1) ^ (e + 1) := Nat.pow_lt_pow_left (by omega) (by omega)
      _ ≤ (H + 1) ^ n := Nat.pow_le_pow_right (by omega) (by omega)
  obtain ⟨i, j, hij, hj, e1⟩ := holes ((2 * Y + 1) ^ e) ((H + 1) ^ n) (fun i => code (2 * Y + 1) (fun k => (sm (fun j => c k j * (dig (H + 1) i j : Int)) n + (Y : Int)).toNat) e) (fun i _ => code_lt fun k _ => hw i k) hB
  have e2 := code_ext (fun k _ => hw i k) (fun k _ => hw j k) e1
  refine ⟨fun l => (dig (H + 1) i l : Int) - (dig (H + 1) j l : Int), ?_, fun l => ?_, fun k hk => ?_⟩
  · refine Classical.byContradiction fun hn => ?_
    have : i = j := dig_ext (by omega) n i j (by omega) hj fun l hl => by
      refine Classical.byContradiction fun hd => hn ⟨l, hl, ?_⟩
      show (dig (H + 1) i l : Int) - (dig (H + 1) j l : Int) ≠ 0
      omega
    omega
  · have h1 : dig (H + 1) i l < H + 1 := Nat.mod_lt _ (by omega)
    have h2 : dig (H + 1) j l < H + 1 := Nat.mod_lt _ (by omega)
    rw [← hW, ← hH]
    show ((dig (H + 1) i l : Int) - (dig (H + 1) j l : Int)).natAbs ≤ H
    omega
  · have h1 := e2 k hk
    have h2 := hy i k
    have h3 := hy j k
    have h4 : sm (fun l => c k l * ((dig (H + 1) i l : Int) - (dig (H + 1) j l : Int))) n = sm (fun l => c k l * (dig (H + 1) i l : Int)) n - sm (fun l => c k l * (dig (H + 1) j l : Int)) n := by
      rw [← sm_sub]
      exact sm_congr fun l _ => Int.mul_sub _ _ _
    rw [h4]
    omega
/-! ### whole numbers u, v of few places with u * p + v * q short -/
theorem int_of {p : Poly} (h : Ml 1 p) : ∃ a : Nat → Int, ∀ i, p.c i = (a i : Rat) := by
  refine ⟨fun i => (h i).choose, fun i => ?_⟩
  have := (h i).choose_spec
  rw [Int.one_mul] at this
  exact this
def ofI (x : Nat → Int) (n : Nat) : Poly := ofL ((List.range n).map fun j => (x j : Rat))
theorem c_ofI (x : Nat → Int) (n i : Nat) : (ofI x n).c i = if i < n then (x i : Rat) else 0 := by
  unfold ofI
  rw [c_ofL, cf_range]
theorem ofI_len (x : Nat → Int) (n : Nat) : (ofI x n).len ≤ n := len_le fun i hi => by rw [c_ofI, if_neg (by omega)]
theorem ofI_int (x : Nat → Int) (n : Nat) : Ml 1 (ofI x n) := fun i => by
  rw [c_ofI]
  split
  · exact ⟨x i, by rw [Int.one_mul]⟩
  · exact ⟨0, rfl⟩
theorem c_mul_sm {a : Nat → Int} {p : Poly} (hp : ∀ i, p.c i = (a i : Rat)) (x : Nat → Int) (i : Nat) : ∀ n, (ofI x n * p).c i = ((sm (fun j => (if j ≤ i then a (i - j) else 0) * x j) n : Int) : Rat)
  | 0 => by
    have : ofI x 0 = 0 := rfl
    rw [this, show (0 : Poly) * p = 0 by grind, c_zero]
    rfl
  | n + 1 => by
    have e : ofI x (n + 1) = ofI x n + mo (x n : Rat) n := Poly.ext fun j => by
      rw [c_add, c_ofI, c_ofI, c_mo]
      rcases Nat.lt_trichotomy j n with h | h | h
      · rw [if_pos (by omega), if_pos h, if_neg (by omega), Rat.add_zero]
      · rw [if_pos (by omega), if_neg (by omega), if_pos h, h, Rat.zero_add]
      · rw [if_neg (by omega), if_neg (by omega), if_neg (by omega)]; exact (Rat.add_zero _).symm
    rw [e, show (ofI x n + mo (x n : Rat) n) * p = ofI x n * p + mo (x n : Rat) n * p by grind, c_add, c_mul_sm hp x i n, c_moMul]
    simp only [sm]
    rw [Rat.intCast_add]
    congr 1
    by_cases h : i < n
    · rw [if_pos h, if_neg (by omega), Int.zero_mul]; rfl
    · rw [if_neg h, if_pos (by omega), hp, ← Rat.intCast_mul, Int.mul_comm]
/-- the places of u * p + v * q from t on are nought, those of u and v are small -/
theorem small_comb {p q : Poly} {A : Nat} {a b : Nat → Int} (hp : ∀ i, p.c i = (a i : Rat)) (hq : ∀ i, q.c i = (b i : Rat)) (ha : ∀ i, (a i).natAbs ≤ A) (hb : ∀ i, (b i).natAbs ≤ A) (m n t e : Nat) (he : e < m + n)
    (h1 : m + p.len ≤ t + e + 1) (h2 : n + q.len ≤ t + e + 1) :
    ∃ u v : Poly, u.len ≤ m ∧ v.len ≤ n ∧ (u ≠ 0 ∨ v ≠ 0) ∧ Hn u 1 ((2 * (m + n) * A + 2) ^ e) ∧ Hn v 1 ((2 * (m + n) * A + 2) ^ e) ∧ (u * p + v * q).len ≤ t := by
  obtain ⟨x, ⟨j, hj, hx⟩, hs, hz⟩ := siegel (m + n) e A (fun k j => if j < m then (if j ≤ t + k then a (t + k - j) else 0) else (if j - m ≤ t + k then b (t + k - (j - m)) else 0)) he (fun k j => by
    show (if j < m then (if j ≤ t + k then a (t + k - j) else 0) else (if j - m ≤ t + k then b (t + k - (j - m)) else 0)).natAbs ≤ A
    split
    · split
      · exact ha _
      · exact Nat.zero_le _
    · split
      · exact hb _
      · exact Nat.zero_le _)
  have hh : ∀ (y : Nat → Int) (k : Nat), (∀ j, (y j).natAbs ≤ (2 * (m + n) * A + 2) ^ e) → Hn (ofI y k) 1 ((2 * (m + n) * A + 2) ^ e) := fun y k hy => ⟨by decide, fun i => by
    rw [c_ofI]
    split
    · exact ⟨y i, by show _ * (1 : Rat) = _; grind, hy i⟩
    · exact ⟨0, Rat.zero_mul _, Nat.zero_le _⟩⟩
  refine ⟨ofI x m, ofI (fun j => x (m + j)) n, ofI_len _ _, ofI_len _ _, ?_, hh _ _ hs, hh _ _ (fun j => hs _), ?_⟩
  · by_cases hjm : j < m
    · left
      intro z
      have := congrArg (fun r => r.c j) z
      simp only [c_ofI, if_pos hjm, c_zero] at this
      exact hx (Rat.intCast_eq_zero_iff.mp this)
    · right
      intro z
      have := congrArg (fun r => r.c (j - m)) z
      simp only [c_ofI, if_pos (show j - m < n by omega), c_zero, show m + (j - m) = j by omega] at this
      exact hx (Rat.intCast_eq_zero_iff.mp this)
  · refine len_le fun i hi => ?_
    by_cases hie : i < t + e
    · have h0 := hz (i - t) (by omega)
      rw [show t + (i - t) = i by omega] at h0
      rw [c_add, c_mul_sm hp, c_mul_sm hq, ← Rat.intCast_add]
      have e1 : sm (fun j => (if j ≤ i then a (i - j) else 0) * x j) m + sm (fun j => (if j ≤ i then b (i - j) else 0) * x (m + j)) n = 0 := by
        rw [sm_add] at h0
        refine Eq.trans ?_ h0
        refine congr (congrArg HAdd.hAdd (sm_congr fun j hj => ?_)) (sm_congr fun j hj => ?_)
        · rw [if_pos hj]
        · rw [if_neg (show ¬ m + j < m by omega), show m + j - m = j by omega]
      rw [e1]
      rfl
    · have l1 := len_mul_le (ofI x m) p
      have l2 := len_mul_le (ofI (fun j => x (m + j)) n) q
      have l3 := ofI_len x m
      have l4 := ofI_len (fun j => x (m + j)) n
      rw [c_add, c_ge (by omega), c_ge (by omega)]
      exact Rat.add_zero _
end Al
namespace Al
open Poly
/-! ### a row's worth at a number -/
def evL (x : Rat) : List Rat → Rat
  | [] => 0
  | a :: l => a + x * evL x l
def ev (p : Poly) (x : Rat) : Rat := evL x p.val
theorem evL_trim (x : Rat) : ∀ l, evL x (trimL l) = evL x l
  | [] => rfl
  | a :: l => by
    unfold trimL
    split
    · rename_i h
      have := evL_trim x l
      rw [h.1] at this
      simp only [evL] at this ⊢
      rw [← this, h.2]; grind
    · simp only [evL]
      rw [evL_trim x l]
theorem ev_ofL (l : List Rat) (x : Rat) : ev (ofL l) x = evL x l := evL_trim x l
theorem ev_cons (a : Rat) (p : Poly) (x : Rat) : ev (C a + X * p) x = a + x * ev p x := by
  have : C a + X * p = ofL (a :: p.val) := by rw [ofL_cons, ofL_val]
  rw [this, ev_ofL]
  rfl
theorem ev_zero (x : Rat) : ev 0 x = 0 := rfl
theorem ev_C (a x : Rat) : ev (C a) x = a := by
  have := ev_cons a 0 x
  rw [show C a + X * (0 : Poly) = C a by grind, ev_zero] at this
  rw [this]; grind
theorem ev_X (p : Poly) (x : Rat) : ev (X * p) x = x * ev p x := by
  have := ev_cons 0 p x
  rw [C_zero, show (0 : Poly) + X * p = X * p by grind] at this
  rw [this]; grind
theorem ev_add (x : Rat) : ∀ (p q : Poly), ev (p + q) x = ev p x + ev q x := by
  have : ∀ n, ∀ p q : Poly, p.len ≤ n → ev (p + q) x = ev p x + ev q x := by
    intro n
    induction n with
    | zero =>
      intro p q h
      rw [len_eq_zero.mp (by omega : p.len = 0), show (0 : Poly) + q = q by grind, ev_zero]; grind
    | succ n ih =>
      intro p q h
      obtain ⟨p', ep, lp, _⟩ := split0 p
      obtain ⟨q', eq, lq, _⟩ := split0 q
      have e : p + q = C (p.c 0 + q.c 0) + X * (p' + q') := by
        rw [C_add]
        generalize C (p.c 0) = a at *
        generalize C (q.c 0) = b at *
        rw [ep, eq]; grind
      have h1 : ev p x = p.c 0 + x * ev p' x := by
        have := ev_cons (p.c 0) p' x
        rwa [← ep] at this
      have h2 : ev q x = q.c 0 + x * ev q' x := by
        have := ev_cons (q.c 0) q' x
        rwa [← eq] at this
      rw [e, ev_cons, ih p' q' (by omega), h1, h2]
      grind
  exact fun p q => this _ p q (Nat.le_refl _)
theorem ev_Cmul (a : Rat) (q : Poly) (x : Rat) : ev (C a * q) x = a * ev q x := by
  refine ind_cons (P := fun q => ev (C a * q) x = a * ev q x) ?_ (fun b q ih => ?_) q
  · rw [show C a * (0 : Poly) = 0 by grind, ev_zero]; grind
  · rw [show C a * (C b + X * q) = C a * C b + X * (C a * q) by grind, ← C_mul, ev_cons, ev_cons, ih]; grind
theorem ev_mul (p q : Poly) (x : Rat) : ev (p * q) x = ev p x * ev q x := by
  refine ind_cons (P := fun p => ev (p * q) x = ev p x * ev q x) ?_ (fun b p ih => ?_) p
  · rw [show (0 : Poly) * q = 0 by grind, ev_zero]; grind
  · rw [show (C b + X * p) * q = C b * q + X * (p * q) by grind, ev_add, ev_X, ev_Cmul, ih, ev_cons]; grind
theorem ev_neg (p : Poly) (x : Rat) : ev (-p) x = -ev p x := by
  have : -p = C (-1) * p := by rw [C_neg, C_one]; grind
  rw [this, ev_Cmul]; grind
theorem ev_sub (p q : Poly) (x : Rat) : ev (p - q) x = ev p x - ev q x := by
  rw [show p - q = p + -q by grind, ev_add, ev_neg]; grind
theorem ev_int {p : Poly} (h : Ml 1 p) (v : Int) : ∃ t : Int, ev p (v : Rat) = (t : Rat) := by
  have : ∀ n, ∀ p : Poly, p.len ≤ n → Ml 1 p → ∃ t : Int, ev p (v : Rat) = (t : Rat) := by
    intro n
    induction n with
    | zero =>
      intro p hl _
      exact ⟨0, by rw [len_eq_zero.mp (by omega : p.len = 0), ev_zero]; rfl⟩
    | succ n ih =>
      intro p hl h
      obtain ⟨p', ep, lp, hc⟩ := split0 p
      obtain ⟨t, et⟩ := ih p' (by omega) (h.tail hc)
      obtain ⟨a, ea⟩ := h 0
      rw [Int.one_mul] at ea
      refine ⟨a + v * t, ?_⟩
      have := ev_cons (p.c 0) p' (v : Rat)
      rw [← ep] at this
      rw [this, et, ea, Rat.intCast_add, Rat.intCast_mul]
  exact this _ p (Nat.le_refl _) h
/-- a row less its worth at x is a multiple of the letter less x -/
theorem ev_root (p : Poly) (x : Rat) : ∃ k, p - C (ev p x) = (X - C x) * k := by
  refine ind_cons (P := fun p => ∃ k, p - C (ev p x) = (X - C x) * k) ?_ (fun a p ⟨k, e⟩ => ?_) p
  · exact ⟨0, by rw [ev_zero, C_zero]; grind⟩
  · refine ⟨p + C x * k, ?_⟩
    rw [ev_cons, C_add, C_mul]
    grind
theorem cop_lin {p : Poly} {x : Rat} (h : ev p x ≠ 0) : Cop (C x - X) p := by
  obtain ⟨k, e⟩ := ev_root p x
  have hi : C (ev p x) * C (1 / ev p x) = 1 := by rw [← C_mul, show ev p x * (1 / ev p x) = 1 by grind]; rfl
  refine ⟨k * C (1 / ev p x), C (1 / ev p x), ?_⟩
  generalize C (ev p x) = z at *
  generalize C (1 / ev p x) = y at *
  grind
/-! ### the size of a row of few places -/
def nm (R : Rat) (p : Poly) : Nat → Rat
  | 0 => 0
  | n + 1 => nm R p n + (p.c n).abs * R ^ n
theorem rpow_pos {R : Rat} (h : 0 < R) : ∀ n : Nat, 0 < R ^ n
  | 0 => by rw [Rat.pow_zero]; decide
  | n + 1 => by rw [Rat.pow_succ]; exact Rat.mul_pos (rpow_pos h n) h
theorem rabs_add (a b : Rat) : (a + b).abs ≤ a.abs + b.abs := by
  rcases Rat.le_total (a := 0) (b := a) with h | h <;> rcases Rat.le_total (a := 0) (b := b) with k | k <;> rcases Rat.le_total (a := 0) (b := (a + b)) with m | m <;>
    simp only [Rat.abs_of_nonneg, Rat.abs_of_nonpos, h, k, m] <;> grind
theorem rabs_mul (a b : Rat) : (a * b).abs = a.abs * b.abs := by
  rcases Rat.le_total (a := 0) (b := a) with h | h <;> rcases Rat.le_total (a := 0) (b := b) with k | k
  · rw [Rat.abs_of_nonneg h, Rat.abs_of_nonneg k, Rat.abs_of_nonneg (Rat.mul_nonneg h k)]
  · have : 0 ≤ a * -b := Rat.mul_nonneg h (by grind)
    rw [Rat.abs_of_nonneg h, Rat.abs_of_nonpos k, Rat.abs_of_nonpos (by grind)]; grind
  · have : 0 ≤ -a * b := Rat.mul_nonneg (by grind) k
    rw [Rat.abs_of_nonpos h, Rat.abs_of_nonneg k, Rat.abs_of_nonpos (by grind)]; grind
  · have : 0 ≤ -a * -b := Rat.mul_nonneg (by grind) (by grind)
    rw [Rat.abs_of_nonpos h, Rat.abs_of_nonpos k, Rat.abs_of_nonneg (by grind)]; grind
theorem rmul_le {a b c : Rat} (hc : 0 ≤ c) (h : a ≤ b) : a * c ≤ b * c := Rat.mul_le_mul_of_nonneg_right h hc
theorem rmul_le' {a b c : Rat} (hc : 0 ≤ c) (h : a ≤ b) : c * a ≤ c * b := Rat.mul_le_mul_of_nonneg_left h hc
theorem nm_nonneg {R : Rat} (hR : 0 < R) (p : Poly) : ∀ n, 0 ≤ nm R p n
  | 0 => Rat.le_refl
  | n + 1 => by
    have h1 := nm_nonneg hR p n
    have h2 : 0 ≤ (p.c n).abs * R ^ n := Rat.mul_nonneg Rat.abs_nonneg (Rat.le_of_lt (rpow_pos hR n))
    simp only [nm]
    grind
theorem nm_add {R : Rat} (hR : 0 < R) (p q : Poly) : ∀ n, nm R (p + q) n ≤ nm R p n + nm R q n
  | 0 => by simp only [nm]; grind
  | n + 1 => by
    have h1 := nm_add hR p q n
    have h2 := rmul_le (Rat.le_of_lt (rpow_pos hR n)) (rabs_add (p.c n) (q.c n))
    simp only [nm, c_add]
    grind
theorem nm_C {R : Rat} (a : Rat) (p : Poly) : ∀ n, nm R (C a * p) n = a.abs * nm R p n
  | 0 => by simp only [nm]; grind
  | n + 1 => by simp only [nm, c_Cmul]; rw [nm_C a p n, rabs_mul]; grind
theorem nm_X {R : Rat} (p : Poly) : ∀ n, nm R (X * p) (n + 1) = R * nm R p n
  | 0 => by
    simp only [nm, c_Xmul0]
    have : (0 : Rat).abs = 0 := rfl
    rw [this]; grind
  | n + 1 => by
    have := nm_X (R := R) p n
    simp only [nm] at this ⊢
    rw [this, c_Xmul, Rat.pow_succ]; grind
theorem nm_ge {R : Rat} (p : Poly) {n : Nat} (h : p.len ≤ n) : nm R p (n + 1) = nm R p n := by
  simp only [nm]
  rw [c_ge h]
  have : (0 : Rat).abs = 0 := rfl
  rw [this]; grind
theorem nm_place {R : Rat} (hR : 1 ≤ R) (p : Poly) {i : Nat} : ∀ {n}, i < n → (p.c i).abs ≤ nm R p n
  | 0, h => by omega
  | n + 1, h => by
    have hR0 : 0 < R := by grind
    have h0 := nm_nonneg hR0 p n
    have hp : 1 ≤ R ^ n := by
      clear h
      induction n with
      | zero => rw [Rat.pow_zero]; exact Rat.le_refl
      | succ n ih =>
        rw [Rat.pow_succ]
        have := ih (nm_nonneg hR0 p n)
        have h3 := rmul_le (c := R) (by grind) this
        grind
    simp only [nm]
    by_cases e : i = n
    · rw [e]
      have := rmul_le' (c := (p.c n).abs) Rat.abs_nonneg hp
      grind
    · have h1 := nm_place hR p (i := i) (n := n) (by omega)
      have h2 : 0 ≤ (p.c n).abs * R ^ n := Rat.mul_nonneg Rat.abs_nonneg (by grind)
      grind
end Al
namespace Al
open Poly
/-! ### a turn of the letter, over a row that its last place rules -/
theorem nm_turn {R : Rat} (hR : 0 < R) {a p : Poly} {n : Nat} (ha : a.c (n + 1) ≠ 0) (hs : nm R a (n + 1) ≤ (a.c (n + 1)).abs * R ^ (n + 1)) :
    nm R (X * p + C (-(p.c n / a.c (n + 1))) * a) (n + 1) ≤ R * nm R p (n + 1) := by
  have h1 := nm_add hR (X * p) (C (-(p.c n / a.c (n + 1))) * a) (n + 1)
  rw [nm_X, nm_C, Rat.abs_neg] at h1
  have h2 : (p.c n / a.c (n + 1)).abs * (a.c (n + 1)).abs = (p.c n).abs := by
    rw [← rabs_mul]
    congr 1
    grind
  have h3 := rmul_le' (c := (p.c n / a.c (n + 1)).abs) Rat.abs_nonneg hs
  have hp : nm R p (n + 1) = nm R p n + (p.c n).abs * R ^ n := rfl
  rw [hp]
  rw [Rat.pow_succ] at h3
  generalize nm R (X * p + C (-(p.c n / a.c (n + 1))) * a) (n + 1) = L at *
  generalize nm R a (n + 1) = Z at *
  generalize (p.c n / a.c (n + 1)).abs = x at *
  generalize (a.c (n + 1)).abs = y at *
  generalize (p.c n).abs = z at *
  generalize R ^ n = w at *
  have h4 : x * (y * (w * R)) = R * (z * w) := by rw [← h2]; grind
  grind
theorem nm_shrink {R V : Rat} (hR : 0 < R) (hV : 0 ≤ V) {a p q : Poly} {n : Nat} (hl : a.len = n + 2) (hp : p.len ≤ n + 1) (hq : q.len ≤ n + 1) (hs : nm R a (n + 1) ≤ (a.c (n + 1)).abs * R ^ (n + 1))
    (hd : Dvd a ((C V - X) * p - q)) : (V - R) * nm R p (n + 1) ≤ nm R q (n + 1) := by
  have ha : a.c (n + 1) ≠ 0 := by
    have h0 : a ≠ 0 := fun z => by rw [z, len_zero] at hl; omega
    have := ld_ne h0
    rwa [ld_eq hl] at this
  have hx : (X * p + C (-(p.c n / a.c (n + 1))) * a).len ≤ n + 1 := len_le fun i hi => by
    rw [c_add, c_Cmul]
    obtain ⟨j, rfl⟩ : ∃ j, i = j + 1 := ⟨i - 1, by omega⟩
    rw [c_Xmul]
    by_cases e : j = n
    · rw [e]; grind
    · rw [c_ge (p := p) (i := j) (by omega), c_ge (p := a) (i := j + 1) (by omega)]; grind
  have he : q = C V * p - (X * p + C (-(p.c n / a.c (n + 1))) * a) := by
    obtain ⟨w, e⟩ := hd
    have h0 : C V * p - (X * p + C (-(p.c n / a.c (n + 1))) * a) - q = (w - C (-(p.c n / a.c (n + 1)))) * a := by grind
    have h1 : (C V * p - (X * p + C (-(p.c n / a.c (n + 1))) * a) - q).len ≤ n + 1 := by
      have l1 := len_mul_le (C V) p
      have l2 := len_C_le V
      have l3 := len_sub (C V * p) (X * p + C (-(p.c n / a.c (n + 1))) * a)
      have l4 := len_sub (C V * p - (X * p + C (-(p.c n / a.c (n + 1))) * a)) q
      omega
    have h2 : w - C (-(p.c n / a.c (n + 1))) = 0 := by
      refine Decidable.byContradiction fun hn => ?_
      have h3 := len_mul hn (show a ≠ 0 from fun z => ha (by rw [z, c_zero]))
      rw [← h0] at h3
      have := len_pos.mpr hn
      omega
    rw [h2] at h0
    generalize X * p + C (-(p.c n / a.c (n + 1))) * a = y at *
    grind
  have h1 := nm_turn hR ha hs (p := p)
  have h2 := nm_add hR q (X * p + C (-(p.c n / a.c (n + 1))) * a) (n + 1)
  have h3 : q + (X * p + C (-(p.c n / a.c (n + 1))) * a) = C V * p := by rw [he]; grind
  rw [h3, nm_C, Rat.abs_of_nonneg hV] at h2
  grind
/-! ### the upper parts of a row -/
def Qt (h : Poly) (j : Nat) : Poly := ofL (h.val.drop j)
theorem c_Qt (h : Poly) (j i : Nat) : (Qt h j).c i = h.c (j + i) := by
  unfold Qt
  rw [c_ofL]
  simp [cf, Poly.c]
theorem Qt_step (h : Poly) (j : Nat) : Qt h j = X * Qt h (j + 1) + C (h.c j) := Poly.ext fun i => by
  cases i with
  | zero => rw [c_add, c_Xmul0, c_C, c_Qt]; simp; grind
  | succ i => rw [c_add, c_Xmul, c_C, c_Qt, c_Qt, if_neg (by omega), show j + (i + 1) = j + 1 + i by omega]; grind
theorem Qt_zero (h : Poly) : Qt h 0 = h := Poly.ext fun i => by rw [c_Qt, Nat.zero_add]
theorem Qt_ge {h : Poly} {j : Nat} (hj : h.len ≤ j) : Qt h j = 0 := Poly.ext fun i => by rw [c_Qt, c_ge (by omega), c_zero]
theorem Qt_len (h : Poly) (j : Nat) : (Qt h (j + 1)).len ≤ h.len - 1 := len_le fun i hi => by rw [c_Qt, c_ge (by omega)]
inductive La (h : Poly) : Poly → Prop where
  | q (j : Nat) : La h (Qt h (j + 1))
  | add {p q : Poly} : La h p → La h q → La h (p + q)
  | sm (t : Int) {p : Poly} : La h p → La h (C (t : Rat) * p)
  | mul (w : Poly) : La h (w * h)
theorem La.int {h p : Poly} (hh : Ml 1 h) (k : La h p) : ∃ r, Ml 1 r ∧ r.len ≤ h.len - 1 ∧ Dvd h (p - r) := by
  induction k with
  | q j => exact ⟨_, fun i => by rw [c_Qt]; exact hh _, Qt_len h j, by rw [show Qt h (j + 1) - Qt h (j + 1) = 0 by grind]; exact Dvd.zero h⟩
  | add k1 k2 i1 i2 =>
    obtain ⟨r, m, l, d⟩ := i1
    obtain ⟨s, m', l', d'⟩ := i2
    refine ⟨r + s, m.add m', by have := len_add r s; omega, ?_⟩
    rename_i p q
    rw [show p + q - (r + s) = (p - r) + (q - s) by grind]
    exact d.add d'
  | sm t k i =>
    obtain ⟨r, m, l, d⟩ := i
    refine ⟨C (t : Rat) * r, ?_, ?_, ?_⟩
    · have := m.smul (e := t)
      exact this.int
    · have := len_mul_le (C (t : Rat)) r
      have := len_C_le (t : Rat)
      omega
    · rename_i p
      rw [show C (t : Rat) * p - C (t : Rat) * r = C (t : Rat) * (p - r) by grind]
      exact d.mul _
  | mul w => exact ⟨0, Ml.zero 1, by rw [len_zero]; omega, by rw [show w * h - 0 = w * h by grind]; exact ⟨w, rfl⟩⟩
/-- with (X - V) it is h less its worth at V -/
def kap (h : Poly) (V : Rat) : Nat → Poly
  | 0 => 0
  | n + 1 => kap h V n + C (V ^ n) * Qt h (n + 1)
theorem kap_mul (h : Poly) (V : Rat) : ∀ n, ∃ t : Rat, (X - C V) * kap h V n = h - C t - C (V ^ n) * Qt h n
  | 0 => ⟨0, by rw [Qt_zero, Rat.pow_zero, C_zero, C_one]; simp only [kap]; grind⟩
  | n + 1 => by
    obtain ⟨t, e⟩ := kap_mul h V n
    refine ⟨t + V ^ n * h.c n, ?_⟩
    have h1 := Qt_step h n
    simp only [kap]
    rw [Rat.pow_succ, C_mul, C_add, C_mul]
    generalize C (V ^ n) = x at *
    generalize C (h.c n) = y at *
    generalize C V = z at *
    generalize Qt h (n + 1) = u at *
    generalize Qt h n = v at *
    grind
theorem kap_all (h : Poly) (V : Rat) : (X - C V) * kap h V h.len = h - C (ev h V) := by
  obtain ⟨t, e⟩ := kap_mul h V h.len
  rw [Qt_ge (Nat.le_refl _)] at e
  have e' : (X - C V) * kap h V h.len = h - C t := by grind
  have h1 := congrArg (fun p => ev p V) e'
  simp only [ev_mul, ev_sub, ev_C] at h1
  have h2 : ev X V = V := by
    have := ev_X 1 V
    rw [show X * (1 : Poly) = X by grind] at this
    rw [this, ← C_one, ev_C]; grind
  rw [h2] at h1
  have : t = ev h V := by grind
  rw [e', this]
theorem kap_La {h : Poly} (V : Nat) : ∀ n, La h (kap h (V : Rat) n)
  | 0 => by
    have := La.mul (h := h) 0
    rwa [show (0 : Poly) * h = 0 by grind] at this
  | n + 1 => by
    refine (kap_La V n).add ?_
    have : ((V : Rat) ^ n) = (((V ^ n : Nat) : Int) : Rat) := by rw [Rat.intCast_natCast, Rat.natCast_pow]
    rw [this]
    exact (La.q n).sm _
theorem kap_Qt {h : Poly} (hh : Ml 1 h) (V : Nat) : ∀ k j, h.len ≤ j + k → La h (kap h (V : Rat) h.len * Qt h j)
  | 0, j, hj => by
    rw [Qt_ge (by omega), show kap h (V : Rat) h.len * 0 = 0 * h by grind]
    exact La.mul 0
  | k + 1, j, hj => by
    have ih := kap_Qt hh V k (j + 1) (by omega)
    obtain ⟨s, es⟩ := ev_int hh (V : Int)
    rw [Rat.intCast_natCast] at es
    obtain ⟨t, et⟩ := hh j
    rw [Int.one_mul] at et
    have e0 := kap_all h (V : Rat)
    have e1 := Qt_step h j
    have e2 : kap h (V : Rat) h.len * Qt h j = Qt h (j + 1) * h + (C ((-s : Int) : Rat) * Qt h (j + 1) + (C (((V : Nat) : Int) : Rat) * (kap h (V : Rat) h.len * Qt h (j + 1)) + C (t : Rat) * kap h (V : Rat) h.len)) := by
      rw [Rat.intCast_neg, C_neg, Rat.intCast_natCast, ← es, ← et, e1]
      generalize kap h (V : Rat) h.len = k at *
      generalize Qt h (j + 1) = q at *
      generalize C (V : Rat) = v at *
      generalize C (ev h (V : Rat)) = w at *
      generalize C (h.c j) = y at *
      have e3 : X * k = h - w + v * k := by grind
      have e4 : k * (X * q + y) = (X * k) * q + k * y := by grind
      rw [e4, e3]
      grind
    rw [e2]
    exact (La.mul _).add (((La.q j).sm _).add ((ih.sm _).add ((kap_La V h.len).sm _)))
theorem La.kap {h p : Poly} (hh : Ml 1 h) (V : Nat) (k : La h p) : La h (Al.kap h (V : Rat) h.len * p) := by
  induction k with
  | q j => exact kap_Qt hh V h.len (j + 1) (by omega)
  | add k1 k2 i1 i2 =>
    rename_i p q
    rw [show Al.kap h (V : Rat) h.len * (p + q) = Al.kap h (V : Rat) h.len * p + Al.kap h (V : Rat) h.len * q by grind]
    exact i1.add i2
  | sm t k i =>
    rename_i p
    rw [show Al.kap h (V : Rat) h.len * (C (t : Rat) * p) = C (t : Rat) * (Al.kap h (V : Rat) h.len * p) by grind]
    exact i.sm t
  | mul w =>
    rw [show Al.kap h (V : Rat) h.len * (w * h) = (Al.kap h (V : Rat) h.len * w) * h by grind]
    exact La.mul _
theorem kap_pow {h : Poly} (hh : Ml 1 h) (V : Nat) : ∀ m : Nat, La h (Al.kap h (V : Rat) h.len ^ (m + 1))
  | 0 => by
    show La h (1 * Al.kap h (V : Rat) h.len)
    rw [show 1 * Al.kap h (V : Rat) h.len = Al.kap h (V : Rat) h.len by grind]
    exact kap_La V _
  | m + 1 => by
    have := (kap_pow hh V m).kap hh V
    rw [show Al.kap h (V : Rat) h.len * Al.kap h (V : Rat) h.len ^ (m + 1) = Al.kap h (V : Rat) h.len ^ (m + 1 + 1) by
      show _ = Al.kap h (V : Rat) h.len ^ (m + 1) * Al.kap h (V : Rat) h.len
      grind] at this
    exact this
/-! ### what is left by h is bounded -/
theorem c_bound (p : Poly) : ∃ B : Nat, ∀ i, (p.c i).abs ≤ (B : Rat) := by
  obtain ⟨D, N, hD, h⟩ := hn_ex p
  refine ⟨N, fun i => ?_⟩
  obtain ⟨t, e, ht⟩ := h i
  have hD' : (1 : Rat) ≤ (D : Rat) := by
    have := Rat.natCast_le_natCast (a := 1) (b := D)
    exact this.mpr hD
  have h1 : ((t.natAbs : Nat) : Rat) ≤ (N : Rat) := Rat.natCast_le_natCast.mpr ht
  have h2 : (p.c i).abs * (D : Rat) = ((t.natAbs : Nat) : Rat) := by
    have h3 : (p.c i * (D : Rat)).abs = (t : Rat).abs := by rw [e]
    have h0 : (D : Rat).abs = (D : Rat) := Rat.abs_of_nonneg (by grind)
    rw [rabs_mul, h0] at h3
    rw [h3]
    rcases Int.le_total 0 t with k | k
    · rw [Rat.abs_of_nonneg (Rat.intCast_nonneg.mpr k), ← Rat.intCast_natCast, Int.natAbs_of_nonneg k]
    · rw [Rat.abs_of_nonpos (Rat.intCast_nonpos.mpr k), ← Rat.intCast_natCast, Int.ofNat_natAbs_of_nonpos k, Rat.intCast_neg]
  have h3 := rmul_le' (c := (p.c i).abs) Rat.abs_nonneg hD'
  grind
theorem md_add {h : Poly} (hh : h ≠ 0) (p q : Poly) : md (p + q) h = md p h + md q h := by
  have e1 := dv_md p h
  have e2 := dv_md q h
  refine (dv_eq (w := dv p h + dv q h) (by grind) ?_).2
  have := len_add (md p h) (md q h)
  have := md_len (p := p) hh
  have := md_len (p := q) hh
  omega
theorem md_C {h : Poly} (hh : h ≠ 0) (a : Rat) (p : Poly) : md (C a * p) h = C a * md p h := by
  have e1 := dv_md p h
  refine (dv_eq (w := C a * dv p h) (by grind) ?_).2
  have := len_mul_le (C a) (md p h)
  have := len_C_le a
  have := md_len (p := p) hh
  omega
theorem md_bound {R : Rat} (hR : 1 ≤ R) {h : Poly} (hh : h ≠ 0) : ∀ n, ∃ K : Nat, ∀ r : Poly, r.len ≤ n → ∀ i, ((md r h).c i).abs ≤ (K : Rat) * nm R r n
  | 0 => ⟨0, fun r hr i => by
    have : md 0 h = 0 := (dv_eq (w := 0) (r := 0) (by grind) (by rw [len_zero]; exact len_pos.mpr hh)).2
    rw [len_eq_zero.mp (by omega : r.len = 0), this, c_zero]
    have : (0 : Rat).abs = 0 := rfl
    rw [this]; simp only [nm]; grind⟩
  | n + 1 => by
    obtain ⟨K, hK⟩ := md_bound hR hh n
    obtain ⟨B, hB⟩ := c_bound (md (mo 1 n) h)
    refine ⟨K + B, fun r hr i => ?_⟩
    have e : r = zt r n + C (r.c n) * mo 1 n := by
      rw [C_mo, Rat.mul_one, ← zt_succ]
      exact Poly.ext fun j => by
        rw [c_zt]
        split
        · rfl
        · rw [c_ge (by omega)]
    have hm : md r h = md (zt r n) h + C (r.c n) * md (mo 1 n) h := by
      conv => lhs; rw [e]
      rw [md_add hh, md_C hh]
    have h1 := hK (zt r n) (zt_len r n) i
    have h2 := hB i
    have h3 : nm R (zt r n) n = nm R r n := by
      have : ∀ m, m ≤ n → nm R (zt r n) m = nm R r m := by
        intro m
        induction m with
        | zero => intro _; rfl
        | succ m ih =>
          intro hm
          simp only [nm]
          rw [ih (by omega), c_zt, if_pos (by omega)]
      exact this n (Nat.le_refl _)
    rw [h3] at h1
    have hR0 : 0 < R := by grind
    have hp : ∀ m : Nat, 1 ≤ R ^ m := by
      intro m
      induction m with
      | zero => rw [Rat.pow_zero]; exact Rat.le_refl
      | succ m ih =>
        rw [Rat.pow_succ]
        have h3 := rmul_le (c := R) (by grind) ih
        grind
    have h4 := rabs_add ((md (zt r n) h).c i) ((C (r.c n) * md (mo 1 n) h).c i)
    rw [hm, c_add]
    rw [c_Cmul, rabs_mul] at h4
    simp only [nm]
    have h5 := rmul_le' (c := (r.c n).abs) Rat.abs_nonneg h2
    have h6 := rmul_le' (c := (r.c n).abs) Rat.abs_nonneg (hp n)
    have h7 := nm_nonneg hR0 r n
    have hB0 : (0 : Rat) ≤ (B : Rat) := Rat.natCast_nonneg
    have hK0 : (0 : Rat) ≤ (K : Rat) := Rat.natCast_nonneg
    have h8 := rmul_le' hB0 h6
    have h9 := Rat.mul_nonneg hB0 h7
    have h10 : 0 ≤ (r.c n).abs * R ^ n := Rat.mul_nonneg Rat.abs_nonneg (by have := hp n; grind)
    have h11 := Rat.mul_nonneg hK0 h10
    rw [Rat.natCast_add, c_Cmul]
    generalize (r.c n).abs = x at *
    generalize R ^ n = y at *
    generalize nm R r n = z at *
    grind
end Al
namespace Al
open Poly
theorem ev_mo (a x : Rat) : ∀ k, ev (mo a k) x = a * x ^ k
  | 0 => by rw [mo_zero, ev_C, Rat.pow_zero]; grind
  | k + 1 => by
    have : mo a (k + 1) = X * mo a k := by
      unfold X
      rw [mo_mul, Rat.one_mul, Nat.add_comm]
    rw [this, ev_X, ev_mo a x k, Rat.pow_succ]; grind
theorem ev_zt {V : Rat} (hV : 0 < V) (p : Poly) : ∀ k, (ev (zt p k) V).abs ≤ nm V p k
  | 0 => by
    rw [zt_zero, ev_zero]
    have : (0 : Rat).abs = 0 := rfl
    rw [this]; simp only [nm]; exact Rat.le_refl
  | k + 1 => by
    have h1 := ev_zt hV p k
    have h2 := rabs_add (ev (zt p k) V) (p.c k * V ^ k)
    rw [zt_succ, ev_add, ev_mo]
    rw [rabs_mul, Rat.abs_of_nonneg (Rat.le_of_lt (rpow_pos hV k))] at h2
    simp only [nm]
    grind
/-- places of at most A, at R from A + 1 on -/
theorem nm_small {p : Poly} {A : Nat} (h : Hn p 1 A) {R : Rat} (hR : (A : Rat) + 1 ≤ R) : ∀ k, nm R p k ≤ R ^ k - 1
  | 0 => by simp only [nm]; rw [Rat.pow_zero]; grind
  | k + 1 => by
    have hA : (0 : Rat) ≤ (A : Rat) := Rat.natCast_nonneg
    have h1 := nm_small h hR k
    have hp := rpow_pos (R := R) (by grind) k
    have h2 : (p.c k).abs ≤ (A : Rat) := by
      obtain ⟨t, e, ht⟩ := h.2 k
      have e' : p.c k = (t : Rat) := by
        have : p.c k * (1 : Rat) = (t : Rat) := e
        grind
      rw [e']
      have h3 : ((t.natAbs : Nat) : Rat) ≤ (A : Rat) := Rat.natCast_le_natCast.mpr ht
      rcases Int.le_total 0 t with c | c
      · rw [Rat.abs_of_nonneg (Rat.intCast_nonneg.mpr c)]
        rwa [← Rat.intCast_natCast, Int.natAbs_of_nonneg c] at h3
      · rw [Rat.abs_of_nonpos (Rat.intCast_nonpos.mpr c), ← Rat.intCast_neg]
        rwa [← Rat.intCast_natCast t.natAbs, Int.ofNat_natAbs_of_nonpos c] at h3
    have h3 := rmul_le (Rat.le_of_lt hp) h2
    have h4 := rmul_le (c := R ^ k) (Rat.le_of_lt hp) hR
    simp only [nm]
    rw [Rat.pow_succ]
    grind
theorem ld_ge_one {p : Poly} {A : Nat} (h : Hn p 1 A) (h0 : p ≠ 0) : 1 ≤ p.ld.abs := by
  obtain ⟨t, e, ht⟩ := h.2 (p.len - 1)
  have e' : p.ld = (t : Rat) := by
    have : p.c (p.len - 1) * (1 : Rat) = (t : Rat) := e
    unfold ld
    grind
  have hl := ld_ne h0
  rw [e'] at hl ⊢
  have ht0 : t ≠ 0 := fun z => hl (by rw [z]; rfl)
  rcases Int.le_total 0 t with c | c
  · rw [Rat.abs_of_nonneg (Rat.intCast_nonneg.mpr c)]
    have : (1 : Int) ≤ t := by omega
    exact Rat.intCast_le_intCast.mpr this
  · rw [Rat.abs_of_nonpos (Rat.intCast_nonpos.mpr c), ← Rat.intCast_neg]
    have : (1 : Int) ≤ -t := by omega
    exact Rat.intCast_le_intCast.mpr this
theorem ev_far {p : Poly} {A : Nat} (h : Hn p 1 A) (h0 : p ≠ 0) {V : Rat} (hV : (A : Rat) + 1 ≤ V) : ev p V ≠ 0 := by
  have hA : (0 : Rat) ≤ (A : Rat) := Rat.natCast_nonneg
  have hV0 : 0 < V := by grind
  have hl := len_pos.mpr h0
  obtain ⟨n, hn⟩ : ∃ n, p.len = n + 1 := ⟨p.len - 1, by omega⟩
  have e : p = zt p n + mo (p.c n) n := by rw [← zt_succ, ← hn, zt_all]
  have h1 := ev_zt hV0 p n
  have h2 := nm_small h hV n
  have h3 := ld_ge_one h h0
  rw [ld_eq hn] at h3
  have hp := rpow_pos hV0 n
  have h4 := rmul_le (Rat.le_of_lt hp) h3
  intro z
  rw [e, ev_add, ev_mo] at z
  have h5 : (ev (zt p n) V).abs = (p.c n).abs * V ^ n := by
    have : ev (zt p n) V = -(p.c n * V ^ n) := by grind
    rw [this, Rat.abs_neg, rabs_mul, Rat.abs_of_nonneg (Rat.le_of_lt hp)]
  grind
theorem npow_mul_pow (p q : Poly) : ∀ m : Nat, (p * q) ^ m = p ^ m * q ^ m
  | 0 => by
    show (1 : Poly) = 1 * 1
    grind
  | m + 1 => by
    show (p * q) ^ m * (p * q) = (p ^ m * p) * (q ^ m * q)
    rw [npow_mul_pow p q m]; grind
theorem C_npow (a : Rat) : ∀ m : Nat, C a ^ m = C (a ^ m)
  | 0 => by rw [Rat.pow_zero]; rfl
  | m + 1 => by
    show C a ^ m * C a = _
    rw [C_npow a m, Rat.pow_succ, C_mul]
theorem dvd_npow {h p q : Poly} (d : Dvd h (p - q)) : ∀ m : Nat, Dvd h (p ^ m - q ^ m)
  | 0 => by
    show Dvd h (1 - 1)
    rw [show (1 : Poly) - 1 = 0 by grind]
    exact Dvd.zero h
  | m + 1 => by
    have ih := dvd_npow d m
    show Dvd h (p ^ m * p - q ^ m * q)
    rw [show p ^ m * p - q ^ m * q = p * (p ^ m - q ^ m) + q ^ m * (p - q) by grind]
    exact (ih.mul _).add (d.mul _)
theorem bern (S : Nat) : ∀ m : Nat, S ^ m * (S + m) ≤ S * (S + 1) ^ m
  | 0 => by simp
  | m + 1 => by
    have h1 := Nat.mul_le_mul_right (S + 1) (bern S m)
    have h2 : S ^ (m + 1) * (S + (m + 1)) ≤ S ^ m * (S + m) * (S + 1) := by
      rw [Nat.pow_succ, Nat.mul_assoc, Nat.mul_assoc]
      refine Nat.mul_le_mul_left _ ?_
      have : (S + m) * (S + 1) = S * (S + (m + 1)) + m := by grind
      omega
    have h3 : S * (S + 1) ^ (m + 1) = S * (S + 1) ^ m * (S + 1) := by rw [Nat.pow_succ, Nat.mul_assoc]
    omega
/-- whole numbers that divide a row with small places, and aren't a number alone, are worth much at a great number -/
theorem big_at {h a : Poly} {A V : Nat} (hh : Ml 1 h) (ha : Hn a 1 A) (ha0 : a ≠ 0) (hd : Dvd h a) (hl : 1 < h.len) (hV : 2 * A + 4 ≤ V) {s : Int} (es : ev h (V : Rat) = (s : Rat)) : V < 2 * s.natAbs := by
  refine Decidable.byContradiction fun hc => ?_
  have hs2 : 2 * s.natAbs ≤ V := by omega
  have hh0 : h ≠ 0 := fun z => by rw [z, len_zero] at hl; omega
  have hVA : (A : Rat) + 1 ≤ (V : Rat) := by
    have : ((A + 1 : Nat) : Rat) ≤ (V : Rat) := Rat.natCast_le_natCast.mpr (by omega)
    rwa [Rat.natCast_add] at this
  have hA : (0 : Rat) ≤ (A : Rat) := Rat.natCast_nonneg
  have hev := ev_far ha ha0 hVA
  have hs0 : s ≠ 0 := fun z => by
    obtain ⟨w, e⟩ := hd
    apply hev
    rw [e, ev_mul, es, z]
    exact Rat.mul_zero _
  obtain ⟨n, hn⟩ : ∃ n, a.len = n + 2 := ⟨a.len - 2, by have := hd.len ha0; omega⟩
  -- the numbers at play
  obtain ⟨S, hS⟩ : ∃ S, S = s.natAbs := ⟨_, rfl⟩
  have hS0 : 0 < S := by rw [hS]; exact Int.natAbs_pos.mpr hs0
  obtain ⟨T, hT⟩ : ∃ T, T = V - (A + 1) := ⟨_, rfl⟩
  have hTS : S + 1 ≤ T := by omega
  obtain ⟨R, hR⟩ : ∃ R : Rat, R = (A : Rat) + 1 := ⟨_, rfl⟩
  have hR1 : 1 ≤ R := by grind
  have hVR : (V : Rat) - R = (T : Rat) := by
    have : ((T + (A + 1) : Nat) : Rat) = (V : Rat) := by congr 1; omega
    rw [Rat.natCast_add, Rat.natCast_add] at this
    rw [hR, ← this]
    have : ((1 : Nat) : Rat) = 1 := rfl
    grind
  have hrule : nm R a (n + 1) ≤ (a.c (n + 1)).abs * R ^ (n + 1) := by
    have h1 := nm_small ha (R := R) (by rw [hR]; exact Rat.le_refl) (n + 1)
    have h2 := ld_ge_one ha ha0
    rw [ld_eq hn] at h2
    have hp := rpow_pos (R := R) (by grind) (n + 1)
    have h3 := rmul_le (Rat.le_of_lt hp) h2
    grind
  have hsabs : ((s : Rat)).abs = (S : Rat) := by
    rw [hS]
    rcases Int.le_total 0 s with c | c
    · rw [Rat.abs_of_nonneg (Rat.intCast_nonneg.mpr c), ← Rat.intCast_natCast, Int.natAbs_of_nonneg c]
    · rw [Rat.abs_of_nonpos (Rat.intCast_nonpos.mpr c), ← Rat.intCast_natCast, Int.ofNat_natAbs_of_nonpos c, Rat.intCast_neg]
  obtain ⟨y, z, hyz⟩ := cop_lin (p := a) (x := (V : Rat)) hev
  have seq : ∀ m : Nat, ∃ r : Poly, r.len ≤ n + 1 ∧ Dvd a ((C (V : Rat) - X) ^ m * r - C ((s : Rat) ^ m)) ∧ (T : Rat) ^ m * nm R r (n + 1) ≤ (S : Rat) ^ m := by
    intro m
    induction m with
    | zero =>
      refine ⟨1, by rw [len_one]; omega, ?_, ?_⟩
      · rw [Rat.pow_zero, C_one]
        show Dvd a (1 * 1 - 1)
        rw [show (1 : Poly) * 1 - 1 = 0 by grind]
        exact Dvd.zero a
      · have : ∀ k, nm R 1 (k + 1) = 1 := by
          intro k
          induction k with
          | zero =>
            simp only [nm, c_one]
            have : (1 : Rat).abs = 1 := rfl
            rw [if_pos trivial, this, Rat.pow_zero]; grind
          | succ k ih =>
            rw [nm_ge 1 (by rw [len_one]; omega), ih]
        rw [this, Rat.pow_zero, Rat.pow_zero]; grind
    | succ m ih =>
      obtain ⟨r, h1, h2, h3⟩ := ih
      have hm := dv_md (y * (C (s : Rat) * r)) a
      have hml := md_len (p := y * (C (s : Rat) * r)) ha0
      generalize md (y * (C (s : Rat) * r)) a = r' at *
      have hd1 : Dvd a ((C (V : Rat) - X) * r' - C (s : Rat) * r) := ⟨-(z * (C (s : Rat) * r)) - (C (V : Rat) - X) * dv (y * (C (s : Rat) * r)) a, by
        generalize dv (y * (C (s : Rat) * r)) a = w at *
        generalize C (s : Rat) * r = x at *
        generalize C (V : Rat) - X = v at *
        grind⟩
      have hq : (C (s : Rat) * r).len ≤ n + 1 := by
        have := len_mul_le (C (s : Rat)) r
        have := len_C_le (s : Rat)
        omega
      refine ⟨r', by omega, ?_, ?_⟩
      · show Dvd a ((C (V : Rat) - X) ^ m * (C (V : Rat) - X) * r' - C ((s : Rat) ^ (m + 1)))
        rw [Rat.pow_succ, C_mul]
        have e1 : (C (V : Rat) - X) ^ m * (C (V : Rat) - X) * r' - C ((s : Rat) ^ m) * C (s : Rat) = (C (V : Rat) - X) ^ m * ((C (V : Rat) - X) * r' - C (s : Rat) * r) + C (s : Rat) * ((C (V : Rat) - X) ^ m * r - C ((s : Rat) ^ m)) := by grind
        rw [e1]
        exact (hd1.mul _).add (h2.mul _)
      · have h4 := nm_shrink (R := R) (V := (V : Rat)) (by grind) Rat.natCast_nonneg hn (by omega) hq hrule hd1
        rw [hVR, nm_C, hsabs] at h4
        have hT0 : (0 : Rat) ≤ (T : Rat) ^ m := by
          rw [← Rat.natCast_pow]
          exact Rat.natCast_nonneg
        have h5 := rmul_le' hT0 h4
        have h6 := rmul_le' (c := (S : Rat)) Rat.natCast_nonneg h3
        rw [Rat.pow_succ, Rat.pow_succ]
        grind
  obtain ⟨K, hK⟩ := md_bound hR1 hh0 (n + 1)
  obtain ⟨m, hm⟩ : ∃ m, m = K * S := ⟨_, rfl⟩
  obtain ⟨r, h1, h2, h3⟩ := seq (m + 1)
  -- by h they are powers of one row
  have hk := kap_all h (V : Rat)
  have hd2 : Dvd h ((C (V : Rat) - X) * kap h (V : Rat) h.len - C (s : Rat)) := ⟨-1, by rw [es] at hk; grind⟩
  have hd3 := dvd_npow hd2 (m + 1)
  rw [npow_mul_pow, C_npow] at hd3
  have hd4 : Dvd h ((C (V : Rat) - X) ^ (m + 1) * (r - kap h (V : Rat) h.len ^ (m + 1))) := by
    have := (hd.trans h2).sub hd3
    rwa [show (C (V : Rat) - X) ^ (m + 1) * r - C ((s : Rat) ^ (m + 1)) - ((C (V : Rat) - X) ^ (m + 1) * kap h (V : Rat) h.len ^ (m + 1) - C ((s : Rat) ^ (m + 1))) = (C (V : Rat) - X) ^ (m + 1) * (r - kap h (V : Rat) h.len ^ (m + 1)) by grind] at this
  have hcop : Cop h ((C (V : Rat) - X) ^ (m + 1)) := by
    have : ev h (V : Rat) ≠ 0 := by
      rw [es]
      exact fun z => hs0 (Rat.intCast_eq_zero_iff.mp z)
    exact ((cop_lin this).pow (m + 1)).symm
  have hd5 := hcop.dvd_mul hd4
  obtain ⟨p, hp, hpl, hd6⟩ := (kap_pow hh V m).int hh
  have hd7 : Dvd h (r - p) := by
    have := hd5.add hd6
    rwa [show r - kap h (V : Rat) h.len ^ (m + 1) + (kap h (V : Rat) h.len ^ (m + 1) - p) = r - p by grind] at this
  have hmd : md r h = p := by
    obtain ⟨w, e⟩ := hd7
    exact (dv_eq (w := w) (r := p) (by grind) (by omega)).2
  -- whole numbers below 1
  have hlt : (K : Rat) * (S : Rat) ^ (m + 1) < (T : Rat) ^ (m + 1) := by
    rw [← Rat.natCast_pow, ← Rat.natCast_pow, ← Rat.natCast_mul]
    refine Rat.natCast_lt_natCast.mpr ?_
    have b1 := bern S (m + 1)
    have b2 : (S + 1) ^ (m + 1) ≤ T ^ (m + 1) := Nat.pow_le_pow_left hTS _
    have b3 := Nat.mul_le_mul_left S b2
    have b4 : 0 < S ^ (m + 1) := Nat.pow_pos hS0
    refine Nat.lt_of_mul_lt_mul_left (a := S) ?_
    have b5 : S * (K * S ^ (m + 1)) = S ^ (m + 1) * (K * S) := by
      generalize S ^ (m + 1) = x
      grind
    have b6 : S ^ (m + 1) * (K * S) < S ^ (m + 1) * (S + (m + 1)) := Nat.mul_lt_mul_of_pos_left (by omega) b4
    omega
  have hp0 : p = 0 := Poly.ext fun i => by
    rw [c_zero]
    obtain ⟨t, et⟩ := hp i
    rw [Int.one_mul] at et
    have k1 := hK r h1 i
    rw [hmd, et] at k1
    have hTp : 0 < (T : Rat) ^ (m + 1) := by
      rw [← Rat.natCast_pow]
      exact Rat.natCast_pos.mpr (Nat.pow_pos (by omega))
    have k2 := rmul_le' (Rat.le_of_lt hTp) k1
    have k3 := rmul_le' (c := (K : Rat)) Rat.natCast_nonneg h3
    have k4 : (T : Rat) ^ (m + 1) * (t : Rat).abs < (T : Rat) ^ (m + 1) := by grind
    have k5 : (t : Rat).abs < 1 := by
      refine Rat.not_le.mp fun hge => ?_
      have := rmul_le' (Rat.le_of_lt hTp) hge
      grind
    have k6 : t = 0 := by
      refine Decidable.byContradiction fun ht => ?_
      rcases Int.le_total 0 t with c | c
      · rw [Rat.abs_of_nonneg (Rat.intCast_nonneg.mpr c)] at k5
        have : t < 1 := Rat.intCast_lt_intCast.mp k5
        omega
      · rw [Rat.abs_of_nonpos (Rat.intCast_nonpos.mpr c), ← Rat.intCast_neg] at k5
        have : -t < 1 := Rat.intCast_lt_intCast.mp k5
        omega
    rw [et, k6]; rfl
  rw [hp0] at hd6
  have hd8 : Dvd h (C ((s : Rat) ^ (m + 1))) := by
    have e : C ((s : Rat) ^ (m + 1)) = (C (V : Rat) - X) ^ (m + 1) * (kap h (V : Rat) h.len ^ (m + 1) - 0) - ((C (V : Rat) - X) ^ (m + 1) * kap h (V : Rat) h.len ^ (m + 1) - C ((s : Rat) ^ (m + 1))) := by grind
    rw [e]
    exact (hd6.mul _).sub hd3
  have hsr : (s : Rat) ^ (m + 1) ≠ 0 := by
    have : ∀ k : Nat, (s : Rat) ^ k ≠ 0 := by
      intro k
      induction k with
      | zero => rw [Rat.pow_zero]; decide
      | succ k ih =>
        rw [Rat.pow_succ]
        intro z
        rcases Rat.mul_eq_zero.mp z with z | z
        · exact ih z
        · exact hs0 (Rat.intCast_eq_zero_iff.mp z)
    exact this _
  have := hd8.len (C_ne hsr)
  rw [len_C hsr] at this
  omega
end Al
namespace Al
open Poly
/-! ### numbers by digits that may be below nought -/
theorem digits_zero {V : Nat} : ∀ n, ∀ p : Poly, p.len ≤ n → Ml 1 p → (∀ i, ∃ t : Int, p.c i = (t : Rat) ∧ t.natAbs < V) → ev p (V : Rat) = 0 → p = 0 := by
  intro n
  induction n with
  | zero => intro p hl _ _ _; exact len_eq_zero.mp (by omega)
  | succ n ih =>
    intro p hl hp hs he
    obtain ⟨p', ep, lp, hc⟩ := split0 p
    obtain ⟨t, et, ht⟩ := hs 0
    obtain ⟨u, eu⟩ := ev_int (hp.tail hc) (V : Int)
    rw [Rat.intCast_natCast] at eu
    have e1 : ev p (V : Rat) = p.c 0 + (V : Rat) * ev p' (V : Rat) := by
      have := ev_cons (p.c 0) p' (V : Rat)
      rwa [← ep] at this
    rw [he, et, eu] at e1
    have e2 : t + (V : Int) * u = 0 := by
      apply Rat.intCast_inj.mp
      rw [Rat.intCast_add, Rat.intCast_mul, Rat.intCast_natCast]
      exact e1.symm
    have hu : u = 0 := by
      refine Decidable.byContradiction fun hu => ?_
      have h1 : t.natAbs = V * u.natAbs := by
        have : t = -((V : Int) * u) := by omega
        rw [this, Int.natAbs_neg, Int.natAbs_mul, Int.natAbs_natCast]
      have h2 : 0 < u.natAbs := Int.natAbs_pos.mpr hu
      have h3 : V ≤ V * u.natAbs := Nat.le_mul_of_pos_right _ h2
      omega
    have ht0 : t = 0 := by rw [hu, Int.mul_zero, Int.add_zero] at e2; exact e2
    have hp' := ih p' (by omega) (hp.tail hc) (fun i => by rw [hc]; exact hs (i + 1)) (by rw [eu, hu]; rfl)
    rw [ep, et, ht0, hp']
    have : C ((0 : Int) : Rat) = 0 := rfl
    rw [this]
    grind
theorem digits_unique {V : Nat} {p q : Poly} (hp : Ml 1 p) (hq : Ml 1 q) (h1 : ∀ i, ∃ t : Int, p.c i = (t : Rat) ∧ 2 * t.natAbs ≤ V) (h2 : ∀ i, ∃ t : Int, q.c i = (t : Rat) ∧ 2 * t.natAbs < V) (he : ev p (V : Rat) = ev q (V : Rat)) : p = q := by
  have := digits_zero (V := V) _ (p - q) (Nat.le_refl _) (hp.sub hq) (fun i => by
    obtain ⟨t, et, ht⟩ := h1 i
    obtain ⟨u, eu, hu⟩ := h2 i
    refine ⟨t - u, by rw [c_sub, et, eu, Rat.intCast_sub], ?_⟩
    omega) (by rw [ev_sub, he]; grind)
  grind
/-! ### what two rows share, found by what their values share -/
/-- whole numbers that share nothing, led above nought, that what is shared is a number times -/
theorem gcp_ex {a b : Poly} (h : a ≠ 0 ∨ b ≠ 0) : ∃ (c : Rat) (g : Poly), c ≠ 0 ∧ Prim g ∧ gc a b = C c * g ∧ 0 < g.ld := prim_ex (gc_led h).ne
theorem dvd_scale {c : Rat} (hc : c ≠ 0) {g p : Poly} (h : Dvd (C c * g) p) : Dvd g p := by
  obtain ⟨w, e⟩ := h
  exact ⟨w * C c, by rw [e]; grind⟩
theorem dvd_scale' {c : Rat} (hc : c ≠ 0) {g p : Poly} (h : Dvd g p) : Dvd (C c * g) p := by
  obtain ⟨w, e⟩ := h
  have : C c * C (1 / c) = 1 := by rw [← C_mul, show c * (1 / c) = 1 by grind]; rfl
  exact ⟨w * C (1 / c), by rw [e]; grind⟩
theorem Prim.cofactor {f p : Poly} (hf : Prim f) (hp : Ml 1 p) (h : Dvd f p) : ∃ w, Ml 1 w ∧ p = w * f := by
  obtain ⟨w, e⟩ := h
  exact ⟨w, hf.quot (h := w) (g := p) (by rw [e]; grind) hp, e⟩
/-- found divides both: then it is the longest -/
theorem found_right {a b f : Poly} {A V : Nat} {e G : Int} (ha : Hn a 1 A) (hb : Hn b 1 A) (ha0 : a ≠ 0) (hb0 : b ≠ 0) (hV : 2 * A + 4 ≤ V) (hf : Prim f) (hfl : 0 < f.ld) (he : 0 < e)
    (hG : ev (C (e : Rat) * f) (V : Rat) = (G : Rat)) (hg : ∀ x y d : Int, ev a (V : Rat) = (x : Rat) → ev b (V : Rat) = (y : Rat) → d ∣ x → d ∣ y → d ∣ G) (hs : ∀ i, ∃ t : Int, (C (e : Rat) * f).c i = (t : Rat) ∧ 2 * t.natAbs ≤ V)
    (d1 : Dvd f a) (d2 : Dvd f b) : gc a b = C (1 / f.ld) * f := by
  have hma : Ml 1 a := fun i => by
    obtain ⟨t, et, _⟩ := ha.2 i
    exact ⟨t, by rw [Int.one_mul, ← et]; show _ = _ * (1 : Rat); grind⟩
  have hmb : Ml 1 b := fun i => by
    obtain ⟨t, et, _⟩ := hb.2 i
    exact ⟨t, by rw [Int.one_mul, ← et]; show _ = _ * (1 : Rat); grind⟩
  have hVA : (A : Rat) + 1 ≤ (V : Rat) := by
    have : ((A + 1 : Nat) : Rat) ≤ (V : Rat) := Rat.natCast_le_natCast.mpr (by omega)
    rwa [Rat.natCast_add] at this
  obtain ⟨c, g, hc, hgp, eg, hgl⟩ := gcp_ex (.inl ha0 : a ≠ 0 ∨ b ≠ 0)
  have hci : C c * C (1 / c) = 1 := by rw [← C_mul, show c * (1 / c) = 1 by grind]; rfl
  have hfg : Dvd f g := by
    have := gc_great d1 d2
    rw [eg] at this
    obtain ⟨w, e⟩ := this
    exact ⟨w * C (1 / c), by grind⟩
  obtain ⟨h, hh, ehf⟩ := hf.cofactor hgp.1 hfg
  have hga : Dvd g a := dvd_scale hc (by rw [← eg]; exact gc_left a b)
  have hgb : Dvd g b := dvd_scale hc (by rw [← eg]; exact gc_right a b)
  obtain ⟨wa, hwa, ewa⟩ := hgp.cofactor hma hga
  obtain ⟨wb, hwb, ewb⟩ := hgp.cofactor hmb hgb
  obtain ⟨gv, egv⟩ := ev_int hgp.1 (V : Int)
  obtain ⟨av, eav⟩ := ev_int hwa (V : Int)
  obtain ⟨bv, ebv⟩ := ev_int hwb (V : Int)
  obtain ⟨hv, ehv⟩ := ev_int hh (V : Int)
  obtain ⟨fv, efv⟩ := ev_int hf.1 (V : Int)
  rw [Rat.intCast_natCast] at egv eav ebv ehv efv
  have hfv0 : fv ≠ 0 := fun z => by
    apply ev_far ha ha0 hVA
    obtain ⟨w, e⟩ := d1
    rw [e, ev_mul, efv, z]
    exact Rat.mul_zero _
  have hgG : gv ∣ G := hg (av * gv) (bv * gv) gv (by rw [ewa, ev_mul, eav, egv, Rat.intCast_mul]) (by rw [ewb, ev_mul, ebv, egv, Rat.intCast_mul]) ⟨av, Int.mul_comm _ _⟩ ⟨bv, Int.mul_comm _ _⟩
  have egh : gv = hv * fv := by
    apply Rat.intCast_inj.mp
    rw [← egv, ehf, ev_mul, ehv, efv, Rat.intCast_mul]
  have eGf : G = e * fv := by
    apply Rat.intCast_inj.mp
    rw [← hG, ev_Cmul, efv, Rat.intCast_mul]
  have hhe : hv ∣ e := by
    obtain ⟨k, ek⟩ := hgG
    refine ⟨k, ?_⟩
    apply Int.eq_of_mul_eq_mul_right hfv0
    rw [← eGf, ek, egh]
    grind
  have hev : 2 * e.natAbs ≤ V := by
    obtain ⟨t, et, ht⟩ := hs (f.len - 1)
    obtain ⟨u, eu⟩ := hf.1 (f.len - 1)
    rw [Int.one_mul] at eu
    rw [c_Cmul, eu, ← Rat.intCast_mul] at et
    have et' := Rat.intCast_inj.mp et
    have hu : u ≠ 0 := fun z => ld_ne hf.ne (by show f.c (f.len - 1) = 0; rw [eu, z]; rfl)
    have h1 : 0 < u.natAbs := Int.natAbs_pos.mpr hu
    have h2 : e.natAbs ≤ e.natAbs * u.natAbs := Nat.le_mul_of_pos_right _ h1
    rw [← Int.natAbs_mul, et'] at h2
    omega
  -- the cofactor is a number
  have hh1 : h.len ≤ 1 := by
    refine Decidable.byContradiction fun hn => ?_
    have hda : Dvd h a := Dvd.trans (show Dvd h g from ⟨f, by rw [ehf]; grind⟩) hga
    have h1 := big_at hh ha ha0 hda (by omega) hV ehv
    have h2 : hv.natAbs ≤ e.natAbs := Nat.le_of_dvd (by omega) (Int.natAbs_dvd_natAbs.mpr hhe)
    omega
  have hh0 := len_one_iff.mp hh1
  have hh00 : h.c 0 ≠ 0 := fun z => hgp.ne (by rw [ehf, hh0, z, C_zero]; grind)
  refine gc_eq' ?_ ?_ ?_ (fun d k1 k2 => ?_) (.inl ha0)
  · exact led_of hf.ne
  · exact dvd_scale' (by have := ld_ne hf.ne; grind) d1
  · exact dvd_scale' (by have := ld_ne hf.ne; grind) d2
  · have h1 := gc_great k1 k2
    rw [eg, ehf, hh0] at h1
    have hl := ld_ne hf.ne
    have : C c * (C (h.c 0) * f) = C (c * h.c 0 * f.ld) * (C (1 / f.ld) * f) := by
      rw [C_mul, C_mul]
      have : C f.ld * C (1 / f.ld) = 1 := by rw [← C_mul, show f.ld * (1 / f.ld) = 1 by grind]; rfl
      grind
    rw [this] at h1
    obtain ⟨w, e⟩ := h1
    have hx : c * h.c 0 * f.ld ≠ 0 := fun z => by
      rcases Rat.mul_eq_zero.mp z with z | z
      · rcases Rat.mul_eq_zero.mp z with z | z
        · exact hc z
        · exact hh00 z
      · exact hl z
    have hxi : C (1 / (c * h.c 0 * f.ld)) * C (c * h.c 0 * f.ld) = 1 := by rw [← C_mul, show 1 / (c * h.c 0 * f.ld) * (c * h.c 0 * f.ld) = 1 by grind]; rfl
    exact ⟨C (1 / (c * h.c 0 * f.ld)) * w, by grind⟩
/-- a number comes of both that is a small number times what is shared -/
theorem comb_bound {a b : Poly} {A : Nat} (ha : Hn a 1 A) (hb : Hn b 1 A) (ha0 : a ≠ 0) (hb0 : b ≠ 0) {g : Poly} (hl : Led g) (eg : gc a b = g) (hk : 0 < a.len - g.len + (b.len - g.len)) :
    ∃ (u v : Poly) (R : Rat), R ≠ 0 ∧ Ml 1 u ∧ Ml 1 v ∧ u * a + v * b = C R * g ∧ u.len ≤ b.len - g.len ∧ v.len ≤ a.len - g.len ∧
      Hn u 1 ((2 * (b.len - g.len + (a.len - g.len)) * A + 2) ^ (b.len - g.len + (a.len - g.len) - 1)) ∧ Hn v 1 ((2 * (b.len - g.len + (a.len - g.len)) * A + 2) ^ (b.len - g.len + (a.len - g.len) - 1)) := by
  have hma : Ml 1 a := fun i => by
    obtain ⟨t, et, _⟩ := ha.2 i
    exact ⟨t, by rw [Int.one_mul, ← et]; show _ = _ * (1 : Rat); grind⟩
  have hmb : Ml 1 b := fun i => by
    obtain ⟨t, et, _⟩ := hb.2 i
    exact ⟨t, by rw [Int.one_mul, ← et]; show _ = _ * (1 : Rat); grind⟩
  obtain ⟨x, hx⟩ := int_of hma
  obtain ⟨y, hy⟩ := int_of hmb
  have hga := gc_left a b
  have hgb := gc_right a b
  rw [eg] at hga hgb
  have h1 := hga.len ha0
  have h2 := hgb.len hb0
  have hgp := len_pos.mpr hl.ne
  have hxA : ∀ i, (x i).natAbs ≤ A := fun i => by
    obtain ⟨t, et, ht⟩ := ha.2 i
    have : x i = t := by
      apply Rat.intCast_inj.mp
      rw [← hx, ← et]; show _ = _ * (1 : Rat); grind
    rw [this]; exact ht
  have hyA : ∀ i, (y i).natAbs ≤ A := fun i => by
    obtain ⟨t, et, ht⟩ := hb.2 i
    have : y i = t := by
      apply Rat.intCast_inj.mp
      rw [← hy, ← et]; show _ = _ * (1 : Rat); grind
    rw [this]; exact ht
  obtain ⟨u, v, lu, lv, hne, hu, hv, hr⟩ := small_comb hx hy hxA hyA (b.len - g.len) (a.len - g.len) g.len (b.len - g.len + (a.len - g.len) - 1) (by omega) (by omega) (by omega)
  have mu : Ml 1 u := fun i => by
    obtain ⟨t, et, _⟩ := hu.2 i
    exact ⟨t, by rw [Int.one_mul, ← et]; show _ = _ * (1 : Rat); grind⟩
  have mv : Ml 1 v := fun i => by
    obtain ⟨t, et, _⟩ := hv.2 i
    exact ⟨t, by rw [Int.one_mul, ← et]; show _ = _ * (1 : Rat); grind⟩
  obtain ⟨w, ew⟩ : Dvd g (u * a + v * b) := (hga.mul u).add (hgb.mul v)
  have hr0 : u * a + v * b ≠ 0 := fun z => by
    obtain ⟨a', ea⟩ := hga
    obtain ⟨b', eb⟩ := hgb
    have hc : Cop a' b' := gc_parts (.inl ha0) (by rw [eg]; exact ea) (by rw [eg]; exact eb)
    have ha' : a' ≠ 0 := fun z => ha0 (by rw [ea, z]; grind)
    have hb' : b' ≠ 0 := fun z => hb0 (by rw [eb, z]; grind)
    have e0 : u * a' + v * b' = 0 := by
      refine mul_cancel hl.ne ?_
      rw [show g * (u * a' + v * b') = u * (a' * g) + v * (b' * g) by grind, ← ea, ← eb, z]
      grind
    have d : Dvd a' (b' * v) := ⟨-u, by grind⟩
    have hla := len_mul ha' hl.ne
    rw [← ea] at hla
    have hv0 : v = 0 := by
      refine Decidable.byContradiction fun hn => ?_
      have := (hc.dvd_mul d).len hn
      omega
    have hu0 : u = 0 := by
      rw [hv0] at e0
      have : u * a' = 0 := by grind
      rcases mul_eq_zero.mp this with z | z
      · exact z
      · exact absurd z ha'
    rcases hne with h | h
    · exact h hu0
    · exact h hv0
  have hw0 : w ≠ 0 := fun z => hr0 (by rw [ew, z]; grind)
  have hwl := len_mul hw0 hl.ne
  rw [← ew] at hwl
  have hw1 := len_one_iff.mp (show w.len ≤ 1 by omega)
  have hR : w.c 0 ≠ 0 := fun z => hw0 (by rw [hw1, z, C_zero])
  exact ⟨u, v, w.c 0, hR, mu, mv, by rw [← hw1]; exact ew, lu, lv, hu, hv⟩
end Al
namespace Al
open Poly
theorem Hn.ml {p : Poly} {N : Nat} (h : Hn p 1 N) : Ml 1 p := fun i => by
  obtain ⟨t, et, _⟩ := h.2 i
  exact ⟨t, by rw [Int.one_mul, ← et]; show _ = _ * (1 : Rat); grind⟩
theorem Hn.at1 {p : Poly} {N : Nat} (h : Hn p 1 N) (i : Nat) : ∃ t : Int, p.c i = (t : Rat) ∧ t.natAbs ≤ N := by
  obtain ⟨t, et, ht⟩ := h.2 i
  exact ⟨t, by rw [← et]; show _ = _ * (1 : Rat); grind, ht⟩
theorem Hn.of1 {p : Poly} {N : Nat} (h : ∀ i, ∃ t : Int, p.c i = (t : Rat) ∧ t.natAbs ≤ N) : Hn p 1 N := ⟨by decide, fun i => by
  obtain ⟨t, et, ht⟩ := h i
  exact ⟨t, by rw [et]; show _ * (1 : Rat) = _; grind, ht⟩⟩
/-- whole numbers: a small multiple of what is shared comes of both -/
theorem comb_small {a b g : Poly} {A k V : Nat} {c : Rat} (ha : Hn a 1 A) (hb : Hn b 1 A) (ha0 : a ≠ 0) (hb0 : b ≠ 0) (hc : c ≠ 0) (hg : Prim g) (eg : gc a b = C c * g)
    (hk : a.len - g.len + (b.len - g.len) ≤ k) (hV : 2 * A + 4 ≤ V) (hV2 : (2 * k * A + 2) ^ k ≤ V) :
    ∃ (u v : Poly) (ρ : Int), ρ ≠ 0 ∧ Ml 1 u ∧ Ml 1 v ∧ u * a + v * b = C (ρ : Rat) * g ∧ ∀ i, ∃ t : Int, (C (ρ : Rat) * g).c i = (t : Rat) ∧ 2 * t.natAbs < V := by
  have hci : C c * C (1 / c) = 1 := by rw [← C_mul, show c * (1 / c) = 1 by grind]; rfl
  have hgl : (gc a b).len = g.len := by
    have := len_mul (C_ne hc) hg.ne
    rw [← eg, len_C hc] at this
    omega
  have hga : Dvd g a := dvd_scale hc (by rw [← eg]; exact gc_left a b)
  obtain ⟨wa, hwa, ewa⟩ := hg.cofactor ha.ml hga
  by_cases h0 : a.len - g.len + (b.len - g.len) = 0
  · -- the one is a number times it
    have hl := hga.len ha0
    have hwa0 : wa ≠ 0 := fun z => ha0 (by rw [ewa, z]; grind)
    have hwl := len_mul hwa0 hg.ne
    rw [← ewa] at hwl
    have hgp := len_pos.mpr hg.ne
    have hw1 := len_one_iff.mp (show wa.len ≤ 1 by omega)
    obtain ⟨t, et⟩ := hwa 0
    rw [Int.one_mul] at et
    refine ⟨1, 0, t, fun z => hwa0 (by rw [hw1, et, z]; rfl), ?_, Ml.zero 1, ?_, fun i => ?_⟩
    · have := Ml.cst (d := 1) (t := 1)
      exact this
    · rw [← et, ← hw1, ← ewa]; grind
    · rw [← et, ← hw1, ← ewa]
      obtain ⟨s, es, hs⟩ := ha.at1 i
      exact ⟨s, es, by omega⟩
  · obtain ⟨u, v, R, hR, mu, mv, e, lu, lv, hu, hv⟩ := comb_bound ha hb ha0 hb0 (gc_led (.inl ha0)) rfl (by rw [hgl]; omega)
    rw [hgl] at lu lv hu hv
    rw [eg] at e
    have e' : u * a + v * b = C (R * c) * g := by rw [e, C_mul]; grind
    have hm : Ml 1 (u * a + v * b) := (mu.mul ha.ml).add (mv.mul hb.ml)
    have hρ : Ml 1 (C (R * c)) := hg.quot (h := C (R * c)) (g := u * a + v * b) (by rw [e']; grind) hm
    obtain ⟨ρ, eρ⟩ := hρ 0
    rw [c_C, if_pos rfl, Int.one_mul] at eρ
    refine ⟨u, v, ρ, fun z => ?_, mu, mv, by rw [← eρ]; exact e', fun i => ?_⟩
    · rw [z] at eρ
      rcases Rat.mul_eq_zero.mp eρ with z | z
      · exact hR z
      · exact hc z
    · rw [← eρ, ← e']
      obtain ⟨K, hK⟩ : ∃ K, K = b.len - g.len + (a.len - g.len) := ⟨_, rfl⟩
      rw [← hK] at hu hv
      have h1 := (hu.mul ha).add (hv.mul hb)
      obtain ⟨t, et, ht⟩ := h1.at1 i
      refine ⟨t, et, ?_⟩
      obtain ⟨H, hH⟩ : ∃ H, H = (2 * K * A + 2) ^ (K - 1) := ⟨_, rfl⟩
      rw [← hH] at ht
      have h2 : u.len * (H * A) + v.len * (H * A) ≤ K * (H * A) := by
        rw [← Nat.add_mul]
        exact Nat.mul_le_mul_right _ (by omega)
      have hH0 : 0 < H := by rw [hH]; exact Nat.pow_pos (by omega)
      have h3 : 2 * (K * (H * A)) < (2 * K * A + 2) ^ K := by
        have : (2 * K * A + 2) ^ K = H * (2 * K * A + 2) := by
          rw [hH, ← Nat.pow_succ]
          congr 1
          omega
        rw [this]
        have h4 : 2 * (K * (H * A)) = H * (2 * K * A) := by grind
        rw [h4]
        exact Nat.mul_lt_mul_of_pos_left (by omega) hH0
      have h5 : (2 * K * A + 2) ^ K ≤ (2 * k * A + 2) ^ k := by
        refine Nat.le_trans (Nat.pow_le_pow_right (by omega) (show K ≤ k by omega)) (Nat.pow_le_pow_left ?_ _)
        have : 2 * K * A ≤ 2 * k * A := Nat.mul_le_mul_right _ (by omega)
        omega
      omega
/-- a number great enough: what the values share tells what the rows share -/
theorem found_big {a b : Poly} {A k V : Nat} (ha : Hn a 1 A) (hb : Hn b 1 A) (ha0 : a ≠ 0) (hb0 : b ≠ 0) (hk : a.len + b.len ≤ k) (hV : 2 * A + 4 ≤ V) (hV2 : (2 * k * A + 2) ^ k ≤ V) {G x y : Int} (hG0 : G ≠ 0)
    (hx : ev a (V : Rat) = (x : Rat)) (hy : ev b (V : Rat) = (y : Rat)) (gx : G ∣ x) (gy : G ∣ y) (hg : ∀ d : Int, d ∣ x → d ∣ y → d ∣ G) {φ : Poly} (hφ : Ml 1 φ) (eφ : ev φ (V : Rat) = (G : Rat)) (sφ : ∀ i, ∃ t : Int, φ.c i = (t : Rat) ∧ 2 * t.natAbs ≤ V) :
    ∃ (g : Poly) (t : Int), Prim g ∧ t ≠ 0 ∧ φ = C (t : Rat) * g ∧ Dvd g a ∧ Dvd g b := by
  obtain ⟨c, g, hc, hgp, eg, hgl⟩ := gcp_ex (.inl ha0 : a ≠ 0 ∨ b ≠ 0)
  obtain ⟨u, v, ρ, hρ, mu, mv, e, hs⟩ := comb_small ha hb ha0 hb0 hc hgp eg (k := k) (by omega) hV hV2
  have hga : Dvd g a := dvd_scale hc (by rw [← eg]; exact gc_left a b)
  have hgb : Dvd g b := dvd_scale hc (by rw [← eg]; exact gc_right a b)
  obtain ⟨wa, hwa, ewa⟩ := hgp.cofactor ha.ml hga
  obtain ⟨wb, hwb, ewb⟩ := hgp.cofactor hb.ml hgb
  obtain ⟨gv, egv⟩ := ev_int hgp.1 (V : Int)
  obtain ⟨av, eav⟩ := ev_int hwa (V : Int)
  obtain ⟨bv, ebv⟩ := ev_int hwb (V : Int)
  obtain ⟨uv, euv⟩ := ev_int mu (V : Int)
  obtain ⟨vv, evv⟩ := ev_int mv (V : Int)
  rw [Rat.intCast_natCast] at egv eav ebv euv evv
  have ex : x = av * gv := by
    apply Rat.intCast_inj.mp
    rw [← hx, ewa, ev_mul, eav, egv, Rat.intCast_mul]
  have ey : y = bv * gv := by
    apply Rat.intCast_inj.mp
    rw [← hy, ewb, ev_mul, ebv, egv, Rat.intCast_mul]
  obtain ⟨t, et⟩ : gv ∣ G := hg gv ⟨av, by rw [ex]; grind⟩ ⟨bv, by rw [ey]; grind⟩
  have hgv0 : gv ≠ 0 := fun z => hG0 (by rw [et, z, Int.zero_mul])
  have ht0 : t ≠ 0 := fun z => hG0 (by rw [et, z, Int.mul_zero])
  have er : ρ * gv = uv * x + vv * y := by
    apply Rat.intCast_inj.mp
    have := congrArg (fun p => ev p (V : Rat)) e
    simp only [ev_add, ev_mul, ev_C, hx, hy, euv, evv, egv] at this
    rw [Rat.intCast_mul, Rat.intCast_add, Rat.intCast_mul, Rat.intCast_mul, this]
  have htρ : t ∣ ρ := by
    have h1 : G ∣ ρ * gv := by
      rw [er]
      exact Int.dvd_add (Int.dvd_mul_of_dvd_right gx) (Int.dvd_mul_of_dvd_right gy)
    obtain ⟨q, eq⟩ := h1
    refine ⟨q, Int.eq_of_mul_eq_mul_right hgv0 ?_⟩
    rw [eq, et]; grind
  refine ⟨g, t, hgp, ht0, digits_unique (V := V) hφ ?_ sφ (fun i => ?_) ?_, hga, hgb⟩
  · have := hgp.1.smul (e := t)
    exact this.int
  · obtain ⟨s, es, hs⟩ := hs i
    obtain ⟨w, ew⟩ := hgp.1 i
    rw [Int.one_mul] at ew
    refine ⟨t * w, by rw [c_Cmul, ew, Rat.intCast_mul], ?_⟩
    rw [c_Cmul, ew, ← Rat.intCast_mul] at es
    have es' := Rat.intCast_inj.mp es
    obtain ⟨q, eq⟩ := htρ
    have hq : q ≠ 0 := fun z => hρ (by rw [eq, z, Int.mul_zero])
    have h1 : s.natAbs = (t * w).natAbs * q.natAbs := by
      rw [← es', eq, ← Int.natAbs_mul]
      congr 1
      grind
    have h2 : 0 < q.natAbs := Int.natAbs_pos.mpr hq
    have h3 : (t * w).natAbs ≤ (t * w).natAbs * q.natAbs := Nat.le_mul_of_pos_right _ h2
    omega
  · rw [eφ, ev_Cmul, egv, et, Rat.intCast_mul]; grind
/-! ### a bound for what divides -/
theorem points : ∀ n, ∀ a : Poly, a.len ≤ n + 1 → a ≠ 0 → ∀ M, ∃ l : List Nat, l.Nodup ∧ (∀ k ∈ l, k < M ∧ ev a (k : Rat) ≠ 0) ∧ M ≤ l.length + n := by
  intro n
  induction n with
  | zero =>
    intro a hl h0 M
    refine ⟨List.range M, List.nodup_range, fun k hk => ⟨List.mem_range.mp hk, ?_⟩, by simp⟩
    have := len_one_iff.mp hl
    rw [this, ev_C]
    exact fun z => h0 (by rw [this, z, C_zero])
  | succ n ih =>
    intro a hl h0 M
    by_cases hr : ∃ k, k < M ∧ ev a (k : Rat) = 0
    · obtain ⟨k, hk, e⟩ := hr
      obtain ⟨b, eb⟩ := ev_root a (k : Rat)
      rw [e, C_zero] at eb
      have eb' : a = (X - C (k : Rat)) * b := by grind
      have hb0 : b ≠ 0 := fun z => h0 (by rw [eb', z]; grind)
      have hx : (X - C (k : Rat)).len = 2 := len_eq (n := 1) (fun i hi => by
        unfold X
        rw [c_sub, c_mo, c_C, if_neg (by omega), if_neg (by omega)]; grind) (by
        unfold X
        rw [c_sub, c_mo, c_C]
        simp
        grind)
      have hx0 : X - C (k : Rat) ≠ 0 := fun z => by rw [z, len_zero] at hx; omega
      have hbl := len_mul hx0 hb0
      rw [← eb'] at hbl
      obtain ⟨l, hn, hl1, hl2⟩ := ih b (by omega) hb0 M
      refine ⟨l.erase k, hn.erase k, fun j hj => ?_, ?_⟩
      · obtain ⟨h1, h2⟩ := hl1 j (List.mem_of_mem_erase hj)
        refine ⟨h1, ?_⟩
        have hjk : j ≠ k := fun z => by
          rw [z] at hj
          exact (hn.not_mem_erase) hj
        rw [eb', ev_mul, ev_sub, ev_C]
        have hX : ev X (j : Rat) = (j : Rat) := by
          have := ev_X 1 (j : Rat)
          rw [show X * (1 : Poly) = X by grind] at this
          rw [this, ← C_one, ev_C]; grind
        rw [hX]
        intro z
        rcases Rat.mul_eq_zero.mp z with z | z
        · apply hjk
          have : (j : Rat) = (k : Rat) := by grind
          exact Rat.natCast_inj.mp this
        · exact h2 z
      · have := List.length_erase_le (a := k) (l := l)
        have h3 : l.length ≤ (l.erase k).length + 1 := by
          rw [List.length_erase]
          split <;> omega
        omega
    · refine ⟨List.range M, List.nodup_range, fun k hk => ⟨List.mem_range.mp hk, fun z => hr ⟨k, List.mem_range.mp hk, z⟩⟩, by rw [List.length_range]; omega⟩
theorem lin_prim (k : Nat) : Prim (X - C (k : Rat)) := by
  have hc : ∀ i, (X - C (k : Rat)).c i = (((if i = 0 then -(k : Int) else if i = 1 then 1 else 0 : Int)) : Rat) := fun i => by
    unfold X
    rw [c_sub, c_mo, c_C]
    by_cases h0 : i = 0
    · rw [if_neg (by omega), if_pos h0, if_pos h0, Rat.intCast_neg, Rat.intCast_natCast]; grind
    · by_cases h1 : i = 1
      · rw [if_pos h1, if_neg h0, if_neg h0, if_pos h1]; show (1 : Rat) - 0 = ((1 : Int) : Rat); rw [Rat.intCast_one]; grind
      · rw [if_neg h1, if_neg h0, if_neg h0, if_neg h1]; show (0 : Rat) - 0 = ((0 : Int) : Rat); rw [Rat.intCast_zero]; grind
  refine ⟨fun i => ⟨_, by rw [Int.one_mul]; exact hc i⟩, fun d hd => ?_⟩
  obtain ⟨t, et⟩ := hd 1
  rw [hc] at et
  have h1 := Rat.intCast_inj.mp et
  simp at h1
  have h2 : (1 : Int).natAbs = d * t.natAbs := by rw [h1, Int.natAbs_mul, Int.natAbs_natCast]
  exact Nat.eq_one_of_mul_eq_one_right h2.symm
theorem interp {M : Nat} : ∀ d, ∀ (g : Poly) (B : Nat), Ml 1 g → g.len ≤ d + 1 → ∀ l : List Nat, l.Nodup → d + 1 ≤ l.length → (∀ k ∈ l, k ≤ M ∧ ∃ t : Int, ev g (k : Rat) = (t : Rat) ∧ t.natAbs ≤ B) → Hn g 1 (B * (2 * M + 3) ^ d) := by
  intro d
  induction d with
  | zero =>
    intro g B hg hl l hn hll hb
    obtain ⟨k, l', rfl⟩ : ∃ k l', l = k :: l' := by
      cases l with
      | nil => simp at hll
      | cons k l' => exact ⟨k, l', rfl⟩
    obtain ⟨_, t, et, ht⟩ := hb k (by simp)
    have hg0 := len_one_iff.mp hl
    rw [hg0, ev_C] at et
    refine Hn.of1 fun i => ?_
    rw [hg0, c_C, Nat.pow_zero, Nat.mul_one]
    split
    · exact ⟨t, et, ht⟩
    · exact ⟨0, rfl, Nat.zero_le _⟩
  | succ d ih =>
    intro g B hg hl l hn hll hb
    obtain ⟨k, l', rfl⟩ : ∃ k l', l = k :: l' := by
      cases l with
      | nil => simp at hll
      | cons k l' => exact ⟨k, l', rfl⟩
    obtain ⟨hkM, s, es, hs⟩ := hb k (by simp)
    obtain ⟨h, eh⟩ := ev_root g (k : Rat)
    have hmc : Ml 1 (g - C (ev g (k : Rat))) := by
      have : Ml 1 (C (ev g (k : Rat))) := by
        rw [es]
        have := Ml.cst (d := 1) (t := s)
        rwa [Int.one_mul] at this
      exact hg.sub this
    have hh : Ml 1 h := (lin_prim k).quot eh.symm hmc
    have hhl : h.len ≤ d + 1 := by
      by_cases h0 : h = 0
      · rw [h0, len_zero]; omega
      · have hx0 := (lin_prim k).ne
        have hx : 2 ≤ (X - C (k : Rat)).len := by
          have : 1 < (X - C (k : Rat)).len := lt_len (by
            unfold X
            rw [c_sub, c_mo, c_C]
            simp
            grind)
          omega
        have h1 := len_mul hx0 h0
        rw [← eh] at h1
        have h2 := len_sub g (C (ev g (k : Rat)))
        have h3 := len_C_le (ev g (k : Rat))
        omega
    have hi := ih h (2 * B) hh hhl l' (List.nodup_cons.mp hn).2 (by simpa using hll) (fun j hj => by
      obtain ⟨hjM, t, et, ht⟩ := hb j (by simp [hj])
      obtain ⟨w, ew⟩ := ev_int hh (j : Int)
      rw [Rat.intCast_natCast] at ew
      refine ⟨hjM, w, ew, ?_⟩
      have hX : ev X (j : Rat) = (j : Rat) := by
        have := ev_X 1 (j : Rat)
        rw [show X * (1 : Poly) = X by grind] at this
        rw [this, ← C_one, ev_C]; grind
      have e1 := congrArg (fun p => ev p (j : Rat)) eh
      simp only [ev_sub, ev_mul, ev_C, hX, et, es, ew] at e1
      have e2 : t - s = ((j : Int) - (k : Int)) * w := by
        apply Rat.intCast_inj.mp
        rw [Rat.intCast_sub, e1, Rat.intCast_mul, Rat.intCast_sub, Rat.intCast_natCast, Rat.intCast_natCast]
      have hjk : j ≠ k := fun z => (List.nodup_cons.mp hn).1 (z ▸ hj)
      have h1 : (t - s).natAbs = ((j : Int) - (k : Int)).natAbs * w.natAbs := by rw [e2, Int.natAbs_mul]
      have h2 : 0 < ((j : Int) - (k : Int)).natAbs := by omega
      have h3 : w.natAbs ≤ ((j : Int) - (k : Int)).natAbs * w.natAbs := Nat.le_mul_of_pos_left _ h2
      omega)
    refine Hn.of1 fun i => ?_
    obtain ⟨x, ex, hx⟩ := hi.at1 i
    have eg : g = C (s : Rat) + (X * h - C (k : Rat) * h) := by rw [← es]; grind
    have hpow : 2 * B * (2 * M + 3) ^ d + (B + k * (2 * B * (2 * M + 3) ^ d)) ≤ B * (2 * M + 3) ^ (d + 1) := by
      have hP : 0 < (2 * M + 3) ^ d := Nat.pow_pos (by omega)
      rw [Nat.pow_succ]
      generalize (2 * M + 3) ^ d = P at *
      have h1 : k * (2 * B * P) ≤ M * (2 * B * P) := Nat.mul_le_mul_right _ hkM
      have h2 : B * (P * (2 * M + 3)) = M * (2 * B * P) + 2 * B * P + B * P := by grind
      have h3 : B ≤ B * P := Nat.le_mul_of_pos_right _ hP
      omega
    cases i with
    | zero =>
      refine ⟨s - (k : Int) * x, ?_, ?_⟩
      · rw [eg, c_add, c_sub, c_Cmul, c_Xmul0, c_C, if_pos rfl, ex, Rat.intCast_sub, Rat.intCast_mul, Rat.intCast_natCast]; grind
      · have h1 := Int.natAbs_sub_le s ((k : Int) * x)
        rw [Int.natAbs_mul, Int.natAbs_natCast] at h1
        have h2 := Nat.mul_le_mul_left k hx
        omega
    | succ i =>
      obtain ⟨y, ey, hy⟩ := hi.at1 i
      refine ⟨y - (k : Int) * x, ?_, ?_⟩
      · rw [eg, c_add, c_sub, c_Cmul, c_Xmul, c_C, if_neg (by omega), ex, ey, Rat.intCast_sub, Rat.intCast_mul, Rat.intCast_natCast]; grind
      · have h1 := Int.natAbs_sub_le y ((k : Int) * x)
        rw [Int.natAbs_mul, Int.natAbs_natCast] at h1
        have h2 := Nat.mul_le_mul_left k hx
        omega
theorem ev_le {A M : Nat} : ∀ n, ∀ p : Poly, p.len ≤ n → Hn p 1 A → ∀ k, k ≤ M → ∃ t : Int, ev p (k : Rat) = (t : Rat) ∧ t.natAbs ≤ A * (M + 1) ^ n := by
  intro n
  induction n with
  | zero =>
    intro p hl _ k _
    exact ⟨0, by rw [len_eq_zero.mp (by omega : p.len = 0), ev_zero]; rfl, Nat.zero_le _⟩
  | succ n ih =>
    intro p hl h k hk
    obtain ⟨p', ep, lp, hc⟩ := split0 p
    obtain ⟨t, et, ht⟩ := ih p' (by omega) (Hn.of1 fun i => by rw [hc]; exact h.at1 (i + 1)) k hk
    obtain ⟨s, es, hs⟩ := h.at1 0
    refine ⟨s + (k : Int) * t, ?_, ?_⟩
    · have := ev_cons (p.c 0) p' (k : Rat)
      rw [← ep] at this
      rw [this, es, et, Rat.intCast_add, Rat.intCast_mul, Rat.intCast_natCast]
    · have h1 := Int.natAbs_add_le s ((k : Int) * t)
      rw [Int.natAbs_mul, Int.natAbs_natCast] at h1
      have h2 := Nat.mul_le_mul hk ht
      have hP : 0 < (M + 1) ^ n := Nat.pow_pos (by omega)
      have h3 : A ≤ A * (M + 1) ^ n := Nat.le_mul_of_pos_right _ hP
      rw [Nat.pow_succ]
      have h4 : A * ((M + 1) ^ n * (M + 1)) = M * (A * (M + 1) ^ n) + A * (M + 1) ^ n := by
        generalize (M + 1) ^ n = P
        grind
      omega
/-- whole numbers that divide whole numbers are not much greater -/
theorem factor_h {a g : Poly} {A n : Nat} (ha : Hn a 1 A) (ha0 : a ≠ 0) (hl : a.len ≤ n + 1) (hg : Ml 1 g) {w : Poly} (hw : Ml 1 w) (e : a = w * g) : Hn g 1 (A * (2 * n + 1) ^ (n + 1) * (4 * n + 3) ^ n) := by
  obtain ⟨l, hn, hl1, hl2⟩ := points n a hl ha0 (2 * n + 1)
  have hgl : g.len ≤ n + 1 := by
    have := Dvd.len ⟨w, e⟩ ha0
    omega
  have := interp (M := 2 * n) n g (A * (2 * n + 1) ^ (n + 1)) hg hgl l hn (by omega) (fun k hk => by
    obtain ⟨h1, h2⟩ := hl1 k hk
    refine ⟨by omega, ?_⟩
    obtain ⟨t, et, ht⟩ := ev_le (M := 2 * n) (n + 1) a hl ha k (by omega)
    obtain ⟨x, ex⟩ := ev_int hg (k : Int)
    obtain ⟨y, ey⟩ := ev_int hw (k : Int)
    rw [Rat.intCast_natCast] at ex ey
    refine ⟨x, ex, ?_⟩
    have e1 : t = y * x := by
      apply Rat.intCast_inj.mp
      rw [← et, e, ev_mul, ex, ey, Rat.intCast_mul]
    have ht0 : t ≠ 0 := fun z => h2 (by rw [et, z]; rfl)
    have hy0 : 0 < y.natAbs := Int.natAbs_pos.mpr fun z => ht0 (by rw [e1, z, Int.zero_mul])
    have h3 : x.natAbs ≤ y.natAbs * x.natAbs := Nat.le_mul_of_pos_left _ hy0
    rw [← Int.natAbs_mul, ← e1] at h3
    omega)
  rw [show 2 * (2 * n) + 3 = 4 * n + 3 by omega] at this
  exact this
end Al
namespace Al
open Poly
/-- the two pairs of a search: each rest is often times the first and some times the second -/
structure IV (f s t0 v0 t1 v1 : Poly) : Prop where
  rel : ∃ (u0 u1 : Poly) (k : Rat), k ≠ 0 ∧ t0 = v0 * f + u0 * s ∧ t1 = v1 * f + u1 * s ∧ u0 * v1 - u1 * v0 = C k
  cop : Cop t0 t1
  short : t1.len < t0.len
  lens : v1.len + t0.len = s.len + 1
  some : s ≠ 0
theorem IV.det {f s t0 v0 t1 v1 : Poly} (h : IV f s t0 v0 t1 v1) : ∃ k : Rat, k ≠ 0 ∧ t0 * v1 - t1 * v0 = C k * s := by
  obtain ⟨u0, u1, k, hk, e0, e1, e⟩ := h.rel
  refine ⟨k, hk, ?_⟩
  rw [e0, e1, ← e]
  grind
theorem IV.det_ne {f s t0 v0 t1 v1 : Poly} (h : IV f s t0 v0 t1 v1) : t0 * v1 - t1 * v0 ≠ 0 := by
  obtain ⟨k, hk, e⟩ := h.det
  rw [e]
  intro z
  rcases mul_eq_zero.mp z with z | z
  · exact C_ne hk z
  · exact h.some z
theorem IV.start {f s : Poly} (hs : s ≠ 0) (hc : Cop s f) (hl : f.len < s.len) : IV f s s 0 f 1 := by
  refine ⟨⟨1, 0, 1, by decide, by grind, by grind, ?_⟩, hc, hl, ?_, hs⟩
  · rw [show C 1 = 1 from rfl]; grind
  · have : (1 : Poly).len = 1 := by rw [show (1 : Poly) = C 1 from rfl]; exact len_C (by decide)
    omega
theorem IV.next {f s t0 v0 t1 v1 t2 v2 W : Poly} {c : Rat} (h : IV f s t0 v0 t1 v1) (hc : c ≠ 0) (e1 : t2 = C c * t0 - W * t1) (e2 : v2 = C c * v0 - W * v1) (hl : t2.len < t1.len) : IV f s t1 v1 t2 v2 := by
  obtain ⟨k, hk, hd⟩ := h.det
  have hci : C (1 / c) * C c = 1 := by rw [← C_mul, show 1 / c * c = 1 by grind]; rfl
  have ht1 : t1 ≠ 0 := fun z => by rw [z, len_zero] at hl; omega
  refine ⟨?_, ?_, hl, ?_, h.some⟩
  · obtain ⟨u0, u1, k, hk, a0, a1, e⟩ := h.rel
    refine ⟨u1, C c * u0 - W * u1, -(c * k), by grind, a1, ?_, ?_⟩
    · rw [e1, e2, a0, a1]; grind
    · have : C (-(c * k)) = -(C c * C k) := Poly.ext fun i => by rw [c_neg, ← C_mul, c_C, c_C]; split <;> grind
      rw [this, ← e, e2]; grind
  · obtain ⟨x, y, e⟩ := h.cop
    exact ⟨y + C (1 / c) * x * W, C (1 / c) * x, by
      rw [e1]
      have : C (1 / c) * x * (C c * t0) = x * t0 := by
        rw [show C (1 / c) * x * (C c * t0) = (C (1 / c) * C c) * (x * t0) by grind, hci]; grind
      grind⟩
  · have e3 : t1 * v2 = t2 * v1 - C (c * k) * s := by
      have : C (c * k) * s = C c * (t0 * v1 - t1 * v0) := by rw [hd, C_mul]; grind
      rw [this, e1, e2]; grind
    have hck : c * k ≠ 0 := fun z => by
      rcases Rat.mul_eq_zero.mp z with z | z
      · exact hc z
      · exact hk z
    have hsl := len_pos.mpr h.some
    have h1 := h.short
    have h2 := h.lens
    have l1 : (t2 * v1).len < s.len := by
      have := len_mul_le t2 v1
      omega
    have l2 : (t1 * v2).len = s.len := by
      have hgt : ∀ i, s.len ≤ i + 1 → (t2 * v1).c i = 0 := fun i hi => c_ge (by omega)
      have := len_eq (p := t1 * v2) (n := s.len - 1) (fun i hi => by rw [e3, c_sub, c_Cmul, hgt i (by omega), c_ge (p := s) (by omega)]; grind) (by
        rw [e3, c_sub, c_Cmul, hgt (s.len - 1) (by omega)]
        have h3 : s.c (s.len - 1) ≠ 0 := ld_ne h.some
        intro z
        have z2 : c * k * s.c (s.len - 1) = 0 := by grind
        rcases Rat.mul_eq_zero.mp z2 with z | z
        · exact hck z
        · exact h3 z)
      omega
    have hv2 : v2 ≠ 0 := fun z => by rw [z, show t1 * (0 : Poly) = 0 by grind, len_zero] at l2; omega
    have := len_mul ht1 hv2
    have := len_pos.mpr ht1
    omega
/-- the search's end: what it was after -/
theorem IV.out {f s t0 v0 t1 v1 : Poly} (h : IV f s t0 v0 t1 v1) {t : Rat} (ht : t1 = C t) (h2 : 1 < t0.len) : t ≠ 0 ∧ (C (1 / t) * v1).len < s.len ∧ ∃ w, C (1 / t) * v1 * f + w * s = 1 := by
  have hs := h.short
  have hl := h.lens
  have h0 : t ≠ 0 := fun z => by
    obtain ⟨x, y, e⟩ := h.cop
    rw [ht, z, show C 0 = 0 from C_zero] at e
    have e' : x * t0 = 1 := by grind
    have h1 : (1 : Poly).len = 1 := by rw [show (1 : Poly) = C 1 from rfl]; exact len_C (by decide)
    have hx : x ≠ 0 := fun z => by
      rw [z, show (0 : Poly) * t0 = 0 by grind] at e'
      rw [← e', len_zero] at h1
      exact absurd h1 (by decide)
    have ht0 : t0 ≠ 0 := fun z => by rw [z, len_zero] at h2; omega
    have h3 := len_mul hx ht0
    have h4 := len_pos.mpr hx
    rw [e', h1] at h3
    omega
  refine ⟨h0, ?_, ?_⟩
  · have h1 : t1.len = 1 := by rw [ht]; exact len_C h0
    have := len_mul_le (C (1 / t)) v1
    have := len_C_le (1 / t)
    omega
  · obtain ⟨u0, u1, k, hk, a0, a1, e⟩ := h.rel
    refine ⟨C (1 / t) * u1, ?_⟩
    have : C (1 / t) * t1 = 1 := by rw [ht, ← C_mul, show 1 / t * t = 1 by grind]; rfl
    rw [← this, a1]; grind
end Al
namespace Al
open Poly
/-- two short ones that say the same of p and q are multiples of one -/
theorem same_pair {p q v y t x z w : Poly} (e : t = v * p + y * q) (f : w = x * p + z * q) (hc : Cop v y) (hl : (w * v).len < q.len) (hk : (t * x).len < q.len) (hq : q ≠ 0) : ∃ l, x = l * v ∧ z = l * y ∧ w = l * t := by
  have h1 : w * v - t * x = (z * v - y * x) * q := by rw [e, f]; grind
  have h2 : z * v - y * x = 0 := by
    refine Decidable.byContradiction fun hn => ?_
    have h3 := len_mul hn hq
    have h4 := len_sub (w * v) (t * x)
    have h5 := len_pos.mpr hn
    rw [h1] at h4
    omega
  obtain ⟨a, b, h⟩ := hc
  have hx : x = (a * x + b * z) * v := by
    have : b * (z * v) = b * (y * x) := by rw [show z * v = y * x by grind]
    have : x = (a * v + b * y) * x := by rw [h]; grind
    grind
  have hz : z = (a * x + b * z) * y := by
    have : a * (z * v) = a * (y * x) := by rw [show z * v = y * x by grind]
    have : z = (a * v + b * y) * z := by rw [h]; grind
    grind
  refine ⟨a * x + b * z, hx, hz, ?_⟩
  rw [f, e]
  grind
theorem const_of_len {l v x : Poly} (e : x = l * v) (hx : x ≠ 0) (h : x.len ≤ v.len) : ∃ c : Rat, c ≠ 0 ∧ l = C c := by
  have hl : l ≠ 0 := fun z => hx (by rw [e, z]; grind)
  have hv : v ≠ 0 := fun z => hx (by rw [e, z]; grind)
  have h1 := len_mul hl hv
  rw [← e] at h1
  have h2 := len_pos.mpr hl
  refine ⟨l.c 0, ?_, Poly.ext fun i => ?_⟩
  · have := ld_ne hl
    unfold ld at this
    rwa [show l.len - 1 = 0 by omega] at this
  · rw [c_C]
    split
    · rename_i h; rw [h]
    · exact c_ge (by omega)
/-- two that share no number: a multiple of both that is whole is no smaller -/
theorem prim_pair {t v : Poly} (ht : Ml 1 t) (hv : Ml 1 v) (hp : ∀ d : Nat, Ml (d : Int) t → Ml (d : Int) v → d = 1) {N : Rat} (hN : N ≠ 0) {B : Nat} (h1 : Hn (C N * t) 1 B) (h2 : Hn (C N * v) 1 B) : Hn t 1 B ∧ Hn v 1 B := by
  have hd0 : ((N.den : Nat) : Rat) ≠ 0 := natCast_ne N.den_pos
  have hN' : N * ((N.den : Nat) : Rat) = ((N.num : Int) : Rat) := rat_num N
  have key : ∀ p : Poly, Ml 1 p → Hn (C N * p) 1 B → Ml ((N.den : Nat) : Int) p := fun p hp h i => by
    obtain ⟨x, ex, _⟩ := h.at1 i
    obtain ⟨y, ey⟩ := hp i
    rw [c_Cmul, ey, Int.one_mul] at ex
    have e3 : ((N.num * y : Int) : Rat) = (((N.den : Nat) : Int) * x : Int) := by
      rw [Rat.intCast_mul, Rat.intCast_mul, ← ex, ← hN', Rat.intCast_natCast]; grind
    have e4 := Rat.intCast_inj.mp e3
    have e5 : N.den ∣ N.num.natAbs * y.natAbs := by
      rw [← Int.natAbs_mul, e4, Int.natAbs_mul, Int.natAbs_natCast]
      exact Nat.dvd_mul_right _ _
    have e6 : N.den ∣ y.natAbs := Nat.Coprime.dvd_of_dvd_mul_left (Nat.Coprime.symm N.reduced) e5
    obtain ⟨k, hk⟩ := Int.natAbs_dvd_natAbs.mp (show (((N.den : Nat) : Int)).natAbs ∣ y.natAbs by rw [Int.natAbs_natCast]; exact e6)
    exact ⟨k, by rw [ey, Int.one_mul, hk]⟩
  have hd1 : N.den = 1 := hp N.den (key t ht h1) (key v hv h2)
  rw [hd1] at hN'
  have hNi : N = ((N.num : Int) : Rat) := by rw [← hN']; show N = N * (1 : Rat); grind
  have hn0 : N.num ≠ 0 := fun z => hN (by rw [hNi, z]; rfl)
  have big : ∀ p : Poly, Ml 1 p → Hn (C N * p) 1 B → Hn p 1 B := fun p hp h => Hn.of1 fun i => by
    obtain ⟨x, ex, hx⟩ := h.at1 i
    obtain ⟨y, ey⟩ := hp i
    rw [Int.one_mul] at ey
    refine ⟨y, ey, ?_⟩
    rw [c_Cmul, ey, hNi, ← Rat.intCast_mul] at ex
    have e4 := Rat.intCast_inj.mp ex
    have e5 : y.natAbs ≤ N.num.natAbs * y.natAbs := Nat.le_mul_of_pos_left _ (Int.natAbs_pos.mpr hn0)
    rw [← Int.natAbs_mul, e4] at e5
    omega
  exact ⟨big t ht h1, big v hv h2⟩
end Al
namespace Al
open Poly
theorem Hn.int_mul {p : Poly} {B : Nat} (h : Hn p 1 B) (n : Int) : Hn (Al.C (n : Rat) * p) 1 (n.natAbs * B) := Hn.of1 fun i => by
  obtain ⟨x, ex, hx⟩ := h.at1 i
  exact ⟨n * x, by rw [c_Cmul, ex, Rat.intCast_mul], by rw [Int.natAbs_mul]; exact Nat.mul_le_mul_left _ hx⟩
theorem len_Cm {c : Rat} {p : Poly} (hc : c ≠ 0) : (C c * p).len = p.len := by
  by_cases h : p = 0
  · rw [h, show C c * (0 : Poly) = 0 by grind]
  · have := len_mul (C_ne hc) h
    rw [len_C hc] at this
    omega
/-- how large a pair of the search can be -/
theorem pair_bound {p q a b g t v y : Poly} {c1 c2 β : Rat} {A t0 : Nat} {n : Int} {d : Nat} (hc1 : c1 ≠ 0) (hc2 : c2 ≠ 0) (hβ : β ≠ 0) (ea : a = C c1 * p * g) (eb : b = C c2 * q * g) (ha : Hn a 1 A) (hb : Hn b 1 A)
    (hp : p ≠ 0) (hq : q ≠ 0) (hg : Prim g) (et : t = C β * v * p + y * q) (hcop : Cop (C β * v) y) (hv : v ≠ 0) (hlen : v.len + t0 = q.len + 1) (htl : t.len < t0)
    (mt : Ml 1 t) (mv : Ml 1 v) (hpr : ∀ d : Nat, Ml (d : Int) t → Ml (d : Int) v → d = 1) (hd : 0 < d) (hnd : c1 * (d : Rat) = β * (n : Rat))
    {m k E B : Nat} (hm : m = q.len + 1 - t0) (hk : k = p.len + 1 - t0) (hE : E = (2 * (m + k) * A + 2) ^ (m + k - 1)) (hB : d * (m * (E * A) + k * (E * A)) ≤ B) (hB2 : n.natAbs * E ≤ B) :
    Hn (g * t) 1 B ∧ Hn v 1 B := by
  obtain ⟨fa, hfa⟩ := Classical.skolem.mp ha.at1
  obtain ⟨fb, hfb⟩ := Classical.skolem.mp hb.at1
  have hvl := len_pos.mpr hv
  have hgl := len_pos.mpr hg.ne
  have hpl := len_pos.mpr hp
  have hql := len_pos.mpr hq
  have hal : a.len + 1 = p.len + g.len := by
    have h1 : C c1 * p ≠ 0 := fun z => by have := len_Cm (p := p) hc1; rw [z, len_zero] at this; omega
    have := len_mul h1 hg.ne
    rw [← ea, len_Cm hc1] at this
    exact this
  have hbl : b.len + 1 = q.len + g.len := by
    have h1 : C c2 * q ≠ 0 := fun z => by have := len_Cm (p := q) hc2; rw [z, len_zero] at this; omega
    have := len_mul h1 hg.ne
    rw [← eb, len_Cm hc2] at this
    exact this
  obtain ⟨u, w, hu, hw, hne, hEu, hEw, hl⟩ := small_comb (fun i => (hfa i).1) (fun i => (hfb i).1) (fun i => (hfa i).2) (fun i => (hfb i).2) m k (t0 + g.len - 2) (m + k - 1) (by omega) (by omega) (by omega)
  rw [← hE] at hEu hEw
  have hgw : g * (C c1 * u * p + C c2 * w * q) = u * a + w * b := by rw [ea, eb]; grind
  obtain ⟨r, hr⟩ : ∃ r, r = C c1 * u * p + C c2 * w * q := ⟨_, rfl⟩
  rw [← hr] at hgw
  have hrl : r.len < t0 := by
    by_cases z : r = 0
    · rw [z, len_zero]; omega
    · have := len_mul hg.ne z
      have := len_pos.mpr z
      rw [hgw] at *
      omega
  have hbv := len_Cm (p := v) hβ
  have hxu := len_Cm (p := u) hc1
  obtain ⟨l, e1, e2, e3⟩ := same_pair et hr hcop (by have := len_mul_le r (C β * v); omega) (by have := len_mul_le t (C c1 * u); omega) hq
  have hinv : ∀ {c : Rat}, c ≠ 0 → ∀ s : Poly, C c * s = 0 → s = 0 := fun hc s h => by
    rcases mul_eq_zero.mp h with h | h
    · exact absurd h (C_ne hc)
    · exact h
  have hx : C c1 * u ≠ 0 := fun z => by
    have hl0 : l = 0 := by
      rcases mul_eq_zero.mp (e1.symm.trans z) with h | h
      · exact h
      · exact absurd (hinv hβ v h) hv
    have hu0 := hinv hc1 u z
    have hw0 := hinv hc2 w (by rw [e2, hl0]; grind)
    rcases hne with h | h
    · exact h hu0
    · exact h hw0
  obtain ⟨x, hx0, rfl⟩ := const_of_len e1 hx (by omega)
  have hdr : (d : Rat) ≠ 0 := natCast_ne hd
  have hN : x * (d : Rat) ≠ 0 := fun z => by
    rcases Rat.mul_eq_zero.mp z with z | z
    · exact hx0 z
    · exact hdr z
  have f1 : C (x * (d : Rat)) * (g * t) = C (((d : Nat) : Int) : Rat) * (u * a + w * b) := by
    rw [← hgw, e3, Rat.intCast_natCast, C_mul]; grind
  have f2 : C (x * (d : Rat)) * v = C (n : Rat) * u := by
    have h1 : C β * (C (x * (d : Rat)) * v) = C β * (C (n : Rat) * u) := by
      have h2 : C (d : Rat) * (C c1 * u) = C (d : Rat) * (C x * (C β * v)) := by rw [← e1]
      have h3 : C c1 * C (d : Rat) = C β * C (n : Rat) := by rw [← C_mul, ← C_mul, hnd]
      rw [C_mul]; grind
    have h4 : C β * (C (x * (d : Rat)) * v - C (n : Rat) * u) = 0 := by grind
    have := hinv hβ _ h4
    grind
  have g1 : Hn (u * a) 1 (m * (E * A)) := (hEu.mul ha).mono (Nat.mul_le_mul_right _ hu)
  have g2 : Hn (w * b) 1 (k * (E * A)) := (hEw.mul hb).mono (Nat.mul_le_mul_right _ hw)
  have g3 := (g1.add g2).int_mul ((d : Nat) : Int)
  rw [Int.natAbs_natCast] at g3
  refine prim_pair (hg.1.mul mt) mv (fun e h1 h2 => ?_) hN (by rw [f1]; exact g3.mono hB) (by rw [f2]; exact (hEu.int_mul n).mono hB2)
  rcases Nat.eq_zero_or_pos e with h0 | h0
  · refine absurd (Poly.ext fun i => ?_) hv
    obtain ⟨s, es⟩ := h2 i
    rw [es, h0, c_zero, show ((0 : Nat) : Int) * s = 0 from Int.zero_mul s]
    rfl
  · exact hpr e (hg.gauss e h0 t mt h1) h2
end Al
namespace Al
open Poly
/-- how large every pair of the search by p and q is, over bottoms that divide D -/
def Cap (p q : Poly) (D B : Nat) : Prop := ∀ (β : Nat) (t v y : Poly) (t0 : Nat), 0 < β → β ∣ D → 2 ≤ t0 → t0 ≤ q.len → t = C (β : Rat) * v * p + y * q → Cop (C (β : Rat) * v) y → v ≠ 0 → v.len + t0 = q.len + 1 → t.len < t0 →
  Ml 1 t → Ml 1 v → (∀ d : Nat, Ml (d : Int) t → Ml (d : Int) v → d = 1) → Hn t 1 B ∧ Hn v 1 B
theorem Cap.short {p q : Poly} {D B : Nat} (h : q.len ≤ 1) : Cap p q D B := fun _ _ _ _ _ _ _ h2 h3 => by omega
theorem Cap.mono {p q : Poly} {D B B' : Nat} (h : Cap p q D B) (hB : B ≤ B') : Cap p q D B' := fun β t v y t0 a1 a2 a3 a4 a5 a6 a7 a8 a9 a10 a11 a12 =>
  (h β t v y t0 a1 a2 a3 a4 a5 a6 a7 a8 a9 a10 a11 a12).imp (·.mono hB) (·.mono hB)
/-- what factor_h costs -/
def fh (n : Nat) : Nat := (2 * n + 1) ^ (n + 1) * (4 * n + 3) ^ n
theorem factor_fh {a g : Poly} {A n : Nat} (ha : Hn a 1 A) (ha0 : a ≠ 0) (hl : a.len ≤ n + 1) (hg : Ml 1 g) {w : Poly} (hw : Ml 1 w) (e : a = w * g) : Hn g 1 (A * fh n) := by
  have := factor_h ha ha0 hl hg hw e
  rwa [Nat.mul_assoc] at this
theorem cap_of {p q a b g : Poly} {c2 : Rat} {A D1 L Y K n : Nat} (hD1 : 0 < D1) (hL : 0 < L) (hY : 0 < Y) (hc2 : c2 ≠ 0) (ea : a = C ((D1 : Rat) / (L : Rat)) * p * g) (eb : b = C c2 * q * g) (ha : Hn a 1 A) (hb : Hn b 1 A) (hp : p ≠ 0) (hq : q ≠ 0) (hg : Prim g)
    (hK : p.len + q.len ≤ K + 2) (hn : b.len ≤ n + 1) : Cap p q (D1 * Y) (D1 * (L * Y) * (K * ((2 * K * A + 2) ^ (K - 1) * A)) * fh n) := by
  intro β t v y t0 hβ hβD h2 htq et hcop hv hlen htl mt mv hpr
  obtain ⟨e, he⟩ := hβD
  have hβr := natCast_ne hβ
  have hDr := natCast_ne hD1
  have hLr := natCast_ne hL
  have hc1 : (D1 : Rat) / (L : Rat) ≠ 0 := by grind
  have hA : 0 < A := by
    rcases Nat.eq_zero_or_pos A with z | z
    · exfalso
      have ha0 : a = 0 := Poly.ext fun i => by
        obtain ⟨t, et, ht⟩ := ha.at1 i
        have : t = 0 := Int.natAbs_eq_zero.mp (by omega)
        rw [et, this, c_zero]; rfl
      rw [ha0] at ea
      rcases mul_eq_zero.mp ea.symm with z | z
      · rcases mul_eq_zero.mp z with z | z
        · exact C_ne hc1 z
        · exact hp z
      · exact hg.ne z
    · exact z
  have hpl := len_pos.mpr hp
  have hgl := len_pos.mpr hg.ne
  obtain ⟨m, hm⟩ : ∃ m, m = q.len + 1 - t0 := ⟨_, rfl⟩
  obtain ⟨k, hk⟩ : ∃ k, k = p.len + 1 - t0 := ⟨_, rfl⟩
  have hmk : m + k ≤ K := by omega
  have hmk1 : 1 ≤ m + k := by omega
  obtain ⟨E, hE⟩ : ∃ E, E = (2 * (m + k) * A + 2) ^ (m + k - 1) := ⟨_, rfl⟩
  obtain ⟨F, hF⟩ : ∃ F, F = (2 * K * A + 2) ^ (K - 1) := ⟨_, rfl⟩
  have hEF : E ≤ F := by
    rw [hE, hF]
    refine Nat.le_trans (Nat.pow_le_pow_left (Nat.add_le_add_right (Nat.mul_le_mul_right _ (Nat.mul_le_mul_left _ hmk)) _) _) (Nat.pow_le_pow_right (by omega) (by omega))
  rw [← hF]
  have hDY : e ≤ D1 * Y := by rw [he]; exact Nat.le_mul_of_pos_left _ hβ
  have hF0 : 0 < F := by rw [hF]; exact Nat.pow_pos (by omega)
  have hB := pair_bound (p := p) (q := q) (a := a) (b := b) (g := g) (t := t) (v := v) (y := y) (c1 := (D1 : Rat) / (L : Rat)) (c2 := c2) (β := (β : Rat)) (A := A) (t0 := t0) (n := (e : Int)) (d := L * Y) hc1 hc2 hβr ea eb ha hb hp hq hg et hcop hv hlen htl mt mv hpr (Nat.mul_pos hL hY)
    (by
      have h1 : (D1 : Rat) * (Y : Rat) = (β : Rat) * (e : Rat) := by rw [← Rat.natCast_mul, he, Rat.natCast_mul]
      rw [Rat.natCast_mul, Rat.intCast_natCast, ← h1]; grind) (m := m) (k := k) (E := E) (B := D1 * (L * Y) * (K * (F * A))) hm hk hE ?_ ?_
  · obtain ⟨h1, h3⟩ := hB
    refine ⟨?_, h3.mono (Nat.le_mul_of_pos_right _ (Nat.mul_pos (Nat.pow_pos (by omega)) (Nat.pow_pos (by omega))))⟩
    by_cases ht : t = 0
    · rw [ht]; exact Hn.zero (by decide)
    · have hgt := mul_ne hg.ne ht
      refine factor_fh h1 hgt ?_ mt hg.1 rfl
      have l1 := len_mul hg.ne ht
      have hcq : C c2 * q ≠ 0 := mul_ne (C_ne hc2) hq
      have l2 := len_mul hcq hg.ne
      rw [← eb, len_Cm hc2] at l2
      omega
  · have h1 : m * (E * A) + k * (E * A) = (m + k) * (E * A) := by rw [Nat.add_mul]
    rw [h1]
    refine Nat.mul_le_mul (Nat.le_mul_of_pos_left _ hD1) (Nat.mul_le_mul hmk (Nat.mul_le_mul_right _ hEF))
  · rw [Int.natAbs_natCast]
    refine Nat.mul_le_mul (Nat.le_trans hDY (Nat.mul_le_mul_left _ (Nat.le_mul_of_pos_left _ hL))) (Nat.le_trans hEF ?_)
    rw [← Nat.mul_assoc]
    refine Nat.le_trans (Nat.le_mul_of_pos_left F (show 0 < K by omega)) (Nat.le_mul_of_pos_right _ hA)
/-- a whole row's two parts, one of them the whole row's share -/
theorem parts_h {a g : Poly} {A n : Nat} (ha : Hn a 1 A) (ha0 : a ≠ 0) (hl : a.len ≤ n + 1) (hg : Prim g) (hgl : 0 < g.ld) (hd : Dvd g a) :
    ∃ (L : Nat) (w : Poly), g.ld = (L : Rat) ∧ 0 < L ∧ L ≤ A ∧ Ml 1 w ∧ a = w * g ∧ Hn (C (L : Rat) * w) 1 (A * A * fh n) ∧ Hn g 1 (A * fh n) := by
  obtain ⟨w, hw, e⟩ := hg.cofactor ha.ml hd
  have hw0 : w ≠ 0 := fun z => ha0 (by rw [e, z]; grind)
  obtain ⟨x, hx⟩ := hg.1 (g.len - 1)
  have hx' : g.ld = ((x : Int) : Rat) := by rw [show g.ld = g.c (g.len - 1) from rfl, hx, Int.one_mul]
  have hxp : 0 < x := by
    rw [hx'] at hgl
    exact Rat.intCast_pos.mp hgl
  obtain ⟨L, rfl⟩ : ∃ L : Nat, x = L := ⟨x.toNat, by omega⟩
  rw [Rat.intCast_natCast] at hx'
  obtain ⟨y, hy⟩ := hw (w.len - 1)
  have hy' : w.ld = ((y : Int) : Rat) := by rw [show w.ld = w.c (w.len - 1) from rfl, hy, Int.one_mul]
  obtain ⟨s, es, hs⟩ := ha.at1 (a.len - 1)
  have hld := ld_mul hw0 hg.ne
  rw [← e, hy', hx', show a.ld = a.c (a.len - 1) from rfl, es, ← Rat.intCast_natCast, ← Rat.intCast_mul] at hld
  have hs' := Rat.intCast_inj.mp hld
  have hy0 : y ≠ 0 := fun z => ld_ne hw0 (by rw [hy', z]; rfl)
  have hLA : L ≤ A := by
    have h1 : L ≤ y.natAbs * L := Nat.le_mul_of_pos_left _ (Int.natAbs_pos.mpr hy0)
    have h2 : s.natAbs = y.natAbs * L := by rw [hs', Int.natAbs_mul, Int.natAbs_natCast]
    omega
  have hgm := hg.1
  refine ⟨L, w, hx', by omega, hLA, hw, e, ?_, factor_fh ha ha0 hl hgm hw e⟩
  have hLr : (L : Rat) ≠ 0 := natCast_ne (by omega)
  have h1 : Hn (C (L : Rat) * a) 1 (A * A) := by
    have := ha.int_mul (L : Int)
    rw [Rat.intCast_natCast, Int.natAbs_natCast] at this
    exact this.mono (Nat.mul_le_mul_right _ hLA)
  have hwL : Ml 1 (C (L : Rat) * w) := by
    have := Ml.smul (d := 1) (e := (L : Int)) hw
    rw [Rat.intCast_natCast] at this
    exact this.int
  exact factor_fh h1 (mul_ne (C_ne hLr) ha0) (by rw [len_Cm hLr]; exact hl) hwL hgm (by rw [e]; grind)
end Al
namespace Al
open Poly
theorem Hn.of_C {p : Poly} {D N : Nat} (hD : 0 < D) (h : Hn (Al.C (D : Rat) * p) 1 N) : Hn p D N := ⟨hD, fun i => by
  obtain ⟨t, et, ht⟩ := h.at1 i
  exact ⟨t, by rw [← et, c_Cmul]; grind, ht⟩⟩
theorem Hn.to_C {p : Poly} {D N : Nat} (h : Hn p D N) : Hn (Al.C (D : Rat) * p) 1 N := Hn.of1 fun i => by
  obtain ⟨t, et, ht⟩ := h.2 i
  exact ⟨t, by rw [c_Cmul, ← et]; grind, ht⟩
theorem C_cancel {a b : Rat} (h : a * b = 1) (p : Poly) : C a * (C b * p) = p := by
  have : C a * C b = 1 := by rw [← C_mul, h]; rfl
  rw [show C a * (C b * p) = (C a * C b) * p by grind, this]; grind
/-- a row's place in the last, over its bottom -/
theorem Hn.lead {p : Poly} {D N : Nat} (h : Hn p D N) (h0 : p ≠ 0) : ∃ t : Int, p.ld * (D : Rat) = (t : Rat) ∧ t ≠ 0 ∧ t.natAbs ≤ N := by
  obtain ⟨t, et, ht⟩ := h.2 (p.len - 1)
  refine ⟨t, et, fun z => ?_, ht⟩
  rw [z] at et
  rcases Rat.mul_eq_zero.mp et with z | z
  · exact ld_ne h0 z
  · exact natCast_ne h.1 z
/-- what two rows are by what they share -/
structure Shared (p q : Poly) (D1 D2 A n : Nat) : Prop where
  left : p = dv p (gc p q) * gc p q
  right : q = dv q (gc p q) * gc p q
  cop : Cop (dv p (gc p q)) (dv q (gc p q))
  some : dv q (gc p q) ≠ 0
  g : ∃ L, 0 < L ∧ L ≤ A ∧ Hn (gc p q) L (A * fh n)
  one : Hn (dv p (gc p q)) D1 (A * A * fh n)
  other : Hn (dv q (gc p q)) D2 (A * A * fh n)
  rest : ∃ T, 0 < T ∧ T ≤ A ∧ ∀ k, (dv p (gc p q)).len < (dv q (gc p q)).len + k → Hn (md (dv p (gc p q)) (dv q (gc p q))) (D1 * T ^ k) (A * A * fh n * (2 * (A * A * fh n)) ^ k) ∧
    Cap (dv p (gc p q)) (dv q (gc p q)) (D1 * T ^ k) (D1 * (A * T ^ k) * (2 * n * ((2 * (2 * n) * A + 2) ^ (2 * n - 1) * A)) * fh n)
  comb : ∀ u v : Poly, u * dv p (gc p q) + v * dv q (gc p q) = 1 → u.len < (dv q (gc p q)).len → ∃ R, 0 < R ∧ R ≤ (2 * n + 1) * ((2 * (2 * n) * A + 2) ^ (2 * n - 1) * A) ∧ Hn u R (D1 * (2 * (2 * n) * A + 2) ^ (2 * n - 1)) ∧ Hn v R (D2 * (2 * (2 * n) * A + 2) ^ (2 * n - 1))
theorem shared_of {p q : Poly} {D1 N1 D2 N2 A n : Nat} (hp : Hn p D1 N1) (hq : Hn q D2 N2) (hq0 : q ≠ 0) (h1 : N1 ≤ A) (h2 : N2 ≤ A) (lp : p.len ≤ n + 1) (lq : q.len ≤ n + 1) : Shared p q D1 D2 A n := by
  obtain ⟨G, hG⟩ : ∃ G, G = gc p q := ⟨_, rfl⟩
  have hled : Led G := by rw [hG]; exact gc_led (.inr hq0)
  have hG0 := hled.ne
  have hGl : G.ld = 1 := hled
  obtain ⟨P, hP⟩ : ∃ P, P = dv p G := ⟨_, rfl⟩
  obtain ⟨Q, hQ⟩ : ∃ Q, Q = dv q G := ⟨_, rfl⟩
  have eP : p = P * G := by
    have e := dv_md p G
    rw [(md_zero hG0).mpr (by rw [hG]; exact gc_left p q), ← hP] at e
    rw [e]; grind
  have eQ : q = Q * G := by
    have e := dv_md q G
    rw [(md_zero hG0).mpr (by rw [hG]; exact gc_right p q), ← hQ] at e
    rw [e]; grind
  have hcop : Cop P Q := gc_parts (.inr hq0) (by rw [← hG]; exact eP) (by rw [← hG]; exact eQ)
  have hQ0 : Q ≠ 0 := fun z => hq0 (by rw [eQ, z]; grind)
  have hD1r := natCast_ne hp.1
  have hD2r := natCast_ne hq.1
  -- whole rows
  obtain ⟨a, ea⟩ : ∃ a, a = C (D1 : Rat) * p := ⟨_, rfl⟩
  obtain ⟨b, eb⟩ : ∃ b, b = C (D2 : Rat) * q := ⟨_, rfl⟩
  have ha : Hn a 1 A := by rw [ea]; exact hp.to_C.mono h1
  have hb : Hn b 1 A := by rw [eb]; exact hq.to_C.mono h2
  have hal : a.len = p.len := by rw [ea]; exact len_Cm hD1r
  have hbl : b.len = q.len := by rw [eb]; exact len_Cm hD2r
  have hb0 : b ≠ 0 := len_pos.mp (by rw [hbl]; exact len_pos.mpr hq0)
  obtain ⟨c, g, hc, hg, eg, hgl⟩ := prim_ex hG0
  have hgG : Dvd g G := ⟨C c, eg⟩
  have hGb : Dvd G b := ⟨C (D2 : Rat) * Q, by rw [eb, eQ]; grind⟩
  have hGa : Dvd G a := ⟨C (D1 : Rat) * P, by rw [ea, eP]; grind⟩
  obtain ⟨L, w, eL, hL, hLA, hw, ebw, hwh, hgh⟩ := parts_h (n := n) hb hb0 (by omega) hg hgl (hgG.trans hGb)
  have hLr := natCast_ne hL
  have hcL : c * (L : Rat) = 1 := by
    have h3 := ld_mul (C_ne hc) hg.ne
    rw [← eg, hGl, ld_C, eL] at h3
    exact h3.symm
  have hLc : (L : Rat) * c = 1 := by grind
  have hgLG : g = C (L : Rat) * G := by rw [eg, C_cancel hLc]
  have hA0 : 0 < A := by omega
  have hQw : C (D2 : Rat) * Q = C (L : Rat) * w := by
    refine mul_cancel hG0 ?_
    have : b = C (D2 : Rat) * (Q * G) := by rw [eb, ← eQ]
    rw [ebw, hgLG] at this
    grind
  have hQh : Hn Q D2 (A * A * fh n) := Hn.of_C hq.1 (by rw [hQw]; exact hwh)
  have hPh : Hn P D1 (A * A * fh n) := by
    by_cases ha0 : a = 0
    · have hP0 : P = 0 := by
        have : C (D1 : Rat) * (P * G) = 0 := by rw [← eP, ← ea, ha0]
        rcases mul_eq_zero.mp this with z | z
        · exact absurd z (C_ne hD1r)
        · rcases mul_eq_zero.mp z with z | z
          · exact z
          · exact absurd z hG0
      rw [hP0]; exact Hn.zero hp.1
    · obtain ⟨L', w', eL', _, _, hw', eaw, hwh', _⟩ := parts_h (n := n) ha ha0 (by omega) hg hgl (hgG.trans hGa)
      have hPw : C (D1 : Rat) * P = C (L' : Rat) * w' := by
        refine mul_cancel hG0 ?_
        have : a = C (D1 : Rat) * (P * G) := by rw [ea, ← eP]
        rw [eaw, hgLG, ← eL, eL'] at this
        grind
      exact Hn.of_C hp.1 (by rw [hPw]; exact hwh')
  have hgGh : Hn G L (A * fh n) := Hn.of_C hL (by rw [← hgLG]; exact hgh)
  have hldQ : Q.ld = q.ld := by
    have := ld_mul hQ0 hG0
    rw [← eQ, hGl] at this
    grind
  obtain ⟨tq, etq, htq0, htq⟩ := hq.lead hq0
  have hF : ∀ m : Nat, 0 < (2 * (2 * n) * A + 2) ^ m := fun m => Nat.pow_pos (by omega)
  obtain ⟨F, eF⟩ : ∃ F, F = (2 * (2 * n) * A + 2) ^ (2 * n - 1) := ⟨_, rfl⟩
  have hF0 : 0 < F := by rw [eF]; exact hF _
  have hPlen : P.len ≤ n + 1 := by
    by_cases z : P = 0
    · rw [z, len_zero]; omega
    · have := len_mul z hG0
      rw [← eP] at this
      have := len_pos.mpr hG0
      omega
  have hQlen : Q.len ≤ n + 1 := by
    have := len_mul hQ0 hG0
    rw [← eQ] at this
    have := len_pos.mpr hG0
    omega
  have hrest : ∃ T, 0 < T ∧ T ≤ A ∧ ∀ k, P.len < Q.len + k → Hn (md P Q) (D1 * T ^ k) (A * A * fh n * (2 * (A * A * fh n)) ^ k) ∧ Cap P Q (D1 * T ^ k) (D1 * (A * T ^ k) * (2 * n * (F * A)) * fh n) := by
    obtain ⟨T, hT0, hTM, ⟨t, et, hT⟩, hk⟩ := div_hT hQ0 hQh
    have htt : t = tq := by
      rw [hldQ, etq] at et
      exact (Rat.intCast_inj.mp et).symm
    refine ⟨T, hT0, by rw [← hT, htt]; omega, fun k hlt => ⟨(hk k P D1 _ hlt hPh).2, ?_⟩⟩
    by_cases hq1 : Q.len ≤ 1
    · exact Cap.short hq1
    have hP0 : P ≠ 0 := fun z => by
      obtain ⟨x, y, e⟩ := hcop
      have h3 : y * Q = 1 := by rw [z] at e; rw [← e]; grind
      have hy : y ≠ 0 := fun z => by rw [z, show (0 : Poly) * Q = 0 by grind] at h3; exact absurd h3 (by decide)
      have h4 := len_mul hy hQ0
      rw [h3, len_one] at h4
      have := len_pos.mpr hy
      omega
    have hcap := cap_of (p := P) (q := Q) (a := a) (b := b) (g := g) (c2 := (D2 : Rat) * c) (A := A) (D1 := D1) (L := L) (Y := T ^ k) (K := 2 * n) (n := n) hp.1 hL (Nat.pow_pos hT0) (fun z => by
        rcases Rat.mul_eq_zero.mp z with z | z
        · exact hD2r z
        · exact hc z) (by
        rw [ea, eP, eg, show (D1 : Rat) / (L : Rat) = (D1 : Rat) * c by grind, C_mul]; grind) (by
        rw [eb, eQ, eg, C_mul]; grind) ha hb hP0 hQ0 hg (by omega) (by omega)
    rw [← eF] at hcap
    exact hcap.mono (Nat.mul_le_mul_right _ (Nat.mul_le_mul_right _ (Nat.mul_le_mul_left _ (Nat.mul_le_mul_right _ hLA))))
  have hcomb : ∀ u v : Poly, u * P + v * Q = 1 → u.len < Q.len → ∃ R, 0 < R ∧ R ≤ (2 * n + 1) * (F * A) ∧ Hn u R (D1 * F) ∧ Hn v R (D2 * F) := by
    intro u v e hu
    by_cases hq1 : Q.len ≤ 1
    · have hu0 : u = 0 := len_eq_zero.mp (by omega)
      have hqc := len_one_iff.mp hq1
      have hQc : Q.ld = Q.c 0 := by unfold ld; rw [show Q.len - 1 = 0 by omega]
      have hv : v * Q = 1 := by rw [hu0] at e; rw [← e]; grind
      refine ⟨tq.natAbs, Int.natAbs_pos.mpr htq0, ?_, by rw [hu0]; exact Hn.zero (Int.natAbs_pos.mpr htq0), ?_⟩
      · refine Nat.le_trans htq (Nat.le_trans h2 ?_)
        exact Nat.le_trans (Nat.le_mul_of_pos_left A hF0) (Nat.le_mul_of_pos_left _ (by omega))
      · -- v = D2 / tq
        have hvc : v = C (1 / Q.c 0) := by
          have h4 : Q.c 0 ≠ 0 := fun z => hQ0 (by rw [hqc, z]; rfl)
          have h5 : C (1 / Q.c 0) * Q = 1 := by
            rw [hqc, c_C, if_pos rfl, ← C_mul, show 1 / Q.c 0 * Q.c 0 = 1 by grind]; rfl
          exact mul_cancel hQ0 (by rw [show Q * v = v * Q by grind, hv, ← h5]; grind)
        refine ⟨Int.natAbs_pos.mpr htq0, fun i => ?_⟩
        rw [hvc, c_C]
        split
        · have h4 : Q.c 0 * (D2 : Rat) = (tq : Rat) := by rw [← hQc, hldQ, etq]
          have h4' : Q.c 0 ≠ 0 := fun z => hQ0 (by rw [hqc, z]; rfl)
          obtain ⟨sg, hsg, hT2⟩ : ∃ sg : Int, sg.natAbs = 1 ∧ ((tq.natAbs : Nat) : Rat) = (sg : Rat) * (tq : Rat) := by
            rcases Int.le_total 0 tq with z | z
            · refine ⟨1, rfl, ?_⟩
              rw [← Rat.intCast_natCast, Int.natAbs_of_nonneg z]
              show _ = (1 : Rat) * _
              grind
            · refine ⟨-1, rfl, ?_⟩
              rw [← Rat.intCast_natCast, Int.ofNat_natAbs_of_nonpos z, Rat.intCast_neg]
              show _ = (-1 : Rat) * _
              grind
          refine ⟨sg * (D2 : Int), ?_, ?_⟩
          · rw [hT2, ← h4, Rat.intCast_mul, Rat.intCast_natCast]; grind
          · rw [Int.natAbs_mul, hsg, Int.natAbs_natCast, Nat.one_mul]
            exact Nat.le_mul_of_pos_right _ hF0
        · exact ⟨0, Rat.zero_mul _, Nat.zero_le _⟩
    · have hP0 : P ≠ 0 := fun z => by
        have h3 : v * Q = 1 := by rw [z] at e; rw [← e]; grind
        have hy : v ≠ 0 := fun z => by rw [z, show (0 : Poly) * Q = 0 by grind] at h3; exact absurd h3 (by decide)
        have h4 := len_mul hy hQ0
        rw [h3, len_one] at h4
        have := len_pos.mpr hy
        omega
      have hp0 : p ≠ 0 := fun z => by
        rcases mul_eq_zero.mp (eP.symm.trans z) with z | z
        · exact hP0 z
        · exact hG0 z
      have ha0 : a ≠ 0 := len_pos.mp (by rw [hal]; exact len_pos.mpr hp0)
      have hgcG : gc a b = G := by
        refine gc_eq' hled hGa hGb (fun d da db => ?_) (.inl ha0)
        rw [hG]
        refine gc_great ?_ ?_
        · obtain ⟨x, ex⟩ := da
          exact ⟨C (1 / (D1 : Rat)) * x, by rw [show C (1 / (D1 : Rat)) * x * d = C (1 / (D1 : Rat)) * (x * d) by grind, ← ex, ea, C_cancel (by grind)]⟩
        · obtain ⟨x, ex⟩ := db
          exact ⟨C (1 / (D2 : Rat)) * x, by rw [show C (1 / (D2 : Rat)) * x * d = C (1 / (D2 : Rat)) * (x * d) by grind, ← ex, eb, C_cancel (by grind)]⟩
      have lGp := len_mul hP0 hG0
      have lGq := len_mul hQ0 hG0
      rw [← eP] at lGp
      rw [← eQ] at lGq
      have hGpos := len_pos.mpr hG0
      have hPpos := len_pos.mpr hP0
      obtain ⟨x, y, R, hR, mx, my, exy, lx, ly, hx, hy⟩ := comb_bound ha hb ha0 hb0 hled hgcG (by omega)
      obtain ⟨K, hK⟩ : ∃ K, K = b.len - G.len + (a.len - G.len) := ⟨_, rfl⟩
      rw [← hK] at hx hy
      have hK2 : K ≤ 2 * n := by omega
      have hEF : (2 * K * A + 2) ^ (K - 1) ≤ F := by
        rw [eF]
        exact Nat.le_trans (Nat.pow_le_pow_left (Nat.add_le_add_right (Nat.mul_le_mul_right _ (Nat.mul_le_mul_left _ hK2)) _) _) (Nat.pow_le_pow_right (by omega) (by omega))
      replace hx := hx.mono hEF
      replace hy := hy.mono hEF
      -- R is whole
      have hh := (hx.mul ha).mono (Nat.mul_le_mul_right _ (show x.len ≤ n by omega)) |>.add ((hy.mul hb).mono (Nat.mul_le_mul_right _ (show y.len ≤ n by omega)))
      rw [exy] at hh
      have hCG : C R * G ≠ 0 := mul_ne (C_ne hR) hG0
      obtain ⟨r, er, hr0, hr⟩ := hh.lead hCG
      have hRr : R = (r : Rat) := by
        have h3 := ld_mul (C_ne hR) hG0
        rw [hGl, ld_C] at h3
        rw [h3] at er
        rw [← er]
        show R = R * 1 * (1 : Rat)
        grind
      have hrR : (r : Rat) ≠ 0 := by rw [← hRr]; exact hR
      have e2 : (C ((D1 : Rat) / R) * x) * P + (C ((D2 : Rat) / R) * y) * Q = 1 := by
        refine mul_cancel hG0 ?_
        have h3 : x * (C (D1 : Rat) * (P * G)) + y * (C (D2 : Rat) * (Q * G)) = C R * G := by rw [← eP, ← eQ, ← ea, ← eb]; exact exy
        have h4 : C (1 / R) * (x * (C (D1 : Rat) * (P * G)) + y * (C (D2 : Rat) * (Q * G))) = G := by rw [h3, C_cancel (by grind)]
        rw [show (D1 : Rat) / R = 1 / R * (D1 : Rat) by grind, show (D2 : Rat) / R = 1 / R * (D2 : Rat) by grind, C_mul, C_mul]
        grind
      have l2 : (C ((D1 : Rat) / R) * x).len < Q.len := by
        have := len_mul_le (C ((D1 : Rat) / R)) x
        have := len_C_le ((D1 : Rat) / R)
        omega
      obtain ⟨e3, e4⟩ := bez_unique e e2 hu l2
      have key : ∀ (z : Poly) (D : Nat), 0 < D → Hn z 1 F → Hn (C ((D : Rat) / R) * z) r.natAbs (D * F) := fun z D hD hz => ⟨Int.natAbs_pos.mpr hr0, fun i => by
        obtain ⟨s, es, hs⟩ := hz.at1 i
        obtain ⟨sg, hsg, hT2⟩ : ∃ sg : Int, sg.natAbs = 1 ∧ ((r.natAbs : Nat) : Rat) = (sg : Rat) * (r : Rat) := by
          rcases Int.le_total 0 r with z | z
          · refine ⟨1, rfl, ?_⟩
            rw [← Rat.intCast_natCast, Int.natAbs_of_nonneg z]
            show _ = (1 : Rat) * _
            grind
          · refine ⟨-1, rfl, ?_⟩
            rw [← Rat.intCast_natCast, Int.ofNat_natAbs_of_nonpos z, Rat.intCast_neg]
            show _ = (-1 : Rat) * _
            grind
        refine ⟨sg * ((D : Int) * s), ?_, ?_⟩
        · rw [c_Cmul, es, hT2, hRr, Rat.intCast_mul, Rat.intCast_mul, Rat.intCast_natCast]; grind
        · rw [Int.natAbs_mul, hsg, Int.natAbs_mul, Int.natAbs_natCast, Nat.one_mul]
          exact Nat.mul_le_mul_left _ hs⟩
      refine ⟨r.natAbs, Int.natAbs_pos.mpr hr0, ?_, by rw [e3]; exact key x D1 hp.1 hx, by rw [e4]; exact key y D2 hq.1 hy⟩
      refine Nat.le_trans hr ?_
      rw [← Nat.add_mul]
      exact Nat.mul_le_mul_right _ (by omega)
  rw [eF] at hrest hcomb
  rw [hP, hQ, hG] at *
  exact ⟨eP, eQ, hcop, hQ0, ⟨L, hL, hLA, hgGh⟩, hPh, hQh, hrest, hcomb⟩
end Al
namespace Al
open Poly
theorem sgn_of (t : Int) : ∃ sg : Int, sg.natAbs = 1 ∧ ((t.natAbs : Nat) : Rat) = (sg : Rat) * (t : Rat) := by
  rcases Int.le_total 0 t with z | z
  · refine ⟨1, rfl, ?_⟩
    rw [← Rat.intCast_natCast, Int.natAbs_of_nonneg z]
    show _ = (1 : Rat) * _
    grind
  · refine ⟨-1, rfl, ?_⟩
    rw [← Rat.intCast_natCast, Int.ofNat_natAbs_of_nonpos z, Rat.intCast_neg]
    show _ = (-1 : Rat) * _
    grind
/-- one step of a division: what it takes away, and what it leaves -/
theorem step_h {p q : Poly} {D N E M T : Nat} (hq : q ≠ 0) (hh : Hn q E M) (hT : ∃ t : Int, q.ld * (E : Rat) = (t : Rat) ∧ t.natAbs = T) (h : Hn p D N) :
    Hn (mo (p.ld / q.ld) (p.len - q.len)) (D * T) (N * E) ∧ Hn (mo (p.ld / q.ld) (p.len - q.len) * q) (D * T) (N * M) := by
  obtain ⟨t, et, rfl⟩ := hT
  obtain ⟨a, ea, ha⟩ := h.2 (p.len - 1)
  have ea' : p.ld * (D : Rat) = (a : Rat) := ea
  have hD := natCast_ne h.1
  have hE := natCast_ne hh.1
  have ht0 : t ≠ 0 := by
    rintro rfl
    rcases Rat.mul_eq_zero.mp et with z | z
    · exact ld_ne hq z
    · exact hE z
  obtain ⟨sg, hsg, hT2⟩ := sgn_of t
  have htr : (t : Rat) ≠ 0 := fun z => ht0 (Rat.intCast_eq_zero_iff.mp z)
  have e1 : p.ld = (a : Rat) / (D : Rat) := by grind
  have e2 : q.ld = (t : Rat) / (E : Rat) := by grind
  have hpos : 0 < D * t.natAbs := Nat.mul_pos h.1 (Int.natAbs_pos.mpr ht0)
  refine ⟨⟨hpos, fun i => ?_⟩, ⟨hpos, fun i => ?_⟩⟩
  · rw [c_mo]
    split
    · refine ⟨a * (E : Int) * sg, ?_, ?_⟩
      · rw [Rat.natCast_mul, hT2, Rat.intCast_mul, Rat.intCast_mul, Rat.intCast_natCast, e1, e2]
        grind
      · rw [Int.natAbs_mul, hsg, Nat.mul_one, Int.natAbs_mul, Int.natAbs_natCast]
        exact Nat.mul_le_mul_right _ ha
    · exact ⟨0, Rat.zero_mul _, Nat.zero_le _⟩
  · rw [c_moMul]
    split
    · exact ⟨0, Rat.zero_mul _, Nat.zero_le _⟩
    · obtain ⟨v, ev, hv⟩ := hh.2 (i - (p.len - q.len))
      refine ⟨a * v * sg, ?_, ?_⟩
      · have e3 : q.c (i - (p.len - q.len)) = (v : Rat) / (E : Rat) := by grind
        rw [Rat.natCast_mul, hT2, Rat.intCast_mul, Rat.intCast_mul, e1, e2, e3]
        grind
      · rw [Int.natAbs_mul, hsg, Nat.mul_one, Int.natAbs_mul]
        exact Nat.mul_le_mul ha hv
end Al
namespace Al
open Poly
theorem IV.scale {f s t0 v0 t1 v1 : Poly} (h : IV f s t0 v0 t1 v1) {c : Rat} (hc : c ≠ 0) : IV f s t0 v0 (C c * t1) (C c * v1) := by
  obtain ⟨u0, u1, k, hk, e0, e1, e⟩ := h.rel
  refine ⟨⟨u0, C c * u1, c * k, fun z => ?_, e0, by rw [e1]; grind, ?_⟩, ?_, by rw [len_Cm hc]; exact h.short, by rw [len_Cm hc]; exact h.lens, h.some⟩
  · rcases Rat.mul_eq_zero.mp z with z | z
    · exact hc z
    · exact hk z
  · rw [C_mul, ← e]; grind
  · obtain ⟨x, y, q⟩ := h.cop
    refine ⟨x, y * C (1 / c), ?_⟩
    have : C (1 / c) * (C c * t1) = t1 := C_cancel (by grind) t1
    rw [show y * C (1 / c) * (C c * t1) = y * (C (1 / c) * (C c * t1)) by grind, this, q]
/-- how large a led row of the law's search is -/
theorem led_h {P Q a b g t v y : Poly} {c1 c2 : Rat} {A t0 : Nat} (hc1 : c1 ≠ 0) (hc2 : c2 ≠ 0) (ea : a = C c1 * P * g) (eb : b = C c2 * Q * g) (ha : Hn a 1 A) (hb : Hn b 1 A) (hQ : Q ≠ 0) (hg : Led g)
    (et : t = v * P + y * Q) (hcop : Cop v y) (hv : v ≠ 0) (hlen : v.len + t0 = Q.len + 1) (htl : t.len < t0) (ht : Led t)
    {m k E B : Nat} (hm : m = Q.len + 1 - t0) (hk : k = P.len + 1 - t0) (hE : E = (2 * (m + k) * A + 2) ^ (m + k - 1)) (hB : m * (E * A) + k * (E * A) ≤ B) : ∃ L, 0 < L ∧ L ≤ B ∧ Hn (g * t) L B := by
  obtain ⟨fa, hfa⟩ := Classical.skolem.mp ha.at1
  obtain ⟨fb, hfb⟩ := Classical.skolem.mp hb.at1
  have hvl := len_pos.mpr hv
  have hg0 := hg.ne
  have hgl := len_pos.mpr hg0
  have hql := len_pos.mpr hQ
  have hal : a.len ≤ P.len + g.len - 1 := by
    rw [ea, show C c1 * P * g = C c1 * (P * g) by grind, len_Cm hc1]
    exact len_mul_le P g
  have hbl : b.len + 1 = Q.len + g.len := by
    rw [eb, show C c2 * Q * g = C c2 * (Q * g) by grind, len_Cm hc2]
    exact len_mul hQ hg0
  have hal0 : P = 0 → a.len = 0 := fun z => by rw [ea, z, show C c1 * (0 : Poly) * g = 0 by grind, len_zero]
  obtain ⟨u, w, hu, hw, hne, hEu, hEw, hl⟩ := small_comb (fun i => (hfa i).1) (fun i => (hfb i).1) (fun i => (hfa i).2) (fun i => (hfb i).2) m k (t0 + g.len - 2) (m + k - 1) (by omega) (by
    by_cases z : P = 0
    · rw [hal0 z]; omega
    · have := len_pos.mpr z
      omega) (by omega)
  rw [← hE] at hEu hEw
  have hgw : g * (C c1 * u * P + C c2 * w * Q) = u * a + w * b := by rw [ea, eb]; grind
  obtain ⟨r, hr⟩ : ∃ r, r = C c1 * u * P + C c2 * w * Q := ⟨_, rfl⟩
  rw [← hr] at hgw
  have hrl : r.len < t0 := by
    by_cases z : r = 0
    · rw [z, len_zero]; omega
    · have := len_mul hg0 z
      have := len_pos.mpr z
      rw [hgw] at *
      omega
  have hxu := len_Cm (p := u) hc1
  obtain ⟨l, e1, e2, e3⟩ := same_pair et hr hcop (by have := len_mul_le r v; omega) (by have := len_mul_le t (C c1 * u); omega) hQ
  have hinv : ∀ {c : Rat}, c ≠ 0 → ∀ s : Poly, C c * s = 0 → s = 0 := fun hc s h => by
    rcases mul_eq_zero.mp h with h | h
    · exact absurd h (C_ne hc)
    · exact h
  have hx : C c1 * u ≠ 0 := fun z => by
    have hl0 : l = 0 := by
      rcases mul_eq_zero.mp (e1.symm.trans z) with h | h
      · exact h
      · exact absurd h hv
    have hu0 := hinv hc1 u z
    have hw0 := hinv hc2 w (by rw [e2, hl0]; grind)
    rcases hne with h | h
    · exact h hu0
    · exact h hw0
  obtain ⟨x, hx0, rfl⟩ := const_of_len e1 hx (by omega)
  have g1 : Hn (u * a) 1 (m * (E * A)) := (hEu.mul ha).mono (Nat.mul_le_mul_right _ hu)
  have g2 : Hn (w * b) 1 (k * (E * A)) := (hEw.mul hb).mono (Nat.mul_le_mul_right _ hw)
  have g3 := (g1.add g2).mono hB
  rw [← hgw, e3, show g * (C x * t) = C x * (g * t) by grind] at g3
  have hgt : Led (g * t) := hg.mul ht
  have hgt0 := hgt.ne
  obtain ⟨i, ei, hi0, hi⟩ := g3.lead (mul_ne (C_ne hx0) hgt0)
  have hxi : x = (i : Rat) := by
    have h3 := ld_mul (C_ne hx0) hgt0
    rw [show (g * t).ld = 1 from hgt, ld_C] at h3
    rw [h3] at ei
    rw [← ei]
    show x = x * 1 * (1 : Rat)
    grind
  obtain ⟨sg, hsg, hT2⟩ := sgn_of i
  refine ⟨i.natAbs, Int.natAbs_pos.mpr hi0, hi, Int.natAbs_pos.mpr hi0, fun j => ?_⟩
  obtain ⟨s, es, hs⟩ := g3.at1 j
  refine ⟨sg * s, ?_, by rw [Int.natAbs_mul, hsg, Nat.one_mul]; exact hs⟩
  rw [c_Cmul, hxi] at es
  rw [hT2, Rat.intCast_mul, ← es]
  grind
theorem md_mul {x y g : Poly} (hy : y ≠ 0) (hg : g ≠ 0) : dv (x * g) (y * g) = dv x y ∧ md (x * g) (y * g) = md x y * g := by
  have h1 := dv_md x y
  have h2 := md_len (p := x) hy
  refine dv_eq ?_ ?_
  · have : x * g = (dv x y * y + md x y) * g := by rw [← h1]
    rw [this]; grind
  · have h3 := len_mul hy hg
    by_cases z : md x y = 0
    · rw [z, show (0 : Poly) * g = 0 by grind, len_zero]
      exact len_pos.mpr (mul_ne hy hg)
    · have := len_mul z hg
      omega
/-- a row without its last place's number -/
def unit (p : Poly) : Poly := C (1 / p.ld) * p
theorem unit_mul {x g : Poly} (hg : Led g) : unit (x * g) = unit x * g := by
  unfold unit
  by_cases z : x = 0
  · rw [z]; grind
  · have h1 := ld_mul z hg.ne
    rw [show g.ld = 1 from hg] at h1
    rw [h1, show x.ld * 1 = x.ld by grind]
    grind
theorem unit_zero : unit 0 = 0 := by unfold unit; grind
theorem unit_led {x : Poly} (h : x ≠ 0) : Led (unit x) := led_of h
/-- where the law's search stands -/
structure Eu (P Q G one other : Poly) : Prop where
  st : ∃ t0 v0 t1 v1, one = t0 * G ∧ other = t1 * G ∧ IV (md P Q) Q t0 v0 t1 v1 ∧ (t1 = 0 ∨ Led t1) ∧ t0.len ≤ Q.len
theorem Eu.start {P Q G : Poly} (hQ : Q ≠ 0) (hc : Cop P Q) : Eu P Q G (Q * G) (unit (md P Q) * G) := by
  have hl := md_len (p := P) hQ
  have hcop : Cop Q (md P Q) := by
    obtain ⟨u, v, e⟩ := hc
    refine ⟨v + u * dv P Q, u, ?_⟩
    have h := dv_md P Q
    rw [← e]
    have : u * P = u * (dv P Q * Q + md P Q) := by rw [← h]
    grind
  have iv := IV.start hQ hcop hl
  by_cases z : md P Q = 0
  · refine ⟨Q, 0, 0, 1, rfl, by rw [z, unit_zero], ?_, .inl rfl, Nat.le_refl _⟩
    rw [z] at iv ⊢
    exact iv
  · have hld := ld_ne z
    have h1 : 1 / (md P Q).ld ≠ 0 := by grind
    exact ⟨Q, 0, _, _, rfl, rfl, iv.scale h1, .inr (unit_led z), Nat.le_refl _⟩
theorem Eu.next {P Q G one other : Poly} (h : Eu P Q G one other) (hG : Led G) (ho : other ≠ 0) : Eu P Q G other (unit (md one other)) ∧ (md one other).len < other.len := by
  obtain ⟨t0, v0, t1, v1, e0, e1, iv, ht, hle⟩ := h
  have h1 : t1 ≠ 0 := fun z => ho (by rw [e1, z]; grind)
  have hm := md_mul (x := t0) h1 hG.ne
  have hl := md_len (p := t0) h1
  have iv2 := iv.next (c := 1) (W := dv t0 t1) (t2 := md t0 t1) (v2 := v0 - dv t0 t1 * v1) (by decide) (by
    have := dv_md t0 t1
    rw [show C 1 = 1 from rfl]
    grind) (by rw [show C 1 = 1 from rfl]; grind) hl
  refine ⟨?_, md_len ho⟩
  rw [e0, e1, hm.2, unit_mul hG]
  by_cases z : md t0 t1 = 0
  · refine ⟨t1, v1, 0, v0 - dv t0 t1 * v1, rfl, by rw [z, unit_zero], ?_, .inl rfl, by have := iv.short; omega⟩
    rw [z] at iv2
    exact iv2
  · have hld := ld_ne z
    have h2 : 1 / (md t0 t1).ld ≠ 0 := by grind
    exact ⟨t1, v1, _, _, rfl, rfl, iv2.scale h2, .inr (unit_led z), by have := iv.short; omega⟩
theorem Eu.out {P Q G one : Poly} (h : Eu P Q G one 0) (hG : Led G) : unit one = G := by
  obtain ⟨t0, v0, t1, v1, e0, e1, iv, ht, hle⟩ := h
  have h1 : t1 = 0 := by
    rcases mul_eq_zero.mp e1.symm with z | z
    · exact z
    · exact absurd z hG.ne
  obtain ⟨x, y, e⟩ := iv.cop
  rw [h1] at e
  have e' : x * t0 = 1 := by rw [← e]; grind
  have hx : x ≠ 0 := fun z => by rw [z, show (0 : Poly) * t0 = 0 by grind] at e'; exact absurd e' (by decide)
  have ht0 : t0 ≠ 0 := fun z => by rw [z, show x * (0 : Poly) = 0 by grind] at e'; exact absurd e' (by decide)
  have h2 := len_mul hx ht0
  rw [e', len_one] at h2
  have := len_pos.mpr hx
  have := len_pos.mpr ht0
  have h3 := len_one_iff.mp (show t0.len ≤ 1 by omega)
  have h4 : t0.c 0 ≠ 0 := fun z => ht0 (by rw [h3, z]; rfl)
  rw [e0, unit_mul hG, h3]
  have : unit (C (t0.c 0)) = 1 := by
    unfold unit
    rw [ld_C, ← C_mul, show 1 / t0.c 0 * t0.c 0 = 1 by grind]; rfl
  rw [this]; grind
/-- the places of the pair, and how large the second is -/
theorem Eu.size {P Q G one other a b : Poly} {c1 c2 : Rat} {A : Nat} (h : Eu P Q G one other) (hc1 : c1 ≠ 0) (hc2 : c2 ≠ 0) (ea : a = C c1 * P * G) (eb : b = C c2 * Q * G) (ha : Hn a 1 A) (hb : Hn b 1 A) (hQ : Q ≠ 0) (hG : Led G) (ho : other ≠ 0) :
    ∃ t0 j, one.len + 1 = t0 + G.len ∧ other.len < one.len ∧ G.len ≤ other.len ∧ 1 ≤ j ∧ t0 ≤ Q.len ∧ j ≤ (Q.len + 1 - t0) + (P.len + 1 - t0) ∧ ∃ L, 0 < L ∧ L ≤ j * ((2 * j * A + 2) ^ (j - 1) * A) ∧ Hn other L (j * ((2 * j * A + 2) ^ (j - 1) * A)) := by
  obtain ⟨t0, v0, t1, v1, e0, e1, iv, ht, hle⟩ := h
  have h1 : t1 ≠ 0 := fun z => ho (by rw [e1, z]; grind)
  have hled : Led t1 := ht.resolve_left h1
  have hlens := iv.lens
  have hshort := iv.short
  have ht0 : t0 ≠ 0 := fun z => by rw [z, len_zero] at hshort; omega
  have l0 := len_mul ht0 hG.ne
  have l1 := len_mul h1 hG.ne
  have p1 := len_pos.mpr h1
  have pG := len_pos.mpr hG.ne
  rw [← e0] at l0
  rw [← e1] at l1
  have hv1 : v1 ≠ 0 := fun z => by
    rw [z, len_zero] at hlens
    omega
  have pv := len_pos.mpr hv1
  obtain ⟨u0, u1, k, hk, q0, q1, q⟩ := iv.rel
  have et : t1 = v1 * P + (u1 - v1 * dv P Q) * Q := by
    have := dv_md P Q
    rw [q1]
    have h5 : v1 * md P Q = v1 * P - v1 * dv P Q * Q := by
      have h6 : md P Q = P - dv P Q * Q := by grind
      rw [h6]; grind
    rw [h5]; grind
  have hcop : Cop v1 (u1 - v1 * dv P Q) := by
    have hkk : C (1 / k) * C k = 1 := by rw [← C_mul, show 1 / k * k = 1 by grind]; rfl
    refine ⟨C (1 / k) * u0 - C (1 / k) * v0 * dv P Q, -(C (1 / k) * v0), ?_⟩
    rw [← hkk, ← q]; grind
  have hB := led_h hc1 hc2 ea eb ha hb hQ hG et hcop hv1 hlens hshort hled rfl rfl rfl (Nat.le_of_eq (by rw [← Nat.add_mul]))
  refine ⟨t0.len, Q.len + 1 - t0.len + (P.len + 1 - t0.len), l0, by omega, by omega, ?_, by omega, Nat.le_refl _, ?_⟩
  · omega
  · rw [e1, show t1 * G = G * t1 by grind]
    exact hB
theorem led_one : Led (1 : Poly) := by
  show (1 : Poly).ld = 1
  unfold ld
  rw [len_one]
  rfl
theorem led_pow {f : Poly} (h : Led f) : ∀ n : Nat, Led (f ^ n)
  | 0 => led_one
  | n + 1 => (led_pow h n).mul h
end Al
namespace Al
open Poly
/-! ### rows that nothing but numbers and themselves divides -/
def Irr (h : Poly) : Prop := 1 < h.len ∧ ∀ d, Dvd d h → d.len ≤ 1 ∨ d.len = h.len
theorem Irr.ne {h : Poly} (i : Irr h) : h ≠ 0 := fun z => by have := i.1; rw [z, len_zero] at this; omega
theorem len_pow_C {a : Poly} (h : a.len ≤ 1) : a = C (a.c 0) := len_one_iff.mp h
theorem Irr.or {h : Poly} (i : Irr h) (q : Poly) : Dvd h q ∨ Cop h q := by
  have hl := gc_led (p := h) (q := q) (.inl i.ne)
  have hd := gc_left h q
  rcases i.2 _ hd with k | k
  · right
    have e := len_one_iff.mp k
    have : (gc h q).c 0 = 1 := by
      have h1 : (gc h q).ld = 1 := hl
      rw [e, ld_C] at h1
      exact h1
    rw [this] at e
    exact cop_gc.mpr e
  · left
    obtain ⟨w, ew⟩ := hd
    have hw : w ≠ 0 := fun z => i.ne (by rw [ew, z]; grind)
    have h2 := len_mul hw hl.ne
    rw [← ew] at h2
    have h3 := len_pos.mpr hw
    have h4 := len_one_iff.mp (show w.len ≤ 1 by omega)
    have h5 : w.c 0 ≠ 0 := fun z => hw (by rw [h4, z]; rfl)
    have h6 : gc h q = C (1 / w.c 0) * h := by
      generalize gc h q = G at *
      rw [ew]
      conv => rhs; rw [h4]
      rw [c_C, if_pos rfl, C_cancel (by grind)]
    obtain ⟨x, ex⟩ := gc_right h q
    exact ⟨x * C (1 / w.c 0), by rw [ex]; conv => lhs; rw [h6]
                                 grind⟩
theorem Irr.dvd_mul {h a b : Poly} (i : Irr h) (d : Dvd h (a * b)) : Dvd h a ∨ Dvd h b := by
  rcases i.or a with k | k
  · exact .inl k
  · exact .inr (k.dvd_mul d)
theorem irr_ex : ∀ n, ∀ p : Poly, p.len ≤ n → 1 < p.len → ∃ h, Irr h ∧ Dvd h p := by
  intro n
  induction n with
  | zero => intro p hn h1; omega
  | succ n ih =>
    intro p hn h1
    by_cases hp : Irr p
    · exact ⟨p, hp, .refl p⟩
    · have : ∃ d, Dvd d p ∧ 1 < d.len ∧ d.len ≠ p.len := by
        refine Classical.byContradiction fun hc => hp ⟨h1, fun d hd => ?_⟩
        rcases Nat.lt_or_ge 1 d.len with k | k
        · right
          exact Classical.byContradiction fun z => hc ⟨d, hd, k, z⟩
        · exact .inl k
      obtain ⟨d, hd, k1, k2⟩ := this
      have hp0 : p ≠ 0 := fun z => by rw [z, len_zero] at h1; omega
      have := hd.len hp0
      obtain ⟨h, i, hh⟩ := ih d (by omega) k1
      exact ⟨h, i, hh.trans hd⟩
theorem pow_zero' (p : Poly) : p ^ 0 = 1 := rfl
theorem pow_succ' (p : Poly) (n : Nat) : p ^ (n + 1) = p ^ n * p := rfl
theorem pow_ne {p : Poly} (hp : p ≠ 0) : ∀ n : Nat, p ^ n ≠ 0
  | 0 => fun z => absurd (show (1 : Poly) = 0 from z) (by decide)
  | n + 1 => mul_ne (pow_ne hp n) hp
/-- how often h divides a -/
def Mu (h a : Poly) (e : Nat) : Prop := ∃ u, a = h ^ e * u ∧ ¬ Dvd h u
theorem mu_ex {h : Poly} (i : Irr h) : ∀ n, ∀ a : Poly, a.len ≤ n → a ≠ 0 → ∃ e, Mu h a e := by
  intro n
  induction n with
  | zero => intro a hn h0; exact absurd (len_eq_zero.mp (by omega)) h0
  | succ n ih =>
    intro a hn h0
    by_cases d : Dvd h a
    · obtain ⟨w, e⟩ := d
      have hw : w ≠ 0 := fun z => h0 (by rw [e, z]; grind)
      have h1 := len_mul hw i.ne
      rw [← e] at h1
      have := i.1
      obtain ⟨k, u, e1, e2⟩ := ih w (by omega) hw
      exact ⟨k + 1, u, by rw [e, e1, pow_succ']; grind, e2⟩
    · exact ⟨0, a, by rw [pow_zero']; grind, d⟩
theorem mu_le {h a : Poly} (i : Irr h) {e f : Nat} (x : Mu h a e) (d : Dvd (h ^ f) a) (ha : a ≠ 0) : f ≤ e := by
  obtain ⟨u, e1, e2⟩ := x
  obtain ⟨w, e3⟩ := d
  refine Decidable.byContradiction fun hc => e2 ?_
  obtain ⟨k, rfl⟩ : ∃ k, f = e + (k + 1) := ⟨f - e - 1, by omega⟩
  have hp : ∀ m n : Nat, h ^ (m + n) = h ^ m * h ^ n := by
    intro m n
    induction n with
    | zero => rw [Nat.add_zero, pow_zero']; grind
    | succ n ih => rw [← Nat.add_assoc, pow_succ', ih, pow_succ']; grind
  rw [e1, hp, pow_succ'] at e3
  have e4 : h ^ e * u = h ^ e * (w * h ^ k * h) := by rw [e3]; grind
  have := mul_cancel (pow_ne i.ne e) e4
  exact ⟨w * h ^ k, this⟩
theorem Mu.dvd {h a : Poly} {e : Nat} (x : Mu h a e) : Dvd (h ^ e) a := by
  obtain ⟨u, e1, _⟩ := x
  exact ⟨u, by rw [e1]; grind⟩
theorem mu_uniq {h a : Poly} (i : Irr h) {e f : Nat} (x : Mu h a e) (y : Mu h a f) (ha : a ≠ 0) : e = f :=
  Nat.le_antisymm (mu_le i y x.dvd ha) (mu_le i x y.dvd ha)
open Classical in
noncomputable def mu (h a : Poly) : Nat := if x : ∃ e, Mu h a e then x.choose else 0
theorem mu_spec {h a : Poly} (i : Irr h) (ha : a ≠ 0) : Mu h a (mu h a) := by
  have x := mu_ex i _ a (Nat.le_refl _) ha
  unfold mu
  rw [dif_pos x]
  exact x.choose_spec
theorem mu_eq {h a : Poly} {e : Nat} (i : Irr h) (ha : a ≠ 0) (x : Mu h a e) : mu h a = e := mu_uniq i (mu_spec i ha) x ha
theorem pow_dvd {h a : Poly} (i : Irr h) (ha : a ≠ 0) {f : Nat} : Dvd (h ^ f) a ↔ f ≤ mu h a := by
  constructor
  · exact fun d => mu_le i (mu_spec i ha) d ha
  · intro hf
    have d := (mu_spec i ha).dvd
    refine Dvd.trans ?_ d
    obtain ⟨k, e⟩ : ∃ k, mu h a = f + k := ⟨mu h a - f, by omega⟩
    rw [e]
    clear e hf d
    induction k with
    | zero => exact .refl _
    | succ k ih =>
      rw [← Nat.add_assoc, pow_succ']
      exact ih.mul' h
theorem mu_pos {h a : Poly} (i : Irr h) (ha : a ≠ 0) : 0 < mu h a ↔ Dvd h a := by
  have h1 : h ^ 1 = h := by rw [pow_succ', pow_zero']; grind
  have := pow_dvd i ha (f := 1)
  rw [h1] at this
  exact ⟨fun h => this.mpr h, fun h => this.mp h⟩
theorem mu_mul {h a b : Poly} (i : Irr h) (ha : a ≠ 0) (hb : b ≠ 0) : mu h (a * b) = mu h a + mu h b := by
  obtain ⟨u, e1, n1⟩ := mu_spec i ha
  obtain ⟨v, e2, n2⟩ := mu_spec i hb
  refine mu_eq i (mul_ne ha hb) ⟨u * v, ?_, fun d => ?_⟩
  · have hp : ∀ m n : Nat, h ^ (m + n) = h ^ m * h ^ n := by
      intro m n
      induction n with
      | zero => rw [Nat.add_zero, pow_zero']; grind
      | succ n ih => rw [← Nat.add_assoc, pow_succ', ih, pow_succ']; grind
    rw [hp]
    conv => lhs; rw [e1, e2]
    grind
  · rcases i.dvd_mul d with k | k
    · exact n1 k
    · exact n2 k
theorem mu_C {h : Poly} (i : Irr h) {c : Rat} (hc : c ≠ 0) : mu h (C c) = 0 := by
  refine mu_eq i (C_ne hc) ⟨C c, by rw [pow_zero']; grind, fun d => ?_⟩
  have := d.len (C_ne hc)
  rw [len_C hc] at this
  have := i.1
  omega
theorem mu_one {h : Poly} (i : Irr h) : mu h 1 = 0 := mu_C i (c := 1) (by decide)
theorem mu_pow {h a : Poly} (i : Irr h) (ha : a ≠ 0) : ∀ n : Nat, mu h (a ^ n) = n * mu h a
  | 0 => by rw [pow_zero', mu_one i]; omega
  | n + 1 => by rw [pow_succ', mu_mul i (pow_ne ha n) ha, mu_pow i ha n, Nat.succ_mul]
theorem mu_dvd {h a b : Poly} (i : Irr h) (d : Dvd a b) (hb : b ≠ 0) : mu h a ≤ mu h b := by
  obtain ⟨w, e⟩ := d
  have hw : w ≠ 0 := fun z => hb (by rw [e, z]; grind)
  have ha : a ≠ 0 := fun z => hb (by rw [e, z]; grind)
  rw [e, mu_mul i hw ha]
  omega
theorem dvd_of_mu : ∀ n, ∀ a b : Poly, a.len ≤ n → a ≠ 0 → b ≠ 0 → (∀ h, Irr h → mu h a ≤ mu h b) → Dvd a b := by
  intro n
  induction n with
  | zero => intro a b hn ha; exact absurd (len_eq_zero.mp (by omega)) ha
  | succ n ih =>
    intro a b hn ha hb hm
    by_cases h1 : a.len ≤ 1
    · have e := len_one_iff.mp h1
      have : a.c 0 ≠ 0 := fun z => ha (by rw [e, z]; rfl)
      rw [e]
      exact dvd_C this b
    · obtain ⟨h, i, hd⟩ := irr_ex _ a (Nat.le_refl _) (by omega)
      have hdb : Dvd h b := (mu_pos i hb).mp (Nat.lt_of_lt_of_le ((mu_pos i ha).mpr hd) (hm h i))
      obtain ⟨a', ea⟩ := hd
      obtain ⟨b', eb⟩ := hdb
      have ha' : a' ≠ 0 := fun z => ha (by rw [ea, z]; grind)
      have hb' : b' ≠ 0 := fun z => hb (by rw [eb, z]; grind)
      have hl := len_mul ha' i.ne
      rw [← ea] at hl
      have := i.1
      obtain ⟨w, ew⟩ := ih a' b' (by omega) ha' hb' (fun k j => by
        have := hm k j
        rw [ea, eb, mu_mul j ha' i.ne, mu_mul j hb' i.ne] at this
        omega)
      exact ⟨w, by rw [eb, ea, ew]; grind⟩
theorem mu_gc {h a b : Poly} (i : Irr h) (ha : a ≠ 0) (hb : b ≠ 0) : mu h (gc a b) = min (mu h a) (mu h b) := by
  have hg := (gc_led (p := a) (q := b) (.inl ha)).ne
  have h1 := mu_dvd i (gc_left a b) ha
  have h2 := mu_dvd i (gc_right a b) hb
  have h3 : min (mu h a) (mu h b) ≤ mu h (gc a b) := (pow_dvd i hg).mp (gc_great ((pow_dvd i ha).mpr (Nat.min_le_left _ _)) ((pow_dvd i hb).mpr (Nat.min_le_right _ _)))
  omega
theorem eq_of_mu {a b : Poly} (ha : Led a) (hb : Led b) (hm : ∀ h, Irr h → mu h a = mu h b) : a = b :=
  ha.unique hb (dvd_of_mu _ a b (Nat.le_refl _) ha.ne hb.ne fun h i => Nat.le_of_eq (hm h i)) (dvd_of_mu _ b a (Nat.le_refl _) hb.ne ha.ne fun h i => Nat.le_of_eq (hm h i).symm)
theorem one_of_mu {a : Poly} (ha : a ≠ 0) (hm : ∀ h, Irr h → mu h a = 0) : a.len ≤ 1 := by
  refine Decidable.byContradiction fun hc => ?_
  obtain ⟨h, i, hd⟩ := irr_ex _ a (Nat.le_refl _) (by omega)
  have := (mu_pos i ha).mpr hd
  rw [hm h i] at this
  omega
theorem cop_of_mu {a b : Poly} (ha : a ≠ 0) (hb : b ≠ 0) (hm : ∀ h, Irr h → mu h a = 0 ∨ mu h b = 0) : Cop a b := by
  have hl := gc_led (p := a) (q := b) (.inl ha)
  have h1 := one_of_mu hl.ne (fun h i => by
    rw [mu_gc i ha hb]
    rcases hm h i with k | k <;> omega)
  have e := len_one_iff.mp h1
  have h2 : (gc a b).c 0 = 1 := by
    have h3 : (gc a b).ld = 1 := hl
    rw [e, ld_C] at h3
    exact h3
  rw [h2] at e
  exact cop_gc.mpr e
theorem mu_of_cop {a b h : Poly} (i : Irr h) (ha : a ≠ 0) (hb : b ≠ 0) (c : Cop a b) : mu h a = 0 ∨ mu h b = 0 := by
  have := mu_gc i ha hb
  rw [cop_gc.mp c, mu_one i] at this
  omega
/-! ### rates -/
theorem dr_add (p q : Poly) : dr (p + q) = dr p + dr q := Poly.ext fun i => by rw [c_dr, c_add, c_add, c_dr, c_dr]; grind
theorem dr_Cmul (a : Rat) (p : Poly) : dr (C a * p) = C a * dr p := Poly.ext fun i => by rw [c_dr, c_Cmul, c_Cmul, c_dr]; grind
theorem dr_C (a : Rat) : dr (C a) = 0 := Poly.ext fun i => by
  rw [c_dr, c_C, if_neg (by omega), c_zero]; grind
theorem dr_X (p : Poly) : dr (X * p) = p + X * dr p := Poly.ext fun i => by
  rw [c_dr, c_Xmul, c_add]
  cases i with
  | zero =>
    rw [c_Xmul0]
    show ((0 + 1 : Nat) : Rat) * p.c 0 = _
    rw [show ((0 + 1 : Nat) : Rat) = 1 from rfl]
    grind
  | succ i =>
    rw [c_Xmul, c_dr, show ((i + 1 + 1 : Nat) : Rat) = ((i + 1 : Nat) : Rat) + 1 by rw [Rat.natCast_add (i + 1) 1]; rfl]
    grind
theorem dr_mul (p q : Poly) : dr (p * q) = dr p * q + p * dr q := by
  refine ind_cons (P := fun p => dr (p * q) = dr p * q + p * dr q) ?_ (fun a p ih => ?_) p
  · rw [show (0 : Poly) * q = 0 by grind, show dr (0 : Poly) = 0 from dr_C 0]; grind
  · have e : (C a + X * p) * q = C a * q + X * (p * q) := by grind
    rw [e, dr_add, dr_Cmul, dr_X, ih, dr_add, dr_C, dr_X]
    grind
theorem dr_pow (p : Poly) : ∀ n : Nat, dr (p ^ (n + 1)) = C ((n + 1 : Nat) : Rat) * (p ^ n * dr p)
  | 0 => by rw [pow_succ', pow_zero', show (1 : Poly) * p = p by grind, show C ((0 + 1 : Nat) : Rat) = 1 from rfl]; grind
  | n + 1 => by
    rw [pow_succ', dr_mul, dr_pow p n]
    have : C ((n + 1 + 1 : Nat) : Rat) = C ((n + 1 : Nat) : Rat) + 1 := by
      rw [Rat.natCast_add (n + 1) 1, C_add]; rfl
    rw [this, pow_succ' p n]
    grind
theorem dr_ne {p : Poly} (h : 1 < p.len) : dr p ≠ 0 := len_pos.mp (by rw [dr_len]; omega)
theorem mu_dr {h a : Poly} (i : Irr h) (ha : a ≠ 0) {e : Nat} (he : mu h a = e + 1) : dr a ≠ 0 ∧ mu h (dr a) = e := by
  obtain ⟨u, e1, n1⟩ := mu_spec i ha
  rw [he] at e1
  have e2 : dr a = h ^ e * (C ((e + 1 : Nat) : Rat) * (dr h * u) + h * dr u) := by
    conv => lhs; rw [e1]
    rw [dr_mul, dr_pow, pow_succ']
    grind
  have n2 : ¬ Dvd h (C ((e + 1 : Nat) : Rat) * (dr h * u) + h * dr u) := fun d => by
    have d2 : Dvd h (C ((e + 1 : Nat) : Rat) * (dr h * u)) := by
      have := d.sub (show Dvd h (h * dr u) from ⟨dr u, by grind⟩)
      rw [show C ((e + 1 : Nat) : Rat) * (dr h * u) + h * dr u - h * dr u = C ((e + 1 : Nat) : Rat) * (dr h * u) by grind] at this
      exact this
    have hc := natCast_ne (show 0 < e + 1 by omega)
    have d3 : Dvd h (dr h * u) := by
      obtain ⟨w, ew⟩ := d2
      exact ⟨C (1 / ((e + 1 : Nat) : Rat)) * w, by rw [← C_cancel (show 1 / ((e + 1 : Nat) : Rat) * ((e + 1 : Nat) : Rat) = 1 by grind) (dr h * u), ew]; grind⟩
    rcases i.dvd_mul d3 with k | k
    · have := k.len (dr_ne i.1)
      rw [dr_len] at this
      have := i.1
      omega
    · exact n1 k
  have hne : dr a ≠ 0 := by
    rw [e2]
    refine mul_ne (pow_ne i.ne e) fun z => n2 ?_
    rw [z]
    exact Dvd.zero h
  exact ⟨hne, mu_eq i hne ⟨_, e2, n2⟩⟩
/-- what a row shares with its rate -/
theorem mu_gc_dr {h a : Poly} (i : Irr h) (ha : a ≠ 0) : mu h (gc a (dr a)) = mu h a - 1 := by
  by_cases z : dr a = 0
  · have hl : a.len ≤ 1 := Decidable.byContradiction fun hc => dr_ne (by omega) z
    have e := len_one_iff.mp hl
    have h0 : a.c 0 ≠ 0 := fun y => ha (by rw [e, y]; rfl)
    have h1 : mu h a = 0 := by rw [e]; exact mu_C i h0
    have h2 := mu_dvd i (gc_left a (dr a)) ha
    omega
  · cases q : mu h a with
    | zero =>
      have h2 := mu_dvd i (gc_left a (dr a)) ha
      omega
    | succ e =>
      rw [mu_gc i ha z, q, (mu_dr i ha q).2]
      omega
theorem mu_dv {h a b : Poly} (i : Irr h) (d : Dvd b a) (ha : a ≠ 0) : dv a b ≠ 0 ∧ a = dv a b * b ∧ mu h (dv a b) = mu h a - mu h b := by
  have hb : b ≠ 0 := d.ne ha
  have e := dv_md a b
  rw [(md_zero hb).mpr d] at e
  have e' : a = dv a b * b := by
    conv => lhs; rw [e]
    grind
  have hd : dv a b ≠ 0 := fun z => ha (by rw [e', z]; grind)
  refine ⟨hd, e', ?_⟩
  have := mu_mul i hd hb
  rw [← e'] at this
  omega
theorem mu_unit {h a : Poly} (i : Irr h) (ha : a ≠ 0) : mu h (unit a) = mu h a := by
  have hld := ld_ne ha
  have hc : 1 / a.ld ≠ 0 := by grind
  unfold unit
  rw [mu_mul i (C_ne hc) ha, mu_C i hc]
  omega
/-- a row that shares nothing with its rate -/
theorem free_of_mu {a : Poly} (hl : 1 < a.len) (hm : ∀ h, Irr h → mu h a ≤ 1) : Cop a (dr a) := by
  have ha : a ≠ 0 := fun z => by rw [z, len_zero] at hl; omega
  refine cop_of_mu ha (dr_ne hl) fun h i => ?_
  have h1 := hm h i
  have h2 := mu_gc_dr i ha
  rw [mu_gc i ha (dr_ne hl)] at h2
  omega
end Al
namespace Al
open Poly
theorem ld_of_mul {a b c : Poly} (e : a = b * c) (ha : Led a) (hc : Led c) : Led b := by
  have hb : b ≠ 0 := fun z => ha.ne (by rw [e, z]; grind)
  have h := ld_mul hb hc.ne
  rw [← e, show a.ld = 1 from ha, show c.ld = 1 from hc] at h
  show b.ld = 1
  grind
/-- where the search for parts by their powers stands -/
structure PI (F : Poly) (k : Nat) (P G : Poly) (L : List (Poly × Nat)) : Prop where
  some : F ≠ 0
  pos : 1 ≤ k
  ledP : Led P
  ledG : Led G
  muP : ∀ h, Irr h → mu h P = if k ≤ mu h F then 1 else 0
  muG : ∀ h, Irr h → mu h G = mu h F - k
  each : ∀ x ∈ L, Led x.1 ∧ 1 < x.1.len ∧ 1 ≤ x.2 ∧ x.2 < k ∧ ∀ h, Irr h → mu h x.1 = if mu h F = x.2 then 1 else 0
  sorted : L.Pairwise fun x y => x.2 < y.2
  all : ∀ h, Irr h → 1 ≤ mu h F → mu h F < k → ∃ x ∈ L, x.2 = mu h F
/-- a row's parts by their powers -/
structure PF (F : Poly) (L : List (Poly × Nat)) : Prop where
  each : ∀ x ∈ L, Led x.1 ∧ 1 < x.1.len ∧ 1 ≤ x.2 ∧ ∀ h, Irr h → mu h x.1 = if mu h F = x.2 then 1 else 0
  sorted : L.Pairwise fun x y => x.2 < y.2
  all : ∀ h, Irr h → 1 ≤ mu h F → ∃ x ∈ L, x.2 = mu h F
theorem PI.start {F : Poly} (hF : F ≠ 0) : PI F 1 (dv (unit F) (gc F (dr F))) (gc F (dr F)) [] := by
  have hu : Led (unit F) := unit_led hF
  have hG := gc_led (p := F) (q := dr F) (.inl hF)
  have hd : Dvd (gc F (dr F)) (unit F) := by
    obtain ⟨w, e⟩ := gc_left F (dr F)
    exact ⟨C (1 / F.ld) * w, by unfold unit; conv => lhs; rw [e]
                                grind⟩
  refine ⟨hF, Nat.le_refl _, ?_, hG, fun h i => ?_, fun h i => mu_gc_dr i hF, fun x hx => by simp at hx, .nil, fun h i h1 h2 => by omega⟩
  · have e := dv_md (unit F) (gc F (dr F))
    rw [(md_zero hG.ne).mpr hd] at e
    exact ld_of_mul (c := gc F (dr F)) (by conv => lhs; rw [e]
                                           grind) hu hG
  · rw [(mu_dv i hd hu.ne).2.2, mu_unit i hF, mu_gc_dr i hF]
    split <;> omega
theorem PI.next {F P G : Poly} {k : Nat} {L : List (Poly × Nat)} (x : PI F k P G L) (hl : 1 < P.len) :
    PI F (k + 1) (gc P G) (dv G (gc P G)) (if 1 < (dv P (gc P G)).len then L ++ [(dv P (gc P G), k)] else L) ∧ (gc P G).len + (dv G (gc P G)).len < P.len + G.len := by
  have hP := x.ledP.ne
  have hGn := x.ledG.ne
  have hB := gc_led (p := P) (q := G) (.inl hP)
  have dP := gc_left P G
  have dG := gc_right P G
  have muB : ∀ h, Irr h → mu h (gc P G) = if k + 1 ≤ mu h F then 1 else 0 := fun h i => by
    rw [mu_gc i hP hGn, x.muP h i, x.muG h i]
    split <;> split <;> omega
  have muA : ∀ h, Irr h → mu h (dv P (gc P G)) = if mu h F = k then 1 else 0 := fun h i => by
    rw [(mu_dv i dP hP).2.2, muB h i, x.muP h i]
    split <;> split <;> split <;> omega
  have ledA : Led (dv P (gc P G)) := by
    have e := dv_md P (gc P G)
    rw [(md_zero hB.ne).mpr dP] at e
    exact ld_of_mul (c := gc P G) (by conv => lhs; rw [e]
                                      grind) x.ledP hB
  have eG : G = dv G (gc P G) * gc P G := by
    have e := dv_md G (gc P G)
    rw [(md_zero hB.ne).mpr dG] at e
    conv => lhs; rw [e]
    grind
  have ledG' : Led (dv G (gc P G)) := ld_of_mul eG x.ledG hB
  refine ⟨⟨x.some, by omega, hB, ledG', muB, fun h i => ?_, fun y hy => ?_, ?_, fun h i h1 h2 => ?_⟩, ?_⟩
  · rw [(mu_dv i dG hGn).2.2, muB h i, x.muG h i]
    split <;> omega
  · split at hy
    · rename_i hA
      rcases List.mem_append.mp hy with h | h
      · obtain ⟨a, b, c, d, e⟩ := x.each y h
        exact ⟨a, b, c, by omega, e⟩
      · rw [List.mem_singleton] at h
        rw [h]
        exact ⟨ledA, hA, x.pos, by show k < k + 1; omega, muA⟩
    · obtain ⟨a, b, c, d, e⟩ := x.each y hy
      exact ⟨a, b, c, by omega, e⟩
  · split
    · refine List.pairwise_append.mpr ⟨x.sorted, List.pairwise_singleton _ _, fun a ha b hb => ?_⟩
      rw [List.mem_singleton] at hb
      rw [hb]
      exact (x.each a ha).2.2.2.1
    · exact x.sorted
  · by_cases hk : mu h F = k
    · have hA : 1 < (dv P (gc P G)).len := by
        have h3 := muA h i
        rw [if_pos hk] at h3
        have hd := (mu_pos i ledA.ne).mp (by omega)
        have := hd.len ledA.ne
        have := i.1
        omega
      rw [if_pos hA]
      exact ⟨_, List.mem_append_right _ (List.mem_singleton.mpr rfl), hk.symm⟩
    · obtain ⟨y, hy, e⟩ := x.all h i h1 (by omega)
      refine ⟨y, ?_, e⟩
      split
      · exact List.mem_append_left _ hy
      · exact hy
  · have l1 := dP.len hP
    have hG'n := ledG'.ne
    have l2 := len_mul hG'n hB.ne
    rw [← eG] at l2
    have l3 := len_pos.mpr hB.ne
    have l4 := len_pos.mpr hG'n
    rcases Nat.lt_or_ge 1 (gc P G).len with c | c <;> omega
theorem PI.out {F P G : Poly} {k : Nat} {L : List (Poly × Nat)} (x : PI F k P G L) (hl : P.len ≤ 1) : PF F L := by
  refine ⟨fun y hy => ?_, x.sorted, fun h i h1 => ?_⟩
  · obtain ⟨a, b, c, _, e⟩ := x.each y hy
    exact ⟨a, b, c, e⟩
  · refine x.all h i h1 (Decidable.byContradiction fun hc => ?_)
    have h2 := x.muP h i
    rw [if_pos (by omega)] at h2
    have hd := (mu_pos i x.ledP.ne).mp (by omega)
    have := hd.len x.ledP.ne
    have := i.1
    omega
theorem PI.dvds {F P G : Poly} {k : Nat} {L : List (Poly × Nat)} (x : PI F k P G L) : Dvd P F ∧ Dvd G F := by
  refine ⟨dvd_of_mu _ _ _ (Nat.le_refl _) x.ledP.ne x.some fun h i => ?_, dvd_of_mu _ _ _ (Nat.le_refl _) x.ledG.ne x.some fun h i => ?_⟩
  · rw [x.muP h i]
    have := x.pos
    split <;> omega
  · rw [x.muG h i]; omega
theorem PF.dvd {F : Poly} {L : List (Poly × Nat)} (x : PF F L) (hF : F ≠ 0) {y : Poly × Nat} (hy : y ∈ L) : Dvd y.1 F := by
  obtain ⟨a, b, c, e⟩ := x.each y hy
  refine dvd_of_mu _ _ _ (Nat.le_refl _) a.ne hF fun h i => ?_
  rw [e h i]
  split <;> omega
end Al
namespace Br
open PySem PySem.Spec PyProof.Rows L2 Pu

def lowS (a b : Int) : Int := if b < 0 then -((Nat.gcd a.natAbs b.natAbs : Nat) : Int) else ((Nat.gcd a.natAbs b.natAbs : Nat) : Int)
def lowT (a b : Int) : Int × Int := (a.fdiv (lowS a b), b.fdiv (lowS a b))
def frD (q : Int × Int) : PyData := .tuple [.int q.1, .int q.2]
def M31 : Int := 2147483647
/-- a fraction: lowest terms, the bottom from 1 on -/
def IsFr (q : Int × Int) : Prop := 0 < q.2 ∧ Nat.gcd q.1.natAbs q.2.natAbs = 1
theorem lowS_ne {a b : Int} (hb : b ≠ 0) : lowS a b ≠ 0 := by
  have hg0 : (Nat.gcd a.natAbs b.natAbs) ≠ 0 := fun h => hb (Int.natAbs_eq_zero.mp (Nat.eq_zero_of_gcd_eq_zero_right h))
  unfold lowS
  split <;> omega
theorem lowS_abs {a b : Int} : (lowS a b).natAbs = Nat.gcd a.natAbs b.natAbs := by
  unfold lowS
  split <;> omega
theorem lowT_eq {a b : Int} (hb : b ≠ 0) : (lowT a b).1 * lowS a b = a ∧ (lowT a b).2 * lowS a b = b := by
  have h1 : lowS a b ∣ a := by
    apply Int.natAbs_dvd_natAbs.mp
    rw [lowS_abs]
    exact Nat.gcd_dvd_left _ _
  have h2 : lowS a b ∣ b := by
    apply Int.natAbs_dvd_natAbs.mp
    rw [lowS_abs]
    exact Nat.gcd_dvd_right _ _
  unfold lowT
  exact ⟨Int.fdiv_mul_cancel h1, Int.fdiv_mul_cancel h2⟩
theorem lowT_isFr {a b : Int} (hb : b ≠ 0) : IsFr (lowT a b) := by
  obtain ⟨e1, e2⟩ := lowT_eq (a := a) hb
  have hs := lowS_ne (a := a) hb
  have hsg : 0 < b ↔ 0 < lowS a b := by
    have hg : 0 < Nat.gcd a.natAbs b.natAbs := Nat.pos_of_ne_zero fun h => hb (Int.natAbs_eq_zero.mp (Nat.eq_zero_of_gcd_eq_zero_right h))
    unfold lowS
    split <;> constructor <;> omega
  refine ⟨?_, ?_⟩
  · rcases Int.lt_trichotomy 0 (lowT a b).2 with h | h | h
    · exact h
    · rw [← h, Int.zero_mul] at e2; exact absurd e2.symm hb
    · exfalso
      rcases Int.lt_trichotomy 0 b with h3 | h3 | h3
      · have h4 := hsg.mp h3
        have := Int.mul_neg_of_neg_of_pos h h4
        omega
      · exact hb h3.symm
      · have h4 : lowS a b < 0 := by
          rcases Int.lt_trichotomy 0 (lowS a b) with q | q | q
          · have := hsg.mpr q; omega
          · exact absurd q.symm hs
          · exact q
        have := Int.mul_pos_of_neg_of_neg h h4
        omega
  · have h1 : Nat.gcd ((lowT a b).1 * lowS a b).natAbs ((lowT a b).2 * lowS a b).natAbs = (lowS a b).natAbs := by rw [e1, e2, lowS_abs]
    rw [Int.natAbs_mul, Int.natAbs_mul, Nat.gcd_mul_right] at h1
    have hp : 0 < (lowS a b).natAbs := Int.natAbs_pos.mpr hs
    exact Nat.eq_of_mul_eq_mul_right hp (by rw [h1, Nat.one_mul])
theorem fdiv_small {a s : Int} (hs : s ≠ 0) (hd : s ∣ a) : (a.fdiv s).natAbs ≤ a.natAbs := by
  have e := Int.fdiv_mul_cancel hd
  have h : a.natAbs = (a.fdiv s).natAbs * s.natAbs := by rw [← Int.natAbs_mul, e]
  rw [h]
  exact Nat.le_mul_of_pos_right _ (Int.natAbs_pos.mpr hs)
theorem lowT_small {a b : Int} (hb : b ≠ 0) : (lowT a b).1.natAbs ≤ a.natAbs ∧ (lowT a b).2.natAbs ≤ b.natAbs := by
  have hs := lowS_ne (a := a) hb
  refine ⟨fdiv_small hs (Int.natAbs_dvd_natAbs.mp (by rw [lowS_abs]; exact Nat.gcd_dvd_left _ _)), fdiv_small hs (Int.natAbs_dvd_natAbs.mp (by rw [lowS_abs]; exact Nat.gcd_dvd_right _ _))⟩

/-- what is_fraction tells of a datum -/
def isFrB : PyData → Bool
  | .tuple [.int a, .int b] => decide (1 ≤ b) && decide (Nat.gcd a.natAbs b.natAbs = 1)
  | _ => false
/-! ### fractions as rational numbers -/
def frR (q : Rat) : PyData := .tuple [.int q.num, .int (q.den : Int)]
theorem frR_inj {p q : Rat} (h : frR p = frR q) : p = q := by
  unfold frR at h
  injection h with h
  injection h with h1 h2
  injection h1 with h1
  injection h2 with h2
  injection h2 with h2
  exact Rat.ext h1 (by omega)
theorem rat_eq (q : Rat) : q = (q.num : Rat) / ((q.den : Int) : Rat) := by
  rw [← Rat.divInt_eq_div]
  exact (Rat.num_divInt_den q).symm
theorem den_pos' (q : Rat) : (0 : Int) < q.den := by have := q.den_pos; omega
theorem intCast_ne {i : Int} (h : i ≠ 0) : (i : Rat) ≠ 0 := fun e => h (Rat.intCast_eq_zero_iff.mp e)
/-- a fraction in lowest terms is just one rational number -/
theorem isFr_rat {q : Int × Int} (h : IsFr q) : frD q = frR ((q.1 : Rat) / (q.2 : Rat)) := by
  obtain ⟨a, b⟩ := q
  obtain ⟨h1, h2⟩ := h
  simp only at h1 h2
  obtain ⟨n, rfl⟩ : ∃ n : Nat, b = n := ⟨b.toNat, by omega⟩
  have hn : n ≠ 0 := by omega
  have hc : a.natAbs.Coprime n := by simpa using h2
  have e : (a : Rat) / ((n : Int) : Rat) = ⟨a, n, hn, hc⟩ := by
    rw [← Rat.divInt_eq_div, Rat.mk_eq_divInt]
  rw [e]
  rfl
theorem low_rat {a b : Int} (hb : b ≠ 0) : frD (lowT a b) = frR ((a : Rat) / (b : Rat)) := by
  rw [isFr_rat (lowT_isFr hb)]
  congr 1
  obtain ⟨e1, e2⟩ := lowT_eq (a := a) hb
  have hs := intCast_ne (lowS_ne (a := a) hb)
  have h2 : ((lowT a b).2 : Rat) ≠ 0 := intCast_ne (by have := (lowT_isFr (a := a) hb).1; omega)
  have f1 : (a : Rat) = ((lowT a b).1 : Rat) * (lowS a b : Rat) := by rw [← Rat.intCast_mul, e1]
  have f2 : (b : Rat) = ((lowT a b).2 : Rat) * (lowS a b : Rat) := by rw [← Rat.intCast_mul, e2]
  rw [f1, f2]
  grind
theorem isFr_frR (q : Rat) : isFrB (frR q) = true := by
  have h1 := q.den_pos
  have h2 := q.reduced
  simp only [frR, isFrB, Bool.and_eq_true, decide_eq_true_eq]
  exact ⟨by omega, h2⟩
theorem isFrB_iff {d : PyData} : isFrB d = true ↔ ∃ q, d = frR q := by
  refine ⟨fun h => ?_, fun ⟨q, h⟩ => h ▸ isFr_frR q⟩
  unfold isFrB at h
  split at h
  · rename_i a b
    simp only [Bool.and_eq_true, decide_eq_true_eq] at h
    exact ⟨_, isFr_rat (q := (a, b)) ⟨by show 0 < b; omega, h.2⟩⟩
  · cases h
theorem frR_zero : frR 0 = .tuple [.int 0, .int 1] := rfl
theorem frR_one : frR 1 = .tuple [.int 1, .int 1] := rfl
theorem frR_int (i : Int) : frR (i : Rat) = .tuple [.int i, .int 1] := rfl
/-! ### rows -/
def frsT (l : List Rat) : PyData := .tuple (l.map frR)
def frsL (l : List Rat) : PyData := .list (l.map frR)
def rowD (p : Al.Poly) : PyData := frsT p.val
mutual
theorem eqv_refl : ∀ d : PyData, d.canLay0 = true → PyData.eqv d d = true
  | .none, _ => by simp [PyData.eqv]
  | .bool b, _ => by simp [PyData.eqv]
  | .int i, _ => by simp [PyData.eqv]
  | .str x, _ => by simp [PyData.eqv]
  | .list xs, h => by simp only [PyData.eqv]; exact eqvAll_refl xs (by simpa [PyData.canLay0] using h)
  | .tuple xs, h => by simp only [PyData.eqv]; exact eqvAll_refl xs (by simpa [PyData.canLay0] using h)
  | .dict _, h => by simp [PyData.canLay0] at h
theorem eqvAll_refl : ∀ ds : List PyData, PyData.canLayAll0 ds = true → PyData.eqvAll ds ds = true
  | [], _ => by simp [PyData.eqvAll]
  | d :: ds, h => by
    simp only [PyData.canLayAll0, Bool.and_eq_true] at h
    simp [PyData.eqvAll, eqv_refl d h.1, eqvAll_refl ds h.2]
end
theorem eqv_frR (p q : Rat) : PyData.eqv (frR p) (frR q) = decide (p = q) := by
  simp only [frR, PyData.eqv, PyData.eqvAll, Bool.and_true]
  rw [Bool.eq_iff_iff]
  simp only [Bool.and_eq_true, beq_iff_eq, decide_eq_true_eq]
  exact ⟨fun h => Rat.ext h.1 (by omega), fun h => by rw [h]; exact ⟨rfl, rfl⟩⟩
theorem eqvAll_frs : ∀ l m : List Rat, PyData.eqvAll (l.map frR) (m.map frR) = decide (l = m)
  | [], [] => by simp [PyData.eqvAll]
  | [], b :: m => by simp [PyData.eqvAll]
  | a :: l, [] => by simp [PyData.eqvAll]
  | a :: l, b :: m => by
    simp only [List.map_cons, PyData.eqvAll, eqv_frR, eqvAll_frs l m]
    rw [Bool.eq_iff_iff]
    simp
theorem eqv_frsT (l m : List Rat) : PyData.eqv (frsT l) (frsT m) = decide (l = m) := by
  simp only [frsT, PyData.eqv]
  exact eqvAll_frs l m
theorem lay_frs : ∀ l : List Rat, PyData.canLayAll0 (l.map frR) = true
  | [] => rfl
  | a :: l => by simp [PyData.canLayAll0, frR, PyData.canLay0, lay_frs l]
theorem dep_frs : ∀ l : List Rat, PyData.depthAll (l.map frR) ≤ 1
  | [] => by simp [PyData.depthAll]
  | a :: l => by
    have := dep_frs l
    simp [PyData.depthAll, frR, PyData.depth]
    omega
theorem shp_frR (q : Rat) : SeqAt.shaped (frR q) = true := by simp [SeqAt.shaped, frR, PyData.canLay0, PyData.canLayAll0, PyData.depth, PyData.depthAll]
theorem shp_frsT (l : List Rat) : SeqAt.shaped (frsT l) = true := by
  have := dep_frs l
  simp [SeqAt.shaped, frsT, PyData.canLay0, lay_frs, PyData.depth]
  omega
theorem poly_val_inj {p q : Al.Poly} (h : p.val = q.val) : p = q := by
  cases p; cases q; cases h; rfl
theorem eqv_rowD (p q : Al.Poly) : PyData.eqv (rowD p) (rowD q) = decide (p = q) := by
  unfold rowD
  rw [eqv_frsT, Bool.eq_iff_iff]
  simp only [decide_eq_true_eq]
  exact ⟨poly_val_inj, fun h => by rw [h]⟩
theorem lfA_frs : ∀ l : List Rat, lfA (l.map frR) = true
  | [] => rfl
  | a :: l => by simp [lfA, lf, frR, lfA_frs l]
@[simp] theorem lf_frR (q : Rat) : lf (frR q) = true := rfl
@[simp] theorem lf_frsT (l : List Rat) : lf (frsT l) = true := by unfold frsT; simp [lf, lfA_frs]
@[simp] theorem lf_rowD (p : Al.Poly) : lf (rowD p) = true := lf_frsT _
/-! ### comprehensions -/
theorem lcD_map {α : Type} {gt : D → En → Option En} {ft : En → R Bool} {fe : En → R D} {env : En} (φ ψ : α → D) : ∀ xs : List α,
    (∀ x ∈ xs, ∃ e, gt (φ x) env = some e ∧ ft e = .ok true ∧ fe e = .ok (ψ x)) → lcD gt ft fe env (xs.map φ) = some (xs.map ψ)
  | [], _ => rfl
  | x :: xs, h => by
    obtain ⟨e, h1, h2, h3⟩ := h x (by simp)
    have ih := lcD_map φ ψ xs fun y hy => h y (by simp [hy])
    simp [lcD, h1, h2, h3, ih]
/-! ### bounds -/
def Sr (q : Rat) : Prop := q.num.natAbs < 2 ^ 15960000 ∧ q.den < 2 ^ 15960000
theorem pow_lim {n a b : Nat} (h : n < 2 ^ a) (hab : a ≤ b) : n < 2 ^ b := Nat.lt_of_lt_of_le h (Nat.pow_le_pow_right (by decide) hab)
theorem mul_sr {i j : Int} (hi : i.natAbs < 2 ^ 15960000) (hj : j.natAbs < 2 ^ 15960000) : mulOk i j = true := mulOk_of (a := 15960000) (b := 15960000) hi hj (by decide) (by decide) (by decide)
theorem mul_sr' {i j : Int} (hi : i.natAbs < 2 ^ 15960000) (hj : j.natAbs < 2 ^ 15960000) : (i * j).natAbs < 2 ^ 32000000 := pow_lim (natAbs_mul_lt hi hj) (by decide)
theorem Sr.n {q : Rat} (h : Sr q) : q.num.natAbs < 2 ^ 15960000 := h.1
theorem Sr.d {q : Rat} (h : Sr q) : ((q.den : Int)).natAbs < 2 ^ 15960000 := by rw [Int.natAbs_natCast]; exact h.2
theorem den_ne (q : Rat) : ((q.den : Int)) ≠ 0 := by have := q.den_pos; omega
theorem rat_add' (p q : Rat) : ((p.num * (q.den : Int) + q.num * (p.den : Int) : Int) : Rat) / (((p.den : Int) * (q.den : Int) : Int) : Rat) = p + q := by
  have e1 := rat_eq p
  have e2 := rat_eq q
  have h1 := intCast_ne (den_ne p)
  have h2 := intCast_ne (den_ne q)
  rw [Rat.intCast_add, Rat.intCast_mul, Rat.intCast_mul, Rat.intCast_mul]
  generalize ((p.den : Int) : Rat) = pd at *
  generalize ((q.den : Int) : Rat) = qd at *
  generalize (p.num : Rat) = pn at *
  generalize (q.num : Rat) = qn at *
  rw [e1, e2]
  grind
theorem rat_mul' (p q : Rat) : ((p.num * q.num : Int) : Rat) / (((p.den : Int) * (q.den : Int) : Int) : Rat) = p * q := by
  have e1 := rat_eq p
  have e2 := rat_eq q
  have h1 := intCast_ne (den_ne p)
  have h2 := intCast_ne (den_ne q)
  rw [Rat.intCast_mul, Rat.intCast_mul]
  generalize ((p.den : Int) : Rat) = pd at *
  generalize ((q.den : Int) : Rat) = qd at *
  generalize (p.num : Rat) = pn at *
  generalize (q.num : Rat) = qn at *
  rw [e1, e2]
  grind
theorem num_ne {q : Rat} (h : q ≠ 0) : q.num ≠ 0 := fun e => h (Rat.num_eq_zero.mp e)
theorem rat_div' (p q : Rat) (hq : q ≠ 0) : ((p.num * (q.den : Int) : Int) : Rat) / (((p.den : Int) * q.num : Int) : Rat) = p / q := by
  have e1 := rat_eq p
  have e2 := rat_eq q
  have h1 := intCast_ne (den_ne p)
  have h2 := intCast_ne (den_ne q)
  have h3 := intCast_ne (num_ne hq)
  rw [Rat.intCast_mul, Rat.intCast_mul]
  generalize ((p.den : Int) : Rat) = pd at *
  generalize ((q.den : Int) : Rat) = qd at *
  generalize (p.num : Rat) = pn at *
  generalize (q.num : Rat) = qn at *
  rw [e1, e2]
  grind
/-! ### readings of fractions -/
theorem cI_lt (i j : Int) : cmpV .Lt (.int i) (.int j) = .ok (.bool (decide (i < j))) := rfl
theorem cI_le (i j : Int) : cmpV .LtE (.int i) (.int j) = .ok (.bool (decide (i ≤ j))) := rfl
theorem cI_gt (i j : Int) : cmpV .Gt (.int i) (.int j) = .ok (.bool (decide (j < i))) := rfl
theorem cI_ge (i j : Int) : cmpV .GtE (.int i) (.int j) = .ok (.bool (decide (j ≤ i))) := rfl
theorem cI_eq (i j : Int) : cmpV .Eq (.int i) (.int j) = .ok (.bool (decide (i = j))) := rfl
theorem cI_ne (i j : Int) : cmpV .NotEq (.int i) (.int j) = .ok (.bool (!decide (i = j))) := rfl
theorem cB_is (i j : Bool) : cmpV .Is (.bool i) (.bool j) = .ok (.bool (decide (i = j))) := rfl
theorem cB_isnot (i j : Bool) : cmpV .IsNot (.bool i) (.bool j) = .ok (.bool (!decide (i = j))) := rfl
theorem oI_add (i j : Int) : opV .Add (.int i) (.int j) = .ok (.int (i + j)) := rfl
theorem oI_sub (i j : Int) : opV .Sub (.int i) (.int j) = .ok (.int (i - j)) := rfl
theorem oI_mul {i j : Int} (h : mulOk i j = true) : opV .Mult (.int i) (.int j) = .ok (.int (i * j)) := by
  show (if mulOk i j then _ else _) = _
  rw [h]; rfl
theorem oI_div {i j : Int} (h : divOk i j = true) : opV .FloorDiv (.int i) (.int j) = .ok (.int (i.fdiv j)) := by
  show (if divOk i j then _ else _) = _
  rw [h]; rfl
theorem oI_shl {i j : Int} (h : shlOk i j = true) : opV .LShift (.int i) (.int j) = .ok (.int (i * 2 ^ j.toNat)) := by
  show (if shlOk i j then _ else _) = _
  rw [h]; rfl
theorem oI_shr {i j : Int} (h : 0 ≤ j) : opV .RShift (.int i) (.int j) = .ok (.int (i / 2 ^ j.toNat)) := by
  show (if 0 ≤ j then _ else _) = _
  rw [if_pos h]
theorem oI_and {i : Int} {k : Nat} : opV .BitAnd (.int i) (.int (2 ^ k - 1)) = .ok (.int (i % 2 ^ k)) := by
  show R.ok (PyData.int (Builtin.bitAnd i (2 ^ k - 1))) = _
  rw [PySem.W.kbt_mask]
theorem oI_mod {i j : Int} (h : j ≠ 0) : opV .Mod (.int i) (.int j) = .ok (.int (i.fmod j)) := by
  show (if j = 0 then _ else _) = _
  rw [if_neg h]
theorem ix_frR0 (q : Rat) : ixV (frR q) (.int 0) = .ok (.int q.num) := rfl
theorem ix_frR1 (q : Rat) : ixV (frR q) (.int 1) = .ok (.int (q.den : Int)) := rfl
theorem eq_frR (p q : Rat) : cmpV .Eq (frR p) (frR q) = .ok (.bool (decide (p = q))) := by
  have h : cmpV .Eq (frR p) (frR q) = if SeqAt.shaped (frR p) && SeqAt.shaped (frR q) then .ok (.bool (PyData.eqv (frR p) (frR q))) else .no := by unfold frR; rfl
  rw [h, shp_frR, shp_frR, eqv_frR]; rfl
theorem ne_frR (p q : Rat) : cmpV .NotEq (frR p) (frR q) = .ok (.bool (!decide (p = q))) := by
  have h : cmpV .NotEq (frR p) (frR q) = if SeqAt.shaped (frR p) && SeqAt.shaped (frR q) then .ok (.bool (!PyData.eqv (frR p) (frR q))) else .no := by unfold frR; rfl
  rw [h, shp_frR, shp_frR, eqv_frR]; rfl
theorem eq_rowD (p q : Al.Poly) : cmpV .Eq (rowD p) (rowD q) = .ok (.bool (decide (p = q))) := by
  have h : cmpV .Eq (rowD p) (rowD q) = if SeqAt.shaped (rowD p) && SeqAt.shaped (rowD q) then .ok (.bool (PyData.eqv (rowD p) (rowD q))) else .no := by unfold rowD frsT; rfl
  rw [h, eqv_rowD]
  unfold rowD
  rw [shp_frsT, shp_frsT]; rfl
theorem ne_rowD (p q : Al.Poly) : cmpV .NotEq (rowD p) (rowD q) = .ok (.bool (!decide (p = q))) := by
  have h : cmpV .NotEq (rowD p) (rowD q) = if SeqAt.shaped (rowD p) && SeqAt.shaped (rowD q) then .ok (.bool (!PyData.eqv (rowD p) (rowD q))) else .no := by unfold rowD frsT; rfl
  rw [h, eqv_rowD]
  unfold rowD
  rw [shp_frsT, shp_frsT]; rfl
theorem atI_frs {l : List Rat} {i : Nat} (h : i < l.length) : atI (l.map frR) (i : Int) = some (frR (Al.cf l i)) := atI_nat (by simp [h, Al.cf])
end Br
namespace Br
open PySem PySem.Spec PyProof.Rows L2 Pu
theorem spec_named {D : Wd} {k : Nat} {x : Str} {n : Nat} {Φ : (List PyData → R PyData) → Prop} {Fn0 : List PyData → R PyData} (h : FnSpec D k x n Fn0) (q : ∀ Fn, Fn = Fn0 → Φ Fn) : Spec D k x n Φ := ⟨Fn0, h, q _ rfl⟩
theorem lcD_run {α : Type} {gt : D → En → Option En} {ft : En → R Bool} {fe : En → R D} {env : En} {ds : List D} {L : Option (List D)} (hL : lcD gt ft fe env ds = L) (xs : List α) (φ ψ : α → D) (hd : ds = xs.map φ)
    (h : ∀ x ∈ xs, ∃ e, gt (φ x) env = some e ∧ ft e = .ok true ∧ fe e = .ok (ψ x)) : L = some (xs.map ψ) := by
  rw [← hL, hd]
  exact lcD_map φ ψ xs h
/-- small enough for a sum of two places, or a product -/
def Fit (p : Al.Poly) : Prop := ∃ D N, Al.Hn p D N ∧ D < 2 ^ 15960000 ∧ N < 2 ^ 15960000
theorem Fit.sr {p : Al.Poly} (h : Fit p) (i : Nat) : Sr (p.c i) := by
  obtain ⟨D, N, h, hD, hN⟩ := h
  exact ⟨Nat.lt_of_le_of_lt (h.num_le i) hN, Nat.lt_of_le_of_lt (h.den_le i) hD⟩
/-- all fractions | the last one isn't nought -/
theorem all_frs : ∀ {ds : List PyData}, (∀ d ∈ ds, isFrB d = true) → ∃ l : List Rat, ds = l.map frR
  | [], _ => ⟨[], rfl⟩
  | d :: ds, h => by
    obtain ⟨q, hq⟩ := isFrB_iff.mp (h d (by simp))
    obtain ⟨l, hl⟩ := all_frs (ds := ds) fun x hx => h x (by simp [hx])
    exact ⟨q :: l, by rw [hq, hl]; rfl⟩
theorem frs_all (l : List Rat) : ∀ d ∈ l.map frR, isFrB d = true := by
  intro d hd
  obtain ⟨q, _, rfl⟩ := List.mem_map.mp hd
  exact isFr_frR q
theorem bools_map {α : Type} (f : α → Bool) : ∀ xs : List α, bools (xs.map fun x => PyData.bool (f x)) = .ok (xs.map f)
  | [] => rfl
  | x :: xs => by simp [bools, bools_map f xs]
theorem all_run {α : Type} (f : α → Bool) (xs : List α) : allF [.list (xs.map fun x => PyData.bool (f x))] = .ok (.bool (xs.all f)) := by
  show (bools _).bind _ = _
  rw [bools_map]
  simp
  rfl
theorem atI_last {α : Type} {xs : List α} (h : xs ≠ []) : atI xs (-1) = xs[xs.length - 1]? := by
  have hp : 0 < xs.length := List.length_pos_iff.mpr h
  unfold atI
  have : ixN xs.length (-1) = some (xs.length - 1) := by
    unfold ixN
    rw [if_neg (by omega), if_pos (by omega)]
    congr 1
    omega
  rw [this]; rfl
theorem frs_get {l : List Rat} {i : Nat} (h : i < l.length) : (l.map frR)[i]? = some (frR (Al.cf l i)) := by
  rw [List.getElem?_map, List.getElem?_eq_getElem h]
  simp [Al.cf, h]
theorem atI_lastF {l : List Rat} (h : l ≠ []) : atI (l.map frR) (-1) = some (frR (Al.cf l (l.length - 1))) := by
  have hp : 0 < l.length := List.length_pos_iff.mpr h
  rw [atI_last (by simpa using h), List.length_map]
  exact frs_get (by omega)
theorem frs_inj : ∀ {l m : List Rat}, l.map frR = m.map frR → l = m
  | [], [], _ => rfl
  | [], _ :: _, h => by cases h
  | _ :: _, [], h => by cases h
  | a :: l, b :: m, h => by
    simp only [List.map_cons, List.cons.injEq] at h
    rw [frR_inj h.1, frs_inj h.2]
/-- a tuple of fractions is a row where the last one isn't nought -/
theorem row_iff {l : List Rat} : (∃ p, frsT l = rowD p) ↔ (l = [] ∨ Al.cf l (l.length - 1) ≠ 0) := by
  constructor
  · rintro ⟨p, hp⟩
    unfold frsT rowD frsT at hp
    injection hp with hp
    rw [frs_inj hp]
    exact Al.poly_last
  · intro h
    exact ⟨⟨l, Al.trim_id h⟩, rfl⟩
theorem frs_get' {l : List Rat} {i : Nat} {d : PyData} (h : (l.map frR)[i]? = some d) : i < l.length ∧ d = frR (Al.cf l i) := by
  have hi : i < l.length := by have := (List.getElem?_eq_some_iff.mp h).1; simpa using this
  rw [frs_get hi] at h
  exact ⟨hi, (Option.some.inj h).symm⟩
theorem lim8 {n D : Nat} (h : n ∣ D) (hD : 0 < D) (hl : D < 2 ^ 32000000) : n < 2 ^ 32000000 := Nat.lt_of_le_of_lt (Nat.le_of_dvd hD h) hl
theorem lcm_ok {a b : Nat} (ha : a < 2 ^ 32000000) (hb : b < 2 ^ 32000000) : lcmOk (a : Int) (b : Int) = true := by
  have h1 := PySem.Flt.log2_lt_of (k := 32000000) (by decide) ha
  have h2 := PySem.Flt.log2_lt_of (k := 32000000) (by decide) hb
  unfold lcmOk
  rw [Int.natAbs_natCast, Int.natAbs_natCast, Bool.and_eq_true]
  exact ⟨decide_eq_true (by omega), decide_eq_true (by omega)⟩
theorem gi_map {α : Type} (f : α → Int) (xs : List α) (i : Nat) : Al.gi (xs.map f) i = if h : i < xs.length then f xs[i] else 0 := by
  unfold Al.gi
  split
  · rename_i h; simp [h]
  · rename_i h; simp [h]
theorem intsL_get {ts : List Int} {i : Nat} (h : i < ts.length) : (ts.map PyData.int)[i]? = some (.int (Al.gi ts i)) := by
  rw [List.getElem?_map, List.getElem?_eq_getElem h]
  simp [Al.gi, h]
theorem intsL_get' {ts : List Int} {i : Nat} {d : PyData} (h : (ts.map PyData.int)[i]? = some d) : i < ts.length ∧ d = .int (Al.gi ts i) := by
  have hi : i < ts.length := by have := (List.getElem?_eq_some_iff.mp h).1; simpa using this
  rw [intsL_get hi] at h
  exact ⟨hi, (Option.some.inj h).symm⟩
theorem lfA_ints : ∀ ts : List Int, lfA (ts.map PyData.int) = true
  | [] => rfl
  | t :: ts => by simp [lfA, lf, lfA_ints ts]
theorem over_zp (ts : List Int) (b : Int) : (⟨Al.trimL (ts.map fun t : Int => (t : Rat) / (b : Rat)), Al.trim_trim _⟩ : Al.Poly) = Al.C (1 / (b : Rat)) * Al.zp ts := by
  refine Al.Poly.ext fun i => ?_
  rw [Al.c_Cmul, Al.c_zp]
  show Al.cf (Al.trimL _) i = _
  rw [Al.cf_trim]
  unfold Al.cf Al.gi
  rw [List.getD_eq_getElem?_getD, List.getD_eq_getElem?_getD, List.getElem?_map]
  cases ts[i]? with
  | none => simp; try grind
  | some t => simp; try grind
/-! ### a slot of which nothing is known -/
@[simp] def vh (m : List Nat) (i : Nat) : Option (D × Bool) → Option D
  | none => none
  | some (d, false) => some d
  | some (d, true) => if m.contains i then some d else none
@[simp] theorem view_o {m : List Nat} {i : Nat} {o : Option (D × Bool)} {r : SEn} : view m i (o :: r) = vh m i o :: view m (i + 1) r := by
  rcases o with _ | ⟨d, _ | _⟩ <;> rfl
@[simp] def dh (m : List Nat) (i : Nat) : Option (D × Bool) → Option (D × Bool)
  | none => none
  | some (d, false) => some (d, false)
  | some (d, true) => if m.contains i then some (d, false) else some (d, true)
@[simp] theorem demote_o {m : List Nat} {i : Nat} {o : Option (D × Bool)} {r : SEn} : demote m i (o :: r) = dh m i o :: demote m (i + 1) r := by
  rcases o with _ | ⟨d, _ | _⟩ <;> rfl
theorem storeL_lf {m : List Nat} {i : Nat} {ds : List D} {se : SEn} (h : lfA ds = true) : storeL m i (.list ds) se = se.set i (some (.list ds, true)) := by
  show (if lfA ds = true then _ else _) = _
  rw [if_pos h]
theorem at0 {a b : PyData} : atI [a, b] 0 = some a := rfl
theorem at1 {a b : PyData} : atI [a, b] 1 = some b := rfl
theorem map_frR_length (p : Al.Poly) : (p.val.map frR).length = p.len := List.length_map _
theorem zip_frs (l m : List Rat) : zipD (l.map frR) (m.map frR) = (List.range (min l.length m.length)).map fun i => .tuple [frR (Al.cf l i), frR (Al.cf m i)] := by
  refine List.ext_getElem? fun i => ?_
  by_cases h : i < min l.length m.length
  · rw [zipD_get (frs_get (by omega)) (frs_get (by omega)), List.getElem?_map, List.getElem?_range h]
    rfl
  · rw [List.getElem?_eq_none (by simp; omega), List.getElem?_eq_none (by simp; omega)]
theorem enum_frs (l : List Rat) : enumD 0 (l.map frR) = (List.range l.length).map fun i => .tuple [.int (i : Int), frR (Al.cf l i)] := by
  refine List.ext_getElem? fun i => ?_
  rw [enumD_get]
  by_cases h : i < l.length
  · rw [frs_get h, List.getElem?_map, List.getElem?_range h, Nat.zero_add]
    rfl
  · rw [List.getElem?_eq_none (by simp; omega), List.getElem?_eq_none (by simp; omega)]
    rfl
theorem enum_ints (ts : List Int) : enumD 0 (ts.map PyData.int) = (List.range ts.length).map fun i => .tuple [.int (i : Int), .int (Al.gi ts i)] := by
  refine List.ext_getElem? fun i => ?_
  rw [enumD_get]
  by_cases h : i < ts.length
  · rw [intsL_get h, List.getElem?_map, List.getElem?_range h, Nat.zero_add]
    rfl
  · rw [List.getElem?_eq_none (by simp; omega), List.getElem?_eq_none (by simp; omega)]
    rfl
theorem cut_from {xs : List D} {n : Nat} : Pu.cutD xs (some (n : Int)) none = xs.drop n := by
  unfold Pu.cutD
  rw [HT.sIx_none, HT.sIx_nat]
  rcases Nat.le_total n xs.length with h | h
  · rw [Nat.min_eq_left h]
    exact List.take_of_length_le (by simp)
  · rw [Nat.min_eq_right h, List.drop_of_length_le h, List.drop_length]
    simp
theorem cut_to {xs : List D} {n : Nat} (h : n ≤ xs.length) : Pu.cutD xs none (some (n : Int)) = xs.take n := by
  unfold Pu.cutD
  rw [HT.sIx_none, HT.sIx_nat, Nat.min_eq_left h]
  simp
theorem cf_append (l m : List Rat) (i : Nat) : Al.cf (l ++ m) i = if i < l.length then Al.cf l i else Al.cf m (i - l.length) := by
  unfold Al.cf
  rw [List.getD_eq_getElem?_getD, List.getElem?_append]
  split <;> rfl
theorem cf_drop (l : List Rat) (n i : Nat) : Al.cf (l.drop n) i = Al.cf l (n + i) := by simp [Al.cf]
/-- the sum of two rows, place by place as far as both go -/
theorem plus_list (p q : Al.Poly) : Al.trimL (((List.range (min p.len q.len)).map fun i => p.c i + q.c i) ++ (p.val.drop (min p.len q.len) ++ q.val.drop (min p.len q.len))) = (p + q).val := by
  refine (Al.trim_ext fun i => ?_).trans (p + q).ok
  rw [Al.c_val, Al.c_add, cf_append, List.length_map, List.length_range, Al.cf_range]
  by_cases h : i < min p.len q.len
  · rw [if_pos h, if_pos h]
  · rw [if_neg h, cf_append, List.length_drop, cf_drop, cf_drop]
    have e : min p.len q.len + (i - min p.len q.len) = i := by omega
    rw [e]
    split
    · rename_i h2
      have : p.val.length = p.len := rfl
      rw [Al.Poly.c_ge (p := q) (by omega)]
      exact (Rat.add_zero _).symm
    · rename_i h2
      have h3 : p.val.length = p.len := rfl
      have h4 : q.val.length = q.len := rfl
      rw [Al.Poly.c_ge (p := p) (by omega), Rat.zero_add]
      by_cases hq : p.len ≤ q.len
      · rw [Nat.min_eq_left hq, show p.len + (i - p.len - (p.val.length - p.len)) = i by omega]
        rfl
      · rw [Al.cf_ge (by omega), Al.Poly.c_ge (by omega)]
theorem val_eq {p : Al.Poly} {l : List Rat} (hl : l.length = p.len) (h : ∀ i, Al.cf l i = p.c i) : p.val = l := by
  refine List.ext_getElem hl.symm fun i h1 h2 => ?_
  have := h i
  simp [Al.Poly.c, Al.cf, h1, h2] at this
  exact this.symm
theorem truth_row (p : Al.Poly) : truth (.tuple (p.val.map frR)) = .ok (decide (p ≠ 0)) := by
  show R.ok (!(p.val.map frR).isEmpty) = _
  congr 1
  by_cases h : p = 0
  · subst h; rfl
  · have : p.val ≠ [] := fun e => h (Al.Poly.len_eq_zero.mp (by unfold Al.Poly.len; rw [e]; rfl))
    rw [decide_eq_true h]
    cases hv : p.val with
    | nil => exact absurd hv this
    | cons a l => rfl
theorem map_set_int {ts : List Int} {k : Nat} {v : Int} : (ts.map PyData.int).set k (.int v) = (ts.set k v).map PyData.int := by rw [List.map_set]
theorem mul_fit {i j : Int} {a b : Nat} (hi : i.natAbs ≤ a) (hj : j.natAbs ≤ b) (ha : a < 2 ^ 33000000) (hb : b < 2 ^ 33000000) : mulOk i j = true := mulOk_of (a := 33000000) (b := 33000000) (Nat.lt_of_le_of_lt hi ha) (Nat.lt_of_le_of_lt hj hb) (by decide) (by decide) (by decide)
theorem lim39 {n : Nat} (h : n < 2 ^ 15960000) : n < 2 ^ 33000000 := Nat.lt_of_lt_of_le h (Nat.pow_le_pow_right (by decide) (by decide))
theorem lim39' {n : Nat} (h : n < 2 ^ 15960000) : n < 2 ^ 32000000 := Nat.lt_of_lt_of_le h (Nat.pow_le_pow_right (by decide) (by decide))
theorem rep_ints (n : Nat) : List.replicate n (PyData.int 0) = (List.replicate n (0 : Int)).map PyData.int := by rw [List.map_replicate]
theorem map_get {α : Type} {n : Nat} {f : Nat → α} {i : Nat} {d : α} (h : ((List.range n).map f)[i]? = some d) : i < n ∧ d = f i := by
  have hi : i < n := by have := (List.getElem?_eq_some_iff.mp h).1; simpa using this
  rw [List.getElem?_map, List.getElem?_range hi] at h
  exact ⟨hi, (Option.some.inj h).symm⟩
theorem ixN_at {n j : Nat} (hj : j < n) : ixN n (j : Int) = some j := by
  unfold ixN
  rw [if_pos (by omega), if_pos (by omega), Int.toNat_natCast]
theorem cut_last {xs : List D} : Pu.cutD xs none (some (-1)) = xs.dropLast := by
  have e : HT.sIx xs.length xs.length (some (-1)) = xs.length - 1 := by
    unfold HT.sIx
    simp
    omega
  unfold Pu.cutD
  rw [HT.sIx_none, e, List.dropLast_eq_take]
  simp
theorem cf_take_lt {l : List Rat} {n i : Nat} (h : i < n) : Al.cf (l.take n) i = Al.cf l i := by rw [Al.cf_take, if_pos h]
theorem oL_add {xs ys : List D} (h : xs.length + ys.length ≤ 1000000) : opV .Add (.list xs) (.list ys) = .ok (.list (xs ++ ys)) := by
  show (if szOk _ then _ else _) = _
  rw [szOk_of h]; rfl
theorem oT_add {xs ys : List D} (h : xs.length + ys.length ≤ 1000000) : opV .Add (.tuple xs) (.tuple ys) = .ok (.tuple (xs ++ ys)) := by
  show (if szOk _ then _ else _) = _
  rw [szOk_of h]; rfl
theorem flat_one {α : Type} (n : Nat) (a : α) : (List.replicate n [a]).flatten = List.replicate n a := by
  induction n with
  | zero => rfl
  | succ n ih => rw [List.replicate_succ, List.replicate_succ, List.flatten_cons, ih]; rfl
theorem oL_repF {k : Nat} (h : k ≤ 1000000) : opV .Mult (.list [.tuple [.int 0, .int 1]]) (.int (k : Int)) = .ok (.list ((List.replicate k (0 : Rat)).map frR)) := by
  have hz : (1000000 : Nat) ≤ sizeLine := by decide
  have h1 : -(2 ^ 63) ≤ (k : Int) ∧ (k : Int) < 2 ^ 63 ∧ [PyData.tuple [.int 0, .int 1]].length * (k : Int).toNat ≤ sizeLine := by
    refine ⟨by omega, by omega, ?_⟩
    rw [Int.toNat_natCast, List.length_singleton, Nat.one_mul]
    exact Nat.le_trans h hz
  unfold opV
  simp only [h1, and_self, if_true]
  rw [flat_one, List.map_replicate, Int.toNat_natCast]
  rfl
theorem oT_repF {k : Nat} (h : k ≤ 1000) : opV .Mult (.tuple [.tuple [.int 0, .int 1]]) (.int (k : Int)) = .ok (.tuple ((List.replicate k (0 : Rat)).map frR)) := by
  have h1 : 0 ≤ (k : Int) ∧ (k : Int) ≤ 1000 ∧ 0 < [PyData.tuple [.int 0, .int 1]].length ∧ [PyData.tuple [.int 0, .int 1]].length ≤ 1000 := ⟨by omega, by omega, by decide, by decide⟩
  unfold opV
  simp only [h1, and_self, if_true]
  rw [flat_one, List.map_replicate, Int.toNat_natCast]
  rfl
theorem cf_pad0 (l : List Rat) (k i : Nat) : Al.cf (l ++ List.replicate k 0) i = Al.cf l i := by
  rw [cf_append]
  split
  · rfl
  · rename_i h
    rw [Al.cf_ge (p := l) (by omega)]
    unfold Al.cf
    rw [List.getD_eq_getElem?_getD, List.getElem?_replicate]
    split <;> rfl
/-- a list of places is a row -/
theorem ofL_range {f : Nat → Rat} {n : Nat} {p : Al.Poly} (h : ∀ i, i < n → f i = p.c i) (h0 : p.len ≤ n) : Al.ofL ((List.range n).map f) = p := Al.Poly.ext fun i => by
  rw [Al.c_ofL, Al.cf_range]
  split
  · rename_i hi; exact h i hi
  · rw [Al.Poly.c_ge (by omega)]
/-- places of two lists over one bottom -/
def SrL (l : List Rat) : Prop := ∀ i, Sr (Al.cf l i)
theorem sr0 : Sr 0 := ⟨by show 0 < _; exact Nat.two_pow_pos _, Nat.one_lt_two_pow (by decide)⟩
theorem Fit.srl {p : Al.Poly} (h : Fit p) : SrL p.val := fun i => h.sr i
theorem sr_int {i : Int} (h : i.natAbs < 2 ^ 15960000) : Sr (i : Rat) := ⟨by rw [Rat.num_intCast]; exact h, by rw [Rat.den_intCast]; exact Nat.one_lt_two_pow (by decide)⟩
theorem sr_nat {n : Nat} (h : n < 2 ^ 15960000) : Sr (n : Rat) := by rw [← Rat.intCast_natCast]; exact sr_int (by rw [Int.natAbs_natCast]; exact h)
theorem small39 {n : Nat} (h : n ≤ 1000000) : n < 2 ^ 15960000 := Nat.lt_of_le_of_lt h (Nat.lt_of_lt_of_le (by decide : 1000000 < 2 ^ 20) (Nat.pow_le_pow_right (by decide) (by decide)))
theorem range1_run (n : Nat) (h : n ≤ 1000000) : range1F [.int (n : Int)] = .ok ((List.range n).map fun i : Nat => .int (i : Int)) := by
  have hr : rngOk (n : Int) = true := by
    unfold rngOk
    simp only [Bool.and_eq_true, decide_eq_true_eq]
    omega
  unfold range1F
  simp only [hr, if_true]
  unfold upFrom
  rw [Int.toNat_natCast]
  simp
theorem range2_run (k n : Nat) (hk : k ≤ 1000000) (h : n ≤ 1000000) : range2F [.int (k : Int), .int (n : Int)] = .ok ((List.range (n - k)).map fun i : Nat => .int ((k + i : Nat) : Int)) := by
  have hr : rngOk (n : Int) = true := by
    unfold rngOk
    simp only [Bool.and_eq_true, decide_eq_true_eq]
    omega
  have hr2 : rngOk (k : Int) = true := by
    unfold rngOk
    simp only [Bool.and_eq_true, decide_eq_true_eq]
    omega
  unfold range2F
  simp only [hr, hr2, Bool.and_self, if_true]
  unfold upFrom
  rw [show ((n : Int) - (k : Int)).toNat = n - k by omega]
  simp
/-- a choice for each place -/
theorem pick {α : Type} [Inhabited α] {n : Nat} {P : Nat → α → Prop} (h : ∀ i, i < n → ∃ x, P i x) : ∃ f : Nat → α, ∀ i, i < n → P i (f i) := by
  classical
  refine ⟨fun i => if hi : i < n then (h i hi).choose else default, fun i hi => ?_⟩
  have e : (if hi : i < n then (h i hi).choose else default) = (h i hi).choose := dif_pos hi
  show P i (if hi : i < n then (h i hi).choose else default)
  rw [e]
  exact (h i hi).choose_spec
/-- no row, and small -/
def NoRow (d : PyData) : Prop := (∀ ds, d = .tuple ds → ds.length ≤ 1000) ∧ ∀ p, d ≠ rowD p
theorem noRow_of {d : PyData} (h : ∀ ds, d ≠ .tuple ds) : NoRow d := ⟨fun ds e => absurd e (h ds), fun p e => h _ e⟩
theorem noRow_bad {ds : List PyData} {b : PyData} (hl : ds.length ≤ 1000) (hb : b ∈ ds) (hf : isFrB b = false) : NoRow (.tuple ds) := by
  refine ⟨fun ds' e => by cases e; exact hl, fun p e => ?_⟩
  unfold rowD frsT at e
  injection e with e
  rw [e] at hb
  have := frs_all _ b hb
  rw [hf] at this
  cases this
theorem noRow_zero {l : List Rat} (hl : l.length < 1000) : NoRow (frsT (l ++ [0])) := by
  refine ⟨fun ds' e => by unfold frsT at e; injection e with e; rw [← e]; simp; omega, fun p e => ?_⟩
  have := row_iff.mp ⟨p, e⟩
  rcases this with h | h
  · simp at h
  · apply h
    rw [cf_append, List.length_append, List.length_singleton, Nat.add_sub_cancel, if_neg (by omega)]
    simp
/-- a row of at most n places, over a bottom of k bits, its tops of k bits -/
def Sz (n k : Nat) (p : Al.Poly) : Prop := p.len ≤ n ∧ ∃ D N, Al.Hn p D N ∧ D < 2 ^ k ∧ N < 2 ^ k
theorem Sz.fit {n k : Nat} {p : Al.Poly} (h : Sz n k p) (hk : k ≤ 15960000) : Fit p := by
  obtain ⟨_, D, N, h, hD, hN⟩ := h
  exact ⟨D, N, h, pow_lim hD hk, pow_lim hN hk⟩
theorem Sz.up {n k m j : Nat} {p : Al.Poly} (h : Sz n k p) (hn : n ≤ m) (hk : k ≤ j) : Sz m j p := by
  obtain ⟨hl, D, N, h, hD, hN⟩ := h
  exact ⟨Nat.le_trans hl hn, D, N, h, pow_lim hD hk, pow_lim hN hk⟩
theorem pow_mul_lt {a b i j : Nat} (ha : a < 2 ^ i) (hb : b < 2 ^ j) : a * b < 2 ^ (i + j) := by
  rw [Nat.pow_add]
  exact Nat.mul_lt_mul'' ha hb
theorem pow_add_lt {a b i : Nat} (ha : a < 2 ^ i) (hb : b < 2 ^ i) : a + b < 2 ^ (i + 1) := by
  rw [Nat.pow_succ]; omega
theorem Sz.add {n k m j : Nat} {p q : Al.Poly} (h : Sz n k p) (g : Sz m j q) : Sz (max n m) (k + j + 1) (p + q) := by
  obtain ⟨hl, D, N, h, hD, hN⟩ := h
  obtain ⟨gl, E, M, g, hE, hM⟩ := g
  refine ⟨?_, D * E, N * E + D * M, (h.up g.1).add (g.up' h.1), pow_lim (pow_mul_lt hD hE) (by omega), pow_add_lt (pow_mul_lt hN hE) (pow_mul_lt hD hM)⟩
  have := Al.Poly.len_add p q
  omega
theorem Sz.mul {n k m j : Nat} {p q : Al.Poly} (h : Sz n k p) (g : Sz m j q) (hn : n ≤ 1024) : Sz (n + m) (k + j + 10) (p * q) := by
  obtain ⟨hl, D, N, h, hD, hN⟩ := h
  obtain ⟨gl, E, M, g, hE, hM⟩ := g
  refine ⟨?_, D * E, p.len * (N * M), h.mul g, pow_lim (pow_mul_lt hD hE) (by omega), ?_⟩
  · have := Al.len_mul_le p q
    omega
  · have h1 := pow_mul_lt hN hM
    have h2 : p.len * (N * M) ≤ 1024 * (N * M) := Nat.mul_le_mul_right _ (by omega)
    have h3 : (2 : Nat) ^ (k + j + 10) = 2 ^ (k + j) * 1024 := by rw [Nat.pow_add]
    rw [h3]
    generalize (2 : Nat) ^ (k + j) = z at *
    generalize N * M = y at *
    generalize p.len * y = x at *
    omega
theorem Sz.neg {n k : Nat} {p : Al.Poly} (h : Sz n k p) : Sz n k (-p) := by
  obtain ⟨hl, D, N, h, hD, hN⟩ := h
  exact ⟨by rw [Al.Poly.len_neg]; exact hl, D, N, h.neg, hD, hN⟩
theorem Sz.zt {n k : Nat} {p : Al.Poly} (h : Sz n k p) (i : Nat) : Sz n k (Al.zt p i) := by
  obtain ⟨hl, D, N, h, hD, hN⟩ := h
  refine ⟨?_, D, N, h.zt i, hD, hN⟩
  refine Nat.le_trans (Al.Poly.len_le fun j hj => ?_) hl
  rw [Al.c_zt, Al.Poly.c_ge hj]
  split <;> rfl
theorem Sz.by_row {p : Al.Poly} {most : Nat} (h : p.len ≤ most ∧ ∃ D, 0 < D ∧ D ≤ 1000 ^ most ∧ Al.Hn p D (1000000 * 1000 ^ most)) : Sz most (10 * most + 21) p := by
  obtain ⟨hl, D, h0, h1, h2⟩ := h
  have h3 : (1000 : Nat) ^ most ≤ 2 ^ (10 * most) := by
    rw [Nat.pow_mul]
    exact Nat.pow_le_pow_left (by decide) _
  refine ⟨hl, D, _, h2, ?_, ?_⟩
  · refine Nat.lt_of_le_of_lt (Nat.le_trans h1 h3) (Nat.pow_lt_pow_right (by decide) (by omega))
  · have h4 : (2 : Nat) ^ (10 * most + 21) = 2 ^ (10 * most) * 2097152 := by rw [Nat.pow_add]
    rw [h4]
    have h5 : 0 < (2 : Nat) ^ (10 * most) := Nat.two_pow_pos _
    generalize (2 : Nat) ^ (10 * most) = z at *
    generalize (1000 : Nat) ^ most = y at *
    omega
/-- first what comes before, then what follows -/
theorem seq_split {r A : SR} {K : SEn → SR} (P : SEn → Prop) (h1 : ∃ se, r = .next se ∧ P se) (h2 : ∀ se, P se → K se = A) : r.seq K = A := by
  obtain ⟨se, rfl, p⟩ := h1
  exact h2 se p
theorem frR_neg1 : frR (-1) = .tuple [.int (-1), .int 1] := rfl
theorem cut_row {p : Al.Poly} {n : Nat} : Pu.cutD (p.val.map frR) none (some (n : Int)) = ((p.val.take n).map frR) := by
  rcases Nat.le_total n p.val.length with h | h
  · rw [cut_to (by rw [List.length_map]; exact h), List.map_take]
  · unfold Pu.cutD
    rw [HT.sIx_none, HT.sIx_nat, List.length_map, Nat.min_eq_right h, List.take_of_length_le h, List.drop_zero, Nat.sub_zero]
    exact List.take_of_length_le (by simp)
theorem oL_rep0 {k : Int} (h0 : -1000000 ≤ k) (h : k ≤ 1000000) : opV .Mult (.list [.int 0]) (.int k) = .ok (.list ((List.replicate k.toNat (0 : Int)).map .int)) := by
  have hz : (1000000 : Nat) ≤ sizeLine := by decide
  have h1 : -(2 ^ 63) ≤ k ∧ k < 2 ^ 63 ∧ [PyData.int 0].length * k.toNat ≤ sizeLine := by
    refine ⟨by omega, by omega, Nat.le_trans ?_ hz⟩
    rw [List.length_singleton, Nat.one_mul]
    omega
  unfold opV
  simp only [h1, and_self, if_true]
  rw [flat_one, List.map_replicate]
theorem gi_append (xs ys : List Int) (i : Nat) : Al.gi (xs ++ ys) i = if i < xs.length then Al.gi xs i else Al.gi ys (i - xs.length) := by
  unfold Al.gi
  rw [List.getD_eq_getElem?_getD, List.getElem?_append]
  split <;> rfl
theorem gi_mapmul (xs : List Int) (f : Int) (i : Nat) : Al.gi (xs.map fun x => x * f) i = Al.gi xs i * f := by
  rw [gi_map]
  split
  · rename_i h; simp [Al.gi, h]
  · rename_i h; rw [Al.gi_ge (by omega), Int.zero_mul]
theorem gi_dropLast (xs : List Int) (i : Nat) : Al.gi xs.dropLast i = if i < xs.length - 1 then Al.gi xs i else 0 := by
  rw [List.dropLast_eq_take, Al.gi_take]
theorem atI_lastI {ts : List Int} (h : 0 < ts.length) : atI (ts.map PyData.int) (-1) = some (.int (Al.gi ts (ts.length - 1))) := by
  rw [atI_last (by simp; exact fun e => by rw [e] at h; simp at h), List.length_map]
  exact intsL_get (by omega)
/-- one turn of a division -/
theorem div_poly {p q : Al.Poly} {B : List Rat} {rs us r : List Int} {bt f o : Int} {c : Rat} (hrs : 0 < rs.length) (hle : q.len ≤ rs.length) (hrl : r.length = rs.length)
    (hri : ∀ i, Al.gi r i = Al.gi rs i * f - (if i < rs.length - q.len then 0 else Al.gi us (i - (rs.length - q.len)) * o)) (hbt : bt ≠ 0) (hf : f ≠ 0) (ht : Al.gi us (q.len - 1) ≠ 0) (hc : c ≠ 0) (huz : Al.C c * q = Al.zp us) (hul : us.length = q.len)
    (hfo : f * Al.gi rs (rs.length - 1) = o * Al.gi us (q.len - 1)) (hv : p = Al.ofL (List.replicate (rs.length + 1 - q.len) 0 ++ B.reverse) * q + Al.C (1 / (bt : Rat)) * Al.zp rs) {β : Rat} (hβ : β * ((bt : Rat) * (Al.gi us (q.len - 1) : Rat)) = (Al.gi rs (rs.length - 1) : Rat) * c) :
    p = Al.ofL (List.replicate (r.dropLast.length + 1 - q.len) 0 ++ (B ++ [β]).reverse) * q + Al.C (1 / ((bt * f : Int) : Rat)) * Al.zp r.dropLast := by
  have hbt' := intCast_ne hbt
  have hf' := intCast_ne hf
  have ht' := intCast_ne ht
  have e1 : Al.zp r.dropLast = Al.C (f : Rat) * Al.zp rs - Al.mo (o : Rat) (rs.length - q.len) * Al.zp us := Al.Poly.ext fun i => by
    rw [Al.c_sub, Al.c_Cmul, Al.c_moMul, Al.c_zp, Al.c_zp, Al.c_zp, gi_dropLast]
    by_cases hi : i < r.length - 1
    · rw [if_pos hi, hri, Rat.intCast_sub, Rat.intCast_mul]
      split
      · rw [Rat.intCast_zero]; grind
      · rw [Rat.intCast_mul]; grind
    · rw [if_neg hi]
      by_cases hi2 : i = rs.length - 1
      · have h0 : 0 < q.len := by
          rcases Nat.eq_zero_or_pos q.len with z | z
          · exfalso; apply ht; rw [Al.gi_ge]; omega
          · exact z
        rw [if_neg (by omega), hi2, show rs.length - 1 - (rs.length - q.len) = q.len - 1 by omega, ← Rat.intCast_mul, ← Rat.intCast_mul, hfo, Rat.intCast_zero]
        grind
      · rw [Al.gi_ge (ts := rs) (by omega), Al.gi_ge (ts := us) (by omega)]
        split <;> simp <;> grind
  have e2 : Al.ofL (List.replicate (r.dropLast.length + 1 - q.len) 0 ++ (B ++ [β]).reverse) = Al.ofL (List.replicate (rs.length + 1 - q.len) 0 ++ B.reverse) + Al.mo β (rs.length - q.len) := Al.Poly.ext fun i => by
    rw [Al.c_add, Al.c_ofL, Al.c_ofL, Al.c_mo, Al.cf_pad, Al.cf_pad, List.length_dropLast, List.reverse_append, List.reverse_singleton, show r.length - 1 + 1 - q.len = rs.length - q.len by omega]
    rcases Nat.lt_trichotomy i (rs.length - q.len) with h | h | h
    · rw [if_pos h, if_pos (by omega), if_neg (by omega)]; exact (Rat.add_zero _).symm
    · rw [if_neg (by omega), if_pos (by omega), if_pos h, h, Nat.sub_self, Rat.zero_add]
      rfl
    · rw [if_neg (by omega), if_neg (by omega), if_neg (by omega), Rat.add_zero, show i - (rs.length - q.len) = (i - (rs.length + 1 - q.len)) + 1 by omega]
      rfl
  have e3 : Al.mo β (rs.length - q.len) = Al.C (c * (1 / ((bt * f : Int) : Rat))) * Al.mo (o : Rat) (rs.length - q.len) := by
    rw [Al.C_mo, Rat.intCast_mul]
    congr 1
    have h1 : (f : Rat) * (Al.gi rs (rs.length - 1) : Rat) = (o : Rat) * (Al.gi us (q.len - 1) : Rat) := by rw [← Rat.intCast_mul, ← Rat.intCast_mul, hfo]
    generalize (Al.gi rs (rs.length - 1) : Rat) = a at *
    generalize (Al.gi us (q.len - 1) : Rat) = t at *
    generalize (bt : Rat) = x at *
    generalize (f : Rat) = y at *
    generalize (o : Rat) = z at *
    grind
  have e4 : Al.C (1 / ((bt * f : Int) : Rat)) * Al.C (f : Rat) = Al.C (1 / (bt : Rat)) := by
    rw [← Al.C_mul, Rat.intCast_mul]
    congr 1
    grind
  rw [e2, e1, e3, Al.C_mul]
  rw [← huz]
  generalize Al.C (1 / ((bt * f : Int) : Rat)) = u at *
  generalize Al.C (1 / (bt : Rat)) = v at *
  generalize Al.mo (o : Rat) (rs.length - q.len) = w at *
  generalize Al.C (f : Rat) = x at *
  generalize Al.ofL (List.replicate (rs.length + 1 - q.len) 0 ++ B.reverse) = y at *
  grind
theorem pow_pow_lt {a i : Nat} (h : a < 2 ^ i) (n : Nat) : a ^ n ≤ 2 ^ (i * n) := by
  rw [Nat.pow_mul]
  exact Nat.pow_le_pow_left (by omega) n
theorem mul_pow_lt {a b i j n k : Nat} (ha : a < 2 ^ i) (hb : b ≤ 2 ^ j) (h : i + j * n ≤ k) : a * b ^ n < 2 ^ k := by
  have h1 : b ^ n ≤ 2 ^ (j * n) := by
    rw [Nat.pow_mul]
    exact Nat.pow_le_pow_left hb n
  have h2 : 0 < 2 ^ (j * n) := Nat.two_pow_pos _
  have h3 : a * b ^ n < 2 ^ i * 2 ^ (j * n) := Nat.lt_of_le_of_lt (Nat.mul_le_mul_left a h1) (Nat.mul_lt_mul_of_pos_right ha h2)
  rw [← Nat.pow_add] at h3
  exact pow_lim h3 h
theorem two_le {a i : Nat} (h : a < 2 ^ i) : 2 * a ≤ 2 ^ (i + 1) := by rw [Nat.pow_succ]; omega
theorem three_le {a i : Nat} (h : a < 2 ^ i) : 3 * a ≤ 2 ^ (i + 2) := by rw [Nat.pow_succ, Nat.pow_succ]; omega
theorem Sz.divs {n k m j : Nat} {p q : Al.Poly} (h : Sz n k p) (g : Sz m j q) (hq : q ≠ 0) : Sz n (k + j + (j + 2) * (n + 1)) (Al.dv p q) ∧ Sz m (k + j + (j + 2) * (n + 1)) (Al.md p q) := by
  obtain ⟨hl, D, N, h, hD, hN⟩ := h
  obtain ⟨gl, E, M, g, hE, hM⟩ := g
  obtain ⟨T, t0, t1, hh⟩ := Al.div_h hq g
  obtain ⟨a, b⟩ := hh (n + 1) p D N (by omega) h
  have hT : T < 2 ^ j := by omega
  have e1 : D * T ^ (n + 1) < 2 ^ (k + j + (j + 2) * (n + 1)) := mul_pow_lt hD (Nat.le_of_lt hT) (by
    have : j * (n + 1) ≤ (j + 2) * (n + 1) := Nat.mul_le_mul_right _ (by omega)
    omega)
  refine ⟨⟨Nat.le_trans (Al.dv_len hq) hl, _, _, a, e1, ?_⟩, ⟨by have := Al.md_len (p := p) hq; omega, _, _, b, e1, ?_⟩⟩
  · exact mul_pow_lt (by rw [Nat.mul_comm]; exact pow_mul_lt hN hE) (three_le hM) (by omega)
  · refine mul_pow_lt hN (two_le hM) ?_
    have : (j + 1) * (n + 1) ≤ (j + 2) * (n + 1) := Nat.mul_le_mul_right _ (by omega)
    omega
theorem intsOf_map : ∀ ns : List Int, intsOf (ns.map .int) = some ns
  | [] => rfl
  | n :: ns => by
    show (intsOf (ns.map .int)).map (n :: ·) = _
    rw [intsOf_map ns]; rfl
theorem max_run {ns : List Int} (h : ns ≠ []) : ∃ m, m ∈ ns ∧ (∀ y ∈ ns, y ≤ m) ∧ maxF [.list (ns.map .int)] = .ok (.int m) := by
  cases ns with
  | nil => exact absurd rfl h
  | cons n ns =>
    obtain ⟨a, b⟩ := maxI_ge ns n
    refine ⟨maxI n ns, ?_, fun y hy => ?_, ?_⟩
    · rcases maxI_mem ns n with e | e
      · rw [e]; simp
      · exact List.mem_cons_of_mem _ e
    · rcases List.mem_cons.mp hy with rfl | hy
      · exact a
      · exact b y hy
    · have e : intsOf (PyData.int n :: ns.map PyData.int) = some (n :: ns) := intsOf_map (n :: ns)
      show (match intsOf (PyData.int n :: ns.map PyData.int) with | some (n :: ns) => R.ok (PyData.int (maxI n ns)) | _ => R.no) = _
      rw [e]
theorem bits_of {m : Int} (h : 0 < m) : m.natAbs < 2 ^ (Builtin.Int.intBits m) ∧ 0 < Builtin.Int.intBits m ∧ ∀ a, m.natAbs < 2 ^ a → Builtin.Int.intBits m ≤ a := by
  have e : Builtin.Int.intBits m = m.natAbs.log2 + 1 := by
    unfold Builtin.Int.intBits
    rw [if_neg (by simpa using (show m ≠ 0 by omega))]
  rw [e]
  refine ⟨Nat.lt_log2_self, by omega, fun a ha => ?_⟩
  have := (Nat.log2_lt (show m.natAbs ≠ 0 by omega)).mpr ha
  omega
end Br
namespace Br
open PySem PySem.Spec PyProof.Rows L2 Pu
theorem num_le' {a b : Int} (hb : b ≠ 0) : ((a : Rat) / (b : Rat)).num.natAbs ≤ a.natAbs ∧ ((a : Rat) / (b : Rat)).den ≤ b.natAbs := by
  obtain ⟨h3, h4⟩ := lowT_small (a := a) hb
  have e := low_rat (a := a) hb
  unfold frD frR at e
  simp only [PyData.tuple.injEq, List.cons.injEq, PyData.int.injEq, and_true] at e
  obtain ⟨e1, e2⟩ := e
  rw [← e1]
  exact ⟨h3, by omega⟩
theorem sr_div {a b : Int} (hb : b ≠ 0) (h1 : a.natAbs < 2 ^ 15960000) (h2 : b.natAbs < 2 ^ 15960000) : Sr ((a : Rat) / (b : Rat)) := ⟨Nat.lt_of_le_of_lt (num_le' hb).1 h1, Nat.lt_of_le_of_lt (num_le' hb).2 h2⟩
theorem rowD_one : rowD 1 = .tuple [.tuple [.int 1, .int 1]] := by
  have h : (Al.C 1 : Al.Poly).val = [1] := val_eq (by rw [Al.Poly.len_C (by decide)]; rfl) fun i => by
    rw [Al.c_C]
    cases i with
    | zero => simp
    | succ i => simp
  show rowD (Al.C 1) = _
  unfold rowD frsT
  rw [h]
  rfl
theorem rowD_zero : rowD 0 = .tuple [] := rfl
theorem sz_of {n k : Nat} {p : Al.Poly} {D N : Nat} (h : Al.Hn p D N) (hl : p.len ≤ n) (hD : D < 2 ^ k) (hN : N < 2 ^ k) : Sz n k p := ⟨hl, D, N, h, hD, hN⟩
theorem fit_one : Fit 1 := ⟨1, 1, Al.Hn.of1 fun i => by
    rw [Al.c_one]
    split
    · exact ⟨1, rfl, by decide⟩
    · exact ⟨0, rfl, by decide⟩, Nat.one_lt_two_pow (by decide), Nat.one_lt_two_pow (by decide)⟩
theorem sz_mul4 {k j : Nat} {p f : Al.Poly} (hp : Sz 10 k p) (h7 : p.len < 8) (hf : Sz 4 j f) : Sz 10 (k + j + 2) (p * f) := by
  obtain ⟨hl, D, N, hH, hD, hN⟩ := hp
  obtain ⟨gl, E, M, kH, hE, hM⟩ := hf
  have h1 := kH.mul hH
  rw [show f * p = p * f by grind] at h1
  refine ⟨by have := Al.len_mul_le p f; omega, _, _, h1, pow_lim (pow_mul_lt hE hD) (by omega), ?_⟩
  refine Nat.lt_of_le_of_lt (Nat.mul_le_mul_right _ gl) ?_
  have h3 := pow_mul_lt hM hN
  have h4 : 4 * 2 ^ (j + k) = 2 ^ (k + j + 2) := by rw [Nat.add_comm j k, Nat.pow_add _ (k + j) 2]; omega
  rw [← h4]
  omega
theorem sz_C {n k j : Nat} {p : Al.Poly} {a : Rat} (hp : Sz n k p) (h1 : a.num.natAbs < 2 ^ j) (h2 : a.den < 2 ^ j) : Sz n (j + k) (Al.C a * p) := by
  obtain ⟨hl, D, N, hH, hD, hN⟩ := hp
  have h := hH.mo_mul a 0
  rw [Al.mo_zero] at h
  refine ⟨?_, _, _, h, pow_mul_lt h2 hD, pow_mul_lt h1 hN⟩
  have := Al.len_mul_le (Al.C a) p
  have := Al.Poly.len_C_le a
  omega
theorem szz_of {n k : Nat} {p : Al.Poly} {D N : Nat} (h : Al.Hn p D N) (hl : p.len ≤ n) (hD : D < 2 ^ k) (hN : N < 2 ^ k) : Sz n k p := ⟨hl, D, N, h, hD, hN⟩
theorem Sz.zero {n k : Nat} (hk : 0 < k) : Sz n k 0 := ⟨Nat.zero_le _, 1, 0, Al.Hn.zero (by decide), Nat.one_lt_two_pow (by omega), Nat.two_pow_pos _⟩
theorem Sz.one {n k : Nat} (hn : 0 < n) (hk : 0 < k) : Sz n k 1 := ⟨by rw [Al.Poly.len_one]; exact hn, 1, 1, Al.Hn.of1 fun i => by
    rw [Al.c_one]
    split
    · exact ⟨1, rfl, by decide⟩
    · exact ⟨0, rfl, by decide⟩, Nat.one_lt_two_pow (by omega), Nat.one_lt_two_pow (by omega)⟩
theorem Sz.divsl {n k m j s : Nat} {p q : Al.Poly} (h : Sz n k p) (g : Sz m j q) (hq : q ≠ 0) (hs : p.len < q.len + s) : Sz n (k + j + (j + 2) * s) (Al.dv p q) ∧ Sz m (k + j + (j + 2) * s) (Al.md p q) := by
  obtain ⟨hl, D, N, hH, hD, hN⟩ := h
  obtain ⟨gl, E, M, kH, hE, hM⟩ := g
  obtain ⟨T, hT0, hTM, hh⟩ := Al.div_h hq kH
  obtain ⟨h1, h2⟩ := hh s p D N hs hH
  have bT : T < 2 ^ j := Nat.lt_of_le_of_lt hTM hM
  have e1 : j * s ≤ (j + 2) * s := Nat.mul_le_mul_right _ (by omega)
  have e2 : (j + 1) * s ≤ (j + 2) * s := Nat.mul_le_mul_right _ (by omega)
  have d1 : D * T ^ s < 2 ^ (k + j + (j + 2) * s) := mul_pow_lt hD (Nat.le_of_lt bT) (by omega)
  refine ⟨⟨Nat.le_trans (Al.dv_len hq) hl, _, _, h1, d1, ?_⟩, ⟨by have := Al.md_len (p := p) hq; omega, _, _, h2, d1, ?_⟩⟩
  · exact mul_pow_lt (pow_mul_lt hE hN) (three_le hM) (by omega)
  · exact mul_pow_lt hN (two_le hM) (by omega)
theorem fh_lt {n : Nat} (hn : n ≤ 31) : Al.fh n < 2 ^ (14 * n + 8) := by
  unfold Al.fh
  have h1 : (2 * n + 1) ^ (n + 1) ≤ 2 ^ (6 * (n + 1)) := pow_pow_lt (i := 6) (show 2 * n + 1 < 2 ^ 6 by omega) (n + 1)
  have h2 : (4 * n + 3) ^ n ≤ 2 ^ (7 * n) := pow_pow_lt (i := 7) (show 4 * n + 3 < 2 ^ 7 by omega) n
  have h3 := Nat.mul_le_mul h1 h2
  rw [← Nat.pow_add] at h3
  exact Nat.lt_of_le_of_lt h3 (Nat.pow_lt_pow_right (by decide) (by omega))
theorem Sz.unit {n k : Nat} {p : Al.Poly} (h : Sz n k p) : Sz n k (Al.unit p) := by
  obtain ⟨hl, D, N, hH, hD, hN⟩ := h
  by_cases h0 : p = 0
  · rw [h0, Al.unit_zero]
    exact ⟨Nat.zero_le _, D, N, Al.Hn.zero hH.1, hD, hN⟩
  · obtain ⟨t, et, ht0, ht⟩ := hH.lead h0
    obtain ⟨sg, hsg, hT2⟩ := Al.sgn_of t
    have hld := Al.Poly.ld_ne h0
    refine ⟨by unfold Al.unit; rw [Al.len_Cm (by grind)]; exact hl, t.natAbs, N, ⟨Int.natAbs_pos.mpr ht0, fun i => ?_⟩, Nat.lt_of_le_of_lt ht hN, hN⟩
    obtain ⟨x, ex, hx⟩ := hH.2 i
    refine ⟨sg * x, ?_, by rw [Int.natAbs_mul, hsg, Nat.one_mul]; exact hx⟩
    unfold Al.unit
    rw [Al.c_Cmul, hT2, ← et, Rat.intCast_mul, ← ex]
    grind
theorem pow_self_lt (α : Nat) : 2 ^ α < 2 ^ (α + 1) := Nat.pow_lt_pow_right (by decide) (by omega)
/-- what two rows share, in bits -/
structure ShB (p q : Al.Poly) (n α : Nat) : Prop where
  left : p = Al.dv p (Al.gc p q) * Al.gc p q
  right : q = Al.dv q (Al.gc p q) * Al.gc p q
  cop : Al.Cop (Al.dv p (Al.gc p q)) (Al.dv q (Al.gc p q))
  some : Al.dv q (Al.gc p q) ≠ 0
  g : Sz (n + 1) (α + 14 * n + 9) (Al.gc p q)
  one : Sz (n + 1) (2 * α + 14 * n + 9) (Al.dv p (Al.gc p q))
  other : Sz (n + 1) (2 * α + 14 * n + 9) (Al.dv q (Al.gc p q))
theorem shb_of {p q : Al.Poly} {n α : Nat} (hp : Sz (n + 1) α p) (hq : Sz (n + 1) α q) (hq0 : q ≠ 0) (hn : n ≤ 31) : ShB p q n α := by
  obtain ⟨hl, D1, N1, hH, hD, hN⟩ := hp
  obtain ⟨gl, D2, N2, kH, hE, hM⟩ := hq
  have sh := Al.shared_of (A := 2 ^ α) (n := n) hH kH hq0 (Nat.le_of_lt hN) (Nat.le_of_lt hM) hl gl
  have hG0 := (Al.gc_led (p := p) (q := q) (.inr hq0)).ne
  have hf := fh_lt hn
  have a1 := pow_self_lt α
  have b1 : 2 ^ α * Al.fh n < 2 ^ (α + 14 * n + 9) := pow_lim (pow_mul_lt a1 hf) (by omega)
  have b2 : 2 ^ α * 2 ^ α * Al.fh n < 2 ^ (2 * α + 14 * n + 9) := by
    rw [← Nat.pow_add]
    exact pow_lim (pow_mul_lt (pow_self_lt (α + α)) hf) (by omega)
  obtain ⟨L, h1, h2, h3⟩ := sh.g
  have hgl := Al.Poly.len_pos.mpr hG0
  refine ⟨sh.left, sh.right, sh.cop, sh.some, szz_of h3 ?_ (Nat.lt_of_le_of_lt h2 (Nat.pow_lt_pow_right (by decide) (by omega))) b1, szz_of sh.one ?_ (pow_lim hD (by omega)) b2, szz_of sh.other ?_ (pow_lim hE (by omega)) b2⟩
  · have := (Al.gc_right p q).len hq0
    omega
  · exact Nat.le_trans (Al.dv_len hG0) hl
  · exact Nat.le_trans (Al.dv_len hG0) gl
/-- a pair of the law's search, in bits -/
theorem eu_sz {p q one other : Al.Poly} {n α : Nat} (hp : Sz (n + 1) α p) (hq : Sz (n + 1) α q) (hq0 : q ≠ 0) (hn : n ≤ 31) (h : Al.Eu (Al.dv p (Al.gc p q)) (Al.dv q (Al.gc p q)) (Al.gc p q) one other) (ho : other ≠ 0) :
    other.len < one.len ∧ one.len ≤ q.len ∧ Sz (n + 1) ((α + 8) * (2 * (n + 1))) other := by
  have sh := shb_of hp hq hq0 hn
  obtain ⟨hl, D1, N1, hH, hD, hN⟩ := hp
  obtain ⟨gl, D2, N2, kH, hE, hM⟩ := hq
  have hG := Al.gc_led (p := p) (q := q) (.inr hq0)
  obtain ⟨t0, j, s1, s2, s3, s4, s5, s6, L, s7, s8, s9⟩ := h.size (a := Al.C (D1 : Rat) * p) (b := Al.C (D2 : Rat) * q) (c1 := (D1 : Rat)) (c2 := (D2 : Rat)) (A := 2 ^ α) (Al.natCast_ne hH.1) (Al.natCast_ne kH.1)
    (by rw [show Al.C (D1 : Rat) * Al.dv p (Al.gc p q) * Al.gc p q = Al.C (D1 : Rat) * (Al.dv p (Al.gc p q) * Al.gc p q) by grind, ← sh.left]) (by rw [show Al.C (D2 : Rat) * Al.dv q (Al.gc p q) * Al.gc p q = Al.C (D2 : Rat) * (Al.dv q (Al.gc p q) * Al.gc p q) by grind, ← sh.right])
    (hH.to_C.mono (Nat.le_of_lt hN)) (kH.to_C.mono (Nat.le_of_lt hM)) sh.some hG ho
  have hgl := Al.Poly.len_pos.mpr hG.ne
  have hQl : (Al.dv q (Al.gc p q)).len + (Al.gc p q).len = q.len + 1 := by
    have := Al.len_mul sh.some hG.ne
    rw [← sh.right] at this
    omega
  have hPl : (Al.dv p (Al.gc p q)).len ≤ n + 1 := Nat.le_trans (Al.dv_len hG.ne) hl
  have hQl' : (Al.dv q (Al.gc p q)).len ≤ n + 1 := Nat.le_trans (Al.dv_len hG.ne) gl
  have ht0 : 1 ≤ t0 := by omega
  have hj : j ≤ 2 * (n + 1) := by omega
  have c1 : 2 * j * 2 ^ α + 2 ≤ 2 ^ (α + 8) := by
    have h1 : 2 * j * 2 ^ α ≤ 128 * 2 ^ α := Nat.mul_le_mul_right _ (by omega)
    have h2 : 0 < 2 ^ α := Nat.two_pow_pos α
    have h3 : 2 ^ (α + 8) = 256 * 2 ^ α := by rw [Nat.pow_add]; omega
    omega
  have c2 : (2 * j * 2 ^ α + 2) ^ (j - 1) * 2 ^ α < 2 ^ (α + 1 + (α + 8) * (j - 1)) := by
    rw [Nat.mul_comm]
    exact mul_pow_lt (pow_self_lt α) c1 (Nat.le_refl _)
  have c3 : j * ((2 * j * 2 ^ α + 2) ^ (j - 1) * 2 ^ α) < 2 ^ ((α + 8) * (2 * (n + 1))) := by
    refine pow_lim (pow_mul_lt (show j < 2 ^ 7 by omega) c2) ?_
    have h1 : (α + 8) * j = (α + 8) * (j - 1) + (α + 8) := by
      rw [← Nat.mul_succ]
      congr 1
      omega
    have h2 : (α + 8) * j ≤ (α + 8) * (2 * (n + 1)) := Nat.mul_le_mul_left _ hj
    omega
  exact ⟨s2, by omega, szz_of s9 (by omega) (Nat.lt_of_le_of_lt s8 c3) c3⟩
theorem cut_m1 {xs : List PyData} : Pu.cutD xs (some (-1)) none = xs.drop (xs.length - 1) := by
  have e : HT.sIx xs.length 0 (some (-1)) = xs.length - 1 := by
    unfold HT.sIx
    simp
    omega
  unfold Pu.cutD
  rw [HT.sIx_none, e]
  exact List.take_of_length_le (by simp)
theorem drop_last1 {α : Type} {l : List α} (h : l ≠ []) : ∃ a, l.drop (l.length - 1) = [a] ∧ l[l.length - 1]? = some a := by
  have hp := List.length_pos_iff.mpr h
  refine ⟨l[l.length - 1], ?_, List.getElem?_eq_getElem _⟩
  rw [List.drop_eq_getElem_cons (by omega), List.drop_of_length_le (by omega)]
def RowOr (d : PyData) : Prop := ∃ p : Al.Poly, p.len ≤ 1000 ∧ d = rowD p
noncomputable def qtB (p q : Al.Poly) : Al.Poly := Al.unit (Al.dv q (Al.gc p q))
noncomputable def qtT (p q : Al.Poly) : Al.Poly := Al.C (1 / q.ld) * Al.dv p (Al.gc p q)
structure QtF (p q : Al.Poly) : Prop where
  led : Al.Led (qtB p q)
  cop : Al.Cop (qtT p q) (qtB p q)
  cross : p * qtB p q = q * qtT p q
theorem dv_C {c : Rat} {p q : Al.Poly} (hq : q ≠ 0) : Al.dv (Al.C c * p) q = Al.C c * Al.dv p q := by
  have h := Al.dv_md p q
  have hl := Al.md_len (p := p) hq
  refine (Al.dv_eq (w := Al.C c * Al.dv p q) (r := Al.C c * Al.md p q) ?_ ?_).1
  · have : Al.C c * p = Al.C c * (Al.dv p q * q + Al.md p q) := by rw [← h]
    rw [this]; grind
  · have h1 := Al.len_mul_le (Al.C c) (Al.md p q)
    have h2 := Al.Poly.len_C_le c
    have := Al.Poly.len_pos.mpr hq
    omega
theorem qtf_of {p q : Al.Poly} {n α : Nat} (sh : ShB p q n α) (hq : q ≠ 0) : QtF p q := by
  have hG := Al.gc_led (p := p) (q := q) (.inr hq)
  have e1 := sh.left
  have e2 := sh.right
  have hc := sh.cop
  have hQ := sh.some
  refine ⟨by unfold qtB; exact Al.unit_led hQ, ?_, ?_⟩
  · obtain ⟨x, y, e⟩ := hc
    have hld := Al.Poly.ld_ne hq
    have hld2 := Al.Poly.ld_ne hQ
    refine ⟨x * Al.C q.ld, y * Al.C (Al.dv q (Al.gc p q)).ld, ?_⟩
    unfold qtB qtT Al.unit
    have h1 := Al.C_cancel (show q.ld * (1 / q.ld) = 1 by grind) (Al.dv p (Al.gc p q))
    have h2 := Al.C_cancel (show (Al.dv q (Al.gc p q)).ld * (1 / (Al.dv q (Al.gc p q)).ld) = 1 by grind) (Al.dv q (Al.gc p q))
    rw [show x * Al.C q.ld * (Al.C (1 / q.ld) * Al.dv p (Al.gc p q)) = x * (Al.C q.ld * (Al.C (1 / q.ld) * Al.dv p (Al.gc p q))) by grind, h1,
      show y * Al.C (Al.dv q (Al.gc p q)).ld * (Al.C (1 / (Al.dv q (Al.gc p q)).ld) * Al.dv q (Al.gc p q)) = y * (Al.C (Al.dv q (Al.gc p q)).ld * (Al.C (1 / (Al.dv q (Al.gc p q)).ld) * Al.dv q (Al.gc p q))) by grind, h2, e]
  · unfold qtB qtT Al.unit
    have hl : (Al.dv q (Al.gc p q)).ld = q.ld := by
      have h := Al.ld_mul hQ hG.ne
      rw [← e2, show (Al.gc p q).ld = 1 from hG] at h
      grind
    rw [hl]
    generalize Al.gc p q = g at *
    generalize Al.dv p g = P at *
    generalize hQ' : Al.dv q g = Q at *
    have : p * (Al.C (1 / q.ld) * Q) = (P * g) * (Al.C (1 / q.ld) * Q) := by rw [← e1]
    rw [this]
    have : q * (Al.C (1 / q.ld) * P) = (Q * g) * (Al.C (1 / q.ld) * P) := by rw [← e2]
    rw [this]
    grind
theorem Sz.mul1 {n k m j : Nat} {p q : Al.Poly} (h : Sz (n + 1) k p) (g : Sz (m + 1) j q) (hn : n ≤ 1000) : Sz (n + m + 1) (k + j + 10) (p * q) := by
  have h1 := h.mul g (by omega)
  refine ⟨?_, h1.2⟩
  have h2 := Al.len_mul_le p q
  have h3 := h.1
  have h4 := g.1
  omega
theorem Sz.dr {n k : Nat} {p : Al.Poly} (h : Sz n k p) (hn : n ≤ 1024) : Sz n (k + 10) (Al.dr p) := by
  obtain ⟨hl, D, N, hH, hD, hN⟩ := h
  refine ⟨by rw [Al.dr_len]; omega, D, 1024 * N, ⟨hH.1, fun i => ?_⟩, pow_lim hD (by omega), by
    have := pow_mul_lt (show 1024 < 2 ^ 11 by decide) hN
    rw [Nat.pow_add]
    omega⟩
  rcases Nat.lt_or_ge (i + 1) p.len with hi | hi
  · obtain ⟨t, et, ht⟩ := hH.2 (i + 1)
    refine ⟨((i + 1 : Nat) : Int) * t, ?_, ?_⟩
    · rw [Al.c_dr, Rat.intCast_mul, ← et, Rat.intCast_natCast]; grind
    · rw [Int.natAbs_mul, Int.natAbs_natCast]
      exact Nat.mul_le_mul (by omega) ht
  · refine ⟨0, ?_, Nat.zero_le _⟩
    rw [Al.c_dr, Al.Poly.c_ge hi]
    show _ * 0 * _ = (0 : Rat)
    grind
structure Qt (n α : Nat) (p q : Al.Poly) : Prop where
  top : Sz (n + 1) α p
  bot : Sz (n + 1) α q
  led : Al.Led q
  cop : Al.Cop p q
theorem seq_split_ex {α : Type} {r : SR} {K : SEn → SR} {A : α → SR} {Pr : α → Prop} (P : SEn → Prop) (h1 : ∃ se, r = .next se ∧ P se) (h2 : ∀ se, P se → ∃ x, Pr x ∧ K se = A x) : ∃ x, Pr x ∧ r.seq K = A x := by
  obtain ⟨se, rfl, p⟩ := h1
  exact h2 se p
end Br
namespace Br
open PySem PySem.Spec PyProof.Rows L2 Pu
/-- what is led and divides a row is not much larger -/
theorem dvd_sz {F d : Al.Poly} {n α : Nat} (hF : Sz (n + 1) α F) (h0 : F ≠ 0) (hd : Al.Dvd d F) (hl : Al.Led d) (hn : n ≤ 31) : Sz (n + 1) (α + 14 * n + 9) d := by
  have hlen := hd.len h0
  obtain ⟨fl, D, N, hH, hD, hN⟩ := hF
  have hDr := Al.natCast_ne hH.1
  have ha := hH.to_C.mono (Nat.le_of_lt hN)
  have ha0 : Al.C (D : Rat) * F ≠ 0 := Al.mul_ne (Al.Poly.C_ne hDr) h0
  obtain ⟨c, g, hc, hg, eg, hgl⟩ := Al.prim_ex hl.ne
  have hga : Al.Dvd g (Al.C (D : Rat) * F) := Al.Dvd.trans ⟨Al.C c, eg⟩ (hd.mul _)
  obtain ⟨L, w, eL, hL, hLA, _, _, _, hgh⟩ := Al.parts_h (n := n) ha ha0 (by rw [Al.len_Cm hDr]; exact fl) hg hgl hga
  have hcL : c * (L : Rat) = 1 := by
    have h3 := Al.ld_mul (Al.Poly.C_ne hc) hg.ne
    rw [← eg, show d.ld = 1 from hl, Al.ld_C, eL] at h3
    exact h3.symm
  have e : Al.C (L : Rat) * d = g := by rw [eg, Al.C_cancel (by grind)]
  refine szz_of (Al.Hn.of_C hL (by rw [e]; exact hgh)) (by omega) (Nat.lt_of_le_of_lt hLA (Nat.pow_lt_pow_right (by decide) (by omega))) ?_
  exact pow_lim (pow_mul_lt (pow_self_lt α) (fh_lt hn)) (by omega)
def prtD (x : Al.Poly × Nat) : PyData := .tuple [rowD x.1, .int (x.2 : Int)]
@[simp] theorem lf_prtD (x : Al.Poly × Nat) : lf (prtD x) = true := by simp [prtD, lf, lfA]
theorem lfA_prts (L : List (Al.Poly × Nat)) : lfA (L.map prtD) = true := by
  induction L with
  | nil => rfl
  | cons a L ih => simp [lfA, ih]
theorem lfA_rows (L : List Al.Poly) : lfA (L.map rowD) = true := by
  induction L with
  | nil => rfl
  | cons a L ih => simp [lfA, ih]
/-- what cut gives -/
noncomputable def cutL (p q : Al.Poly) : List Al.Poly := [Al.gc p q, Al.dv p (Al.gc p q)].filter fun h => decide (1 < h.len)
noncomputable def cutAll (L : List (Al.Poly × Nat)) (q : Al.Poly) : List (Al.Poly × Nat) := L.flatMap fun x => (cutL x.1 q).map fun h => (h, x.2)
theorem hlenD (r : Al.Poly) : lenF [rowD r] = .ok (.int (r.len : Int)) := by
  unfold rowD frsT
  simp
  rfl
theorem lcD2_run {α : Type} {gt : PyData → En → Option En} {ft : En → R Bool} {fi1 : En → R (List PyData)} {gt1 : PyData → En → Option En} {ft1 : En → R Bool} {fe : En → R PyData} {vs1 : List Nat} {env : En} {ds : List PyData} {L : Option (List PyData)} (h : lcD2 gt ft fi1 gt1 ft1 fe vs1 env ds = L)
    (xs : List α) (φ : α → PyData) (ψ : α → List PyData) (hd : ds = xs.map φ) (hs : ∀ x ∈ xs, ∃ e, gt (φ x) env = some e ∧ ft e = .ok true ∧ ∃ ds1, fi1 e = .ok ds1 ∧ lcD gt1 ft1 fe (wipeE e vs1) ds1 = some (ψ x)) : L = some (xs.flatMap ψ) := by
  subst hd
  subst h
  induction xs with
  | nil => rfl
  | cons x xs ih =>
    obtain ⟨e, h1, h2, ds1, h3, h4⟩ := hs x (by simp)
    have ih' := ih fun y hy => hs y (by simp [hy])
    rw [List.map_cons, List.flatMap_cons]
    unfold lcD2
    rw [h1, Option.bind_some, h2]
    simp only [R.val, Option.bind_some, if_true]
    rw [h3]
    simp only [R.val, Option.bind_some]
    rw [h4, Option.bind_some, ih']
    rfl
theorem cutL_mem {p q h : Al.Poly} (hp : Al.Led p) (hh : h ∈ cutL p q) : Al.Led h ∧ Al.Dvd h p ∧ 1 < h.len := by
  unfold cutL at hh
  obtain ⟨h1, h2⟩ := List.mem_filter.mp hh
  have h3 : 1 < h.len := of_decide_eq_true h2
  have hG := Al.gc_led (p := p) (q := q) (.inl hp.ne)
  have dG := Al.gc_left p q
  have e := Al.dv_md p (Al.gc p q)
  rw [(Al.md_zero hG.ne).mpr dG] at e
  have e' : p = Al.dv p (Al.gc p q) * Al.gc p q := by
    conv => lhs; rw [e]
    grind
  rcases List.mem_cons.mp h1 with h | h
  · rw [h]
    exact ⟨hG, dG, by rw [← h]; exact h3⟩
  · rw [List.mem_singleton] at h
    rw [h]
    exact ⟨Al.ld_of_mul e' hp hG, ⟨Al.gc p q, e'.trans (by grind)⟩, by rw [← h]; exact h3⟩
/-- the degrees together -/
def wt (L : List (Al.Poly × Nat)) : Nat := (L.map fun x => x.1.len - 1).sum
theorem wt_cut {p q : Al.Poly} (hp : Al.Led p) (e : Nat) : wt ((cutL p q).map fun h => (h, e)) ≤ p.len - 1 := by
  have hG := Al.gc_led (p := p) (q := q) (.inl hp.ne)
  have dG := Al.gc_left p q
  have e1 := Al.dv_md p (Al.gc p q)
  rw [(Al.md_zero hG.ne).mpr dG] at e1
  have e' : p = Al.dv p (Al.gc p q) * Al.gc p q := by
    conv => lhs; rw [e1]
    grind
  have hA := Al.ld_of_mul e' hp hG
  have hl := Al.len_mul hA.ne hG.ne
  rw [← e'] at hl
  have g1 := Al.Poly.len_pos.mpr hG.ne
  have a1 := Al.Poly.len_pos.mpr hA.ne
  unfold cutL wt
  by_cases c1 : 1 < (Al.gc p q).len <;> by_cases c2 : 1 < (Al.dv p (Al.gc p q)).len <;> simp [c1, c2] <;> omega
theorem wt_cons (x : Al.Poly × Nat) (L : List (Al.Poly × Nat)) : wt (x :: L) = x.1.len - 1 + wt L := rfl
theorem wt_append (L M : List (Al.Poly × Nat)) : wt (L ++ M) = wt L + wt M := by
  unfold wt
  rw [List.map_append, List.sum_append]
theorem wt_all {q : Al.Poly} : ∀ L : List (Al.Poly × Nat), (∀ x ∈ L, Al.Led x.1) → wt (cutAll L q) ≤ wt L
  | [], _ => Nat.le_refl _
  | x :: L, h => by
    have h1 := wt_all (q := q) L fun y hy => h y (by simp [hy])
    have h2 := wt_cut (q := q) (h x (by simp)) x.2
    unfold cutAll at h1 ⊢
    rw [List.flatMap_cons, wt_append, wt_cons]
    omega
theorem len_wt : ∀ L : List (Al.Poly × Nat), (∀ x ∈ L, 1 < x.1.len) → L.length ≤ wt L
  | [], _ => Nat.le_refl _
  | x :: L, h => by
    have h1 := len_wt L fun y hy => h y (by simp [hy])
    have h2 := h x (by simp)
    rw [wt_cons, List.length_cons]
    omega
theorem wt_le {n : Nat} : ∀ L : List (Al.Poly × Nat), (∀ x ∈ L, x.1.len ≤ n + 1) → wt L ≤ n * L.length
  | [], _ => Nat.zero_le _
  | x :: L, h => by
    have h1 := wt_le L fun y hy => h y (by simp [hy])
    have h2 := h x (by simp)
    rw [wt_cons, List.length_cons, Nat.mul_succ]
    omega
theorem cutAll_mem {L : List (Al.Poly × Nat)} {q : Al.Poly} {y : Al.Poly × Nat} (h : y ∈ cutAll L q) : ∃ x ∈ L, y.1 ∈ cutL x.1 q ∧ y.2 = x.2 := by
  unfold cutAll at h
  obtain ⟨x, hx, hy⟩ := List.mem_flatMap.mp h
  obtain ⟨z, hz, rfl⟩ := List.mem_map.mp hy
  exact ⟨x, hx, hz, rfl⟩
end Br
/-! the rows that a row is cut into: free, apart, and ordered by their keys -/
namespace Br
open Al (Poly Led Dvd Cop)
/-! ### products of powers -/
noncomputable def prd (L : List (Poly × Nat)) : Poly := (L.map fun x => x.1 ^ x.2).foldr (· * ·) 1
theorem prd_nil : prd [] = 1 := rfl
theorem prd_cons (x : Poly × Nat) (L : List (Poly × Nat)) : prd (x :: L) = x.1 ^ x.2 * prd L := rfl
theorem prd_append : ∀ L M : List (Poly × Nat), prd (L ++ M) = prd L * prd M
  | [], M => by rw [List.nil_append, prd_nil]; grind
  | x :: L, M => by rw [List.cons_append, prd_cons, prd_append L M, prd_cons]; grind
theorem prd_led : ∀ L : List (Poly × Nat), (∀ x ∈ L, Led x.1) → Led (prd L)
  | [], _ => Al.led_one
  | x :: L, h => by
    rw [prd_cons]
    exact (Al.led_pow (h x (by simp)) x.2).mul (prd_led L fun y hy => h y (by simp [hy]))
theorem prd_cop {p : Poly} : ∀ L : List (Poly × Nat), (∀ x ∈ L, Cop x.1 p) → Cop (prd L) p
  | [], _ => Al.cop_one p
  | x :: L, h => by
    rw [prd_cons]
    exact ((h x (by simp)).pow x.2).mul (prd_cop L fun y hy => h y (by simp [hy]))
theorem one_npow : ∀ n : Nat, (1 : Poly) ^ n = 1
  | 0 => rfl
  | n + 1 => by rw [Al.pow_succ', one_npow n]; grind
theorem led_len_one {p : Poly} (h : Led p) (hl : p.len ≤ 1) : p = 1 := by
  have e := Al.Poly.len_one_iff.mp hl
  have h2 : p.c 0 = 1 := by
    have h3 : p.ld = 1 := h
    rw [e, Al.ld_C] at h3
    exact h3
  rw [h2] at e
  exact e
theorem cop_sq {d g : Poly} (h : Cop (d * g) (Al.dr (d * g))) : Cop d g ∧ Cop d (Al.dr d) ∧ Cop g (Al.dr g) := by
  obtain ⟨u, v, e⟩ := h
  rw [Al.dr_mul] at e
  exact ⟨⟨u * g + v * Al.dr g, v * Al.dr d, by rw [← e]; grind⟩, ⟨u * g + v * Al.dr g, v * g, by rw [← e]; grind⟩, ⟨u * d + v * Al.dr d, v * d, by rw [← e]; grind⟩⟩
theorem gc_split {p : Poly} (hp : Led p) (q : Poly) : Led (Al.gc p q) ∧ Led (Al.dv p (Al.gc p q)) ∧ p = Al.dv p (Al.gc p q) * Al.gc p q := by
  have hG := Al.gc_led (p := p) (q := q) (.inl hp.ne)
  have e1 := Al.dv_md p (Al.gc p q)
  rw [(Al.md_zero hG.ne).mpr (Al.gc_left p q)] at e1
  have e' : p = Al.dv p (Al.gc p q) * Al.gc p q := e1.trans (by grind)
  exact ⟨hG, Al.ld_of_mul e' hp hG, e'⟩
/-! ### the parts, apart and free -/
structure CF (L : List (Poly × Nat)) : Prop where
  each : ∀ x ∈ L, Led x.1 ∧ 1 < x.1.len ∧ 1 ≤ x.2 ∧ Cop x.1 (Al.dr x.1)
  apart : L.Pairwise fun x y => Cop x.1 y.1
theorem cutL_facts {p : Poly} (q : Poly) (hp : Led p) (hf : Cop p (Al.dr p)) : Cop (Al.dv p (Al.gc p q)) (Al.gc p q) ∧ (∀ h ∈ cutL p q, Cop h (Al.dr h)) ∧ Cop (Al.dv p (Al.gc p q)) q := by
  obtain ⟨hG, hA, e⟩ := gc_split hp q
  have hf' := hf
  rw [e] at hf'
  obtain ⟨c1, c2, c3⟩ := cop_sq hf'
  refine ⟨c1, fun h hh => ?_, ?_⟩
  · unfold cutL at hh
    rcases List.mem_cons.mp (List.mem_filter.mp hh).1 with z | z
    · rw [z]; exact c3
    · rw [List.mem_singleton.mp z]; exact c2
  · have k1 := Al.gc_left (Al.dv p (Al.gc p q)) q
    have k2 := Al.gc_right (Al.dv p (Al.gc p q)) q
    have k3 : Dvd (Al.gc (Al.dv p (Al.gc p q)) q) (Al.gc p q) := Al.gc_great (k1.trans ⟨Al.gc p q, e.trans (by grind)⟩) k2
    obtain ⟨u, v, e2⟩ := c1.dvd_left k1
    obtain ⟨w, e3⟩ := k3
    refine Al.cop_gc.mpr ((Al.gc_led (.inl hA.ne)).unique Al.led_one ⟨u + v * w, ?_⟩ ⟨Al.gc (Al.dv p (Al.gc p q)) q, by grind⟩)
    rw [← e2]
    conv => lhs; rw [e3]
    grind
theorem prd_cut {p : Poly} (q : Poly) (hp : Led p) (e : Nat) : prd ((cutL p q).map fun h => (h, e)) = p ^ e := by
  obtain ⟨hG, hA, e1⟩ := gc_split hp q
  have h1 : p ^ e = Al.gc p q ^ e * Al.dv p (Al.gc p q) ^ e := by
    conv => lhs; rw [e1]
    rw [Al.npow_mul_pow]
    grind
  have o1 : ∀ {r : Poly}, r = 1 → r ^ e = 1 := fun z => by
    rw [z]
    exact one_npow e
  rw [h1]
  unfold cutL
  by_cases c1 : 1 < (Al.gc p q).len <;> by_cases c2 : 1 < (Al.dv p (Al.gc p q)).len
  · simp [c1, c2, prd_cons, prd_nil]; grind
  · have := o1 (led_len_one hA (by omega))
    simp [c1, c2, prd_cons, prd_nil, this]
  · have := o1 (led_len_one hG (by omega))
    simp [c1, c2, prd_cons, prd_nil, this]; grind
  · have z1 := o1 (led_len_one hA (by omega))
    have z2 := o1 (led_len_one hG (by omega))
    simp [c1, c2, prd_nil, z1, z2]; grind
theorem prd_all (q : Poly) : ∀ L : List (Poly × Nat), (∀ x ∈ L, Led x.1) → prd (cutAll L q) = prd L
  | [], _ => rfl
  | x :: L, h => by
    have ih := prd_all q L fun y hy => h y (by simp [hy])
    unfold cutAll at ih ⊢
    rw [List.flatMap_cons, prd_append, ih, prd_cut q (h x (by simp)), prd_cons]
theorem cutL_pair {p q : Poly} {R : Poly → Poly → Prop} (h : R (Al.gc p q) (Al.dv p (Al.gc p q))) : (cutL p q).Pairwise R := by
  unfold cutL
  by_cases c1 : 1 < (Al.gc p q).len <;> by_cases c2 : 1 < (Al.dv p (Al.gc p q)).len <;> simp [c1, c2, h]
theorem CF.cut {L : List (Poly × Nat)} (c : CF L) (q : Poly) : CF (cutAll L q) := by
  refine ⟨fun y hy => ?_, ?_⟩
  · obtain ⟨x, hx, h1, h2⟩ := cutAll_mem hy
    obtain ⟨a, b, d, f⟩ := c.each x hx
    obtain ⟨l1, l2, l3⟩ := cutL_mem a h1
    exact ⟨l1, l3, by omega, (cutL_facts q a f).2.1 _ h1⟩
  · unfold cutAll
    rw [List.pairwise_flatMap]
    refine ⟨fun x hx => ?_, c.apart.imp_of_mem fun {x y} hx hy hxy => ?_⟩
    · obtain ⟨a, b, d, f⟩ := c.each x hx
      rw [List.pairwise_map]
      exact cutL_pair (cutL_facts q a f).1.symm
    · intro u hu v hv
      obtain ⟨u', hu', rfl⟩ := List.mem_map.mp hu
      obtain ⟨v', hv', rfl⟩ := List.mem_map.mp hv
      have d1 := (cutL_mem (c.each x hx).1 hu').2.1
      have d2 := (cutL_mem (c.each y hy).1 hv').2.1
      exact ((hxy.dvd_left d1).symm.dvd_left d2).symm
/-! ### the told rows -/
def TF (L : List (Poly × Nat)) (ts : List Poly) : Prop := ∀ x ∈ L, ∀ t ∈ ts, Dvd x.1 t ∨ Cop x.1 t
theorem TF.cut {L : List (Poly × Nat)} {ts : List Poly} (c : CF L) (k : TF L ts) (q : Poly) : TF (cutAll L q) (ts ++ [q]) := by
  intro y hy t ht
  obtain ⟨x, hx, h1, h2⟩ := cutAll_mem hy
  obtain ⟨a, b, d, f⟩ := c.each x hx
  have hd := (cutL_mem a h1).2.1
  rcases List.mem_append.mp ht with z | z
  · rcases k x hx t z with w | w
    · exact .inl (hd.trans w)
    · exact .inr (w.dvd_left hd)
  · rw [List.mem_singleton.mp z]
    unfold cutL at h1
    rcases List.mem_cons.mp (List.mem_filter.mp h1).1 with z | z
    · rw [z]; exact .inl (Al.gc_right _ _)
    · rw [List.mem_singleton.mp z]; exact .inr (cutL_facts q a f).2.2
/-! ### keys -/
open Classical in
noncomputable def kt (ts : List Poly) (p : Poly) : List Int := ts.map fun t => if Dvd p t then 0 else 1
noncomputable def key (ts : List Poly) (x : Poly × Nat) : List Int := (x.2 : Int) :: kt ts x.1
def kLt : List Int → List Int → Prop
  | a :: as, b :: bs => a < b ∨ (a = b ∧ kLt as bs)
  | _, _ => False
theorem kLt_app : ∀ {a b : List Int} (c d : List Int), kLt a b → kLt (a ++ c) (b ++ d)
  | [], _, _, _, h => h.elim
  | _ :: _, [], _, _, h => h.elim
  | x :: a, y :: b, c, d, h => by
    rcases h with h | ⟨h, k⟩
    · exact .inl h
    · exact .inr ⟨h, kLt_app c d k⟩
theorem kLt_pre : ∀ (a : List Int) {b c : List Int}, kLt b c → kLt (a ++ b) (a ++ c)
  | [], _, _, h => h
  | _ :: a, _, _, h => .inr ⟨rfl, kLt_pre a h⟩
theorem kLt_list : ∀ {a b : List Int}, kLt a b → PySem.W.listLt a b = true
  | [], _, h => h.elim
  | _ :: _, [], h => h.elim
  | x :: a, y :: b, h => by
    unfold PySem.W.listLt
    rcases h with h | ⟨h, k⟩
    · rw [if_neg (by omega)]
      exact decide_eq_true h
    · rw [if_pos h]
      exact kLt_list k
theorem cop_nd {p t : Poly} (hl : 1 < p.len) (c : Cop p t) : ¬ Dvd p t := fun ⟨w, e⟩ => by
  obtain ⟨u, v, e2⟩ := c
  have h1 : Dvd p 1 := ⟨u + v * w, by rw [← e2, e]; grind⟩
  have h2 := h1.len Al.led_one.ne
  have h3 : (1 : Poly).len ≤ 1 := Al.Poly.len_one_iff.mpr rfl
  omega
theorem kt_part {ts : List Poly} {p h : Poly} (hd : Dvd h p) (hl : 1 < h.len) (k : ∀ t ∈ ts, Dvd p t ∨ Cop p t) : kt ts h = kt ts p := by
  unfold kt
  refine List.map_congr_left fun t ht => ?_
  rcases k t ht with z | z
  · rw [if_pos z, if_pos (hd.trans z)]
  · rw [if_neg (cop_nd hl (z.dvd_left hd)), if_neg (fun w => cop_nd hl (z.dvd_left hd) (hd.trans w))]
def KF (L : List (Poly × Nat)) (ts : List Poly) : Prop := L.Pairwise fun x y => kLt (key ts x) (key ts y)
theorem kt_app (ts : List Poly) (q p : Poly) : kt (ts ++ [q]) p = kt ts p ++ kt [q] p := by unfold kt; rw [List.map_append]
theorem key_app (ts : List Poly) (q : Poly) (x : Poly × Nat) : key (ts ++ [q]) x = key ts x ++ kt [q] x.1 := by unfold key; rw [kt_app]; rfl
theorem KF.cut {L : List (Poly × Nat)} {ts : List Poly} (c : CF L) (t : TF L ts) (k : KF L ts) (q : Poly) : KF (cutAll L q) (ts ++ [q]) := by
  have hk : ∀ x ∈ L, ∀ h ∈ cutL x.1 q, key ts (h, x.2) = key ts x := fun x hx h hh => by
    obtain ⟨a, b, d⟩ := cutL_mem (c.each x hx).1 hh
    unfold key
    rw [kt_part b d (t x hx)]
  unfold KF cutAll
  rw [List.pairwise_flatMap]
  refine ⟨fun x hx => ?_, List.Pairwise.imp_of_mem (fun {x y} hx hy hxy => ?_) k⟩
  · obtain ⟨a, b, d, f⟩ := c.each x hx
    rw [List.pairwise_map]
    refine List.Pairwise.imp_of_mem (fun {u v} hu hv h => ?_) (cutL_pair (R := fun u v => u ∈ cutL x.1 q → v ∈ cutL x.1 q → kLt (kt [q] u) (kt [q] v)) (fun hu hv => ?_))
    · rw [key_app, key_app, hk x hx u hu, hk x hx v hv]
      exact kLt_pre _ (h hu hv)
    · have h1 := cop_nd (cutL_mem a hv).2.2 (cutL_facts q a f).2.2
      unfold kt
      rw [List.map_singleton, List.map_singleton, if_pos (Al.gc_right _ _), if_neg h1]
      exact .inl (by decide)
  · intro u hu v hv
    obtain ⟨u', hu', rfl⟩ := List.mem_map.mp hu
    obtain ⟨v', hv', rfl⟩ := List.mem_map.mp hv
    rw [key_app, key_app, hk x hx u' hu', hk y hy v' hv']
    exact kLt_app _ _ hxy
/-- all of it, told row by told row -/
structure AF (G : Poly) (L : List (Poly × Nat)) (ts : List Poly) : Prop where
  cf : CF L
  tf : TF L ts
  kf : KF L ts
  all : prd L = G
theorem AF.cut {G : Poly} {L : List (Poly × Nat)} {ts : List Poly} (a : AF G L ts) (q : Poly) : AF G (cutAll L q) (ts ++ [q]) :=
  ⟨a.cf.cut q, a.tf.cut a.cf q, a.kf.cut a.cf a.tf q, (prd_all q L fun x hx => (a.cf.each x hx).1).trans a.all⟩
theorem AF.cuts {G : Poly} : ∀ (us : List Poly) {L : List (Poly × Nat)} {ts : List Poly}, AF G L ts → AF G (us.foldl cutAll L) (ts ++ us)
  | [], L, ts, a => by rw [List.append_nil]; exact a
  | u :: us, L, ts, a => by
    have := AF.cuts us (a.cut u)
    rw [List.append_assoc] at this
    exact this
theorem mu_prd {h : Poly} (i : Al.Irr h) : ∀ L : List (Poly × Nat), (∀ x ∈ L, x.1 ≠ 0) → prd L ≠ 0 ∧ Al.mu h (prd L) = (L.map fun x => x.2 * Al.mu h x.1).sum
  | [], _ => ⟨Al.led_one.ne, by rw [prd_nil, Al.mu_one i]; rfl⟩
  | x :: L, k => by
    obtain ⟨h1, h2⟩ := mu_prd i L fun y hy => k y (by simp [hy])
    have h3 := Al.pow_ne (k x (by simp)) x.2
    rw [prd_cons]
    refine ⟨fun z => ?_, ?_⟩
    · have := Al.len_mul h3 h1
      rw [z, Al.Poly.len_zero] at this
      have := Al.Poly.len_pos.mpr h3
      have := Al.Poly.len_pos.mpr h1
      omega
    · rw [Al.mu_mul i h3 h1, Al.mu_pow i (k x (by simp)), h2]
      rfl
theorem sum_zero : ∀ (L : List (Poly × Nat)) (φ : Poly × Nat → Nat), (∀ x ∈ L, φ x = 0) → (L.map φ).sum = 0
  | [], _, _ => rfl
  | x :: L, φ, h => by
    rw [List.map_cons, List.sum_cons, h x (by simp), sum_zero L φ fun y hy => h y (by simp [hy])]
theorem sum_pick {h F : Poly} (φ : Poly × Nat → Nat) (hφ : ∀ x, φ x = x.2 * Al.mu h x.1) : ∀ L : List (Poly × Nat), (∀ x ∈ L, Al.mu h x.1 = if Al.mu h F = x.2 then 1 else 0) → L.Pairwise (fun x y => x.2 < y.2) → (∃ x ∈ L, x.2 = Al.mu h F) → (L.map φ).sum = Al.mu h F
  | [], _, _, ⟨x, hx, _⟩ => by cases hx
  | x :: L, hm, hp, ⟨y, hy, e⟩ => by
    rw [List.map_cons, List.sum_cons]
    rw [List.pairwise_cons] at hp
    by_cases hx : Al.mu h F = x.2
    · rw [sum_zero L φ fun z hz => ?_, hφ, hm x (by simp), if_pos hx]
      · omega
      · have := hp.1 z hz
        rw [hφ, hm z (by simp [hz]), if_neg (by omega), Nat.mul_zero]
    · have hy' : y ∈ L := by
        rcases List.mem_cons.mp hy with z | z
        · rw [z] at e; exact absurd e.symm hx
        · exact z
      rw [sum_pick φ hφ L (fun z hz => hm z (by simp [hz])) hp.2 ⟨y, hy', e⟩, hφ, hm x (by simp), if_neg hx]
      omega
theorem AF.start {F : Poly} (hF : F ≠ 0) {L : List (Poly × Nat)} (x : Al.PF F L) : AF (Al.unit F) L [] := by
  have hl : ∀ y ∈ L, Led y.1 := fun y hy => (x.each y hy).1
  refine ⟨⟨fun y hy => ?_, ?_⟩, fun y hy t ht => (by cases ht), ?_, ?_⟩
  · obtain ⟨a, b, c, d⟩ := x.each y hy
    refine ⟨a, b, c, Al.free_of_mu b fun h i => ?_⟩
    rw [d h i]
    split <;> omega
  · refine List.Pairwise.imp_of_mem (fun {y z} hy hz h => ?_) x.sorted
    obtain ⟨a, b, c, d⟩ := x.each y hy
    obtain ⟨a', b', c', d'⟩ := x.each z hz
    refine Al.cop_of_mu a.ne a'.ne fun k i => ?_
    rw [d k i, d' k i]
    by_cases w : Al.mu k F = y.2
    · rw [if_neg (show ¬ Al.mu k F = z.2 by omega)]; exact .inr rfl
    · rw [if_neg w]; exact .inl rfl
  · exact List.Pairwise.imp (fun {y z} h => .inl (by omega)) x.sorted
  · refine Al.eq_of_mu (prd_led L hl) (Al.unit_led hF) fun h i => ?_
    rw [(mu_prd i L fun y hy => (hl y hy).ne).2, Al.mu_unit i hF]
    by_cases w : 1 ≤ Al.mu h F
    · exact sum_pick _ (fun _ => rfl) L (fun y hy => (x.each y hy).2.2.2 h i) x.sorted (x.all h i w)
    · rw [sum_zero]
      · omega
      · intro y hy
        obtain ⟨a, b, c, d⟩ := x.each y hy
        rw [d h i, if_neg (by omega), Nat.mul_zero]
end Br
namespace Br
open Pu PySem PySem.Spec
theorem lt_ints {a b : List Int} (h : kLt a b) : cmpV .Lt (.list (a.map PyData.int)) (.list (b.map PyData.int)) = .ok (.bool true) := by
  have h1 : PySem.W.alike (.list (a.map PyData.int)) (.list (b.map PyData.int)) = true := PySem.W.DatumOrd.alike a b
  have h2 : PyData.depth (.list (a.map PyData.int)) ≤ 64 := Nat.le_trans (PySem.W.Datum.depth_le a) (by decide)
  have h3 : PySem.W.dataLt (.list (a.map PyData.int)) (.list (b.map PyData.int)) = true := (PySem.W.DatumOrd.lt_eq a b).trans (kLt_list h)
  show (if ltK _ _ then R.ok (PyData.bool (PySem.W.dataLt _ _)) else R.no) = _
  unfold ltK
  rw [h1, decide_eq_true h2, h3]
  rfl
theorem prd_take (L : List (Al.Poly × Nat)) (i : Nat) : Al.Dvd (prd (L.take i)) (prd L) := by
  refine ⟨prd (L.drop i), ?_⟩
  have := prd_append (L.take i) (L.drop i)
  rw [List.take_append_drop] at this
  rw [this]
  grind
theorem prd_mem {L : List (Al.Poly × Nat)} {x : Al.Poly × Nat} (h : x ∈ L) : Al.Dvd (x.1 ^ x.2) (prd L) := by
  obtain ⟨A, B, rfl⟩ := List.append_of_mem h
  rw [prd_append, prd_cons]
  exact ⟨prd A * prd B, by grind⟩
theorem pow_len {p : Al.Poly} (hl : 1 < p.len) : ∀ e : Nat, e < (p ^ e).len
  | 0 => by rw [Al.pow_zero', Al.Poly.len_one]; decide
  | e + 1 => by
    have ih := pow_len hl e
    have h1 : p ≠ 0 := fun z => by rw [z, Al.Poly.len_zero] at hl; omega
    have h2 := Al.len_mul (Al.pow_ne h1 e) h1
    rw [Al.pow_succ']
    omega
theorem prd_len : ∀ L : List (Al.Poly × Nat), (∀ x ∈ L, Al.Led x.1 ∧ 1 < x.1.len ∧ 1 ≤ x.2) → L.length < (prd L).len
  | [], _ => by rw [prd_nil, Al.Poly.len_one]; decide
  | x :: L, h => by
    have ih := prd_len L fun y hy => h y (by simp [hy])
    obtain ⟨a, b, c⟩ := h x (by simp)
    have h1 := pow_len b x.2
    have h2 := prd_led L fun y hy => (h y (by simp [hy])).1
    have h3 := Al.len_mul (Al.pow_ne a.ne x.2) h2.ne
    rw [prd_cons, List.length_cons]
    omega
theorem unit_back {F : Al.Poly} (h : F ≠ 0) : Al.C F.ld * Al.unit F = F := by
  have := Al.Poly.ld_ne h
  exact Al.C_cancel (by grind) F
theorem unit_dvd {F : Al.Poly} (h : F ≠ 0) : Al.Dvd (Al.unit F) F := ⟨Al.C F.ld, (unit_back h).symm⟩
theorem rowD_C {a : Rat} (h : a ≠ 0) : rowD (Al.C a) = .tuple [frR a] := by
  have h : (Al.C a : Al.Poly).val = [a] := val_eq (by rw [Al.Poly.len_C h]; rfl) fun i => by
    rw [Al.c_C]
    match i with
    | 0 => rfl
    | i + 1 => rfl
  unfold rowD frsT
  rw [h]
  rfl
end Br
namespace Br
open Pu PySem PySem.Spec
theorem lay_rows : ∀ ts : List Al.Poly, PyData.canLayAll0 (ts.map rowD) = true ∧ PyData.depthAll (ts.map rowD) ≤ 2
  | [] => ⟨rfl, by simp [PyData.depthAll]⟩
  | t :: ts => by
    obtain ⟨h1, h2⟩ := lay_rows ts
    have h3 := lay_frs t.val
    have h4 := dep_frs t.val
    refine ⟨?_, ?_⟩
    · simp [PyData.canLayAll0, rowD, frsT, PyData.canLay0, h1, h3]
    · simp [PyData.depthAll, rowD, frsT, PyData.depth] at h2 ⊢
      omega
theorem eq_rows (ts : List Al.Poly) : cmpV .Eq (.list (ts.map rowD)) (.list (ts.map rowD)) = .ok (.bool true) := by
  obtain ⟨h1, h2⟩ := lay_rows ts
  have hl : PyData.canLay0 (.list (ts.map rowD)) = true := by simp [PyData.canLay0, h1]
  have hs : SeqAt.shaped (.list (ts.map rowD)) = true := by
    simp [SeqAt.shaped, hl, PyData.depth]
    omega
  show (if SeqAt.shaped (.list (ts.map rowD)) && SeqAt.shaped (.list (ts.map rowD)) then R.ok (PyData.bool (PyData.eqv (.list (ts.map rowD)) (.list (ts.map rowD)))) else R.no) = _
  rw [hs, SeqAt.eqv_refl _ hl]
  rfl
end Br
namespace Q09
open PySem PySem.Spec PyProof.Rows L2 Pu Br
def topS (i : Nat) : Stmt := PySem.Challenge.pw_fractionparts_k09_whole_parts.main.body.getD i (.Pass ⟨0, 0, 0, 0⟩)
abbrev s_fraction : Stmt := topS 7
theorem sc_fraction : FnScope ["top", "bottom", "shared"] ["top", "bottom"] (defScope s_fraction) := ⟨rfl, rfl, rfl, by decide +kernel, rfl, by decide +kernel, by decide +kernel⟩
abbrev s_is_fraction : Stmt := topS 8
theorem sc_is_fraction : FnScope ["thing", "top", "bottom"] ["thing"] (defScope s_is_fraction) := ⟨rfl, rfl, rfl, by decide +kernel, rfl, by decide +kernel, by decide +kernel⟩
abbrev s_product_of : Stmt := topS 9
theorem sc_product_of : FnScope ["one", "other"] ["one", "other"] (defScope s_product_of) := ⟨rfl, rfl, rfl, by decide +kernel, rfl, by decide +kernel, by decide +kernel⟩
abbrev s_part_of : Stmt := topS 10
theorem sc_part_of : FnScope ["one", "other"] ["one", "other"] (defScope s_part_of) := ⟨rfl, rfl, rfl, by decide +kernel, rfl, by decide +kernel, by decide +kernel⟩
abbrev s_shared_divisor : Stmt := topS 13
theorem sc_shared_divisor : FnScope ["tops", "shared", "top"] ["tops"] (defScope s_shared_divisor) := ⟨rfl, rfl, rfl, by decide +kernel, rfl, by decide +kernel, by decide +kernel⟩
abbrev s_shortened : Stmt := topS 14
theorem sc_shortened : FnScope ["tops", "shared", "top"] ["tops"] (defScope s_shortened) := ⟨rfl, rfl, rfl, by decide +kernel, rfl, by decide +kernel, by decide +kernel⟩
abbrev s_without_last : Stmt := topS 15
theorem sc_without_last : FnScope ["things", "nought", "length"] ["things", "nought"] (defScope s_without_last) := ⟨rfl, rfl, rfl, by decide +kernel, rfl, by decide +kernel, by decide +kernel⟩
abbrev s_least_factors : Stmt := topS 16
theorem sc_least_factors : FnScope ["one", "other", "shared"] ["one", "other"] (defScope s_least_factors) := ⟨rfl, rfl, rfl, by decide +kernel, rfl, by decide +kernel, by decide +kernel⟩
abbrev s_taken_away : Stmt := topS 17
theorem sc_taken_away : FnScope ["one", "factor", "other", "often", "start", "rest", "place", "top"] ["one", "factor", "other", "often", "start"] (defScope s_taken_away) := ⟨rfl, rfl, rfl, by decide +kernel, rfl, by decide +kernel, by decide +kernel⟩
abbrev s_divides : Stmt := topS 18
theorem sc_divides : FnScope ["one", "other", "rest", "often", "left"] ["one", "other"] (defScope s_divides) := ⟨rfl, rfl, rfl, by decide +kernel, rfl, by decide +kernel, by decide +kernel⟩
abbrev s_value_at : Stmt := topS 19
theorem sc_value_at : FnScope ["tops", "bits", "value", "top"] ["tops", "bits"] (defScope s_value_at) := ⟨rfl, rfl, rfl, by decide +kernel, rfl, by decide +kernel, by decide +kernel⟩
abbrev s_tops_of_value : Stmt := topS 20
theorem sc_tops_of_value : FnScope ["value", "bits", "full", "found", "top"] ["value", "bits"] (defScope s_tops_of_value) := ⟨rfl, rfl, rfl, by decide +kernel, rfl, by decide +kernel, by decide +kernel⟩
abbrev s_shared_tops : Stmt := topS 21
theorem sc_shared_tops : FnScope ["one", "other", "bits", "found", "top"] ["one", "other"] (defScope s_shared_tops) := ⟨rfl, rfl, rfl, by decide +kernel, rfl, by decide +kernel, by decide +kernel⟩
abbrev s_is_row : Stmt := topS 23
theorem sc_is_row : FnScope ["thing", "part"] ["thing"] (defScope s_is_row) := ⟨rfl, rfl, rfl, by decide +kernel, rfl, by decide +kernel, by decide +kernel⟩
abbrev s_refuse_no_row : Stmt := topS 24
theorem sc_refuse_no_row : FnScope ["thing"] ["thing"] (defScope s_refuse_no_row) := ⟨rfl, rfl, rfl, by decide +kernel, rfl, by decide +kernel, by decide +kernel⟩
abbrev s_over_one_bottom : Stmt := topS 25
theorem sc_over_one_bottom : FnScope ["row", "bottom", "part", "top", "under"] ["row"] (defScope s_over_one_bottom) := ⟨rfl, rfl, rfl, by decide +kernel, rfl, by decide +kernel, by decide +kernel⟩
abbrev s_row_over : Stmt := topS 26
theorem sc_row_over : FnScope ["tops", "bottom", "top"] ["tops", "bottom"] (defScope s_row_over) := ⟨rfl, rfl, rfl, by decide +kernel, rfl, by decide +kernel, by decide +kernel⟩
abbrev s_divided : Stmt := topS 27
theorem sc_divided : FnScope ["one", "other", "backwards", "rest", "bottom", "taken", "taken_bottom", "factor", "often"] ["one", "other"] (defScope s_divided) := ⟨rfl, rfl, rfl, by decide +kernel, rfl, by decide +kernel, by decide +kernel⟩
abbrev s_rate : Stmt := topS 28
theorem sc_rate : FnScope ["row", "place", "part"] ["row"] (defScope s_rate) := ⟨rfl, rfl, rfl, by decide +kernel, rfl, by decide +kernel, by decide +kernel⟩
abbrev s_led : Stmt := topS 30
theorem sc_led : FnScope ["row", "part"] ["row"] (defScope s_led) := ⟨rfl, rfl, rfl, by decide +kernel, rfl, by decide +kernel, by decide +kernel⟩
abbrev s_whole_tops : Stmt := topS 31
theorem sc_whole_tops : FnScope ["row", "tops", "_"] ["row"] (defScope s_whole_tops) := ⟨rfl, rfl, rfl, by decide +kernel, rfl, by decide +kernel, by decide +kernel⟩
abbrev s_shared_row : Stmt := topS 32
theorem sc_shared_row : FnScope ["one", "other", "tops"] ["one", "other"] (defScope s_shared_row) := ⟨rfl, rfl, rfl, by decide +kernel, rfl, by decide +kernel, by decide +kernel⟩
abbrev s_refuse_no_rows : Stmt := topS 34
theorem sc_refuse_no_rows : FnScope ["told", "row"] ["told"] (defScope s_refuse_no_rows) := ⟨rfl, rfl, rfl, by decide +kernel, rfl, by decide +kernel, by decide +kernel⟩
abbrev s_parts_by_power : Stmt := topS 35
theorem sc_parts_by_power : FnScope ["row", "found", "further", "present", "power", "beyond", "part"] ["row"] (defScope s_parts_by_power) := ⟨rfl, rfl, rfl, by decide +kernel, rfl, by decide +kernel, by decide +kernel⟩
abbrev s_cut : Stmt := topS 36
theorem sc_cut : FnScope ["part", "row", "inside", "outside", "half"] ["part", "row"] (defScope s_cut) := ⟨rfl, rfl, rfl, by decide +kernel, rfl, by decide +kernel, by decide +kernel⟩
abbrev s_parts_of : Stmt := topS 37
theorem sc_parts_of : FnScope ["row", "told", "found", "other", "half", "part", "power"] ["row", "told"] (defScope s_parts_of) := ⟨rfl, rfl, rfl, by decide +kernel, rfl, by decide +kernel, by decide +kernel⟩
abbrev s_parts : Stmt := topS 38
theorem sc_parts : FnScope ["row", "told"] ["row", "told"] (defScope s_parts) := ⟨rfl, rfl, rfl, by decide +kernel, rfl, by decide +kernel, by decide +kernel⟩
abbrev s__law_cell_at : Stmt := topS 40
theorem sc__law_cell_at : FnScope ["_law_script", "_law_k"] ["_law_script", "_law_k"] (defScope s__law_cell_at) := ⟨rfl, rfl, rfl, by decide +kernel, rfl, by decide +kernel, by decide +kernel⟩
abbrev s__law_stream : Stmt := topS 41
theorem sc__law_stream : FnScope ["_law_cell", "_law_many_here", "_law_found", "_law_number_here", "_law_k"] ["_law_cell", "_law_many_here"] (defScope s__law_stream) := ⟨rfl, rfl, rfl, by decide +kernel, rfl, by decide +kernel, by decide +kernel⟩
abbrev s__law_whole : Stmt := topS 42
theorem sc__law_whole : FnScope ["_law_found"] ["_law_found"] (defScope s__law_whole) := ⟨rfl, rfl, rfl, by decide +kernel, rfl, by decide +kernel, by decide +kernel⟩
abbrev s__law_divisor : Stmt := topS 43
theorem sc__law_divisor : FnScope ["_law_one", "_law_other"] ["_law_one", "_law_other"] (defScope s__law_divisor) := ⟨rfl, rfl, rfl, by decide +kernel, rfl, by decide +kernel, by decide +kernel⟩
abbrev s__law_fraction : Stmt := topS 44
theorem sc__law_fraction : FnScope ["_law_top", "_law_bottom_here", "_law_by"] ["_law_top", "_law_bottom_here"] (defScope s__law_fraction) := ⟨rfl, rfl, rfl, by decide +kernel, rfl, by decide +kernel, by decide +kernel⟩
abbrev s__law_is_fraction : Stmt := topS 45
theorem sc__law_is_fraction : FnScope ["_law_found"] ["_law_found"] (defScope s__law_is_fraction) := ⟨rfl, rfl, rfl, by decide +kernel, rfl, by decide +kernel, by decide +kernel⟩
abbrev s__law_is_row : Stmt := topS 46
theorem sc__law_is_row : FnScope ["_law_found", "_law_part"] ["_law_found"] (defScope s__law_is_row) := ⟨rfl, rfl, rfl, by decide +kernel, rfl, by decide +kernel, by decide +kernel⟩
abbrev s__law_sum : Stmt := topS 47
theorem sc__law_sum : FnScope ["_law_one", "_law_other"] ["_law_one", "_law_other"] (defScope s__law_sum) := ⟨rfl, rfl, rfl, by decide +kernel, rfl, by decide +kernel, by decide +kernel⟩
abbrev s__law_product : Stmt := topS 48
theorem sc__law_product : FnScope ["_law_one", "_law_other"] ["_law_one", "_law_other"] (defScope s__law_product) := ⟨rfl, rfl, rfl, by decide +kernel, rfl, by decide +kernel, by decide +kernel⟩
abbrev s__law_trim : Stmt := topS 49
theorem sc__law_trim : FnScope ["_law_row"] ["_law_row"] (defScope s__law_trim) := ⟨rfl, rfl, rfl, by decide +kernel, rfl, by decide +kernel, by decide +kernel⟩
abbrev s__law_plus : Stmt := topS 50
theorem sc__law_plus : FnScope ["_law_one", "_law_other", "_law_size", "_law_x", "_law_y"] ["_law_one", "_law_other"] (defScope s__law_plus) := ⟨rfl, rfl, rfl, by decide +kernel, rfl, by decide +kernel, by decide +kernel⟩
abbrev s__law_scale : Stmt := topS 51
theorem sc__law_scale : FnScope ["_law_row", "_law_number_here", "_law_part"] ["_law_row", "_law_number_here"] (defScope s__law_scale) := ⟨rfl, rfl, rfl, by decide +kernel, rfl, by decide +kernel, by decide +kernel⟩
abbrev s__law_times : Stmt := topS 52
theorem sc__law_times : FnScope ["_law_one", "_law_other", "_law_found", "_law_k"] ["_law_one", "_law_other"] (defScope s__law_times) := ⟨rfl, rfl, rfl, by decide +kernel, rfl, by decide +kernel, by decide +kernel⟩
abbrev s__law_rate : Stmt := topS 53
theorem sc__law_rate : FnScope ["_law_row", "_law_k"] ["_law_row"] (defScope s__law_rate) := ⟨rfl, rfl, rfl, by decide +kernel, rfl, by decide +kernel, by decide +kernel⟩
abbrev s__law_power : Stmt := topS 54
theorem sc__law_power : FnScope ["_law_row", "_law_power_here", "_law_found", "_law_k"] ["_law_row", "_law_power_here"] (defScope s__law_power) := ⟨rfl, rfl, rfl, by decide +kernel, rfl, by decide +kernel, by decide +kernel⟩
abbrev s__law_divide : Stmt := topS 55
theorem sc__law_divide : FnScope ["_law_one", "_law_other", "_law_whole_here", "_law_by", "_law_piece"] ["_law_one", "_law_other"] (defScope s__law_divide) := ⟨rfl, rfl, rfl, by decide +kernel, rfl, by decide +kernel, by decide +kernel⟩
abbrev s__law_led : Stmt := topS 56
theorem sc__law_led : FnScope ["_law_row"] ["_law_row"] (defScope s__law_led) := ⟨rfl, rfl, rfl, by decide +kernel, rfl, by decide +kernel, by decide +kernel⟩
abbrev s__law_shared : Stmt := topS 57
theorem sc__law_shared : FnScope ["_law_one", "_law_other"] ["_law_one", "_law_other"] (defScope s__law_shared) := ⟨rfl, rfl, rfl, by decide +kernel, rfl, by decide +kernel, by decide +kernel⟩
abbrev s__law_number : Stmt := topS 58
theorem sc__law_number : FnScope ["_law_x"] ["_law_x"] (defScope s__law_number) := ⟨rfl, rfl, rfl, by decide +kernel, rfl, by decide +kernel, by decide +kernel⟩
abbrev s__law_row_by : Stmt := topS 59
theorem sc__law_row_by : FnScope ["_law_x", "_law_most", "_law_xs", "_law_k"] ["_law_x", "_law_most"] (defScope s__law_row_by) := ⟨rfl, rfl, rfl, by decide +kernel, rfl, by decide +kernel, by decide +kernel⟩
abbrev s__law_factors : Stmt := topS 60
theorem sc__law_factors : FnScope ["_law_x", "_law_many_here", "_law_xs", "_law_low", "_law_found", "_law_k", "_law_at", "_law_number_here", "_law_low_end", "_law_row", "_law_square"] ["_law_x", "_law_many_here"] (defScope s__law_factors) := ⟨rfl, rfl, rfl, by decide +kernel, rfl, by decide +kernel, by decide +kernel⟩
abbrev s__law_powers : Stmt := topS 61
theorem sc__law_powers : FnScope ["_law_x", "_law_rows", "_law_xs", "_law_room", "_law_powers_here", "_law_k", "_law_size", "_law_most"] ["_law_x", "_law_rows"] (defScope s__law_powers) := ⟨rfl, rfl, rfl, by decide +kernel, rfl, by decide +kernel, by decide +kernel⟩
abbrev s__law_many : Stmt := topS 62
theorem sc__law_many : FnScope ["_law_x"] ["_law_x"] (defScope s__law_many) := ⟨rfl, rfl, rfl, by decide +kernel, rfl, by decide +kernel, by decide +kernel⟩
abbrev s__law_bottom : Stmt := topS 63
theorem sc__law_bottom : FnScope ["_law_rows", "_law_powers_here", "_law_found", "_law_row", "_law_power_here"] ["_law_rows", "_law_powers_here"] (defScope s__law_bottom) := ⟨rfl, rfl, rfl, by decide +kernel, rfl, by decide +kernel, by decide +kernel⟩
abbrev s__law_told : Stmt := topS 64
theorem sc__law_told : FnScope ["_law_x", "_law_rows", "_law_xs", "_law_told_here", "_law_k", "_law_way", "_law_row", "_law_j"] ["_law_x", "_law_rows"] (defScope s__law_told) := ⟨rfl, rfl, rfl, by decide +kernel, rfl, by decide +kernel, by decide +kernel⟩
abbrev s__law_divides : Stmt := topS 65
theorem sc__law_divides : FnScope ["_law_part", "_law_row"] ["_law_part", "_law_row"] (defScope s__law_divides) := ⟨rfl, rfl, rfl, by decide +kernel, rfl, by decide +kernel, by decide +kernel⟩
abbrev s__law_one_right : Stmt := topS 66
theorem sc__law_one_right : FnScope ["_law_part", "_law_power_here", "_law_told_here", "_law_row"] ["_law_part", "_law_power_here", "_law_told_here"] (defScope s__law_one_right) := ⟨rfl, rfl, rfl, by decide +kernel, rfl, by decide +kernel, by decide +kernel⟩
abbrev s__law_key : Stmt := topS 67
theorem sc__law_key : FnScope ["_law_part", "_law_power_here", "_law_told_here", "_law_row"] ["_law_part", "_law_power_here", "_law_told_here"] (defScope s__law_key) := ⟨rfl, rfl, rfl, by decide +kernel, rfl, by decide +kernel, by decide +kernel⟩
abbrev s__law_right : Stmt := topS 68
theorem sc__law_right : FnScope ["_law_found", "_law_row", "_law_told_here", "_law_product_here", "_law_keys", "_law_pair", "_law_k"] ["_law_found", "_law_row", "_law_told_here"] (defScope s__law_right) := ⟨rfl, rfl, rfl, by decide +kernel, rfl, by decide +kernel, by decide +kernel⟩
abbrev s_law : Stmt := topS 69
theorem sc_law : FnScope ["_law_script", "_law_xs", "_law_rows", "_law_number_here", "_law_row", "_law_told_here", "_law_handed", "_law_found"] ["_law_script"] (defScope s_law) := ⟨rfl, rfl, rfl, by decide +kernel, rfl, by decide +kernel, by decide +kernel⟩
structure Txt (D : Wd) : Prop where
  n_abs : D.mg "abs" = none
  n_all : D.mg "all" = none
  n_bool : D.mg "bool" = none
  n_divmod : D.mg "divmod" = none
  n_enumerate : D.mg "enumerate" = none
  n_int : D.mg "int" = none
  n_isinstance : D.mg "isinstance" = none
  n_len : D.mg "len" = none
  n_list : D.mg "list" = none
  n_max : D.mg "max" = none
  n_min : D.mg "min" = none
  n_range : D.mg "range" = none
  n_reversed : D.mg "reversed" = none
  n_tuple : D.mg "tuple" = none
  n_type : D.mg "type" = none
  n_zip : D.mg "zip" = none
  m_gcd : D.mg "gcd" = some (.builtin "math.gcd")
  m_lcm : D.mg "lcm" = some (.builtin "math.lcm")
  c_ZERO : Const D "ZERO" (.tuple [(.int 0), (.int 1)])
  c_SPARE_BITS : Const D "SPARE_BITS" (.int 32)
  x_NoRow : ExcOk D "NoRow"
  x_Nought : ExcOk D "Nought"
  x_PartError : ExcOk D "PartError"
  d_fraction : DefOk D "fraction" s_fraction ["top", "bottom"]
  d_is_fraction : DefOk D "is_fraction" s_is_fraction ["thing"]
  d_product_of : DefOk D "product_of" s_product_of ["one", "other"]
  d_part_of : DefOk D "part_of" s_part_of ["one", "other"]
  d_shared_divisor : DefOk D "shared_divisor" s_shared_divisor ["tops"]
  d_shortened : DefOk D "shortened" s_shortened ["tops"]
  d_without_last : DefOk D "without_last" s_without_last ["things", "nought"]
  d_least_factors : DefOk D "least_factors" s_least_factors ["one", "other"]
  d_taken_away : DefOk D "taken_away" s_taken_away ["one", "factor", "other", "often", "start"]
  d_divides : DefOk D "divides" s_divides ["one", "other"]
  d_value_at : DefOk D "value_at" s_value_at ["tops", "bits"]
  d_tops_of_value : DefOk D "tops_of_value" s_tops_of_value ["value", "bits"]
  d_shared_tops : DefOk D "shared_tops" s_shared_tops ["one", "other"]
  d_is_row : DefOk D "is_row" s_is_row ["thing"]
  d_refuse_no_row : DefOk D "refuse_no_row" s_refuse_no_row ["thing"]
  d_over_one_bottom : DefOk D "over_one_bottom" s_over_one_bottom ["row"]
  d_row_over : DefOk D "row_over" s_row_over ["tops", "bottom"]
  d_divided : DefOk D "divided" s_divided ["one", "other"]
  d_rate : DefOk D "rate" s_rate ["row"]
  d_led : DefOk D "led" s_led ["row"]
  d_whole_tops : DefOk D "whole_tops" s_whole_tops ["row"]
  d_shared_row : DefOk D "shared_row" s_shared_row ["one", "other"]
  d_refuse_no_rows : DefOk D "refuse_no_rows" s_refuse_no_rows ["told"]
  d_parts_by_power : DefOk D "parts_by_power" s_parts_by_power ["row"]
  d_cut : DefOk D "cut" s_cut ["part", "row"]
  d_parts_of : DefOk D "parts_of" s_parts_of ["row", "told"]
  d_parts : DefOk D "parts" s_parts ["row", "told"]
  d__law_cell_at : DefOk D "_law_cell_at" s__law_cell_at ["_law_script", "_law_k"]
  d__law_stream : DefOk D "_law_stream" s__law_stream ["_law_cell", "_law_many_here"]
  d__law_whole : DefOk D "_law_whole" s__law_whole ["_law_found"]
  d__law_divisor : DefOk D "_law_divisor" s__law_divisor ["_law_one", "_law_other"]
  d__law_fraction : DefOk D "_law_fraction" s__law_fraction ["_law_top", "_law_bottom_here"]
  d__law_is_fraction : DefOk D "_law_is_fraction" s__law_is_fraction ["_law_found"]
  d__law_is_row : DefOk D "_law_is_row" s__law_is_row ["_law_found"]
  d__law_sum : DefOk D "_law_sum" s__law_sum ["_law_one", "_law_other"]
  d__law_product : DefOk D "_law_product" s__law_product ["_law_one", "_law_other"]
  d__law_trim : DefOk D "_law_trim" s__law_trim ["_law_row"]
  d__law_plus : DefOk D "_law_plus" s__law_plus ["_law_one", "_law_other"]
  d__law_scale : DefOk D "_law_scale" s__law_scale ["_law_row", "_law_number_here"]
  d__law_times : DefOk D "_law_times" s__law_times ["_law_one", "_law_other"]
  d__law_rate : DefOk D "_law_rate" s__law_rate ["_law_row"]
  d__law_power : DefOk D "_law_power" s__law_power ["_law_row", "_law_power_here"]
  d__law_divide : DefOk D "_law_divide" s__law_divide ["_law_one", "_law_other"]
  d__law_led : DefOk D "_law_led" s__law_led ["_law_row"]
  d__law_shared : DefOk D "_law_shared" s__law_shared ["_law_one", "_law_other"]
  d__law_number : DefOk D "_law_number" s__law_number ["_law_x"]
  d__law_row_by : DefOk D "_law_row_by" s__law_row_by ["_law_x", "_law_most"]
  d__law_factors : DefOk D "_law_factors" s__law_factors ["_law_x", "_law_many_here"]
  d__law_powers : DefOk D "_law_powers" s__law_powers ["_law_x", "_law_rows"]
  d__law_many : DefOk D "_law_many" s__law_many ["_law_x"]
  d__law_bottom : DefOk D "_law_bottom" s__law_bottom ["_law_rows", "_law_powers_here"]
  d__law_told : DefOk D "_law_told" s__law_told ["_law_x", "_law_rows"]
  d__law_divides : DefOk D "_law_divides" s__law_divides ["_law_part", "_law_row"]
  d__law_one_right : DefOk D "_law_one_right" s__law_one_right ["_law_part", "_law_power_here", "_law_told_here"]
  d__law_key : DefOk D "_law_key" s__law_key ["_law_part", "_law_power_here", "_law_told_here"]
  d__law_right : DefOk D "_law_right" s__law_right ["_law_found", "_law_row", "_law_told_here"]
  d_law : DefOk D "law" s_law ["_law_script"]
variable {D : Wd}
def M31 : Int := 2147483647
def Φ_fraction (Fn : List PyData → R PyData) : Prop := (∀ a : Int, Fn [.int a, .int 0] = .ex "Nought") ∧ ∀ a b : Int, b ≠ 0 → b.natAbs < 2 ^ 32000000 → Fn [.int a, .int b] = .ok (frR ((a : Rat) / (b : Rat)))
theorem spec_fraction (T : Txt D) : Spec D 33 "fraction" 2 Φ_fraction := by
  refine ⟨_, fn_of' T.d_fraction sc_fraction (pub_cons (pus_if [] (purt_cmp (pur_var 1) pur_int) (pub_one (pus_raise T.x_Nought)) pub_nil)
    (pub_cons (pus_set 2 [] (pur_bltI blt_gcd T.m_gcd (pura_cons (pur_var 0) (pura_cons (pur_var 1) pura_nil))))
    (pub_cons (pus_if [] (purt_cmp (pur_var 1) pur_int) (pub_one (pus_set 2 [] (pur_neg (pur_var 2)))) pub_nil)
    (pub_one (pus_ret [] (pur_tup (pura_cons (pur_bin (pur_var 0) (pur_var 2)) (pura_cons (pur_bin (pur_var 1) (pur_var 2)) pura_nil)))))))), ?_⟩
  refine ⟨fun a => rfl, fun a b hb hs => ?_⟩
  have hs' : (lowS a b).natAbs < 2 ^ 32000000 := by
    rw [lowS_abs]
    exact Nat.lt_of_le_of_lt (Nat.gcd_le_right _ (by omega)) hs
  have d1 : ∀ x : Int, divOk x (lowS a b) = true := fun x => divOk_of (b := 32000000) (lowS_ne hb) hs' (by decide) (by decide)
  rw [← low_rat hb]
  unfold lowS at d1
  by_cases h : b < 0
  · simp [h] at d1
    simp -implicitDefEqProofs [runD, startE, cmpV, boolOf, hb, h, storeV, lf, opV, d1, szOk_of, frD, lowT, lowS]
  · simp [h] at d1
    simp -implicitDefEqProofs [runD, startE, cmpV, boolOf, hb, h, storeV, lf, opV, d1, szOk_of, frD, lowT, lowS]
def Φ_is_fraction (Fn : List PyData → R PyData) : Prop := ∀ d, Fn [d] = .ok (.bool (isFrB d))
theorem spec_is_fraction (T : Txt D) : Spec D 33 "is_fraction" 1 Φ_is_fraction := by
  refine ⟨_, fn_of' T.d_is_fraction sc_is_fraction (pub_cons (pus_if [] (purt_w (purw_or (purt_typeNot (T := "tuple") T.n_type T.n_tuple (pur_var 0)) (purw_or1 (purt_cmp (pur_blt blt_len T.n_len (pura_cons (pur_var 0) pura_nil)) pur_int)))) (pub_one (pus_ret [] pur_bool)) pub_nil)
    (pub_cons (pus_asg [] (pur_var 0) (pug_tup (n := 2) (pugs_cons (pug_name 1) (pugs_cons (pug_name 2) pugs_nil))))
    (pub_cons (pus_if [] (purt_w (purw_or (purt_typeNot (T := "int") T.n_type T.n_int (pur_var 1)) (purw_or1 (purt_typeNot (T := "int") T.n_type T.n_int (pur_var 2))))) (pub_one (pus_ret [] pur_bool)) pub_nil)
    (pub_one (pus_ret [] (pur_and (pur_cmp (pur_var 2) pur_int) (pur_one (pur_cmp (pur_bltI blt_gcd T.m_gcd (pura_cons (pur_var 1) (pura_cons (pur_var 2) pura_nil))) pur_int)))))))), ?_⟩
  intro d
  cases d with
  | tuple ds =>
    rcases ds with _ | ⟨a, _ | ⟨b, _ | ⟨c, ds⟩⟩⟩
    · simp -implicitDefEqProofs [runD, startE, cmpV, boolOf, isFrB]
    · simp -implicitDefEqProofs [runD, startE, cmpV, boolOf, isFrB]
    · cases a <;> cases b <;> simp -implicitDefEqProofs [runD, startE, cmpV, boolOf, isFrB]
      rename_i a b
      by_cases h : 1 ≤ b
      · have : (((Nat.gcd a.natAbs b.natAbs : Nat) : Int) = 1) ↔ (Nat.gcd a.natAbs b.natAbs = 1) := by omega
        simp [truth, h, this]
      · simp [truth, h]
    · have : ¬ ((ds.length : Int) + 1 + 1 + 1 = 2) := by omega
      simp -implicitDefEqProofs [runD, startE, cmpV, boolOf, isFrB, this]
  | _ => simp -implicitDefEqProofs [runD, startE, cmpV, boolOf, isFrB]
def Φ__law_cell_at (Fn : List PyData → R PyData) : Prop := ∀ (xs : List Int) (k : Nat), Fn [.list (xs.map .int), .int k] = .ok (.int (xs.getD k 0))
theorem spec__law_cell_at (T : Txt D) : Spec D 33 "_law_cell_at" 2 Φ__law_cell_at := by
  refine ⟨_, fn_of' T.d__law_cell_at sc__law_cell_at (pub_cons (pus_if [] (purt_cmp (pur_var 1) (pur_blt blt_len T.n_len (pura_cons (pur_var 0) pura_nil))) (pub_one (pus_ret [] (pur_ix (pur_var 0) (pur_var 1)))) pub_nil)
    (pub_one (pus_ret [] pur_int))), ?_⟩
  intro xs k
  by_cases h : k < xs.length
  · have e : atI (xs.map PyData.int) (k : Int) = some (.int (xs.getD k 0)) := atI_nat (by simp [h])
    simp -implicitDefEqProofs [runD, startE, cmpV, boolOf, h, e]
  · simp -implicitDefEqProofs [runD, startE, cmpV, boolOf, h, SR.seq]
def Φ__law_stream (Fn : List PyData → R PyData) : Prop := ∀ (c : Int) (many : Nat), many ≤ 1000 → ∃ xs : List Int, xs.length = many ∧ (∀ x ∈ xs, 0 ≤ x ∧ x < M31) ∧ Fn [.int c, .int many] = .ok (.list (xs.map .int))
theorem spec__law_stream (T : Txt D) : Spec D 33 "_law_stream" 2 Φ__law_stream := by
  refine ⟨_, fn_of' T.d__law_stream sc__law_stream (pub_cons (pus_setL 2 [] (purl_lst pura_nil))
    (pub_cons (pus_set 3 [] (pur_bin (pur_bin (pur_var 0) pur_int) pur_int))
    (pub_cons (pus_for [] (puri_range1 T.n_range (pura_cons (pur_bin (pur_var 1) pur_int) pura_nil)) (pug_name 4) (pub_cons (pus_set 3 [] (pur_bin (pur_bin (pur_bin (pur_bin (pur_var 3) (pur_var 3)) (pur_bin pur_int (pur_var 3))) (pur_var 4)) pur_int))
    (pub_one (pus_append 2 [] (pur_var 3)))))
    (pub_one (pus_ret [2] (pur_slice (pur_var 2) (puro_some pur_int) puro_none)))))), ?_⟩
  intro c many hm
  have e0 : rngOk ((many : Int) + 1) = true := by
    unfold rngOk
    simp only [Bool.and_eq_true, decide_eq_true_eq]
    omega
  have n0 : c.fmod 2147483647 = c % 2147483647 := fmod_pos (by decide)
  refine runD_ret_ex ?_
  simp -implicitDefEqProofs [startE, storeV, storeL, lf, lfA, opV, range1F, e0, szOk_of]
  generalize hF : forD _ _ _ _ = r
  have := forD_rule hF (fun i se => ∃ (acc : List Int) (x : Int) (o : Option (PyData × Bool)), acc.length = i ∧ (∀ y ∈ acc, 0 ≤ y ∧ y < M31) ∧ 0 ≤ x ∧ x < 2147531918 ∧
      se = [some (.int c, false), some (.int many, false), some (.list (acc.map .int), true), some (.int x, false), o])
    (fun r => ∃ (acc : List Int) (x : Int) (o : Option (PyData × Bool)), acc.length = many + 1 ∧ (∀ y ∈ acc, 0 ≤ y ∧ y < M31) ∧
      r = .next [some (.int c, false), some (.int many, false), some (.list (acc.map .int), true), some (.int x, false), o])
    ⟨[], _, none, rfl, by simp, by rw [n0]; have := Int.emod_nonneg c (show (2147483647 : Int) ≠ 0 by decide); omega, by rw [n0]; have := Int.emod_lt_of_pos c (show (0 : Int) < 2147483647 by decide); omega, rfl⟩ ?_ ?_
  · obtain ⟨acc, x, o, hl, hb, rfl⟩ := this
    refine ⟨acc.drop 1, by simp [hl], fun y hy => hb y (List.mem_of_mem_drop hy), ?_⟩
    have e1 : Pu.cutD (acc.map PyData.int) (some 1) none = (acc.drop 1).map .int := by
      unfold Pu.cutD
      rw [show HT.sIx (acc.map PyData.int).length 0 (some 1) = min 1 (acc.map PyData.int).length from HT.sIx_nat _ 0 1, HT.sIx_none]
      have : min 1 (acc.map PyData.int).length = 1 := by simp; omega
      rw [this, List.map_drop]
      exact List.take_of_length_le (by simp)
    simp -implicitDefEqProofs [e1]
  · rintro i d se hi ⟨acc, x, o, hl, hb, hx0, hx1, rfl⟩
    obtain ⟨hlt, rfl⟩ := upFrom_get hi
    have hi' : i < many + 1 := by simpa using hlt
    refine ⟨_, rfl, ?_⟩
    have hxx : 0 ≤ x * x := Int.mul_nonneg hx0 hx0
    have m1 : mulOk x x = true := mulOk_l (by omega)
    have m2 : mulOk 48271 x = true := mulOk_l (by decide)
    have hl1 : szOk (i + 1) = true := szOk_of (by omega)
    generalize ez : (x * x + 48271 * x + (i : Int)).fmod 2147483647 = z
    have zb : 0 ≤ z ∧ z < M31 := by
      rw [← ez, fmod_pos (by decide)]
      exact ⟨Int.emod_nonneg _ (by decide), Int.emod_lt_of_pos _ (by decide)⟩
    refine stepQ_next [some (.int c, false), some (.int many, false), some (.list ((acc ++ [z]).map .int), true), some (.int z, false), some (.int (0 + (i : Int)), false)] ?_
      ⟨acc ++ [z], z, _, by simp [hl], ?_, zb.1, by have := zb.2; unfold M31 at this; omega, rfl⟩
    · simp -implicitDefEqProofs [lf, opV, m1, m2, ez, hl, hl1]
    intro y hy
    rcases List.mem_append.mp hy with h | h
    · exact hb y h
    · simp at h
      subst h
      exact zb
  · rintro se ⟨acc, x, o, hl, hb, hx0, hx1, rfl⟩
    refine ⟨acc, x, o, ?_, hb, rfl⟩
    rw [hl, upFrom_len]
def Φ__law_whole (Fn : List PyData → R PyData) : Prop := ∀ d, Fn [d] = .ok (.bool (match d with | .int _ => true | _ => false))
theorem spec__law_whole (T : Txt D) : Spec D 33 "_law_whole" 1 Φ__law_whole := by
  refine ⟨_, fn_of' T.d__law_whole sc__law_whole (pub_one (pus_ret [] (pur_and (pur_isa (T := "int") T.n_isinstance T.n_int (pur_var 0)) (pur_one (pur_not (pur_isa (T := "bool") T.n_isinstance T.n_bool (pur_var 0))))))), ?_⟩
  have k1 : ∀ d : PyData, isA "int" d = .ok (.bool (match d with | .int _ => true | .bool _ => true | _ => false)) := by
    intro d
    cases d <;> rfl
  have k2 : ∀ d : PyData, isA "bool" d = .ok (.bool (match d with | .bool _ => true | _ => false)) := by
    intro d
    cases d <;> rfl
  intro d
  cases d <;> simp -implicitDefEqProofs [runD, startE, k1, k2, truth]
def Φ__law_divisor (Fn : List PyData → R PyData) : Prop := ∀ a b : Nat, Fn [.int a, .int b] = .ok (.int ((Nat.gcd a b : Nat) : Int))
theorem spec__law_divisor (T : Txt D) : Spec D 33 "_law_divisor" 2 Φ__law_divisor := by
  refine ⟨_, fn_of' T.d__law_divisor sc__law_divisor (pub_cons (pus_while [] (purt_cmp (pur_var 0) pur_int) (pub_one (pus_par 0 1 [] (pur_bin (pur_var 1) (pur_var 0)) (pur_var 0))))
    (pub_one (pus_ret [] (pur_var 1)))), ?_⟩
  intro a b
  simp -implicitDefEqProofs [runD, startE, SR.seq]
  generalize hF : whileD _ _ _ = r
  have := whileD_rule hF (fun se => ∃ x y : Nat, se = [some (.int x, false), some (.int y, false)] ∧ Nat.gcd x y = Nat.gcd a b)
    (fun r => r = .next [some (.int 0, false), some (.int ((Nat.gcd a b : Nat) : Int), false)])
    (fun se => match se with | some (.int x, _) :: _ => x.toNat | _ => 0) ⟨a, b, rfl, rfl⟩ ?_
  · subst this
    simp []
  · rintro se ⟨x, y, rfl, hg⟩
    by_cases hx : 0 < x
    · refine ⟨true, by simp [cmpV, boolOf, hx], (fun h => by cases h), fun _ => ?_⟩
      have hx' : ((x : Int)) ≠ 0 := by omega
      have e : (y : Int).fmod (x : Int) = ((y % x : Nat) : Int) := by rw [fmod_pos (by omega)]; rfl
      refine stepQ_next [some (.int ((y % x : Nat) : Int), false), some (.int x, false)] ?_ ⟨⟨y % x, x, rfl, ?_⟩, ?_⟩
      · simp only [view, getV, List.getElem?_cons_zero, List.getElem?_cons_succ, R.bind, opV, hx', if_false, e, lf, List.set]
        rfl
      · rw [← hg]
        exact (Nat.gcd_rec x y).symm
      · show ((y % x : Nat) : Int).toNat < (x : Int).toNat
        have := Nat.mod_lt y hx
        omega
    · have h0 : x = 0 := by omega
      subst h0
      refine ⟨false, by simp [cmpV, boolOf], fun _ => ?_, (fun h => by cases h)⟩
      rw [Nat.gcd_zero_left] at hg
      rw [hg]
      rfl
def Φ__law_is_fraction (Fn : List PyData → R PyData) : Prop := ∀ d, Fn [d] = .ok (.bool (isFrB d))
theorem spec__law_is_fraction (T : Txt D) : Spec D 34 "_law_is_fraction" 1 Φ__law_is_fraction := by
  obtain ⟨F__law_whole, S__law_whole, h__law_whole⟩ := spec__law_whole T
  obtain ⟨F__law_divisor, S__law_divisor, h__law_divisor⟩ := spec__law_divisor T
  refine ⟨_, fn_of' T.d__law_is_fraction sc__law_is_fraction (pub_cons (pus_if [] (purt_w (purw_or (purt_not (purt_val (pur_isa (T := "tuple") T.n_isinstance T.n_tuple (pur_var 0)))) (purw_or (purt_cmp (pur_blt blt_len T.n_len (pura_cons (pur_var 0) pura_nil)) pur_int) (purw_or (purt_not (purt_val (pur_call S__law_whole (pura_cons (pur_ix (pur_var 0) pur_int) pura_nil)))) (purw_or1 (purt_not (purt_val (pur_call S__law_whole (pura_cons (pur_ix (pur_var 0) pur_int) pura_nil))))))))) (pub_one (pus_ret [] pur_bool)) pub_nil)
    (pub_one (pus_ret [] (pur_and (pur_cmp (pur_ix (pur_var 0) pur_int) pur_int) (pur_one (pur_cmp (pur_call S__law_divisor (pura_cons (pur_blt blt_abs T.n_abs (pura_cons (pur_ix (pur_var 0) pur_int) pura_nil)) (pura_cons (pur_ix (pur_var 0) pur_int) pura_nil))) pur_int)))))), ?_⟩
  have k1 : ∀ d : PyData, isA "tuple" d = .ok (.bool (match d with | .tuple _ => true | _ => false)) := by
    intro d
    cases d <;> rfl
  have hw := h__law_whole
  unfold Φ__law_whole at hw
  intro d
  cases d with
  | tuple ds =>
    rcases ds with _ | ⟨a, _ | ⟨b, _ | ⟨c, ds⟩⟩⟩
    · simp -implicitDefEqProofs [runD, startE, k1, truth, cmpV, boolOf, isFrB]
    · simp -implicitDefEqProofs [runD, startE, k1, truth, cmpV, boolOf, isFrB]
    · have i0 : atI [a, b] 0 = some a := rfl
      have i1 : atI [a, b] 1 = some b := rfl
      cases a <;> cases b <;> simp -implicitDefEqProofs [runD, startE, k1, truth, cmpV, boolOf, isFrB, i0, i1, hw]
      rename_i a b
      by_cases h : 1 ≤ b
      · have h2 : 0 < b := by omega
        obtain ⟨n, rfl⟩ : ∃ n : Nat, b = n := ⟨b.toNat, by omega⟩
        have ha : (if a < 0 then -a else a) = ((a.natAbs : Nat) : Int) := by split <;> omega
        have hd := h__law_divisor a.natAbs n
        have h3 : 0 < n := by omega
        simp [h, h2, h3, ha, hd]
        have : (((Nat.gcd a.natAbs n : Nat) : Int) = 1) ↔ (Nat.gcd a.natAbs n = 1) := by omega
        simp [this]
      · have h2 : ¬ 0 < b := by omega
        simp [h, h2]
    · have : ¬ ((ds.length : Int) + 1 + 1 + 1 = 2) := by omega
      simp -implicitDefEqProofs [runD, startE, k1, truth, cmpV, boolOf, isFrB, this]
  | _ => simp -implicitDefEqProofs [runD, startE, k1, truth, cmpV, boolOf, isFrB]
def Φ__law_fraction (Fn : List PyData → R PyData) : Prop := ∀ a b : Int, b ≠ 0 → b.natAbs < 2 ^ 32000000 → Fn [.int a, .int b] = .ok (frR ((a : Rat) / (b : Rat)))
theorem lowT_neg {a b : Int} (hb : 0 < b) : lowT (-a) b = ((-(lowT a b).1), (lowT a b).2) := by
  have hn : ¬ b < 0 := by omega
  have hg : 0 < Nat.gcd a.natAbs b.natAbs := Nat.pos_of_ne_zero fun h => by have := Nat.eq_zero_of_gcd_eq_zero_right h; omega
  have hd : ((Nat.gcd a.natAbs b.natAbs : Nat) : Int) ∣ a := Int.natAbs_dvd_natAbs.mp (by rw [Int.natAbs_natCast]; exact Nat.gcd_dvd_left _ _)
  unfold lowT lowS
  rw [if_neg hn, if_neg hn, Int.natAbs_neg]
  generalize ((Nat.gcd a.natAbs b.natAbs : Nat) : Int) = s at hd
  obtain ⟨q, rfl⟩ := hd
  by_cases hs : s = 0
  · subst hs; simp
  · rw [Int.mul_fdiv_cancel_left _ hs, ← Int.mul_neg, Int.mul_fdiv_cancel_left _ hs]
theorem lowT_negneg {a b : Int} (hb : b < 0) : lowT (-a) (-b) = lowT a b := by
  have hn : ¬ (-b) < 0 := by omega
  have hd : ((Nat.gcd a.natAbs b.natAbs : Nat) : Int) ∣ a := Int.natAbs_dvd_natAbs.mp (by rw [Int.natAbs_natCast]; exact Nat.gcd_dvd_left _ _)
  have hd2 : ((Nat.gcd a.natAbs b.natAbs : Nat) : Int) ∣ b := Int.natAbs_dvd_natAbs.mp (by rw [Int.natAbs_natCast]; exact Nat.gcd_dvd_right _ _)
  unfold lowT lowS
  rw [if_pos hb, if_neg hn, Int.natAbs_neg, Int.natAbs_neg]
  generalize ((Nat.gcd a.natAbs b.natAbs : Nat) : Int) = s at hd hd2
  obtain ⟨q, rfl⟩ := hd
  obtain ⟨r, rfl⟩ := hd2
  by_cases hs : s = 0
  · subst hs; simp
  · have hs' : -s ≠ 0 := by omega
    have e1 : s * q = -s * -q := by rw [Int.neg_mul_neg]
    have e2 : s * r = -s * -r := by rw [Int.neg_mul_neg]
    have f1 : (s * q).fdiv (-s) = -q := by rw [e1]; exact Int.mul_fdiv_cancel_left _ hs'
    have f2 : (s * r).fdiv (-s) = -r := by rw [e2]; exact Int.mul_fdiv_cancel_left _ hs'
    have g1 : (-(s * q)).fdiv s = -q := by rw [← Int.mul_neg]; exact Int.mul_fdiv_cancel_left _ hs
    have g2 : (-(s * r)).fdiv s = -r := by rw [← Int.mul_neg]; exact Int.mul_fdiv_cancel_left _ hs
    rw [f1, f2, g1, g2]
theorem spec__law_fraction (T : Txt D) : Spec D 34 "_law_fraction" 2 Φ__law_fraction := by
  obtain ⟨F__law_divisor, S__law_divisor, h__law_divisor⟩ := spec__law_divisor T
  refine ⟨_, fn_of' T.d__law_fraction sc__law_fraction (pub_cons (pus_if [] (purt_cmp (pur_var 1) pur_int) (pub_cons (pus_set 0 [] (pur_neg (pur_var 0)))
    (pub_one (pus_set 1 [] (pur_neg (pur_var 1))))) pub_nil)
    (pub_cons (pus_set 2 [] (pur_call S__law_divisor (pura_cons (pur_blt blt_abs T.n_abs (pura_cons (pur_var 0) pura_nil)) (pura_cons (pur_var 1) pura_nil))))
    (pub_one (pus_ret [] (pur_tup (pura_cons (pur_bin (pur_var 0) (pur_var 2)) (pura_cons (pur_bin (pur_var 1) (pur_var 2)) pura_nil))))))), ?_⟩
  have pos : ∀ a b : Int, 0 < b → b.natAbs < 2 ^ 32000000 → ∃ g : Int, F__law_divisor [.int (if a < 0 then -a else a), .int b] = .ok (.int g) ∧ (∀ x, divOk x g = true) ∧ lowT a b = (a.fdiv g, b.fdiv g) := by
    intro a b hb hs
    have hbn : ¬ b < 0 := by omega
    obtain ⟨n, rfl⟩ : ∃ n : Nat, b = n := ⟨b.toNat, by omega⟩
    have ha : (if a < 0 then -a else a) = ((a.natAbs : Nat) : Int) := by split <;> omega
    have hn : 0 < n := by omega
    have hg : 0 < Nat.gcd a.natAbs n := Nat.pos_of_ne_zero fun h => by have := Nat.eq_zero_of_gcd_eq_zero_right h; omega
    refine ⟨_, by rw [ha]; exact h__law_divisor a.natAbs n, fun x => divOk_of (b := 32000000) (by omega) ?_ (by decide) (by decide), ?_⟩
    · rw [Int.natAbs_natCast]
      exact Nat.lt_of_le_of_lt (Nat.gcd_le_right _ hn) (by simpa using hs)
    · unfold lowT lowS
      rw [if_neg hbn, Int.natAbs_natCast]
  intro a b hb hs
  rw [← low_rat hb]
  refine runD_ret ?_
  by_cases h : b < 0
  · obtain ⟨g, e1, e2, e3⟩ := pos (-a) (-b) (by omega) (by rw [Int.natAbs_neg]; exact hs)
    rw [lowT_negneg h] at e3
    simp at e1
    simp -implicitDefEqProofs [startE, cmpV, boolOf, h, storeV, lf, opV, e1, e2, szOk_of, frD, e3]
  · obtain ⟨g, e1, e2, e3⟩ := pos a b (by omega) hs
    simp -implicitDefEqProofs [startE, cmpV, boolOf, h, storeV, lf, opV, e1, e2, szOk_of, frD, e3]
def Φ_sum_of (Fn : List PyData → R PyData) : Prop := ∀ p q : Rat, Sr p → Sr q → Fn [frR p, frR q] = .ok (frR (p + q))
def Φ_product_of (Fn : List PyData → R PyData) : Prop := ∀ p q : Rat, Sr p → Sr q → Fn [frR p, frR q] = .ok (frR (p * q))
theorem spec_product_of (T : Txt D) : Spec D 34 "product_of" 2 Φ_product_of := by
  obtain ⟨F_fraction, S_fraction, h_fraction⟩ := spec_fraction T
  refine ⟨_, fn_of' T.d_product_of sc_product_of (pub_one (pus_ret [] (pur_call S_fraction (pura_cons (pur_bin (pur_ix (pur_var 0) pur_int) (pur_ix (pur_var 1) pur_int)) (pura_cons (pur_bin (pur_ix (pur_var 0) pur_int) (pur_ix (pur_var 1) pur_int)) pura_nil))))), ?_⟩
  intro p q sp sq
  have e := h_fraction.2 (p.num * q.num) ((p.den : Int) * (q.den : Int)) (Int.mul_ne_zero (den_ne p) (den_ne q)) (mul_sr' sp.d sq.d)
  rw [rat_mul'] at e
  refine runD_ret ?_
  simp -implicitDefEqProofs [startE, ix_frR0, ix_frR1, opV, mul_sr sp.n sq.n, mul_sr sp.d sq.d, e, -ixV]
def Φ_part_of (Fn : List PyData → R PyData) : Prop := ∀ p q : Rat, q ≠ 0 → Sr p → Sr q → Fn [frR p, frR q] = .ok (frR (p / q))
theorem spec_part_of (T : Txt D) : Spec D 34 "part_of" 2 Φ_part_of := by
  obtain ⟨F_fraction, S_fraction, h_fraction⟩ := spec_fraction T
  refine ⟨_, fn_of' T.d_part_of sc_part_of (pub_one (pus_ret [] (pur_call S_fraction (pura_cons (pur_bin (pur_ix (pur_var 0) pur_int) (pur_ix (pur_var 1) pur_int)) (pura_cons (pur_bin (pur_ix (pur_var 0) pur_int) (pur_ix (pur_var 1) pur_int)) pura_nil))))), ?_⟩
  intro p q hq sp sq
  have e := h_fraction.2 (p.num * (q.den : Int)) ((p.den : Int) * q.num) (Int.mul_ne_zero (den_ne p) (num_ne hq)) (mul_sr' sp.d sq.n)
  rw [rat_div' p q hq] at e
  refine runD_ret ?_
  simp -implicitDefEqProofs [startE, ix_frR0, ix_frR1, opV, mul_sr sp.n sq.d, mul_sr sp.d sq.n, e, -ixV]
def Φ_without_last (Fn : List PyData → R PyData) : Prop := ∀ (ds : List PyData) (d : PyData) (z : Nat → Bool), lf d = true → (∀ i x, ds[i]? = some x → cmpV .Eq x d = .ok (.bool (z i))) →
  ∃ n, n ≤ ds.length ∧ (∀ i, n ≤ i → i < ds.length → z i = true) ∧ (n = 0 ∨ z (n - 1) = false) ∧ Fn [.list ds, d] = .ok (.list (ds.take n))
theorem Φ_without_last.fr {Fn : List PyData → R PyData} (h : Φ_without_last Fn) (l : List Rat) : Fn [frsL l, frR 0] = .ok (frsL (Al.trimL l)) := by
  obtain ⟨n, hn, h0, h1, e⟩ := h (l.map frR) (frR 0) (fun i => decide (Al.cf l i = 0)) rfl (fun i x hx => by
    have hi : i < l.length := by have := (List.getElem?_eq_some_iff.mp hx).1; simpa using this
    have hx' : x = frR (Al.cf l i) := by
      rw [List.getElem?_map, List.getElem?_eq_getElem hi] at hx
      simp only [Option.map_some, Option.some.injEq] at hx
      rw [← hx]
      simp [Al.cf, hi]
    rw [hx', eq_frR])
  rw [List.length_map] at hn h0
  have : Al.trimL l = l.take n := Al.trim_take hn (fun i hi => by
    rcases Nat.lt_or_ge i l.length with h | h
    · exact of_decide_eq_true (h0 i hi h)
    · exact Al.cf_ge h) (h1.imp id of_decide_eq_false)
  rw [this]
  unfold frsL
  rw [e, List.map_take]
theorem spec_without_last (T : Txt D) : Spec D 33 "without_last" 2 Φ_without_last := by
  refine Br.spec_named (fn_of' T.d_without_last sc_without_last (pub_cons (pus_set 2 [] (pur_blt blt_len T.n_len (pura_cons (pur_var 0) pura_nil)))
    (pub_cons (pus_while [] (purt_w (purw_and (purt_cmp (pur_var 2) pur_int) (purw_and1 (purt_cmp (pur_ix (pur_var 0) (pur_bin (pur_var 2) pur_int)) (pur_var 1))))) (pub_one (pus_aug 2 [] pur_int)))
    (pub_one (pus_ret [] (pur_slice (pur_var 0) puro_none (puro_some (pur_var 2)))))))) (fun Fn hFn => ?_)
  intro ds d z hd hz
  rw [hFn]
  suffices h : ∃ n, (n ≤ ds.length ∧ (∀ i, n ≤ i → i < ds.length → z i = true) ∧ (n = 0 ∨ z (n - 1) = false)) ∧ runD _ _ [.list ds, d] = .ok (.list (ds.take n)) by
    obtain ⟨n, ⟨a, b, c⟩, e⟩ := h
    exact ⟨n, a, b, c, e⟩
  refine runD_ret_ex1 (k := fun n => .list (ds.take n)) ?_
  simp -implicitDefEqProofs [startE]
  generalize hF : whileD _ _ _ = r
  have := whileD_rule hF (fun se => ∃ n : Nat, n ≤ ds.length ∧ (∀ i, n ≤ i → i < ds.length → z i = true) ∧ se = [some (.list ds, false), some (d, false), some (.int (n : Int), false)])
    (fun r => ∃ n : Nat, n ≤ ds.length ∧ (∀ i, n ≤ i → i < ds.length → z i = true) ∧ (n = 0 ∨ z (n - 1) = false) ∧ r = .next [some (.list ds, false), some (d, false), some (.int (n : Int), false)])
    (fun se => match se with | [_, _, some (.int x, _)] => x.toNat | _ => 0) ⟨ds.length, Nat.le_refl _, fun i hi h => by omega, rfl⟩ ?_
  · obtain ⟨n, hn, h0, h1, rfl⟩ := this
    refine ⟨n, ⟨hn, h0, h1⟩, ?_⟩
    have e1 : Pu.cutD ds none (some (n : Int)) = ds.take n := by
      unfold Pu.cutD
      rw [HT.sIx_none, HT.sIx_nat]
      simp [hn]
    simp -implicitDefEqProofs [e1]
  · rintro se ⟨n, hn, h0, rfl⟩
    by_cases hp : 0 < n
    · have hx : ds[n - 1]? = some ds[n - 1] := List.getElem?_eq_getElem (by omega)
      have e2 := hz _ _ hx
      have e1 : atI ds ((n : Int) - 1) = some ds[n - 1] := by
        rw [show (n : Int) - 1 = ((n - 1 : Nat) : Int) by omega]
        exact atI_nat hx
      cases hq : z (n - 1) with
      | true =>
        refine ⟨true, by simp -implicitDefEqProofs [cI_gt, hp, oI_sub, e1, e2, hq], (fun h => by cases h), fun _ => ?_⟩
        refine stepQ_next [some (.list ds, false), some (d, false), some (.int ((n - 1 : Nat) : Int), false)] ?_ ⟨⟨n - 1, by omega, fun i hi hl => ?_, rfl⟩, ?_⟩
        · rw [show ((n - 1 : Nat) : Int) = (n : Int) - 1 by omega]
          rfl
        · rcases Nat.lt_or_ge i n with h | h
          · rw [show i = n - 1 by omega]; exact hq
          · exact h0 i h hl
        · show ((n - 1 : Nat) : Int).toNat < (n : Int).toNat
          omega
      | false => exact ⟨false, by simp -implicitDefEqProofs [cI_gt, hp, oI_sub, e1, e2, hq], fun _ => ⟨n, hn, h0, .inr hq, rfl⟩, (fun h => by cases h)⟩
    · have hz' : n = 0 := by omega
      exact ⟨false, by simp -implicitDefEqProofs [cI_gt, hz'], fun _ => ⟨n, hn, h0, .inl hz', rfl⟩, (fun h => by cases h)⟩
def Φ_is_row (Fn : List PyData → R PyData) : Prop := (∀ p : Al.Poly, p.len ≤ 1000 → Fn [rowD p] = .ok (.bool true)) ∧ ∀ d, (∀ ds, d = .tuple ds → ds.length ≤ 1000) → (∀ p, d ≠ rowD p) → Fn [d] = .ok (.bool false)
theorem spec_is_row (T : Txt D) : Spec D 34 "is_row" 1 Φ_is_row := by
  obtain ⟨F_is_fraction, S_is_fraction, h_is_fraction⟩ := spec_is_fraction T
  refine Br.spec_named (fn_of' T.d_is_row sc_is_row (pub_cons (pus_if [] (purt_typeNot (T := "tuple") T.n_type T.n_tuple (pur_var 0)) (pub_one (pus_ret [] pur_bool)) pub_nil)
    (pub_cons (pus_if [] (purt_not (purt_val (pur_blt (blt_all rfl) T.n_all (pura_cons (PurL.pur (purl_comp (own := [("part", 1)]) (puri_seq (pur_var 0)) (puge_name 1) purts_nil (pur_call S_is_fraction (pura_cons (pur_var 1) pura_nil)))) pura_nil)))) (pub_one (pus_ret [] pur_bool)) pub_nil)
    (pub_one (pus_ret [] (pur_or (pur_not (pur_var 0)) (pur_one (pur_cmp (pur_ix (pur_var 0) (pur_neg pur_int)) (pur_const T.c_ZERO))))))))) (fun Fn hFn => ?_)
  have key : ∀ ds : List PyData, ds.length ≤ 1000 → Fn [.tuple ds] = .ok (.bool (ds.all isFrB && (ds.isEmpty || !PyData.eqv (ds.getD (ds.length - 1) .none) (frR 0)))) := by
    intro ds hds
    rw [hFn]
    refine runD_ret ?_
    simp -implicitDefEqProofs [startE]
    generalize hL : lcD _ _ _ _ _ = L
    have := lcD_run hL ds id (fun d => .bool (isFrB d)) (by simp) (fun x _ => ⟨_, rfl, rfl, by simp -implicitDefEqProofs [wipeE, h_is_fraction x]⟩)
    subst this
    have e1 := all_run isFrB ds
    have hz : szOk ds.length = true := szOk_of (by omega)
    have hall : ds.all isFrB = true → ∃ l : List Rat, ds = l.map frR := fun ha => all_frs (fun d hd => List.all_eq_true.mp ha d hd)
    clear hL
    generalize ds.all isFrB = b at *
    simp -implicitDefEqProofs [hz, e1, -allF]
    clear e1
    cases b with
    | true =>
      obtain ⟨l, rfl⟩ := hall rfl
      by_cases h0 : l = []
      · subst h0
        simp -implicitDefEqProofs [truth]
      · have e2 := atI_lastF h0
        have e3 : cmpV .NotEq (frR (Al.cf l (l.length - 1))) (.tuple [.int 0, .int 1]) = _ := ne_frR _ 0
        have hp : 0 < l.length := List.length_pos_iff.mpr h0
        have e4 : (l.map frR)[l.length - 1]?.getD .none = frR (Al.cf l (l.length - 1)) := by rw [frs_get (by omega)]; rfl
        have e5 : truth (.tuple (l.map frR)) = .ok true := by simp [truth, h0]
        simp -implicitDefEqProofs [e5, truth, e2, e3]
        rw [← List.getElem?_map, e4, eqv_frR]
        cases l with
        | nil => exact absurd rfl h0
        | cons a l => rfl
    | false =>
      simp -implicitDefEqProofs [truth]
  refine ⟨fun p hp => ?_, fun d hs hn => ?_⟩
  · have hall : (p.val.map frR).all isFrB = true := List.all_eq_true.mpr (frs_all _)
    have k := key (p.val.map frR) (by rw [List.length_map]; exact hp)
    rw [hall] at k
    have : ((p.val.map frR).isEmpty || !PyData.eqv ((p.val.map frR).getD ((p.val.map frR).length - 1) .none) (frR 0)) = true := by
      rcases Al.poly_last (p := p) with h | h
      · rw [h]; rfl
      · have hp : p.val ≠ [] := fun e => h (by rw [e]; rfl)
        have hp' : 0 < p.val.length := List.length_pos_iff.mpr hp
        rw [List.getD_eq_getElem?_getD, List.length_map, frs_get (by omega)]
        simp [eqv_frR, h]
    rw [this] at k
    exact k
  · by_cases ht : ∃ ds, d = .tuple ds
    · obtain ⟨ds, rfl⟩ := ht
      have hl := hs ds rfl
      rw [key ds hl]
      congr 2
      cases ha : ds.all isFrB with
      | false => rfl
      | true =>
        obtain ⟨l, rfl⟩ := all_frs (fun d hd => List.all_eq_true.mp ha d hd)
        have hr : ¬ (l = [] ∨ Al.cf l (l.length - 1) ≠ 0) := fun h => by
          obtain ⟨p, hp⟩ := row_iff.mpr h
          exact hn p hp
        have h0 : l ≠ [] := fun e => hr (.inl e)
        have h1 : Al.cf l (l.length - 1) = 0 := Decidable.byContradiction fun e => hr (.inr e)
        have hp : 0 < l.length := List.length_pos_iff.mpr h0
        rw [List.getD_eq_getElem?_getD, List.length_map, frs_get (by omega), h1]
        simp [eqv_frR, h0]
    · rw [hFn]
      refine runD_ret ?_
      cases d with
      | tuple ds => exact absurd ⟨ds, rfl⟩ ht
      | _ => simp -implicitDefEqProofs [startE]
def Φ_refuse_no_row (Fn : List PyData → R PyData) : Prop := (∀ p : Al.Poly, p.len ≤ 1000 → Fn [rowD p] = .ok .none) ∧ ∀ d, (∀ ds, d = .tuple ds → ds.length ≤ 1000) → (∀ p, d ≠ rowD p) → Fn [d] = .ex "NoRow"
theorem spec_refuse_no_row (T : Txt D) : Spec D 35 "refuse_no_row" 1 Φ_refuse_no_row := by
  obtain ⟨F_is_row, S_is_row, h_is_row⟩ := spec_is_row T
  refine ⟨_, fn_of' T.d_refuse_no_row sc_refuse_no_row (pub_one (pus_if [] (purt_not (purt_val (pur_call S_is_row (pura_cons (pur_var 0) pura_nil)))) (pub_one (pus_raise T.x_NoRow)) pub_nil)), ?_⟩
  refine ⟨fun p hp => runD_next (se := startE 1 [rowD p]) ?_, fun d h1 h2 => runD_ex (se := startE 1 [d]) ?_⟩
  · have e := h_is_row.1 p hp
    simp -implicitDefEqProofs [startE, e, truth]
  · have e := h_is_row.2 d h1 h2
    simp -implicitDefEqProofs [startE, e, truth]
def Φ_over_one_bottom (Fn : List PyData → R PyData) : Prop := ∀ (p : Al.Poly) (D N : Nat), p.len ≤ 1000 → Al.Hn p D N → D < 2 ^ 32000000 → N < 2 ^ 33000000 →
  ∃ (ts : List Int) (b : Nat), (0 < b ∧ b ∣ D ∧ ts.length = p.len ∧ Al.C (b : Rat) * p = Al.zp ts ∧ ∀ i, (Al.gi ts i).natAbs ≤ N) ∧ Fn [rowD p] = .ok (.tuple [.list (ts.map .int), .int (b : Int)])
theorem spec_over_one_bottom (T : Txt D) : Spec D 33 "over_one_bottom" 1 Φ_over_one_bottom := by
  refine Br.spec_named (fn_of' T.d_over_one_bottom sc_over_one_bottom (pub_cons (pus_set 1 [] pur_int)
    (pub_cons (pus_for [] (puri_seq (pur_var 0)) (pug_name 2) (pub_one (pus_set 1 [] (pur_bltI blt_lcm T.m_lcm (pura_cons (pur_var 1) (pura_cons (pur_ix (pur_var 2) pur_int) pura_nil))))))
    (pub_one (pus_ret [] (pur_tup (pura_cons (PurL.pur (purl_comp (own := [("top", 3), ("under", 4)]) (puri_seq (pur_var 0)) (puge_tup (n := 2) (puges_cons (puge_name 3) (puges_cons (puge_name 4) puges_nil))) purts_nil (pur_bin (pur_var 3) (pur_bin (pur_var 1) (pur_var 4))))) (pura_cons (pur_var 1) pura_nil)))))))) (fun Fn hFn => ?_)
  intro p D N hl h hD hN
  subst hFn
  suffices hh : ∃ x : List Int × Nat, (0 < x.2 ∧ x.2 ∣ D ∧ x.1.length = p.len ∧ Al.C (x.2 : Rat) * p = Al.zp x.1 ∧ ∀ i, (Al.gi x.1 i).natAbs ≤ N) ∧ runD _ _ [rowD p] = .ok (.tuple [.list (x.1.map .int), .int (x.2 : Int)]) by
    obtain ⟨⟨ts, b⟩, a, e⟩ := hh
    exact ⟨ts, b, a, e⟩
  refine runD_ret_ex1 (k := fun x : List Int × Nat => .tuple [.list (x.1.map .int), .int (x.2 : Int)]) ?_
  simp -implicitDefEqProofs [startE, rowD, frsT]
  generalize hF : forD _ _ _ _ = r
  have := forD_rule hF (fun i se => ∃ (b : Nat) (o : Option (PyData × Bool)), 0 < b ∧ b ∣ D ∧ (∀ j, j < i → (p.c j).den ∣ b) ∧ se = [some (.tuple (p.val.map frR), false), some (.int (b : Int), false), o, none, none])
    (fun r => ∃ (b : Nat) (o : Option (PyData × Bool)), 0 < b ∧ b ∣ D ∧ (∀ j, j < p.len → (p.c j).den ∣ b) ∧ r = .next [some (.tuple (p.val.map frR), false), some (.int (b : Int), false), o, none, none])
    ⟨1, none, by decide, Nat.one_dvd _, fun j hj => by omega, rfl⟩ ?_ ?_
  · obtain ⟨b, o, hb, hbD, hall, rfl⟩ := this
    have hall' : ∀ j, (p.c j).den ∣ b := fun j => by
      rcases Nat.lt_or_ge j p.len with hj | hj
      · exact hall j hj
      · rw [Al.Poly.c_ge hj]; exact Nat.one_dvd _
    have hgi : ∀ i, p.c i * (b : Rat) = ((Al.gi (p.val.map fun q => q.num * ((b / q.den : Nat) : Int)) i : Int) : Rat) := fun i => by
      rw [gi_map]
      split
      · rename_i hi
        have e : p.val[i] = p.c i := by simp [Al.Poly.c, Al.cf, hi]
        rw [e]
        exact Al.over_b (hall' i)
      · rename_i hi
        rw [Al.Poly.c_ge (Nat.le_of_not_lt hi)]
        exact Rat.zero_mul _
    refine ⟨p.val.map fun q => q.num * ((b / q.den : Nat) : Int), b, ⟨hb, hbD, by rw [List.length_map]; rfl, ?_, fun i => Al.tops_le h hbD (hgi i)⟩, ?_⟩
    · refine Al.Poly.ext fun i => ?_
      rw [Al.c_Cmul, Al.c_zp, ← hgi i]
      exact Rat.mul_comm _ _
    · simp -implicitDefEqProofs []
      generalize hL : lcD _ _ _ _ _ = L
      have hb8 : b < 2 ^ 32000000 := lim8 hbD h.1 hD
      have := lcD_run hL (List.range p.len) (fun i => frR (p.c i)) (fun i => .int ((p.c i).num * ((b / (p.c i).den : Nat) : Int))) ?_ (fun i hi => ?_)
      · subst this
        have e : (List.range p.len).map (fun i => PyData.int ((p.c i).num * ((b / (p.c i).den : Nat) : Int))) = (p.val.map fun q => q.num * ((b / q.den : Nat) : Int)).map PyData.int := by
          refine List.ext_getElem (by simp; rfl) fun i h1 h2 => ?_
          simp
          have hi : i < p.val.length := by simpa using h2
          simp [Al.Poly.c, Al.cf, hi]
        have hz : szOk p.len = true := szOk_of (by omega)
        rw [e]
        have hz : szOk p.val.length = true := hz
        simp -implicitDefEqProofs [hz, szOk_of]
      · refine List.ext_getElem (by simp; rfl) fun i h1 h2 => ?_
        have hi : i < p.val.length := by simpa using h1
        simp [Al.Poly.c, Al.cf, hi]
      · have hd : divOk (b : Int) ((p.c i).den : Int) = true := divOk_of (b := 32000000) (den_ne _) (by rw [Int.natAbs_natCast]; exact lim8 (Nat.dvd_trans (hall' i) hbD) h.1 hD) (by decide) (by decide)
        have hm : mulOk (p.c i).num ((b / (p.c i).den : Nat) : Int) = true := mulOk_of (a := 33000000) (b := 32000000) (Nat.lt_of_le_of_lt (h.num_le i) hN) (by rw [Int.natAbs_natCast]; exact Nat.lt_of_le_of_lt (Nat.div_le_self _ _) hb8) (by decide) (by decide) (by decide)
        have hf : (b : Int).fdiv ((p.c i).den : Int) = ((b / (p.c i).den : Nat) : Int) := by
          rw [fdiv_pos (den_pos' _)]
          rfl
        refine ⟨_, rfl, rfl, ?_⟩
        simp -implicitDefEqProofs [wipeE, oI_div hd, hf, oI_mul hm, -Int.natCast_ediv]
  · rintro i d se hi ⟨b, o, hb, hbD, hall, rfl⟩
    obtain ⟨hil, rfl⟩ := frs_get' hi
    have hd : (p.c i).den ∣ D := (h.place i).1
    refine ⟨_, rfl, stepQ_next [some (.tuple (p.val.map frR), false), some (.int ((Nat.lcm b (p.c i).den : Nat) : Int), false), some (frR (p.c i), false), none, none] ?_
      ⟨Nat.lcm b (p.c i).den, _, Nat.lcm_pos hb (p.c i).den_pos, Nat.lcm_dvd hbD hd, fun j hj => ?_, rfl⟩⟩
    · have hk : lcmOk (b : Int) ((p.c i).den : Int) = true := lcm_ok (lim8 hbD h.1 hD) (lim8 hd h.1 hD)
      simp -implicitDefEqProofs [frR, at1, lcmF, hk, Al.c_val]
    · rcases Nat.lt_or_ge j i with hj' | hj'
      · exact Nat.dvd_trans (hall j hj') (Nat.dvd_lcm_left _ _)
      · rw [show j = i by omega]; exact Nat.dvd_lcm_right _ _
  · rintro se ⟨b, o, hb, hbD, hall, rfl⟩
    rw [map_frR_length] at hall
    exact ⟨b, o, hb, hbD, hall, rfl⟩
def Φ_row_over (Fn : List PyData → R PyData) : Prop := ∀ (ts : List Int) (b : Int), ts.length ≤ 1000000 → b ≠ 0 → b.natAbs < 2 ^ 32000000 → Fn [.list (ts.map .int), .int b] = .ok (rowD (Al.C (1 / (b : Rat)) * Al.zp ts))
theorem spec_row_over (T : Txt D) : Spec D 34 "row_over" 2 Φ_row_over := by
  obtain ⟨F_without_last, S_without_last, h_without_last⟩ := spec_without_last T
  obtain ⟨F_fraction, S_fraction, h_fraction⟩ := spec_fraction T
  refine Br.spec_named (fn_of' T.d_row_over sc_row_over (pub_one (pus_ret [] (pur_bltT blt_tuple T.n_tuple (pura_cons (pur_call S_without_last (pura_cons (PurL.pur (purl_comp (own := [("top", 2)]) (puri_seq (pur_var 0)) (puge_name 2) purts_nil (pur_call S_fraction (pura_cons (pur_var 2) (pura_cons (pur_var 1) pura_nil))))) (pura_cons (pur_const T.c_ZERO) pura_nil))) pura_nil))))) (fun Fn hFn => ?_)
  intro ts b hl hb hs
  subst hFn
  refine runD_ret ?_
  simp -implicitDefEqProofs [startE]
  generalize hL : lcD _ _ _ _ _ = L
  have := lcD_run hL ts .int (fun t => frR ((t : Rat) / (b : Rat))) rfl (fun t _ => ⟨_, rfl, rfl, by
    have e := h_fraction.2 t b hb hs
    simp -implicitDefEqProofs [wipeE, e]⟩)
  subst this
  have hz : szOk ts.length = true := szOk_of (by omega)
  have e := h_without_last.fr (ts.map fun t : Int => (t : Rat) / (b : Rat))
  have e2 := over_zp ts b
  unfold frsL at e
  rw [List.map_map] at e
  have e' : F_without_last [.list (ts.map fun t : Int => frR ((t : Rat) / (b : Rat))), .tuple [.int 0, .int 1]] = _ := e
  simp -implicitDefEqProofs [hz, e']
  rw [← e2]
  rfl
def Φ_plus (Fn : List PyData → R PyData) : Prop := ∀ p q : Al.Poly, p.len ≤ 1000 → q.len ≤ 1000 → Fit p → Fit q → Fn [rowD p, rowD q] = .ok (rowD (p + q))
def StT (o1 o2 : PyData) (A ts us : List Int) (b c : Int) (o3 o4 o5 o6 : Option (PyData × Bool)) : SEn := [some (o1, false), some (o2, false), some (.list (A.map .int), true), some (.list (ts.map .int), false), some (.int b, false), some (.list (us.map .int), false), some (.int c, false), o3, o4, o5, o6]
def Φ_times (Fn : List PyData → R PyData) : Prop := ∀ p q : Al.Poly, p.len ≤ 1000 → q.len ≤ 1000 → Fit p → Fit q → Fn [rowD p, rowD q] = .ok (rowD (p * q))
def Φ_rate (Fn : List PyData → R PyData) : Prop := ∀ p : Al.Poly, p.len ≤ 1000 → Fit p → Fn [rowD p] = .ok (rowD (Al.dr p))
theorem spec_rate (T : Txt D) : Spec D 36 "rate" 1 Φ_rate := by
  obtain ⟨F_refuse_no_row, S_refuse_no_row, h_refuse_no_row⟩ := spec_refuse_no_row T
  obtain ⟨F_product_of, S_product_of, h_product_of⟩ := spec_product_of T
  refine Br.spec_named (fn_of' T.d_rate sc_rate (pub_cons (pus_expr [] (pur_call S_refuse_no_row (pura_cons (pur_var 0) pura_nil)))
    (pub_one (pus_ret [] (pur_bltT blt_tuple T.n_tuple (pura_cons (pur_slice (PurL.pur (purl_comp (own := [("place", 1), ("part", 2)]) (puri_enum T.n_enumerate (pura_cons (pur_var 0) pura_nil)) (puge_tup (n := 2) (puges_cons (puge_name 1) (puges_cons (puge_name 2) puges_nil))) purts_nil (pur_call S_product_of (pura_cons (pur_tup (pura_cons (pur_var 1) (pura_cons pur_int pura_nil))) (pura_cons (pur_var 2) pura_nil))))) (puro_some pur_int) puro_none) pura_nil)))))) (fun Fn hFn => ?_)
  intro p hp fp
  subst hFn
  refine runD_ret ?_
  have r1 : F_refuse_no_row [.tuple (p.val.map frR)] = .ok .none := h_refuse_no_row.1 p hp
  simp -implicitDefEqProofs [startE, rowD, frsT, r1, enumF, enum_frs, -lcD]
  generalize hL : lcD _ _ _ _ _ = L
  have := lcD_run hL (List.range p.len) (fun i : Nat => .tuple [.int (i : Int), frR (p.c i)]) (fun i : Nat => frR ((i : Rat) * p.c i)) rfl (fun i hi => ⟨_, rfl, rfl, by
    have hi' : i < 1000 := by have := List.mem_range.mp hi; omega
    have e := h_product_of (i : Rat) (p.c i) ⟨by rw [Rat.num_natCast, Int.natAbs_natCast]; exact Nat.lt_trans hi' (Nat.lt_of_lt_of_le (by decide : 1000 < 2 ^ 10) (Nat.pow_le_pow_right (by decide) (by decide))), by rw [Rat.den_natCast]; exact Nat.one_lt_two_pow (by decide)⟩ (fp.sr i)
    have e0 : frR (i : Rat) = .tuple [.int (i : Int), .int 1] := by rw [← Rat.intCast_natCast]; exact frR_int _
    rw [e0] at e
    simp -implicitDefEqProofs [wipeE, e, szOk_of]⟩)
  subst this
  clear hL
  have hz : szOk p.len = true := szOk_of (by omega)
  have c1 : Pu.cutD ((List.range p.len).map fun i : Nat => frR ((i : Rat) * p.c i)) (some 1) none = (Al.dr p).val.map frR := by
    rw [show (1 : Int) = ((1 : Nat) : Int) from rfl, cut_from, ← List.map_drop]
    have e : (Al.dr p).val = ((List.range p.len).map fun i : Nat => (i : Rat) * p.c i).drop 1 := val_eq (by rw [Al.dr_len]; simp) fun i => by
      rw [cf_drop, Al.cf_range, Al.c_dr, Nat.add_comm 1 i]
      split
      · rfl
      · rw [Al.Poly.c_ge (p := p) (by omega)]; exact (Rat.mul_zero _).symm
    rw [e, ← List.map_drop, List.map_map]
    rfl
  simp -implicitDefEqProofs [hz, c1]
def Φ_least_factors (Fn : List PyData → R PyData) : Prop := ∀ a b : Int, b ≠ 0 → b.natAbs < 2 ^ 32000000 → ∃ f o : Int, (f * a = o * b ∧ f ≠ 0 ∧ f.natAbs ≤ b.natAbs ∧ o.natAbs ≤ a.natAbs ∧ (f.natAbs * a.natAbs ≤ b.natAbs * a.natAbs)) ∧ Fn [.int a, .int b] = .ok (.tuple [.int f, .int o])
theorem spec_least_factors (T : Txt D) : Spec D 33 "least_factors" 2 Φ_least_factors := by
  refine Br.spec_named (fn_of' T.d_least_factors sc_least_factors (pub_cons (pus_set 2 [] (pur_bltI blt_gcd T.m_gcd (pura_cons (pur_var 0) (pura_cons (pur_var 1) pura_nil))))
    (pub_one (pus_ret [] (pur_tup (pura_cons (pur_bin (pur_var 1) (pur_var 2)) (pura_cons (pur_bin (pur_var 0) (pur_var 2)) pura_nil))))))) (fun Fn hFn => ?_)
  intro a b hb hs
  subst hFn
  have hg : Nat.gcd a.natAbs b.natAbs ≠ 0 := fun h => hb (Int.natAbs_eq_zero.mp (Nat.eq_zero_of_gcd_eq_zero_right h))
  have hgb : Nat.gcd a.natAbs b.natAbs < 2 ^ 32000000 := Nat.lt_of_le_of_lt (Nat.gcd_le_right _ (by omega)) hs
  have ha : ((Nat.gcd a.natAbs b.natAbs : Nat) : Int) ∣ a := Int.natAbs_dvd_natAbs.mp (by rw [Int.natAbs_natCast]; exact Nat.gcd_dvd_left _ _)
  have hb2 : ((Nat.gcd a.natAbs b.natAbs : Nat) : Int) ∣ b := Int.natAbs_dvd_natAbs.mp (by rw [Int.natAbs_natCast]; exact Nat.gcd_dvd_right _ _)
  have hd : ∀ x : Int, divOk x ((Nat.gcd a.natAbs b.natAbs : Nat) : Int) = true := fun x => divOk_of (b := 32000000) (by omega) (by rw [Int.natAbs_natCast]; exact hgb) (by decide) (by decide)
  have e1 := Int.fdiv_mul_cancel ha
  have e2 := Int.fdiv_mul_cancel hb2
  have s1 := fdiv_small (a := a) (s := ((Nat.gcd a.natAbs b.natAbs : Nat) : Int)) (by omega) ha
  have s2 := fdiv_small (a := b) (s := ((Nat.gcd a.natAbs b.natAbs : Nat) : Int)) (by omega) hb2
  refine ⟨b.fdiv ((Nat.gcd a.natAbs b.natAbs : Nat) : Int), a.fdiv ((Nat.gcd a.natAbs b.natAbs : Nat) : Int), ⟨?_, fun z => hb (by rw [z, Int.zero_mul] at e2; exact e2.symm), s2, s1, Nat.mul_le_mul_right _ s2⟩, ?_⟩
  · generalize b.fdiv ((Nat.gcd a.natAbs b.natAbs : Nat) : Int) = f at *
    generalize a.fdiv ((Nat.gcd a.natAbs b.natAbs : Nat) : Int) = o at *
    generalize ((Nat.gcd a.natAbs b.natAbs : Nat) : Int) = g at *
    rw [← e1, ← e2]
    grind
  · refine runD_ret ?_
    have hz : szOk 2 = true := szOk_of (by decide)
    simp -implicitDefEqProofs [startE, oI_div (hd _), hz, storeV, lf]
def StA (one other : List Int) (f o : Int) (start : Nat) (A : List Int) (o7 o8 : Option (PyData × Bool)) : SEn := [some (.list (one.map .int), false), some (.int f, false), some (.list (other.map .int), false), some (.int o, false), some (.int (start : Int), false), some (.list (A.map .int), true), o7, o8]
theorem gi_set' {ts : List Int} {k : Nat} {v : Int} (hk : k < ts.length) {i : Nat} : Al.gi (ts.set k v) i = if i = k then v else Al.gi ts i := Al.gi_set hk i
def Φ_taken_away (Fn : List PyData → R PyData) : Prop := ∀ (one other : List Int) (f o : Int) (start : Nat), start + other.length ≤ 100000 → one.length ≤ 100000 →
  (∀ i, mulOk (Al.gi one i) f = true) → (∀ i, mulOk (Al.gi other i) o = true) →
  ∃ r : List Int, (r.length = max one.length (start + other.length) ∧ ∀ i, Al.gi r i = Al.gi one i * f - (if i < start then 0 else Al.gi other (i - start) * o)) ∧
    Fn [.list (one.map .int), .int f, .list (other.map .int), .int o, .int start] = .ok (.list (r.map .int))
theorem spec_taken_away (T : Txt D) : Spec D 33 "taken_away" 5 Φ_taken_away := by
  refine Br.spec_named (fn_of' T.d_taken_away sc_taken_away (pub_cons (pus_setL 5 [] (purl_cat (PurL.pur (purl_comp (own := [("top", 7)]) (puri_seq (pur_var 0)) (puge_name 7) purts_nil (pur_bin (pur_var 7) (pur_var 1)))) (pur_bin (pur_lst (pura_cons pur_int pura_nil)) (pur_bin (pur_bin (pur_var 4) (pur_blt blt_len T.n_len (pura_cons (pur_var 2) pura_nil))) (pur_blt blt_len T.n_len (pura_cons (pur_var 0) pura_nil))))))
    (pub_cons (pus_for [] (puri_enum T.n_enumerate (pura_cons (pur_var 2) pura_nil)) (pug_tup (n := 2) (pugs_cons (pug_name 6) (pugs_cons (pug_name 7) pugs_nil))) (pub_one (pus_subaug 5 [5] (pur_bin (pur_var 4) (pur_var 6)) (pur_bin (pur_var 7) (pur_var 3)))))
    (pub_one (pus_ret [5] (pur_var 5)))))) (fun Fn hFn => ?_)
  intro one other f o start h1 h2 m1 m2
  subst hFn
  refine runD_ret_ex1 (k := fun r : List Int => .list (r.map .int)) ?_
  obtain ⟨n, hn⟩ : ∃ n : Nat, ((start : Int) + (other.length : Int) - (one.length : Int)).toNat = n := ⟨_, rfl⟩
  have o1 := oL_rep0 (k := (start : Int) + (other.length : Int) - (one.length : Int)) (by omega) (by omega)
  rw [hn] at o1
  have hz1 : szOk 1 = true := szOk_of (by decide)
  have hzo : szOk one.length = true := szOk_of (by omega)
  have hzs : szOk (one.length + n) = true := szOk_of (by omega)
  have hlf : lfA (((one.map fun x => x * f) ++ List.replicate n (0 : Int)).map PyData.int) = true := lfA_ints _
  simp -implicitDefEqProofs [startE, oI_add, oI_sub, hz1, o1]
  generalize hL : lcD _ _ _ _ _ = L
  have := lcD_run hL (List.range one.length) (fun i => .int (Al.gi one i)) (fun i => .int (Al.gi one i * f)) ?_ (fun i hi => ⟨_, rfl, rfl, by
    simp -implicitDefEqProofs [wipeE, oI_mul (m1 i)]⟩)
  · subst this
    clear hL
    have e1 : (List.range one.length).map (fun i => PyData.int (Al.gi one i * f)) = (one.map fun x => x * f).map PyData.int := by
      refine List.ext_getElem (by simp) fun i h1 h2 => ?_
      simp at h1
      simp [Al.gi, h1]
    have e2 : (one.map fun x => x * f).map PyData.int ++ List.replicate n (PyData.int 0) = ((one.map fun x => x * f) ++ List.replicate n (0 : Int)).map PyData.int := by rw [rep_ints, List.map_append]
    have hA0 : ((one.map fun x => x * f) ++ List.replicate n (0 : Int)).length = max one.length (start + other.length) := by simp; omega
    have hA1 : ∀ i, Al.gi ((one.map fun x => x * f) ++ List.replicate n (0 : Int)) i = Al.gi one i * f := fun i => by
      rw [gi_append, gi_mapmul, Al.gi_rep]
      split
      · rfl
      · rename_i h
        rw [List.length_map] at h
        rw [Al.gi_ge (ts := one) (by omega), Int.zero_mul]
    rw [e1]
    have hl1 : ((one.map fun x => x * f).map PyData.int).length = one.length := by simp
    generalize (one.map fun x => x * f).map PyData.int = P at *
    generalize (one.map fun x => x * f) ++ List.replicate n (0 : Int) = A0 at *
    simp -implicitDefEqProofs [hzo, hzs, hl1, e2, storeL_lf hlf, enumF]
    rw [enum_ints]
    generalize hF : forD _ _ _ _ = r
    have := forD_rule hF (fun j se => ∃ (A : List Int) (o7 o8 : Option (PyData × Bool)), (A.length = A0.length ∧ ∀ i, Al.gi A i = Al.gi one i * f - (if i < start ∨ start + j ≤ i then 0 else Al.gi other (i - start) * o)) ∧ se = StA one other f o start A o7 o8)
      (fun r => ∃ (A : List Int) (o7 o8 : Option (PyData × Bool)), (A.length = A0.length ∧ ∀ i, Al.gi A i = Al.gi one i * f - (if i < start then 0 else Al.gi other (i - start) * o)) ∧ r = .next (StA one other f o start A o7 o8))
      ⟨A0, _, _, ⟨rfl, fun i => by rw [hA1, if_pos (by omega)]; omega⟩, rfl⟩ ?_ ?_
    · obtain ⟨A, o7, o8, ⟨hA, hAi⟩, rfl⟩ := this
      refine ⟨A, ⟨by omega, hAi⟩, ?_⟩
      simp -implicitDefEqProofs [StA]
    · rintro j d se hj ⟨A, o7, o8, ⟨hA, hAi⟩, rfl⟩
      obtain ⟨hjl, rfl⟩ := map_get hj
      have hij : start + j < A.length := by omega
      have hat : atI (A.map PyData.int) ((start : Int) + (j : Int)) = some (.int (Al.gi A (start + j))) := by
        rw [← Int.natCast_add]
        exact atI_nat (intsL_get hij)
      have hix : ixN A.length ((start : Int) + (j : Int)) = some (start + j) := by rw [← Int.natCast_add]; exact ixN_at hij
      refine ⟨_, rfl, stepQ_next (StA one other f o start (A.set (start + j) (Al.gi A (start + j) - Al.gi other j * o)) (some (.int (j : Int), false)) (some (.int (Al.gi other j), false))) ?_ ⟨_, _, _, ⟨by rw [List.length_set]; exact hA, fun i => ?_⟩, rfl⟩⟩
      · simp -implicitDefEqProofs [StA, oI_add, oI_mul (m2 j), hat, hix, List.map_set]
      · rw [gi_set' hij]
        by_cases e : i = start + j
        · rw [if_pos e, hAi, e, if_pos (by omega), if_neg (by omega), show start + j - start = j by omega]
          omega
        · rw [if_neg e, hAi]
          congr 1
          by_cases c : i < start ∨ start + j ≤ i
          · rw [if_pos c, if_pos (by omega)]
          · rw [if_neg c, if_neg (by omega)]
    · rintro se ⟨A, o7, o8, ⟨hA, hAi⟩, rfl⟩
      refine ⟨A, o7, o8, ⟨hA, fun i => ?_⟩, rfl⟩
      rw [hAi]
      congr 1
      simp only [List.length_map, List.length_range]
      by_cases c : i < start
      · rw [if_pos (by omega), if_pos c]
      · rw [if_neg c]
        by_cases c2 : start + other.length ≤ i
        · rw [if_pos (by omega), Al.gi_ge (ts := other) (by omega), Int.zero_mul]
        · rw [if_neg (by omega)]
  · refine List.ext_getElem (by simp) fun i h1 h2 => ?_
    simp at h1
    simp [Al.gi, h1]
def StD (p q : Al.Poly) (B : List Rat) (rs : List Int) (bt : Int) (us : List Int) (c : Nat) (o7 o8 : Option (PyData × Bool)) : SEn :=
  [some (.tuple (p.val.map frR), false), some (.tuple (q.val.map frR), false), some (.list (B.map frR), true), some (.list (rs.map .int), false), some (.int bt, false), some (.list (us.map .int), false), some (.int (c : Int), false), o7, o8]
/-- what holds at each turn of a division -/
structure DivI (p q : Al.Poly) (D N M : Nat) (us : List Int) (B : List Rat) (rs : List Int) (bt : Int) : Prop where
  lens : B.length + rs.length = p.len
  far : q.len ≤ rs.length + 1 ∨ B = []
  bt0 : bt ≠ 0
  val : p = Al.ofL (List.replicate (rs.length + 1 - q.len) 0 ++ B.reverse) * q + Al.C (1 / (bt : Rat)) * Al.zp rs
  btb : bt.natAbs ≤ D * M ^ B.length
  rsb : ∀ i, (Al.gi rs i).natAbs ≤ N * (2 * M) ^ B.length
def Φ_divided (Fn : List PyData → R PyData) : Prop := (∀ p : Al.Poly, p.len ≤ 1000 → Fn [rowD p, rowD 0] = .ex "Nought") ∧
  ∀ (p q : Al.Poly) (D N E M : Nat), p.len ≤ 1000 → q.len ≤ 1000 → q ≠ 0 → Al.Hn p D N → Al.Hn q E M → D * M ^ (p.len + 1 - q.len) < 2 ^ 32000000 → N * (2 * M) ^ (p.len + 1 - q.len) < 2 ^ 33000000 → E < 2 ^ 32000000 → M < 2 ^ 32000000 →
    Fn [rowD p, rowD q] = .ok (.tuple [rowD (Al.dv p q), rowD (Al.md p q)])
theorem Φ_divided.szl {Fn : List PyData → R PyData} (h : Φ_divided Fn) {n k m j s : Nat} {p q : Al.Poly} (hp : Sz n k p) (hq : Sz m j q) (h0 : q ≠ 0) (hn : n ≤ 1000) (hm : m ≤ 1000) (hs : p.len + 1 - q.len ≤ s) (hb : k + (j + 1) * s ≤ 32000000) (hj : j ≤ 32000000) :
    Fn [rowD p, rowD q] = .ok (.tuple [rowD (Al.dv p q), rowD (Al.md p q)]) := by
  obtain ⟨hl, D, N, hp, hD, hN⟩ := hp
  obtain ⟨gl, E, M, hq, hE, hM⟩ := hq
  have h1 : (j + 1) * (p.len + 1 - q.len) ≤ (j + 1) * s := Nat.mul_le_mul_left _ hs
  have h2 : j * (p.len + 1 - q.len) ≤ (j + 1) * (p.len + 1 - q.len) := Nat.mul_le_mul_right _ (by omega)
  exact h.2 p q D N E M (by omega) (by omega) h0 hp hq (mul_pow_lt hD (Nat.le_of_lt hM) (by omega)) (mul_pow_lt hN (two_le hM) (by omega)) (pow_lim hE hj) (pow_lim hM hj)
theorem Φ_divided.sz {Fn : List PyData → R PyData} (h : Φ_divided Fn) {n k m j : Nat} {p q : Al.Poly} (hp : Sz n k p) (hq : Sz m j q) (h0 : q ≠ 0) (hn : n ≤ 1000) (hm : m ≤ 1000) (hb : k + (j + 1) * (n + 1) ≤ 32000000) (hj : j ≤ 32000000) :
    Fn [rowD p, rowD q] = .ok (.tuple [rowD (Al.dv p q), rowD (Al.md p q)]) := h.szl hp hq h0 hn hm (s := n + 1) (by have := hp.1; omega) hb hj
theorem spec_divided (T : Txt D) : Spec D 36 "divided" 2 Φ_divided := by
  obtain ⟨F_refuse_no_row, S_refuse_no_row, h_refuse_no_row⟩ := spec_refuse_no_row T
  obtain ⟨F_over_one_bottom, S_over_one_bottom, h_over_one_bottom⟩ := spec_over_one_bottom T
  obtain ⟨F_least_factors, S_least_factors, h_least_factors⟩ := spec_least_factors T
  obtain ⟨F_row_over, S_row_over, h_row_over⟩ := spec_row_over T
  obtain ⟨F_fraction, S_fraction, h_fraction⟩ := spec_fraction T
  obtain ⟨F_taken_away, S_taken_away, h_taken_away⟩ := spec_taken_away T
  refine Br.spec_named (fn_of' T.d_divided sc_divided (pub_cons (pus_expr [2] (pur_call S_refuse_no_row (pura_cons (pur_var 0) pura_nil)))
    (pub_cons (pus_expr [2] (pur_call S_refuse_no_row (pura_cons (pur_var 1) pura_nil)))
    (pub_cons (pus_if [2] (purt_not (purt_val (pur_var 1))) (pub_one (pus_raise T.x_Nought)) pub_nil)
    (pub_cons (pus_asg [] (pur_call S_over_one_bottom (pura_cons (pur_var 0) pura_nil)) (pug_tup (n := 2) (pugs_cons (pug_name 3) (pugs_cons (pug_name 4) pugs_nil))))
    (pub_cons (pus_asg [] (pur_call S_over_one_bottom (pura_cons (pur_var 1) pura_nil)) (pug_tup (n := 2) (pugs_cons (pug_name 5) (pugs_cons (pug_name 6) pugs_nil))))
    (pub_cons (pus_setL 2 [] (purl_lst pura_nil))
    (pub_cons (pus_while [2] (purt_cmp (pur_blt blt_len T.n_len (pura_cons (pur_var 3) pura_nil)) (pur_blt blt_len T.n_len (pura_cons (pur_var 5) pura_nil))) (pub_cons (pus_append 2 [] (pur_call S_fraction (pura_cons (pur_bin (pur_ix (pur_var 3) (pur_neg pur_int)) (pur_var 6)) (pura_cons (pur_bin (pur_var 4) (pur_ix (pur_var 5) (pur_neg pur_int))) pura_nil))))
    (pub_cons (pus_asg [] (pur_call S_least_factors (pura_cons (pur_ix (pur_var 3) (pur_neg pur_int)) (pura_cons (pur_ix (pur_var 5) (pur_neg pur_int)) pura_nil))) (pug_tup (n := 2) (pugs_cons (pug_name 7) (pugs_cons (pug_name 8) pugs_nil))))
    (pub_cons (pus_set 3 [] (pur_slice (pur_call S_taken_away (pura_cons (pur_var 3) (pura_cons (pur_var 7) (pura_cons (pur_var 5) (pura_cons (pur_var 8) (pura_cons (pur_bin (pur_blt blt_len T.n_len (pura_cons (pur_var 3) pura_nil)) (pur_blt blt_len T.n_len (pura_cons (pur_var 5) pura_nil))) pura_nil)))))) puro_none (puro_some (pur_neg pur_int))))
    (pub_one (pus_set 4 [] (pur_bin (pur_var 4) (pur_var 7))))))))
    (pub_one (pus_ret [2] (pur_tup (pura_cons (pur_bltT blt_tuple T.n_tuple (pura_cons (pur_rev (pur_var 2)) pura_nil)) (pura_cons (pur_call S_row_over (pura_cons (pur_var 3) (pura_cons (pur_var 4) pura_nil))) pura_nil))))))))))))) (fun Fn hFn => ?_)
  constructor
  · intro p hp
    rw [hFn]
    refine runD_ex (se := startE 9 [rowD p, rowD 0]) ?_
    have r1 : F_refuse_no_row [.tuple (p.val.map frR)] = .ok .none := h_refuse_no_row.1 p hp
    have r2 : F_refuse_no_row [.tuple ((0 : Al.Poly).val.map frR)] = .ok .none := h_refuse_no_row.1 0 (by decide)
    have hz : (0 : Al.Poly).val = [] := rfl
    rw [hz] at r2
    simp at r2
    simp -implicitDefEqProofs [startE, rowD, frsT, r1, r2, hz, truth]
  intro p q D N E M hp hq hq0 hH kH b1 b2 b3 b4
  subst hFn
  refine runD_ret ?_
  have r1 : F_refuse_no_row [.tuple (p.val.map frR)] = .ok .none := h_refuse_no_row.1 p hp
  have r2 : F_refuse_no_row [.tuple (q.val.map frR)] = .ok .none := h_refuse_no_row.1 q hq
  have t1 := truth_row q
  rw [decide_eq_true hq0] at t1
  have hM0 : 0 < M := by
    obtain ⟨t, et, ht⟩ := kH.2 (q.len - 1)
    rcases Nat.eq_zero_or_pos M with z | z
    · exfalso
      rw [z] at ht
      have : t = 0 := Int.natAbs_eq_zero.mp (by omega)
      rw [this] at et
      rcases Rat.mul_eq_zero.mp et with h | h
      · exact Al.Poly.ld_ne hq0 h
      · exact Al.natCast_ne kH.1 h
    · exact z
  have hD8 : D < 2 ^ 32000000 := Nat.lt_of_le_of_lt (Nat.le_mul_of_pos_right D (Nat.pow_pos hM0)) b1
  have hN9 : N < 2 ^ 33000000 := Nat.lt_of_le_of_lt (Nat.le_mul_of_pos_right N (Nat.pow_pos (Nat.mul_pos (by decide) hM0))) b2
  have hM9 : M < 2 ^ 33000000 := pow_lim b4 (by decide)
  obtain ⟨ts, b, ⟨hb, hbD, htl, htz, htN⟩, e1⟩ := h_over_one_bottom p D N hp hH hD8 hN9
  obtain ⟨us, c, ⟨hc, hcE, hul, huz, huM⟩, e2⟩ := h_over_one_bottom q E M hq kH b3 hM9
  have e1' : F_over_one_bottom [.tuple (p.val.map frR)] = _ := e1
  have e2' : F_over_one_bottom [.tuple (q.val.map frR)] = _ := e2
  have hz0 : szOk 0 = true := szOk_of (by decide)
  have hqp := Al.Poly.len_pos.mpr hq0
  have ht0 : Al.gi us (q.len - 1) ≠ 0 := Al.gi_lead huz (Al.natCast_ne hc) hq0
  have hb' := Al.natCast_ne hb
  have hc' := Al.natCast_ne hc
  have hcl : ((c : Int)).natAbs < 2 ^ 32000000 := by rw [Int.natAbs_natCast]; exact lim8 hcE kH.1 b3
  have hst := storeL_lf (m := []) (i := 2) (ds := []) (se := [some (.tuple (p.val.map frR), false), some (.tuple (q.val.map frR), false), none, some (.list (ts.map .int), false), some (.int (b : Int), false), some (.list (us.map .int), false), some (.int (c : Int), false), none, none]) rfl
  simp -implicitDefEqProofs [startE, rowD, frsT, r1, r2, t1, e1', e2', hz0, hst]
  generalize hF : whileD _ _ _ = r
  have := whileD_rule hF (fun se => ∃ (B : List Rat) (rs : List Int) (bt : Int) (o7 o8 : Option (PyData × Bool)), DivI p q D N M us B rs bt ∧ se = StD p q B rs bt us c o7 o8)
    (fun r => ∃ (B : List Rat) (rs : List Int) (bt : Int) (o7 o8 : Option (PyData × Bool)), DivI p q D N M us B rs bt ∧ rs.length < q.len ∧ r = .next (StD p q B rs bt us c o7 o8))
    (fun se => match se with | [_, _, _, some (.list xs, _), _, _, _, _, _] => xs.length | _ => 0)
    ⟨[], ts, (b : Int), _, _, ⟨by rw [List.length_nil, Nat.zero_add, htl], .inr rfl, by omega, by
        rw [List.reverse_nil, List.append_nil, Al.ofL_rep0, Rat.intCast_natCast, ← Al.inv_C hb' htz]; grind, by
        rw [Int.natAbs_natCast, List.length_nil, Nat.pow_zero, Nat.mul_one]; exact Nat.le_of_dvd hH.1 hbD, fun i => by
        rw [List.length_nil, Nat.pow_zero, Nat.mul_one]; exact htN i⟩, rfl⟩ ?_
  · obtain ⟨B, rs, bt, o7, o8, hI, hlt, rfl⟩ := this
    obtain ⟨i1, i2, i3, i4, i5, i6⟩ := hI
    have hBle : B.length ≤ p.len + 1 - q.len := by
      rcases i2 with h | h
      · omega
      · rw [h]; exact Nat.zero_le _
    have hbt8 : bt.natAbs < 2 ^ 32000000 := Nat.lt_of_le_of_lt (Nat.le_trans i5 (Nat.mul_le_mul_left _ (Nat.pow_le_pow_right hM0 hBle))) b1
    have e := h_row_over rs bt (by omega) i3 hbt8
    rw [show rs.length + 1 - q.len = 0 by omega] at i4
    obtain ⟨d1, d2⟩ := Al.dv_eq i4 (by
      have h1 := Al.len_mul_le (Al.C (1 / (bt : Rat))) (Al.zp rs)
      have h2 := Al.Poly.len_C_le (1 / (bt : Rat))
      have h3 := Al.zp_len rs
      omega)
    have hv : (Al.dv p q).val = B.reverse := val_eq (by
      rw [List.length_reverse]
      rcases i2 with i2 | i2
      · by_cases hpq : q.len ≤ p.len
        · rw [Al.dv_len_eq hq0 hpq]
          omega
        · have : B.length = 0 := by omega
          rw [this, d1, List.length_eq_zero_iff.mp this]
          rfl
      · rw [d1, i2]; rfl) fun i => by rw [d1, Al.c_ofL]; rfl
    rw [← d2] at e
    have hz2 : szOk 2 = true := szOk_of (by decide)
    have hzB : szOk B.length = true := szOk_of (by omega)
    rw [hv]
    simp -implicitDefEqProofs [StD, e, hz2, hzB]
    rfl
  · rintro se ⟨B, rs, bt, o7, o8, hI, rfl⟩
    by_cases hle : q.len ≤ rs.length
    · have hcond : ((us.length : Int) ≤ (rs.length : Int)) := by omega
      refine ⟨true, by simp -implicitDefEqProofs [StD, cI_ge, hcond], (fun h => by cases h), fun _ => ?_⟩
      obtain ⟨i1, i2, i3, i4, i5, i6⟩ := hI
      have hrp : 0 < rs.length := by omega
      have hr1 : atI (rs.map PyData.int) (-1) = some (.int (Al.gi rs (rs.length - 1))) := atI_lastI hrp
      have hr2 : atI (us.map PyData.int) (-1) = some (.int (Al.gi us (q.len - 1))) := by rw [← hul]; exact atI_lastI (by omega)
      have hBn : B.length + 1 ≤ p.len + 1 - q.len := by omega
      have pM : M ^ B.length ≤ M ^ (p.len + 1 - q.len) := Nat.pow_le_pow_right hM0 (by omega)
      have pM1 : M ^ (B.length + 1) ≤ M ^ (p.len + 1 - q.len) := Nat.pow_le_pow_right hM0 hBn
      have p2M : (2 * M) ^ B.length ≤ (2 * M) ^ (p.len + 1 - q.len) := Nat.pow_le_pow_right (Nat.mul_pos (by decide) hM0) (Nat.le_of_succ_le hBn)
      have hbt8 : bt.natAbs < 2 ^ 32000000 := Nat.lt_of_le_of_lt (Nat.le_trans i5 (Nat.mul_le_mul_left _ pM)) b1
      have hrs9 : ∀ i, (Al.gi rs i).natAbs < 2 ^ 33000000 := fun i => Nat.lt_of_le_of_lt (Nat.le_trans (i6 i) (Nat.mul_le_mul_left _ p2M)) b2
      have hus8 : ∀ i, (Al.gi us i).natAbs < 2 ^ 32000000 := fun i => Nat.lt_of_le_of_lt (huM i) b4
      have m1 : mulOk (Al.gi rs (rs.length - 1)) (c : Int) = true := mulOk_of (a := 33000000) (b := 32000000) (hrs9 _) hcl (by decide) (by decide) (by decide)
      have m2 : mulOk bt (Al.gi us (q.len - 1)) = true := mulOk_of (a := 32000000) (b := 32000000) hbt8 (hus8 _) (by decide) (by decide) (by decide)
      have hbt' : (bt * Al.gi us (q.len - 1)).natAbs < 2 ^ 32000000 := by
        rw [Int.natAbs_mul]
        refine Nat.lt_of_le_of_lt (Nat.le_trans (Nat.mul_le_mul i5 (huM _)) ?_) b1
        rw [Nat.mul_assoc, ← Nat.pow_succ]
        exact Nat.mul_le_mul_left _ pM1
      have ef := h_fraction.2 (Al.gi rs (rs.length - 1) * (c : Int)) (bt * Al.gi us (q.len - 1)) (Int.mul_ne_zero i3 ht0) hbt'
      obtain ⟨f, o, ⟨hfo, hf0, hf1, hf2, _⟩, el⟩ := h_least_factors (Al.gi rs (rs.length - 1)) (Al.gi us (q.len - 1)) ht0 (hus8 _)
      have hf8 : f.natAbs < 2 ^ 32000000 := Nat.lt_of_le_of_lt hf1 (hus8 _)
      have ho9 : o.natAbs < 2 ^ 33000000 := Nat.lt_of_le_of_lt hf2 (hrs9 _)
      obtain ⟨r, ⟨hrl, hri⟩, et⟩ := h_taken_away rs us f o (rs.length - q.len) (by omega) (by omega)
        (fun i => mulOk_of (a := 33000000) (b := 32000000) (hrs9 _) hf8 (by decide) (by decide) (by decide)) (fun i => mulOk_of (a := 32000000) (b := 33000000) (hus8 _) ho9 (by decide) (by decide) (by decide))
      have hrl' : r.length = rs.length := by omega
      have m3 : mulOk bt f = true := mulOk_of (a := 32000000) (b := 32000000) hbt8 hf8 (by decide) (by decide) (by decide)
      have hsub : ((rs.length : Int) - (us.length : Int)) = ((rs.length - q.len : Nat) : Int) := by omega
      have hz1 : szOk (B.length + 1) = true := szOk_of (by omega)
      refine stepQ_next (StD p q (B ++ [((Al.gi rs (rs.length - 1) * (c : Int) : Int) : Rat) / ((bt * Al.gi us (q.len - 1) : Int) : Rat)]) r.dropLast (bt * f) us c (some (.int f, false)) (some (.int o, false))) ?_ ⟨⟨_, _, _, _, _, ⟨?_, ?_, Int.mul_ne_zero i3 hf0, ?_, ?_, fun i => ?_⟩, rfl⟩, ?_⟩
      · simp -implicitDefEqProofs [StD, hr1, hr2, oI_mul m1, oI_mul m2, ef, hz1, el, oI_sub, hsub, et, oI_mul m3, cut_last, List.map_dropLast, -Rat.intCast_mul]
      · rw [List.length_append, List.length_singleton, List.length_dropLast]; omega
      · left; rw [List.length_dropLast]; omega
      · refine div_poly (by omega) hle hrl' hri i3 hf0 ht0 (Al.natCast_ne hc) huz hul hfo i4 ?_
        have h1 := intCast_ne i3
        have h2 := intCast_ne ht0
        rw [Rat.intCast_mul, Rat.intCast_mul, Rat.intCast_natCast]
        grind
      · rw [List.length_append, List.length_singleton, Nat.pow_succ, ← Nat.mul_assoc, Int.natAbs_mul]
        exact Nat.mul_le_mul i5 (Nat.le_trans hf1 (huM _))
      · rw [gi_dropLast, List.length_append, List.length_singleton, Nat.pow_succ]
        split
        · rw [hri]
          have h1 : (Al.gi rs i * f).natAbs ≤ N * (2 * M) ^ B.length * M := by
            rw [Int.natAbs_mul]
            exact Nat.mul_le_mul (i6 i) (Nat.le_trans hf1 (huM _))
          have h2 : (if i < rs.length - q.len then 0 else Al.gi us (i - (rs.length - q.len)) * o).natAbs ≤ N * (2 * M) ^ B.length * M := by
            split
            · exact Nat.zero_le _
            · rw [Int.natAbs_mul, Nat.mul_comm]
              exact Nat.mul_le_mul (Nat.le_trans hf2 (i6 _)) (huM _)
          have h3 := Int.natAbs_sub_le (Al.gi rs i * f) (if i < rs.length - q.len then 0 else Al.gi us (i - (rs.length - q.len)) * o)
          have h4 : N * ((2 * M) ^ B.length * (2 * M)) = 2 * (N * (2 * M) ^ B.length * M) := by
            generalize (2 * M) ^ B.length = z
            grind
          omega
        · exact Nat.zero_le _
      · show (r.dropLast.map PyData.int).length < (rs.map PyData.int).length
        rw [List.length_map, List.length_map, List.length_dropLast]
        omega
    · have hcond : ¬ ((us.length : Int) ≤ (rs.length : Int)) := by omega
      exact ⟨false, by simp -implicitDefEqProofs [StD, cI_ge, hcond], fun _ => ⟨B, rs, bt, o7, o8, hI, by omega, rfl⟩, (fun h => by cases h)⟩
def Φ__law_is_row (Fn : List PyData → R PyData) : Prop := ∀ p : Al.Poly, p.len ≤ 1000000 → Fn [rowD p] = .ok (.bool true)
theorem spec__law_is_row (T : Txt D) : Spec D 35 "_law_is_row" 1 Φ__law_is_row := by
  obtain ⟨F__law_is_fraction, S__law_is_fraction, h__law_is_fraction⟩ := spec__law_is_fraction T
  refine Br.spec_named (fn_of' T.d__law_is_row sc__law_is_row (pub_cons (pus_if [] (purt_not (purt_val (pur_isa (T := "tuple") T.n_isinstance T.n_tuple (pur_var 0)))) (pub_one (pus_ret [] pur_bool)) pub_nil)
    (pub_cons (pus_for [] (puri_seq (pur_var 0)) (pug_name 1) (pub_one (pus_if [] (purt_not (purt_val (pur_call S__law_is_fraction (pura_cons (pur_var 1) pura_nil)))) (pub_one (pus_ret [] pur_bool)) pub_nil)))
    (pub_one (pus_ret [] (pur_or (pur_cmp (pur_blt blt_len T.n_len (pura_cons (pur_var 0) pura_nil)) pur_int) (pur_one (pur_cmp (pur_ix (pur_ix (pur_var 0) (pur_neg pur_int)) pur_int) pur_int)))))))) (fun Fn hFn => ?_)
  intro p hp
  subst hFn
  have k1 : isA "tuple" (.tuple (p.val.map frR)) = .ok (.bool true) := rfl
  have hpl : p.val.length = p.len := rfl
  refine runD_ret ?_
  simp -implicitDefEqProofs [startE, rowD, frsT, k1, truth]
  generalize hF : forD _ _ _ _ = r
  have := forD_rule hF (fun i se => ∃ o, se = [some (.tuple (p.val.map frR), false), o]) (fun r => ∃ o, r = .next [some (.tuple (p.val.map frR), false), o]) ⟨_, rfl⟩ ?_ ?_
  · obtain ⟨o, rfl⟩ := this
    by_cases h0 : p.val = []
    · simp -implicitDefEqProofs [h0, cI_eq, truth]
    · have e2 := atI_lastF h0
      have hne : Al.cf p.val (p.val.length - 1) ≠ 0 := Al.poly_last.resolve_left h0
      have hl0 : ¬ ((p.val.length : Int) = 0) := by have := List.length_pos_iff.mpr h0; omega
      have hn := num_ne hne
      simp -implicitDefEqProofs [cI_eq, cI_ne, truth, e2, h0, frR, at0, hn]
  · rintro i d se hi ⟨o, rfl⟩
    obtain ⟨hil, rfl⟩ := frs_get' hi
    have e := h__law_is_fraction (frR (Al.cf p.val i))
    rw [isFr_frR] at e
    refine ⟨_, rfl, stepQ_next [some (.tuple (p.val.map frR), false), some (frR (Al.cf p.val i), false)] ?_ ⟨_, rfl⟩⟩
    simp -implicitDefEqProofs [e, truth]
  · rintro se ⟨o, rfl⟩
    exact ⟨o, rfl⟩
def Φ__law_sum (Fn : List PyData → R PyData) : Prop := ∀ p q : Rat, Sr p → Sr q → Fn [frR p, frR q] = .ok (frR (p + q))
theorem spec__law_sum (T : Txt D) : Spec D 35 "_law_sum" 2 Φ__law_sum := by
  obtain ⟨F__law_fraction, S__law_fraction, h__law_fraction⟩ := spec__law_fraction T
  refine ⟨_, fn_of' T.d__law_sum sc__law_sum (pub_one (pus_ret [] (pur_call S__law_fraction (pura_cons (pur_bin (pur_bin (pur_ix (pur_var 0) pur_int) (pur_ix (pur_var 1) pur_int)) (pur_bin (pur_ix (pur_var 1) pur_int) (pur_ix (pur_var 0) pur_int))) (pura_cons (pur_bin (pur_ix (pur_var 0) pur_int) (pur_ix (pur_var 1) pur_int)) pura_nil))))), ?_⟩
  intro p q sp sq
  have e := h__law_fraction (p.num * (q.den : Int) + q.num * (p.den : Int)) ((p.den : Int) * (q.den : Int)) (Int.mul_ne_zero (den_ne p) (den_ne q)) (mul_sr' sp.d sq.d)
  rw [rat_add'] at e
  refine runD_ret ?_
  simp -implicitDefEqProofs [startE, ix_frR0, ix_frR1, opV, mul_sr sp.n sq.d, mul_sr sq.n sp.d, mul_sr sp.d sq.d, e, -ixV]
def Φ__law_product (Fn : List PyData → R PyData) : Prop := ∀ p q : Rat, Sr p → Sr q → Fn [frR p, frR q] = .ok (frR (p * q))
theorem spec__law_product (T : Txt D) : Spec D 35 "_law_product" 2 Φ__law_product := by
  obtain ⟨F__law_fraction, S__law_fraction, h__law_fraction⟩ := spec__law_fraction T
  refine ⟨_, fn_of' T.d__law_product sc__law_product (pub_one (pus_ret [] (pur_call S__law_fraction (pura_cons (pur_bin (pur_ix (pur_var 0) pur_int) (pur_ix (pur_var 1) pur_int)) (pura_cons (pur_bin (pur_ix (pur_var 0) pur_int) (pur_ix (pur_var 1) pur_int)) pura_nil))))), ?_⟩
  intro p q sp sq
  have e := h__law_fraction (p.num * q.num) ((p.den : Int) * (q.den : Int)) (Int.mul_ne_zero (den_ne p) (den_ne q)) (mul_sr' sp.d sq.d)
  rw [rat_mul'] at e
  refine runD_ret ?_
  simp -implicitDefEqProofs [startE, ix_frR0, ix_frR1, opV, mul_sr sp.n sq.n, mul_sr sp.d sq.d, e, -ixV]
def Φ__law_trim (Fn : List PyData → R PyData) : Prop := (∀ l : List Rat, Fn [frsL l] = .ok (rowD (Al.ofL l))) ∧ ∀ l : List Rat, Fn [frsT l] = .ok (rowD (Al.ofL l))
theorem spec__law_trim (T : Txt D) : Spec D 33 "_law_trim" 1 Φ__law_trim := by
  refine Br.spec_named (fn_of' T.d__law_trim sc__law_trim (pub_cons (pus_while [] (purt_w (purw_and (purt_cmp (pur_blt blt_len T.n_len (pura_cons (pur_var 0) pura_nil)) pur_int) (purw_and1 (purt_cmp (pur_ix (pur_ix (pur_var 0) (pur_neg pur_int)) pur_int) pur_int)))) (pub_one (pus_set 0 [] (pur_slice (pur_var 0) puro_none (puro_some (pur_neg pur_int))))))
    (pub_one (pus_ret [] (pur_bltT blt_tuple T.n_tuple (pura_cons (pur_var 0) pura_nil)))))) (fun Fn hFn => ?_)
  refine ⟨fun l => ?_, fun l => ?_⟩
  · subst hFn
    refine runD_ret ?_
    simp -implicitDefEqProofs [startE, frsL]
    generalize hF : whileD _ _ _ = r
    have := whileD_rule hF (fun se => ∃ n : Nat, n ≤ l.length ∧ (∀ i, n ≤ i → Al.cf l i = 0) ∧ se = [some (.list ((l.take n).map frR), false)])
      (fun r => r = .next [some (.list ((Al.trimL l).map frR), false)])
      (fun se => match se with | [some (.list xs, _)] => xs.length | _ => 0) ⟨l.length, Nat.le_refl _, fun i hi => Al.cf_ge hi, by rw [List.take_length]⟩ ?_
    · subst this
      simp -implicitDefEqProofs [startE]
      rfl
    · rintro se ⟨n, hn, h0, rfl⟩
      have hlen : ((l.take n).map frR).length = n := by rw [List.length_map, List.length_take]; omega
      by_cases hz : 0 < n
      · have hne : l.take n ≠ [] := fun e => by rw [e] at hlen; simp at hlen; omega
        have e1 := atI_lastF hne
        rw [List.length_take, Nat.min_eq_left hn, cf_take_lt (by omega)] at e1
        have hd : ((l.take n).map frR).dropLast = (l.take (n - 1)).map frR := by
          rw [← List.map_dropLast, List.dropLast_eq_take, List.length_take, Nat.min_eq_left hn, List.take_take, Nat.min_eq_left (by omega)]
        generalize hA : (l.take n).map frR = A at *
        by_cases hq : Al.cf l (n - 1) = 0
        · rw [hq] at e1
          refine ⟨true, by simp -implicitDefEqProofs [cI_gt, hlen, hz, e1, frR, at0, cI_eq], (fun h => by cases h), fun _ => ?_⟩
          refine stepQ_next [some (.list ((l.take (n - 1)).map frR), false)] ?_ ⟨⟨n - 1, by omega, fun i hi => ?_, rfl⟩, ?_⟩
          · simp -implicitDefEqProofs [cut_last, hd]
          · rcases Nat.lt_or_ge i n with h | h
            · rw [show i = n - 1 by omega]; exact hq
            · exact h0 i h
          · show ((l.take (n - 1)).map frR).length < A.length
            rw [hlen, List.length_map, List.length_take]
            omega
        · have hn' := num_ne hq
          refine ⟨false, by simp -implicitDefEqProofs [cI_gt, hlen, hz, e1, frR, at0, cI_eq, hn'], fun _ => ?_, (fun h => by cases h)⟩
          rw [← hA, ← Al.trim_take hn h0 (.inr hq)]
      · have hz' : n = 0 := by omega
        refine ⟨false, by simp -implicitDefEqProofs [cI_gt, hz'], fun _ => ?_, (fun h => by cases h)⟩
        rw [← Al.trim_take hn h0 (.inl hz')]
  · subst hFn
    refine runD_ret ?_
    simp -implicitDefEqProofs [startE, frsT]
    generalize hF : whileD _ _ _ = r
    have := whileD_rule hF (fun se => ∃ n : Nat, n ≤ l.length ∧ (∀ i, n ≤ i → Al.cf l i = 0) ∧ se = [some (.tuple ((l.take n).map frR), false)])
      (fun r => r = .next [some (.tuple ((Al.trimL l).map frR), false)])
      (fun se => match se with | [some (.tuple xs, _)] => xs.length | _ => 0) ⟨l.length, Nat.le_refl _, fun i hi => Al.cf_ge hi, by rw [List.take_length]⟩ ?_
    · subst this
      simp -implicitDefEqProofs [startE]
      rfl
    · rintro se ⟨n, hn, h0, rfl⟩
      have hlen : ((l.take n).map frR).length = n := by rw [List.length_map, List.length_take]; omega
      by_cases hz : 0 < n
      · have hne : l.take n ≠ [] := fun e => by rw [e] at hlen; simp at hlen; omega
        have e1 := atI_lastF hne
        rw [List.length_take, Nat.min_eq_left hn, cf_take_lt (by omega)] at e1
        have hd : ((l.take n).map frR).dropLast = (l.take (n - 1)).map frR := by
          rw [← List.map_dropLast, List.dropLast_eq_take, List.length_take, Nat.min_eq_left hn, List.take_take, Nat.min_eq_left (by omega)]
        generalize hA : (l.take n).map frR = A at *
        by_cases hq : Al.cf l (n - 1) = 0
        · rw [hq] at e1
          refine ⟨true, by simp -implicitDefEqProofs [cI_gt, hlen, hz, e1, frR, at0, cI_eq], (fun h => by cases h), fun _ => ?_⟩
          refine stepQ_next [some (.tuple ((l.take (n - 1)).map frR), false)] ?_ ⟨⟨n - 1, by omega, fun i hi => ?_, rfl⟩, ?_⟩
          · simp -implicitDefEqProofs [cut_last, hd]
          · rcases Nat.lt_or_ge i n with h | h
            · rw [show i = n - 1 by omega]; exact hq
            · exact h0 i h
          · show ((l.take (n - 1)).map frR).length < A.length
            rw [hlen, List.length_map, List.length_take]
            omega
        · have hn' := num_ne hq
          refine ⟨false, by simp -implicitDefEqProofs [cI_gt, hlen, hz, e1, frR, at0, cI_eq, hn'], fun _ => ?_, (fun h => by cases h)⟩
          rw [← hA, ← Al.trim_take hn h0 (.inr hq)]
      · have hz' : n = 0 := by omega
        refine ⟨false, by simp -implicitDefEqProofs [cI_gt, hz'], fun _ => ?_, (fun h => by cases h)⟩
        rw [← Al.trim_take hn h0 (.inl hz')]
def Φ__law_plus (Fn : List PyData → R PyData) : Prop := ∀ l m : List Rat, l.length ≤ 100000 → m.length ≤ 100000 → (∀ i, Sr (Al.cf l i)) → (∀ i, Sr (Al.cf m i)) → Fn [frsT l, frsT m] = .ok (rowD (Al.ofL l + Al.ofL m))
theorem Φ__law_plus.sz {Fn : List PyData → R PyData} (h : Φ__law_plus Fn) {n k m j : Nat} {p q : Al.Poly} (hp : Sz n k p) (hq : Sz m j q) (hn : n ≤ 100000) (hm : m ≤ 100000) (hk : k ≤ 15960000) (hj : j ≤ 15960000) : Fn [rowD p, rowD q] = .ok (rowD (p + q)) := by
  have := h p.val q.val (Nat.le_trans hp.1 hn) (Nat.le_trans hq.1 hm) (hp.fit hk).srl (hq.fit hj).srl
  rw [Al.ofL_val, Al.ofL_val] at this
  exact this
theorem spec__law_plus (T : Txt D) : Spec D 36 "_law_plus" 2 Φ__law_plus := by
  obtain ⟨F__law_trim, S__law_trim, h__law_trim⟩ := spec__law_trim T
  obtain ⟨F__law_sum, S__law_sum, h__law_sum⟩ := spec__law_sum T
  refine Br.spec_named (fn_of' T.d__law_plus sc__law_plus (pub_cons (pus_set 2 [] (pur_blt (blt_max rfl) T.n_max (pura_cons (pur_blt blt_len T.n_len (pura_cons (pur_var 0) pura_nil)) (pura_cons (pur_blt blt_len T.n_len (pura_cons (pur_var 1) pura_nil)) pura_nil))))
    (pub_cons (pus_set 0 [] (pur_bin (pur_bltT blt_list T.n_list (pura_cons (pur_var 0) pura_nil)) (pur_bin (pur_lst (pura_cons (pur_tup (pura_cons pur_int (pura_cons pur_int pura_nil))) pura_nil)) (pur_bin (pur_var 2) (pur_blt blt_len T.n_len (pura_cons (pur_var 0) pura_nil))))))
    (pub_cons (pus_set 1 [] (pur_bin (pur_bltT blt_list T.n_list (pura_cons (pur_var 1) pura_nil)) (pur_bin (pur_lst (pura_cons (pur_tup (pura_cons pur_int (pura_cons pur_int pura_nil))) pura_nil)) (pur_bin (pur_var 2) (pur_blt blt_len T.n_len (pura_cons (pur_var 1) pura_nil))))))
    (pub_one (pus_ret [] (pur_call S__law_trim (pura_cons (PurL.pur (purl_comp (own := [("_law_x", 3), ("_law_y", 4)]) (puri_zip T.n_zip (pura_cons (pur_var 0) (pura_cons (pur_var 1) pura_nil))) (puge_tup (n := 2) (puges_cons (puge_name 3) (puges_cons (puge_name 4) puges_nil))) purts_nil (pur_call S__law_sum (pura_cons (pur_var 3) (pura_cons (pur_var 4) pura_nil))))) pura_nil)))))))) (fun Fn hFn => ?_)
  intro l m hl hm sl sm
  subst hFn
  refine runD_ret ?_
  obtain ⟨a, ha⟩ : ∃ a : Nat, max l.length m.length - l.length = a := ⟨_, rfl⟩
  obtain ⟨b, hb⟩ : ∃ b : Nat, max l.length m.length - m.length = b := ⟨_, rfl⟩
  have hmax : (if l.length < m.length then (m.length : Int) else (l.length : Int)) = ((max l.length m.length : Nat) : Int) := by split <;> omega
  have ha' : ((max l.length m.length : Nat) : Int) - (l.length : Int) = (a : Int) := by omega
  have hb' : ((max l.length m.length : Nat) : Int) - (m.length : Int) = (b : Int) := by omega
  have o1 := oL_repF (k := a) (by omega)
  have o2 := oL_repF (k := b) (by omega)
  have o3 : opV .Add (.list (l.map frR)) (.list ((List.replicate a (0 : Rat)).map frR)) = .ok (.list ((l ++ List.replicate a 0).map frR)) := by
    rw [oL_add (by simp; omega), List.map_append]
  have o4 : opV .Add (.list (m.map frR)) (.list ((List.replicate b (0 : Rat)).map frR)) = .ok (.list ((m ++ List.replicate b 0).map frR)) := by
    rw [oL_add (by simp; omega), List.map_append]
  have hla : (l ++ List.replicate a (0 : Rat)).length = max l.length m.length := by simp; omega
  have hlb : (m ++ List.replicate b (0 : Rat)).length = max l.length m.length := by simp; omega
  have ca : ∀ i, Al.cf (l ++ List.replicate a 0) i = Al.cf l i := cf_pad0 l a
  have cb : ∀ i, Al.cf (m ++ List.replicate b 0) i = Al.cf m i := cf_pad0 m b
  have hz1 : szOk 1 = true := szOk_of (by decide)
  have hz2 : szOk 2 = true := szOk_of (by decide)
  generalize (List.replicate a (0 : Rat)).map frR = A at *
  generalize (List.replicate b (0 : Rat)).map frR = B at *
  generalize l ++ List.replicate a (0 : Rat) = l' at *
  generalize m ++ List.replicate b (0 : Rat) = m' at *
  simp -implicitDefEqProofs [startE, frsT, hmax, oI_sub, ha', hb', o1, o2, o3, o4, hz1, hz2, zipF, zip_frs, hla, hlb, ca, cb]
  generalize hL : lcD _ _ _ _ _ = L
  have := lcD_run hL (List.range (max l.length m.length)) (fun i => .tuple [frR (Al.cf l i), frR (Al.cf m i)]) (fun i => frR (Al.cf l i + Al.cf m i)) rfl (fun i _ => ⟨_, rfl, rfl, by
    have e := h__law_sum (Al.cf l i) (Al.cf m i) (sl i) (sm i)
    simp -implicitDefEqProofs [wipeE, e]⟩)
  subst this
  clear hL
  have hz : szOk (max l.length m.length) = true := szOk_of (by omega)
  have e := h__law_trim.1 ((List.range (max l.length m.length)).map fun i => Al.cf l i + Al.cf m i)
  rw [ofL_range (p := Al.ofL l + Al.ofL m) (fun i _ => by rw [Al.c_add, Al.c_ofL, Al.c_ofL]) (by
    have h1 := Al.Poly.len_add (Al.ofL l) (Al.ofL m)
    have h2 := Al.Poly.len_ofL l
    have h3 := Al.Poly.len_ofL m
    omega)] at e
  unfold frsL at e
  rw [List.map_map] at e
  have e' : F__law_trim [.list ((List.range (max l.length m.length)).map fun i => frR (Al.cf l i + Al.cf m i))] = _ := e
  simp -implicitDefEqProofs [hz, e']
def Φ__law_scale (Fn : List PyData → R PyData) : Prop := ∀ (l : List Rat) (a : Rat), l.length ≤ 100000 → SrL l → Sr a → Fn [frsT l, frR a] = .ok (rowD (Al.C a * Al.ofL l))
theorem spec__law_scale (T : Txt D) : Spec D 36 "_law_scale" 2 Φ__law_scale := by
  obtain ⟨F__law_trim, S__law_trim, h__law_trim⟩ := spec__law_trim T
  obtain ⟨F__law_product, S__law_product, h__law_product⟩ := spec__law_product T
  refine Br.spec_named (fn_of' T.d__law_scale sc__law_scale (pub_one (pus_ret [] (pur_call S__law_trim (pura_cons (PurL.pur (purl_comp (own := [("_law_part", 2)]) (puri_seq (pur_var 0)) (puge_name 2) purts_nil (pur_call S__law_product (pura_cons (pur_var 2) (pura_cons (pur_var 1) pura_nil))))) pura_nil))))) (fun Fn hFn => ?_)
  intro l a hl sl sa
  subst hFn
  refine runD_ret ?_
  simp -implicitDefEqProofs [startE, frsT]
  generalize hL : lcD _ _ _ _ _ = L
  have := lcD_run hL l frR (fun q => frR (q * a)) rfl (fun q hq => ⟨_, rfl, rfl, by
    have hs : Sr q := by
      obtain ⟨i, hi, rfl⟩ := List.mem_iff_getElem.mp hq
      have := sl i
      rwa [show Al.cf l i = l[i] by simp [Al.cf, hi]] at this
    have e := h__law_product q a hs sa
    simp -implicitDefEqProofs [wipeE, e]⟩)
  subst this
  clear hL
  have hz : szOk l.length = true := szOk_of (by omega)
  have e := h__law_trim.1 (l.map fun q => q * a)
  have hp : Al.ofL (l.map fun q => q * a) = Al.C a * Al.ofL l := Al.Poly.ext fun i => by
    rw [Al.c_ofL, Al.c_Cmul, Al.c_ofL]
    unfold Al.cf
    rw [List.getD_eq_getElem?_getD, List.getD_eq_getElem?_getD, List.getElem?_map]
    cases l[i]? with
    | none => simp; try grind
    | some q => simp; try grind
  rw [hp] at e
  unfold frsL at e
  rw [List.map_map] at e
  have e' : F__law_trim [.list (l.map fun q => frR (q * a))] = _ := e
  simp -implicitDefEqProofs [hz, e']
def Φ__law_times (Fn : List PyData → R PyData) : Prop := ∀ (p q : Al.Poly) (D N E M : Nat), p.len ≤ 900 → q.len ≤ 10000 → Al.Hn p D N → Al.Hn q E M → D * E < 2 ^ 15960000 → 1000 * (N * M) < 2 ^ 15960000 → D < 2 ^ 15960000 → N < 2 ^ 15960000 → E < 2 ^ 15960000 → M < 2 ^ 15960000 → Fn [rowD p, rowD q] = .ok (rowD (p * q))
theorem Φ__law_times.sz {Fn : List PyData → R PyData} (h : Φ__law_times Fn) {n k m j : Nat} {p q : Al.Poly} (hp : Sz n k p) (hq : Sz m j q) (hn : n ≤ 900) (hm : m ≤ 10000) (hb : k + j ≤ 15920000) : Fn [rowD p, rowD q] = .ok (rowD (p * q)) := by
  obtain ⟨hl, D, N, hp, hD, hN⟩ := hp
  obtain ⟨gl, E, M, hq, hE, hM⟩ := hq
  exact h p q D N E M (by omega) (by omega) hp hq (pow_lim (pow_mul_lt hD hE) (by omega)) (pow_lim (pow_mul_lt (show 1000 < 2 ^ 10 by decide) (pow_mul_lt hN hM)) (by omega)) (pow_lim hD (by omega)) (pow_lim hN (by omega)) (pow_lim hE (by omega)) (pow_lim hM (by omega))
theorem spec__law_times (T : Txt D) : Spec D 37 "_law_times" 2 Φ__law_times := by
  obtain ⟨F__law_plus, S__law_plus, h__law_plus⟩ := spec__law_plus T
  obtain ⟨F__law_scale, S__law_scale, h__law_scale⟩ := spec__law_scale T
  refine Br.spec_named (fn_of' T.d__law_times sc__law_times (pub_cons (pus_set 2 [] (pur_tup pura_nil))
    (pub_cons (pus_for [] (puri_range1 T.n_range (pura_cons (pur_blt blt_len T.n_len (pura_cons (pur_var 0) pura_nil)) pura_nil)) (pug_name 3) (pub_one (pus_set 2 [] (pur_call S__law_plus (pura_cons (pur_var 2) (pura_cons (pur_bin (pur_bin (pur_tup (pura_cons (pur_tup (pura_cons pur_int (pura_cons pur_int pura_nil))) pura_nil)) (pur_var 3)) (pur_call S__law_scale (pura_cons (pur_var 1) (pura_cons (pur_ix (pur_var 0) (pur_var 3)) pura_nil)))) pura_nil))))))
    (pub_one (pus_ret [] (pur_var 2)))))) (fun Fn hFn => ?_)
  intro p q D N E M hp hq hH kH hDE hNM hD hN hE hM
  subst hFn
  refine runD_ret ?_
  have fp : Fit p := ⟨D, N, hH, hD, hN⟩
  have fq : Fit q := ⟨E, M, kH, hE, hM⟩
  have hz0 : szOk 0 = true := szOk_of (by decide)
  have hpl : p.val.length = p.len := rfl
  have hr : rngOk (p.len : Int) = true := by
    unfold rngOk
    simp only [Bool.and_eq_true, decide_eq_true_eq]
    omega
  simp -implicitDefEqProofs [startE, rowD, frsT, hz0, storeV, lf, lfA, range1F, hpl, hr]
  generalize hF : forD _ _ _ _ = r
  have := forD_rule hF (fun i se => ∃ o, se = [some (.tuple (p.val.map frR), false), some (.tuple (q.val.map frR), false), some (rowD (Al.zt p i * q), false), o])
    (fun r => ∃ o, r = .next [some (.tuple (p.val.map frR), false), some (.tuple (q.val.map frR), false), some (rowD (p * q), false), o])
    ⟨none, by rw [Al.zt_zero, show (0 : Al.Poly) * q = 0 by grind]; rfl⟩ ?_ ?_
  · obtain ⟨o, rfl⟩ := this
    simp -implicitDefEqProofs []
    rfl
  · rintro i d se hi ⟨o, rfl⟩
    obtain ⟨hil, rfl⟩ := upFrom_get hi
    have hil' : i < p.len := by simpa using hil
    have ha : atI (p.val.map frR) (i : Int) = some (frR (p.c i)) := atI_frs (by omega)
    have e1 : F__law_scale [.tuple (q.val.map frR), frR (p.c i)] = _ := h__law_scale q.val (p.c i) (by show q.len ≤ _; omega) fq.srl (fp.sr i)
    rw [Al.ofL_val] at e1
    have o1 := oT_repF (k := i) (by omega)
    have hl1 : (Al.C (p.c i) * q).len ≤ q.len := by
      have := Al.len_mul_le (Al.C (p.c i)) q
      have := Al.Poly.len_C_le (p.c i)
      omega
    have o2 : opV .Add (.tuple ((List.replicate i (0 : Rat)).map frR)) (rowD (Al.C (p.c i) * q)) = .ok (frsT (List.replicate i 0 ++ (Al.C (p.c i) * q).val)) := by
      unfold rowD frsT
      rw [oT_add, List.map_append]
      rw [List.length_map, List.length_map, List.length_replicate]
      show _ + (Al.C (p.c i) * q).len ≤ _
      omega
    have hsh : Al.ofL (List.replicate i 0 ++ (Al.C (p.c i) * q).val) = Al.mo (p.c i) i * q := by
      refine Al.Poly.ext fun j => ?_
      rw [Al.c_ofL, Al.cf_pad, Al.c_moMul, Al.c_val, Al.c_Cmul]
    have hh : Al.Hn (Al.zt p i * q) (D * E) (1000 * (N * M)) := ((hH.zt i).mul kH).mono (Nat.mul_le_mul_right _ (by have := Al.zt_len p i; omega))
    have hh2 : Al.Hn (Al.mo (p.c i) i * q) (D * E) (1000 * (N * M)) := ((hH.mo_place i).mul kH).mono (Nat.mul_le_mul_right _ (by have := Al.mo_len (p.c i) i; omega))
    have f1 : Fit (Al.zt p i * q) := ⟨_, _, hh, hDE, hNM⟩
    have f2 : Fit (Al.mo (p.c i) i * q) := ⟨_, _, hh2, hDE, hNM⟩
    have e2 : F__law_plus [rowD (Al.zt p i * q), frsT (List.replicate i 0 ++ (Al.C (p.c i) * q).val)] = _ := h__law_plus (Al.zt p i * q).val (List.replicate i 0 ++ (Al.C (p.c i) * q).val) (by
        show (Al.zt p i * q).len ≤ _
        have := Al.len_mul_le (Al.zt p i) q
        have := Al.zt_len p i
        omega) (by
        rw [List.length_append, List.length_replicate]
        show _ + (Al.C (p.c i) * q).len ≤ _
        omega) f1.srl (fun j => by
        have := f2.sr j
        rw [← hsh, Al.c_ofL] at this
        exact this)
    rw [hsh, Al.ofL_val, ← show Al.zt p (i + 1) * q = Al.zt p i * q + Al.mo (p.c i) i * q by rw [Al.zt_succ]; grind] at e2
    have hz1 : szOk 1 = true := szOk_of (by decide)
    have hz2 : szOk 2 = true := szOk_of (by decide)
    generalize (List.replicate i (0 : Rat)).map frR = A at *
    refine ⟨_, rfl, stepQ_next [some (.tuple (p.val.map frR), false), some (.tuple (q.val.map frR), false), some (rowD (Al.zt p (i + 1) * q), false), some (.int (0 + (i : Int)), false)] ?_ ⟨_, rfl⟩⟩
    simp -implicitDefEqProofs [ha, e1, o1, o2, e2, hz1, hz2, storeV]
  · rintro se ⟨o, rfl⟩
    refine ⟨o, ?_⟩
    rw [upFrom_len, Al.zt_all]
def Φ__law_rate (Fn : List PyData → R PyData) : Prop := ∀ p : Al.Poly, p.len ≤ 1000 → Fit p → Fn [rowD p] = .ok (rowD (Al.dr p))
theorem spec__law_rate (T : Txt D) : Spec D 36 "_law_rate" 1 Φ__law_rate := by
  obtain ⟨F__law_trim, S__law_trim, h__law_trim⟩ := spec__law_trim T
  obtain ⟨F__law_product, S__law_product, h__law_product⟩ := spec__law_product T
  refine Br.spec_named (fn_of' T.d__law_rate sc__law_rate (pub_one (pus_ret [] (pur_call S__law_trim (pura_cons (PurL.pur (purl_comp (own := [("_law_k", 1)]) (puri_range2 T.n_range (pura_cons pur_int (pura_cons (pur_blt blt_len T.n_len (pura_cons (pur_var 0) pura_nil)) pura_nil))) (puge_name 1) purts_nil (pur_call S__law_product (pura_cons (pur_ix (pur_var 0) (pur_var 1)) (pura_cons (pur_tup (pura_cons (pur_var 1) (pura_cons pur_int pura_nil))) pura_nil))))) pura_nil))))) (fun Fn hFn => ?_)
  intro p hp fp
  subst hFn
  refine runD_ret ?_
  have hpl : p.val.length = p.len := rfl
  have r := range2_run 1 p.len (by decide) (by omega)
  rw [show ((1 : Nat) : Int) = 1 from rfl] at r
  simp -implicitDefEqProofs [startE, rowD, frsT, hpl, r]
  generalize hL : lcD _ _ _ _ _ = L
  have := lcD_run hL (List.range (p.len - 1)) (fun i : Nat => .int ((1 + i : Nat) : Int)) (fun i : Nat => frR (p.c (1 + i) * ((1 + i : Nat) : Rat))) (by simp) (fun i hi => ⟨_, rfl, rfl, by
    have hi' : 1 + i < p.len := by have := List.mem_range.mp hi; omega
    have e := h__law_product (p.c (1 + i)) ((1 + i : Nat) : Rat) (fp.sr _) (sr_nat (small39 (by omega)))
    have e0 : frR ((1 + i : Nat) : Rat) = .tuple [.int ((1 + i : Nat) : Int), .int 1] := by rw [← Rat.intCast_natCast]; exact frR_int _
    have ha : atI (p.val.map frR) ((1 + i : Nat) : Int) = some (frR (p.c (1 + i))) := atI_frs (by omega)
    have hz : szOk 2 = true := szOk_of (by decide)
    rw [e0] at e
    simp -implicitDefEqProofs [wipeE, e, ha, hz, -Int.natCast_add]⟩)
  subst this
  clear hL
  have hz : szOk (p.len - 1) = true := szOk_of (by omega)
  have e := h__law_trim.1 ((List.range (p.len - 1)).map fun i : Nat => p.c (1 + i) * ((1 + i : Nat) : Rat))
  rw [ofL_range (p := Al.dr p) (fun i _ => by rw [Al.c_dr, Nat.add_comm 1 i]; exact Rat.mul_comm _ _) (by rw [Al.dr_len]; exact Nat.le_refl _)] at e
  unfold frsL at e
  rw [List.map_map] at e
  have e' : F__law_trim [.list ((List.range (p.len - 1)).map fun i : Nat => frR (p.c (1 + i) * ((1 + i : Nat) : Rat)))] = .ok (rowD (Al.dr p)) := e
  simp -implicitDefEqProofs [hz, e', -Rat.natCast_add]
  rfl
def Sn (q : Rat) : Prop := q.num.natAbs ≤ 1000000 ∧ q.den ≤ 1000
theorem fm_lo (x : Int) {m : Int} (hm : 0 < m) : 0 ≤ x.fmod m := by rw [fmod_pos hm]; exact Int.emod_nonneg _ (by omega)
theorem fm_hi (x : Int) {m : Int} (hm : 0 < m) : x.fmod m < m := by rw [fmod_pos hm]; exact Int.emod_lt_of_pos _ hm
theorem sn_of {a b : Int} (hb : b ≠ 0) (h1 : a.natAbs ≤ 1000000) (h2 : b.natAbs ≤ 1000) : Sn ((a : Rat) / (b : Rat)) := by
  have e : frD (lowT a b) = frR ((a : Rat) / (b : Rat)) := low_rat hb
  obtain ⟨s1, s2⟩ := lowT_small (a := a) hb
  unfold frD frR at e
  injection e with e
  injection e with e1 e2
  injection e1 with e1
  injection e2 with e2
  injection e2 with e2
  unfold Sn
  rw [← e1]
  refine ⟨by omega, ?_⟩
  have : ((a : Rat) / (b : Rat)).den = (lowT a b).2.natAbs := by rw [e2]; simp
  omega
def Φ__law_number (Fn : List PyData → R PyData) : Prop := ∀ x : Int, 0 ≤ x → x < M31 → ∃ q : Rat, Sn q ∧ Fn [.int x] = .ok (frR q)
theorem spec__law_number (T : Txt D) : Spec D 35 "_law_number" 1 Φ__law_number := by
  obtain ⟨F__law_fraction, S__law_fraction, h__law_fraction⟩ := spec__law_fraction T
  refine ⟨_, fn_of' T.d__law_number sc__law_number (pub_cons (pus_if [] (purt_cmp (pur_bin (pur_var 0) pur_int) pur_int) (pub_one (pus_ret [] (pur_tup (pura_cons (pur_bin (pur_bin (pur_bin (pur_var 0) pur_int) pur_int) pur_int) (pura_cons pur_int pura_nil))))) pub_nil)
    (pub_cons (pus_if [] (purt_cmp (pur_bin (pur_bin (pur_var 0) pur_int) pur_int) pur_int) (pub_one (pus_ret [] (pur_call S__law_fraction (pura_cons (pur_bin (pur_bin (pur_bin (pur_var 0) pur_int) pur_int) pur_int) (pura_cons (pur_bin pur_int (pur_bin (pur_bin (pur_var 0) pur_int) pur_int)) pura_nil))))) pub_nil)
    (pub_one (pus_ret [] (pur_call S__law_fraction (pura_cons (pur_bin (pur_bin (pur_bin (pur_bin (pur_var 0) (pur_var 0)) pur_int) pur_int) pur_int) (pura_cons (pur_bin pur_int (pur_bin (pur_bin (pur_var 0) pur_int) (pur_ix (pur_lst (pura_cons pur_int (pura_cons pur_int pura_nil))) (pur_bin (pur_bin (pur_var 0) pur_int) pur_int)))) pura_nil))))))), ?_⟩
  intro x hx0 hx1
  unfold M31 at hx1
  have d8 : divOk x 8 = true := divOk_of (b := 8) (by decide) (by decide) (by decide) (by decide)
  have d128 : ∀ y, divOk y 128 = true := fun y => divOk_of (b := 8) (by decide) (by decide) (by decide) (by decide)
  have d3200 : divOk x 3200 = true := divOk_of (b := 12) (by decide) (by decide) (by decide) (by decide)
  have d128k : divOk x 128000 = true := divOk_of (b := 20) (by decide) (by decide) (by decide) (by decide)
  have m1 : mulOk x x = true := mulOk_l (by omega)
  have fr : ∀ a b : Int, 0 < b → b.natAbs < 2 ^ 30 → F__law_fraction [.int a, .int b] = .ok (frR ((a : Rat) / (b : Rat))) := fun a b hb hs => h__law_fraction a b (by omega) (Nat.lt_trans hs (Nat.pow_lt_pow_right (by decide) (by decide)))
  refine runD_ret_ex1 (k := frR) ?_
  by_cases h1 : x.fmod 8 < 5
  · have a0 := fm_lo (x.fdiv 8) (m := 13) (by decide)
    have a1 := fm_hi (x.fdiv 8) (m := 13) (by decide)
    refine ⟨(((x.fdiv 8).fmod 13 - 6 : Int) : Rat), ⟨by rw [Rat.num_intCast]; omega, by rw [Rat.den_intCast]; decide⟩, ?_⟩
    rw [frR_int]
    simp -implicitDefEqProofs [startE, cmpV, boolOf, opV, h1, d8, szOk_of]
  · by_cases h2 : 0 < (x.fdiv 8).fmod 16
    · have a0 := fm_lo (x.fdiv 128) (m := 25) (by decide)
      have a1 := fm_hi (x.fdiv 128) (m := 25) (by decide)
      have b0 := fm_lo (x.fdiv 3200) (m := 9) (by decide)
      have b1 := fm_hi (x.fdiv 3200) (m := 9) (by decide)
      have e := fr ((x.fdiv 128).fmod 25 - 12) (1 + (x.fdiv 3200).fmod 9) (by omega) (by omega)
      refine ⟨_, sn_of (a := (x.fdiv 128).fmod 25 - 12) (b := 1 + (x.fdiv 3200).fmod 9) (by omega) (by omega) (by omega), ?_⟩
      simp -implicitDefEqProofs [startE, cmpV, boolOf, opV, h1, h2, d8, d128, d3200, szOk_of, e, -Rat.intCast_add, -Rat.intCast_sub]
    · have k0 := fm_lo (x.fdiv 128000) (m := 2) (by decide)
      have k1 := fm_hi (x.fdiv 128000) (m := 2) (by decide)
      obtain ⟨m, hm0, hm1, ea⟩ : ∃ m : Int, 0 < m ∧ m ≤ 1000 ∧ atI [PyData.int 1, .int 1000] ((x.fdiv 128000).fmod 2) = some (.int m) := by
        rcases (by omega : (x.fdiv 128000).fmod 2 = 0 ∨ (x.fdiv 128000).fmod 2 = 1) with h | h
        · exact ⟨1, by decide, by decide, by rw [h]; rfl⟩
        · exact ⟨1000, by decide, by decide, by rw [h]; rfl⟩
      have a0 := fm_lo ((x * x).fdiv 128) (m := 2000001) (by decide)
      have a1 := fm_hi ((x * x).fdiv 128) (m := 2000001) (by decide)
      have b0 := fm_lo (x.fdiv 128) hm0
      have b1 := fm_hi (x.fdiv 128) hm0
      have hm : ¬ m = 0 := by omega
      have e := fr (((x * x).fdiv 128).fmod 2000001 - 1000000) (1 + (x.fdiv 128).fmod m) (by omega) (by omega)
      refine ⟨_, sn_of (a := ((x * x).fdiv 128).fmod 2000001 - 1000000) (b := 1 + (x.fdiv 128).fmod m) (by omega) (by omega) (by omega), ?_⟩
      simp -implicitDefEqProofs [startE, cmpV, boolOf, opV, h1, h2, d8, d128, d128k, m1, szOk_of, ea, hm, e, -Rat.intCast_add, -Rat.intCast_sub]
theorem hn_of_sn : ∀ l : List Rat, (∀ q ∈ l, Sn q) → ∃ D, 0 < D ∧ D ≤ 1000 ^ l.length ∧ Al.Hn (Al.ofL l) D (1000000 * 1000 ^ l.length)
  | [], _ => ⟨1, by decide, by decide, by
      have : Al.ofL [] = 0 := rfl
      rw [this]
      exact Al.Hn.zero (by decide)⟩
  | q :: l, h => by
    obtain ⟨D, h0, h1, h2⟩ := hn_of_sn l fun x hx => h x (by simp [hx])
    obtain ⟨s1, s2⟩ := h q (by simp)
    refine ⟨q.den * D, Nat.mul_pos q.den_pos h0, ?_, Nat.mul_pos q.den_pos h0, fun i => ?_⟩
    · rw [List.length_cons, Nat.pow_succ, Nat.mul_comm q.den]
      exact Nat.mul_le_mul h1 s2
    · rw [Al.c_ofL]
      cases i with
      | zero =>
        rw [Al.cf_zero]
        refine ⟨q.num * (D : Int), ?_, ?_⟩
        · rw [Rat.intCast_mul, Rat.natCast_mul, Rat.intCast_natCast, ← Al.rat_num q]
          grind
        · rw [Int.natAbs_mul, Int.natAbs_natCast, List.length_cons, Nat.pow_succ]
          refine Nat.mul_le_mul s1 (Nat.le_trans h1 ?_)
          exact Nat.le_mul_of_pos_right _ (by decide)
      | succ i =>
        rw [Al.cf_succ]
        obtain ⟨t, e, ht⟩ := h2.2 i
        rw [Al.c_ofL] at e
        refine ⟨t * (q.den : Int), ?_, ?_⟩
        · rw [Rat.intCast_mul, Rat.natCast_mul, Rat.intCast_natCast, ← e]
          grind
        · rw [Int.natAbs_mul, Int.natAbs_natCast, List.length_cons, Nat.pow_succ, ← Nat.mul_assoc]
          exact Nat.mul_le_mul ht s2
def Φ__law_row_by (Fn : List PyData → R PyData) : Prop := ∀ (x : Int) (most : Nat), most ≤ 100 → ∃ p : Al.Poly, (p.len ≤ most ∧ ∃ D, 0 < D ∧ D ≤ 1000 ^ most ∧ Al.Hn p D (1000000 * 1000 ^ most)) ∧ Fn [.int x, .int most] = .ok (rowD p)
theorem spec__law_row_by (T : Txt D) : Spec D 36 "_law_row_by" 2 Φ__law_row_by := by
  obtain ⟨F__law_stream, S__law_stream, h__law_stream⟩ := spec__law_stream T
  obtain ⟨F__law_trim, S__law_trim, h__law_trim⟩ := spec__law_trim T
  obtain ⟨F__law_number, S__law_number, h__law_number⟩ := spec__law_number T
  refine Br.spec_named (fn_of' T.d__law_row_by sc__law_row_by (pub_cons (pus_set 2 [] (pur_call S__law_stream (pura_cons (pur_var 0) (pura_cons (pur_bin (pur_var 1) pur_int) pura_nil))))
    (pub_one (pus_ret [] (pur_call S__law_trim (pura_cons (PurL.pur (purl_comp (own := [("_law_k", 3)]) (puri_range1 T.n_range (pura_cons (pur_bin (pur_ix (pur_var 2) pur_int) (pur_bin (pur_var 1) pur_int)) pura_nil)) (puge_name 3) purts_nil (pur_call S__law_number (pura_cons (pur_ix (pur_var 2) (pur_bin pur_int (pur_var 3))) pura_nil)))) pura_nil)))))) (fun Fn hFn => ?_)
  intro x most hm
  subst hFn
  refine runD_ret_ex1 (k := rowD) ?_
  obtain ⟨xs, hl, hx, es⟩ := h__law_stream x (most + 1) (by omega)
  have hx0 := hx (Al.gi xs 0) (by
    unfold Al.gi
    rw [List.getD_eq_getElem?_getD, List.getElem?_eq_getElem (by omega)]
    exact List.getElem_mem _)
  generalize hn : (Al.gi xs 0).fmod ((most : Int) + 1) = n
  have hn0 : 0 ≤ n := by rw [← hn]; exact fm_lo _ (by omega)
  have hn1 : n < (most : Int) + 1 := by rw [← hn]; exact fm_hi _ (by omega)
  obtain ⟨k, rfl⟩ : ∃ k : Nat, n = k := ⟨n.toNat, by omega⟩
  have i0 : atI (xs.map PyData.int) 0 = some (.int (Al.gi xs 0)) := atI_nat (j := 0) (intsL_get (by omega))
  have r := range1_run k (by omega)
  have hne : ((most : Int) + 1) ≠ 0 := by omega
  have num : ∀ i, i < most + 1 → ∃ q, Sn q ∧ F__law_number [.int (Al.gi xs i)] = .ok (frR q) := fun i hi => by
    obtain ⟨a, b⟩ := hx (Al.gi xs i) (by
      unfold Al.gi
      rw [List.getD_eq_getElem?_getD, List.getElem?_eq_getElem (by omega)]
      exact List.getElem_mem _)
    exact h__law_number _ a b
  have es' : F__law_stream [.int x, .int ((most : Int) + 1)] = .ok (.list (xs.map .int)) := es
  obtain ⟨f, hf⟩ := pick num
  simp -implicitDefEqProofs [startE, oI_add, es', i0, oI_mod hne, hn, r, storeV, lf, lfA_ints]
  generalize hL : lcD _ _ _ _ _ = L
  have := lcD_run hL (List.range k) (fun i : Nat => .int (i : Int)) (fun i => frR (f (1 + i))) rfl (fun i hi => ⟨_, rfl, rfl, by
    have hi' : i < k := List.mem_range.mp hi
    have ha : atI (xs.map PyData.int) (1 + (i : Int)) = some (.int (Al.gi xs (1 + i))) := by
      rw [show 1 + (i : Int) = ((1 + i : Nat) : Int) by omega]
      exact atI_nat (intsL_get (by omega))
    have e := (hf (1 + i) (by omega)).2
    simp -implicitDefEqProofs [wipeE, oI_add, ha, e]⟩)
  subst this
  clear hL
  have hz : szOk k = true := szOk_of (by omega)
  have e := h__law_trim.1 ((List.range k).map fun i => f (1 + i))
  obtain ⟨D, h0, h1, h2⟩ := hn_of_sn ((List.range k).map fun i => f (1 + i)) (fun q hq => by
    obtain ⟨i, hi, rfl⟩ := List.mem_map.mp hq
    have hi' : i < k := List.mem_range.mp hi
    exact (hf (1 + i) (by omega)).1)
  rw [List.length_map, List.length_range] at h1 h2
  have hk : (1000 : Nat) ^ k ≤ 1000 ^ most := Nat.pow_le_pow_right (by decide) (by omega)
  refine ⟨Al.ofL ((List.range k).map fun i => f (1 + i)), ⟨?_, D, h0, Nat.le_trans h1 hk, h2.mono (Nat.mul_le_mul_left _ hk)⟩, ?_⟩
  · have := Al.Poly.len_ofL ((List.range k).map fun i => f (1 + i))
    rw [List.length_map, List.length_range] at this
    omega
  · unfold frsL at e
    rw [List.map_map] at e
    have e' : F__law_trim [.list ((List.range k).map fun i => frR (f (1 + i)))] = _ := e
    simp -implicitDefEqProofs [hz, e']
def badL : List PyData := [.tuple [.int 2, .int 6], .tuple [.int 1, .int 0], .tuple [.bool true, .int 1], .int 3, .tuple [.int 1, .int (-2)], .tuple [.int 1, .int 1, .int 1], .none, .list [.int 1, .int 1], .tuple [.int 0, .int 2], .str "1", .tuple [.int 1, .bool true], .tuple [.tuple [.int 1, .int 1]]]
def Φ__law_bad (Fn : List PyData → R PyData) : Prop := ∀ x : Int, ∃ d, isFrB d = false ∧ Fn [.int x] = .ok d
theorem badL_bad : ∀ d ∈ badL, isFrB d = false := by
  intro d hd
  simp only [badL, List.mem_cons, List.not_mem_nil, or_false] at hd
  rcases hd with rfl | rfl | rfl | rfl | rfl | rfl | rfl | rfl | rfl | rfl | rfl | rfl <;> first | rfl | simp [isFrB]
def Φ__law_wrong_row (Fn : List PyData → R PyData) : Prop := ∀ (x : Int) (l : List Rat), x.natAbs < 2 ^ 60 → l.length ≤ 900 → ∃ d, NoRow d ∧ Fn [.int x, frsT l] = .ok d
/-- the greatest number that divides all of some -/
def ctn (ts : List Int) : Nat := ts.foldl (fun g t => Nat.gcd g t.natAbs) 0
theorem ctn_fold : ∀ (ts : List Int) (g : Nat), (ts.foldl (fun g t => Nat.gcd g t.natAbs) g ∣ g) ∧ (∀ t ∈ ts, ((ts.foldl (fun g t => Nat.gcd g t.natAbs) g : Nat) : Int) ∣ t) ∧ ∀ d : Nat, d ∣ g → (∀ t ∈ ts, (d : Int) ∣ t) → d ∣ ts.foldl (fun g t => Nat.gcd g t.natAbs) g
  | [], g => ⟨Nat.dvd_refl _, fun t h => by simp at h, fun d h _ => h⟩
  | t :: ts, g => by
    obtain ⟨a, b, c⟩ := ctn_fold ts (Nat.gcd g t.natAbs)
    simp only [List.foldl_cons]
    refine ⟨Nat.dvd_trans a (Nat.gcd_dvd_left _ _), fun u hu => ?_, fun d hd hall => c d (Nat.dvd_gcd hd ?_) fun u hu => hall u (by simp [hu])⟩
    · rcases List.mem_cons.mp hu with rfl | hu
      · have := Nat.dvd_trans a (Nat.gcd_dvd_right g u.natAbs)
        exact Int.natAbs_dvd_natAbs.mp (by rw [Int.natAbs_natCast]; exact this)
      · exact b u hu
    · have := hall t (by simp)
      have h2 := Int.natAbs_dvd_natAbs.mpr this
      rwa [Int.natAbs_natCast] at h2
theorem ctn_dvd {ts : List Int} {t : Int} (h : t ∈ ts) : ((ctn ts : Nat) : Int) ∣ t := (ctn_fold ts 0).2.1 t h
theorem ctn_great {ts : List Int} {d : Nat} (h : ∀ t ∈ ts, (d : Int) ∣ t) : d ∣ ctn ts := (ctn_fold ts 0).2.2 d (Nat.dvd_zero d) h
theorem ctn_pos {ts : List Int} {t : Int} (h : t ∈ ts) (h0 : t ≠ 0) : 0 < ctn ts := Nat.pos_of_ne_zero fun z => by
  have := ctn_dvd h
  rw [z] at this
  exact h0 (Int.zero_dvd.mp this)
def Φ_shared_divisor (Fn : List PyData → R PyData) : Prop := ∀ ts : List Int, Fn [.list (ts.map .int)] = .ok (.int ((ctn ts : Nat) : Int))
theorem spec_shared_divisor (T : Txt D) : Spec D 33 "shared_divisor" 1 Φ_shared_divisor := by
  refine Br.spec_named (fn_of' T.d_shared_divisor sc_shared_divisor (pub_cons (pus_set 1 [] pur_int)
    (pub_cons (pus_for [] (puri_seq (pur_var 0)) (pug_name 2) (pub_one (pus_set 1 [] (pur_bltI blt_gcd T.m_gcd (pura_cons (pur_var 1) (pura_cons (pur_var 2) pura_nil))))))
    (pub_one (pus_ret [] (pur_var 1)))))) (fun Fn hFn => ?_)
  intro ts
  subst hFn
  refine runD_ret ?_
  simp -implicitDefEqProofs [startE, storeV, lf]
  generalize hF : forD _ _ _ _ = r
  have := forD_rule hF (fun i se => ∃ o, se = [some (.list (ts.map .int), false), some (.int ((ctn (ts.take i) : Nat) : Int), false), o]) (fun r => ∃ o, r = .next [some (.list (ts.map .int), false), some (.int ((ctn ts : Nat) : Int), false), o]) ⟨_, rfl⟩ ?_ ?_
  · obtain ⟨o, rfl⟩ := this
    simp -implicitDefEqProofs []
  · rintro i d se hi ⟨o, rfl⟩
    obtain ⟨hil, rfl⟩ := intsL_get' hi
    have e : ctn (ts.take (i + 1)) = Nat.gcd (ctn (ts.take i)) (Al.gi ts i).natAbs := by
      unfold ctn
      have : ts.take (i + 1) = ts.take i ++ [Al.gi ts i] := by
        rw [List.take_succ, List.getElem?_eq_getElem hil]
        simp [Al.gi, hil]
      rw [this, List.foldl_append]
      rfl
    refine ⟨_, rfl, stepQ_next [some (.list (ts.map .int), false), some (.int ((ctn (ts.take (i + 1)) : Nat) : Int), false), some (.int (Al.gi ts i), false)] ?_ ⟨_, rfl⟩⟩
    simp -implicitDefEqProofs [e, storeV, lf]
  · rintro se ⟨o, rfl⟩
    refine ⟨o, ?_⟩
    rw [List.length_map, List.take_length]
theorem gi_mem {ts : List Int} {i : Nat} (h : i < ts.length) : Al.gi ts i ∈ ts := by
  unfold Al.gi
  rw [List.getD_eq_getElem?_getD, List.getElem?_eq_getElem h]
  exact List.getElem_mem _
theorem mem_gi {ts : List Int} {t : Int} (h : t ∈ ts) : ∃ i, i < ts.length ∧ Al.gi ts i = t := by
  obtain ⟨i, hi, rfl⟩ := List.mem_iff_getElem.mp h
  exact ⟨i, hi, by simp [Al.gi, hi]⟩
theorem zp_int (ts : List Int) : Al.Ml 1 (Al.zp ts) := fun i => ⟨Al.gi ts i, by rw [Al.c_zp, Int.one_mul]⟩
theorem short_prim {ts us : List Int} {c : Nat} (hc : 0 < c) (hl : us.length = ts.length) (h : ∀ i, Al.gi ts i = (c : Int) * Al.gi us i) (hg : ∀ d : Nat, (∀ t ∈ ts, (d : Int) ∣ t) → d ∣ c) : Al.Prim (Al.zp us) := by
  refine ⟨zp_int us, fun d hd => ?_⟩
  have h1 : c * d ∣ c := hg (c * d) fun t ht => by
    obtain ⟨i, hi, rfl⟩ := mem_gi ht
    obtain ⟨u, eu⟩ := hd i
    rw [Al.c_zp] at eu
    have eu' := Rat.intCast_inj.mp eu
    refine ⟨u, ?_⟩
    rw [h, eu', Int.natCast_mul, Int.mul_assoc]
  obtain ⟨k, hk⟩ := h1
  have h2 : c * (d * k) = c * 1 := by rw [Nat.mul_one, ← Nat.mul_assoc]; exact hk.symm
  exact Nat.eq_one_of_mul_eq_one_right (Nat.eq_of_mul_eq_mul_left hc h2)
def Φ_shortened (Fn : List PyData → R PyData) : Prop := ∀ ts : List Int, ts.length ≤ 1000000 → (∃ t ∈ ts, t ≠ 0) → (∀ i, (Al.gi ts i).natAbs < 2 ^ 1300000) →
  ∃ (c : Nat) (us : List Int), (0 < c ∧ us.length = ts.length ∧ (∀ i, Al.gi ts i = (c : Int) * Al.gi us i) ∧ Al.Prim (Al.zp us)) ∧ Fn [.list (ts.map .int)] = .ok (.list (us.map .int))
theorem spec_shortened (T : Txt D) : Spec D 34 "shortened" 1 Φ_shortened := by
  obtain ⟨F_shared_divisor, S_shared_divisor, h_shared_divisor⟩ := spec_shared_divisor T
  refine Br.spec_named (fn_of' T.d_shortened sc_shortened (pub_cons (pus_set 1 [] (pur_call S_shared_divisor (pura_cons (pur_var 0) pura_nil)))
    (pub_one (pus_ret [] (PurL.pur (purl_comp (own := [("top", 2)]) (puri_seq (pur_var 0)) (puge_name 2) purts_nil (pur_bin (pur_var 2) (pur_var 1)))))))) (fun Fn hFn => ?_)
  intro ts hl ⟨t0, ht0, hn0⟩ hs
  subst hFn
  have hc := ctn_pos ht0 hn0
  have hi : ∀ i, Al.gi ts i = ((ctn ts : Nat) : Int) * Al.gi (ts.map fun t => t.fdiv ((ctn ts : Nat) : Int)) i := fun i => by
    rw [gi_map]
    split
    · rename_i h
      have e : ts[i] = Al.gi ts i := by simp [Al.gi, h]
      rw [e, Int.mul_comm]
      exact (Int.fdiv_mul_cancel (ctn_dvd (gi_mem h))).symm
    · rename_i h
      rw [Al.gi_ge (by omega), Int.mul_zero]
  refine ⟨ctn ts, ts.map fun t => t.fdiv ((ctn ts : Nat) : Int), ⟨hc, by simp, hi, short_prim hc (by simp) hi fun d hd => ctn_great hd⟩, ?_⟩
  refine runD_ret ?_
  have e := h_shared_divisor ts
  simp -implicitDefEqProofs [startE, e, storeV, lf]
  generalize hL : lcD _ _ _ _ _ = L
  have := lcD_run hL ts .int (fun t => .int (t.fdiv ((ctn ts : Nat) : Int))) rfl (fun t ht => ⟨_, rfl, rfl, by
    have hd : divOk t ((ctn ts : Nat) : Int) = true := by
      obtain ⟨i, _, rfl⟩ := mem_gi ht
      exact divOk_of2 (a := 1300000) (by omega) (hs i) (by decide) (by decide)
    simp -implicitDefEqProofs [wipeE, oI_div hd]⟩)
  subst this
  have hz : szOk ts.length = true := szOk_of (by omega)
  simp -implicitDefEqProofs [hz]
theorem zp_cons (a : Int) (l : List Int) : Al.zp (a :: l) = Al.C (a : Rat) + Al.X * Al.zp l := by
  unfold Al.zp
  rw [List.map_cons, Al.ofL_cons]
theorem zp_drop {ts : List Int} {k : Nat} (h : k < ts.length) : Al.zp (ts.drop k) = Al.C (Al.gi ts k : Rat) + Al.X * Al.zp (ts.drop (k + 1)) := by
  rw [List.drop_eq_getElem_cons h, zp_cons]
  congr 3
  simp [Al.gi, h]
theorem two_cast (n : Nat) : ((2 ^ n : Nat) : Rat) = (2 : Rat) ^ n := by rw [Rat.natCast_pow]; rfl
theorem add_bits {a b : Int} {i j : Nat} (ha : a.natAbs < 2 ^ i) (hb : b.natAbs < 2 ^ j) (h : j ≤ i) : (a + b).natAbs < 2 ^ (i + 1) := natAbs_add_lt ha (pow_lim hb h)
def Φ_value_at (Fn : List PyData → R PyData) : Prop := ∀ (ts : List Int) (bits : Nat), ts.length ≤ 100 → bits ≤ 1300000 → (∀ i, (Al.gi ts i).natAbs < 2 ^ 1300000) →
  ∃ v : Int, (Al.ev (Al.zp ts) ((2 ^ bits : Nat) : Rat) = (v : Rat) ∧ v.natAbs < 2 ^ (1300001 * (ts.length + 1))) ∧ Fn [.list (ts.map .int), .int (bits : Int)] = .ok (.int v)
theorem spec_value_at (T : Txt D) : Spec D 33 "value_at" 2 Φ_value_at := by
  refine Br.spec_named (fn_of' T.d_value_at sc_value_at (pub_cons (pus_set 2 [] pur_int)
    (pub_cons (pus_for [] (puri_rev T.n_reversed (pura_cons (pur_var 0) pura_nil)) (pug_name 3) (pub_one (pus_set 2 [] (pur_bin (pur_bin (pur_var 2) (pur_var 1)) (pur_var 3)))))
    (pub_one (pus_ret [] (pur_var 2)))))) (fun Fn hFn => ?_)
  intro ts bits hl hb hs
  subst hFn
  refine runD_ret_ex1 (k := fun v : Int => .int v) ?_
  simp -implicitDefEqProofs [startE, storeV, lf, revF]
  generalize hF : forD _ _ _ _ = r
  have := forD_rule hF (fun i se => ∃ (v : Int) (o : Option (PyData × Bool)), Al.ev (Al.zp (ts.drop (ts.length - i))) ((2 ^ bits : Nat) : Rat) = (v : Rat) ∧ v.natAbs < 2 ^ (1300001 * (i + 1)) ∧ se = [some (.list (ts.map .int), false), some (.int (bits : Int), false), some (.int v, false), o])
    (fun r => ∃ (v : Int) (o : Option (PyData × Bool)), Al.ev (Al.zp ts) ((2 ^ bits : Nat) : Rat) = (v : Rat) ∧ v.natAbs < 2 ^ (1300001 * (ts.length + 1)) ∧ r = .next [some (.list (ts.map .int), false), some (.int (bits : Int), false), some (.int v, false), o])
    ⟨0, _, by rw [Nat.sub_zero, List.drop_length]; rfl, Nat.two_pow_pos _, rfl⟩ ?_ ?_
  · obtain ⟨v, o, h1, h2, rfl⟩ := this
    refine ⟨v, ⟨by rw [two_cast] at h1; exact h1, h2⟩, ?_⟩
    simp -implicitDefEqProofs []
  · rintro i d se hi ⟨v, o, h1, h2, rfl⟩
    have hil : i < ts.length := by have := (List.getElem?_eq_some_iff.mp hi).1; simpa using this
    have hd : d = .int (Al.gi ts (ts.length - 1 - i)) := by
      rw [List.getElem?_reverse (by simpa using hil), List.length_map, intsL_get (by omega)] at hi
      exact (Option.some.inj hi).symm
    subst hd
    have hsh : shlOk v (bits : Int) = true := by
      have := log2_lt' h2 (by omega)
      have h3 : 1300001 * (i + 1) ≤ 1300001 * 101 := Nat.mul_le_mul_left _ (by omega)
      unfold shlOk
      simp only [Bool.and_eq_true, decide_eq_true_eq, Int.toNat_natCast]
      omega
    have hval : Al.ev (Al.zp (ts.drop (ts.length - (i + 1)))) ((2 ^ bits : Nat) : Rat) = ((v * 2 ^ bits + Al.gi ts (ts.length - 1 - i) : Int) : Rat) := by
      rw [zp_drop (by omega), Al.ev_cons, show ts.length - (i + 1) + 1 = ts.length - i by omega, h1, show ts.length - (i + 1) = ts.length - 1 - i by omega, Rat.intCast_add, Rat.intCast_mul]
      have : (((2 : Int) ^ bits : Int) : Rat) = ((2 ^ bits : Nat) : Rat) := by rw [Rat.intCast_pow, Rat.natCast_pow]; rfl
      rw [this]
      grind
    have hbits : (v * 2 ^ bits + Al.gi ts (ts.length - 1 - i)).natAbs < 2 ^ (1300001 * (i + 1 + 1)) := by
      have h3 : (v * 2 ^ bits).natAbs < 2 ^ (1300001 * (i + 1) + bits) := by
        rw [Int.natAbs_mul, Int.natAbs_pow, Nat.pow_add]
        exact Nat.mul_lt_mul_of_pos_right h2 (Nat.two_pow_pos _)
      have h4 := add_bits (pow_lim h3 (show 1300001 * (i + 1) + bits ≤ 1300001 * (i + 1) + 1300000 by omega)) (hs (ts.length - 1 - i)) (by omega)
      exact pow_lim h4 (by omega)
    refine ⟨_, rfl, stepQ_next [some (.list (ts.map .int), false), some (.int (bits : Int), false), some (.int (v * 2 ^ bits + Al.gi ts (ts.length - 1 - i)), false), some (.int (Al.gi ts (ts.length - 1 - i)), false)] ?_ ⟨_, _, hval, hbits, rfl⟩⟩
    simp -implicitDefEqProofs [oI_shl hsh, oI_add, storeV, lf]
  · rintro se ⟨v, o, h1, h2, rfl⟩
    rw [List.length_reverse, List.length_map] at h1 h2
    rw [Nat.sub_self, List.drop_zero] at h1
    exact ⟨v, o, h1, h2, rfl⟩
def Φ_tops_of_value (Fn : List PyData → R PyData) : Prop := ∀ (v bits : Nat), 2 ≤ bits → bits ≤ 1300000 → v < (2 ^ bits) ^ 100 →
  ∃ ts : List Int, (ts.length ≤ 101 ∧ Al.ev (Al.zp ts) ((2 ^ bits : Nat) : Rat) = (v : Rat) ∧ (∀ i, 2 * (Al.gi ts i).natAbs ≤ 2 ^ bits) ∧ (ts ≠ [] → 0 < Al.gi ts (ts.length - 1)) ∧ (v ≠ 0 → ts ≠ [])) ∧ Fn [.int (v : Int), .int (bits : Int)] = .ok (.list (ts.map .int))
theorem zp_snoc (ts : List Int) (t : Int) : Al.zp (ts ++ [t]) = Al.zp ts + Al.mo (t : Rat) ts.length := Al.Poly.ext fun i => by
  rw [Al.c_add, Al.c_zp, Al.c_zp, Al.c_mo, gi_append]
  rcases Nat.lt_trichotomy i ts.length with h | h | h
  · rw [if_pos h, if_neg (by omega), Rat.add_zero]
  · rw [if_neg (by omega), if_pos h, Al.gi_ge (ts := ts) (by omega), h, Nat.sub_self]
    show (t : Rat) = ((0 : Int) : Rat) + (t : Rat)
    rw [Rat.intCast_zero, Rat.zero_add]
  · rw [if_neg (by omega), if_neg (by omega), Al.gi_ge (ts := ts) (by omega), Al.gi_ge (by simp; omega)]
    rw [Rat.intCast_zero, Rat.add_zero]
/-- one digit, at most half of V either way -/
def digit (V w : Nat) : Int := if V / 2 < w % V then (w % V : Nat) - (V : Int) else (w % V : Nat)
def rest (V w : Nat) : Nat := if V / 2 < w % V then w / V + 1 else w / V
theorem digit_rest (V w : Nat) : (w : Int) = digit V w + (V : Int) * (rest V w : Int) := by
  have h := Nat.div_add_mod w V
  have h' : (w : Int) = (V : Int) * ((w / V : Nat) : Int) + ((w % V : Nat) : Int) := by
    rw [← Int.natCast_mul, ← Int.natCast_add, h]
  unfold digit rest
  split
  · rw [Int.natCast_add, Int.mul_add]
    omega
  · omega
theorem digit_half {V : Nat} (h : 0 < V) (he : 2 * (V / 2) = V) (w : Nat) : 2 * (digit V w).natAbs ≤ V := by
  have := Nat.mod_lt w h
  unfold digit
  split <;> omega
theorem rest_lt {V : Nat} (h : 4 ≤ V) {w : Nat} (hw : 0 < w) : rest V w < w := by
  have h1 : w / V ≤ w / 4 := Nat.div_le_div_left h (by decide)
  have h3 := Nat.mod_lt w (show 0 < V by omega)
  unfold rest
  split
  · rename_i hs
    by_cases h2 : w < V
    · rw [Nat.mod_eq_of_lt h2] at hs
      rw [Nat.div_eq_of_lt h2]
      omega
    · omega
  · omega
theorem rest_le {V : Nat} (h : 4 ≤ V) {w k : Nat} (hw : w ≤ V ^ (k + 1)) : rest V w ≤ V ^ k := by
  have hp : 0 < V ^ k := Nat.pow_pos (by omega)
  rw [Nat.pow_succ] at hw
  have h1 : w / V ≤ V ^ k := by
    have := Nat.div_le_div_right (c := V) hw
    rwa [Nat.mul_div_cancel _ (by omega)] at this
  unfold rest
  split
  · rename_i hs
    rcases Nat.lt_or_ge (w / V) (V ^ k) with h2 | h2
    · omega
    · exfalso
      have h3 : w / V = V ^ k := by omega
      have h4 := Nat.div_add_mod w V
      rw [h3, Nat.mul_comm] at h4
      omega
  · omega
theorem rest_one {V : Nat} (h : 4 ≤ V) {w : Nat} (hw : w ≤ 1) : rest V w = 0 := by
  have h1 : w % V = w := Nat.mod_eq_of_lt (by omega)
  have h2 : w / V = 0 := Nat.div_eq_of_lt (by omega)
  unfold rest
  rw [h1, h2, if_neg (by omega)]
theorem digit_last {V : Nat} (h : 4 ≤ V) {w : Nat} (hw : 0 < w) (h0 : rest V w = 0) : 0 < digit V w := by
  have := digit_rest V w
  rw [h0] at this
  omega
/-- what holds at each turn -/
structure DigI (V v : Nat) (F : List Int) (w : Nat) : Prop where
  size : (F.length ≤ 100 ∧ w ≤ V ^ (100 - F.length)) ∨ (w = 0 ∧ F.length ≤ 101)
  val : Al.ev (Al.zp F) (V : Rat) + (w : Rat) * (V : Rat) ^ F.length = (v : Rat)
  half : ∀ i, 2 * (Al.gi F i).natAbs ≤ V
  last : w = 0 → F ≠ [] → 0 < Al.gi F (F.length - 1)
  none : v ≠ 0 → F = [] → w = v
theorem spec_tops_of_value (T : Txt D) : Spec D 33 "tops_of_value" 2 Φ_tops_of_value := by
  refine Br.spec_named (fn_of' T.d_tops_of_value sc_tops_of_value (pub_cons (pus_set 2 [] (pur_bin pur_int (pur_var 1)))
    (pub_cons (pus_setL 3 [] (purl_lst pura_nil))
    (pub_cons (pus_while [3] (purt_cmp (pur_var 0) pur_int) (pub_cons (pus_set 4 [] (pur_bin (pur_var 0) (pur_bin (pur_var 2) pur_int)))
    (pub_cons (pus_if [3] (purt_cmp (pur_var 4) (pur_bin (pur_var 2) pur_int)) (pub_one (pus_aug 4 [3] (pur_var 2))) pub_nil)
    (pub_cons (pus_append 3 [] (pur_var 4))
    (pub_one (pus_set 0 [] (pur_bin (pur_bin (pur_var 0) (pur_var 4)) (pur_var 1))))))))
    (pub_one (pus_ret [3] (pur_var 3))))))) (fun Fn hFn => ?_)
  intro v bits hb2 hb hv
  subst hFn
  refine runD_ret_ex1 (k := fun ts : List Int => .list (ts.map .int)) ?_
  obtain ⟨V, hV⟩ : ∃ V, V = 2 ^ bits := ⟨_, rfl⟩
  have hV4 : 4 ≤ V := by rw [hV]; exact Nat.le_trans (by decide : 4 ≤ 2 ^ 2) (Nat.pow_le_pow_right (by decide) hb2)
  have hVe : 2 * (V / 2) = V := by
    obtain ⟨k, hk⟩ : ∃ k, bits = k + 1 := ⟨bits - 1, by omega⟩
    rw [hV, hk, Nat.pow_succ]
    omega
  have hVi : ((2 : Int) ^ bits) = (V : Int) := by rw [hV, Int.natCast_pow]; rfl
  have s1 : opV .LShift (.int 1) (.int (bits : Int)) = .ok (.int (V : Int)) := by
    rw [oI_shl, Int.toNat_natCast, hVi, Int.one_mul]
    unfold shlOk
    simp only [Bool.and_eq_true, decide_eq_true_eq, Int.toNat_natCast]
    have : (1 : Int).natAbs.log2 = 0 := by decide
    omega
  have hz0 : szOk 0 = true := szOk_of (by decide)
  have hst := storeL_lf (m := []) (i := 3) (ds := []) (se := [some (.int (v : Int), false), some (.int (bits : Int), false), some (.int (V : Int), false), none, none]) rfl
  simp -implicitDefEqProofs [startE, s1, storeV, lf, hz0, hst]
  generalize hF : whileD _ _ _ = r
  have := whileD_rule hF (fun se => ∃ (F : List Int) (w : Nat) (o : Option (PyData × Bool)), DigI V v F w ∧ se = [some (.int (w : Int), false), some (.int (bits : Int), false), some (.int (V : Int), false), some (.list (F.map .int), true), o])
    (fun r => ∃ (F : List Int) (o : Option (PyData × Bool)), DigI V v F 0 ∧ r = .next [some (.int 0, false), some (.int (bits : Int), false), some (.int (V : Int), false), some (.list (F.map .int), true), o])
    (fun se => match se with | some (.int x, _) :: _ => x.toNat | _ => 0)
    ⟨[], v, _, ⟨.inl ⟨Nat.zero_le _, by rw [hV]; exact Nat.le_of_lt hv⟩, by
      rw [List.length_nil, Rat.pow_zero]
      have : Al.ev (Al.zp []) (V : Rat) = 0 := rfl
      rw [this]; grind, fun i => by
      have : Al.gi [] i = 0 := rfl
      rw [this]; exact Nat.zero_le _, fun _ h => absurd rfl h, fun _ _ => rfl⟩, rfl⟩ ?_
  · obtain ⟨F, o, ⟨i1, i2, i3, i4, i5⟩, rfl⟩ := this
    refine ⟨F, ⟨by rcases i1 with i1 | i1 <;> omega, ?_, ?_, i4 rfl, fun h0 hF => ?_⟩, ?_⟩
    · rw [← two_cast, ← hV]
      have : ((0 : Nat) : Rat) = 0 := rfl
      rw [this] at i2
      rw [← i2]; grind
    · rw [← hV]; exact i3
    · exact h0 (i5 h0 hF).symm
    · simp -implicitDefEqProofs []
  · rintro se ⟨F, w, o, ⟨i1, i2, i3, i4, i5⟩, rfl⟩
    by_cases hw : 0 < w
    · have hF : F.length ≤ 100 ∧ w ≤ V ^ (100 - F.length) := by
        rcases i1 with i1 | i1
        · exact i1
        · omega
      have dr := digit_rest V w
      have a1 : opV .BitAnd (.int (w : Int)) (.int ((V : Int) - 1)) = .ok (.int ((w % V : Nat) : Int)) := by
        rw [← hVi, oI_and, hVi]
        rfl
      have a2 : opV .FloorDiv (.int (V : Int)) (.int 2) = .ok (.int ((V / 2 : Nat) : Int)) := by
        rw [oI_div (divOk_of (b := 8) (by decide) (by decide) (by decide) (by decide)), fdiv_pos (by decide)]
        rfl
      have a3 : opV .RShift (.int ((w : Int) - digit V w)) (.int (bits : Int)) = .ok (.int ((rest V w : Nat) : Int)) := by
        rw [oI_shr (by omega), Int.toNat_natCast, hVi]
        have : (w : Int) - digit V w = (V : Int) * (rest V w : Int) := by omega
        rw [this, Int.mul_ediv_cancel_left _ (by omega)]
      have hz : szOk (F.length + 1) = true := szOk_of (by omega)
      have next : DigI V v (F ++ [digit V w]) (rest V w) := by
        refine ⟨?_, ?_, fun i => ?_, fun h0 _ => ?_, fun _ h => ?_⟩
        · rw [List.length_append, List.length_singleton]
          by_cases hk : F.length < 100
          · left
            refine ⟨by omega, rest_le hV4 ?_⟩
            rw [show 100 - (F.length + 1) + 1 = 100 - F.length by omega]
            exact hF.2
          · right
            have : w ≤ 1 := by
              have := hF.2
              rw [show 100 - F.length = 0 by omega, Nat.pow_zero] at this
              exact this
            exact ⟨rest_one hV4 this, by omega⟩
        · rw [zp_snoc, Al.ev_add, Al.ev_mo, ← i2, List.length_append, List.length_singleton, Rat.pow_succ]
          have : (w : Rat) = (digit V w : Rat) + (V : Rat) * (rest V w : Rat) := by
            have := congrArg (fun z : Int => (z : Rat)) dr
            simp only [Rat.intCast_add, Rat.intCast_mul, Rat.intCast_natCast] at this
            exact this
          rw [this]; grind
        · rw [gi_append]
          split
          · exact i3 i
          · by_cases h : i - F.length = 0
            · rw [h]; exact digit_half (by omega) hVe w
            · rw [Al.gi_ge (by simp; omega)]; exact Nat.zero_le _
        · rw [List.length_append, List.length_singleton, Nat.add_sub_cancel, gi_append, if_neg (by omega), Nat.sub_self]
          exact digit_last hV4 hw h0
        · exact absurd h (by simp)
      have hw' : (0 : Int) < (w : Int) := by omega
      refine ⟨true, by simp -implicitDefEqProofs [cI_gt, hw], (fun h => by cases h), fun _ => ?_⟩
      refine stepQ_next [some (.int ((rest V w : Nat) : Int), false), some (.int (bits : Int), false), some (.int (V : Int), false), some (.list ((F ++ [digit V w]).map .int), true), some (.int (digit V w), false)] ?_ ⟨⟨_, _, _, next, rfl⟩, ?_⟩
      · by_cases hd : V / 2 < w % V
        · have hd' : ((V / 2 : Nat) : Int) < ((w % V : Nat) : Int) := by omega
          have e : ((w % V : Nat) : Int) - (V : Int) = digit V w := by unfold digit; rw [if_pos hd]
          generalize digit V w = dg at *
          generalize rest V w = rw' at *
          generalize w % V = m at *
          generalize V / 2 = h at *
          simp -implicitDefEqProofs [oI_sub, a1, a2, a3, cI_gt, hd', e, storeV, lf, hz]
        · have hd' : ¬ ((V / 2 : Nat) : Int) < ((w % V : Nat) : Int) := by omega
          have e : ((w % V : Nat) : Int) = digit V w := by unfold digit; rw [if_neg hd]
          rw [e] at a1 hd'
          generalize digit V w = dg at *
          generalize rest V w = rw' at *
          generalize w % V = m at *
          generalize V / 2 = h at *
          simp -implicitDefEqProofs [oI_sub, a1, a2, a3, cI_gt, hd', e, storeV, lf, hz]
      · show (((rest V w : Nat) : Int)).toNat < ((w : Int)).toNat
        have := rest_lt hV4 hw
        omega
    · have hw0 : w = 0 := by omega
      subst hw0
      exact ⟨false, by simp -implicitDefEqProofs [cI_gt], fun _ => ⟨F, o, ⟨i1, i2, i3, i4, i5⟩, rfl⟩, (fun h => by cases h)⟩
theorem without_ints {Fn : List PyData → R PyData} (h : Φ_without_last Fn) (ts : List Int) : ∃ us : List Int, (Al.zp us = Al.zp ts ∧ us.length ≤ ts.length ∧ (us ≠ [] → Al.gi us (us.length - 1) ≠ 0) ∧ ∀ i, (Al.gi us i) = Al.gi ts i) ∧ Fn [.list (ts.map .int), .int 0] = .ok (.list (us.map .int)) := by
  obtain ⟨n, hn, h0, h1, e⟩ := h (ts.map .int) (.int 0) (fun i => decide (Al.gi ts i = 0)) rfl (fun i x hx => by
    obtain ⟨_, rfl⟩ := intsL_get' hx
    exact cI_eq _ _)
  rw [List.length_map] at hn h0
  have hg : ∀ i, Al.gi (ts.take n) i = Al.gi ts i := fun i => by
    rw [Al.gi_take]
    split
    · rfl
    · rename_i h
      rcases Nat.lt_or_ge i ts.length with h2 | h2
      · exact (of_decide_eq_true (h0 i (by omega) h2)).symm
      · exact (Al.gi_ge h2).symm
  refine ⟨ts.take n, ⟨Al.Poly.ext fun i => by rw [Al.c_zp, Al.c_zp, hg], by rw [List.length_take]; omega, fun hne => ?_, hg⟩, by rw [e, List.map_take]⟩
  rw [List.length_take, Nat.min_eq_left hn, hg]
  rcases h1 with h1 | h1
  · rw [h1] at hne
    exact absurd rfl hne
  · exact of_decide_eq_false h1
theorem zp_len_eq {ts : List Int} (h : ts ≠ []) (h0 : Al.gi ts (ts.length - 1) ≠ 0) : (Al.zp ts).len = ts.length := by
  have hp : 0 < ts.length := List.length_pos_iff.mpr h
  have := Al.Poly.len_eq (p := Al.zp ts) (n := ts.length - 1) (fun i hi => by rw [Al.c_zp, Al.gi_ge (by omega)]; rfl) (by rw [Al.c_zp]; exact intCast_ne h0)
  omega
theorem zp_nil_of {ts : List Int} (h0 : ts ≠ [] → Al.gi ts (ts.length - 1) ≠ 0) (hz : Al.zp ts = 0) : ts = [] := by
  refine Decidable.byContradiction fun h => ?_
  have := zp_len_eq h (h0 h)
  rw [hz, Al.Poly.len_zero] at this
  exact h (List.length_eq_zero_iff.mp this.symm)
theorem zp_ld {ts : List Int} (h : ts ≠ []) (h0 : Al.gi ts (ts.length - 1) ≠ 0) : (Al.zp ts).ld = (Al.gi ts (ts.length - 1) : Rat) := by
  unfold Al.Poly.ld
  rw [zp_len_eq h h0, Al.c_zp]
/-- b tells whether P -/
def Says (b : Bool) (P : Prop) : Prop := b = true ↔ P
/-- divided by whole numbers -/
def DvI (f a : Al.Poly) : Prop := ∃ w, Al.Ml 1 w ∧ a = w * f
def Φ_divides (Fn : List PyData → R PyData) : Prop := ∀ (one other : List Int) (A B : Nat), one ≠ [] → 0 < Al.gi one (one.length - 1) → one.length ≤ 110 → other.length ≤ 100 → (other ≠ [] → Al.gi other (other.length - 1) ≠ 0) →
  (∀ i, (Al.gi one i).natAbs < 2 ^ A) → (∀ i, (Al.gi other i).natAbs < 2 ^ B) → A ≤ 1300000 → B ≤ 800000 → 0 < A → 0 < B → ∃ b : Bool, Says b (DvI (Al.zp one) (Al.zp other)) ∧ Fn [.list (one.map .int), .list (other.map .int)] = .ok (.bool b)
def StV (one other rs : List Int) (o3 o4 : Option (PyData × Bool)) : SEn := [some (.list (one.map .int), false), some (.list (other.map .int), false), some (.list (rs.map .int), false), o3, o4]
/-- what holds at each turn -/
structure DvR (one other : List Int) (A B : Nat) (rs : List Int) : Prop where
  trim : rs ≠ [] → Al.gi rs (rs.length - 1) ≠ 0
  len : rs.length ≤ other.length
  val : ∃ w, Al.Ml 1 w ∧ Al.zp other = w * Al.zp one + Al.zp rs
  bits : ∀ i, (Al.gi rs i).natAbs < 2 ^ (B + (A + 1) * (other.length - rs.length))
  low : rs = other ∨ (Al.gi one (one.length - 1)).natAbs < 2 ^ 900000
theorem spec_divides (T : Txt D) : Spec D 34 "divides" 2 Φ_divides := by
  obtain ⟨F_without_last, S_without_last, h_without_last⟩ := spec_without_last T
  obtain ⟨F_taken_away, S_taken_away, h_taken_away⟩ := spec_taken_away T
  refine Br.spec_named (fn_of' T.d_divides sc_divides (pub_cons (pus_set 2 [] (pur_var 1))
    (pub_cons (pus_while [] (purt_cmp (pur_blt blt_len T.n_len (pura_cons (pur_var 2) pura_nil)) (pur_blt blt_len T.n_len (pura_cons (pur_var 0) pura_nil))) (pub_cons (pus_asg [] (pur_blt blt_divmod T.n_divmod (pura_cons (pur_ix (pur_var 2) (pur_neg pur_int)) (pura_cons (pur_ix (pur_var 0) (pur_neg pur_int)) pura_nil))) (pug_tup (n := 2) (pugs_cons (pug_name 3) (pugs_cons (pug_name 4) pugs_nil))))
    (pub_cons (pus_if [] (purt_cmp (pur_var 4) pur_int) (pub_one (pus_ret [] pur_bool)) pub_nil)
    (pub_one (pus_set 2 [] (pur_call S_without_last (pura_cons (pur_call S_taken_away (pura_cons (pur_var 2) (pura_cons pur_int (pura_cons (pur_var 0) (pura_cons (pur_var 3) (pura_cons (pur_bin (pur_blt blt_len T.n_len (pura_cons (pur_var 2) pura_nil)) (pur_blt blt_len T.n_len (pura_cons (pur_var 0) pura_nil))) pura_nil)))))) (pura_cons pur_int pura_nil))))))))
    (pub_one (pus_ret [] (pur_not (pur_var 2))))))) (fun Fn hFn => ?_)
  intro one other A B h1 hl1 hs1 hs2 ht hA hB hA13 hB8 hA0 hB0
  subst hFn
  refine runD_ret_ex1 (k := fun b : Bool => .bool b) ?_
  simp -implicitDefEqProofs [startE, -Bool.exists_bool]
  have hop : 0 < one.length := List.length_pos_iff.mpr h1
  have hone : (Al.zp one).len = one.length := zp_len_eq h1 (by omega)
  have hone0 : Al.zp one ≠ 0 := fun z => by rw [z, Al.Poly.len_zero] at hone; omega
  generalize hF : whileD _ _ _ = r
  have := whileD_rule hF (fun se => ∃ (rs : List Int) (o3 o4 : Option (PyData × Bool)), DvR one other A B rs ∧ se = StV one other rs o3 o4)
    (fun r => (∃ (rs : List Int) (o3 o4 : Option (PyData × Bool)), DvR one other A B rs ∧ rs.length < one.length ∧ r = .next (StV one other rs o3 o4)) ∨ (¬ DvI (Al.zp one) (Al.zp other) ∧ r = .ret (.bool false)))
    (fun se => match se with | [_, _, some (.list xs, _), _, _] => xs.length | _ => 0) ⟨other, _, _, ⟨ht, Nat.le_refl _, ⟨0, Al.Ml.zero 1, by grind⟩, fun i => by rw [Nat.sub_self, Nat.mul_zero, Nat.add_zero]; exact hB i, .inl rfl⟩, rfl⟩ ?_
  · rcases this with ⟨rs, o3, o4, ⟨i1, i2, ⟨w, hw, e⟩, i4, i5⟩, hlt, rfl⟩ | ⟨hn, rfl⟩
    · refine ⟨decide (rs = []), ?_, ?_⟩
      · unfold Says
        rw [decide_eq_true_iff]
        constructor
        · intro h
          refine ⟨w, hw, ?_⟩
          rw [e, h, show Al.zp [] = 0 from rfl]; grind
        · rintro ⟨w', hw', e'⟩
          refine zp_nil_of i1 ?_
          have e2 : Al.zp rs = (w' - w) * Al.zp one := by grind
          refine Decidable.byContradiction fun hz => ?_
          have h3 : w' - w ≠ 0 := fun z => hz (by rw [e2, z]; grind)
          have h4 := Al.len_mul h3 hone0
          rw [← e2] at h4
          have h5 := Al.Poly.len_pos.mpr h3
          have h6 := Al.zp_len rs
          omega
      · have ht : truth (.list (rs.map .int)) = .ok (!decide (rs = [])) := by
          show R.ok (!(rs.map PyData.int).isEmpty) = _
          cases rs <;> rfl
        simp -implicitDefEqProofs [StV, ht]
    · exact ⟨false, ⟨fun h => absurd h (by decide), fun h => absurd h hn⟩, rfl⟩
  · rintro se ⟨rs, o3, o4, ⟨i1, i2, ⟨w, hw, e⟩, i4, i5⟩, rfl⟩
    by_cases hle : one.length ≤ rs.length
    · have hcond : ((one.length : Int) ≤ (rs.length : Int)) := by omega
      refine ⟨true, by simp -implicitDefEqProofs [StV, cI_ge, hcond], (fun h => by cases h), fun _ => ?_⟩
      have hrn : rs ≠ [] := fun z => by rw [z, List.length_nil] at hle; omega
      have hrl := i1 hrn
      have a1 : atI (rs.map PyData.int) (-1) = some (.int (Al.gi rs (rs.length - 1))) := atI_lastI (by omega)
      have a2 : atI (one.map PyData.int) (-1) = some (.int (Al.gi one (one.length - 1))) := atI_lastI hop
      obtain ⟨X, hX⟩ : ∃ X, X = B + (A + 1) * (other.length - rs.length) := ⟨_, rfl⟩
      rw [← hX] at i4
      have hXb : X ≤ 800000 + 1300001 * 100 := by
        rw [hX]
        have : (A + 1) * (other.length - rs.length) ≤ 1300001 * 100 := Nat.mul_le_mul (by omega) (by omega)
        omega
      have hd : divOk (Al.gi rs (rs.length - 1)) (Al.gi one (one.length - 1)) = true := by
        rcases i5 with i5 | i5
        · rw [i5]
          exact divOk_of2 (a := B) (by omega) (hB _) hB0 (by omega)
        · exact divOk_of (b := 900000) (by omega) i5 (by decide) (by decide)
      have hdm : divmodF [.int (Al.gi rs (rs.length - 1)), .int (Al.gi one (one.length - 1))] = .ok (.tuple [.int (Al.gi rs (rs.length - 1) / Al.gi one (one.length - 1)), .int (Al.gi rs (rs.length - 1) % Al.gi one (one.length - 1))]) := by
        show (if 0 < _ then _ else _) = _
        rw [if_pos hl1]
      by_cases hm : Al.gi rs (rs.length - 1) % Al.gi one (one.length - 1) = 0
      · have hq : Al.gi rs (rs.length - 1) = Al.gi rs (rs.length - 1) / Al.gi one (one.length - 1) * Al.gi one (one.length - 1) := by
          have := Int.mul_ediv_add_emod (Al.gi rs (rs.length - 1)) (Al.gi one (one.length - 1))
          rw [hm, Int.add_zero, Int.mul_comm] at this
          exact this.symm
        generalize hqe : Al.gi rs (rs.length - 1) / Al.gi one (one.length - 1) = q at *
        have hqb : q.natAbs < 2 ^ X := by
          have h3 : (Al.gi rs (rs.length - 1)).natAbs = q.natAbs * (Al.gi one (one.length - 1)).natAbs := by
            conv => lhs; rw [hq]
            exact Int.natAbs_mul _ _
          have h4 : q.natAbs ≤ q.natAbs * (Al.gi one (one.length - 1)).natAbs := Nat.le_mul_of_pos_right _ (by omega)
          exact Nat.lt_of_le_of_lt (by omega) (i4 (rs.length - 1))
        obtain ⟨r, ⟨hrl', hri⟩, et⟩ := h_taken_away rs one 1 q (rs.length - one.length) (by omega) (by omega) (fun i => mulOk_r (by decide))
          (fun i => mulOk_of (a := A) (b := X) (hA i) hqb hA0 (by omega) (by omega))
        have hrlen : r.length = rs.length := by omega
        obtain ⟨us, ⟨u1, u2, u3, u4⟩, eu⟩ := without_ints h_without_last r
        have hsub : ((rs.length : Int) - (one.length : Int)) = ((rs.length - one.length : Nat) : Int) := by omega
        have hz : Al.zp us = Al.zp rs - Al.mo (q : Rat) (rs.length - one.length) * Al.zp one := Al.Poly.ext fun i => by
          rw [Al.c_sub, Al.c_moMul, Al.c_zp, Al.c_zp, Al.c_zp, u4, hri, Rat.intCast_sub]
          split
          · rw [Int.mul_one, Rat.intCast_zero]
          · rw [Int.mul_one, Rat.intCast_mul]; grind
        have hul : us.length < rs.length := by
          refine Decidable.byContradiction fun hc => ?_
          have hun : us ≠ [] := fun z => by rw [z, List.length_nil] at hc; omega
          have h3 := u3 hun
          rw [u4, show us.length - 1 = rs.length - 1 by omega, hri, if_neg (by omega), show rs.length - 1 - (rs.length - one.length) = one.length - 1 by omega] at h3
          apply h3
          rw [Int.mul_one]
          have : Al.gi one (one.length - 1) * q = q * Al.gi one (one.length - 1) := Int.mul_comm _ _
          omega
        have hX1 : X + (A + 1) ≤ B + (A + 1) * (other.length - us.length) := by
          rw [hX]
          have h3 : (A + 1) * (other.length - rs.length) + (A + 1) ≤ (A + 1) * (other.length - us.length) := by
            rw [← Nat.mul_succ]
            exact Nat.mul_le_mul_left _ (by omega)
          omega
        have low : (Al.gi one (one.length - 1)).natAbs < 2 ^ 900000 := by
          rcases i5 with i5 | i5
          · have h3 : (Al.gi rs (rs.length - 1)).natAbs = q.natAbs * (Al.gi one (one.length - 1)).natAbs := by
              conv => lhs; rw [hq]
              exact Int.natAbs_mul _ _
            have hq0 : 0 < q.natAbs := Int.natAbs_pos.mpr fun z => hrl (by rw [hq, z, Int.zero_mul])
            have h4 : (Al.gi one (one.length - 1)).natAbs ≤ q.natAbs * (Al.gi one (one.length - 1)).natAbs := Nat.le_mul_of_pos_left _ hq0
            have h5 := hB (rs.length - 1)
            rw [← i5] at h5
            exact pow_lim (Nat.lt_of_le_of_lt (by omega) h5) (by omega)
          · exact i5
        refine stepQ_next (StV one other us (some (.int q, false)) (some (.int 0, false))) ?_ ⟨⟨us, _, _, ⟨u3, by omega, ⟨w + Al.mo (q : Rat) (rs.length - one.length), ?_, ?_⟩, fun i => ?_, .inr low⟩, rfl⟩, ?_⟩
        · simp -implicitDefEqProofs [StV, a1, a2, hdm, cI_ne, hm, oI_sub, hsub, et, eu, storeV, lf, lfA_ints, -divmodF]
        · refine hw.add fun i => ?_
          rw [Al.c_mo]
          split
          · exact ⟨q, by rw [Int.one_mul]⟩
          · exact ⟨0, rfl⟩
        · rw [hz]; grind
        · rw [u4, hri]
          refine pow_lim ?_ hX1
          have h3 := i4 i
          have h4 : (if i < rs.length - one.length then 0 else Al.gi one (i - (rs.length - one.length)) * q).natAbs < 2 ^ (X + A) := by
            split
            · exact Nat.two_pow_pos _
            · rw [Int.mul_comm]
              exact natAbs_mul_lt hqb (hA _)
          have h5 := Int.natAbs_sub_le (Al.gi rs i * 1) (if i < rs.length - one.length then 0 else Al.gi one (i - (rs.length - one.length)) * q)
          rw [Int.mul_one] at h5
          have h6 : 2 ^ X ≤ 2 ^ (X + A) := Nat.pow_le_pow_right (by decide) (by omega)
          rw [show X + (A + 1) = (X + A) + 1 by omega, Nat.pow_succ, Int.mul_one]
          omega
        · show (us.map PyData.int).length < (rs.map PyData.int).length
          rw [List.length_map, List.length_map]
          exact hul
      · refine stepQ_ret (.bool false) ?_ (.inr ⟨?_, rfl⟩)
        · simp -implicitDefEqProofs [StV, a1, a2, hdm, cI_ne, hm, -divmodF]
        · rintro ⟨w', hw', e'⟩
          have e2 : Al.zp rs = (w' - w) * Al.zp one := by grind
          have h3 : w' - w ≠ 0 := fun z => by
            rw [z] at e2
            exact hrn (zp_nil_of i1 (by rw [e2]; grind))
          have h4 := Al.ld_mul h3 hone0
          rw [← e2, zp_ld hrn hrl, zp_ld h1 (by omega)] at h4
          obtain ⟨t, et⟩ := (hw'.sub hw) ((w' - w).len - 1)
          rw [Int.one_mul] at et
          have h5 : (w' - w).ld = (t : Rat) := et
          rw [h5, ← Rat.intCast_mul] at h4
          have h6 := Rat.intCast_inj.mp h4
          apply hm
          rw [h6]
          exact Int.mul_emod_left _ _
    · have hcond : ¬ ((one.length : Int) ≤ (rs.length : Int)) := by omega
      exact ⟨false, by simp -implicitDefEqProofs [StV, cI_ge, hcond], fun _ => .inl ⟨rs, o3, o4, ⟨i1, i2, ⟨w, hw, e⟩, i4, i5⟩, by omega, rfl⟩, (fun h => by cases h)⟩
theorem ev_lt {p : Al.Poly} {A V n : Nat} (h : Al.Hn p 1 A) (hV : A + 1 ≤ V) (hl : p.len ≤ n) {v : Int} (e : Al.ev p (V : Rat) = (v : Rat)) : v.natAbs < V ^ n := by
  have hVr : (A : Rat) + 1 ≤ (V : Rat) := by
    have : ((A + 1 : Nat) : Rat) ≤ (V : Rat) := Rat.natCast_le_natCast.mpr hV
    rwa [Rat.natCast_add] at this
  have hA : (0 : Rat) ≤ (A : Rat) := Rat.natCast_nonneg
  have h1 := Al.ev_zt (V := (V : Rat)) (by grind) p n
  have hz : Al.zt p n = p := Al.Poly.ext fun i => by
    rw [Al.c_zt]
    split
    · rfl
    · rw [Al.Poly.c_ge (by omega)]
  rw [hz, e] at h1
  have h2 := Al.nm_small h hVr n
  have h3 : ((v.natAbs : Nat) : Rat) ≤ (v : Rat).abs := by
    rcases Int.le_total 0 v with c | c
    · rw [Rat.abs_of_nonneg (Rat.intCast_nonneg.mpr c), ← Rat.intCast_natCast, Int.natAbs_of_nonneg c]; exact Rat.le_refl
    · rw [Rat.abs_of_nonpos (Rat.intCast_nonpos.mpr c), ← Rat.intCast_natCast, Int.ofNat_natAbs_of_nonpos c, Rat.intCast_neg]; exact Rat.le_refl
  have h4 : ((v.natAbs : Nat) : Rat) < ((V ^ n : Nat) : Rat) := by rw [Rat.natCast_pow]; grind
  exact Rat.natCast_lt_natCast.mp h4
theorem zp_hn {ts : List Int} {A : Nat} (h : ∀ i, (Al.gi ts i).natAbs ≤ A) : Al.Hn (Al.zp ts) 1 A := Al.Hn.zp h
/-- what shared_tops tells -/
def ShT (one other fs : List Int) : Prop := fs ≠ [] ∧ 0 < Al.gi fs (fs.length - 1) ∧ fs.length ≤ 101 ∧ Al.Prim (Al.zp fs) ∧ DvI (Al.zp fs) (Al.zp one) ∧ DvI (Al.zp fs) (Al.zp other) ∧ (∀ i, (Al.gi fs i).natAbs < 2 ^ 1300000) ∧
  Al.gc (Al.zp one) (Al.zp other) = Al.C (1 / (Al.gi fs (fs.length - 1) : Rat)) * Al.zp fs
def Φ_shared_tops (Fn : List PyData → R PyData) : Prop := ∀ (one other : List Int) (α k : Nat), one ≠ [] → other ≠ [] → Al.gi one (one.length - 1) ≠ 0 → Al.gi other (other.length - 1) ≠ 0 → one.length + other.length ≤ k → k ≤ 100 →
  (∀ i, (Al.gi one i).natAbs < 2 ^ α) → (∀ i, (Al.gi other i).natAbs < 2 ^ α) → 0 < α → α ≤ 800000 → 2 * (k * (α + 11)) ≤ 1300000 →
  ∃ fs : List Int, ShT one other fs ∧ Fn [.list (one.map .int), .list (other.map .int)] = .ok (.list (fs.map .int))
theorem spec_shared_tops (T : Txt D) : Spec D 35 "shared_tops" 2 Φ_shared_tops := by
  obtain ⟨F_shortened, S_shortened, h_shortened⟩ := spec_shortened T
  obtain ⟨F_tops_of_value, S_tops_of_value, h_tops_of_value⟩ := spec_tops_of_value T
  obtain ⟨F_divides, S_divides, h_divides⟩ := spec_divides T
  obtain ⟨F_value_at, S_value_at, h_value_at⟩ := spec_value_at T
  refine Br.spec_named (fn_of' T.d_shared_tops sc_shared_tops (pub_cons (pus_set 2 [] (pur_bin (pur_bits (pur_blt (blt_max rfl) T.n_max (pura_cons (PurL.pur (purl_comp (own := [("top", 4)]) (puri_seq (pur_lst (pura_star (pur_var 0) (pura_star (pur_var 1) pura_nil)))) (puge_name 4) purts_nil (pur_blt blt_abs T.n_abs (pura_cons (pur_var 4) pura_nil)))) pura_nil))) (pur_const T.c_SPARE_BITS)))
    (pub_one (pus_while [] (purt_val pur_bool) (pub_cons (pus_set 3 [] (pur_call S_shortened (pura_cons (pur_call S_tops_of_value (pura_cons (pur_bltI blt_gcd T.m_gcd (pura_cons (pur_call S_value_at (pura_cons (pur_var 0) (pura_cons (pur_var 2) pura_nil))) (pura_cons (pur_call S_value_at (pura_cons (pur_var 1) (pura_cons (pur_var 2) pura_nil))) pura_nil))) (pura_cons (pur_var 2) pura_nil))) pura_nil)))
    (pub_cons (pus_if [] (purt_w (purw_and (purt_val (pur_call S_divides (pura_cons (pur_var 3) (pura_cons (pur_var 0) pura_nil)))) (purw_and1 (purt_val (pur_call S_divides (pura_cons (pur_var 3) (pura_cons (pur_var 1) pura_nil))))))) (pub_one (pus_ret [] (pur_var 3))) pub_nil)
    (pub_one (pus_set 2 [] (pur_bin pur_int (pur_var 2)))))))))) (fun Fn hFn => ?_)
  intro one other α k h1 h2 l1 l2 hk hk1 s1 s2 hα0 hα hcap
  subst hFn
  refine runD_ret_ex1 (k := fun fs : List Int => .list (fs.map .int)) ?_
  have p1 : 0 < one.length := List.length_pos_iff.mpr h1
  have p2 : 0 < other.length := List.length_pos_iff.mpr h2
  have ha0 : Al.zp one ≠ 0 := fun z => by
    have := zp_len_eq h1 l1
    rw [z, Al.Poly.len_zero] at this
    omega
  have hb0 : Al.zp other ≠ 0 := fun z => by
    have := zp_len_eq h2 l2
    rw [z, Al.Poly.len_zero] at this
    omega
  have hz : szOk (one.length + other.length) = true := szOk_of (by omega)
  -- the greatest number
  obtain ⟨m, hm1, hm2, em⟩ := max_run (ns := (one ++ other).map fun t => if t < 0 then -t else t) (by simp [h1])
  have habs : ∀ t : Int, (if t < 0 then -t else t) = ((t.natAbs : Nat) : Int) := fun t => by split <;> omega
  have hmA : ∀ t ∈ one ++ other, t.natAbs ≤ m.natAbs := fun t ht => by
    have := hm2 _ (List.mem_map.mpr ⟨t, ht, rfl⟩)
    rw [habs] at this
    omega
  have hmα : m.natAbs < 2 ^ α := by
    obtain ⟨t, ht, rfl⟩ := List.mem_map.mp hm1
    rw [habs, Int.natAbs_natCast]
    rcases List.mem_append.mp ht with ht | ht
    · obtain ⟨i, _, rfl⟩ := mem_gi ht
      exact s1 i
    · obtain ⟨i, _, rfl⟩ := mem_gi ht
      exact s2 i
  have hm0 : 0 < m := by
    have h3 := hmA (Al.gi one (one.length - 1)) (List.mem_append_left _ (gi_mem (by omega)))
    have h4 := hm2 _ (List.mem_map.mpr ⟨Al.gi one (one.length - 1), List.mem_append_left _ (gi_mem (by omega)), rfl⟩)
    rw [habs] at h4
    omega
  obtain ⟨bt1, bt2, bt3⟩ := bits_of hm0
  have bt4 := bt3 α hmα
  have A1 : ∀ i, (Al.gi one i).natAbs ≤ m.natAbs := fun i => by
    rcases Nat.lt_or_ge i one.length with h | h
    · exact hmA _ (List.mem_append_left _ (gi_mem h))
    · rw [Al.gi_ge h]; exact Nat.zero_le _
  have A2 : ∀ i, (Al.gi other i).natAbs ≤ m.natAbs := fun i => by
    rcases Nat.lt_or_ge i other.length with h | h
    · exact hmA _ (List.mem_append_right _ (gi_mem h))
    · rw [Al.gi_ge h]; exact Nat.zero_le _
  have H1 := zp_hn A1
  have H2 := zp_hn A2
  have L1 := zp_len_eq h1 l1
  have L2 := zp_len_eq h2 l2
  generalize hb0' : Builtin.Int.intBits m = β at *
  have hk2 : α ≤ k * (α + 11) := by
    have : 1 * (α + 11) ≤ k * (α + 11) := Nat.mul_le_mul_right _ (by omega)
    omega
  have h3264 : β + 32 ≤ 1300000 := by omega
  simp -implicitDefEqProofs [startE, hz]
  generalize hL : lcD _ _ _ _ _ = L
  have hLr := lcD_run hL (one ++ other) .int (fun t => .int (if t < 0 then -t else t)) (by rw [List.map_append]) (fun t _ => ⟨_, rfl, rfl, by simp -implicitDefEqProofs [wipeE]⟩)
  subst hLr
  clear hL
  have em' : maxF [.list ((one ++ other).map fun t => PyData.int (if t < 0 then -t else t))] = .ok (.int m) := by
    rw [List.map_map] at em
    exact em
  have hzm : szOk ((one ++ other).map fun t => PyData.int (if t < 0 then -t else t)).length = true := by rw [List.length_map, List.length_append]; exact hz
  rw [ofO_some, hzm]
  generalize ((one ++ other).map fun t => PyData.int (if t < 0 then -t else t)) = Ls at *
  have hbits : bitsV (.int m) = .ok (.int (β : Int)) := by
    show R.ok (PyData.int ((Builtin.Int.intBits m : Nat) : Int)) = _
    rw [hb0']
  simp -implicitDefEqProofs [em', hbits, oI_add, -maxF, -bitsV]
  generalize hF : whileD _ _ _ = r
  have := whileD_rule hF (fun se => ∃ (b : Nat) (o : Option (PyData × Bool)), β + 32 ≤ b ∧ (b = β + 32 ∨ b ≤ 2 * (k * (α + 11))) ∧ se = [some (.list (one.map .int), false), some (.list (other.map .int), false), some (.int (b : Int), false), o, none])
    (fun r => ∃ fs : List Int, ShT one other fs ∧ r = .ret (.list (fs.map .int)))
    (fun se => match se with | _ :: _ :: some (.int x, _) :: _ => 3000000 - x.toNat | _ => 0) ⟨β + 32, none, Nat.le_refl _, .inl rfl, by rw [Int.natCast_add]; rfl⟩ ?_
  · obtain ⟨fs, q, rfl⟩ := this
    exact ⟨fs, q, rfl⟩
  · rintro se ⟨b, o, hb1, hb2, rfl⟩
    refine ⟨true, rfl, (fun h => by cases h), fun _ => ?_⟩
    have hb13 : b ≤ 1300000 := by omega
    obtain ⟨V, hV⟩ : ∃ V, V = 2 ^ b := ⟨_, rfl⟩
    have hVm : 2 * m.natAbs + 4 ≤ V := by
      have h3 : 2 ^ (β + 32) ≤ V := by rw [hV]; exact Nat.pow_le_pow_right (by decide) hb1
      rw [Nat.pow_add] at h3
      have h4 : (2 : Nat) ^ 32 = 4294967296 := by decide
      rw [h4] at h3
      have h5 : 0 < 2 ^ β := Nat.two_pow_pos _
      generalize (2 : Nat) ^ β = z at *
      omega
    have big : ∀ {t : Int}, t.natAbs ≤ m.natAbs → t.natAbs < 2 ^ 1300000 := fun h => Nat.lt_of_le_of_lt h (pow_lim bt1 (by omega))
    obtain ⟨v1, ⟨ev1, _⟩, ec1⟩ := h_value_at one b (by omega) hb13 (fun i => big (A1 i))
    obtain ⟨v2, ⟨ev2, _⟩, ec2⟩ := h_value_at other b (by omega) hb13 (fun i => big (A2 i))
    rw [← hV] at ev1 ev2
    have hv1 : v1 ≠ 0 := fun z => by
      have hVr : (m.natAbs : Rat) + 1 ≤ (V : Rat) := by
        have : ((m.natAbs + 1 : Nat) : Rat) ≤ (V : Rat) := Rat.natCast_le_natCast.mpr (by omega)
        rwa [Rat.natCast_add] at this
      exact Al.ev_far H1 ha0 hVr (by rw [ev1, z]; rfl)
    obtain ⟨G, hG⟩ : ∃ G, G = Nat.gcd v1.natAbs v2.natAbs := ⟨_, rfl⟩
    have hG0 : 0 < G := by rw [hG]; exact Nat.gcd_pos_of_pos_left _ (Int.natAbs_pos.mpr hv1)
    have hGV : G < (2 ^ b) ^ 100 := by
      rw [← hV]
      have h3 := ev_lt (n := 100) H1 (show m.natAbs + 1 ≤ V by omega) (by omega) ev1
      have h4 : G ≤ v1.natAbs := by rw [hG]; exact Nat.gcd_le_left _ (Int.natAbs_pos.mpr hv1)
      omega
    obtain ⟨ts, ⟨q1, q2, q3, q4, q5⟩, et⟩ := h_tops_of_value G b (by omega) hb13 hGV
    rw [← hV] at q2 q3
    have htn := q5 (by omega)
    have htp : 0 < ts.length := List.length_pos_iff.mpr htn
    have htl := q4 htn
    have ht13 : ∀ i, (Al.gi ts i).natAbs < 2 ^ b := fun i => by
      have := q3 i
      rw [← hV]
      omega
    obtain ⟨c, us, ⟨c1, c2, c3, c4⟩, es⟩ := h_shortened ts (by omega) ⟨_, gi_mem (i := ts.length - 1) (by omega), by omega⟩ (fun i => pow_lim (ht13 i) hb13)
    have hun : us ≠ [] := fun z => by rw [z, List.length_nil] at c2; omega
    have hul : 0 < Al.gi us (us.length - 1) := by
      rw [c2]
      have h3 := c3 (ts.length - 1)
      rw [h3] at htl
      rcases Int.lt_trichotomy 0 (Al.gi us (ts.length - 1)) with h | h | h
      · exact h
      · rw [← h, Int.mul_zero] at htl; omega
      · have := Int.mul_neg_of_pos_of_neg (show (0 : Int) < (c : Int) by omega) h
        omega
    have hus : ∀ i, (Al.gi us i).natAbs < 2 ^ b := fun i => by
      have h3 := ht13 i
      rw [c3, Int.natAbs_mul, Int.natAbs_natCast] at h3
      have : (Al.gi us i).natAbs ≤ c * (Al.gi us i).natAbs := Nat.le_mul_of_pos_left _ c1
      omega
    have hzt : Al.zp ts = Al.C ((c : Int) : Rat) * Al.zp us := Al.Poly.ext fun i => by rw [Al.c_Cmul, Al.c_zp, Al.c_zp, c3, Rat.intCast_mul]
    obtain ⟨d1, hd1, ed1⟩ := h_divides us one b α hun hul (by omega) (by omega) (fun _ => l1) hus s1 hb13 hα (by omega) hα0
    obtain ⟨d2, hd2, ed2⟩ := h_divides us other b α hun hul (by omega) (by omega) (fun _ => l2) hus s2 hb13 hα (by omega) hα0
    have eg : gcdF [.int v1, .int v2] = .ok (.int (G : Int)) := by rw [hG]; rfl
    by_cases hboth : d1 = true ∧ d2 = true
    · obtain ⟨rfl, rfl⟩ := hboth
      refine stepQ_ret (.list (us.map .int)) ?_ ⟨us, ⟨hun, hul, by omega, c4, hd1.mp rfl, hd2.mp rfl, fun i => pow_lim (hus i) hb13, ?_⟩, rfl⟩
      · simp -implicitDefEqProofs [ec1, ec2, eg, et, es, ed1, ed2, storeV, lf, lfA_ints, truth, -gcdF]
      · have hld : (Al.zp us).ld = (Al.gi us (us.length - 1) : Rat) := zp_ld hun (by omega)
        rw [← hld]
        obtain ⟨w1, _, e1⟩ := hd1.mp rfl
        obtain ⟨w2, _, e2⟩ := hd2.mp rfl
        refine Al.found_right (A := m.natAbs) (V := V) (e := (c : Int)) (G := (G : Int)) H1 H2 ha0 hb0 hVm c4 ?_ (by omega) ?_ (fun x y d hx hy dx dy => ?_) (fun i => ?_) ⟨w1, e1⟩ ⟨w2, e2⟩
        · rw [hld]
          exact Rat.intCast_pos.mpr hul
        · rw [← hzt, q2, Rat.intCast_natCast]
        · rw [ev1] at hx
          rw [ev2] at hy
          have ex := Rat.intCast_inj.mp hx
          have ey := Rat.intCast_inj.mp hy
          subst ex ey
          refine Int.natAbs_dvd_natAbs.mp ?_
          rw [Int.natAbs_natCast, hG]
          exact Nat.dvd_gcd (Int.natAbs_dvd_natAbs.mpr dx) (Int.natAbs_dvd_natAbs.mpr dy)
        · rw [← hzt]
          exact ⟨Al.gi ts i, Al.c_zp _ _, q3 i⟩
    · have hbc : b < k * (α + 11) := by
        refine Decidable.byContradiction fun hge => hboth ?_
        have hpow : (2 * k * m.natAbs + 2) ^ k ≤ V := by
          have h3 : 2 * k * m.natAbs + 2 ≤ 2 ^ (α + 11) := by
            rw [Nat.pow_add]
            have h4 : (2 : Nat) ^ 11 = 2048 := by decide
            rw [h4]
            have h5 : 2 * k * m.natAbs ≤ 2000 * m.natAbs := Nat.mul_le_mul_right _ (by omega)
            generalize (2 : Nat) ^ α = z at *
            generalize 2 * k * m.natAbs = y at *
            omega
          refine Nat.le_trans (Nat.pow_le_pow_left h3 k) ?_
          rw [← Nat.pow_mul, Nat.mul_comm, hV]
          exact Nat.pow_le_pow_right (by decide) (by omega)
        obtain ⟨g, t, hg, ht, egt, ga, gb⟩ := Al.found_big (k := k) (V := V) (G := (G : Int)) (x := v1) (y := v2) H1 H2 ha0 hb0 (by omega) hVm hpow (by omega) ev1 ev2
          (Int.natAbs_dvd_natAbs.mp (by rw [Int.natAbs_natCast, hG]; exact Nat.gcd_dvd_left _ _)) (Int.natAbs_dvd_natAbs.mp (by rw [Int.natAbs_natCast, hG]; exact Nat.gcd_dvd_right _ _))
          (fun d dx dy => Int.natAbs_dvd_natAbs.mp (by rw [Int.natAbs_natCast, hG]; exact Nat.dvd_gcd (Int.natAbs_dvd_natAbs.mpr dx) (Int.natAbs_dvd_natAbs.mpr dy)))
          (zp_int ts) (by rw [q2, Rat.intCast_natCast]) (fun i => ⟨Al.gi ts i, Al.c_zp _ _, q3 i⟩)
        have hcr : ((c : Int) : Rat) ≠ 0 := intCast_ne (by omega)
        have htr : (t : Rat) ≠ 0 := intCast_ne ht
        have hus2 : Al.zp us = Al.C (1 / ((c : Int) : Rat) * (t : Rat)) * g := by
          rw [hzt] at egt
          rw [Al.inv_C hcr egt, Al.C_mul]
          grind
        have hx : 1 / ((c : Int) : Rat) * (t : Rat) ≠ 0 := fun z => by
          rcases Rat.mul_eq_zero.mp z with z | z
          · grind
          · exact htr z
        have da : Al.Dvd (Al.zp us) (Al.zp one) := by rw [hus2]; exact Al.dvd_scale' hx ga
        have db : Al.Dvd (Al.zp us) (Al.zp other) := by rw [hus2]; exact Al.dvd_scale' hx gb
        exact ⟨hd1.mpr (c4.cofactor (zp_int one) da), hd2.mpr (c4.cofactor (zp_int other) db)⟩
      have e2b : opV .Mult (.int 2) (.int (b : Int)) = .ok (.int ((2 * b : Nat) : Int)) := by rw [oI_mul (mulOk_l (by decide)), Int.natCast_mul]; rfl
      refine stepQ_next [some (.list (one.map .int), false), some (.list (other.map .int), false), some (.int ((2 * b : Nat) : Int), false), some (.list (us.map .int), false), none] ?_ ⟨⟨2 * b, _, by omega, .inr (by omega), rfl⟩, ?_⟩
      · cases d1 <;> cases d2 <;> first | exact absurd ⟨rfl, rfl⟩ hboth | simp -implicitDefEqProofs [ec1, ec2, eg, et, es, ed1, ed2, storeV, lf, lfA_ints, e2b, truth, -gcdF, -Int.natCast_mul]
      · show 3000000 - (((2 * b : Nat) : Int)).toNat < 3000000 - ((b : Int)).toNat
        omega
theorem fit_neg {p : Al.Poly} (h : Fit p) : Fit (-p) := by
  obtain ⟨D, N, h, a, b⟩ := h
  exact ⟨D, N, h.neg, a, b⟩
theorem rowD_C {a : Rat} (h : a ≠ 0) : rowD (Al.C a) = .tuple [frR a] := by
  have : (Al.C a).val = [a] := val_eq (by rw [Al.Poly.len_C h]; rfl) fun i => by
    rw [Al.c_C]
    cases i with
    | zero => simp
    | succ i => simp
  unfold rowD frsT
  rw [this]
  rfl
def Φ_minus (Fn : List PyData → R PyData) : Prop := ∀ p q : Al.Poly, p.len ≤ 1000 → q.len ≤ 1000 → Fit p → Fit q → Fn [rowD p, rowD q] = .ok (rowD (p - q))
def Φ_led (Fn : List PyData → R PyData) : Prop := ∀ p : Al.Poly, p.len ≤ 1000 → Fit p → Fn [rowD p] = .ok (rowD (Al.C (1 / p.ld) * p))
theorem spec_led (T : Txt D) : Spec D 35 "led" 1 Φ_led := by
  obtain ⟨F_part_of, S_part_of, h_part_of⟩ := spec_part_of T
  refine Br.spec_named (fn_of' T.d_led sc_led (pub_one (pus_ret [] (pur_bltT blt_tuple T.n_tuple (pura_cons (PurL.pur (purl_comp (own := [("part", 1)]) (puri_seq (pur_var 0)) (puge_name 1) purts_nil (pur_call S_part_of (pura_cons (pur_var 1) (pura_cons (pur_ix (pur_var 0) (pur_neg pur_int)) pura_nil))))) pura_nil))))) (fun Fn hFn => ?_)
  intro p hp fp
  subst hFn
  refine runD_ret ?_
  simp -implicitDefEqProofs [startE, rowD, frsT]
  generalize hL : lcD _ _ _ _ _ = L
  have hpl : p.val.length = p.len := rfl
  have := lcD_run hL (List.range p.len) (fun i => frR (p.c i)) (fun i => frR (p.c i / p.ld)) ?_ (fun i hi => ⟨_, rfl, rfl, by
    have hi' : i < p.len := List.mem_range.mp hi
    have h0 : p ≠ 0 := fun z => by rw [z, Al.Poly.len_zero] at hi'; omega
    have hv : p.val ≠ [] := fun z => by rw [z] at hpl; simp at hpl; omega
    have ha : atI (p.val.map frR) (-1) = some (frR p.ld) := atI_lastF hv
    have e := h_part_of (p.c i) p.ld (Al.Poly.ld_ne h0) (fp.sr _) (fp.sr _)
    simp -implicitDefEqProofs [wipeE, ha, e]⟩)
  · subst this
    clear hL
    have hz : szOk p.len = true := szOk_of (by omega)
    have hv : (Al.C (1 / p.ld) * p).val = (List.range p.len).map fun i => p.c i / p.ld := by
      by_cases h0 : p = 0
      · subst h0
        rw [show Al.C (1 / Al.Poly.ld 0) * (0 : Al.Poly) = 0 by grind]
        rfl
      · refine val_eq (by
          have h1 := Al.Poly.ld_ne h0
          have h2 : 1 / p.ld ≠ 0 := by grind
          have := Al.len_mul (Al.Poly.C_ne h2) h0
          rw [Al.Poly.len_C h2] at this
          rw [List.length_map, List.length_range]
          omega) fun i => by
          rw [Al.cf_range, Al.c_Cmul]
          split
          · grind
          · rw [Al.Poly.c_ge (by omega)]; grind
    rw [hv, List.map_map]
    simp -implicitDefEqProofs [hz]
  · refine List.ext_getElem (by simp; rfl) fun i h1 h2 => ?_
    have hi : i < p.val.length := by simpa using h1
    simp [Al.Poly.c, Al.cf, hi]
def Φ_whole_tops (Fn : List PyData → R PyData) : Prop := ∀ (p : Al.Poly) (D N : Nat), p ≠ 0 → p.len ≤ 1000 → Al.Hn p D N → D < 2 ^ 800000 → N < 2 ^ 900000 →
  ∃ (c : Rat) (us : List Int), (c ≠ 0 ∧ us.length = p.len ∧ p = Al.C c * Al.zp us ∧ Al.Prim (Al.zp us) ∧ (∀ i, (Al.gi us i).natAbs ≤ N) ∧ us ≠ [] ∧ Al.gi us (us.length - 1) ≠ 0) ∧ Fn [rowD p] = .ok (.list (us.map .int))
theorem spec_whole_tops (T : Txt D) : Spec D 35 "whole_tops" 1 Φ_whole_tops := by
  obtain ⟨F_over_one_bottom, S_over_one_bottom, h_over_one_bottom⟩ := spec_over_one_bottom T
  obtain ⟨F_shortened, S_shortened, h_shortened⟩ := spec_shortened T
  refine Br.spec_named (fn_of' T.d_whole_tops sc_whole_tops (pub_cons (pus_asg [] (pur_call S_over_one_bottom (pura_cons (pur_var 0) pura_nil)) (pug_tup (n := 2) (pugs_cons (pug_name 1) (pugs_cons (pug_name 2) pugs_nil))))
    (pub_one (pus_ret [] (pur_call S_shortened (pura_cons (pur_var 1) pura_nil)))))) (fun Fn hFn => ?_)
  intro p D N h0 hl h hD hN
  subst hFn
  obtain ⟨ts, b, ⟨hb, hbD, htl, htz, htN⟩, e1⟩ := h_over_one_bottom p D N hl h (pow_lim hD (by decide)) (pow_lim hN (by decide))
  have hpl := Al.Poly.len_pos.mpr h0
  have hb' := Al.natCast_ne hb
  have hlast := Al.gi_lead htz hb' h0
  obtain ⟨c, us, ⟨c1, c2, c3, c4⟩, es⟩ := h_shortened ts (by omega) ⟨_, gi_mem (i := p.len - 1) (by omega), hlast⟩ (fun i => pow_lim (Nat.lt_of_le_of_lt (htN i) hN) (by decide))
  have hzt : Al.zp ts = Al.C ((c : Int) : Rat) * Al.zp us := Al.Poly.ext fun i => by rw [Al.c_Cmul, Al.c_zp, Al.c_zp, c3, Rat.intCast_mul]
  have hcr : ((c : Int) : Rat) ≠ 0 := intCast_ne (by omega)
  have hun : us ≠ [] := fun z => by rw [z, List.length_nil] at c2; omega
  refine ⟨1 / (b : Rat) * ((c : Int) : Rat), us, ⟨fun z => ?_, by omega, ?_, c4, fun i => ?_, hun, fun z => ?_⟩, ?_⟩
  · rcases Rat.mul_eq_zero.mp z with z | z
    · grind
    · exact hcr z
  · rw [Al.inv_C hb' htz, hzt, Al.C_mul]; grind
  · have h3 := htN i
    rw [c3, Int.natAbs_mul, Int.natAbs_natCast] at h3
    have : (Al.gi us i).natAbs ≤ c * (Al.gi us i).natAbs := Nat.le_mul_of_pos_left _ c1
    omega
  · apply hlast
    rw [c3, show p.len - 1 = us.length - 1 by omega, z, Int.mul_zero]
  · refine runD_ret ?_
    simp -implicitDefEqProofs [startE, e1, es]
def Φ_shared_row (Fn : List PyData → R PyData) : Prop := ∀ (p q : Al.Poly) (n m α : Nat), Sz n α p → Sz m α q → n + m ≤ 100 → 0 < α → α ≤ 399000 → 2 * ((n + m) * (α + 11)) ≤ 1300000 → Fn [rowD p, rowD q] = .ok (rowD (Al.gc p q))
theorem spec_shared_row (T : Txt D) : Spec D 36 "shared_row" 2 Φ_shared_row := by
  obtain ⟨F_shared_tops, S_shared_tops, h_shared_tops⟩ := spec_shared_tops T
  obtain ⟨F_row_over, S_row_over, h_row_over⟩ := spec_row_over T
  obtain ⟨F_led, S_led, h_led⟩ := spec_led T
  obtain ⟨F_whole_tops, S_whole_tops, h_whole_tops⟩ := spec_whole_tops T
  refine Br.spec_named (fn_of' T.d_shared_row sc_shared_row (pub_cons (pus_if [] (purt_w (purw_or (purt_not (purt_val (pur_var 0))) (purw_or1 (purt_not (purt_val (pur_var 1)))))) (pub_one (pus_ret [] (pur_call S_led (pura_cons (pur_or (pur_var 0) (pur_one (pur_var 1))) pura_nil)))) pub_nil)
    (pub_cons (pus_set 2 [] (pur_call S_shared_tops (pura_cons (pur_call S_whole_tops (pura_cons (pur_var 0) pura_nil)) (pura_cons (pur_call S_whole_tops (pura_cons (pur_var 1) pura_nil)) pura_nil))))
    (pub_one (pus_ret [] (pur_call S_row_over (pura_cons (pur_var 2) (pura_cons (pur_ix (pur_var 2) (pur_neg pur_int)) pura_nil)))))))) (fun Fn hFn => ?_)
  intro p q n m α hp hq hnm hα0 hα hcap
  subst hFn
  refine runD_ret ?_
  have fp : Fit p := hp.fit (by omega)
  have fq : Fit q := hq.fit (by omega)
  have t1 := truth_row p
  have t2 := truth_row q
  have t1' : truth (rowD p) = _ := t1
  have t2' : truth (rowD q) = _ := t2
  by_cases h0 : p = 0
  · have e := h_led q (by have := hq.1; omega) fq
    have hg : Al.gc p q = Al.C (1 / q.ld) * q := by
      rw [h0, Al.gc_comm]
      by_cases hq0 : q = 0
      · rw [hq0, Al.gc_zero]; grind
      · exact Al.gc_right_zero hq0
    rw [h0, decide_eq_false (by simp)] at t1'
    rw [hg, h0]
    simp -implicitDefEqProofs [startE, t1', e]
  · rw [decide_eq_true h0] at t1'
    by_cases hq0 : q = 0
    · have e := h_led p (by have := hp.1; omega) fp
      have hg : Al.gc p q = Al.C (1 / p.ld) * p := by rw [hq0]; exact Al.gc_right_zero h0
      rw [hq0, decide_eq_false (by simp)] at t2'
      rw [hg, hq0]
      simp -implicitDefEqProofs [startE, t1', t2', e]
    · rw [decide_eq_true hq0] at t2'
      obtain ⟨hl, D, N, hH, hD, hN⟩ := hp
      obtain ⟨gl, E, M, kH, hE, hM⟩ := hq
      obtain ⟨c, us, ⟨a1, a2, a3, a4, a5, a6, a7⟩, e1⟩ := h_whole_tops p D N h0 (by omega) hH (pow_lim hD (by omega)) (pow_lim hN (by omega))
      obtain ⟨d, vs, ⟨b1, b2, b3, b4, b5, b6, b7⟩, e2⟩ := h_whole_tops q E M hq0 (by omega) kH (pow_lim hE (by omega)) (pow_lim hM (by omega))
      obtain ⟨fs, ⟨f1, f2, f3, f4, f5, f6, f7, f8⟩, e3⟩ := h_shared_tops us vs α (n + m) a6 b6 a7 b7 (by omega) hnm (fun i => Nat.lt_of_le_of_lt (a5 i) hN) (fun i => Nat.lt_of_le_of_lt (b5 i) hM) hα0 (by omega) hcap
      have hfl : (Al.gi fs (fs.length - 1)).natAbs < 2 ^ 800000 := by
        obtain ⟨w, hw, ew⟩ := f5
        have hu0 : Al.zp us ≠ 0 := a4.ne
        have hw0 : w ≠ 0 := fun z => hu0 (by rw [ew, z]; grind)
        have h3 := Al.ld_mul hw0 f4.ne
        rw [← ew, zp_ld a6 a7, zp_ld f1 (by omega)] at h3
        obtain ⟨t, et⟩ := hw (w.len - 1)
        rw [Int.one_mul] at et
        have h4 : w.ld = (t : Rat) := et
        rw [h4, ← Rat.intCast_mul] at h3
        have h5 := Rat.intCast_inj.mp h3
        have ht : t ≠ 0 := fun z => a7 (by rw [h5, z, Int.zero_mul])
        have h6 : (Al.gi fs (fs.length - 1)).natAbs ≤ t.natAbs * (Al.gi fs (fs.length - 1)).natAbs := Nat.le_mul_of_pos_left _ (Int.natAbs_pos.mpr ht)
        rw [← Int.natAbs_mul, ← h5] at h6
        exact Nat.lt_of_le_of_lt (Nat.le_trans h6 (a5 _)) (pow_lim hN (by omega))
      have e4 := h_row_over fs (Al.gi fs (fs.length - 1)) (by omega) (by omega) (pow_lim hfl (by decide))
      have hat : atI (fs.map PyData.int) (-1) = some (.int (Al.gi fs (fs.length - 1))) := atI_lastI (List.length_pos_iff.mpr f1)
      have hgc : Al.gc p q = Al.gc (Al.zp us) (Al.zp vs) := by
        refine Al.gc_eq' (Al.gc_led (.inl a4.ne)) ?_ ?_ (fun x dx dy => ?_) (.inl h0)
        · obtain ⟨w, ew⟩ := Al.gc_left (Al.zp us) (Al.zp vs)
          exact ⟨Al.C c * w, by rw [a3]; grind⟩
        · obtain ⟨w, ew⟩ := Al.gc_right (Al.zp us) (Al.zp vs)
          exact ⟨Al.C d * w, by rw [b3]; grind⟩
        · refine Al.gc_great ?_ ?_
          · obtain ⟨w, ew⟩ := dx
            rw [a3] at ew
            refine ⟨Al.C (1 / c) * w, ?_⟩
            have : Al.C (1 / c) * Al.C c = 1 := by rw [← Al.C_mul, show 1 / c * c = 1 by grind]; rfl
            grind
          · obtain ⟨w, ew⟩ := dy
            rw [b3] at ew
            refine ⟨Al.C (1 / d) * w, ?_⟩
            have : Al.C (1 / d) * Al.C d = 1 := by rw [← Al.C_mul, show 1 / d * d = 1 by grind]; rfl
            grind
      rw [← f8] at e4
      rw [hgc]
      simp -implicitDefEqProofs [startE, t1', t2', e1, e2, e3, hat, e4, storeV, lf, lfA_ints]
theorem fit_neg' {p : Al.Poly} (h : Fit p) : Fit (-p) := by
  obtain ⟨D, N, h, a, b⟩ := h
  exact ⟨D, N, h.neg, a, b⟩
structure LdI (p q : Al.Poly) (D N E M T i : Nat) (W r : Al.Poly) : Prop where
  len : i + r.len ≤ p.len ∨ i = 0
  lenr : r.len ≤ p.len
  steps : i ≤ p.len + 1 - q.len
  val : p = W * q + r
  wl : W.len ≤ p.len
  wh : Al.Hn W (D * T ^ i) (E * N * (3 * M) ^ i)
  rh : Al.Hn r (D * T ^ i) (N * (2 * M) ^ i)
def Φ__law_divide (Fn : List PyData → R PyData) : Prop := ∀ (p q : Al.Poly) (D N E M : Nat), q ≠ 0 → p.len ≤ 900 → q.len ≤ 900 → Al.Hn p D N → Al.Hn q E M → D * M ^ (p.len + 1 - q.len) * E < 2 ^ 15960000 → 1000 * (E * N * (3 * M) ^ (p.len + 1 - q.len) * M) < 2 ^ 15960000 → M < 2 ^ 15960000 →
  Fn [rowD p, rowD q] = .ok (.tuple [rowD (Al.dv p q), rowD (Al.md p q)])
def StL (q W r : Al.Poly) (o3 o4 : Option (PyData × Bool)) : SEn := [some (rowD r, false), some (rowD q, false), some (rowD W, false), o3, o4]
theorem Φ__law_divide.szl {Fn : List PyData → R PyData} (h : Φ__law_divide Fn) {n k m j s : Nat} {p q : Al.Poly} (hp : Sz n k p) (hq : Sz m j q) (h0 : q ≠ 0) (hn : n ≤ 900) (hm : m ≤ 900) (hs : p.len + 1 - q.len ≤ s) (hb : 10 + (j + (k + ((j + 2) * s + j))) ≤ 15960000) :
    Fn [rowD p, rowD q] = .ok (.tuple [rowD (Al.dv p q), rowD (Al.md p q)]) := by
  obtain ⟨hl, D, N, hp, hD, hN⟩ := hp
  obtain ⟨gl, E, M, hq, hE, hM⟩ := hq
  have h1 : (j + 2) * (p.len + 1 - q.len) ≤ (j + 2) * s := Nat.mul_le_mul_left _ hs
  have h2 : j * (p.len + 1 - q.len) ≤ (j + 2) * (p.len + 1 - q.len) := Nat.mul_le_mul_right _ (by omega)
  have hM3 := three_le hM
  refine h p q D N E M h0 (by omega) (by omega) hp hq ?_ ?_ (pow_lim hM (by omega))
  · exact pow_lim (pow_mul_lt (mul_pow_lt hD (Nat.le_of_lt hM) (Nat.le_refl _)) hE) (by omega)
  · exact pow_lim (pow_mul_lt (show 1000 < 2 ^ 10 by decide) (pow_mul_lt (mul_pow_lt (pow_mul_lt hE hN) hM3 (Nat.le_refl _)) hM)) (by omega)
theorem spec__law_divide (T : Txt D) : Spec D 38 "_law_divide" 2 Φ__law_divide := by
  obtain ⟨F__law_fraction, S__law_fraction, h__law_fraction⟩ := spec__law_fraction T
  obtain ⟨F__law_plus, S__law_plus, h__law_plus⟩ := spec__law_plus T
  obtain ⟨F__law_scale, S__law_scale, h__law_scale⟩ := spec__law_scale T
  obtain ⟨F__law_times, S__law_times, h__law_times⟩ := spec__law_times T
  refine Br.spec_named (fn_of' T.d__law_divide sc__law_divide (pub_cons (pus_set 2 [] (pur_tup pura_nil))
    (pub_cons (pus_while [] (purt_cmp (pur_blt blt_len T.n_len (pura_cons (pur_var 0) pura_nil)) (pur_blt blt_len T.n_len (pura_cons (pur_var 1) pura_nil))) (pub_cons (pus_set 3 [] (pur_call S__law_fraction (pura_cons (pur_bin (pur_ix (pur_ix (pur_var 0) (pur_neg pur_int)) pur_int) (pur_ix (pur_ix (pur_var 1) (pur_neg pur_int)) pur_int)) (pura_cons (pur_bin (pur_ix (pur_ix (pur_var 0) (pur_neg pur_int)) pur_int) (pur_ix (pur_ix (pur_var 1) (pur_neg pur_int)) pur_int)) pura_nil))))
    (pub_cons (pus_set 4 [] (pur_bin (pur_bin (pur_tup (pura_cons (pur_tup (pura_cons pur_int (pura_cons pur_int pura_nil))) pura_nil)) (pur_bin (pur_blt blt_len T.n_len (pura_cons (pur_var 0) pura_nil)) (pur_blt blt_len T.n_len (pura_cons (pur_var 1) pura_nil)))) (pur_tup (pura_cons (pur_var 3) pura_nil))))
    (pub_cons (pus_set 2 [] (pur_call S__law_plus (pura_cons (pur_var 2) (pura_cons (pur_var 4) pura_nil))))
    (pub_one (pus_set 0 [] (pur_call S__law_plus (pura_cons (pur_var 0) (pura_cons (pur_call S__law_scale (pura_cons (pur_call S__law_times (pura_cons (pur_var 4) (pura_cons (pur_var 1) pura_nil))) (pura_cons (pur_tup (pura_cons (pur_neg pur_int) (pura_cons pur_int pura_nil))) pura_nil))) pura_nil)))))))))
    (pub_one (pus_ret [] (pur_tup (pura_cons (pur_var 2) (pura_cons (pur_var 0) pura_nil)))))))) (fun Fn hFn => ?_)
  intro p q D N E M hq0 hp hq hH kH b1 b2 bM
  subst hFn
  refine runD_ret ?_
  have hqp := Al.Poly.len_pos.mpr hq0
  obtain ⟨T, hT0, hTM, hTt, -⟩ := Al.div_hT hq0 kH
  obtain ⟨K, hK⟩ : ∃ K, K = p.len + 1 - q.len := ⟨_, rfl⟩
  rw [← hK] at b1 b2
  have hM0 : 0 < M := by omega
  have hE0 := kH.1
  have hM3 : ∀ i, 0 < (3 * M) ^ i := fun i => Nat.pow_pos (by omega)
  have mono3 : ∀ i, i ≤ K → E * N * (3 * M) ^ i ≤ E * N * (3 * M) ^ K := fun i hi => Nat.mul_le_mul_left _ (Nat.pow_le_pow_right (by omega) hi)
  have monoT : ∀ i, i ≤ K → D * T ^ i ≤ D * M ^ K := fun i hi => Nat.mul_le_mul_left _ (Nat.le_trans (Nat.pow_le_pow_left hTM i) (Nat.pow_le_pow_right hM0 hi))
  have le2 : ∀ i, N * (2 * M) ^ i ≤ E * N * (3 * M) ^ i := fun i => Nat.mul_le_mul (Nat.le_mul_of_pos_left _ hE0) (Nat.pow_le_pow_left (by omega) i)
  have bD : ∀ i, i ≤ K → D * T ^ i * E < 2 ^ 15960000 := fun i hi => Nat.lt_of_le_of_lt (Nat.mul_le_mul_right _ (monoT i hi)) b1
  have bD1 : ∀ i, i ≤ K → D * T ^ i < 2 ^ 15960000 := fun i hi => Nat.lt_of_le_of_lt (Nat.le_mul_of_pos_right _ hE0) (bD i hi)
  have bN : ∀ i, i ≤ K → 1000 * (E * N * (3 * M) ^ i * M) < 2 ^ 15960000 := fun i hi => Nat.lt_of_le_of_lt (Nat.mul_le_mul_left _ (Nat.mul_le_mul_right _ (mono3 i hi))) b2
  have bN1 : ∀ i, i ≤ K → E * N * (3 * M) ^ i < 2 ^ 15960000 := fun i hi => Nat.lt_of_le_of_lt (Nat.le_trans (Nat.le_mul_of_pos_right _ hM0) (Nat.le_mul_of_pos_left _ (by decide))) (bN i hi)
  have bE : E < 2 ^ 15960000 := Nat.lt_of_le_of_lt (Nat.le_mul_of_pos_left _ (Nat.mul_pos hH.1 (Nat.pow_pos (n := 0) hT0))) (bD 0 (Nat.zero_le _))
  have fq : Fit q := ⟨_, _, kH, bE, bM⟩
  have hz0 : szOk 0 = true := szOk_of (by decide)
  have hz2 : szOk 2 = true := szOk_of (by decide)
  have hz1 : szOk 1 = true := szOk_of (by decide)
  have hlen : ∀ r : Al.Poly, lenF [rowD r] = .ok (.int (r.len : Int)) := fun r => by
    unfold rowD frsT
    simp
    rfl
  simp -implicitDefEqProofs [startE, hz0, storeV, lf, lfA, -ixV]
  generalize hF : whileD _ _ _ = r
  have := whileD_rule hF (fun se => ∃ (W r : Al.Poly) (i : Nat) (o3 o4 : Option (PyData × Bool)), LdI p q D N E M T i W r ∧ se = StL q W r o3 o4)
    (fun x => ∃ (W r : Al.Poly) (i : Nat) (o3 o4 : Option (PyData × Bool)), LdI p q D N E M T i W r ∧ r.len < q.len ∧ x = .next (StL q W r o3 o4))
    (fun se => match se with | [some (.tuple xs, _), _, _, _, _] => xs.length | _ => 0)
    ⟨0, p, 0, _, _, ⟨.inr rfl, Nat.le_refl _, Nat.zero_le _, by grind, Nat.zero_le _, by rw [Nat.pow_zero, Nat.mul_one]; exact Al.Hn.zero hH.1, by rw [Nat.pow_zero, Nat.mul_one, Nat.pow_zero, Nat.mul_one]; exact hH⟩, rfl⟩ ?_
  · obtain ⟨W, r, i, o3, o4, ⟨i1, i1', i2, i3, i4, i5, i6⟩, hlt, rfl⟩ := this
    obtain ⟨d1, d2⟩ := Al.dv_eq i3 hlt
    rw [d1, d2]
    simp -implicitDefEqProofs [StL, hz2]
  · rintro se ⟨W, r, i, o3, o4, ⟨i1, i1', i2, i3, i4, i5, i6⟩, rfl⟩
    by_cases hle : q.len ≤ r.len
    · have hcond : ((q.len : Int) ≤ (r.len : Int)) := by omega
      refine ⟨true, by simp -implicitDefEqProofs [StL, hlen, cI_ge, hcond, -lenF], (fun h => by cases h), fun _ => ?_⟩
      have hiK : i + 1 ≤ K := by rcases i1 with h | h <;> omega
      have hr0 : r ≠ 0 := Al.Poly.len_pos.mp (by omega)
      obtain ⟨s1, s2⟩ := Al.step_h hq0 kH hTt i6
      have hDT : D * T ^ i * T = D * T ^ (i + 1) := by rw [Nat.pow_succ, Nat.mul_assoc]
      rw [hDT] at s1 s2
      have hlr := Al.Poly.ld_ne hr0
      have hlq := Al.Poly.ld_ne hq0
      obtain ⟨a, ea⟩ : ∃ a, a = r.ld / q.ld := ⟨_, rfl⟩
      obtain ⟨k, ek⟩ : ∃ k, k = r.len - q.len := ⟨_, rfl⟩
      have ha0 : a ≠ 0 := by rw [ea]; grind
      have hst := Al.div_step hq0 hle
      rw [← ea, ← ek] at s1 s2 hst
      have w1 : Al.Hn W (D * T ^ (i + 1)) (E * N * (3 * M) ^ i * T) := by rw [← hDT]; exact i5.up hT0
      have r1 : Al.Hn r (D * T ^ (i + 1)) (N * (2 * M) ^ i * T) := by rw [← hDT]; exact i6.up hT0
      have wsum : E * N * (3 * M) ^ i * T + N * (2 * M) ^ i * E ≤ E * N * (3 * M) ^ (i + 1) := by
        have h1 : E * N * (3 * M) ^ i * T ≤ E * N * (3 * M) ^ i * M := Nat.mul_le_mul_left _ hTM
        have h2 : N * (2 * M) ^ i * E ≤ E * N * (3 * M) ^ i := by
          rw [show N * (2 * M) ^ i * E = E * N * (2 * M) ^ i by rw [Nat.mul_comm _ E, Nat.mul_assoc]]
          exact Nat.mul_le_mul_left _ (Nat.pow_le_pow_left (by omega) i)
        have h3 : E * N * (3 * M) ^ i ≤ E * N * (3 * M) ^ i * M := Nat.le_mul_of_pos_right _ hM0
        have h4 : E * N * (3 * M) ^ (i + 1) = 3 * (E * N * (3 * M) ^ i * M) := by
          rw [Nat.pow_succ]
          generalize (3 * M) ^ i = z
          grind
        omega
      have rsum : N * (2 * M) ^ i * T + N * (2 * M) ^ i * M ≤ N * (2 * M) ^ (i + 1) := by
        have h1 : N * (2 * M) ^ i * T ≤ N * (2 * M) ^ i * M := Nat.mul_le_mul_left _ hTM
        have h4 : N * (2 * M) ^ (i + 1) = 2 * (N * (2 * M) ^ i * M) := by
          rw [Nat.pow_succ]
          generalize (2 * M) ^ i = z
          grind
        omega
      have nW : Al.Hn (W + Al.mo a k) (D * T ^ (i + 1)) (E * N * (3 * M) ^ (i + 1)) := (w1.add s1).mono wsum
      have nr : Al.Hn (r - Al.mo a k * q) (D * T ^ (i + 1)) (N * (2 * M) ^ (i + 1)) := (r1.sub s2).mono rsum
      have fr : Fit r := ⟨_, _, i6, bD1 i (by omega), Nat.lt_of_le_of_lt (le2 i) (bN1 i (by omega))⟩
      have fW : Fit W := ⟨_, _, i5, bD1 i (by omega), bN1 i (by omega)⟩
      have hNEi : N * (2 * M) ^ i * E ≤ E * N * (3 * M) ^ i := by
        rw [show N * (2 * M) ^ i * E = E * N * (2 * M) ^ i by rw [Nat.mul_comm _ E, Nat.mul_assoc]]
        exact Nat.mul_le_mul_left _ (Nat.pow_le_pow_left (by omega) i)
      have fm : Fit (Al.mo a k) := ⟨_, _, s1, bD1 (i + 1) hiK, Nat.lt_of_le_of_lt hNEi (bN1 i (by omega))⟩
      have hNMi : N * (2 * M) ^ i * M ≤ E * N * (3 * M) ^ i * M := Nat.mul_le_mul_right _ (le2 i)
      have hle1000 : ∀ x : Nat, x ≤ 1000 * x := fun x => Nat.le_mul_of_pos_left _ (by decide)
      have fmq : Fit (Al.mo a k * q) := ⟨_, _, s2, bD1 (i + 1) hiK, Nat.lt_of_le_of_lt (Nat.le_trans hNMi (hle1000 _)) (bN i (by omega))⟩
      have hix : ∀ x : Al.Poly, x ≠ 0 → ixV (rowD x) (.int (-1)) = .ok (frR x.ld) := fun x hx => by
        have hv : x.val ≠ [] := fun z => hx (Al.Poly.len_eq_zero.mp (by show x.val.length = 0; rw [z]; rfl))
        have := atI_lastF hv
        unfold rowD frsT
        simp [this]
        rfl
      have ixr := hix r hr0
      have ixq := hix q hq0
      have sr := fr.sr (r.len - 1)
      have sq := fq.sr (q.len - 1)
      have ef := h__law_fraction (r.ld.num * (q.ld.den : Int)) ((r.ld.den : Int) * q.ld.num) (Int.mul_ne_zero (den_ne _) (num_ne hlq)) (mul_sr' sr.d sq.n)
      rw [rat_div' r.ld q.ld hlq, ← ea] at ef
      have om1 : opV .Mult (.int r.ld.num) (.int (q.ld.den : Int)) = _ := oI_mul (mul_sr sr.n sq.d)
      have om2 : opV .Mult (.int (r.ld.den : Int)) (.int q.ld.num) = _ := oI_mul (mul_sr sr.d sq.n)
      have hsub : (r.len : Int) - (q.len : Int) = (k : Int) := by omega
      have o1 := oT_repF (k := k) (by omega)
      have hmv : (Al.mo a k).val = List.replicate k 0 ++ [a] := val_eq (by
        have : (Al.mo a k).len = k + 1 := Al.Poly.len_eq (fun i hi => by rw [Al.c_mo, if_neg (by omega)]) (by rw [Al.c_mo, if_pos rfl]; exact ha0)
        rw [this]; simp) fun i => by
        rw [Al.cf_pad, Al.c_mo]
        rcases Nat.lt_trichotomy i k with h | h | h
        · rw [if_pos h, if_neg (by omega)]
        · rw [if_neg (by omega), if_pos h, h, Nat.sub_self]; rfl
        · rw [if_neg (by omega), if_neg (by omega)]
          exact Al.cf_ge (by show 1 ≤ _; omega)
      have o2 : opV .Add (.tuple ((List.replicate k (0 : Rat)).map frR)) (.tuple [frR a]) = .ok (rowD (Al.mo a k)) := by
        rw [oT_add (by rw [List.length_map, List.length_replicate, List.length_singleton]; omega)]
        unfold rowD frsT
        rw [hmv, List.map_append]
        rfl
      have hml := Al.mo_len a k
      have e1 := h__law_times (Al.mo a k) q _ _ _ _ (by omega) (by omega) s1 kH (bD (i + 1) hiK) (Nat.lt_of_le_of_lt (Nat.mul_le_mul_left _ (Nat.mul_le_mul_right _ hNEi)) (bN i (by omega))) (bD1 (i + 1) hiK) (Nat.lt_of_le_of_lt hNEi (bN1 i (by omega))) bE bM
      have hmql : (Al.mo a k * q).len ≤ 2000 := by
        have := Al.len_mul_le (Al.mo a k) q
        omega
      have e2 : F__law_scale [rowD (Al.mo a k * q), frR (-1)] = _ := h__law_scale (Al.mo a k * q).val (-1) (by show (Al.mo a k * q).len ≤ _; omega) fmq.srl (sr_int (i := -1) (by exact Nat.one_lt_two_pow (by decide)))
      rw [Al.ofL_val, frR_neg1] at e2
      have hneg : Al.C (-1) * (Al.mo a k * q) = -(Al.mo a k * q) := Al.Poly.ext fun i => by rw [Al.c_Cmul, Al.c_neg]; grind
      rw [hneg] at e2
      have e3 : F__law_plus [rowD r, rowD (-(Al.mo a k * q))] = _ := h__law_plus r.val (-(Al.mo a k * q)).val (by show r.len ≤ _; omega) (by show (-(Al.mo a k * q)).len ≤ _; rw [Al.Poly.len_neg]; omega) fr.srl (fit_neg' fmq).srl
      rw [Al.ofL_val, Al.ofL_val, show r + -(Al.mo a k * q) = r - Al.mo a k * q by grind] at e3
      have e4 : F__law_plus [rowD W, rowD (Al.mo a k)] = _ := h__law_plus W.val (Al.mo a k).val (by show W.len ≤ _; omega) (by show (Al.mo a k).len ≤ _; omega) fW.srl fm.srl
      rw [Al.ofL_val, Al.ofL_val] at e4
      generalize (List.replicate k (0 : Rat)).map frR = Z at *
      refine stepQ_next (StL q (W + Al.mo a k) (r - Al.mo a k * q) (some (frR a, false)) (some (rowD (Al.mo a k), false))) ?_ ⟨⟨W + Al.mo a k, r - Al.mo a k * q, i + 1, _, _, ⟨.inl ?_, ?_, by omega, ?_, ?_, nW, nr⟩, rfl⟩, ?_⟩
      · simp -implicitDefEqProofs [StL, hlen, oI_sub, hsub, ixr, ixq, ix_frR0, ix_frR1, om1, om2, ef, hz1, hz2, o1, o2, e1, e2, e3, e4, storeV, -ixV, -lenF]
      · rcases i1 with h | h <;> omega
      · omega
      · rw [i3]; grind
      · have := Al.Poly.len_add W (Al.mo a k)
        omega
      · show ((r - Al.mo a k * q).val.map frR).length < (r.val.map frR).length
        rw [List.length_map, List.length_map]
        show (r - Al.mo a k * q).len < r.len
        omega
    · have hcond : ¬ ((q.len : Int) ≤ (r.len : Int)) := by omega
      exact ⟨false, by simp -implicitDefEqProofs [StL, hlen, cI_ge, hcond, -lenF], fun _ => ⟨W, r, i, o3, o4, ⟨i1, i1', i2, i3, i4, i5, i6⟩, by omega, rfl⟩, (fun h => by cases h)⟩
def nums2 : List Int := [1, 2, 3, 4, 5, 7, -2, -3, -5, -6, -7, -10]
def FkL (l : List Rat) (a : Rat) : Prop := l = [a, 1] ∨ (∃ n : Int, n ∈ nums2 ∧ l = [a * a + (n : Rat), 2 * a, 1]) ∨ (∃ n : Int, 2 ≤ n ∧ n ≤ 7 ∧ l = [a * a * a + (n : Rat), 3 * (a * a), 3 * a, 1])
def Φ__law_factors (Fn : List PyData → R PyData) : Prop := ∀ (x : Int) (many : Nat), many ≤ 4 → ∃ ls : List (List Rat), (ls.length = many ∧ ∃ (a : Rat) (c : Int), 1 ≤ c ∧ c ≤ 5 ∧ ∀ (k : Nat) (l : List Rat), ls[k]? = some l → FkL l (a + (c : Rat) * (k : Rat)) ∧ (a + (c : Rat) * (k : Rat)).num.natAbs ≤ 12 + 15 * k ∧ (a + (c : Rat) * (k : Rat)).den ≤ 3) ∧
  Fn [.int x, .int many] = .ok (.list (ls.map fun l => rowD (Al.ofL l)))
theorem fkl_last {l : List Rat} {a : Rat} (h : FkL l a) : (Al.ofL l).len = l.length ∧ Al.Led (Al.ofL l) ∧ 2 ≤ l.length ∧ l.length ≤ 4 := by
  have key : ∀ m : List Rat, 1 ≤ m.length → (Al.ofL (m ++ [1])).len = (m ++ [1]).length ∧ Al.Led (Al.ofL (m ++ [1])) := fun m hm => by
    have h1 : ∀ i, (Al.ofL (m ++ [1])).c i = if i < m.length then Al.cf m i else if i = m.length then 1 else 0 := fun i => by
      rw [Al.c_ofL, cf_append]
      split
      · rfl
      · split
        · rename_i h; rw [h, Nat.sub_self]; rfl
        · exact Al.cf_ge (by show 1 ≤ _; omega)
    have h2 : (Al.ofL (m ++ [1])).len = m.length + 1 := Al.Poly.len_eq (fun i hi => by rw [h1, if_neg (by omega), if_neg (by omega)]) (by rw [h1, if_neg (by omega), if_pos rfl]; decide)
    refine ⟨by rw [h2]; simp, ?_⟩
    show (Al.ofL (m ++ [1])).ld = 1
    rw [Al.Poly.ld_eq h2, h1, if_neg (by omega), if_pos rfl]
  rcases h with rfl | ⟨n, _, rfl⟩ | ⟨n, _, _, rfl⟩
  · obtain ⟨k1, k2⟩ := key [a] (by simp)
    exact ⟨k1, k2, by simp, by simp⟩
  · obtain ⟨k1, k2⟩ := key [a * a + (n : Rat), 2 * a] (by simp)
    exact ⟨k1, k2, by simp, by simp⟩
  · obtain ⟨k1, k2⟩ := key [a * a * a + (n : Rat), 3 * (a * a), 3 * a] (by simp)
    exact ⟨k1, k2, by simp, by simp⟩
theorem at_eq (w c : Int) (k v : Nat) (hv : (v : Rat) ≠ 0) : ((w + (1 + c) * (k : Int) * (v : Int) : Int) : Rat) / (((v : Nat) : Int) : Rat) = (w : Rat) / (v : Rat) + ((1 + c : Int) : Rat) * (k : Rat) := by
  rw [Rat.intCast_add w, Rat.intCast_mul, Rat.intCast_mul, Rat.intCast_natCast, Rat.intCast_natCast]
  grind
theorem sq_eq (z v : Int) : (z : Rat) / (v : Rat) * ((z : Rat) / (v : Rat)) = ((z * z : Int) : Rat) / ((v * v : Int) : Rat) := by
  rw [Rat.intCast_mul, Rat.intCast_mul]; grind
theorem cu_eq (z v : Int) : (z : Rat) / (v : Rat) * ((z : Rat) / (v : Rat)) * ((z : Rat) / (v : Rat)) = ((z * z * z : Int) : Rat) / ((v * v * v : Int) : Rat) := by
  rw [sq_eq, Rat.intCast_mul (z * z), Rat.intCast_mul (v * v)]; grind
theorem nums2_le : ∀ n ∈ nums2, n.natAbs ≤ 10 := by decide
theorem fkl_h {l : List Rat} {a : Rat} (h : FkL l a) {m : Nat} (hm : 18 ≤ m) (hu : a.num.natAbs ≤ m) (hd : a.den ≤ 3) : Al.Hn (Al.ofL l) (a.den * a.den * a.den) (m * m * m + 270) := by
  have hv : 0 < a.den := a.den_pos
  have ea := Al.rat_num a
  generalize a.num = u at *
  generalize a.den = v at *
  have hmm : 18 * m ≤ m * m := Nat.mul_le_mul_right _ hm
  have hmmm : 18 * (m * m) ≤ m * m * m := by rw [Nat.mul_assoc]; exact Nat.mul_le_mul_right _ hm
  have hvv : v * v ≤ 9 := Nat.mul_le_mul hd hd
  have hvvv : v * v * v ≤ 27 := Nat.mul_le_mul hvv hd
  have huu : (u * u).natAbs ≤ m * m := by rw [Int.natAbs_mul]; exact Nat.mul_le_mul hu hu
  have huuu : (u * u * u).natAbs ≤ m * m * m := by rw [Int.natAbs_mul]; exact Nat.mul_le_mul huu hu
  have huv : (u * (v * v : Nat)).natAbs ≤ m * 9 := by rw [Int.natAbs_mul, Int.natAbs_natCast]; exact Nat.mul_le_mul hu hvv
  have huuv : (u * u * (v : Nat)).natAbs ≤ m * m * 3 := by rw [Int.natAbs_mul, Int.natAbs_natCast]; exact Nat.mul_le_mul huu hd
  have hn3 : ∀ n : Int, n.natAbs ≤ 10 → (n * (v * v * v : Nat)).natAbs ≤ 270 := fun n hn => by rw [Int.natAbs_mul, Int.natAbs_natCast]; exact Nat.mul_le_mul hn hvvv
  have pos : 0 < v * v * v := Nat.mul_pos (Nat.mul_pos hv hv) hv
  have one : ∃ t : Int, (1 : Rat) * ((v * v * v : Nat) : Rat) = (t : Rat) ∧ t.natAbs ≤ m * m * m + 270 := ⟨(v * v * v : Nat), by rw [Rat.intCast_natCast]; grind, by rw [Int.natAbs_natCast]; omega⟩
  have zero : ∃ t : Int, (0 : Rat) * ((v * v * v : Nat) : Rat) = (t : Rat) ∧ t.natAbs ≤ m * m * m + 270 := ⟨0, Rat.zero_mul _, Nat.zero_le _⟩
  have t1 : a * ((v * v * v : Nat) : Rat) = ((u * (v * v : Nat) : Int) : Rat) := by
    rw [Rat.natCast_mul, Rat.natCast_mul, Rat.intCast_mul, Rat.intCast_natCast, Rat.natCast_mul]; grind
  have t2 : a * a * ((v * v * v : Nat) : Rat) = ((u * u * (v : Nat) : Int) : Rat) := by
    rw [Rat.natCast_mul, Rat.natCast_mul, Rat.intCast_mul, Rat.intCast_mul, Rat.intCast_natCast]; grind
  have t3 : a * a * a * ((v * v * v : Nat) : Rat) = ((u * u * u : Int) : Rat) := by
    rw [Rat.natCast_mul, Rat.natCast_mul, Rat.intCast_mul, Rat.intCast_mul]; grind
  have tn : ∀ n : Int, (n : Rat) * ((v * v * v : Nat) : Rat) = ((n * (v * v * v : Nat) : Int) : Rat) := fun n => by
    rw [Rat.intCast_mul, Rat.intCast_natCast]
  rcases h with rfl | ⟨n, hn, rfl⟩ | ⟨n, hn1, hn2, rfl⟩
  · refine ⟨pos, fun i => ?_⟩
    rw [Al.c_ofL]
    match i with
    | 0 => exact ⟨_, t1, by omega⟩
    | 1 => exact one
    | i + 2 => exact zero
  · have hn' := hn3 n (nums2_le n hn)
    refine ⟨pos, fun i => ?_⟩
    rw [Al.c_ofL]
    match i with
    | 0 => exact ⟨u * u * (v : Nat) + n * (v * v * v : Nat), by
        show (a * a + (n : Rat)) * _ = _
        rw [Rat.intCast_add, ← t2, ← tn]; grind, by omega⟩
    | 1 => exact ⟨2 * (u * (v * v : Nat)), by
        show 2 * a * _ = _
        rw [Rat.intCast_mul, ← t1]
        show _ = (2 : Rat) * _
        grind, by omega⟩
    | 2 => exact one
    | i + 3 => exact zero
  · have hn' := hn3 n (by omega)
    refine ⟨pos, fun i => ?_⟩
    rw [Al.c_ofL]
    match i with
    | 0 => exact ⟨u * u * u + n * (v * v * v : Nat), by
        show (a * a * a + (n : Rat)) * _ = _
        rw [Rat.intCast_add, ← t3, ← tn]; grind, by omega⟩
    | 1 => exact ⟨3 * (u * u * (v : Nat)), by
        show 3 * (a * a) * _ = _
        rw [Rat.intCast_mul, ← t2]
        show _ = (3 : Rat) * _
        grind, by omega⟩
    | 2 => exact ⟨3 * (u * (v * v : Nat)), by
        show 3 * a * _ = _
        rw [Rat.intCast_mul, ← t1]
        show _ = (3 : Rat) * _
        grind, by omega⟩
    | 3 => exact one
    | i + 4 => exact zero
theorem fkl_sz {l : List Rat} {a : Rat} (h : FkL l a) (hu : a.num.natAbs ≤ 42) (hd : a.den ≤ 3) : Sz 4 17 (Al.ofL l) := by
  obtain ⟨h1, _, _, h2⟩ := fkl_last h
  have hv : a.den * a.den * a.den ≤ 27 := Nat.mul_le_mul (Nat.mul_le_mul hd hd) hd
  exact ⟨by omega, _, _, fkl_h h (by decide : 18 ≤ 42) hu hd, Nat.lt_of_le_of_lt hv (by decide), by decide⟩
theorem fkl_sz4 {l : List Rat} {a : Rat} (h : FkL l a) (hu : a.num.natAbs ≤ 57) (hd : a.den ≤ 3) : Sz 4 18 (Al.ofL l) := by
  obtain ⟨h1, _, _, h2⟩ := fkl_last h
  have hv : a.den * a.den * a.den ≤ 27 := Nat.mul_le_mul (Nat.mul_le_mul hd hd) hd
  exact ⟨by omega, _, _, fkl_h h (by decide : 18 ≤ 57) hu hd, Nat.lt_of_le_of_lt hv (by decide), by decide⟩
theorem spec__law_factors (T : Txt D) : Spec D 36 "_law_factors" 2 Φ__law_factors := by
  obtain ⟨F__law_stream, S__law_stream, h__law_stream⟩ := spec__law_stream T
  obtain ⟨F__law_fraction, S__law_fraction, h__law_fraction⟩ := spec__law_fraction T
  obtain ⟨F__law_trim, S__law_trim, h__law_trim⟩ := spec__law_trim T
  obtain ⟨F__law_sum, S__law_sum, h__law_sum⟩ := spec__law_sum T
  obtain ⟨F__law_product, S__law_product, h__law_product⟩ := spec__law_product T
  refine Br.spec_named (fn_of' T.d__law_factors sc__law_factors (pub_cons (pus_set 2 [] (pur_call S__law_stream (pura_cons (pur_var 0) (pura_cons (pur_bin pur_int (pur_var 1)) pura_nil))))
    (pub_cons (pus_set 3 [] (pur_bin pur_int (pur_bin (pur_ix (pur_var 2) pur_int) pur_int)))
    (pub_cons (pus_setL 4 [] (purl_lst pura_nil))
    (pub_cons (pus_for [] (puri_range1 T.n_range (pura_cons (pur_var 1) pura_nil)) (pug_name 5) (pub_cons (pus_set 6 [] (pur_call S__law_fraction (pura_cons (pur_bin (pur_bin (pur_bin (pur_ix (pur_var 2) pur_int) pur_int) pur_int) (pur_bin (pur_bin (pur_bin pur_int (pur_bin (pur_ix (pur_var 2) pur_int) pur_int)) (pur_var 5)) (pur_var 3))) (pura_cons (pur_var 3) pura_nil))))
    (pub_one (pus_if [4] (purt_cmp (pur_bin (pur_ix (pur_var 2) (pur_bin pur_int (pur_var 5))) pur_int) pur_int) (pub_cons (pus_set 7 [] (pur_ix (pur_lst (pura_cons pur_int (pura_cons pur_int (pura_cons pur_int (pura_cons pur_int (pura_cons pur_int (pura_cons pur_int (pura_cons (pur_neg pur_int) (pura_cons (pur_neg pur_int) (pura_cons (pur_neg pur_int) (pura_cons (pur_neg pur_int) (pura_cons (pur_neg pur_int) (pura_cons (pur_neg pur_int) pura_nil))))))))))))) (pur_bin (pur_bin (pur_ix (pur_var 2) (pur_bin pur_int (pur_var 5))) pur_int) pur_int)))
    (pub_cons (pus_set 8 [] (pur_call S__law_sum (pura_cons (pur_call S__law_product (pura_cons (pur_var 6) (pura_cons (pur_var 6) pura_nil))) (pura_cons (pur_tup (pura_cons (pur_var 7) (pura_cons pur_int pura_nil))) pura_nil))))
    (pub_one (pus_append 4 [] (pur_tup (pura_cons (pur_var 8) (pura_cons (pur_call S__law_product (pura_cons (pur_tup (pura_cons pur_int (pura_cons pur_int pura_nil))) (pura_cons (pur_var 6) pura_nil))) (pura_cons (pur_tup (pura_cons pur_int (pura_cons pur_int pura_nil))) pura_nil)))))))) (pub_one (pus_if [4] (purt_cmp (pur_bin (pur_ix (pur_var 2) (pur_bin pur_int (pur_var 5))) pur_int) pur_int) (pub_cons (pus_set 10 [] (pur_call S__law_product (pura_cons (pur_var 6) (pura_cons (pur_var 6) pura_nil))))
    (pub_cons (pus_set 8 [] (pur_call S__law_sum (pura_cons (pur_call S__law_product (pura_cons (pur_var 10) (pura_cons (pur_var 6) pura_nil))) (pura_cons (pur_tup (pura_cons (pur_bin pur_int (pur_bin (pur_bin (pur_ix (pur_var 2) (pur_bin pur_int (pur_var 5))) pur_int) pur_int)) (pura_cons pur_int pura_nil))) pura_nil))))
    (pub_one (pus_append 4 [] (pur_tup (pura_cons (pur_var 8) (pura_cons (pur_call S__law_product (pura_cons (pur_tup (pura_cons pur_int (pura_cons pur_int pura_nil))) (pura_cons (pur_var 10) pura_nil))) (pura_cons (pur_call S__law_product (pura_cons (pur_tup (pura_cons pur_int (pura_cons pur_int pura_nil))) (pura_cons (pur_var 6) pura_nil))) (pura_cons (pur_tup (pura_cons pur_int (pura_cons pur_int pura_nil))) pura_nil))))))))) (pub_one (pus_append 4 [] (pur_tup (pura_cons (pur_var 6) (pura_cons (pur_tup (pura_cons pur_int (pura_cons pur_int pura_nil))) pura_nil)))))))))))
    (pub_one (pus_ret [4] (PurL.pur (purl_comp (own := [("_law_row", 9)]) (puri_seq (pur_var 4)) (puge_name 9) purts_nil (pur_call S__law_trim (pura_cons (pur_var 9) pura_nil))))))))))) (fun Fn hFn => ?_)
  intro x many hm
  subst hFn
  refine runD_ret_ex1 (k := fun ls : List (List Rat) => .list (ls.map fun l => rowD (Al.ofL l))) ?_
  obtain ⟨xs, hxl, hx, ex⟩ := h__law_stream x (3 + many) (by omega)
  have hx' : ∀ i, i < 3 + many → 0 ≤ Al.gi xs i ∧ Al.gi xs i < M31 := fun i hi => hx _ (by
    unfold Al.gi
    rw [List.getD_eq_getElem?_getD, List.getElem?_eq_getElem (by omega)]
    exact List.getElem_mem _)
  have ix : ∀ i : Nat, i < 3 + many → atI (xs.map PyData.int) (i : Int) = some (.int (Al.gi xs i)) := fun i hi => atI_nat (intsL_get (by omega))
  have ix0 : atI (xs.map PyData.int) 0 = some (.int (Al.gi xs 0)) := ix 0 (by omega)
  have ix1 : atI (xs.map PyData.int) 1 = some (.int (Al.gi xs 1)) := ix 1 (by omega)
  have ix2 : atI (xs.map PyData.int) 2 = some (.int (Al.gi xs 2)) := ix 2 (by omega)
  have ex' : F__law_stream [.int x, .int (3 + (many : Int))] = .ok (.list (xs.map .int)) := by
    rw [show (3 : Int) + (many : Int) = ((3 + many : Nat) : Int) by omega]; exact ex
  have rr := range1_run many (by omega)
  have w0 := fm_lo (Al.gi xs 0) (m := 25) (by decide)
  have w1 := fm_hi (Al.gi xs 0) (m := 25) (by decide)
  have c0 := fm_lo (Al.gi xs 1) (m := 5) (by decide)
  have c1 := fm_hi (Al.gi xs 1) (m := 5) (by decide)
  have l0 := fm_lo (Al.gi xs 2) (m := 3) (by decide)
  have l1 := fm_hi (Al.gi xs 2) (m := 3) (by decide)
  have hz0 : szOk 0 = true := szOk_of (by decide)
  obtain ⟨w, hw⟩ : ∃ w, w = (Al.gi xs 0).fmod 25 := ⟨_, rfl⟩
  obtain ⟨c, hc⟩ : ∃ c, c = (Al.gi xs 1).fmod 5 := ⟨_, rfl⟩
  obtain ⟨low, hlow⟩ : ∃ low, low = 1 + (Al.gi xs 2).fmod 3 := ⟨_, rfl⟩
  rw [← hw] at w0 w1
  rw [← hc] at c0 c1
  simp -implicitDefEqProofs [startE, oI_add, ex', ix2, oI_mod, ← hlow, hz0, storeV, storeL, lf, lfA, lfA_ints, rr]
  have hlow1 : 1 ≤ low ∧ low ≤ 3 := by omega
  obtain ⟨v, rfl⟩ : ∃ v : Nat, low = v := ⟨low.toNat, by omega⟩
  have hv : 1 ≤ v ∧ v ≤ 3 := by omega
  have hvr := Al.natCast_ne (show 0 < v by omega)
  obtain ⟨a, ha⟩ : ∃ a, a = ((w - 12 : Int) : Rat) / (v : Rat) := ⟨_, rfl⟩
  obtain ⟨z, hz⟩ : ∃ z : Nat → Int, z = fun k : Nat => w - 12 + (1 + c) * (k : Int) * (v : Int) := ⟨_, rfl⟩
  have haz : ∀ k : Nat, ((z k : Int) : Rat) / (((v : Nat) : Int) : Rat) = a + ((1 + c : Int) : Rat) * (k : Rat) := fun k => by
    rw [hz, ha]
    exact at_eq (w - 12) c k v hvr
  have hck : ∀ k : Nat, k ≤ 3 → 0 ≤ (1 + c) * (k : Int) * (v : Int) ∧ (1 + c) * (k : Int) * (v : Int) ≤ 15 * k := fun k hk => by
    have h1 : 0 ≤ (1 + c) * (k : Int) := Int.mul_nonneg (by omega) (by omega)
    have h2 : (1 + c) * (k : Int) ≤ 5 * (k : Int) := Int.mul_le_mul_of_nonneg_right (by omega) (by omega)
    have h3 : (1 + c) * (k : Int) * (v : Int) ≤ (1 + c) * (k : Int) * 3 := Int.mul_le_mul_of_nonneg_left (by omega) h1
    exact ⟨Int.mul_nonneg h1 (by omega), by omega⟩
  have hzk : ∀ k : Nat, k ≤ 3 → (z k).natAbs ≤ 12 + 15 * k := fun k hk => by
    have := hck k hk
    rw [hz]
    show (w - 12 + (1 + c) * (k : Int) * (v : Int)).natAbs ≤ _
    omega
  have hv0 : ((v : Nat) : Int) ≠ 0 := by omega
  have b10 : ∀ i : Int, i.natAbs ≤ 1000000 → i.natAbs < 2 ^ 15960000 := fun i hi => small39 hi
  generalize hF : forD _ _ _ _ = r
  have := forD_rule hF (fun i se => ∃ (ls : List (List Rat)) (o5 o6 o7 o8 o10 : Option (PyData × Bool)), ls.length = i ∧ (∀ (k : Nat) (l : List Rat), ls[k]? = some l → FkL l (a + ((1 + c : Int) : Rat) * (k : Rat))) ∧
      se = [some (.int x, false), some (.int many, false), some (.list (xs.map .int), false), some (.int (v : Int), false), some (.list (ls.map frsT), true), o5, o6, o7, o8, none, o10])
    (fun r => ∃ (ls : List (List Rat)) (o5 o6 o7 o8 o10 : Option (PyData × Bool)), ls.length = many ∧ (∀ (k : Nat) (l : List Rat), ls[k]? = some l → FkL l (a + ((1 + c : Int) : Rat) * (k : Rat))) ∧
      r = .next [some (.int x, false), some (.int many, false), some (.list (xs.map .int), false), some (.int (v : Int), false), some (.list (ls.map frsT), true), o5, o6, o7, o8, none, o10])
    ⟨[], _, _, _, _, _, rfl, fun k l h => by simp at h, rfl⟩ ?_ ?_
  · obtain ⟨ls, o5, o6, o7, o8, o10, hl, hk, rfl⟩ := this
    refine ⟨ls, ⟨hl, a, 1 + c, by omega, by omega, fun k l h => ⟨hk k l h, ?_⟩⟩, ?_⟩
    · have hk3 : k ≤ 3 := by have := (List.getElem?_eq_some_iff.mp h).1; omega
      rw [← haz k]
      obtain ⟨n1, n2⟩ := num_le' (a := z k) hv0
      have := hzk k hk3
      exact ⟨by omega, by omega⟩
    · simp -implicitDefEqProofs []
      generalize hL : lcD _ _ _ _ _ = L
      have := lcD_run hL ls frsT (fun l => rowD (Al.ofL l)) rfl (fun l hl => ⟨_, rfl, rfl, by
        have e := h__law_trim.2 l
        simp -implicitDefEqProofs [wipeE, e]⟩)
      subst this
      clear hL
      have hzl : szOk ls.length = true := szOk_of (by omega)
      simp -implicitDefEqProofs [hzl]
  · rintro i d se hi ⟨ls, o5, o6, o7, o8, o10, hl, hk, rfl⟩
    obtain ⟨hil, rfl⟩ := map_get hi
    have hi3 : i ≤ 3 := by omega
    have ix3 : atI (xs.map PyData.int) (3 + (i : Int)) = some (.int (Al.gi xs (3 + i))) := by
      rw [show (3 : Int) + (i : Int) = ((3 + i : Nat) : Int) by omega]; exact ix (3 + i) (by omega)
    obtain ⟨y0, y1⟩ := hx' (3 + i) (by omega)
    obtain ⟨y, hy⟩ : ∃ y, y = Al.gi xs (3 + i) := ⟨_, rfl⟩
    rw [← hy] at y0 y1 ix3
    unfold M31 at y1
    obtain ⟨k1, k2⟩ := hck i hi3
    have m1 : mulOk (1 + c) (i : Int) = true := mulOk_of (a := 10) (b := 10) (by omega) (by omega) (by decide) (by decide) (by decide)
    have m2 : mulOk ((1 + c) * (i : Int)) (v : Int) = true := by
      have h1 : 0 ≤ (1 + c) * (i : Int) := Int.mul_nonneg (by omega) (by omega)
      have h2 : (1 + c) * (i : Int) ≤ 5 * (i : Int) := Int.mul_le_mul_of_nonneg_right (by omega) (by omega)
      exact mulOk_of (a := 10) (b := 10) (by omega) (by omega) (by decide) (by decide) (by decide)
    have hzi := hzk i hi3
    have ef := h__law_fraction (z i) (v : Int) hv0 (by rw [Int.natAbs_natCast]; exact Nat.lt_of_le_of_lt (show v ≤ 3 by omega) (Nat.lt_of_lt_of_le (by decide : 3 < 2 ^ 2) (Nat.pow_le_pow_right (by decide) (by decide))))
    obtain ⟨t, ht⟩ : ∃ t, t = a + ((1 + c : Int) : Rat) * (i : Rat) := ⟨_, rfl⟩
    rw [haz i, ← ht] at ef
    have hzz : z i = w - 12 + (1 + c) * (i : Int) * (v : Int) := by rw [hz]
    rw [hzz] at ef
    have htz : t = ((z i : Int) : Rat) / (((v : Nat) : Int) : Rat) := by rw [haz i, ht]
    have hv9 : ((v : Int) * (v : Int)).natAbs ≤ 9 := by rw [Int.natAbs_mul, Int.natAbs_natCast]; exact Nat.mul_le_mul hv.2 hv.2
    have hv27 : ((v : Int) * (v : Int) * (v : Int)).natAbs ≤ 27 := by rw [Int.natAbs_mul, Int.natAbs_natCast]; exact Nat.mul_le_mul hv9 hv.2
    have hz57 : (z i).natAbs ≤ 57 := by omega
    have hz2 : (z i * z i).natAbs ≤ 57 * 57 := by rw [Int.natAbs_mul]; exact Nat.mul_le_mul hz57 hz57
    have hz3 : (z i * z i * z i).natAbs ≤ 57 * 57 * 57 := by rw [Int.natAbs_mul]; exact Nat.mul_le_mul hz2 hz57
    have st : Sr t := by rw [htz]; exact sr_div hv0 (b10 _ (by omega)) (b10 _ (by omega))
    have st2 : Sr (t * t) := by
      rw [htz, sq_eq]
      exact sr_div (Int.mul_ne_zero hv0 hv0) (b10 _ (by omega)) (b10 _ (by omega))
    have st3 : Sr (t * t * t) := by
      rw [htz, cu_eq]
      exact sr_div (Int.mul_ne_zero (Int.mul_ne_zero hv0 hv0) hv0) (b10 _ (by omega)) (b10 _ (by omega))
    have szI : ∀ n : Int, n.natAbs ≤ 1000000 → Sr (n : Rat) := fun n hn => sr_int (small39 hn)
    have p2 := h__law_product t t st st
    have p3 := h__law_product (t * t) t st2 st
    have q2 := h__law_product ((2 : Int) : Rat) t (szI 2 (by decide)) st
    have q3 := h__law_product ((3 : Int) : Rat) t (szI 3 (by decide)) st
    have q33 := h__law_product ((3 : Int) : Rat) (t * t) (szI 3 (by decide)) st2
    rw [frR_int] at q2 q3 q33
    have hl1 : szOk (i + 1) = true := szOk_of (by omega)
    have hzz2 : szOk 2 = true := szOk_of (by decide)
    have hzz3 : szOk 3 = true := szOk_of (by decide)
    have hzz4 : szOk 4 = true := szOk_of (by decide)
    have hzz12 : szOk 12 = true := szOk_of (by decide)
    have fr1 : PyData.tuple [PyData.int 1, PyData.int 1] = frR 1 := rfl
    have grow : ∀ l : List Rat, FkL l t → ∀ (k : Nat) (l' : List Rat), (ls ++ [l])[k]? = some l' → FkL l' (a + ((1 + c : Int) : Rat) * (k : Rat)) := fun l hf k l' h => by
      rcases Nat.lt_trichotomy k i with hlt | heq | hgt
      · rw [List.getElem?_append_left (by omega)] at h
        exact hk k l' h
      · rw [List.getElem?_append_right (by omega), heq, hl, Nat.sub_self] at h
        have : l = l' := by simpa using h
        rw [← this, heq, ← ht]
        exact hf
      · have := (List.getElem?_eq_some_iff.mp h).1
        rw [List.length_append, List.length_singleton] at this
        omega
    by_cases d1 : y.fmod 3 = 0
    · have d3 : divOk y 3 = true := divOk_of (b := 2) (by decide) (by decide) (by decide) (by decide)
      have j0 := fm_lo (y.fdiv 3) (m := 12) (by decide)
      have j1 := fm_hi (y.fdiv 3) (m := 12) (by decide)
      obtain ⟨n, hn, en⟩ : ∃ n : Int, n ∈ nums2 ∧ atI [PyData.int 1, .int 2, .int 3, .int 4, .int 5, .int 7, .int (-2), .int (-3), .int (-5), .int (-6), .int (-7), .int (-10)] ((y.fdiv 3).fmod 12) = some (.int n) := by
        obtain ⟨j, hj⟩ : ∃ j : Nat, (y.fdiv 3).fmod 12 = j := ⟨((y.fdiv 3).fmod 12).toNat, by omega⟩
        rw [hj]
        have hj12 : j < nums2.length := by show j < 12; omega
        refine ⟨nums2[j], List.getElem_mem _, ?_⟩
        show atI (nums2.map PyData.int) (j : Int) = _
        exact atI_nat (by rw [List.getElem?_map, List.getElem?_eq_getElem hj12]; rfl)
      have sn := szI n (by have := nums2_le n hn; omega)
      have s2 := h__law_sum (t * t) (n : Rat) st2 sn
      rw [frR_int] at s2
      refine ⟨_, rfl, stepQ_next [some (.int x, false), some (.int many, false), some (.list (xs.map .int), false), some (.int (v : Int), false), some (.list ((ls ++ [[t * t + (n : Rat), 2 * t, 1]]).map frsT), true), some (.int (i : Int), false), some (frR t, false), some (.int n, false), some (frR (t * t + (n : Rat)), false), none, o10] ?_
        ⟨ls ++ [[t * t + (n : Rat), 2 * t, 1]], _, _, _, _, _, by simp [hl], grow _ (.inr (.inl ⟨n, hn, rfl⟩)), rfl⟩⟩
      simp -implicitDefEqProofs [ix0, ix1, ix3, oI_mod, oI_add, oI_sub, ← hw, ← hc, oI_mul m1, oI_mul m2, ef, cI_eq, d1, oI_div d3, en, p2, s2, q2, hl1, hzz2, hzz3, hzz12, storeV, lf, lfA, frsT, hl, fr1]
    · by_cases d2 : y.fmod 9 = 1
      · have d9 : divOk y 9 = true := divOk_of (b := 4) (by decide) (by decide) (by decide) (by decide)
        have j0 := fm_lo (y.fdiv 9) (m := 6) (by decide)
        have j1 := fm_hi (y.fdiv 9) (m := 6) (by decide)
        obtain ⟨n, hn⟩ : ∃ n, n = 2 + (y.fdiv 9).fmod 6 := ⟨_, rfl⟩
        have sn := szI n (by omega)
        have s3 := h__law_sum (t * t * t) (n : Rat) st3 sn
        rw [frR_int] at s3
        refine ⟨_, rfl, stepQ_next [some (.int x, false), some (.int many, false), some (.list (xs.map .int), false), some (.int (v : Int), false), some (.list ((ls ++ [[t * t * t + (n : Rat), 3 * (t * t), 3 * t, 1]]).map frsT), true), some (.int (i : Int), false), some (frR t, false), o7, some (frR (t * t * t + (n : Rat)), false), none, some (frR (t * t), false)] ?_
          ⟨ls ++ [[t * t * t + (n : Rat), 3 * (t * t), 3 * t, 1]], _, _, _, _, _, by simp [hl], grow _ (.inr (.inr ⟨n, by omega, by omega, rfl⟩)), rfl⟩⟩
        simp -implicitDefEqProofs [ix0, ix1, ix3, oI_mod, oI_add, oI_sub, ← hw, ← hc, oI_mul m1, oI_mul m2, ef, cI_eq, d1, d2, oI_div d9, ← hn, p2, p3, s3, q3, q33, hl1, hzz2, hzz4, storeV, lf, lfA, frsT, hl, fr1]
      · refine ⟨_, rfl, stepQ_next [some (.int x, false), some (.int many, false), some (.list (xs.map .int), false), some (.int (v : Int), false), some (.list ((ls ++ [[t, 1]]).map frsT), true), some (.int (i : Int), false), some (frR t, false), o7, o8, none, o10] ?_
          ⟨ls ++ [[t, 1]], _, _, _, _, _, by simp [hl], grow _ (.inl rfl), rfl⟩⟩
        simp -implicitDefEqProofs [ix0, ix1, ix3, oI_mod, oI_add, oI_sub, ← hw, ← hc, oI_mul m1, oI_mul m2, ef, cI_eq, d1, d2, hl1, hzz2, storeV, lf, lfA, frsT, hl, fr1]
  · rintro se ⟨ls, o5, o6, o7, o8, o10, hl, hk, rfl⟩
    refine ⟨ls, o5, o6, o7, o8, o10, ?_, hk, rfl⟩
    rw [hl]; simp
def Φ__law_led (Fn : List PyData → R PyData) : Prop := ∀ (p : Al.Poly) (n k : Nat), Sz n k p → n ≤ 1000 → k ≤ 15960000 → Fn [rowD p] = .ok (rowD (Al.unit p))
theorem spec__law_led (T : Txt D) : Spec D 37 "_law_led" 1 Φ__law_led := by
  obtain ⟨F__law_scale, S__law_scale, h__law_scale⟩ := spec__law_scale T
  obtain ⟨F__law_fraction, S__law_fraction, h__law_fraction⟩ := spec__law_fraction T
  refine Br.spec_named (fn_of' T.d__law_led sc__law_led (pub_cons (pus_if [] (purt_cmp (pur_blt blt_len T.n_len (pura_cons (pur_var 0) pura_nil)) pur_int) (pub_one (pus_ret [] (pur_var 0))) pub_nil)
    (pub_one (pus_ret [] (pur_call S__law_scale (pura_cons (pur_var 0) (pura_cons (pur_call S__law_fraction (pura_cons (pur_ix (pur_ix (pur_var 0) (pur_neg pur_int)) pur_int) (pura_cons (pur_ix (pur_ix (pur_var 0) (pur_neg pur_int)) pur_int) pura_nil))) pura_nil))))))) (fun Fn hFn => ?_)
  intro p n k hp hn hk
  subst hFn
  refine runD_ret ?_
  have hlen : lenF [rowD p] = .ok (.int (p.len : Int)) := by
    unfold rowD frsT
    simp
    rfl
  by_cases h0 : p = 0
  · have hl : p.len = 0 := by rw [h0]; rfl
    have hu : Al.unit p = p := by rw [h0, Al.unit_zero]
    rw [hu]
    simp -implicitDefEqProofs [startE, hlen, hl, cI_eq, -lenF, -ixV]
  · have hl : ¬ (p.len = 0) := fun z => h0 (Al.Poly.len_eq_zero.mp z)
    have fp := hp.fit hk
    have hld := Al.Poly.ld_ne h0
    have sp := fp.sr (p.len - 1)
    have hix : ixV (rowD p) (.int (-1)) = .ok (frR p.ld) := by
      have hv : p.val ≠ [] := fun z => h0 (Al.Poly.len_eq_zero.mp (by show p.val.length = 0; rw [z]; rfl))
      have := atI_lastF hv
      unfold rowD frsT
      simp [this]
      rfl
    have ef := h__law_fraction (p.ld.den : Int) p.ld.num (num_ne hld) (pow_lim sp.1 (by decide))
    have e1 : ((p.ld.den : Int) : Rat) / ((p.ld.num : Int) : Rat) = 1 / p.ld := by
      have h1 := Al.rat_num p.ld
      have h2 := intCast_ne (num_ne hld)
      have h3 := Al.natCast_ne p.ld.den_pos
      rw [Rat.intCast_natCast]
      grind
    rw [e1] at ef
    have s1 : Sr (1 / p.ld) := by
      have := (hp.unit.fit hk).sr
      have hh := num_le' (a := (p.ld.den : Int)) (b := p.ld.num) (num_ne hld)
      rw [e1, Int.natAbs_natCast] at hh
      exact ⟨Nat.lt_of_le_of_lt hh.1 sp.2, Nat.lt_of_le_of_lt hh.2 sp.1⟩
    have es : F__law_scale [rowD p, frR (1 / p.ld)] = _ := h__law_scale p.val (1 / p.ld) (by show p.len ≤ _; have := hp.1; omega) fp.srl s1
    rw [Al.ofL_val] at es
    simp -implicitDefEqProofs [startE, hlen, hl, cI_eq, hix, ix_frR0, ix_frR1, ef, es, -lenF, -ixV]
    rfl
def Φ__law_shared (Fn : List PyData → R PyData) : Prop := ∀ (p q : Al.Poly) (n α : Nat), n ≤ 31 → Sz (n + 1) α p → Sz (n + 1) α q → (α + 9) * (2 * (n + 1) * (n + 9)) ≤ 15920000 → Fn [rowD p, rowD q] = .ok (rowD (Al.gc p q))
def StU (p q : Al.Poly) : SEn := [some (rowD p, false), some (rowD q, false)]
theorem spec__law_shared (T : Txt D) : Spec D 39 "_law_shared" 2 Φ__law_shared := by
  obtain ⟨F__law_led, S__law_led, h__law_led⟩ := spec__law_led T
  obtain ⟨F__law_divide, S__law_divide, h__law_divide⟩ := spec__law_divide T
  refine Br.spec_named (fn_of' T.d__law_shared sc__law_shared (pub_cons (pus_while [] (purt_cmp (pur_blt blt_len T.n_len (pura_cons (pur_var 1) pura_nil)) pur_int) (pub_one (pus_par 0 1 [] (pur_var 1) (pur_call S__law_led (pura_cons (pur_ix (pur_call S__law_divide (pura_cons (pur_var 0) (pura_cons (pur_var 1) pura_nil))) pur_int) pura_nil)))))
    (pub_one (pus_ret [] (pur_call S__law_led (pura_cons (pur_var 0) pura_nil)))))) (fun Fn hFn => ?_)
  intro p q n α hn hp hq hcap
  subst hFn
  refine runD_ret ?_
  have hlen : ∀ r : Al.Poly, lenF [rowD r] = .ok (.int (r.len : Int)) := fun r => by
    unfold rowD frsT
    simp
    rfl
  obtain ⟨κ, hκ⟩ : ∃ κ, κ = (α + 8) * (2 * (n + 1)) := ⟨_, rfl⟩
  have hακ : α ≤ κ := by
    rw [hκ]
    exact Nat.le_trans (Nat.le_add_right α 8) (Nat.le_mul_of_pos_right _ (by omega))
  have hκc : κ * (n + 9) + 2 * (n + 1) * (n + 9) ≤ 15920000 := by
    have : (α + 9) * (2 * (n + 1) * (n + 9)) = κ * (n + 9) + 2 * (n + 1) * (n + 9) := by
      rw [hκ, show α + 9 = (α + 8) + 1 from rfl, Nat.add_mul, Nat.one_mul, Nat.mul_assoc (α + 8)]
    omega
  have hκ9 : κ * (n + 9) = κ * (n + 1) + 8 * κ := by
    rw [show n + 9 = (n + 1) + 8 from rfl, Nat.mul_add]; omega
  have h18 : 18 ≤ 2 * (n + 1) * (n + 9) := Nat.mul_le_mul (show 2 ≤ 2 * (n + 1) by omega) (show 9 ≤ n + 9 by omega)
  have h2n : 4 * (n + 1) ≤ 2 * (n + 1) * (n + 9) := by
    have : 2 * (n + 1) * 2 ≤ 2 * (n + 1) * (n + 9) := Nat.mul_le_mul_left _ (by omega)
    omega
  have hcost : (κ + 2) * (n + 1) = κ * (n + 1) + 2 * (n + 1) := Nat.add_mul _ _ _
  -- one step
  have step : ∀ one other : Al.Poly, Sz (n + 1) κ one → Sz (n + 1) κ other → other ≠ 0 → F__law_divide [rowD one, rowD other] = .ok (.tuple [rowD (Al.dv one other), rowD (Al.md one other)]) ∧ F__law_led [rowD (Al.md one other)] = .ok (rowD (Al.unit (Al.md one other))) := fun one other so st h0 => by
    have hol := Al.Poly.len_pos.mpr h0
    have hsl := so.1
    have e1 := h__law_divide.szl so st h0 (by omega) (by omega) (s := n + 1) (by omega) (by omega)
    have e2 := h__law_led _ _ _ (so.divsl st h0 (s := n + 1) (by omega)).2 (by omega) (by omega)
    exact ⟨e1, e2⟩
  simp -implicitDefEqProofs [startE, -ixV, -lenF]
  generalize hF : whileD _ _ _ = r
  have := whileD_rule hF (fun se => ∃ one other : Al.Poly, Sz (n + 1) κ one ∧ Sz (n + 1) κ other ∧ ((one = p ∧ other = q) ∨ (q ≠ 0 ∧ Al.Eu (Al.dv p (Al.gc p q)) (Al.dv q (Al.gc p q)) (Al.gc p q) one other)) ∧ se = StU one other)
    (fun x => ∃ one : Al.Poly, Sz (n + 1) κ one ∧ Al.unit one = Al.gc p q ∧ x = .next (StU one 0))
    (fun se => match se with | [_, some (.tuple xs, _)] => xs.length | _ => 0)
    ⟨p, q, hp.up (Nat.le_refl _) hακ, hq.up (Nat.le_refl _) hακ, .inl ⟨rfl, rfl⟩, rfl⟩ ?_
  · obtain ⟨one, so, hu, rfl⟩ := this
    have e := h__law_led _ _ _ so (by omega) (by omega)
    rw [hu] at e
    simp -implicitDefEqProofs [StU, e]
  · rintro se ⟨one, other, so, st, hor, rfl⟩
    by_cases h0 : other = 0
    · subst h0
      have hz : ¬ ((0 : Int) < ((0 : Al.Poly).len : Int)) := by
        rw [Al.Poly.len_zero]; omega
      refine ⟨false, by simp -implicitDefEqProofs [StU, hlen, cI_gt, hz, -lenF]; exact Al.Poly.len_zero, fun _ => ⟨one, so, ?_, rfl⟩, (fun h => by cases h)⟩
      rcases hor with ⟨h1, h2⟩ | ⟨hq0, h⟩
      · rw [h1, ← h2]
        by_cases hp0 : p = 0
        · rw [hp0, Al.unit_zero, Al.gc_zero]
        · exact (Al.gc_right_zero hp0).symm
      · exact h.out (Al.gc_led (.inr hq0))
    · have hl := Al.Poly.len_pos.mpr h0
      have hcond : (0 : Int) < (other.len : Int) := by omega
      refine ⟨true, by simp -implicitDefEqProofs [StU, hlen, cI_gt, hcond, -lenF]; exact hl, (fun h => by cases h), fun _ => ?_⟩
      obtain ⟨e1, e2⟩ := step one other so st h0
      have hq0 : q ≠ 0 := by
        rcases hor with ⟨_, h2⟩ | ⟨hq0, _⟩
        · rw [← h2]; exact h0
        · exact hq0
      have hG := Al.gc_led (p := p) (q := q) (.inr hq0)
      have sh := shb_of hp hq hq0 hn
      have hnext : Al.Eu (Al.dv p (Al.gc p q)) (Al.dv q (Al.gc p q)) (Al.gc p q) other (Al.unit (Al.md one other)) := by
        rcases hor with ⟨h1, h2⟩ | ⟨_, h⟩
        · rw [h1, h2]
          have h3 := Al.Eu.start (G := Al.gc p q) sh.some sh.cop
          have h4 := (Al.md_mul (x := Al.dv p (Al.gc p q)) sh.some hG.ne).2
          rw [← sh.left, ← sh.right] at h4
          rw [← sh.right] at h3
          rw [h4, Al.unit_mul hG]
          exact h3
        · exact (h.next hG h0).1
      have su : Sz (n + 1) κ (Al.unit (Al.md one other)) := by
        by_cases hz : Al.unit (Al.md one other) = 0
        · rw [hz]
          exact Sz.zero (by rw [hκ]; exact Nat.mul_pos (by omega) (by omega))
        · rw [hκ]
          exact (eu_sz hp hq hq0 hn hnext hz).2.2
      refine stepQ_next (StU other (Al.unit (Al.md one other))) ?_ ⟨⟨other, _, st, su, .inr ⟨hq0, hnext⟩, rfl⟩, ?_⟩
      · simp -implicitDefEqProofs [StU, e1, e2, at1]
      · show ((Al.unit (Al.md one other)).val.map frR).length < (other.val.map frR).length
        rw [List.length_map, List.length_map]
        show (Al.unit (Al.md one other)).len < other.len
        have h1 := Al.md_len (p := one) h0
        unfold Al.unit
        have h2 := Al.len_mul_le (Al.C (1 / (Al.md one other).ld)) (Al.md one other)
        have h3 := Al.Poly.len_C_le (1 / (Al.md one other).ld)
        omega
def Φ__law_is_quotient (Fn : List PyData → R PyData) : Prop := ∀ (p q : Al.Poly) (n α : Nat), n ≤ 31 → Sz (n + 1) α p → Sz (n + 1) α q → (α + 9) * (2 * (n + 1) * (n + 9)) ≤ 15920000 → Al.Led q → Al.gc p q = 1 → Fn [.tuple [rowD p, rowD q]] = .ok (.bool true)
def Φ__law_power (Fn : List PyData → R PyData) : Prop := ∀ (f : Al.Poly) (d j k : Nat), Sz (d + 1) j f → d ≤ 100 → j ≤ 10000 → k ≤ 100 → d * k ≤ 500 → Sz (d * k + 1) (1 + k * (j + 10)) (f ^ k) ∧ Fn [rowD f, .int (k : Int)] = .ok (rowD (f ^ k))
theorem spec__law_power (T : Txt D) : Spec D 38 "_law_power" 2 Φ__law_power := by
  obtain ⟨F__law_times, S__law_times, h__law_times⟩ := spec__law_times T
  refine Br.spec_named (fn_of' T.d__law_power sc__law_power (pub_cons (pus_set 2 [] (pur_tup (pura_cons (pur_tup (pura_cons pur_int (pura_cons pur_int pura_nil))) pura_nil)))
    (pub_cons (pus_for [] (puri_range1 T.n_range (pura_cons (pur_var 1) pura_nil)) (pug_name 3) (pub_one (pus_set 2 [] (pur_call S__law_times (pura_cons (pur_var 2) (pura_cons (pur_var 0) pura_nil))))))
    (pub_one (pus_ret [] (pur_var 2)))))) (fun Fn hFn => ?_)
  intro f d j k hf hd hj hk hdk
  have pw : ∀ i, i ≤ k → Sz (d * i + 1) (1 + i * (j + 10)) (f ^ i) := by
    intro i
    induction i with
    | zero =>
      intro _
      rw [Nat.mul_zero, Nat.zero_mul]
      exact Sz.one (by decide) (by decide)
    | succ i ih =>
      intro hi
      have h1 : d * i ≤ d * k := Nat.mul_le_mul_left _ (by omega)
      have := (ih (by omega)).mul1 hf (by omega)
      rw [show f ^ (i + 1) = f ^ i * f from rfl]
      refine this.up ?_ ?_
      · rw [Nat.mul_succ]; omega
      · rw [Nat.succ_mul]; omega
  refine ⟨pw k (Nat.le_refl _), ?_⟩
  subst hFn
  refine runD_ret ?_
  have rr := range1_run k (by omega)
  have hz1 : szOk 1 = true := szOk_of (by decide)
  have hz2 : szOk 2 = true := szOk_of (by decide)
  simp -implicitDefEqProofs [startE, rr, hz1, hz2, storeV, lf, lfA]
  generalize hF : forD _ _ _ _ = r
  have := forD_rule hF (fun i se => ∃ o, se = [some (rowD f, false), some (.int (k : Int), false), some (rowD (f ^ i), false), o])
    (fun r => ∃ o, r = .next [some (rowD f, false), some (.int (k : Int), false), some (rowD (f ^ k), false), o])
    ⟨none, by rw [show f ^ 0 = 1 from rfl, rowD_one]⟩ ?_ ?_
  · obtain ⟨o, rfl⟩ := this
    simp -implicitDefEqProofs []
  · rintro i d' se hi ⟨o, rfl⟩
    obtain ⟨hil, rfl⟩ := map_get hi
    have hc : i * (j + 10) ≤ 100 * 10010 := Nat.mul_le_mul (by omega) (by omega)
    have h1 : d * i ≤ d * k := Nat.mul_le_mul_left _ (by omega)
    have e := h__law_times.sz (pw i (by omega)) hf (by omega) (by omega) (by omega)
    refine ⟨_, rfl, stepQ_next [some (rowD f, false), some (.int (k : Int), false), some (rowD (f ^ (i + 1)), false), some (.int (i : Int), false)] ?_ ⟨_, rfl⟩⟩
    rw [show f ^ (i + 1) = f ^ i * f from rfl]
    simp -implicitDefEqProofs [e, storeV]
  · rintro se ⟨o, rfl⟩
    exact ⟨o, by simp⟩
def Φ__law_minus (Fn : List PyData → R PyData) : Prop := ∀ (p q : Al.Poly) (n k m j : Nat), Sz n k p → Sz m j q → n ≤ 1000 → m ≤ 1000 → k ≤ 15960000 → j ≤ 15960000 → Fn [rowD p, rowD q] = .ok (rowD (p - q))
def Φ_parts_by_power (Fn : List PyData → R PyData) : Prop := ∀ (F : Al.Poly) (n α : Nat), n ≤ 31 → Sz (n + 1) α F → F ≠ 0 → 0 < α → α ≤ 8000 → ∃ L, (Al.PF F L ∧ L.length ≤ 100) ∧ Fn [rowD F] = .ok (.list (L.map prtD))
theorem spec_parts_by_power (T : Txt D) : Spec D 37 "parts_by_power" 1 Φ_parts_by_power := by
  obtain ⟨F_shared_row, S_shared_row, h_shared_row⟩ := spec_shared_row T
  obtain ⟨F_rate, S_rate, h_rate⟩ := spec_rate T
  obtain ⟨F_divided, S_divided, h_divided⟩ := spec_divided T
  obtain ⟨F_led, S_led, h_led⟩ := spec_led T
  refine Br.spec_named (fn_of' T.d_parts_by_power sc_parts_by_power (pub_cons (pus_setL 1 [] (purl_lst pura_nil))
    (pub_cons (pus_set 2 [] (pur_call S_shared_row (pura_cons (pur_var 0) (pura_cons (pur_call S_rate (pura_cons (pur_var 0) pura_nil)) pura_nil))))
    (pub_cons (pus_set 3 [] (pur_ix (pur_call S_divided (pura_cons (pur_call S_led (pura_cons (pur_var 0) pura_nil)) (pura_cons (pur_var 2) pura_nil))) pur_int))
    (pub_cons (pus_set 4 [] pur_int)
    (pub_cons (pus_while [1] (purt_cmp (pur_blt blt_len T.n_len (pura_cons (pur_var 3) pura_nil)) pur_int) (pub_cons (pus_set 5 [] (pur_call S_shared_row (pura_cons (pur_var 3) (pura_cons (pur_var 2) pura_nil))))
    (pub_cons (pus_set 6 [] (pur_ix (pur_call S_divided (pura_cons (pur_var 3) (pura_cons (pur_var 5) pura_nil))) pur_int))
    (pub_cons (pus_if [1] (purt_cmp (pur_blt blt_len T.n_len (pura_cons (pur_var 6) pura_nil)) pur_int) (pub_one (pus_append 1 [] (pur_tup (pura_cons (pur_var 6) (pura_cons (pur_var 4) pura_nil))))) pub_nil)
    (pub_cons (pus_set 2 [] (pur_ix (pur_call S_divided (pura_cons (pur_var 2) (pura_cons (pur_var 5) pura_nil))) pur_int))
    (pub_cons (pus_set 3 [] (pur_var 5))
    (pub_one (pus_aug 4 [1] pur_int))))))))
    (pub_one (pus_ret [1] (pur_var 1))))))))) (fun Fn hFn => ?_)
  intro F n α hn hF h0 hα0 hα
  subst hFn
  refine runD_ret_ex1 (k := fun L : List (Al.Poly × Nat) => .list (L.map prtD)) ?_
  have hdr := hF.dr (by omega)
  have hFl := hF.1
  have er := h_rate F (by omega) (hF.fit (by omega))
  have cap : ∀ x : Nat, x ≤ 8500 → 2 * ((n + 1 + (n + 1)) * (x + 11)) ≤ 1300000 := fun x hx => by
    have : (n + 1 + (n + 1)) * (x + 11) ≤ 64 * 8511 := Nat.mul_le_mul (by omega) (by omega)
    omega
  have es := h_shared_row F (Al.dr F) (n + 1) (n + 1) (α + 10) (hF.up (Nat.le_refl _) (by omega)) hdr (by omega) (by omega) (by omega) (cap _ (by omega))
  have el : F_led [rowD F] = .ok (rowD (Al.unit F)) := h_led F (by omega) (hF.fit (by omega))
  have pi0 := Al.PI.start h0
  have hG := pi0.ledG
  have sz : ∀ {d : Al.Poly}, Al.Dvd d F → Al.Led d → Sz (n + 1) (α + 14 * n + 9) d := fun h l => dvd_sz hF h0 h l hn
  have cost : ∀ x : Nat, x ≤ 8500 → x + (x + 1) * (n + 1 + 1) ≤ 32000000 := fun x hx => by
    have : (x + 1) * (n + 1 + 1) ≤ 8501 * 33 := Nat.mul_le_mul (by omega) (by omega)
    omega
  have ed := h_divided.sz (hF.unit.up (Nat.le_refl _) (show α ≤ α + 14 * n + 9 by omega)) (sz pi0.dvds.2 hG) hG.ne (by omega) (by omega) (cost _ (by omega)) (by omega)
  have hz0 : szOk 0 = true := szOk_of (by decide)
  have hz2 : szOk 2 = true := szOk_of (by decide)
  have i0 : ∀ a b : PyData, ixV (.tuple [a, b]) (.int 0) = .ok a := fun _ _ => rfl
  simp -implicitDefEqProofs [startE, storeV, storeL, lf, lfA, hz0, er, es, el, ed, i0, -ixV, -lenF]
  let SS := fun (k : Nat) (P G : Al.Poly) (L : List (Al.Poly × Nat)) (o5 o6 : Option (PyData × Bool)) => ([some (rowD F, false), some (.list (L.map prtD), true), some (rowD G, false), some (rowD P, false), some (.int (k : Int), false), o5, o6] : SEn)
  generalize hW : whileD _ _ _ = r
  have := whileD_rule hW (fun se => ∃ (k : Nat) (P G : Al.Poly) (L : List (Al.Poly × Nat)) (o5 o6 : Option (PyData × Bool)), Al.PI F k P G L ∧ L.length + P.len + G.len ≤ 100 ∧ se = SS k P G L o5 o6)
    (fun x => ∃ (k : Nat) (P G : Al.Poly) (L : List (Al.Poly × Nat)) (o5 o6 : Option (PyData × Bool)), Al.PI F k P G L ∧ P.len ≤ 1 ∧ L.length ≤ 100 ∧ x = .next (SS k P G L o5 o6))
    (fun se => match se with | [_, _, some (.tuple gs, _), some (.tuple ps, _), _, _, _] => ps.length + gs.length | _ => 0)
    ⟨1, _, _, [], none, none, pi0, by
      have h1 := pi0.dvds.1.len h0
      have h2 := pi0.dvds.2.len h0
      rw [List.length_nil]
      omega, rfl⟩ ?_
  · obtain ⟨k, P, G, L, o5, o6, x, hl, hll, rfl⟩ := this
    refine ⟨L, ⟨x.out hl, hll⟩, ?_⟩
    simp -implicitDefEqProofs [SS]
  · rintro se ⟨k, P, G, L, o5, o6, x, hsz, rfl⟩
    by_cases hl : 1 < P.len
    · have hc : (1 : Int) < (P.len : Int) := by omega
      refine ⟨true, by simp -implicitDefEqProofs [SS, hlenD, cI_gt, -lenF]; omega, (fun h => by cases h), fun _ => ?_⟩
      obtain ⟨nx, hdec⟩ := x.next hl
      obtain ⟨dP, dG⟩ := x.dvds
      have sP := sz dP x.ledP
      have sG := sz dG x.ledG
      have sB := sz nx.dvds.1 nx.ledP
      have hB := nx.ledP
      have e1 := h_shared_row P G (n + 1) (n + 1) (α + 14 * n + 9) sP sG (by omega) (by omega) (by omega) (cap _ (by omega))
      have e2 := h_divided.sz sP sB hB.ne (by omega) (by omega) (cost _ (by omega)) (by omega)
      have e3 := h_divided.sz sG sB hB.ne (by omega) (by omega) (cost _ (by omega)) (by omega)
      generalize hBe : Al.gc P G = B at *
      generalize hAe : Al.dv P B = A at *
      generalize hGe : Al.dv G B = G' at *
      have hll : szOk (L.length + 1) = true := szOk_of (by omega)
      have hPp := Al.Poly.len_pos.mpr x.ledP.ne
      by_cases hA : 1 < A.len
      · rw [if_pos hA] at nx
        have hAc : (1 : Int) < (A.len : Int) := by omega
        refine stepQ_next (SS (k + 1) B G' (L ++ [(A, k)]) (some (rowD B, false)) (some (rowD A, false))) ?_ ⟨⟨k + 1, B, G', _, _, _, nx, by rw [List.length_append, List.length_singleton]; omega, rfl⟩, ?_⟩
        · simp -implicitDefEqProofs [SS, storeV, e1, e2, e3, i0, hlenD, cI_gt, hAc, hll, hz2, lf, lfA, prtD, -ixV, -lenF]
        · show (B.val.map frR).length + (G'.val.map frR).length < (P.val.map frR).length + (G.val.map frR).length
          rw [List.length_map, List.length_map, List.length_map, List.length_map]
          exact hdec
      · rw [if_neg hA] at nx
        have hAc : ¬ (1 : Int) < (A.len : Int) := by omega
        refine stepQ_next (SS (k + 1) B G' L (some (rowD B, false)) (some (rowD A, false))) ?_ ⟨⟨k + 1, B, G', _, _, _, nx, by omega, rfl⟩, ?_⟩
        · simp -implicitDefEqProofs [SS, storeV, e1, e2, e3, i0, hlenD, cI_gt, hAc, -ixV, -lenF]
        · show (B.val.map frR).length + (G'.val.map frR).length < (P.val.map frR).length + (G.val.map frR).length
          rw [List.length_map, List.length_map, List.length_map, List.length_map]
          exact hdec
    · refine ⟨false, by simp -implicitDefEqProofs [SS, hlenD, cI_gt, -lenF]; omega, fun _ => ⟨k, P, G, L, o5, o6, x, by omega, by omega, rfl⟩, (fun h => by cases h)⟩
def Φ_cut (Fn : List PyData → R PyData) : Prop := ∀ (p q : Al.Poly) (n m α : Nat), n ≤ 31 → m ≤ 60 → Sz (n + 1) α p → Sz (m + 1) α q → Al.Led p → 0 < α → α ≤ 6000 → Fn [rowD p, rowD q] = .ok (.list ((cutL p q).map rowD))
theorem spec_cut (T : Txt D) : Spec D 37 "cut" 2 Φ_cut := by
  obtain ⟨F_shared_row, S_shared_row, h_shared_row⟩ := spec_shared_row T
  obtain ⟨F_divided, S_divided, h_divided⟩ := spec_divided T
  refine Br.spec_named (fn_of' T.d_cut sc_cut (pub_cons (pus_set 2 [] (pur_call S_shared_row (pura_cons (pur_var 0) (pura_cons (pur_var 1) pura_nil))))
    (pub_cons (pus_set 3 [] (pur_ix (pur_call S_divided (pura_cons (pur_var 0) (pura_cons (pur_var 2) pura_nil))) pur_int))
    (pub_one (pus_ret [] (PurL.pur (purl_comp (own := [("half", 4)]) (puri_seq (pur_lst (pura_cons (pur_var 2) (pura_cons (pur_var 3) pura_nil)))) (puge_name 4) (purts_one (purt_cmp (pur_blt blt_len T.n_len (pura_cons (pur_var 4) pura_nil)) pur_int)) (pur_var 4)))))))) (fun Fn hFn => ?_)
  intro p q n m α hn hm hp hq hled h0 hα
  subst hFn
  refine runD_ret ?_
  have hp0 := hled.ne
  have hG := Al.gc_led (p := p) (q := q) (.inl hp0)
  have cap : 2 * ((n + 1 + (m + 1)) * (α + 11)) ≤ 1300000 := by
    have : (n + 1 + (m + 1)) * (α + 11) ≤ 93 * 6011 := Nat.mul_le_mul (by omega) (by omega)
    omega
  have es := h_shared_row p q (n + 1) (m + 1) α hp hq (by omega) h0 (by omega) cap
  have sG := dvd_sz hp hp0 (Al.gc_left p q) hG hn
  have cost : α + (α + 14 * n + 9 + 1) * (n + 1 + 1) ≤ 32000000 := by
    have : (α + 14 * n + 9 + 1) * (n + 1 + 1) ≤ 6500 * 33 := Nat.mul_le_mul (by omega) (by omega)
    omega
  have ed := h_divided.sz hp sG hG.ne (by omega) (by omega) cost (by omega)
  have hz2 : szOk 2 = true := szOk_of (by decide)
  have hz1 : szOk 1 = true := szOk_of (by decide)
  have hz0 : szOk 0 = true := szOk_of (by decide)
  have i0 : ∀ a b : PyData, ixV (.tuple [a, b]) (.int 0) = .ok a := fun _ _ => rfl
  unfold cutL
  generalize Al.gc p q = B at *
  generalize Al.dv p B = A at *
  simp -implicitDefEqProofs [startE, storeV, es, ed, i0, hz2, lcD, wipeE, hlenD, cI_gt, -ixV, -lenF]
  have z1 : ((1 : Int) < (B.len : Int)) ↔ 1 < B.len := by omega
  have z2 : ((1 : Int) < (A.len : Int)) ↔ 1 < A.len := by omega
  by_cases c1 : 1 < B.len <;> by_cases c2 : 1 < A.len <;> simp -implicitDefEqProofs [z1, z2, c1, c2, hz0, hz1, hz2]
def Φ_refuse_no_rows (Fn : List PyData → R PyData) : Prop := (∀ ps : List Al.Poly, (∀ p ∈ ps, p.len ≤ 1000) → Fn [.list (ps.map rowD)] = .ok .none) ∧ ∀ ds : List PyData, (∀ d ∈ ds, RowOr d ∨ NoRow d) → (∃ d ∈ ds, NoRow d) → Fn [.list ds] = .ex "NoRow"
theorem spec_refuse_no_rows (T : Txt D) : Spec D 36 "refuse_no_rows" 1 Φ_refuse_no_rows := by
  obtain ⟨F_refuse_no_row, S_refuse_no_row, h_refuse_no_row⟩ := spec_refuse_no_row T
  refine Br.spec_named (fn_of' T.d_refuse_no_rows sc_refuse_no_rows (pub_one (pus_for [] (puri_seq (pur_var 0)) (pug_name 1) (pub_one (pus_expr [] (pur_call S_refuse_no_row (pura_cons (pur_var 1) pura_nil))))))) (fun Fn hFn => ?_)
  have run : ∀ ds : List PyData, (∀ d ∈ ds, RowOr d ∨ NoRow d) → (Fn [.list ds] = .ok .none ∧ ∀ d ∈ ds, RowOr d) ∨ ((∃ d ∈ ds, NoRow d) ∧ Fn [.list ds] = .ex "NoRow") := by
    intro ds hds
    rw [hFn]
    unfold runD
    simp -implicitDefEqProofs [startE]
    generalize hF : forD _ _ _ _ = r
    have := forD_rule hF (fun i se => (∀ j d, j < i → ds[j]? = some d → RowOr d) ∧ ∃ o, se = [some (.list ds, false), o])
      (fun r => ((∀ d ∈ ds, RowOr d) ∧ ∃ o, r = .next [some (.list ds, false), o]) ∨ ((∃ d ∈ ds, NoRow d) ∧ ∃ se, r = .ex "NoRow" se))
      ⟨fun j d hj => by omega, none, rfl⟩ ?_ ?_
    · rcases this with ⟨ha, o, rfl⟩ | ⟨hx, se, rfl⟩
      · left
        exact ⟨rfl, ha⟩
      · right
        exact ⟨hx, rfl⟩
    · rintro i d se hi ⟨hb, o, rfl⟩
      rcases hds d (List.mem_of_getElem? hi) with ⟨p, hp, rfl⟩ | hn
      · have e := h_refuse_no_row.1 p hp
        refine ⟨_, rfl, stepQ_next [some (.list ds, false), some (rowD p, false)] ?_ ⟨fun j d' hj hd => ?_, _, rfl⟩⟩
        · simp -implicitDefEqProofs [e]
        · rcases Nat.lt_or_ge j i with h | h
          · exact hb j d' h hd
          · have : j = i := by omega
            rw [this, hi] at hd
            cases hd
            exact ⟨p, hp, rfl⟩
      · have e := h_refuse_no_row.2 d hn.1 hn.2
        refine ⟨_, rfl, ?_⟩
        simp -implicitDefEqProofs [e, stepQ]
        exact ⟨d, List.mem_of_getElem? hi, hn⟩
    · rintro se ⟨hb, o, rfl⟩
      left
      refine ⟨fun d hd => ?_, o, rfl⟩
      obtain ⟨j, hj⟩ := List.mem_iff_getElem?.mp hd
      exact hb j d (List.getElem?_eq_some_iff.mp hj).1 hj
  refine ⟨fun ps hps => ?_, fun ds hds ⟨d, hd, hn⟩ => ?_⟩
  · have hr : ∀ d ∈ ps.map rowD, RowOr d := fun d hd => by
      obtain ⟨p, hp, rfl⟩ := List.mem_map.mp hd
      exact ⟨p, hps p hp, rfl⟩
    rcases run (ps.map rowD) (fun d hd => .inl (hr d hd)) with h | ⟨⟨d, hd, hn⟩, _⟩
    · exact h.1
    · obtain ⟨p, hp, e⟩ := hr d hd
      exact absurd e (hn.2 p)
  · rcases run ds hds with h | h
    · obtain ⟨p, hp, e⟩ := h.2 d hd
      exact absurd e (hn.2 p)
    · exact h.2
def Φ_parts_of (Fn : List PyData → R PyData) : Prop := ∀ (F : Al.Poly) (n α : Nat) (told : List Al.Poly), n ≤ 31 → Sz (n + 1) α F → F ≠ 0 → 0 < α → α ≤ 5000 → (∀ t ∈ told, Sz 61 (α + 14 * n + 9) t) → told.length ≤ 100 →
  ∃ L, Al.PF F L ∧ Fn [rowD F, .list (told.map rowD)] = .ok (.list ((told.foldl cutAll L).map prtD))
theorem spec_parts_of (T : Txt D) : Spec D 38 "parts_of" 2 Φ_parts_of := by
  obtain ⟨F_parts_by_power, S_parts_by_power, h_parts_by_power⟩ := spec_parts_by_power T
  obtain ⟨F_cut, S_cut, h_cut⟩ := spec_cut T
  refine Br.spec_named (fn_of' T.d_parts_of sc_parts_of (pub_cons (pus_set 2 [] (pur_call S_parts_by_power (pura_cons (pur_var 0) pura_nil)))
    (pub_cons (pus_for [] (puri_seq (pur_var 1)) (pug_name 3) (pub_one (pus_setLc2V 2 [] (own := [("part", 5), ("power", 6), ("half", 4)]) (vs1 := [4]) (puri_seq (pur_var 2)) (puge_tup (n := 2) (puges_cons (puge_name 5) (puges_cons (puge_name 6) puges_nil))) purts_nil (puri_seq (pur_call S_cut (pura_cons (pur_var 5) (pura_cons (pur_var 3) pura_nil)))) (puge_name 4) purts_nil (pur_tup (pura_cons (pur_var 4) (pura_cons (pur_var 6) pura_nil))))))
    (pub_one (pus_ret [] (pur_var 2)))))) (fun Fn hFn => ?_)
  intro F n α told hn hF h0 hα0 hα ht htl
  subst hFn
  obtain ⟨L0, ⟨pf, hL0⟩, e0⟩ := h_parts_by_power F n α hn hF h0 hα0 (by omega)
  refine ⟨L0, pf, runD_ret ?_⟩
  simp -implicitDefEqProofs [startE, storeV, e0]
  have hw0 : wt L0 ≤ 3100 := by
    have h1 := wt_le (n := 31) L0 fun x hx => by
      have h2 := (pf.dvd h0 hx).len h0
      have := hF.1
      omega
    omega
  generalize hR : forD _ _ _ _ = r
  have := forD_rule hR (fun i se => ∃ (L : List (Al.Poly × Nat)) (o3 : Option (PyData × Bool)), L = (told.take i).foldl cutAll L0 ∧ (∀ x ∈ L, Al.Led x.1 ∧ Al.Dvd x.1 F ∧ 1 < x.1.len) ∧ wt L ≤ 3100 ∧ se = [some (rowD F, false), some (.list (told.map rowD), false), some (.list (L.map prtD), false), o3, none, none, none])
    (fun r => ∃ (o3 : Option (PyData × Bool)), r = .next [some (rowD F, false), some (.list (told.map rowD), false), some (.list ((told.foldl cutAll L0).map prtD), false), o3, none, none, none])
    ⟨L0, none, rfl, fun x hx => ⟨(pf.each x hx).1, pf.dvd h0 hx, (pf.each x hx).2.1⟩, hw0, rfl⟩ ?_ ?_
  · obtain ⟨o3, rfl⟩ := this
    simp -implicitDefEqProofs []
  · rintro i d se hi ⟨L, o3, hL, hall, hw, rfl⟩
    rw [List.getElem?_map] at hi
    obtain ⟨q, hq, rfl⟩ : ∃ q, told[i]? = some q ∧ d = rowD q := by
      cases z : told[i]? with
      | none => rw [z] at hi; cases hi
      | some q => rw [z] at hi; exact ⟨q, rfl, (Option.some.inj hi).symm⟩
    have hqm := List.mem_of_getElem? hq
    have hnew : ∀ x ∈ cutAll L q, Al.Led x.1 ∧ Al.Dvd x.1 F ∧ 1 < x.1.len := fun y hy => by
      obtain ⟨x, hx, h1, _⟩ := cutAll_mem hy
      obtain ⟨a, b, c⟩ := hall x hx
      obtain ⟨a', b', c'⟩ := cutL_mem a h1
      exact ⟨a', b'.trans b, c'⟩
    have hwn : wt (cutAll L q) ≤ 3100 := Nat.le_trans (wt_all L fun x hx => (hall x hx).1) hw
    have hln := len_wt (cutAll L q) fun x hx => (hnew x hx).2.2
    have hzl : szOk (cutAll L q).length = true := szOk_of (by omega)
    have hz2 : szOk 2 = true := szOk_of (by decide)
    refine ⟨_, rfl, stepQ_next [some (rowD F, false), some (.list (told.map rowD), false), some (.list ((cutAll L q).map prtD), false), some (rowD q, false), none, none, none] ?_ ⟨cutAll L q, _, ?_, hnew, hwn, rfl⟩⟩
    · simp -implicitDefEqProofs []
      generalize hC : lcD2 _ _ _ _ _ _ _ _ _ = C
      have := lcD2_run hC L prtD (fun x => (cutL x.1 q).map fun h => prtD (h, x.2)) rfl (fun x hx => ?_)
      · subst this
        clear hC
        have e1 : (L.flatMap fun x => (cutL x.1 q).map fun h => prtD (h, x.2)) = (cutAll L q).map prtD := by
          unfold cutAll
          rw [List.map_flatMap]
          congr 1
          funext x
          rw [List.map_map]
          rfl
        rw [e1]
        simp -implicitDefEqProofs [hzl, storeV]
      · obtain ⟨a, b, c⟩ := hall x hx
        have ec := h_cut x.1 q n 60 (α + 14 * n + 9) hn (by decide) (dvd_sz hF h0 b a hn) (ht q hqm) a (by omega) (by omega)
        refine ⟨_, rfl, rfl, (cutL x.1 q).map rowD, ?_, ?_⟩
        · simp -implicitDefEqProofs [wipeE, ec]
        · generalize hD : lcD _ _ _ _ _ = D'
          have := lcD_run hD (cutL x.1 q) rowD (fun h => prtD (h, x.2)) rfl (fun h hh => ⟨_, rfl, rfl, by
            simp -implicitDefEqProofs [wipeE, hz2, prtD]⟩)
          exact this
    · rw [hL, List.take_add_one, hq, List.foldl_append]
      rfl
  · rintro se ⟨L, o3, hL, hall, hw, rfl⟩
    rw [List.length_map, List.take_length] at hL
    exact ⟨o3, by rw [hL]⟩
def Φ_parts (Fn : List PyData → R PyData) : Prop := (∀ a ds, NoRow a → Fn [a, .list ds] = .ex "NoRow") ∧ (∀ a ds, RowOr a → (∀ d ∈ ds, RowOr d ∨ NoRow d) → (∃ d ∈ ds, NoRow d) → Fn [a, .list ds] = .ex "NoRow") ∧
  (∀ told : List Al.Poly, (∀ t ∈ told, t.len ≤ 1000) → Fn [rowD 0, .list (told.map rowD)] = .ex "Nought") ∧
  ∀ (F : Al.Poly) (n α : Nat) (told : List Al.Poly), n ≤ 31 → Sz (n + 1) α F → F ≠ 0 → 0 < α → α ≤ 5000 → (∀ t ∈ told, Sz 61 (α + 14 * n + 9) t) → told.length ≤ 100 →
  ∃ L, Al.PF F L ∧ Fn [rowD F, .list (told.map rowD)] = .ok (.list ((told.foldl cutAll L).map prtD))
theorem spec_parts (T : Txt D) : Spec D 39 "parts" 2 Φ_parts := by
  obtain ⟨F_refuse_no_row, S_refuse_no_row, h_refuse_no_row⟩ := spec_refuse_no_row T
  obtain ⟨F_refuse_no_rows, S_refuse_no_rows, h_refuse_no_rows⟩ := spec_refuse_no_rows T
  obtain ⟨F_parts_of, S_parts_of, h_parts_of⟩ := spec_parts_of T
  refine Br.spec_named (fn_of' T.d_parts sc_parts (pub_cons (pus_expr [] (pur_call S_refuse_no_row (pura_cons (pur_var 0) pura_nil)))
    (pub_cons (pus_expr [] (pur_call S_refuse_no_rows (pura_cons (pur_var 1) pura_nil)))
    (pub_cons (pus_if [] (purt_not (purt_val (pur_var 0))) (pub_one (pus_raise T.x_Nought)) pub_nil)
    (pub_one (pus_ret [] (pur_call S_parts_of (pura_cons (pur_var 0) (pura_cons (pur_var 1) pura_nil))))))))) (fun Fn hFn => ?_)
  refine ⟨fun a ds ha => ?_, fun a ds ⟨p, hp, e⟩ h1 h2 => ?_, fun told ht => ?_, fun F n α told hn hF h0 hα0 hα ht htl => ?_⟩
  · subst hFn
    have e := h_refuse_no_row.2 a ha.1 ha.2
    refine runD_ex (se := startE 2 [a, .list ds]) ?_
    simp -implicitDefEqProofs [startE, e]
  · subst hFn
    have e1 := h_refuse_no_row.1 p hp
    have e2 := h_refuse_no_rows.2 ds h1 h2
    rw [e]
    refine runD_ex (se := startE 2 [rowD p, .list ds]) ?_
    simp -implicitDefEqProofs [startE, e1, e2]
  · subst hFn
    have e1 := h_refuse_no_row.1 0 (by decide)
    have e2 := h_refuse_no_rows.1 told ht
    have t0 : truth (rowD 0) = .ok false := rfl
    refine runD_ex (se := startE 2 [rowD 0, .list (told.map rowD)]) ?_
    simp -implicitDefEqProofs [startE, e1, e2, t0]
  · subst hFn
    have e1 := h_refuse_no_row.1 F (by have := hF.1; omega)
    have e2 := h_refuse_no_rows.1 told fun t hm => by have := (ht t hm).1; omega
    have t0 : truth (rowD F) = _ := truth_row F
    rw [decide_eq_true h0] at t0
    obtain ⟨L, pf, eL⟩ := h_parts_of F n α told hn hF h0 hα0 hα ht htl
    refine ⟨L, pf, runD_ret ?_⟩
    simp -implicitDefEqProofs [startE, e1, e2, t0, eL]
def Φ__law_many (Fn : List PyData → R PyData) : Prop := ∀ x : Int, ∃ m : Nat, (1 ≤ m ∧ m ≤ 4) ∧ Fn [.int x] = .ok (.int (m : Int))
theorem spec__law_many (T : Txt D) : Spec D 33 "_law_many" 1 Φ__law_many := by
  refine Br.spec_named (fn_of' T.d__law_many sc__law_many (pub_one (pus_ret [] (pur_ix (pur_lst (pura_cons pur_int (pura_cons pur_int (pura_cons pur_int (pura_cons pur_int (pura_cons pur_int (pura_cons pur_int (pura_cons pur_int (pura_cons pur_int pura_nil))))))))) (pur_bin (pur_var 0) pur_int))))) (fun Fn hFn => ?_)
  intro x
  subst hFn
  refine runD_ret_ex1 (k := fun m : Nat => .int (m : Int)) ?_
  have h0 := Int.fmod_eq_emod_of_nonneg x (show (0 : Int) ≤ 8 by decide)
  have h1 := Int.emod_nonneg x (show (8 : Int) ≠ 0 by decide)
  have h2 := Int.emod_lt_of_pos x (show (0 : Int) < 8 by decide)
  rw [← h0] at h1 h2
  have hz : szOk 8 = true := szOk_of (by decide)
  have hm : opV .Mod (.int x) (.int 8) = .ok (.int (x.fmod 8)) := oI_mod (by decide)
  generalize x.fmod 8 = y at *
  obtain ⟨m, hm', e⟩ : ∃ m : Nat, (1 ≤ m ∧ m ≤ 4) ∧ atI [PyData.int 1, .int 1, .int 1, .int 2, .int 2, .int 2, .int 3, .int 4] y = some (.int (m : Int)) := by
    rcases (by omega : y = 0 ∨ y = 1 ∨ y = 2 ∨ y = 3 ∨ y = 4 ∨ y = 5 ∨ y = 6 ∨ y = 7) with h | h | h | h | h | h | h | h <;> rw [h]
    · exact ⟨1, by decide, rfl⟩
    · exact ⟨1, by decide, rfl⟩
    · exact ⟨1, by decide, rfl⟩
    · exact ⟨2, by decide, rfl⟩
    · exact ⟨2, by decide, rfl⟩
    · exact ⟨2, by decide, rfl⟩
    · exact ⟨3, by decide, rfl⟩
    · exact ⟨4, by decide, rfl⟩
  refine ⟨m, hm', ?_⟩
  simp -implicitDefEqProofs [startE, hz, hm, e]
def Φ__law_powers (Fn : List PyData → R PyData) : Prop := ∀ (x : Int) (rs : List Al.Poly), 1 ≤ rs.length → rs.length ≤ 4 → (∀ r ∈ rs, 2 ≤ r.len ∧ r.len ≤ 4) →
  ∃ es : List Nat, (es.length = rs.length ∧ ∃ B : Nat, B * rs.length ≤ 20 ∧ ∀ (i : Nat) (r : Al.Poly) (e : Nat), rs[i]? = some r → es[i]? = some e → 1 ≤ e ∧ e ≤ 10 ∧ (r.len - 1) * e ≤ B) ∧ Fn [.int x, .list (rs.map rowD)] = .ok (.list (es.map fun e : Nat => .int (e : Int)))
theorem spec__law_powers (T : Txt D) : Spec D 34 "_law_powers" 2 Φ__law_powers := by
  obtain ⟨F__law_stream, S__law_stream, h__law_stream⟩ := spec__law_stream T
  refine Br.spec_named (fn_of' T.d__law_powers sc__law_powers (pub_cons (pus_set 2 [] (pur_call S__law_stream (pura_cons (pur_var 0) (pura_cons (pur_bin (pur_blt blt_len T.n_len (pura_cons (pur_var 1) pura_nil)) pur_int) pura_nil))))
    (pub_cons (pus_set 3 [] (pur_ix (pur_lst (pura_cons pur_int (pura_cons pur_int pura_nil))) (pur_bltT blt_int T.n_int (pura_cons (pur_and (pur_cmp (pur_bin (pur_ix (pur_var 2) pur_int) pur_int) pur_int) (pur_and (pur_cmp (pur_blt blt_len T.n_len (pura_cons (pur_var 1) pura_nil)) pur_int) (pur_one (pur_cmp (pur_blt blt_len T.n_len (pura_cons (pur_ix (pur_var 1) pur_int) pura_nil)) pur_int)))) pura_nil))))
    (pub_cons (pus_setL 4 [] (purl_lst pura_nil))
    (pub_cons (pus_for [] (puri_range1 T.n_range (pura_cons (pur_blt blt_len T.n_len (pura_cons (pur_var 1) pura_nil)) pura_nil)) (pug_name 5) (pub_cons (pus_set 6 [] (pur_bin (pur_blt blt_len T.n_len (pura_cons (pur_ix (pur_var 1) (pur_var 5)) pura_nil)) pur_int))
    (pub_cons (pus_set 7 [] (pur_ix (pur_lst (pura_cons pur_int (pura_cons pur_int pura_nil))) (pur_bltT blt_int T.n_int (pura_cons (pur_cmp (pur_bin (pur_ix (pur_var 2) pur_int) pur_int) pur_int) pura_nil))))
    (pub_cons (pus_append 4 [] (pur_blt (blt_max rfl) T.n_max (pura_cons pur_int (pura_cons (pur_blt (blt_min rfl) T.n_min (pura_cons (pur_bin pur_int (pur_bin (pur_ix (pur_var 2) (pur_bin pur_int (pur_var 5))) (pur_var 7))) (pura_cons (pur_bin (pur_var 3) (pur_var 6)) pura_nil))) pura_nil))))
    (pub_one (pus_set 3 [4] (pur_bin (pur_var 3) (pur_bin (pur_var 6) (pur_ix (pur_var 4) (pur_neg pur_int))))))))))
    (pub_one (pus_ret [4] (pur_var 4)))))))) (fun Fn hFn => ?_)
  intro x rs hr1 hr4 hr
  subst hFn
  refine runD_ret_ex1 (k := fun es : List Nat => .list (es.map fun e : Nat => .int (e : Int))) ?_
  obtain ⟨xs, hxl, hx, ex⟩ := h__law_stream x (rs.length + 1) (by omega)
  have es' : F__law_stream [.int x, .int ((rs.length : Int) + 1)] = .ok (.list (xs.map .int)) := ex
  have ixx : ∀ i : Nat, i < rs.length + 1 → atI (xs.map PyData.int) (i : Int) = some (.int (Al.gi xs i)) := fun i hi => atI_nat (intsL_get (by omega))
  have ix0 : atI (xs.map PyData.int) 0 = some (.int (Al.gi xs 0)) := ixx 0 (by omega)
  have hlen : ∀ r : Al.Poly, lenF [rowD r] = .ok (.int (r.len : Int)) := hlenD
  have ixv : ∀ (ds : List PyData) (k : Int), ixV (.list ds) (.int k) = (match atI ds k with | some d => .ok d | none => .no) := fun _ _ => rfl
  have irow : ∀ (i : Nat) (r : Al.Poly), rs[i]? = some r → atI (rs.map rowD) (i : Int) = some (rowD r) := fun i r h => atI_nat (by rw [List.getElem?_map, h]; rfl)
  have hr0 : rs[0]? = some rs[0] := List.getElem?_eq_getElem (by omega)
  have ir0 : atI (rs.map rowD) 0 = some (rowD rs[0]) := irow 0 _ hr0
  generalize rs[0] = r0 at *
  have hlr : lenF [.list (rs.map rowD)] = .ok (.int (rs.length : Int)) := by simp
  have hz0 : szOk 0 = true := szOk_of (by decide)
  have hz2 : szOk 2 = true := szOk_of (by decide)
  have rr := range1_run rs.length (by omega)
  have b10 : ∀ a b : PyData, atI [a, b] 0 = some a := fun _ _ => rfl
  have b11 : ∀ a b : PyData, atI [a, b] 1 = some b := fun _ _ => rfl
  have tb : ∀ k : Bool, truth (.bool k) = .ok k := fun _ => rfl
  let SS := fun (o3 o4 o5 o6 o7 : Option (PyData × Bool)) => ([some (.int x, false), some (.list (rs.map rowD), false), some (.list (xs.map .int), false), o3, o4, o5, o6, o7] : SEn)
  refine seq_split_ex (fun se => se = SS none none none none none) ⟨_, ?_, rfl⟩ ?_
  · simp -implicitDefEqProofs [SS, startE, hlr, oI_add, es', storeV, lf, lfA, -lenF]
  rintro se rfl
  refine seq_split_ex (fun se => ∃ r : Int, (r = 5 ∨ (r = 10 ∧ rs.length = 1)) ∧ se = SS (some (.int r, false)) none none none none) ?_ ?_
  · by_cases c1 : (Al.gi xs 0).fmod 16 = 0
    · by_cases c2 : (rs.length : Int) = 1
      · by_cases c3 : (r0.len : Int) = 2
        · refine ⟨_, ?_, 10, .inr ⟨rfl, by omega⟩, rfl⟩
          simp -implicitDefEqProofs [SS, ixv, ix0, oI_mod, cI_eq, c1, c2, c3, hlr, hlen, ir0, tb, hz2, b11, storeV, -lenF, -ixV]
        · refine ⟨_, ?_, 5, .inl rfl, rfl⟩
          simp -implicitDefEqProofs [SS, ixv, ix0, oI_mod, cI_eq, c1, c2, c3, hlr, hlen, ir0, tb, hz2, b10, storeV, -lenF, -ixV]
      · refine ⟨_, ?_, 5, .inl rfl, rfl⟩
        simp -implicitDefEqProofs [SS, ixv, ix0, oI_mod, cI_eq, c1, c2, hlr, hlen, ir0, tb, hz2, b10, storeV, -lenF, -ixV]
    · refine ⟨_, ?_, 5, .inl rfl, rfl⟩
      simp -implicitDefEqProofs [SS, ixv, ix0, oI_mod, cI_eq, c1, hlr, hlen, ir0, tb, hz2, b10, storeV, -lenF, -ixV]
  rintro se ⟨room, hroom, rfl⟩
  refine seq_split_ex (fun se => se = SS (some (.int room, false)) (some (.list [], true)) none none none) ⟨_, ?_, rfl⟩ ?_
  · simp -implicitDefEqProofs [SS, hz0, storeL]
  rintro se rfl
  let Good := fun (es : List Nat) => ∀ (i : Nat) (r : Al.Poly) (e : Nat), rs[i]? = some r → es[i]? = some e → 1 ≤ e ∧ e ≤ 10 ∧ (((r.len - 1) * e : Nat) : Int) ≤ room
  refine seq_split_ex (fun se => ∃ (es : List Nat) (o3 o5 o6 o7 : Option (PyData × Bool)), es.length = rs.length ∧ Good es ∧ se = SS o3 (some (.list (es.map fun e : Nat => .int (e : Int)), true)) o5 o6 o7) ?_ ?_
  · simp -implicitDefEqProofs [SS, hlr, rr, -lenF]
    generalize hF : forD _ _ _ _ = r
    have := forD_rule hF (fun i se => ∃ (es : List Nat) (rm : Int) (o5 o6 o7 : Option (PyData × Bool)), es.length = i ∧ rm ≤ room ∧ Good es ∧ se = SS (some (.int rm, false)) (some (.list (es.map fun e : Nat => .int (e : Int)), true)) o5 o6 o7)
      (fun r => ∃ (es : List Nat) (o3 o5 o6 o7 : Option (PyData × Bool)), es.length = rs.length ∧ Good es ∧ r = .next (SS o3 (some (.list (es.map fun e : Nat => .int (e : Int)), true)) o5 o6 o7))
      ⟨[], room, none, none, none, rfl, by omega, fun i r e h1 h2 => by simp at h2, rfl⟩ ?_ ?_
    · obtain ⟨es, o3, o5, o6, o7, h1, h2, rfl⟩ := this
      exact ⟨_, rfl, es, h1, h2, o3, o5, o6, o7, rfl⟩
    · rintro i d se hi ⟨es, rm, o5, o6, o7, hel, hrm, hg, rfl⟩
      obtain ⟨hil, rfl⟩ := map_get hi
      have hri : rs[i]? = some rs[i] := List.getElem?_eq_getElem hil
      obtain ⟨l1, l2⟩ := hr _ (List.getElem_mem hil)
      have iri := irow i _ hri
      have ixi : atI (xs.map PyData.int) (1 + (i : Int)) = some (.int (Al.gi xs (i + 1))) := by
        rw [show (1 : Int) + (i : Int) = ((i + 1 : Nat) : Int) by omega]
        exact ixx (i + 1) (by omega)
      generalize rs[i] = q at *
      generalize Al.gi xs (i + 1) = y at *
      obtain ⟨mo, hmo, emo⟩ : ∃ mo : Int, (mo = 3 ∨ mo = 10) ∧ (((Al.gi xs 0).fmod 8 = 0 ∧ mo = 10) ∨ (¬ (Al.gi xs 0).fmod 8 = 0 ∧ mo = 3)) := by
        by_cases c : (Al.gi xs 0).fmod 8 = 0
        · exact ⟨10, .inr rfl, .inl ⟨c, rfl⟩⟩
        · exact ⟨3, .inl rfl, .inr ⟨c, rfl⟩⟩
      have hmo0 : mo ≠ 0 := by omega
      have ym : 0 ≤ y.fmod mo ∧ y.fmod mo < 10 := by
        have h0 := Int.fmod_eq_emod_of_nonneg y (show (0 : Int) ≤ mo by omega)
        have h1 := Int.emod_nonneg y hmo0
        have h2 := Int.emod_lt_of_pos y (show (0 : Int) < mo by omega)
        omega
      obtain ⟨sz, hsz, esz⟩ : ∃ sz : Nat, q.len = sz + 1 ∧ ((q.len : Int) - 1 = (sz : Int)) := ⟨q.len - 1, by omega, by omega⟩
      have hs0 : (sz : Int) ≠ 0 := by omega
      have dv0 : divOk rm (sz : Int) = true := divOk_ne hs0
      have hfd : rm.fdiv (sz : Int) * (sz : Int) ≤ rm := by
        have h0 := Int.fdiv_eq_ediv_of_nonneg rm (show (0 : Int) ≤ (sz : Int) by omega)
        rw [h0]
        exact Int.ediv_mul_le rm hs0
      obtain ⟨e, he, e1, e2, e3⟩ : ∃ e : Nat, (if (if rm.fdiv (sz : Int) < 1 + y.fmod mo then rm.fdiv (sz : Int) else 1 + y.fmod mo) > 1 then (if rm.fdiv (sz : Int) < 1 + y.fmod mo then rm.fdiv (sz : Int) else 1 + y.fmod mo) else 1) = (e : Int) ∧ 1 ≤ e ∧ e ≤ 10 ∧ ((sz * e : Nat) : Int) ≤ room := by
        generalize rm.fdiv (sz : Int) = f at *
        generalize y.fmod mo = u at *
        have hc : ∀ e : Nat, (e : Int) ≤ f → ((sz * e : Nat) : Int) ≤ room := fun e h => by
          have := Int.mul_le_mul_of_nonneg_right h (show (0 : Int) ≤ (sz : Int) by omega)
          have h2 : ((sz * e : Nat) : Int) = (e : Int) * (sz : Int) := by rw [Int.natCast_mul, Int.mul_comm]
          omega
        by_cases c1 : f < 1 + u
        · rw [if_pos c1]
          by_cases c2 : f > 1
          · rw [if_pos c2]
            exact ⟨f.toNat, by omega, by omega, by omega, hc _ (by omega)⟩
          · rw [if_neg c2]
            exact ⟨1, rfl, by omega, by omega, by omega⟩
        · rw [if_neg c1]
          by_cases c2 : 1 + u > 1
          · rw [if_pos c2]
            exact ⟨(1 + u).toNat, by omega, by omega, by omega, hc _ (by omega)⟩
          · rw [if_neg c2]
            exact ⟨1, rfl, by omega, by omega, by omega⟩
      have mx : maxF [.int 1, .int (if rm.fdiv (sz : Int) < 1 + y.fmod mo then rm.fdiv (sz : Int) else 1 + y.fmod mo)] = .ok (.int (e : Int)) := by
        rw [← he]
        rfl
      have mn : minF [.int (1 + y.fmod mo), .int (rm.fdiv (sz : Int))] = .ok (.int (if rm.fdiv (sz : Int) < 1 + y.fmod mo then rm.fdiv (sz : Int) else 1 + y.fmod mo)) := rfl
      have hez : szOk (es.length + 1) = true := szOk_of (by omega)
      have la : atI ((es.map fun e : Nat => PyData.int (e : Int)) ++ [.int (e : Int)]) (-1) = some (.int (e : Int)) := by
        rw [atI_last (by simp)]
        simp
      have ml : mulOk (sz : Int) (e : Int) = true := by
        have h4 : sz ≤ 4 := by omega
        exact mulOk_l (Nat.lt_of_le_of_lt (show _ ≤ 4 by omega) (by decide))
      refine ⟨_, rfl, stepQ_next (SS (some (.int (rm - (sz : Int) * (e : Int)), false)) (some (.list ((es ++ [e]).map fun e : Nat => .int (e : Int)), true)) (some (.int (i : Int), false)) (some (.int (sz : Int), false)) (some (.int mo, false))) ?_ ⟨es ++ [e], _, _, _, _, by rw [List.length_append, List.length_singleton, hel], ?_, ?_, rfl⟩⟩
      · rcases emo with ⟨c, rfl⟩ | ⟨c, rfl⟩ <;>
        simp -implicitDefEqProofs [SS, storeV, ixv, iri, hlen, oI_sub, esz, ix0, oI_mod, cI_eq, c, hz2, b10, b11, ixi, oI_add, oI_div dv0, mn, mx, hez, la, oI_mul ml, lf, lfA, -lenF, -ixV, -maxF, -minF]
      · have := Int.mul_nonneg (show (0 : Int) ≤ (sz : Int) by omega) (show (0 : Int) ≤ (e : Int) by omega)
        omega
      · intro j r f h1 h2
        rcases Nat.lt_or_ge j es.length with c | c
        · rw [List.getElem?_append_left c] at h2
          exact hg j r f h1 h2
        · rw [List.getElem?_append_right c] at h2
          have hj : j - es.length = 0 := by
            have := (List.getElem?_eq_some_iff.mp h2).1
            rw [List.length_singleton] at this
            omega
          rw [hj] at h2
          cases h2
          have : j = i := by omega
          rw [this, hri] at h1
          cases h1
          rw [hsz]
          exact ⟨e1, e2, e3⟩
    · rintro se ⟨es, rm, o5, o6, o7, hel, hrm, hg, rfl⟩
      exact ⟨es, _, o5, o6, o7, by simpa using hel, hg, rfl⟩
  rintro se ⟨es, o3, o5, o6, o7, hel, hg, rfl⟩
  refine ⟨es, ⟨hel, room.toNat, ?_, fun i r e h1 h2 => ?_⟩, ?_⟩
  · rcases hroom with h | ⟨h, k⟩
    · rw [h]
      have : (5 : Int).toNat = 5 := rfl
      rw [this]
      omega
    · rw [h, k]
      decide
  · obtain ⟨a, b, c⟩ := hg i r e h1 h2
    exact ⟨a, b, by omega⟩
  · simp -implicitDefEqProofs [SS]
def Φ__law_bottom (Fn : List PyData → R PyData) : Prop := ∀ (rs : List Al.Poly) (es : List Nat) (B : Nat), es.length = rs.length → rs.length ≤ 4 → B * rs.length ≤ 20 → (∀ (i : Nat) (r : Al.Poly) (e : Nat), rs[i]? = some r → es[i]? = some e → 1 ≤ e ∧ e ≤ 10 ∧ (r.len - 1) * e ≤ B) → (∀ r ∈ rs, Al.Led r ∧ Sz 4 18 r) →
  ∃ b : Al.Poly, (Al.Led b ∧ Sz 21 1200 b) ∧ Fn [.list (rs.map rowD), .list (es.map fun e : Nat => .int (e : Int))] = .ok (rowD b)
theorem spec__law_bottom (T : Txt D) : Spec D 39 "_law_bottom" 2 Φ__law_bottom := by
  obtain ⟨F__law_times, S__law_times, h__law_times⟩ := spec__law_times T
  obtain ⟨F__law_power, S__law_power, h__law_power⟩ := spec__law_power T
  refine Br.spec_named (fn_of' T.d__law_bottom sc__law_bottom (pub_cons (pus_set 2 [] (pur_tup (pura_cons (pur_tup (pura_cons pur_int (pura_cons pur_int pura_nil))) pura_nil)))
    (pub_cons (pus_for [] (puri_zip T.n_zip (pura_cons (pur_var 0) (pura_cons (pur_var 1) pura_nil))) (pug_tup (n := 2) (pugs_cons (pug_name 3) (pugs_cons (pug_name 4) pugs_nil))) (pub_one (pus_set 2 [] (pur_call S__law_times (pura_cons (pur_var 2) (pura_cons (pur_call S__law_power (pura_cons (pur_var 3) (pura_cons (pur_var 4) pura_nil))) pura_nil))))))
    (pub_one (pus_ret [] (pur_var 2)))))) (fun Fn hFn => ?_)
  intro rs es B hel hr4 hB hg hr
  subst hFn
  refine runD_ret_ex1 (k := fun b : Al.Poly => rowD b) ?_
  have hz1 : szOk 1 = true := szOk_of (by decide)
  have hz2 : szOk 2 = true := szOk_of (by decide)
  simp -implicitDefEqProofs [startE, hz1, hz2, storeV, lf, lfA, zipF]
  let SS := fun (b : Al.Poly) (o3 o4 : Option (PyData × Bool)) => ([some (.list (rs.map rowD), false), some (.list (es.map fun e : Nat => .int (e : Int)), false), some (rowD b, false), o3, o4] : SEn)
  generalize hF : forD _ _ _ _ = r
  have := forD_rule hF (fun i se => ∃ (b : Al.Poly) (o3 o4 : Option (PyData × Bool)), Al.Led b ∧ Sz (B * i + 1) (1 + i * 291) b ∧ se = SS b o3 o4)
    (fun r => ∃ (b : Al.Poly) (o3 o4 : Option (PyData × Bool)), Al.Led b ∧ Sz 21 1200 b ∧ r = .next (SS b o3 o4))
    ⟨1, none, none, Al.led_one, Sz.one (by omega) (by omega), by simp only [SS]; rw [rowD_one]⟩ ?_ ?_
  · obtain ⟨b, o3, o4, h1, h2, rfl⟩ := this
    refine ⟨b, ⟨h1, h2⟩, ?_⟩
    simp -implicitDefEqProofs [SS]
  · rintro i d se hi ⟨b, o3, o4, hb, sb, rfl⟩
    have hil : i < rs.length := by
      have := (List.getElem?_eq_some_iff.mp hi).1
      rw [zipD_len, List.length_map, List.length_map] at this
      omega
    have h1 : rs[i]? = some rs[i] := List.getElem?_eq_getElem hil
    have h2 : es[i]? = some es[i] := List.getElem?_eq_getElem (by omega)
    obtain ⟨g1, g2, g3⟩ := hg i _ _ h1 h2
    obtain ⟨l1, l2⟩ := hr _ (List.getElem_mem hil)
    have h3 := zipD_get (ds := rs.map rowD) (es := es.map fun e : Nat => PyData.int (e : Int)) (i := i) (d := rowD rs[i]) (e := .int (es[i] : Int)) (by rw [List.getElem?_map, h1]; rfl) (by rw [List.getElem?_map, h2]; rfl)
    rw [h3] at hi
    cases hi
    generalize rs[i] = q at *
    generalize es[i] = e at *
    have hq := Al.Poly.len_pos.mpr l1.ne
    have sq : Sz (q.len - 1 + 1) 18 q := by
      rw [show q.len - 1 + 1 = q.len by omega]
      exact ⟨Nat.le_refl _, l2.2⟩
    have hlq := l2.1
    have hBi : B * i + B ≤ 20 := by
      have : B * (i + 1) ≤ B * rs.length := Nat.mul_le_mul_left _ (by omega)
      rw [Nat.mul_succ] at this
      omega
    obtain ⟨p1, p2⟩ := h__law_power q (q.len - 1) 18 e sq (by omega) (by decide) (by omega) (by omega)
    have he27 : e * (18 + 10) ≤ 10 * 28 := Nat.mul_le_mul (by omega) (by omega)
    have p1' : Sz (B + 1) 281 (q ^ e) := p1.up (by omega) (by omega)
    have hi281 : i * 291 ≤ 4 * 291 := Nat.mul_le_mul (by omega) (Nat.le_refl _)
    have tm := h__law_times.sz sb p1' (by omega) (by omega) (by omega)
    have ts := sb.mul1 p1' (by omega)
    refine ⟨SS b (some (rowD q, false)) (some (.int (e : Int), false)), by simp [SS, storeV], stepQ_next (SS (b * q ^ e) (some (rowD q, false)) (some (.int (e : Int), false))) ?_ ⟨b * q ^ e, _, _, hb.mul (Al.led_pow l1 e), ts.up ?_ ?_, rfl⟩⟩
    · simp -implicitDefEqProofs [SS, p2, tm, storeV]
    · rw [Nat.mul_succ]; omega
    · rw [Nat.succ_mul]; omega
  · rintro se ⟨b, o3, o4, hb, sb, rfl⟩
    rw [zipD_len, List.length_map, List.length_map, hel, Nat.min_self] at sb
    have : rs.length * 291 ≤ 4 * 291 := Nat.mul_le_mul (by omega) (Nat.le_refl _)
    exact ⟨b, o3, o4, hb, sb.up (by omega) (by omega), rfl⟩
def Φ__law_divides (Fn : List PyData → R PyData) : Prop := ∀ p t : Al.Poly, p ≠ 0 → Sz 21 13000 p → Sz 21 13000 t → Fn [rowD p, rowD t] = .ok (.bool (decide (Al.md t p = 0)))
theorem spec__law_divides (T : Txt D) : Spec D 39 "_law_divides" 2 Φ__law_divides := by
  obtain ⟨F__law_divide, S__law_divide, h__law_divide⟩ := spec__law_divide T
  refine Br.spec_named (fn_of' T.d__law_divides sc__law_divides (pub_one (pus_ret [] (pur_cmp (pur_ix (pur_call S__law_divide (pura_cons (pur_var 1) (pura_cons (pur_var 0) pura_nil))) pur_int) (pur_tup pura_nil))))) (fun Fn hFn => ?_)
  intro p t hp sp st
  subst hFn
  refine runD_ret ?_
  have e := h__law_divide.szl st sp hp (by decide) (by decide) (s := 21) (by have := st.1; have := Al.Poly.len_pos.mpr hp; omega) (by decide)
  have ixt : ∀ a b : PyData, ixV (.tuple [a, b]) (.int 1) = .ok b := fun _ _ => rfl
  have hz0 : szOk 0 = true := szOk_of (by decide)
  have eq0 : ∀ r : Al.Poly, cmpV .Eq (rowD r) (.tuple []) = .ok (.bool (decide (r = 0))) := fun r => eq_rowD r 0
  simp -implicitDefEqProofs [startE, e, ixt, hz0, eq0, -ixV]
def Φ__law_key (Fn : List PyData → R PyData) : Prop := ∀ (p : Al.Poly) (e : Nat) (ts : List Al.Poly), p ≠ 0 → Sz 21 13000 p → (∀ t ∈ ts, Sz 21 13000 t) → ts.length ≤ 100 → Fn [rowD p, .int (e : Int), .list (ts.map rowD)] = .ok (.list ((key ts (p, e)).map .int))
theorem spec__law_key (T : Txt D) : Spec D 40 "_law_key" 3 Φ__law_key := by
  obtain ⟨F__law_divides, S__law_divides, h__law_divides⟩ := spec__law_divides T
  refine Br.spec_named (fn_of' T.d__law_key sc__law_key (pub_one (pus_ret [] (pur_bin (pur_lst (pura_cons (pur_var 1) pura_nil)) (PurL.pur (purl_comp (own := [("_law_row", 3)]) (puri_seq (pur_var 2)) (puge_name 3) purts_nil (pur_bltT blt_int T.n_int (pura_cons (pur_not (pur_call S__law_divides (pura_cons (pur_var 0) (pura_cons (pur_var 3) pura_nil)))) pura_nil)))))))) (fun Fn hFn => ?_)
  intro p e ts hp sp st htl
  subst hFn
  refine runD_ret ?_
  have hz1 : szOk 1 = true := szOk_of (by decide)
  have hzt : szOk ts.length = true := szOk_of (by omega)
  have hzt2 : szOk (1 + ts.length) = true := szOk_of (by omega)
  have hzt3 : szOk (ts.length + 1) = true := szOk_of (by omega)
  simp -implicitDefEqProofs [startE, hz1]
  generalize hL : lcD _ _ _ _ _ = L
  have := lcD_run hL ts rowD (fun t => .int (if Al.md t p = 0 then 0 else 1)) rfl (fun t ht => ⟨_, rfl, rfl, by
    simp -implicitDefEqProofs [wipeE, h__law_divides p t hp sp (st t ht), truth]
    done⟩)
  subst this
  have hk : (PyData.int (e : Int)) :: (ts.map fun t => PyData.int (if Al.md t p = 0 then 0 else 1)) = (key ts (p, e)).map PyData.int := by
    unfold key kt
    rw [List.map_cons, List.map_map]
    congr 1
    refine List.map_congr_left fun t ht => ?_
    dsimp only [Function.comp]
    by_cases c : Al.Dvd p t
    · rw [if_pos c, if_pos ((Al.md_zero hp).mpr c)]
    · rw [if_neg c, if_neg fun z => c ((Al.md_zero hp).mp z)]
  simp -implicitDefEqProofs [hzt, hzt2, hzt3, opV, hk]
def Φ__law_one_right (Fn : List PyData → R PyData) : Prop := ∀ (p : Al.Poly) (e : Nat) (ts : List Al.Poly), Al.Led p → 1 < p.len → 1 ≤ e → Al.Cop p (Al.dr p) → Sz 21 10000 p → (∀ t ∈ ts, Sz 21 10000 t ∧ (Al.Dvd p t ∨ Al.Cop p t)) → Fn [rowD p, .int (e : Int), .list (ts.map rowD)] = .ok (.bool true)
theorem spec__law_one_right (T : Txt D) : Spec D 40 "_law_one_right" 3 Φ__law_one_right := by
  obtain ⟨F__law_is_row, S__law_is_row, h__law_is_row⟩ := spec__law_is_row T
  obtain ⟨F__law_whole, S__law_whole, h__law_whole⟩ := spec__law_whole T
  obtain ⟨F__law_shared, S__law_shared, h__law_shared⟩ := spec__law_shared T
  obtain ⟨F__law_rate, S__law_rate, h__law_rate⟩ := spec__law_rate T
  obtain ⟨F__law_divides, S__law_divides, h__law_divides⟩ := spec__law_divides T
  refine Br.spec_named (fn_of' T.d__law_one_right sc__law_one_right (pub_cons (pus_if [] (purt_w (purw_or (purt_not (purt_val (pur_call S__law_is_row (pura_cons (pur_var 0) pura_nil)))) (purw_or (purt_not (purt_val (pur_call S__law_whole (pura_cons (pur_var 1) pura_nil)))) (purw_or (purt_cmp (pur_var 1) pur_int) (purw_or (purt_cmp (pur_blt blt_len T.n_len (pura_cons (pur_var 0) pura_nil)) pur_int) (purw_or1 (purt_cmp (pur_ix (pur_var 0) (pur_neg pur_int)) (pur_tup (pura_cons pur_int (pura_cons pur_int pura_nil)))))))))) (pub_one (pus_ret [] pur_bool)) pub_nil)
    (pub_cons (pus_if [] (purt_cmp (pur_blt blt_len T.n_len (pura_cons (pur_call S__law_shared (pura_cons (pur_var 0) (pura_cons (pur_call S__law_rate (pura_cons (pur_var 0) pura_nil)) pura_nil))) pura_nil)) pur_int) (pub_one (pus_ret [] pur_bool)) pub_nil)
    (pub_cons (pus_for [] (puri_seq (pur_var 2)) (pug_name 3) (pub_one (pus_if [] (purt_w (purw_and (purt_not (purt_val (pur_call S__law_divides (pura_cons (pur_var 0) (pura_cons (pur_var 3) pura_nil))))) (purw_and1 (purt_cmp (pur_blt blt_len T.n_len (pura_cons (pur_call S__law_shared (pura_cons (pur_var 0) (pura_cons (pur_var 3) pura_nil))) pura_nil)) pur_int)))) (pub_one (pus_ret [] pur_bool)) pub_nil)))
    (pub_one (pus_ret [] pur_bool)))))) (fun Fn hFn => ?_)
  intro p e ts hp hl he hc sp st
  subst hFn
  refine runD_ret ?_
  have l1 := h__law_is_row p (by have := sp.1; omega)
  have l2 := h__law_whole (.int (e : Int))
  have he' : ¬ (e : Int) < 1 := by omega
  have hl' : ¬ (p.len : Int) < 2 := by omega
  have hix : ixV (rowD p) (.int (-1)) = .ok (frR 1) := by
    have hv : p.val ≠ [] := fun z => hp.ne (Al.Poly.len_eq_zero.mp (by show p.val.length = 0; rw [z]; rfl))
    have := atI_lastF hv
    rw [show Al.cf p.val (p.val.length - 1) = 1 from hp] at this
    unfold rowD frsT
    simp [this]
  have n11 : cmpV .NotEq (frR 1) (.tuple [.int 1, .int 1]) = .ok (.bool false) := by
    have := ne_frR 1 1
    rw [frR_one] at this
    rw [frR_one, this]; simp
  have er := h__law_rate p (by have := sp.1; omega) (sp.fit (by decide))
  have sd : Sz 21 10010 (Al.dr p) := sp.dr (by decide)
  have e1 := h__law_shared p (Al.dr p) 20 10010 (by decide) (sp.up (Nat.le_refl _) (by decide)) sd (by decide)
  rw [Al.cop_gc.mp hc] at e1
  have one1 : lenF [rowD (1 : Al.Poly)] = .ok (.int 1) := by rw [hlenD, Al.Poly.len_one]; rfl
  have hz2 : szOk 2 = true := szOk_of (by decide)
  have tb : ∀ k : Bool, truth (.bool k) = .ok k := fun _ => rfl
  simp -implicitDefEqProofs [startE, l1, l2, tb, cI_lt, he', hlenD, hl', hix, hz2, n11, er, e1, one1, cI_ne, -lenF, -ixV]
  let SS := fun (o : Option (PyData × Bool)) => ([some (rowD p, false), some (.int (e : Int), false), some (.list (ts.map rowD), false), o] : SEn)
  generalize hF : forD _ _ _ _ = r
  have := forD_rule hF (fun i se => ∃ o, se = SS o) (fun r => ∃ o, r = .next (SS o)) ⟨none, rfl⟩ ?_ ?_
  · obtain ⟨o, rfl⟩ := this
    simp -implicitDefEqProofs [SS]
  · rintro i d se hi ⟨o, rfl⟩
    obtain ⟨t, ht, rfl⟩ := List.mem_map.mp (List.mem_of_getElem? hi)
    obtain ⟨s1, s2⟩ := st t ht
    have e2 := h__law_divides p t hp.ne (sp.up (Nat.le_refl _) (by decide)) (s1.up (Nat.le_refl _) (by decide))
    refine ⟨_, rfl, stepQ_next (SS (some (rowD t, false))) ?_ ⟨_, rfl⟩⟩
    rcases s2 with c | c
    · rw [decide_eq_true ((Al.md_zero hp.ne).mpr c)] at e2
      simp -implicitDefEqProofs [SS, e2, tb, -lenF]
    · have e3 := h__law_shared p t 20 10010 (by decide) (sp.up (Nat.le_refl _) (by decide)) (s1.up (Nat.le_refl _) (by decide)) (by decide)
      rw [Al.cop_gc.mp c] at e3
      rw [decide_eq_false (fun z => cop_nd hl c ((Al.md_zero hp.ne).mp z))] at e2
      simp -implicitDefEqProofs [SS, e2, e3, one1, cI_ne, tb, -lenF]
  · rintro se ⟨o, rfl⟩
    exact ⟨o, rfl⟩
def Φ__law_told (Fn : List PyData → R PyData) : Prop := ∀ (x : Int) (rs : List Al.Poly), rs.length ≤ 4 → (∀ r ∈ rs, Sz 4 18 r) → ∃ ts : List Al.Poly, (ts.length ≤ 6 ∧ ∀ t ∈ ts, Sz 21 420 t) ∧ Fn [.int x, .list (rs.map rowD)] = .ok (.list (ts.map rowD))
theorem fr_small {a b : Int} (h1 : 1 ≤ a) (h2 : a ≤ 5) (h3 : b = 1 ∨ b = 7) : frR ((a : Rat) / (b : Rat)) = .tuple [.int a, .int b] := by
  have hb : b ≠ 0 := by omega
  have : lowT a b = (a, b) := by
    rcases (by omega : a = 1 ∨ a = 2 ∨ a = 3 ∨ a = 4 ∨ a = 5) with rfl | rfl | rfl | rfl | rfl <;> rcases h3 with rfl | rfl <;> decide +kernel
  rw [← low_rat hb]
  unfold frD
  rw [this]
theorem fr_small_ne {a b : Int} (h1 : 1 ≤ a) (h3 : b = 1 ∨ b = 7) : ((a : Rat) / (b : Rat)) ≠ 0 := by
  have ha : (a : Rat) ≠ 0 := fun z => by
    have : a = 0 := by exact_mod_cast z
    omega
  have hb : (b : Rat) ≠ 0 := fun z => by
    have : b = 0 := by exact_mod_cast z
    omega
  intro z
  have : (a : Rat) = (a : Rat) / (b : Rat) * (b : Rat) := by rw [Rat.div_mul_cancel hb]
  rw [z] at this
  grind
theorem spec__law_told (T : Txt D) : Spec D 38 "_law_told" 2 Φ__law_told := by
  obtain ⟨F__law_stream, S__law_stream, h__law_stream⟩ := spec__law_stream T
  obtain ⟨F__law_row_by, S__law_row_by, h__law_row_by⟩ := spec__law_row_by T
  obtain ⟨F__law_times, S__law_times, h__law_times⟩ := spec__law_times T
  refine Br.spec_named (fn_of' T.d__law_told sc__law_told (pub_cons (pus_set 2 [] (pur_call S__law_stream (pura_cons (pur_var 0) (pura_cons pur_int pura_nil))))
    (pub_cons (pus_setL 3 [] (purl_lst pura_nil))
    (pub_cons (pus_for [] (puri_range1 T.n_range (pura_cons (pur_ix (pur_lst (pura_cons (pur_bin (pur_ix (pur_var 2) pur_int) pur_int) (pura_cons pur_int pura_nil))) (pur_bltT blt_int T.n_int (pura_cons (pur_cmp (pur_bin (pur_bin (pur_ix (pur_var 2) pur_int) pur_int) pur_int) pur_int) pura_nil))) pura_nil)) (pug_name 4) (pub_cons (pus_set 5 [] (pur_bin (pur_ix (pur_var 2) (pur_bin pur_int (pur_bin pur_int (pur_var 4)))) pur_int))
    (pub_cons (pus_set 6 [] (pur_call S__law_row_by (pura_cons (pur_ix (pur_var 2) (pur_bin pur_int (pur_bin pur_int (pur_var 4)))) (pura_cons pur_int pura_nil))))
    (pub_cons (pus_if [3] (purt_cmp (pur_var 5) pur_int) (pub_cons (pus_set 6 [] (pur_tup (pura_cons (pur_tup (pura_cons (pur_bin pur_int (pur_bin (pur_ix (pur_var 2) (pur_bin pur_int (pur_bin pur_int (pur_var 4)))) pur_int)) (pura_cons (pur_bin pur_int (pur_bin pur_int (pur_bin (pur_var 5) pur_int))) pura_nil))) pura_nil)))
    (pub_one (pus_for [] (puri_range1 T.n_range (pura_cons (pur_blt blt_len T.n_len (pura_cons (pur_var 1) pura_nil)) pura_nil)) (pug_name 7) (pub_one (pus_if [3] (purt_cmp (pur_bin (pur_bin (pur_ix (pur_var 2) (pur_bin pur_int (pur_bin pur_int (pur_var 4)))) (pur_bin pur_int (pur_bin pur_int (pur_var 7)))) pur_int) pur_int) (pub_one (pus_set 6 [] (pur_call S__law_times (pura_cons (pur_var 6) (pura_cons (pur_ix (pur_var 1) (pur_var 7)) pura_nil))))) pub_nil))))) pub_nil)
    (pub_cons (pus_if [3] (purt_w (purw_and (purt_cmp (pur_var 5) pur_int) (purw_and1 (purt_cmp (pur_blt blt_len T.n_len (pura_cons (pur_var 6) pura_nil)) pur_int)))) (pub_one (pus_set 6 [] (pur_call S__law_times (pura_cons (pur_var 6) (pura_cons (pur_var 6) pura_nil))))) pub_nil)
    (pub_one (pus_append 3 [] (pur_var 6))))))))
    (pub_one (pus_ret [3] (pur_var 3))))))) (fun Fn hFn => ?_)
  intro x rs hr4 hr
  subst hFn
  refine runD_ret_ex1 (k := fun ts : List Al.Poly => .list (ts.map rowD)) ?_
  obtain ⟨xs, hxl, hx, ex⟩ := h__law_stream x 19 (by decide)
  have es' : F__law_stream [.int x, .int 19] = .ok (.list (xs.map .int)) := ex
  have ixx : ∀ i : Nat, i < 19 → atI (xs.map PyData.int) (i : Int) = some (.int (Al.gi xs i)) := fun i hi => atI_nat (intsL_get (by omega))
  have ix0 : atI (xs.map PyData.int) 0 = some (.int (Al.gi xs 0)) := ixx 0 (by omega)
  have ixv : ∀ (ds : List PyData) (k : Int), ixV (.list ds) (.int k) = (match atI ds k with | some d => .ok d | none => .no) := fun _ _ => rfl
  have hlr : lenF [.list (rs.map rowD)] = .ok (.int (rs.length : Int)) := by simp
  have hz0 : szOk 0 = true := szOk_of (by decide)
  have hz1 : szOk 1 = true := szOk_of (by decide)
  have hz2 : szOk 2 = true := szOk_of (by decide)
  have tb : ∀ k : Bool, truth (.bool k) = .ok k := fun _ => rfl
  have b10 : ∀ a b : PyData, atI [a, b] 0 = some a := fun _ _ => rfl
  have b11 : ∀ a b : PyData, atI [a, b] 1 = some b := fun _ _ => rfl
  have dk : ∀ (i : Int) {j : Int}, j ≠ 0 → divOk i j = true := fun i j h => divOk_ne h
  have irow : ∀ i : Nat, i < rs.length → ∃ r, Sz 4 18 r ∧ atI (rs.map rowD) (i : Int) = some (rowD r) := fun i hi =>
    ⟨rs[i], hr _ (List.getElem_mem hi), atI_nat (by rw [List.getElem?_map, List.getElem?_eq_getElem hi]; rfl)⟩
  obtain ⟨n, hn, en⟩ : ∃ n : Nat, n ≤ 6 ∧ ((((Al.gi xs 0).fdiv 4).fmod 8 = 0 ∧ n = 6) ∨ (¬ ((Al.gi xs 0).fdiv 4).fmod 8 = 0 ∧ (Al.gi xs 0).fmod 4 = (n : Int))) := by
    have h1 := fm_lo (Al.gi xs 0) (m := 4) (by decide)
    have h2 := fm_hi (Al.gi xs 0) (m := 4) (by decide)
    by_cases c : ((Al.gi xs 0).fdiv 4).fmod 8 = 0
    · exact ⟨6, by decide, .inl ⟨c, rfl⟩⟩
    · exact ⟨((Al.gi xs 0).fmod 4).toNat, by omega, .inr ⟨c, by omega⟩⟩
  have rn := range1_run n (by omega)
  have rr := range1_run rs.length (by omega)
  let SS := fun (ts : List Al.Poly) (o4 o5 o6 o7 : Option (PyData × Bool)) => ([some (.int x, false), some (.list (rs.map rowD), false), some (.list (xs.map .int), false), some (.list (ts.map rowD), true), o4, o5, o6, o7] : SEn)
  refine seq_split_ex (fun se => se = [some (.int x, false), some (.list (rs.map rowD), false), some (.list (xs.map .int), false), none, none, none, none, none]) ⟨_, ?_, rfl⟩ ?_
  · simp -implicitDefEqProofs [startE, es', storeV, lf, lfA, lfA_ints]
  rintro se rfl
  refine seq_split_ex (fun se => se = SS [] none none none none) ⟨_, ?_, rfl⟩ ?_
  · simp -implicitDefEqProofs [SS, hz0, storeL]
  rintro se rfl
  refine seq_split_ex (fun se => ∃ (ts : List Al.Poly) (o4 o5 o6 o7 : Option (PyData × Bool)), (ts.length ≤ 6 ∧ ∀ t ∈ ts, Sz 21 420 t) ∧ se = SS ts o4 o5 o6 o7) ?_ ?_
  · have ern : (ixV (.list [.int ((Al.gi xs 0).fmod 4), .int 6]) (.int (if ((Al.gi xs 0).fdiv 4).fmod 8 = 0 then 1 else 0))) = .ok (.int (n : Int)) := by
      rcases en with ⟨c, rfl⟩ | ⟨c, e⟩
      · rw [if_pos c]; rfl
      · rw [if_neg c, e]; rfl
    simp -implicitDefEqProofs [SS, (ixv (xs.map .int)), ix0, oI_mod, oI_div (dk _ _), cI_eq, hz2, ern, rn, -lenF, -ixV]
    generalize hF : forD _ _ _ _ = r
    have := forD_rule hF (fun i se => ∃ (ts : List Al.Poly) (o4 o5 o6 o7 : Option (PyData × Bool)), (ts.length = i ∧ ∀ t ∈ ts, Sz 21 420 t) ∧ se = SS ts o4 o5 o6 o7)
      (fun r => ∃ (ts : List Al.Poly) (o4 o5 o6 o7 : Option (PyData × Bool)), (ts.length ≤ 6 ∧ ∀ t ∈ ts, Sz 21 420 t) ∧ r = .next (SS ts o4 o5 o6 o7))
      ⟨[], none, none, none, none, ⟨rfl, fun t ht => by cases ht⟩, rfl⟩ ?_ ?_
    · obtain ⟨ts, o4, o5, o6, o7, h1, rfl⟩ := this
      exact ⟨_, rfl, ts, h1, o4, o5, o6, o7, rfl⟩
    · rintro i d se hi ⟨ts, o4, o5, o6, o7, ⟨htl, hts⟩, rfl⟩
      obtain ⟨hil, rfl⟩ := map_get hi
      have ixa : ∀ c : Nat, c ≤ 3 → atI (xs.map PyData.int) ((c : Int) + 3 * (i : Int)) = some (.int (Al.gi xs (c + 3 * i))) := fun c hc => by
        rw [show (c : Int) + 3 * (i : Int) = ((c + 3 * i : Nat) : Int) by omega]
        exact ixx _ (by omega)
      have ia1 : atI (xs.map PyData.int) (1 + 3 * (i : Int)) = some (.int (Al.gi xs (1 + 3 * i))) := ixa 1 (by decide)
      have ia2 : atI (xs.map PyData.int) (2 + 3 * (i : Int)) = some (.int (Al.gi xs (2 + 3 * i))) := ixa 2 (by decide)
      have ia3 : atI (xs.map PyData.int) (3 + 3 * (i : Int)) = some (.int (Al.gi xs (3 + 3 * i))) := ixa 3 (by decide)
      have m3 : mulOk 3 (i : Int) = true := mulOk_l (by decide)
      generalize Al.gi xs (1 + 3 * i) = y1 at *
      generalize Al.gi xs (2 + 3 * i) = y2 at *
      generalize Al.gi xs (3 + 3 * i) = y3 at *
      obtain ⟨w, hw⟩ : ∃ w : Int, w = y1.fmod 6 := ⟨_, rfl⟩
      obtain ⟨p0, hp0, ep⟩ := h__law_row_by y2 3 (by decide)
      have ep' : F__law_row_by [.int y2, .int 3] = .ok (rowD p0) := ep
      have sp0 : Sz 13 200 p0 := (Sz.by_row hp0).up (by decide) (by decide)
      refine ⟨SS ts (some (.int (i : Int), false)) o5 o6 o7, rfl, ?_⟩
      have key : ∀ {r : SR}, (∃ x : Al.Poly × Option (PyData × Bool) × Option (PyData × Bool) × Option (PyData × Bool), Sz 21 420 x.1 ∧ r = .next (SS (ts ++ [x.1]) (some (.int (i : Int), false)) x.2.1 x.2.2.1 x.2.2.2)) → stepQ (fun se => ∃ (ts : List Al.Poly) (o4 o5 o6 o7 : Option (PyData × Bool)), (ts.length = i + 1 ∧ ∀ t ∈ ts, Sz 21 420 t) ∧ se = SS ts o4 o5 o6 o7) (fun r => ∃ (ts : List Al.Poly) (o4 o5 o6 o7 : Option (PyData × Bool)), (ts.length ≤ 6 ∧ ∀ t ∈ ts, Sz 21 420 t) ∧ r = .next (SS ts o4 o5 o6 o7)) r := by
        rintro r ⟨⟨t, o5, o6, o7⟩, st, rfl⟩
        refine ⟨ts ++ [t], _, _, _, _, ⟨by rw [List.length_append, List.length_singleton, htl], fun u hu => ?_⟩, rfl⟩
        rcases List.mem_append.mp hu with z | z
        · exact hts u z
        · rw [List.mem_singleton.mp z]; exact st
      apply key
      let S1 := SS ts (some (.int (i : Int), false))
      refine seq_split_ex (fun se => se = S1 (some (.int w, false)) o6 o7) ⟨_, ?_, rfl⟩ ?_
      · simp -implicitDefEqProofs [S1, SS, ixv, oI_mul m3, oI_add, ia1, oI_mod, ← hw, storeV, lf, lfA, -ixV, -lenF]
      rintro se rfl
      refine seq_split_ex (fun se => se = S1 (some (.int w, false)) (some (rowD p0, false)) o7) ⟨_, ?_, rfl⟩ ?_
      · simp -implicitDefEqProofs [S1, SS, ixv, oI_mul m3, oI_add, ia2, ep', storeV, lf, lfA, -ixV, -lenF]
      rintro se rfl
      let S2 := fun (p : Al.Poly) (o7 : Option (PyData × Bool)) => S1 (some (.int w, false)) (some (rowD p, false)) o7
      refine seq_split_ex (fun se => ∃ (p : Al.Poly) (o7 : Option (PyData × Bool)), Sz 13 200 p ∧ se = S2 p o7) ?_ ?_
      · by_cases c : 1 < w
        · obtain ⟨a, ha1, ha2, ha⟩ : ∃ a : Int, 1 ≤ a ∧ a ≤ 5 ∧ 1 + y3.fmod 5 = a := by
            have h1 := fm_lo y3 (m := 5) (by decide)
            have h2 := fm_hi y3 (m := 5) (by decide)
            exact ⟨_, by omega, by omega, rfl⟩
          obtain ⟨b, hb1, hb⟩ : ∃ b : Int, (b = 1 ∨ b = 7) ∧ 1 + 6 * w.fmod 2 = b := by
            have h1 := fm_lo w (m := 2) (by decide)
            have h2 := fm_hi w (m := 2) (by decide)
            exact ⟨_, by omega, rfl⟩
          have efr := fr_small ha1 ha2 hb1
          have efn := fr_small_ne (a := a) (b := b) ha1 hb1
          obtain ⟨q1, q2⟩ := num_le' (a := a) (b := b) (by omega)
          generalize hq : ((a : Rat) / (b : Rat)) = q at *
          have sq : Sz 1 4 (Al.C q) := by
            have := sz_C (j := 3) (a := q) (Sz.one (n := 1) (k := 1) (by decide) (by decide)) (Nat.lt_of_le_of_lt (show _ ≤ 5 by omega) (by decide)) (Nat.lt_of_le_of_lt (show _ ≤ 7 by omega) (by decide))
            rw [show Al.C q * 1 = Al.C q by grind] at this
            exact this
          have m6 : mulOk 6 (w.fmod 2) = true := mulOk_l (by decide)
          simp -implicitDefEqProofs [S1, SS, cI_gt, c, ixv, oI_mul m3, oI_add, ia3, oI_mod, ha, oI_mul m6, hb, hz1, hz2, storeV, lf, lfA, hlr, rr, -ixV, -lenF]
          generalize hG : forD _ _ _ _ = r
          have := forD_rule hG (fun j se => ∃ (p : Al.Poly) (o7 : Option (PyData × Bool)), Sz (3 * j + 1) (4 + 28 * j) p ∧ se = S2 p o7)
            (fun r => ∃ (p : Al.Poly) (o7 : Option (PyData × Bool)), Sz 13 200 p ∧ r = .next (S2 p o7))
            ⟨Al.C q, o7, sq, by simp only [S2, S1, SS]; rw [rowD_C efn, efr]; rcases o7 with _ | ⟨d, _ | _⟩ <;> rfl⟩ ?_ ?_
          · obtain ⟨p, o7, h1, rfl⟩ := this
            exact ⟨_, rfl, p, h1, o7, rfl⟩
          · rintro j d se hj ⟨p, o7, sp, rfl⟩
            obtain ⟨hjl, rfl⟩ := map_get hj
            obtain ⟨f, sf, ef⟩ := irow j hjl
            have m5 : mulOk 5 (j : Int) = true := mulOk_l (by decide)
            have d5 : divOk y2 (8 + 5 * (j : Int)) = true := divOk_ne (by omega)
            refine ⟨_, rfl, ?_⟩
            by_cases c2 : (y2.fdiv (8 + 5 * (j : Int))).fmod 2 = 0
            · have tm := h__law_times.sz sp sf (by omega) (by omega) (by omega)
              have sm := sp.mul1 (show Sz (3 + 1) 18 f from sf) (by omega)
              refine stepQ_next (S2 (p * f) (some (.int (j : Int), false))) ?_ ⟨p * f, _, sm.up (by omega) (by omega), rfl⟩
              simp -implicitDefEqProofs [S2, S1, SS, ixv, oI_mul m3, oI_add, ia2, oI_mul m5, oI_div d5, oI_mod, cI_eq, c2, ef, tm, storeV, -ixV, -lenF]
            · refine stepQ_next (S2 p (some (.int (j : Int), false))) ?_ ⟨p, _, sp.up (by omega) (by omega), rfl⟩
              simp -implicitDefEqProofs [S2, S1, SS, ixv, oI_mul m3, oI_add, ia2, oI_mul m5, oI_div d5, oI_mod, cI_eq, c2, -ixV, -lenF]
          · rintro se ⟨p, o7, sp, rfl⟩
            rw [List.length_map, List.length_range] at sp
            exact ⟨p, o7, sp.up (by omega) (by omega), rfl⟩
        · refine ⟨_, ?_, p0, o7, sp0, rfl⟩
          simp -implicitDefEqProofs [S2, S1, SS, cI_gt, c, -ixV, -lenF]
      rintro se ⟨p, o7, sp, rfl⟩
      refine seq_split_ex (fun se => ∃ p : Al.Poly, Sz 21 420 p ∧ se = S2 p o7) ?_ ?_
      · by_cases c1 : w = 5
        · by_cases c2 : (p.len : Int) < 8
          · have s8 : Sz (7 + 1) 200 p := ⟨by omega, sp.2⟩
            have tm := h__law_times.sz sp sp (by decide) (by decide) (by decide)
            refine ⟨_, ?_, p * p, (s8.mul1 s8 (by decide)).up (by decide) (by decide), rfl⟩
            simp -implicitDefEqProofs [S2, S1, SS, cI_eq, cI_lt, c1, c2, hlenD, tm, storeV, -ixV, -lenF]
          · refine ⟨_, ?_, p, sp.up (by decide) (by decide), rfl⟩
            simp -implicitDefEqProofs [S2, S1, SS, cI_eq, cI_lt, c1, c2, hlenD, -ixV, -lenF]
        · refine ⟨_, ?_, p, sp.up (by decide) (by decide), rfl⟩
          simp -implicitDefEqProofs [S2, S1, SS, cI_eq, c1, -ixV, -lenF]
      rintro se ⟨p, sp, rfl⟩
      refine ⟨(p, some (.int w, false), some (rowD p, false), o7), sp, ?_⟩
      have hzt : szOk (ts.length + 1) = true := szOk_of (by omega)
      simp -implicitDefEqProofs [S2, S1, SS, hzt, lf, lfA, -ixV, -lenF]
    · rintro se ⟨ts, o4, o5, o6, o7, ⟨h1, h2⟩, rfl⟩
      exact ⟨ts, _, _, _, _, ⟨by rw [h1]; simpa using hn, h2⟩, rfl⟩
  rintro se ⟨ts, o4, o5, o6, o7, h1, rfl⟩
  refine ⟨ts, h1, ?_⟩
  simp -implicitDefEqProofs [SS]
def Φ__law_right (Fn : List PyData → R PyData) : Prop := ∀ (F : Al.Poly) (L : List (Al.Poly × Nat)) (ts : List Al.Poly), F ≠ 0 → Sz 21 1220 F → AF (Al.unit F) L ts → (∀ t ∈ ts, Sz 21 10000 t) → ts.length ≤ 100 → Fn [.list (L.map prtD), rowD F, .list (ts.map rowD)] = .ok (.bool true)
theorem spec__law_right (T : Txt D) : Spec D 41 "_law_right" 3 Φ__law_right := by
  obtain ⟨F__law_times, S__law_times, h__law_times⟩ := spec__law_times T
  obtain ⟨F__law_scale, S__law_scale, h__law_scale⟩ := spec__law_scale T
  obtain ⟨F__law_power, S__law_power, h__law_power⟩ := spec__law_power T
  obtain ⟨F__law_key, S__law_key, h__law_key⟩ := spec__law_key T
  obtain ⟨F__law_one_right, S__law_one_right, h__law_one_right⟩ := spec__law_one_right T
  obtain ⟨F__law_shared, S__law_shared, h__law_shared⟩ := spec__law_shared T
  refine Br.spec_named (fn_of' T.d__law_right sc__law_right (pub_cons (pus_set 3 [] (pur_tup (pura_cons (pur_tup (pura_cons pur_int (pura_cons pur_int pura_nil))) pura_nil)))
    (pub_cons (pus_setL 4 [] (purl_lst pura_nil))
    (pub_cons (pus_for [] (puri_seq (pur_var 0)) (pug_name 5) (pub_cons (pus_if [4] (purt_w (purw_or (purt_not (purt_val (pur_isa (T := "tuple") T.n_isinstance T.n_tuple (pur_var 5)))) (purw_or (purt_cmp (pur_blt blt_len T.n_len (pura_cons (pur_var 5) pura_nil)) pur_int) (purw_or1 (purt_not (purt_val (pur_call S__law_one_right (pura_cons (pur_ix (pur_var 5) pur_int) (pura_cons (pur_ix (pur_var 5) pur_int) (pura_cons (pur_var 2) pura_nil)))))))))) (pub_one (pus_ret [4] pur_bool)) pub_nil)
    (pub_cons (pus_if [4] (purt_cmp (pur_blt blt_len T.n_len (pura_cons (pur_call S__law_shared (pura_cons (pur_ix (pur_var 5) pur_int) (pura_cons (pur_var 3) pura_nil))) pura_nil)) pur_int) (pub_one (pus_ret [4] pur_bool)) pub_nil)
    (pub_cons (pus_set 3 [] (pur_call S__law_times (pura_cons (pur_var 3) (pura_cons (pur_call S__law_power (pura_cons (pur_ix (pur_var 5) pur_int) (pura_cons (pur_ix (pur_var 5) pur_int) pura_nil))) pura_nil))))
    (pub_one (pus_append 4 [] (pur_call S__law_key (pura_cons (pur_ix (pur_var 5) pur_int) (pura_cons (pur_ix (pur_var 5) pur_int) (pura_cons (pur_var 2) pura_nil))))))))))
    (pub_cons (pus_for [4] (puri_range2 T.n_range (pura_cons pur_int (pura_cons (pur_blt blt_len T.n_len (pura_cons (pur_var 4) pura_nil)) pura_nil))) (pug_name 6) (pub_one (pus_if [4] (purt_not (purt_cmp (pur_ix (pur_var 4) (pur_bin (pur_var 6) pur_int)) (pur_ix (pur_var 4) (pur_var 6)))) (pub_one (pus_ret [4] pur_bool)) pub_nil)))
    (pub_one (pus_ret [4] (pur_cmp (pur_call S__law_scale (pura_cons (pur_var 3) (pura_cons (pur_ix (pur_var 1) (pur_neg pur_int)) pura_nil))) (pur_var 1))))))))) (fun Fn hFn => ?_)
  intro F L ts hF sF af st htl
  subst hFn
  refine runD_ret ?_
  have hL1 : ∀ x ∈ L, Al.Led x.1 := fun x hx => (af.cf.each x hx).1
  have hpl := prd_len L fun x hx => ⟨(af.cf.each x hx).1, (af.cf.each x hx).2.1, (af.cf.each x hx).2.2.1⟩
  have sz : ∀ {d : Al.Poly}, Al.Dvd d (prd L) → Al.Led d → Sz 21 1509 d := fun h l => dvd_sz sF hF (h.trans (by rw [af.all]; exact unit_dvd hF)) l (by decide)
  have sP := sz ⟨1, by grind⟩ (prd_led L hL1)
  have hLl : L.length ≤ 21 := by have := sP.1; omega
  have hz1 : szOk 1 = true := szOk_of (by decide)
  have hz2 : szOk 2 = true := szOk_of (by decide)
  have hz0 : szOk 0 = true := szOk_of (by decide)
  have tb : ∀ k : Bool, truth (.bool k) = .ok k := fun _ => rfl
  have one1 : lenF [rowD (1 : Al.Poly)] = .ok (.int 1) := by rw [hlenD, Al.Poly.len_one]; rfl
  let kd := fun x : Al.Poly × Nat => PyData.list ((key ts x).map PyData.int)
  let SS := fun (p : Al.Poly) (M : List (Al.Poly × Nat)) (o5 o6 : Option (PyData × Bool)) => ([some (.list (L.map prtD), false), some (rowD F, false), some (.list (ts.map rowD), false), some (rowD p, false), some (.list (M.map kd), true), o5, o6] : SEn)
  refine seq_split (fun se => se = [some (.list (L.map prtD), false), some (rowD F, false), some (.list (ts.map rowD), false), some (rowD 1, false), none, none, none]) ⟨_, ?_, rfl⟩ ?_
  · simp -implicitDefEqProofs [startE, hz1, hz2, storeV, lf, lfA, rowD_one]
  rintro se rfl
  refine seq_split (fun se => se = SS 1 [] none none) ⟨_, ?_, rfl⟩ ?_
  · simp -implicitDefEqProofs [SS, hz0, storeL]
  rintro se rfl
  refine seq_split (fun se => ∃ o5 : Option (PyData × Bool), se = SS (prd L) L o5 none) ?_ ?_
  · simp -implicitDefEqProofs [SS, -ixV, -lenF]
    generalize hFo : forD _ _ _ _ = r
    have := forD_rule hFo (fun i se => ∃ o5 : Option (PyData × Bool), se = SS (prd (L.take i)) (L.take i) o5 none)
      (fun r => ∃ o5 : Option (PyData × Bool), r = .next (SS (prd L) L o5 none))
      ⟨none, by simp only [SS]; rw [List.take_zero, prd_nil]; rfl⟩ ?_ ?_
    · obtain ⟨o5, rfl⟩ := this
      exact ⟨_, rfl, o5, rfl⟩
    · rintro i d se hi ⟨o5, rfl⟩
      rw [List.getElem?_map] at hi
      obtain ⟨x, hx, rfl⟩ : ∃ x, L[i]? = some x ∧ d = prtD x := by
        cases z : L[i]? with
        | none => rw [z] at hi; cases hi
        | some q => rw [z] at hi; exact ⟨q, rfl, (Option.some.inj hi).symm⟩
      have hxm := List.mem_of_getElem? hx
      have hil := (List.getElem?_eq_some_iff.mp hx).1
      obtain ⟨a, b, c, f⟩ := af.cf.each x hxm
      have dx := prd_mem hxm
      have lp := Al.led_pow a x.2
      have spw := sz dx lp
      have hpw := pow_len b x.2
      have he20 : x.2 ≤ 20 := by have := spw.1; omega
      have dx1 : Al.Dvd x.1 (prd L) := by
        refine Al.Dvd.trans ⟨x.1 ^ (x.2 - 1), ?_⟩ dx
        rw [← Al.pow_succ', show x.2 - 1 + 1 = x.2 by omega]
      have sx := sz dx1 a
      have lt := prd_led (L.take i) fun y hy => hL1 y (List.mem_of_mem_take hy)
      have sT := sz (prd_take L i) lt
      have e1 := h__law_one_right x.1 x.2 ts a b c f (sx.up (Nat.le_refl _) (by decide)) (fun t ht => ⟨st t ht, af.tf x hxm t ht⟩)
      have cp : Al.Cop x.1 (prd (L.take i)) := by
        refine (prd_cop _ fun y hy => ?_).symm
        obtain ⟨j, hj⟩ := List.mem_iff_getElem?.mp hy
        have hjl := (List.getElem?_eq_some_iff.mp hj).1
        rw [List.length_take] at hjl
        rw [List.getElem?_take_of_lt (by omega)] at hj
        have := List.pairwise_iff_getElem.mp af.cf.apart j i (List.getElem?_eq_some_iff.mp hj).1 hil (by omega)
        rw [(List.getElem?_eq_some_iff.mp hj).2, (List.getElem?_eq_some_iff.mp hx).2] at this
        exact this
      have e2 := h__law_shared x.1 (prd (L.take i)) 20 1509 (by decide) sx sT (by decide)
      rw [Al.cop_gc.mp cp] at e2
      have e3 := (h__law_power x.1 20 1509 x.2 sx (by decide) (by decide) (by omega) (by omega)).2
      have e4 := h__law_times.sz sT spw (by decide) (by decide) (by decide)
      have e5 := h__law_key x.1 x.2 ts a.ne (sx.up (Nat.le_refl _) (by decide)) (fun t ht => (st t ht).up (Nat.le_refl _) (by decide)) htl
      have ht1 : prd (L.take (i + 1)) = prd (L.take i) * x.1 ^ x.2 := by
        rw [List.take_add_one, hx, prd_append]
        show prd (L.take i) * (x.1 ^ x.2 * prd []) = _
        rw [prd_nil]
        grind
      have ht2 : (L.take (i + 1)).map kd = (L.take i).map kd ++ [kd x] := by
        rw [List.take_add_one, hx, List.map_append]
        rfl
      have hzi : szOk (min i L.length + 1) = true := szOk_of (by omega)
      have i0 : ixV (prtD x) (.int 0) = .ok (rowD x.1) := rfl
      have i1 : ixV (prtD x) (.int 1) = .ok (.int (x.2 : Int)) := rfl
      have it : isA "tuple" (prtD x) = .ok (.bool true) := rfl
      have l2 : lenF [prtD x] = .ok (.int 2) := rfl
      refine ⟨_, rfl, stepQ_next (SS (prd (L.take (i + 1))) (L.take (i + 1)) (some (prtD x, false)) none) ?_ ⟨_, rfl⟩⟩
      simp only [SS]
      rw [ht1, ht2]
      have hzi' : szOk (((L.take i).map kd).length + 1) = true := szOk_of (by rw [List.length_map, List.length_take]; omega)
      have ek : kd x = .list ((key ts x).map PyData.int) := rfl
      generalize (L.take i).map kd = K at *
      simp -implicitDefEqProofs [i0, i1, it, l2, tb, e1, e2, e3, e4, e5, one1, cI_ne, storeV, lf, lfA, hzi', ek, -ixV, -lenF]
    · rintro se ⟨o5, rfl⟩
      rw [List.length_map, List.take_length]
      exact ⟨o5, rfl⟩
  rintro se ⟨o5, rfl⟩
  have rr := range2_run 1 L.length (by decide) (by omega)
  have rr' : range2F [.int 1, .int (L.length : Int)] = _ := rr
  let SF := fun (o5 o6 : Option (PyData × Bool)) => ([some (.list (L.map prtD), false), some (rowD F, false), some (.list (ts.map rowD), false), some (rowD (prd L), false), some (.list (L.map kd), false), o5, o6] : SEn)
  refine seq_split (fun se => ∃ o6 : Option (PyData × Bool), se = SF o5 o6) ?_ ?_
  · have hll : lenF [.list (L.map kd)] = .ok (.int (L.length : Int)) := by simp
    simp -implicitDefEqProofs [SS, hll, rr', -lenF, -ixV]
    generalize hFo : forD _ _ _ _ = r
    have := forD_rule hFo (fun i se => ∃ o6 : Option (PyData × Bool), se = SF o5 o6)
      (fun r => ∃ o6 : Option (PyData × Bool), r = .next (SF o5 o6)) ⟨none, by rcases o5 with _ | ⟨d, _ | _⟩ <;> rfl⟩ ?_ ?_
    · obtain ⟨o6, rfl⟩ := this
      exact ⟨_, rfl, o6, rfl⟩
    · rintro i d se hi ⟨o6, rfl⟩
      obtain ⟨hil, rfl⟩ : i < L.length - 1 ∧ d = .int (1 + (i : Int)) := by
        rw [List.getElem?_map] at hi
        cases z : (List.range (L.length - 1))[i]? with
        | none => rw [z] at hi; cases hi
        | some q =>
          have h0 := (List.getElem?_eq_some_iff.mp z).1
          rw [List.length_range] at h0
          rw [List.getElem?_range h0] at z
          cases z
          rw [List.getElem?_range h0] at hi
          refine ⟨h0, ?_⟩
          have := Option.some.inj hi
          rw [← this]
          try simp
      have h1 : i < L.length := by omega
      have h2 : i + 1 < L.length := by omega
      have k1 : atI (L.map kd) (i : Int) = some (kd L[i]) := atI_nat (by rw [List.getElem?_map, List.getElem?_eq_getElem h1]; rfl)
      have k2 : atI (L.map kd) (1 + (i : Int)) = some (kd L[i + 1]) := by
        rw [show 1 + (i : Int) = ((i + 1 : Nat) : Int) by omega]
        exact atI_nat (by rw [List.getElem?_map, List.getElem?_eq_getElem h2]; rfl)
      have kl := List.pairwise_iff_getElem.mp af.kf i (i + 1) h1 h2 (by omega)
      have lt : cmpV .Lt (kd L[i]) (kd L[i + 1]) = .ok (.bool true) := lt_ints kl
      have oi : opV .Sub (.int (1 + (i : Int))) (.int 1) = .ok (.int (i : Int)) := by rw [oI_sub, show 1 + (i : Int) - 1 = (i : Int) by omega]
      have ixv : ∀ (ds : List PyData) (k : Int), ixV (.list ds) (.int k) = (match atI ds k with | some d => .ok d | none => .no) := fun _ _ => rfl
      have bo : boolOf (.bool true) = .ok true := rfl
      refine ⟨_, rfl, stepQ_next (SF o5 (some (.int (1 + (i : Int)), false))) ?_ ⟨_, rfl⟩⟩
      generalize kd L[i] = y1 at *
      generalize kd L[i + 1] = y2 at *
      rcases o5 with _ | ⟨d5, _ | _⟩ <;>
      simp -implicitDefEqProofs [SF, oi, ixv, k1, k2, lt, bo, -ixV]
    · rintro se ⟨o6, rfl⟩
      exact ⟨o6, rfl⟩
  rintro se ⟨o6, rfl⟩
  have hv : F.val ≠ [] := fun z => hF (Al.Poly.len_eq_zero.mp (by show F.val.length = 0; rw [z]; rfl))
  have hix : ixV (rowD F) (.int (-1)) = .ok (frR F.ld) := by
    have := atI_lastF hv
    unfold rowD frsT
    simp [this]
    rfl
  have ff := sF.fit (by decide)
  have fu := sP.fit (by decide)
  have esc : F__law_scale [rowD (prd L), frR F.ld] = _ := h__law_scale (prd L).val F.ld (by show (prd L).len ≤ _; have := sP.1; omega) fu.srl (ff.sr _)
  rw [Al.ofL_val, af.all, unit_back hF] at esc
  have eqF : cmpV .Eq (rowD F) (rowD F) = .ok (.bool true) := by rw [eq_rowD]; simp
  simp only [SF]
  rw [af.all]
  simp -implicitDefEqProofs [hix, esc, eqF, -ixV]
theorem spec_law (T : Txt D) : LawOk D 42 "law" s_law "_law_script" := by
  obtain ⟨F__law_stream, S__law_stream, h__law_stream⟩ := spec__law_stream T
  obtain ⟨F__law_factors, S__law_factors, h__law_factors⟩ := spec__law_factors T
  obtain ⟨F__law_number, S__law_number, h__law_number⟩ := spec__law_number T
  obtain ⟨F__law_scale, S__law_scale, h__law_scale⟩ := spec__law_scale T
  obtain ⟨F__law_told, S__law_told, h__law_told⟩ := spec__law_told T
  obtain ⟨F_parts, S_parts, h_parts⟩ := spec_parts T
  obtain ⟨F__law_cell_at, S__law_cell_at, h__law_cell_at⟩ := spec__law_cell_at T
  obtain ⟨F__law_many, S__law_many, h__law_many⟩ := spec__law_many T
  obtain ⟨F__law_bottom, S__law_bottom, h__law_bottom⟩ := spec__law_bottom T
  obtain ⟨F__law_right, S__law_right, h__law_right⟩ := spec__law_right T
  obtain ⟨F__law_powers, S__law_powers, h__law_powers⟩ := spec__law_powers T
  refine law_of sc_law (pub_cons (pus_set 1 [] (pur_call S__law_stream (pura_cons (pur_call S__law_cell_at (pura_cons (pur_var 0) (pura_cons pur_int pura_nil))) (pura_cons pur_int pura_nil))))
    (pub_cons (pus_set 2 [] (pur_call S__law_factors (pura_cons (pur_ix (pur_var 1) pur_int) (pura_cons (pur_call S__law_many (pura_cons (pur_ix (pur_var 1) pur_int) pura_nil)) pura_nil))))
    (pub_cons (pus_set 3 [] (pur_call S__law_number (pura_cons (pur_ix (pur_var 1) pur_int) pura_nil)))
    (pub_cons (pus_if [] (purt_cmp (pur_ix (pur_var 3) pur_int) pur_int) (pub_one (pus_set 3 [] (pur_tup (pura_cons (pur_neg pur_int) (pura_cons pur_int pura_nil))))) pub_nil)
    (pub_cons (pus_set 4 [] (pur_call S__law_scale (pura_cons (pur_call S__law_bottom (pura_cons (pur_var 2) (pura_cons (pur_call S__law_powers (pura_cons (pur_call S__law_cell_at (pura_cons (pur_var 0) (pura_cons pur_int pura_nil))) (pura_cons (pur_var 2) pura_nil))) pura_nil))) (pura_cons (pur_var 3) pura_nil))))
    (pub_cons (pus_if [] (purt_cmp (pur_bin (pur_ix (pur_var 1) pur_int) pur_int) pur_int) (pub_one (pus_set 4 [] (pur_tup (pura_cons (pur_var 3) pura_nil)))) pub_nil)
    (pub_cons (pus_set 5 [] (pur_call S__law_told (pura_cons (pur_call S__law_cell_at (pura_cons (pur_var 0) (pura_cons pur_int pura_nil))) (pura_cons (pur_var 2) pura_nil))))
    (pub_cons (pus_set 6 [] (pur_bltT blt_list T.n_list (pura_cons (pur_var 5) pura_nil)))
    (pub_cons (pus_set 7 [] (pur_call S_parts (pura_cons (pur_var 4) (pura_cons (pur_var 6) pura_nil))))
    (pub_one (pus_ret [] (pur_and (pur_isa (T := "list") T.n_isinstance T.n_list (pur_var 7)) (pur_and (pur_cmp (pur_var 6) (pur_var 5)) (pur_one (pur_call S__law_right (pura_cons (pur_var 7) (pura_cons (pur_var 4) (pura_cons (pur_var 5) pura_nil)))))))))))))))))) (fun ks hks => ?_)
  have cell : ∀ k : Nat, F__law_cell_at [.list (ks.map .int), .int (k : Int)] = .ok (.int (ks.getD k 0)) := fun k => h__law_cell_at ks k
  have e0 : F__law_cell_at [.list (ks.map .int), .int 0] = .ok (.int (ks.getD 0 0)) := cell 0
  have e1 : F__law_cell_at [.list (ks.map .int), .int 1] = .ok (.int (ks.getD 1 0)) := cell 1
  have e2 : F__law_cell_at [.list (ks.map .int), .int 2] = .ok (.int (ks.getD 2 0)) := cell 2
  clear cell
  generalize ks.getD 0 0 = k0 at e0
  generalize ks.getD 1 0 = k1 at e1
  generalize ks.getD 2 0 = k2 at e2
  generalize ks.map PyData.int = kd at e0 e1 e2 ⊢
  obtain ⟨xs, hxl, hx, ex⟩ := h__law_stream k0 4 (by decide)
  have es : F__law_stream [.int k0, .int 4] = .ok (.list (xs.map .int)) := ex
  have ix : ∀ i : Nat, i < 4 → atI (xs.map PyData.int) (i : Int) = some (.int (Al.gi xs i)) := fun i hi => atI_nat (intsL_get (by omega))
  have ix0 : atI (xs.map PyData.int) 0 = some (.int (Al.gi xs 0)) := ix 0 (by decide)
  have ix1 : atI (xs.map PyData.int) 1 = some (.int (Al.gi xs 1)) := ix 1 (by decide)
  have ix2 : atI (xs.map PyData.int) 2 = some (.int (Al.gi xs 2)) := ix 2 (by decide)
  have ix3 : atI (xs.map PyData.int) 3 = some (.int (Al.gi xs 3)) := ix 3 (by decide)
  have hx2 : 0 ≤ Al.gi xs 2 ∧ Al.gi xs 2 < M31 := hx _ (by
    unfold Al.gi
    rw [List.getD_eq_getElem?_getD, List.getElem?_eq_getElem (by omega)]
    exact List.getElem_mem _)
  obtain ⟨m, ⟨m1, m4⟩, em⟩ := h__law_many (Al.gi xs 1)
  obtain ⟨ls, ⟨lsl, a0, c0, c1, c5, hls⟩, els⟩ := h__law_factors (Al.gi xs 0) m m4
  have hrs : ∀ r ∈ ls.map Al.ofL, Al.Led r ∧ (2 ≤ r.len ∧ r.len ≤ 4) ∧ Sz 4 18 r := fun r hr => by
    obtain ⟨l, hl, rfl⟩ := List.mem_map.mp hr
    obtain ⟨i, hi⟩ := List.mem_iff_getElem?.mp hl
    have hil := (List.getElem?_eq_some_iff.mp hi).1
    obtain ⟨g1, g2, g3⟩ := hls i l hi
    obtain ⟨f1, f2, f3, f4⟩ := fkl_last g1
    exact ⟨f2, ⟨by omega, by omega⟩, fkl_sz4 g1 (by omega) g3⟩
  have hrl : (ls.map Al.ofL).length = m := by rw [List.length_map, lsl]
  rw [show (ls.map fun l => rowD (Al.ofL l)) = (ls.map Al.ofL).map rowD by rw [List.map_map]; rfl] at els
  generalize ls.map Al.ofL = rs at els hrs hrl
  obtain ⟨q, hq, en⟩ := h__law_number (Al.gi xs 2) hx2.1 hx2.2
  obtain ⟨ps, ⟨psl, B, hB, hps⟩, epw⟩ := h__law_powers k1 rs (by omega) (by omega) fun r hr => (hrs r hr).2.1
  obtain ⟨b, ⟨hbl, sb⟩, eb⟩ := h__law_bottom rs ps B psl (by omega) hB hps fun r hr => ⟨(hrs r hr).1, (hrs r hr).2.2⟩
  obtain ⟨ts, ⟨tsl, hts⟩, et⟩ := h__law_told k2 rs (by omega) fun r hr => (hrs r hr).2.2
  generalize rs.map rowD = RL at els epw eb et
  generalize (ps.map fun e : Nat => PyData.int (e : Int)) = PL at epw eb
  refine runD_ret ?_
  have ixv : ∀ (ds : List PyData) (k : Int), ixV (.list ds) (.int k) = (match atI ds k with | some d => .ok d | none => .no) := fun _ _ => rfl
  have hz1 : szOk 1 = true := szOk_of (by decide)
  have hz2 : szOk 2 = true := szOk_of (by decide)
  have hm : q.num.natAbs ≤ 1000000 ∧ q.den ≤ 1000 := hq
  let SS := fun (o3 o4 o5 o6 o7 : Option (PyData × Bool)) => ([some (.list kd, false), some (.list (xs.map .int), false), some (.list RL, false), o3, o4, o5, o6, o7] : SEn)
  refine seq_split (fun se => se = [some (.list kd, false), some (.list (xs.map .int), false), none, none, none, none, none, none]) ⟨_, ?_, rfl⟩ ?_
  · simp -implicitDefEqProofs [startE, e0, es, storeV, lf, lfA, lfA_ints]
  rintro se rfl
  refine seq_split (fun se => se = SS none none none none none) ⟨_, ?_, rfl⟩ ?_
  · simp -implicitDefEqProofs [SS, ixv, ix0, ix1, em, els, storeV, lf, lfA, -ixV]
  rintro se rfl
  refine seq_split (fun se => se = SS (some (frR q, false)) none none none none) ⟨_, ?_, rfl⟩ ?_
  · simp -implicitDefEqProofs [SS, ixv, ix2, en, storeV, lf, lfA, -ixV]
  rintro se rfl
  refine seq_split (fun se => ∃ a : Rat, a ≠ 0 ∧ (a.num.natAbs ≤ 1000000 ∧ a.den ≤ 1000) ∧ se = SS (some (frR a, false)) none none none none) ?_ ?_
  · by_cases c : q.num = 0
    · refine ⟨_, ?_, (-2 : Rat) / 3, by decide +kernel, by decide +kernel, rfl⟩
      have e23 : frR ((-2 : Rat) / 3) = .tuple [.int (-2), .int 3] := by
        unfold frR
        rw [show ((-2 : Rat) / 3).num = -2 by decide +kernel, show ((-2 : Rat) / 3).den = 3 by decide +kernel]
        rfl
      simp only [SS]
      rw [e23]
      simp -implicitDefEqProofs [ix_frR0, cI_eq, c, hz2, storeV, lf, lfA, -ixV]
    · refine ⟨_, ?_, q, fun z => c (by rw [z]; rfl), hm, rfl⟩
      simp -implicitDefEqProofs [SS, ix_frR0, cI_eq, c, -ixV]
  rintro se ⟨a, ha, ⟨an, ad⟩, rfl⟩
  have an2 : a.num.natAbs < 2 ^ 20 := Nat.lt_of_le_of_lt an (by decide)
  have ad2 : a.den < 2 ^ 20 := Nat.lt_of_le_of_lt ad (by decide)
  have big : ∀ n : Nat, n < 2 ^ 20 → n < 2 ^ 15960000 := fun n hn => Nat.lt_of_lt_of_le hn (Nat.pow_le_pow_right (by decide) (by decide))
  have esc : F__law_scale [rowD b, frR a] = _ := h__law_scale b.val a (by show b.len ≤ _; have := sb.1; omega) (sb.fit (by decide)).srl ⟨big _ an2, big _ ad2⟩
  rw [Al.ofL_val] at esc
  have sF1 : Sz 21 1220 (Al.C a * b) := sz_C (j := 20) sb an2 ad2
  have nF1 : Al.C a * b ≠ 0 := fun z => by
    have := Al.len_mul (Al.Poly.C_ne ha) hbl.ne
    rw [z, Al.Poly.len_zero] at this
    have := Al.Poly.len_pos.mpr (Al.Poly.C_ne ha)
    have := Al.Poly.len_pos.mpr hbl.ne
    omega
  have sF2 : Sz 21 1220 (Al.C a) := by
    have := sz_C (j := 20) (a := a) (Sz.one (n := 21) (k := 1) (by decide) (by decide)) an2 ad2
    rw [show Al.C a * 1 = Al.C a by grind] at this
    exact this.up (by decide) (by decide)
  refine seq_split (fun se => se = SS (some (frR a, false)) (some (rowD (Al.C a * b), false)) none none none) ⟨_, ?_, rfl⟩ ?_
  · simp -implicitDefEqProofs [SS, e1, epw, eb, esc, storeV, lf, lfA, -ixV]
  rintro se rfl
  refine seq_split (fun se => ∃ F : Al.Poly, F ≠ 0 ∧ Sz 21 1220 F ∧ se = SS (some (frR a, false)) (some (rowD F, false)) none none none) ?_ ?_
  · by_cases c : (Al.gi xs 3).fmod 16 = 0
    · refine ⟨_, ?_, Al.C a, Al.Poly.C_ne ha, sF2, rfl⟩
      simp only [SS]
      rw [rowD_C ha]
      simp -implicitDefEqProofs [ixv, ix3, oI_mod, cI_eq, c, hz1, storeV, lf, lfA, -ixV]
    · refine ⟨_, ?_, _, nF1, sF1, rfl⟩
      simp -implicitDefEqProofs [SS, ixv, ix3, oI_mod, cI_eq, c, -ixV]
  rintro se ⟨F, nF, sF, rfl⟩
  obtain ⟨L, hpf, ep⟩ := h_parts.2.2.2 F 20 1220 ts (by decide) sF nF (by decide) (by decide) (fun t ht => (hts t ht).up (by decide) (by decide)) (by omega)
  have af := (AF.start nF hpf).cuts ts
  rw [List.nil_append] at af
  generalize ts.foldl cutAll L = M at ep af
  have er := h__law_right F M ts nF sF af (fun t ht => (hts t ht).up (by decide) (by decide)) (by omega)
  have eqr := eq_rows ts
  have il : isA "list" (.list (M.map prtD)) = .ok (.bool true) := rfl
  have lfr := lfA_rows ts
  have lfm := lfA_prts M
  have hzt : szOk ts.length = true := szOk_of (by omega)
  have hzm : szOk (ts.map rowD).length = true := szOk_of (by rw [List.length_map]; omega)
  have llist : listF [.list (ts.map rowD)] = .ok (.list (ts.map rowD)) := by simp [listF, hzt]
  have tb : ∀ k : Bool, truth (.bool k) = .ok k := fun _ => rfl
  generalize ts.map rowD = TL at *
  generalize M.map prtD = ML at *
  simp -implicitDefEqProofs [SS, e2, et, llist, ep, er, eqr, il, storeV, lf, lfA, lfr, lfm, tb, -ixV, -listF]
theorem all_mk {l : PySem.W.OpenLaw} {w : World} {K : PySem.W.Frag} {h : Heap} {mg : Str → Option Value} {fa f0 f1 f2 f3 f4 f5 f6 f7 f8 f9 f10 f11 f12 f13 f14 f15 f16 f17 f18 f19 f20 f21 f22 f23 f24 f25 f26 f27 f28 f29 f30 f31 f32 f33 f34 f35 f36 f37 f38 f39 f40 f41 f42 f43 f44 f45 f46 f47 f48 f49 f50 f51 f52 f53 f54 f55 f56 : Addr} {C_NoRow C_Nought C_PartError : Addr} (X : K.In h) (G : h.Ns mainGlobals mg) (hfa : mg "law" = some (.ref fa))
    {od0 an0 od1 an1 od2 an2 od3 an3 od4 an4 od5 an5 od6 an6 od7 an7 od8 an8 od9 an9 od10 an10 od11 an11 od12 an12 od13 an13 od14 an14 od15 an15 od16 an16 od17 an17 od18 an18 od19 an19 od20 an20 od21 an21 od22 an22 od23 an23 od24 an24 od25 an25 od26 an26 od27 an27 od28 an28 od29 an29 od30 an30 od31 an31 od32 an32 od33 an33 od34 an34 od35 an35 od36 an36 od37 an37 od38 an38 od39 an39 od40 an40 od41 an41 od42 an42 od43 an43 od44 an44 od45 an45 od46 an46 od47 an47 od48 an48 od49 an49 od50 an50 od51 an51 od52 an52 od53 an53 od54 an54 od55 an55 od56 an56 : Option Addr} {sl0 sl1 sl2 sl3 sl4 sl5 sl6 sl7 sl8 sl9 sl10 sl11 sl12 sl13 sl14 sl15 sl16 sl17 sl18 sl19 sl20 sl21 sl22 sl23 sl24 sl25 sl26 sl27 sl28 sl29 sl30 sl31 sl32 sl33 sl34 sl35 sl36 sl37 sl38 sl39 sl40 sl41 sl42 sl43 sl44 sl45 sl46 sl47 sl48 sl49 sl50 sl51 sl52 sl53 sl54 sl55 sl56 : Array (Option Value)} {oc0 kV0 dc0 pm0 cd0 ct0 oc1 kV1 dc1 pm1 cd1 ct1 oc2 kV2 dc2 pm2 cd2 ct2 oc3 kV3 dc3 pm3 cd3 ct3 oc4 kV4 dc4 pm4 cd4 ct4 oc5 kV5 dc5 pm5 cd5 ct5 oc6 kV6 dc6 pm6 cd6 ct6 oc7 kV7 dc7 pm7 cd7 ct7 oc8 kV8 dc8 pm8 cd8 ct8 oc9 kV9 dc9 pm9 cd9 ct9 oc10 kV10 dc10 pm10 cd10 ct10 oc11 kV11 dc11 pm11 cd11 ct11 oc12 kV12 dc12 pm12 cd12 ct12 oc13 kV13 dc13 pm13 cd13 ct13 oc14 kV14 dc14 pm14 cd14 ct14 oc15 kV15 dc15 pm15 cd15 ct15 oc16 kV16 dc16 pm16 cd16 ct16 oc17 kV17 dc17 pm17 cd17 ct17 oc18 kV18 dc18 pm18 cd18 ct18 oc19 kV19 dc19 pm19 cd19 ct19 oc20 kV20 dc20 pm20 cd20 ct20 oc21 kV21 dc21 pm21 cd21 ct21 oc22 kV22 dc22 pm22 cd22 ct22 oc23 kV23 dc23 pm23 cd23 ct23 oc24 kV24 dc24 pm24 cd24 ct24 oc25 kV25 dc25 pm25 cd25 ct25 oc26 kV26 dc26 pm26 cd26 ct26 oc27 kV27 dc27 pm27 cd27 ct27 oc28 kV28 dc28 pm28 cd28 ct28 oc29 kV29 dc29 pm29 cd29 ct29 oc30 kV30 dc30 pm30 cd30 ct30 oc31 kV31 dc31 pm31 cd31 ct31 oc32 kV32 dc32 pm32 cd32 ct32 oc33 kV33 dc33 pm33 cd33 ct33 oc34 kV34 dc34 pm34 cd34 ct34 oc35 kV35 dc35 pm35 cd35 ct35 oc36 kV36 dc36 pm36 cd36 ct36 oc37 kV37 dc37 pm37 cd37 ct37 oc38 kV38 dc38 pm38 cd38 ct38 oc39 kV39 dc39 pm39 cd39 ct39 oc40 kV40 dc40 pm40 cd40 ct40 oc41 kV41 dc41 pm41 cd41 ct41 oc42 kV42 dc42 pm42 cd42 ct42 oc43 kV43 dc43 pm43 cd43 ct43 oc44 kV44 dc44 pm44 cd44 ct44 oc45 kV45 dc45 pm45 cd45 ct45 oc46 kV46 dc46 pm46 cd46 ct46 oc47 kV47 dc47 pm47 cd47 ct47 oc48 kV48 dc48 pm48 cd48 ct48 oc49 kV49 dc49 pm49 cd49 ct49 oc50 kV50 dc50 pm50 cd50 ct50 oc51 kV51 dc51 pm51 cd51 ct51 oc52 kV52 dc52 pm52 cd52 ct52 oc53 kV53 dc53 pm53 cd53 ct53 oc54 kV54 dc54 pm54 cd54 ct54 oc55 kV55 dc55 pm55 cd55 ct55 oc56 kV56 dc56 pm56 cd56 ct56 : Value}
    {aq_ZERO : Addr} {tk_ZERO_0 tk_ZERO_1 : Tok} {nq_ZERO : Nat} {sq_ZERO : Array (Option Value)}
    (a0 : PySem.W.nsIn K mainGlobals "fraction" = some (some (.ref f0)))
    (l0 : K.lookup f0 = some ⟨oc0, od0, .func (PySem.W.fnOf "fraction" "fraction" (defArgs s_fraction) (defBody s_fraction) (defScope s_fraction) .none kV0 dc0 pm0 an0 cd0 ct0), sl0⟩)
    (c0 : PySem.W.codeIn K cd0 "fraction" = true)
    (k0 : PySem.W.keepIn K (.ref f0) = true)
    (a1 : PySem.W.nsIn K mainGlobals "is_fraction" = some (some (.ref f1)))
    (l1 : K.lookup f1 = some ⟨oc1, od1, .func (PySem.W.fnOf "is_fraction" "is_fraction" (defArgs s_is_fraction) (defBody s_is_fraction) (defScope s_is_fraction) .none kV1 dc1 pm1 an1 cd1 ct1), sl1⟩)
    (c1 : PySem.W.codeIn K cd1 "is_fraction" = true)
    (k1 : PySem.W.keepIn K (.ref f1) = true)
    (a2 : PySem.W.nsIn K mainGlobals "product_of" = some (some (.ref f2)))
    (l2 : K.lookup f2 = some ⟨oc2, od2, .func (PySem.W.fnOf "product_of" "product_of" (defArgs s_product_of) (defBody s_product_of) (defScope s_product_of) .none kV2 dc2 pm2 an2 cd2 ct2), sl2⟩)
    (c2 : PySem.W.codeIn K cd2 "product_of" = true)
    (k2 : PySem.W.keepIn K (.ref f2) = true)
    (a3 : PySem.W.nsIn K mainGlobals "part_of" = some (some (.ref f3)))
    (l3 : K.lookup f3 = some ⟨oc3, od3, .func (PySem.W.fnOf "part_of" "part_of" (defArgs s_part_of) (defBody s_part_of) (defScope s_part_of) .none kV3 dc3 pm3 an3 cd3 ct3), sl3⟩)
    (c3 : PySem.W.codeIn K cd3 "part_of" = true)
    (k3 : PySem.W.keepIn K (.ref f3) = true)
    (a4 : PySem.W.nsIn K mainGlobals "shared_divisor" = some (some (.ref f4)))
    (l4 : K.lookup f4 = some ⟨oc4, od4, .func (PySem.W.fnOf "shared_divisor" "shared_divisor" (defArgs s_shared_divisor) (defBody s_shared_divisor) (defScope s_shared_divisor) .none kV4 dc4 pm4 an4 cd4 ct4), sl4⟩)
    (c4 : PySem.W.codeIn K cd4 "shared_divisor" = true)
    (k4 : PySem.W.keepIn K (.ref f4) = true)
    (a5 : PySem.W.nsIn K mainGlobals "shortened" = some (some (.ref f5)))
    (l5 : K.lookup f5 = some ⟨oc5, od5, .func (PySem.W.fnOf "shortened" "shortened" (defArgs s_shortened) (defBody s_shortened) (defScope s_shortened) .none kV5 dc5 pm5 an5 cd5 ct5), sl5⟩)
    (c5 : PySem.W.codeIn K cd5 "shortened" = true)
    (k5 : PySem.W.keepIn K (.ref f5) = true)
    (a6 : PySem.W.nsIn K mainGlobals "without_last" = some (some (.ref f6)))
    (l6 : K.lookup f6 = some ⟨oc6, od6, .func (PySem.W.fnOf "without_last" "without_last" (defArgs s_without_last) (defBody s_without_last) (defScope s_without_last) .none kV6 dc6 pm6 an6 cd6 ct6), sl6⟩)
    (c6 : PySem.W.codeIn K cd6 "without_last" = true)
    (k6 : PySem.W.keepIn K (.ref f6) = true)
    (a7 : PySem.W.nsIn K mainGlobals "least_factors" = some (some (.ref f7)))
    (l7 : K.lookup f7 = some ⟨oc7, od7, .func (PySem.W.fnOf "least_factors" "least_factors" (defArgs s_least_factors) (defBody s_least_factors) (defScope s_least_factors) .none kV7 dc7 pm7 an7 cd7 ct7), sl7⟩)
    (c7 : PySem.W.codeIn K cd7 "least_factors" = true)
    (k7 : PySem.W.keepIn K (.ref f7) = true)
    (a8 : PySem.W.nsIn K mainGlobals "taken_away" = some (some (.ref f8)))
    (l8 : K.lookup f8 = some ⟨oc8, od8, .func (PySem.W.fnOf "taken_away" "taken_away" (defArgs s_taken_away) (defBody s_taken_away) (defScope s_taken_away) .none kV8 dc8 pm8 an8 cd8 ct8), sl8⟩)
    (c8 : PySem.W.codeIn K cd8 "taken_away" = true)
    (k8 : PySem.W.keepIn K (.ref f8) = true)
    (a9 : PySem.W.nsIn K mainGlobals "divides" = some (some (.ref f9)))
    (l9 : K.lookup f9 = some ⟨oc9, od9, .func (PySem.W.fnOf "divides" "divides" (defArgs s_divides) (defBody s_divides) (defScope s_divides) .none kV9 dc9 pm9 an9 cd9 ct9), sl9⟩)
    (c9 : PySem.W.codeIn K cd9 "divides" = true)
    (k9 : PySem.W.keepIn K (.ref f9) = true)
    (a10 : PySem.W.nsIn K mainGlobals "value_at" = some (some (.ref f10)))
    (l10 : K.lookup f10 = some ⟨oc10, od10, .func (PySem.W.fnOf "value_at" "value_at" (defArgs s_value_at) (defBody s_value_at) (defScope s_value_at) .none kV10 dc10 pm10 an10 cd10 ct10), sl10⟩)
    (c10 : PySem.W.codeIn K cd10 "value_at" = true)
    (k10 : PySem.W.keepIn K (.ref f10) = true)
    (a11 : PySem.W.nsIn K mainGlobals "tops_of_value" = some (some (.ref f11)))
    (l11 : K.lookup f11 = some ⟨oc11, od11, .func (PySem.W.fnOf "tops_of_value" "tops_of_value" (defArgs s_tops_of_value) (defBody s_tops_of_value) (defScope s_tops_of_value) .none kV11 dc11 pm11 an11 cd11 ct11), sl11⟩)
    (c11 : PySem.W.codeIn K cd11 "tops_of_value" = true)
    (k11 : PySem.W.keepIn K (.ref f11) = true)
    (a12 : PySem.W.nsIn K mainGlobals "shared_tops" = some (some (.ref f12)))
    (l12 : K.lookup f12 = some ⟨oc12, od12, .func (PySem.W.fnOf "shared_tops" "shared_tops" (defArgs s_shared_tops) (defBody s_shared_tops) (defScope s_shared_tops) .none kV12 dc12 pm12 an12 cd12 ct12), sl12⟩)
    (c12 : PySem.W.codeIn K cd12 "shared_tops" = true)
    (k12 : PySem.W.keepIn K (.ref f12) = true)
    (a13 : PySem.W.nsIn K mainGlobals "is_row" = some (some (.ref f13)))
    (l13 : K.lookup f13 = some ⟨oc13, od13, .func (PySem.W.fnOf "is_row" "is_row" (defArgs s_is_row) (defBody s_is_row) (defScope s_is_row) .none kV13 dc13 pm13 an13 cd13 ct13), sl13⟩)
    (c13 : PySem.W.codeIn K cd13 "is_row" = true)
    (k13 : PySem.W.keepIn K (.ref f13) = true)
    (a14 : PySem.W.nsIn K mainGlobals "refuse_no_row" = some (some (.ref f14)))
    (l14 : K.lookup f14 = some ⟨oc14, od14, .func (PySem.W.fnOf "refuse_no_row" "refuse_no_row" (defArgs s_refuse_no_row) (defBody s_refuse_no_row) (defScope s_refuse_no_row) .none kV14 dc14 pm14 an14 cd14 ct14), sl14⟩)
    (c14 : PySem.W.codeIn K cd14 "refuse_no_row" = true)
    (k14 : PySem.W.keepIn K (.ref f14) = true)
    (a15 : PySem.W.nsIn K mainGlobals "over_one_bottom" = some (some (.ref f15)))
    (l15 : K.lookup f15 = some ⟨oc15, od15, .func (PySem.W.fnOf "over_one_bottom" "over_one_bottom" (defArgs s_over_one_bottom) (defBody s_over_one_bottom) (defScope s_over_one_bottom) .none kV15 dc15 pm15 an15 cd15 ct15), sl15⟩)
    (c15 : PySem.W.codeIn K cd15 "over_one_bottom" = true)
    (k15 : PySem.W.keepIn K (.ref f15) = true)
    (a16 : PySem.W.nsIn K mainGlobals "row_over" = some (some (.ref f16)))
    (l16 : K.lookup f16 = some ⟨oc16, od16, .func (PySem.W.fnOf "row_over" "row_over" (defArgs s_row_over) (defBody s_row_over) (defScope s_row_over) .none kV16 dc16 pm16 an16 cd16 ct16), sl16⟩)
    (c16 : PySem.W.codeIn K cd16 "row_over" = true)
    (k16 : PySem.W.keepIn K (.ref f16) = true)
    (a17 : PySem.W.nsIn K mainGlobals "divided" = some (some (.ref f17)))
    (l17 : K.lookup f17 = some ⟨oc17, od17, .func (PySem.W.fnOf "divided" "divided" (defArgs s_divided) (defBody s_divided) (defScope s_divided) .none kV17 dc17 pm17 an17 cd17 ct17), sl17⟩)
    (c17 : PySem.W.codeIn K cd17 "divided" = true)
    (k17 : PySem.W.keepIn K (.ref f17) = true)
    (a18 : PySem.W.nsIn K mainGlobals "rate" = some (some (.ref f18)))
    (l18 : K.lookup f18 = some ⟨oc18, od18, .func (PySem.W.fnOf "rate" "rate" (defArgs s_rate) (defBody s_rate) (defScope s_rate) .none kV18 dc18 pm18 an18 cd18 ct18), sl18⟩)
    (c18 : PySem.W.codeIn K cd18 "rate" = true)
    (k18 : PySem.W.keepIn K (.ref f18) = true)
    (a19 : PySem.W.nsIn K mainGlobals "led" = some (some (.ref f19)))
    (l19 : K.lookup f19 = some ⟨oc19, od19, .func (PySem.W.fnOf "led" "led" (defArgs s_led) (defBody s_led) (defScope s_led) .none kV19 dc19 pm19 an19 cd19 ct19), sl19⟩)
    (c19 : PySem.W.codeIn K cd19 "led" = true)
    (k19 : PySem.W.keepIn K (.ref f19) = true)
    (a20 : PySem.W.nsIn K mainGlobals "whole_tops" = some (some (.ref f20)))
    (l20 : K.lookup f20 = some ⟨oc20, od20, .func (PySem.W.fnOf "whole_tops" "whole_tops" (defArgs s_whole_tops) (defBody s_whole_tops) (defScope s_whole_tops) .none kV20 dc20 pm20 an20 cd20 ct20), sl20⟩)
    (c20 : PySem.W.codeIn K cd20 "whole_tops" = true)
    (k20 : PySem.W.keepIn K (.ref f20) = true)
    (a21 : PySem.W.nsIn K mainGlobals "shared_row" = some (some (.ref f21)))
    (l21 : K.lookup f21 = some ⟨oc21, od21, .func (PySem.W.fnOf "shared_row" "shared_row" (defArgs s_shared_row) (defBody s_shared_row) (defScope s_shared_row) .none kV21 dc21 pm21 an21 cd21 ct21), sl21⟩)
    (c21 : PySem.W.codeIn K cd21 "shared_row" = true)
    (k21 : PySem.W.keepIn K (.ref f21) = true)
    (a22 : PySem.W.nsIn K mainGlobals "refuse_no_rows" = some (some (.ref f22)))
    (l22 : K.lookup f22 = some ⟨oc22, od22, .func (PySem.W.fnOf "refuse_no_rows" "refuse_no_rows" (defArgs s_refuse_no_rows) (defBody s_refuse_no_rows) (defScope s_refuse_no_rows) .none kV22 dc22 pm22 an22 cd22 ct22), sl22⟩)
    (c22 : PySem.W.codeIn K cd22 "refuse_no_rows" = true)
    (k22 : PySem.W.keepIn K (.ref f22) = true)
    (a23 : PySem.W.nsIn K mainGlobals "parts_by_power" = some (some (.ref f23)))
    (l23 : K.lookup f23 = some ⟨oc23, od23, .func (PySem.W.fnOf "parts_by_power" "parts_by_power" (defArgs s_parts_by_power) (defBody s_parts_by_power) (defScope s_parts_by_power) .none kV23 dc23 pm23 an23 cd23 ct23), sl23⟩)
    (c23 : PySem.W.codeIn K cd23 "parts_by_power" = true)
    (k23 : PySem.W.keepIn K (.ref f23) = true)
    (a24 : PySem.W.nsIn K mainGlobals "cut" = some (some (.ref f24)))
    (l24 : K.lookup f24 = some ⟨oc24, od24, .func (PySem.W.fnOf "cut" "cut" (defArgs s_cut) (defBody s_cut) (defScope s_cut) .none kV24 dc24 pm24 an24 cd24 ct24), sl24⟩)
    (c24 : PySem.W.codeIn K cd24 "cut" = true)
    (k24 : PySem.W.keepIn K (.ref f24) = true)
    (a25 : PySem.W.nsIn K mainGlobals "parts_of" = some (some (.ref f25)))
    (l25 : K.lookup f25 = some ⟨oc25, od25, .func (PySem.W.fnOf "parts_of" "parts_of" (defArgs s_parts_of) (defBody s_parts_of) (defScope s_parts_of) .none kV25 dc25 pm25 an25 cd25 ct25), sl25⟩)
    (c25 : PySem.W.codeIn K cd25 "parts_of" = true)
    (k25 : PySem.W.keepIn K (.ref f25) = true)
    (a26 : PySem.W.nsIn K mainGlobals "parts" = some (some (.ref f26)))
    (l26 : K.lookup f26 = some ⟨oc26, od26, .func (PySem.W.fnOf "parts" "parts" (defArgs s_parts) (defBody s_parts) (defScope s_parts) .none kV26 dc26 pm26 an26 cd26 ct26), sl26⟩)
    (c26 : PySem.W.codeIn K cd26 "parts" = true)
    (k26 : PySem.W.keepIn K (.ref f26) = true)
    (a27 : PySem.W.nsIn K mainGlobals "_law_cell_at" = some (some (.ref f27)))
    (l27 : K.lookup f27 = some ⟨oc27, od27, .func (PySem.W.fnOf "_law_cell_at" "_law_cell_at" (defArgs s__law_cell_at) (defBody s__law_cell_at) (defScope s__law_cell_at) .none kV27 dc27 pm27 an27 cd27 ct27), sl27⟩)
    (c27 : PySem.W.codeIn K cd27 "_law_cell_at" = true)
    (k27 : PySem.W.keepIn K (.ref f27) = true)
    (a28 : PySem.W.nsIn K mainGlobals "_law_stream" = some (some (.ref f28)))
    (l28 : K.lookup f28 = some ⟨oc28, od28, .func (PySem.W.fnOf "_law_stream" "_law_stream" (defArgs s__law_stream) (defBody s__law_stream) (defScope s__law_stream) .none kV28 dc28 pm28 an28 cd28 ct28), sl28⟩)
    (c28 : PySem.W.codeIn K cd28 "_law_stream" = true)
    (k28 : PySem.W.keepIn K (.ref f28) = true)
    (a29 : PySem.W.nsIn K mainGlobals "_law_whole" = some (some (.ref f29)))
    (l29 : K.lookup f29 = some ⟨oc29, od29, .func (PySem.W.fnOf "_law_whole" "_law_whole" (defArgs s__law_whole) (defBody s__law_whole) (defScope s__law_whole) .none kV29 dc29 pm29 an29 cd29 ct29), sl29⟩)
    (c29 : PySem.W.codeIn K cd29 "_law_whole" = true)
    (k29 : PySem.W.keepIn K (.ref f29) = true)
    (a30 : PySem.W.nsIn K mainGlobals "_law_divisor" = some (some (.ref f30)))
    (l30 : K.lookup f30 = some ⟨oc30, od30, .func (PySem.W.fnOf "_law_divisor" "_law_divisor" (defArgs s__law_divisor) (defBody s__law_divisor) (defScope s__law_divisor) .none kV30 dc30 pm30 an30 cd30 ct30), sl30⟩)
    (c30 : PySem.W.codeIn K cd30 "_law_divisor" = true)
    (k30 : PySem.W.keepIn K (.ref f30) = true)
    (a31 : PySem.W.nsIn K mainGlobals "_law_fraction" = some (some (.ref f31)))
    (l31 : K.lookup f31 = some ⟨oc31, od31, .func (PySem.W.fnOf "_law_fraction" "_law_fraction" (defArgs s__law_fraction) (defBody s__law_fraction) (defScope s__law_fraction) .none kV31 dc31 pm31 an31 cd31 ct31), sl31⟩)
    (c31 : PySem.W.codeIn K cd31 "_law_fraction" = true)
    (k31 : PySem.W.keepIn K (.ref f31) = true)
    (a32 : PySem.W.nsIn K mainGlobals "_law_is_fraction" = some (some (.ref f32)))
    (l32 : K.lookup f32 = some ⟨oc32, od32, .func (PySem.W.fnOf "_law_is_fraction" "_law_is_fraction" (defArgs s__law_is_fraction) (defBody s__law_is_fraction) (defScope s__law_is_fraction) .none kV32 dc32 pm32 an32 cd32 ct32), sl32⟩)
    (c32 : PySem.W.codeIn K cd32 "_law_is_fraction" = true)
    (k32 : PySem.W.keepIn K (.ref f32) = true)
    (a33 : PySem.W.nsIn K mainGlobals "_law_is_row" = some (some (.ref f33)))
    (l33 : K.lookup f33 = some ⟨oc33, od33, .func (PySem.W.fnOf "_law_is_row" "_law_is_row" (defArgs s__law_is_row) (defBody s__law_is_row) (defScope s__law_is_row) .none kV33 dc33 pm33 an33 cd33 ct33), sl33⟩)
    (c33 : PySem.W.codeIn K cd33 "_law_is_row" = true)
    (k33 : PySem.W.keepIn K (.ref f33) = true)
    (a34 : PySem.W.nsIn K mainGlobals "_law_sum" = some (some (.ref f34)))
    (l34 : K.lookup f34 = some ⟨oc34, od34, .func (PySem.W.fnOf "_law_sum" "_law_sum" (defArgs s__law_sum) (defBody s__law_sum) (defScope s__law_sum) .none kV34 dc34 pm34 an34 cd34 ct34), sl34⟩)
    (c34 : PySem.W.codeIn K cd34 "_law_sum" = true)
    (k34 : PySem.W.keepIn K (.ref f34) = true)
    (a35 : PySem.W.nsIn K mainGlobals "_law_product" = some (some (.ref f35)))
    (l35 : K.lookup f35 = some ⟨oc35, od35, .func (PySem.W.fnOf "_law_product" "_law_product" (defArgs s__law_product) (defBody s__law_product) (defScope s__law_product) .none kV35 dc35 pm35 an35 cd35 ct35), sl35⟩)
    (c35 : PySem.W.codeIn K cd35 "_law_product" = true)
    (k35 : PySem.W.keepIn K (.ref f35) = true)
    (a36 : PySem.W.nsIn K mainGlobals "_law_trim" = some (some (.ref f36)))
    (l36 : K.lookup f36 = some ⟨oc36, od36, .func (PySem.W.fnOf "_law_trim" "_law_trim" (defArgs s__law_trim) (defBody s__law_trim) (defScope s__law_trim) .none kV36 dc36 pm36 an36 cd36 ct36), sl36⟩)
    (c36 : PySem.W.codeIn K cd36 "_law_trim" = true)
    (k36 : PySem.W.keepIn K (.ref f36) = true)
    (a37 : PySem.W.nsIn K mainGlobals "_law_plus" = some (some (.ref f37)))
    (l37 : K.lookup f37 = some ⟨oc37, od37, .func (PySem.W.fnOf "_law_plus" "_law_plus" (defArgs s__law_plus) (defBody s__law_plus) (defScope s__law_plus) .none kV37 dc37 pm37 an37 cd37 ct37), sl37⟩)
    (c37 : PySem.W.codeIn K cd37 "_law_plus" = true)
    (k37 : PySem.W.keepIn K (.ref f37) = true)
    (a38 : PySem.W.nsIn K mainGlobals "_law_scale" = some (some (.ref f38)))
    (l38 : K.lookup f38 = some ⟨oc38, od38, .func (PySem.W.fnOf "_law_scale" "_law_scale" (defArgs s__law_scale) (defBody s__law_scale) (defScope s__law_scale) .none kV38 dc38 pm38 an38 cd38 ct38), sl38⟩)
    (c38 : PySem.W.codeIn K cd38 "_law_scale" = true)
    (k38 : PySem.W.keepIn K (.ref f38) = true)
    (a39 : PySem.W.nsIn K mainGlobals "_law_times" = some (some (.ref f39)))
    (l39 : K.lookup f39 = some ⟨oc39, od39, .func (PySem.W.fnOf "_law_times" "_law_times" (defArgs s__law_times) (defBody s__law_times) (defScope s__law_times) .none kV39 dc39 pm39 an39 cd39 ct39), sl39⟩)
    (c39 : PySem.W.codeIn K cd39 "_law_times" = true)
    (k39 : PySem.W.keepIn K (.ref f39) = true)
    (a40 : PySem.W.nsIn K mainGlobals "_law_rate" = some (some (.ref f40)))
    (l40 : K.lookup f40 = some ⟨oc40, od40, .func (PySem.W.fnOf "_law_rate" "_law_rate" (defArgs s__law_rate) (defBody s__law_rate) (defScope s__law_rate) .none kV40 dc40 pm40 an40 cd40 ct40), sl40⟩)
    (c40 : PySem.W.codeIn K cd40 "_law_rate" = true)
    (k40 : PySem.W.keepIn K (.ref f40) = true)
    (a41 : PySem.W.nsIn K mainGlobals "_law_power" = some (some (.ref f41)))
    (l41 : K.lookup f41 = some ⟨oc41, od41, .func (PySem.W.fnOf "_law_power" "_law_power" (defArgs s__law_power) (defBody s__law_power) (defScope s__law_power) .none kV41 dc41 pm41 an41 cd41 ct41), sl41⟩)
    (c41 : PySem.W.codeIn K cd41 "_law_power" = true)
    (k41 : PySem.W.keepIn K (.ref f41) = true)
    (a42 : PySem.W.nsIn K mainGlobals "_law_divide" = some (some (.ref f42)))
    (l42 : K.lookup f42 = some ⟨oc42, od42, .func (PySem.W.fnOf "_law_divide" "_law_divide" (defArgs s__law_divide) (defBody s__law_divide) (defScope s__law_divide) .none kV42 dc42 pm42 an42 cd42 ct42), sl42⟩)
    (c42 : PySem.W.codeIn K cd42 "_law_divide" = true)
    (k42 : PySem.W.keepIn K (.ref f42) = true)
    (a43 : PySem.W.nsIn K mainGlobals "_law_led" = some (some (.ref f43)))
    (l43 : K.lookup f43 = some ⟨oc43, od43, .func (PySem.W.fnOf "_law_led" "_law_led" (defArgs s__law_led) (defBody s__law_led) (defScope s__law_led) .none kV43 dc43 pm43 an43 cd43 ct43), sl43⟩)
    (c43 : PySem.W.codeIn K cd43 "_law_led" = true)
    (k43 : PySem.W.keepIn K (.ref f43) = true)
    (a44 : PySem.W.nsIn K mainGlobals "_law_shared" = some (some (.ref f44)))
    (l44 : K.lookup f44 = some ⟨oc44, od44, .func (PySem.W.fnOf "_law_shared" "_law_shared" (defArgs s__law_shared) (defBody s__law_shared) (defScope s__law_shared) .none kV44 dc44 pm44 an44 cd44 ct44), sl44⟩)
    (c44 : PySem.W.codeIn K cd44 "_law_shared" = true)
    (k44 : PySem.W.keepIn K (.ref f44) = true)
    (a45 : PySem.W.nsIn K mainGlobals "_law_number" = some (some (.ref f45)))
    (l45 : K.lookup f45 = some ⟨oc45, od45, .func (PySem.W.fnOf "_law_number" "_law_number" (defArgs s__law_number) (defBody s__law_number) (defScope s__law_number) .none kV45 dc45 pm45 an45 cd45 ct45), sl45⟩)
    (c45 : PySem.W.codeIn K cd45 "_law_number" = true)
    (k45 : PySem.W.keepIn K (.ref f45) = true)
    (a46 : PySem.W.nsIn K mainGlobals "_law_row_by" = some (some (.ref f46)))
    (l46 : K.lookup f46 = some ⟨oc46, od46, .func (PySem.W.fnOf "_law_row_by" "_law_row_by" (defArgs s__law_row_by) (defBody s__law_row_by) (defScope s__law_row_by) .none kV46 dc46 pm46 an46 cd46 ct46), sl46⟩)
    (c46 : PySem.W.codeIn K cd46 "_law_row_by" = true)
    (k46 : PySem.W.keepIn K (.ref f46) = true)
    (a47 : PySem.W.nsIn K mainGlobals "_law_factors" = some (some (.ref f47)))
    (l47 : K.lookup f47 = some ⟨oc47, od47, .func (PySem.W.fnOf "_law_factors" "_law_factors" (defArgs s__law_factors) (defBody s__law_factors) (defScope s__law_factors) .none kV47 dc47 pm47 an47 cd47 ct47), sl47⟩)
    (c47 : PySem.W.codeIn K cd47 "_law_factors" = true)
    (k47 : PySem.W.keepIn K (.ref f47) = true)
    (a48 : PySem.W.nsIn K mainGlobals "_law_powers" = some (some (.ref f48)))
    (l48 : K.lookup f48 = some ⟨oc48, od48, .func (PySem.W.fnOf "_law_powers" "_law_powers" (defArgs s__law_powers) (defBody s__law_powers) (defScope s__law_powers) .none kV48 dc48 pm48 an48 cd48 ct48), sl48⟩)
    (c48 : PySem.W.codeIn K cd48 "_law_powers" = true)
    (k48 : PySem.W.keepIn K (.ref f48) = true)
    (a49 : PySem.W.nsIn K mainGlobals "_law_many" = some (some (.ref f49)))
    (l49 : K.lookup f49 = some ⟨oc49, od49, .func (PySem.W.fnOf "_law_many" "_law_many" (defArgs s__law_many) (defBody s__law_many) (defScope s__law_many) .none kV49 dc49 pm49 an49 cd49 ct49), sl49⟩)
    (c49 : PySem.W.codeIn K cd49 "_law_many" = true)
    (k49 : PySem.W.keepIn K (.ref f49) = true)
    (a50 : PySem.W.nsIn K mainGlobals "_law_bottom" = some (some (.ref f50)))
    (l50 : K.lookup f50 = some ⟨oc50, od50, .func (PySem.W.fnOf "_law_bottom" "_law_bottom" (defArgs s__law_bottom) (defBody s__law_bottom) (defScope s__law_bottom) .none kV50 dc50 pm50 an50 cd50 ct50), sl50⟩)
    (c50 : PySem.W.codeIn K cd50 "_law_bottom" = true)
    (k50 : PySem.W.keepIn K (.ref f50) = true)
    (a51 : PySem.W.nsIn K mainGlobals "_law_told" = some (some (.ref f51)))
    (l51 : K.lookup f51 = some ⟨oc51, od51, .func (PySem.W.fnOf "_law_told" "_law_told" (defArgs s__law_told) (defBody s__law_told) (defScope s__law_told) .none kV51 dc51 pm51 an51 cd51 ct51), sl51⟩)
    (c51 : PySem.W.codeIn K cd51 "_law_told" = true)
    (k51 : PySem.W.keepIn K (.ref f51) = true)
    (a52 : PySem.W.nsIn K mainGlobals "_law_divides" = some (some (.ref f52)))
    (l52 : K.lookup f52 = some ⟨oc52, od52, .func (PySem.W.fnOf "_law_divides" "_law_divides" (defArgs s__law_divides) (defBody s__law_divides) (defScope s__law_divides) .none kV52 dc52 pm52 an52 cd52 ct52), sl52⟩)
    (c52 : PySem.W.codeIn K cd52 "_law_divides" = true)
    (k52 : PySem.W.keepIn K (.ref f52) = true)
    (a53 : PySem.W.nsIn K mainGlobals "_law_one_right" = some (some (.ref f53)))
    (l53 : K.lookup f53 = some ⟨oc53, od53, .func (PySem.W.fnOf "_law_one_right" "_law_one_right" (defArgs s__law_one_right) (defBody s__law_one_right) (defScope s__law_one_right) .none kV53 dc53 pm53 an53 cd53 ct53), sl53⟩)
    (c53 : PySem.W.codeIn K cd53 "_law_one_right" = true)
    (k53 : PySem.W.keepIn K (.ref f53) = true)
    (a54 : PySem.W.nsIn K mainGlobals "_law_key" = some (some (.ref f54)))
    (l54 : K.lookup f54 = some ⟨oc54, od54, .func (PySem.W.fnOf "_law_key" "_law_key" (defArgs s__law_key) (defBody s__law_key) (defScope s__law_key) .none kV54 dc54 pm54 an54 cd54 ct54), sl54⟩)
    (c54 : PySem.W.codeIn K cd54 "_law_key" = true)
    (k54 : PySem.W.keepIn K (.ref f54) = true)
    (a55 : PySem.W.nsIn K mainGlobals "_law_right" = some (some (.ref f55)))
    (l55 : K.lookup f55 = some ⟨oc55, od55, .func (PySem.W.fnOf "_law_right" "_law_right" (defArgs s__law_right) (defBody s__law_right) (defScope s__law_right) .none kV55 dc55 pm55 an55 cd55 ct55), sl55⟩)
    (c55 : PySem.W.codeIn K cd55 "_law_right" = true)
    (k55 : PySem.W.keepIn K (.ref f55) = true)
    (a56 : PySem.W.nsIn K mainGlobals "law" = some (some (.ref f56)))
    (l56 : K.lookup f56 = some ⟨oc56, od56, .func (PySem.W.fnOf "law" "law" (defArgs s_law) (defBody s_law) (defScope s_law) .none kV56 dc56 pm56 an56 cd56 ct56), sl56⟩)
    (c56 : PySem.W.codeIn K cd56 "law" = true)
    (k56 : PySem.W.keepIn K (.ref f56) = true)
    (z_abs : PySem.W.nsIn K mainGlobals "abs" = some none)
    (z_all : PySem.W.nsIn K mainGlobals "all" = some none)
    (z_bool : PySem.W.nsIn K mainGlobals "bool" = some none)
    (z_divmod : PySem.W.nsIn K mainGlobals "divmod" = some none)
    (z_enumerate : PySem.W.nsIn K mainGlobals "enumerate" = some none)
    (z_int : PySem.W.nsIn K mainGlobals "int" = some none)
    (z_isinstance : PySem.W.nsIn K mainGlobals "isinstance" = some none)
    (z_len : PySem.W.nsIn K mainGlobals "len" = some none)
    (z_list : PySem.W.nsIn K mainGlobals "list" = some none)
    (z_max : PySem.W.nsIn K mainGlobals "max" = some none)
    (z_min : PySem.W.nsIn K mainGlobals "min" = some none)
    (z_range : PySem.W.nsIn K mainGlobals "range" = some none)
    (z_reversed : PySem.W.nsIn K mainGlobals "reversed" = some none)
    (z_tuple : PySem.W.nsIn K mainGlobals "tuple" = some none)
    (z_type : PySem.W.nsIn K mainGlobals "type" = some none)
    (z_zip : PySem.W.nsIn K mainGlobals "zip" = some none)
    (m_gcd : PySem.W.nsIn K mainGlobals "gcd" = some (some (.builtin "math.gcd")))
    (m_lcm : PySem.W.nsIn K mainGlobals "lcm" = some (some (.builtin "math.lcm")))
    (q_ZERO : PySem.W.nsIn K mainGlobals "ZERO" = some (some (.ref aq_ZERO)))
    (lq_ZERO : K.lookup aq_ZERO = some ⟨.type "tuple", none, .seq #[.int 0 tk_ZERO_0, .int 1 tk_ZERO_1] nq_ZERO, sq_ZERO⟩)
    (q_SPARE_BITS : PySem.W.nsIn K mainGlobals "SPARE_BITS" = some (some (.int 32 tk_SPARE_BITS)))
    (ca_NoRow : PySem.W.nsIn K mainGlobals "NoRow" = some (some (.ref C_NoRow)))
    (ex_NoRow : PySem.W.excIn K C_NoRow [.type "ValueError", .type "Exception", .type "BaseException", .type "object"] "ValueError.__new__" = true)
    (ke_NoRow : PySem.W.keepIn K (.ref C_NoRow) = true)
    (su_NoRow_BaseException : PySem.W.subIn K (.ref C_NoRow) (.type "BaseException") = some true)
    (ty_NoRow : PySem.W.typeIn K (.ref C_NoRow) = some (.type "type"))
    (ca_Nought : PySem.W.nsIn K mainGlobals "Nought" = some (some (.ref C_Nought)))
    (ex_Nought : PySem.W.excIn K C_Nought [.type "ValueError", .type "Exception", .type "BaseException", .type "object"] "ValueError.__new__" = true)
    (ke_Nought : PySem.W.keepIn K (.ref C_Nought) = true)
    (su_Nought_BaseException : PySem.W.subIn K (.ref C_Nought) (.type "BaseException") = some true)
    (ty_Nought : PySem.W.typeIn K (.ref C_Nought) = some (.type "type"))
    (ca_PartError : PySem.W.nsIn K mainGlobals "PartError" = some (some (.ref C_PartError)))
    (ex_PartError : PySem.W.excIn K C_PartError [.type "ValueError", .type "Exception", .type "BaseException", .type "object"] "ValueError.__new__" = true)
    (ke_PartError : PySem.W.keepIn K (.ref C_PartError) = true)
    (su_PartError_BaseException : PySem.W.subIn K (.ref C_PartError) (.type "BaseException") = some true)
    (ty_PartError : PySem.W.typeIn K (.ref C_PartError) = some (.type "type"))
    : ∃ fd : FuncData, (∀ (s : Shared) (u : Value), BindsTo s fd ⟨[u], []⟩ [("_law_script", u)]) ∧ ∀ base : Heap, K.In base → base.Ns mainGlobals mg → base.NoSeer → l.prog.given.tree = none → FnOk l.prog w K mg base (L2.CX l.prog w) 42 fa fd ["_law_script"] (Pu.spLaw K) := by
  have e := hfa.symm.trans (PySem.W.mg_of X G a56)
  cases e
  have F0 := fun_mk (st := s_fraction) l0 c0 k0
  have b0 := F0.binds (ps := ["top", "bottom"]) fun _ _ _ _ _ _ us hl => match us, hl with | [_, _], _ => rfl
  have F1 := fun_mk (st := s_is_fraction) l1 c1 k1
  have b1 := F1.binds (ps := ["thing"]) fun _ _ _ _ _ _ us hl => match us, hl with | [_], _ => rfl
  have F2 := fun_mk (st := s_product_of) l2 c2 k2
  have b2 := F2.binds (ps := ["one", "other"]) fun _ _ _ _ _ _ us hl => match us, hl with | [_, _], _ => rfl
  have F3 := fun_mk (st := s_part_of) l3 c3 k3
  have b3 := F3.binds (ps := ["one", "other"]) fun _ _ _ _ _ _ us hl => match us, hl with | [_, _], _ => rfl
  have F4 := fun_mk (st := s_shared_divisor) l4 c4 k4
  have b4 := F4.binds (ps := ["tops"]) fun _ _ _ _ _ _ us hl => match us, hl with | [_], _ => rfl
  have F5 := fun_mk (st := s_shortened) l5 c5 k5
  have b5 := F5.binds (ps := ["tops"]) fun _ _ _ _ _ _ us hl => match us, hl with | [_], _ => rfl
  have F6 := fun_mk (st := s_without_last) l6 c6 k6
  have b6 := F6.binds (ps := ["things", "nought"]) fun _ _ _ _ _ _ us hl => match us, hl with | [_, _], _ => rfl
  have F7 := fun_mk (st := s_least_factors) l7 c7 k7
  have b7 := F7.binds (ps := ["one", "other"]) fun _ _ _ _ _ _ us hl => match us, hl with | [_, _], _ => rfl
  have F8 := fun_mk (st := s_taken_away) l8 c8 k8
  have b8 := F8.binds (ps := ["one", "factor", "other", "often", "start"]) fun _ _ _ _ _ _ us hl => match us, hl with | [_, _, _, _, _], _ => rfl
  have F9 := fun_mk (st := s_divides) l9 c9 k9
  have b9 := F9.binds (ps := ["one", "other"]) fun _ _ _ _ _ _ us hl => match us, hl with | [_, _], _ => rfl
  have F10 := fun_mk (st := s_value_at) l10 c10 k10
  have b10 := F10.binds (ps := ["tops", "bits"]) fun _ _ _ _ _ _ us hl => match us, hl with | [_, _], _ => rfl
  have F11 := fun_mk (st := s_tops_of_value) l11 c11 k11
  have b11 := F11.binds (ps := ["value", "bits"]) fun _ _ _ _ _ _ us hl => match us, hl with | [_, _], _ => rfl
  have F12 := fun_mk (st := s_shared_tops) l12 c12 k12
  have b12 := F12.binds (ps := ["one", "other"]) fun _ _ _ _ _ _ us hl => match us, hl with | [_, _], _ => rfl
  have F13 := fun_mk (st := s_is_row) l13 c13 k13
  have b13 := F13.binds (ps := ["thing"]) fun _ _ _ _ _ _ us hl => match us, hl with | [_], _ => rfl
  have F14 := fun_mk (st := s_refuse_no_row) l14 c14 k14
  have b14 := F14.binds (ps := ["thing"]) fun _ _ _ _ _ _ us hl => match us, hl with | [_], _ => rfl
  have F15 := fun_mk (st := s_over_one_bottom) l15 c15 k15
  have b15 := F15.binds (ps := ["row"]) fun _ _ _ _ _ _ us hl => match us, hl with | [_], _ => rfl
  have F16 := fun_mk (st := s_row_over) l16 c16 k16
  have b16 := F16.binds (ps := ["tops", "bottom"]) fun _ _ _ _ _ _ us hl => match us, hl with | [_, _], _ => rfl
  have F17 := fun_mk (st := s_divided) l17 c17 k17
  have b17 := F17.binds (ps := ["one", "other"]) fun _ _ _ _ _ _ us hl => match us, hl with | [_, _], _ => rfl
  have F18 := fun_mk (st := s_rate) l18 c18 k18
  have b18 := F18.binds (ps := ["row"]) fun _ _ _ _ _ _ us hl => match us, hl with | [_], _ => rfl
  have F19 := fun_mk (st := s_led) l19 c19 k19
  have b19 := F19.binds (ps := ["row"]) fun _ _ _ _ _ _ us hl => match us, hl with | [_], _ => rfl
  have F20 := fun_mk (st := s_whole_tops) l20 c20 k20
  have b20 := F20.binds (ps := ["row"]) fun _ _ _ _ _ _ us hl => match us, hl with | [_], _ => rfl
  have F21 := fun_mk (st := s_shared_row) l21 c21 k21
  have b21 := F21.binds (ps := ["one", "other"]) fun _ _ _ _ _ _ us hl => match us, hl with | [_, _], _ => rfl
  have F22 := fun_mk (st := s_refuse_no_rows) l22 c22 k22
  have b22 := F22.binds (ps := ["told"]) fun _ _ _ _ _ _ us hl => match us, hl with | [_], _ => rfl
  have F23 := fun_mk (st := s_parts_by_power) l23 c23 k23
  have b23 := F23.binds (ps := ["row"]) fun _ _ _ _ _ _ us hl => match us, hl with | [_], _ => rfl
  have F24 := fun_mk (st := s_cut) l24 c24 k24
  have b24 := F24.binds (ps := ["part", "row"]) fun _ _ _ _ _ _ us hl => match us, hl with | [_, _], _ => rfl
  have F25 := fun_mk (st := s_parts_of) l25 c25 k25
  have b25 := F25.binds (ps := ["row", "told"]) fun _ _ _ _ _ _ us hl => match us, hl with | [_, _], _ => rfl
  have F26 := fun_mk (st := s_parts) l26 c26 k26
  have b26 := F26.binds (ps := ["row", "told"]) fun _ _ _ _ _ _ us hl => match us, hl with | [_, _], _ => rfl
  have F27 := fun_mk (st := s__law_cell_at) l27 c27 k27
  have b27 := F27.binds (ps := ["_law_script", "_law_k"]) fun _ _ _ _ _ _ us hl => match us, hl with | [_, _], _ => rfl
  have F28 := fun_mk (st := s__law_stream) l28 c28 k28
  have b28 := F28.binds (ps := ["_law_cell", "_law_many_here"]) fun _ _ _ _ _ _ us hl => match us, hl with | [_, _], _ => rfl
  have F29 := fun_mk (st := s__law_whole) l29 c29 k29
  have b29 := F29.binds (ps := ["_law_found"]) fun _ _ _ _ _ _ us hl => match us, hl with | [_], _ => rfl
  have F30 := fun_mk (st := s__law_divisor) l30 c30 k30
  have b30 := F30.binds (ps := ["_law_one", "_law_other"]) fun _ _ _ _ _ _ us hl => match us, hl with | [_, _], _ => rfl
  have F31 := fun_mk (st := s__law_fraction) l31 c31 k31
  have b31 := F31.binds (ps := ["_law_top", "_law_bottom_here"]) fun _ _ _ _ _ _ us hl => match us, hl with | [_, _], _ => rfl
  have F32 := fun_mk (st := s__law_is_fraction) l32 c32 k32
  have b32 := F32.binds (ps := ["_law_found"]) fun _ _ _ _ _ _ us hl => match us, hl with | [_], _ => rfl
  have F33 := fun_mk (st := s__law_is_row) l33 c33 k33
  have b33 := F33.binds (ps := ["_law_found"]) fun _ _ _ _ _ _ us hl => match us, hl with | [_], _ => rfl
  have F34 := fun_mk (st := s__law_sum) l34 c34 k34
  have b34 := F34.binds (ps := ["_law_one", "_law_other"]) fun _ _ _ _ _ _ us hl => match us, hl with | [_, _], _ => rfl
  have F35 := fun_mk (st := s__law_product) l35 c35 k35
  have b35 := F35.binds (ps := ["_law_one", "_law_other"]) fun _ _ _ _ _ _ us hl => match us, hl with | [_, _], _ => rfl
  have F36 := fun_mk (st := s__law_trim) l36 c36 k36
  have b36 := F36.binds (ps := ["_law_row"]) fun _ _ _ _ _ _ us hl => match us, hl with | [_], _ => rfl
  have F37 := fun_mk (st := s__law_plus) l37 c37 k37
  have b37 := F37.binds (ps := ["_law_one", "_law_other"]) fun _ _ _ _ _ _ us hl => match us, hl with | [_, _], _ => rfl
  have F38 := fun_mk (st := s__law_scale) l38 c38 k38
  have b38 := F38.binds (ps := ["_law_row", "_law_number_here"]) fun _ _ _ _ _ _ us hl => match us, hl with | [_, _], _ => rfl
  have F39 := fun_mk (st := s__law_times) l39 c39 k39
  have b39 := F39.binds (ps := ["_law_one", "_law_other"]) fun _ _ _ _ _ _ us hl => match us, hl with | [_, _], _ => rfl
  have F40 := fun_mk (st := s__law_rate) l40 c40 k40
  have b40 := F40.binds (ps := ["_law_row"]) fun _ _ _ _ _ _ us hl => match us, hl with | [_], _ => rfl
  have F41 := fun_mk (st := s__law_power) l41 c41 k41
  have b41 := F41.binds (ps := ["_law_row", "_law_power_here"]) fun _ _ _ _ _ _ us hl => match us, hl with | [_, _], _ => rfl
  have F42 := fun_mk (st := s__law_divide) l42 c42 k42
  have b42 := F42.binds (ps := ["_law_one", "_law_other"]) fun _ _ _ _ _ _ us hl => match us, hl with | [_, _], _ => rfl
  have F43 := fun_mk (st := s__law_led) l43 c43 k43
  have b43 := F43.binds (ps := ["_law_row"]) fun _ _ _ _ _ _ us hl => match us, hl with | [_], _ => rfl
  have F44 := fun_mk (st := s__law_shared) l44 c44 k44
  have b44 := F44.binds (ps := ["_law_one", "_law_other"]) fun _ _ _ _ _ _ us hl => match us, hl with | [_, _], _ => rfl
  have F45 := fun_mk (st := s__law_number) l45 c45 k45
  have b45 := F45.binds (ps := ["_law_x"]) fun _ _ _ _ _ _ us hl => match us, hl with | [_], _ => rfl
  have F46 := fun_mk (st := s__law_row_by) l46 c46 k46
  have b46 := F46.binds (ps := ["_law_x", "_law_most"]) fun _ _ _ _ _ _ us hl => match us, hl with | [_, _], _ => rfl
  have F47 := fun_mk (st := s__law_factors) l47 c47 k47
  have b47 := F47.binds (ps := ["_law_x", "_law_many_here"]) fun _ _ _ _ _ _ us hl => match us, hl with | [_, _], _ => rfl
  have F48 := fun_mk (st := s__law_powers) l48 c48 k48
  have b48 := F48.binds (ps := ["_law_x", "_law_rows"]) fun _ _ _ _ _ _ us hl => match us, hl with | [_, _], _ => rfl
  have F49 := fun_mk (st := s__law_many) l49 c49 k49
  have b49 := F49.binds (ps := ["_law_x"]) fun _ _ _ _ _ _ us hl => match us, hl with | [_], _ => rfl
  have F50 := fun_mk (st := s__law_bottom) l50 c50 k50
  have b50 := F50.binds (ps := ["_law_rows", "_law_powers_here"]) fun _ _ _ _ _ _ us hl => match us, hl with | [_, _], _ => rfl
  have F51 := fun_mk (st := s__law_told) l51 c51 k51
  have b51 := F51.binds (ps := ["_law_x", "_law_rows"]) fun _ _ _ _ _ _ us hl => match us, hl with | [_, _], _ => rfl
  have F52 := fun_mk (st := s__law_divides) l52 c52 k52
  have b52 := F52.binds (ps := ["_law_part", "_law_row"]) fun _ _ _ _ _ _ us hl => match us, hl with | [_, _], _ => rfl
  have F53 := fun_mk (st := s__law_one_right) l53 c53 k53
  have b53 := F53.binds (ps := ["_law_part", "_law_power_here", "_law_told_here"]) fun _ _ _ _ _ _ us hl => match us, hl with | [_, _, _], _ => rfl
  have F54 := fun_mk (st := s__law_key) l54 c54 k54
  have b54 := F54.binds (ps := ["_law_part", "_law_power_here", "_law_told_here"]) fun _ _ _ _ _ _ us hl => match us, hl with | [_, _, _], _ => rfl
  have F55 := fun_mk (st := s__law_right) l55 c55 k55
  have b55 := F55.binds (ps := ["_law_found", "_law_row", "_law_told_here"]) fun _ _ _ _ _ _ us hl => match us, hl with | [_, _, _], _ => rfl
  have F56 := fun_mk (st := s_law) l56 c56 k56
  have b56 := F56.binds (ps := ["_law_script"]) fun _ _ _ _ _ _ us hl => match us, hl with | [_], _ => rfl
  refine ⟨PySem.W.fnOf "law" "law" (defArgs s_law) (defBody s_law) (defScope s_law) .none kV56 dc56 pm56 an56 cd56 ct56, fun s v => .of_eq rfl, fun base _ _ hseer htree => ?_⟩
  have T : Txt ⟨l.prog, w, K, mg, base, hseer, htree⟩ := { n_abs := PySem.W.mg_none_of X G z_abs, n_all := PySem.W.mg_none_of X G z_all, n_bool := PySem.W.mg_none_of X G z_bool, n_divmod := PySem.W.mg_none_of X G z_divmod, n_enumerate := PySem.W.mg_none_of X G z_enumerate, n_int := PySem.W.mg_none_of X G z_int, n_isinstance := PySem.W.mg_none_of X G z_isinstance, n_len := PySem.W.mg_none_of X G z_len, n_list := PySem.W.mg_none_of X G z_list, n_max := PySem.W.mg_none_of X G z_max, n_min := PySem.W.mg_none_of X G z_min, n_range := PySem.W.mg_none_of X G z_range, n_reversed := PySem.W.mg_none_of X G z_reversed, n_tuple := PySem.W.mg_none_of X G z_tuple, n_type := PySem.W.mg_none_of X G z_type, n_zip := PySem.W.mg_none_of X G z_zip, m_gcd := PySem.W.mg_of X G m_gcd, m_lcm := PySem.W.mg_of X G m_lcm, c_ZERO := const_tup (PySem.W.mg_of X G q_ZERO) lq_ZERO (is := [0, 1]) (.cons ⟨_, rfl⟩ (.cons ⟨_, rfl⟩ (.nil))) (by show 2 ≤ sizeLine; decide), c_SPARE_BITS := const_int ⟨_, PySem.W.mg_of X G q_SPARE_BITS⟩, x_NoRow := excOk_mk (PySem.W.mg_of X G ca_NoRow) ex_NoRow ke_NoRow su_NoRow_BaseException ty_NoRow, x_Nought := excOk_mk (PySem.W.mg_of X G ca_Nought) ex_Nought ke_Nought su_Nought_BaseException ty_Nought, x_PartError := excOk_mk (PySem.W.mg_of X G ca_PartError) ex_PartError ke_PartError su_PartError_BaseException ty_PartError, d_fraction := defOk_mk F0 (PySem.W.mg_of X G a0) b0, d_is_fraction := defOk_mk F1 (PySem.W.mg_of X G a1) b1, d_product_of := defOk_mk F2 (PySem.W.mg_of X G a2) b2, d_part_of := defOk_mk F3 (PySem.W.mg_of X G a3) b3, d_shared_divisor := defOk_mk F4 (PySem.W.mg_of X G a4) b4, d_shortened := defOk_mk F5 (PySem.W.mg_of X G a5) b5, d_without_last := defOk_mk F6 (PySem.W.mg_of X G a6) b6, d_least_factors := defOk_mk F7 (PySem.W.mg_of X G a7) b7, d_taken_away := defOk_mk F8 (PySem.W.mg_of X G a8) b8, d_divides := defOk_mk F9 (PySem.W.mg_of X G a9) b9, d_value_at := defOk_mk F10 (PySem.W.mg_of X G a10) b10, d_tops_of_value := defOk_mk F11 (PySem.W.mg_of X G a11) b11, d_shared_tops := defOk_mk F12 (PySem.W.mg_of X G a12) b12, d_is_row := defOk_mk F13 (PySem.W.mg_of X G a13) b13, d_refuse_no_row := defOk_mk F14 (PySem.W.mg_of X G a14) b14, d_over_one_bottom := defOk_mk F15 (PySem.W.mg_of X G a15) b15, d_row_over := defOk_mk F16 (PySem.W.mg_of X G a16) b16, d_divided := defOk_mk F17 (PySem.W.mg_of X G a17) b17, d_rate := defOk_mk F18 (PySem.W.mg_of X G a18) b18, d_led := defOk_mk F19 (PySem.W.mg_of X G a19) b19, d_whole_tops := defOk_mk F20 (PySem.W.mg_of X G a20) b20, d_shared_row := defOk_mk F21 (PySem.W.mg_of X G a21) b21, d_refuse_no_rows := defOk_mk F22 (PySem.W.mg_of X G a22) b22, d_parts_by_power := defOk_mk F23 (PySem.W.mg_of X G a23) b23, d_cut := defOk_mk F24 (PySem.W.mg_of X G a24) b24, d_parts_of := defOk_mk F25 (PySem.W.mg_of X G a25) b25, d_parts := defOk_mk F26 (PySem.W.mg_of X G a26) b26, d__law_cell_at := defOk_mk F27 (PySem.W.mg_of X G a27) b27, d__law_stream := defOk_mk F28 (PySem.W.mg_of X G a28) b28, d__law_whole := defOk_mk F29 (PySem.W.mg_of X G a29) b29, d__law_divisor := defOk_mk F30 (PySem.W.mg_of X G a30) b30, d__law_fraction := defOk_mk F31 (PySem.W.mg_of X G a31) b31, d__law_is_fraction := defOk_mk F32 (PySem.W.mg_of X G a32) b32, d__law_is_row := defOk_mk F33 (PySem.W.mg_of X G a33) b33, d__law_sum := defOk_mk F34 (PySem.W.mg_of X G a34) b34, d__law_product := defOk_mk F35 (PySem.W.mg_of X G a35) b35, d__law_trim := defOk_mk F36 (PySem.W.mg_of X G a36) b36, d__law_plus := defOk_mk F37 (PySem.W.mg_of X G a37) b37, d__law_scale := defOk_mk F38 (PySem.W.mg_of X G a38) b38, d__law_times := defOk_mk F39 (PySem.W.mg_of X G a39) b39, d__law_rate := defOk_mk F40 (PySem.W.mg_of X G a40) b40, d__law_power := defOk_mk F41 (PySem.W.mg_of X G a41) b41, d__law_divide := defOk_mk F42 (PySem.W.mg_of X G a42) b42, d__law_led := defOk_mk F43 (PySem.W.mg_of X G a43) b43, d__law_shared := defOk_mk F44 (PySem.W.mg_of X G a44) b44, d__law_number := defOk_mk F45 (PySem.W.mg_of X G a45) b45, d__law_row_by := defOk_mk F46 (PySem.W.mg_of X G a46) b46, d__law_factors := defOk_mk F47 (PySem.W.mg_of X G a47) b47, d__law_powers := defOk_mk F48 (PySem.W.mg_of X G a48) b48, d__law_many := defOk_mk F49 (PySem.W.mg_of X G a49) b49, d__law_bottom := defOk_mk F50 (PySem.W.mg_of X G a50) b50, d__law_told := defOk_mk F51 (PySem.W.mg_of X G a51) b51, d__law_divides := defOk_mk F52 (PySem.W.mg_of X G a52) b52, d__law_one_right := defOk_mk F53 (PySem.W.mg_of X G a53) b53, d__law_key := defOk_mk F54 (PySem.W.mg_of X G a54) b54, d__law_right := defOk_mk F55 (PySem.W.mg_of X G a55) b55, d_law := defOk_mk F56 (PySem.W.mg_of X G a56) b56 }
  exact (spec_law T).fn F56
end Q09
open PySem PySem.W PyProof.Rows
set_option maxRecDepth 100000 in
set_option maxHeartbeats 0 in
theorem PySem.Challenge.cw_fractionparts_k09_whole_parts_holds : PySem.Challenge.rw_fractionparts_k09_whole_parts.Holds := by
  w_on; o_law; k_head; (case hw => w_witness2)
  k_fill
  refine Pu.walk_law (l := PySem.Challenge.rw_fractionparts_k09_whole_parts) (k := 42) (x := "_law_script") rfl rfl ⟨rfl, by decide, by decide⟩ (by decide +kernel) rfl (fun w h Y => PySem.W.kIn_of Y) ?F
  case F =>
    intro w mg fa h KX G hmg
    refine' Q09.all_mk KX G hmg ?a0 ?l0 ?c0 ?k0 ?a1 ?l1 ?c1 ?k1 ?a2 ?l2 ?c2 ?k2 ?a3 ?l3 ?c3 ?k3 ?a4 ?l4 ?c4 ?k4 ?a5 ?l5 ?c5 ?k5 ?a6 ?l6 ?c6 ?k6 ?a7 ?l7 ?c7 ?k7 ?a8 ?l8 ?c8 ?k8 ?a9 ?l9 ?c9 ?k9 ?a10 ?l10 ?c10 ?k10 ?a11 ?l11 ?c11 ?k11 ?a12 ?l12 ?c12 ?k12 ?a13 ?l13 ?c13 ?k13 ?a14 ?l14 ?c14 ?k14 ?a15 ?l15 ?c15 ?k15 ?a16 ?l16 ?c16 ?k16 ?a17 ?l17 ?c17 ?k17 ?a18 ?l18 ?c18 ?k18 ?a19 ?l19 ?c19 ?k19 ?a20 ?l20 ?c20 ?k20 ?a21 ?l21 ?c21 ?k21 ?a22 ?l22 ?c22 ?k22 ?a23 ?l23 ?c23 ?k23 ?a24 ?l24 ?c24 ?k24 ?a25 ?l25 ?c25 ?k25 ?a26 ?l26 ?c26 ?k26 ?a27 ?l27 ?c27 ?k27 ?a28 ?l28 ?c28 ?k28 ?a29 ?l29 ?c29 ?k29 ?a30 ?l30 ?c30 ?k30 ?a31 ?l31 ?c31 ?k31 ?a32 ?l32 ?c32 ?k32 ?a33 ?l33 ?c33 ?k33 ?a34 ?l34 ?c34 ?k34 ?a35 ?l35 ?c35 ?k35 ?a36 ?l36 ?c36 ?k36 ?a37 ?l37 ?c37 ?k37 ?a38 ?l38 ?c38 ?k38 ?a39 ?l39 ?c39 ?k39 ?a40 ?l40 ?c40 ?k40 ?a41 ?l41 ?c41 ?k41 ?a42 ?l42 ?c42 ?k42 ?a43 ?l43 ?c43 ?k43 ?a44 ?l44 ?c44 ?k44 ?a45 ?l45 ?c45 ?k45 ?a46 ?l46 ?c46 ?k46 ?a47 ?l47 ?c47 ?k47 ?a48 ?l48 ?c48 ?k48 ?a49 ?l49 ?c49 ?k49 ?a50 ?l50 ?c50 ?k50 ?a51 ?l51 ?c51 ?k51 ?a52 ?l52 ?c52 ?k52 ?a53 ?l53 ?c53 ?k53 ?a54 ?l54 ?c54 ?k54 ?a55 ?l55 ?c55 ?k55 ?a56 ?l56 ?c56 ?k56 ?z_abs ?z_all ?z_bool ?z_divmod ?z_enumerate ?z_int ?z_isinstance ?z_len ?z_list ?z_max ?z_min ?z_range ?z_reversed ?z_tuple ?z_type ?z_zip ?m_gcd ?m_lcm ?q_ZERO ?lq_ZERO ?q_SPARE_BITS ?ca_NoRow ?ex_NoRow ?ke_NoRow ?su_NoRow_BaseException ?ty_NoRow ?ca_Nought ?ex_Nought ?ke_Nought ?su_Nought_BaseException ?ty_Nought ?ca_PartError ?ex_PartError ?ke_PartError ?su_PartError_BaseException ?ty_PartError
    (case a0 => first | k_is | rfl)
    (case l0 => first | k_is | rfl)
    (case c0 => first | k_is | rfl)
    (case k0 => first | k_is | rfl)
    (case a1 => first | k_is | rfl)
    (case l1 => first | k_is | rfl)
    (case c1 => first | k_is | rfl)
    (case k1 => first | k_is | rfl)
    (case a2 => first | k_is | rfl)
    (case l2 => first | k_is | rfl)
    (case c2 => first | k_is | rfl)
    (case k2 => first | k_is | rfl)
    (case a3 => first | k_is | rfl)
    (case l3 => first | k_is | rfl)
    (case c3 => first | k_is | rfl)
    (case k3 => first | k_is | rfl)
    (case a4 => first | k_is | rfl)
    (case l4 => first | k_is | rfl)
    (case c4 => first | k_is | rfl)
    (case k4 => first | k_is | rfl)
    (case a5 => first | k_is | rfl)
    (case l5 => first | k_is | rfl)
    (case c5 => first | k_is | rfl)
    (case k5 => first | k_is | rfl)
    (case a6 => first | k_is | rfl)
    (case l6 => first | k_is | rfl)
    (case c6 => first | k_is | rfl)
    (case k6 => first | k_is | rfl)
    (case a7 => first | k_is | rfl)
    (case l7 => first | k_is | rfl)
    (case c7 => first | k_is | rfl)
    (case k7 => first | k_is | rfl)
    (case a8 => first | k_is | rfl)
    (case l8 => first | k_is | rfl)
    (case c8 => first | k_is | rfl)
    (case k8 => first | k_is | rfl)
    (case a9 => first | k_is | rfl)
    (case l9 => first | k_is | rfl)
    (case c9 => first | k_is | rfl)
    (case k9 => first | k_is | rfl)
    (case a10 => first | k_is | rfl)
    (case l10 => first | k_is | rfl)
    (case c10 => first | k_is | rfl)
    (case k10 => first | k_is | rfl)
    (case a11 => first | k_is | rfl)
    (case l11 => first | k_is | rfl)
    (case c11 => first | k_is | rfl)
    (case k11 => first | k_is | rfl)
    (case a12 => first | k_is | rfl)
    (case l12 => first | k_is | rfl)
    (case c12 => first | k_is | rfl)
    (case k12 => first | k_is | rfl)
    (case a13 => first | k_is | rfl)
    (case l13 => first | k_is | rfl)
    (case c13 => first | k_is | rfl)
    (case k13 => first | k_is | rfl)
    (case a14 => first | k_is | rfl)
    (case l14 => first | k_is | rfl)
    (case c14 => first | k_is | rfl)
    (case k14 => first | k_is | rfl)
    (case a15 => first | k_is | rfl)
    (case l15 => first | k_is | rfl)
    (case c15 => first | k_is | rfl)
    (case k15 => first | k_is | rfl)
    (case a16 => first | k_is | rfl)
    (case l16 => first | k_is | rfl)
    (case c16 => first | k_is | rfl)
    (case k16 => first | k_is | rfl)
    (case a17 => first | k_is | rfl)
    (case l17 => first | k_is | rfl)
    (case c17 => first | k_is | rfl)
    (case k17 => first | k_is | rfl)
    (case a18 => first | k_is | rfl)
    (case l18 => first | k_is | rfl)
    (case c18 => first | k_is | rfl)
    (case k18 => first | k_is | rfl)
    (case a19 => first | k_is | rfl)
    (case l19 => first | k_is | rfl)
    (case c19 => first | k_is | rfl)
    (case k19 => first | k_is | rfl)
    (case a20 => first | k_is | rfl)
    (case l20 => first | k_is | rfl)
    (case c20 => first | k_is | rfl)
    (case k20 => first | k_is | rfl)
    (case a21 => first | k_is | rfl)
    (case l21 => first | k_is | rfl)
    (case c21 => first | k_is | rfl)
    (case k21 => first | k_is | rfl)
    (case a22 => first | k_is | rfl)
    (case l22 => first | k_is | rfl)
    (case c22 => first | k_is | rfl)
    (case k22 => first | k_is | rfl)
    (case a23 => first | k_is | rfl)
    (case l23 => first | k_is | rfl)
    (case c23 => first | k_is | rfl)
    (case k23 => first | k_is | rfl)
    (case a24 => first | k_is | rfl)
    (case l24 => first | k_is | rfl)
    (case c24 => first | k_is | rfl)
    (case k24 => first | k_is | rfl)
    (case a25 => first | k_is | rfl)
    (case l25 => first | k_is | rfl)
    (case c25 => first | k_is | rfl)
    (case k25 => first | k_is | rfl)
    (case a26 => first | k_is | rfl)
    (case l26 => first | k_is | rfl)
    (case c26 => first | k_is | rfl)
    (case k26 => first | k_is | rfl)
    (case a27 => first | k_is | rfl)
    (case l27 => first | k_is | rfl)
    (case c27 => first | k_is | rfl)
    (case k27 => first | k_is | rfl)
    (case a28 => first | k_is | rfl)
    (case l28 => first | k_is | rfl)
    (case c28 => first | k_is | rfl)
    (case k28 => first | k_is | rfl)
    (case a29 => first | k_is | rfl)
    (case l29 => first | k_is | rfl)
    (case c29 => first | k_is | rfl)
    (case k29 => first | k_is | rfl)
    (case a30 => first | k_is | rfl)
    (case l30 => first | k_is | rfl)
    (case c30 => first | k_is | rfl)
    (case k30 => first | k_is | rfl)
    (case a31 => first | k_is | rfl)
    (case l31 => first | k_is | rfl)
    (case c31 => first | k_is | rfl)
    (case k31 => first | k_is | rfl)
    (case a32 => first | k_is | rfl)
    (case l32 => first | k_is | rfl)
    (case c32 => first | k_is | rfl)
    (case k32 => first | k_is | rfl)
    (case a33 => first | k_is | rfl)
    (case l33 => first | k_is | rfl)
    (case c33 => first | k_is | rfl)
    (case k33 => first | k_is | rfl)
    (case a34 => first | k_is | rfl)
    (case l34 => first | k_is | rfl)
    (case c34 => first | k_is | rfl)
    (case k34 => first | k_is | rfl)
    (case a35 => first | k_is | rfl)
    (case l35 => first | k_is | rfl)
    (case c35 => first | k_is | rfl)
    (case k35 => first | k_is | rfl)
    (case a36 => first | k_is | rfl)
    (case l36 => first | k_is | rfl)
    (case c36 => first | k_is | rfl)
    (case k36 => first | k_is | rfl)
    (case a37 => first | k_is | rfl)
    (case l37 => first | k_is | rfl)
    (case c37 => first | k_is | rfl)
    (case k37 => first | k_is | rfl)
    (case a38 => first | k_is | rfl)
    (case l38 => first | k_is | rfl)
    (case c38 => first | k_is | rfl)
    (case k38 => first | k_is | rfl)
    (case a39 => first | k_is | rfl)
    (case l39 => first | k_is | rfl)
    (case c39 => first | k_is | rfl)
    (case k39 => first | k_is | rfl)
    (case a40 => first | k_is | rfl)
    (case l40 => first | k_is | rfl)
    (case c40 => first | k_is | rfl)
    (case k40 => first | k_is | rfl)
    (case a41 => first | k_is | rfl)
    (case l41 => first | k_is | rfl)
    (case c41 => first | k_is | rfl)
    (case k41 => first | k_is | rfl)
    (case a42 => first | k_is | rfl)
    (case l42 => first | k_is | rfl)
    (case c42 => first | k_is | rfl)
    (case k42 => first | k_is | rfl)
    (case a43 => first | k_is | rfl)
    (case l43 => first | k_is | rfl)
    (case c43 => first | k_is | rfl)
    (case k43 => first | k_is | rfl)
    (case a44 => first | k_is | rfl)
    (case l44 => first | k_is | rfl)
    (case c44 => first | k_is | rfl)
    (case k44 => first | k_is | rfl)
    (case a45 => first | k_is | rfl)
    (case l45 => first | k_is | rfl)
    (case c45 => first | k_is | rfl)
    (case k45 => first | k_is | rfl)
    (case a46 => first | k_is | rfl)
    (case l46 => first | k_is | rfl)
    (case c46 => first | k_is | rfl)
    (case k46 => first | k_is | rfl)
    (case a47 => first | k_is | rfl)
    (case l47 => first | k_is | rfl)
    (case c47 => first | k_is | rfl)
    (case k47 => first | k_is | rfl)
    (case a48 => first | k_is | rfl)
    (case l48 => first | k_is | rfl)
    (case c48 => first | k_is | rfl)
    (case k48 => first | k_is | rfl)
    (case a49 => first | k_is | rfl)
    (case l49 => first | k_is | rfl)
    (case c49 => first | k_is | rfl)
    (case k49 => first | k_is | rfl)
    (case a50 => first | k_is | rfl)
    (case l50 => first | k_is | rfl)
    (case c50 => first | k_is | rfl)
    (case k50 => first | k_is | rfl)
    (case a51 => first | k_is | rfl)
    (case l51 => first | k_is | rfl)
    (case c51 => first | k_is | rfl)
    (case k51 => first | k_is | rfl)
    (case a52 => first | k_is | rfl)
    (case l52 => first | k_is | rfl)
    (case c52 => first | k_is | rfl)
    (case k52 => first | k_is | rfl)
    (case a53 => first | k_is | rfl)
    (case l53 => first | k_is | rfl)
    (case c53 => first | k_is | rfl)
    (case k53 => first | k_is | rfl)
    (case a54 => first | k_is | rfl)
    (case l54 => first | k_is | rfl)
    (case c54 => first | k_is | rfl)
    (case k54 => first | k_is | rfl)
    (case a55 => first | k_is | rfl)
    (case l55 => first | k_is | rfl)
    (case c55 => first | k_is | rfl)
    (case k55 => first | k_is | rfl)
    (case a56 => first | k_is | rfl)
    (case l56 => first | k_is | rfl)
    (case c56 => first | k_is | rfl)
    (case k56 => first | k_is | rfl)
    (case z_abs => first | k_is | rfl)
    (case z_all => first | k_is | rfl)
    (case z_bool => first | k_is | rfl)
    (case z_divmod => first | k_is | rfl)
    (case z_enumerate => first | k_is | rfl)
    (case z_int => first | k_is | rfl)
    (case z_isinstance => first | k_is | rfl)
    (case z_len => first | k_is | rfl)
    (case z_list => first | k_is | rfl)
    (case z_max => first | k_is | rfl)
    (case z_min => first | k_is | rfl)
    (case z_range => first | k_is | rfl)
    (case z_reversed => first | k_is | rfl)
    (case z_tuple => first | k_is | rfl)
    (case z_type => first | k_is | rfl)
    (case z_zip => first | k_is | rfl)
    (case m_gcd => first | k_is | rfl)
    (case m_lcm => first | k_is | rfl)
    (case q_ZERO => first | k_is | rfl)
    (case lq_ZERO => first | k_is | rfl)
    (case q_SPARE_BITS => first | k_is | rfl)
    (case ca_NoRow => first | k_is | rfl)
    (case ex_NoRow => k_exc)
    (case ke_NoRow => first | k_is | rfl)
    (case su_NoRow_BaseException => first | k_is | rfl)
    (case ty_NoRow => first | k_is | rfl)
    (case ca_Nought => first | k_is | rfl)
    (case ex_Nought => k_exc)
    (case ke_Nought => first | k_is | rfl)
    (case su_Nought_BaseException => first | k_is | rfl)
    (case ty_Nought => first | k_is | rfl)
    (case ca_PartError => first | k_is | rfl)
    (case ex_PartError => k_exc)
    (case ke_PartError => first | k_is | rfl)
    (case su_PartError_BaseException => first | k_is | rfl)
    (case ty_PartError => first | k_is | rfl)
