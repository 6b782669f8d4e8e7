import PyProof.Rows.All
import Wide.All
import OpenK.AllK
import Wide.FinOn
import HandS.ForMost
import HandS.ForExc
import HandS.Flow
import HandS.TupAny
import HandS.Deep
import HandS.IsInst
import HandS.Walk
import HandS.Steps
import HandS.StrMore
import HandS.Style
import HandS.CallSlots
import KE.LtData
import HandS.Replace
import PyProof.Draws
import HandS.Conv
import HandS.RevTup
import HandS.Rev
import PyProof.JoinWalk
import HandS.Zip
import HandS.More
import PySem.Challenge.RW_talkalike_k19_order_of_talks
set_option Elab.async false
set_option linter.all false
set_option maxRecDepth 100000
set_option maxHeartbeats 4000000
namespace Dw
noncomputable section
open PySem PySem.Spec PyProof.Rows L2

/-- a test that is not to be reckoned out -/
noncomputable def okP (p : Prop) : Bool := @decide p (Classical.propDecidable p)
theorem okP_iff {p : Prop} : okP p = true ↔ p := @decide_eq_true_iff p (Classical.propDecidable p)

/-! ### data -/
inductive D where
  | non | bl (b : Bool) | int (i : Int) | str (x : List Nat) | lst (xs : List D) | tup (xs : List D)
  deriving Inhabited
def mk (x : List Nat) : Str := ⟨x.toArray⟩
theorem mk_len (x : List Nat) : (mk x).length = x.length := by simp [mk, Str.length]
theorem mk_tl (x : List Nat) : (mk x).cps.toList = x := rfl
theorem mk_of (s : Str) : mk s.cps.toList = s := by cases s; simp [mk]
theorem mk_app (x y : List Nat) : mk x ++ mk y = mk (x ++ y) := by
  show Str.append _ _ = _
  simp [Str.append, mk]
theorem mk_inj {x y : List Nat} (h : mk x = mk y) : x = y := by
  have := congrArg (fun s : Str => s.cps.toList) h
  simpa [mk] using this
mutual
inductive Rel (K : PySem.W.Frag) (F : Hp) : V → D → Prop
  | non : Rel K F .non .non
  | bl (b : Bool) : Rel K F (.bl b) (.bl b)
  | int (i : Int) : Rel K F (.int i) (.int i)
  | str (x : List Nat) : Rel K F (.str (mk x)) (.str x)
  | lst {a : Addr} {xs : List V} {ds : List D} : SqL K F a xs → RelAll K F xs ds → Rel K F (.ref a) (.lst ds)
  | tup {a : Addr} {xs : List V} {ds : List D} : SqT K F a xs → RelAll K F xs ds → Rel K F (.ref a) (.tup ds)
inductive RelAll (K : PySem.W.Frag) (F : Hp) : List V → List D → Prop
  | nil : RelAll K F [] []
  | cons {v : V} {vs : List V} {d : D} {ds : List D} : Rel K F v d → RelAll K F vs ds → RelAll K F (v :: vs) (d :: ds)
end
/-- heaps that grow -/
def Ex (H H' : Hp) : Prop := ∀ a o, H a = some o → H' a = some o
theorem Ex.refl (H : Hp) : Ex H H := fun _ _ h => h
theorem Ex.trans {H H1 H2 : Hp} (a : Ex H H1) (b : Ex H1 H2) : Ex H H2 := fun x o h => b x o (a x o h)
theorem Ex.new {H : Hp} {p : Addr} {o : HO} (h : H p = none) : Ex H (upd H p o) := fun a u e => by
  rw [upd_ne (ne_of_none e h)]
  exact e
theorem ex_rd {H H' : Hp} {a : Addr} {u : HO} (e : Ex H H') (h : Rd H a u) : Rd H' a u := by
  rcases h with h | ⟨o, h⟩
  · exact Or.inl (e a _ h)
  · exact Or.inr ⟨o, e a _ h⟩
theorem ex_l {K : PySem.W.Frag} {H H' : Hp} {a : Addr} {xs : List V} (e : Ex H H') (h : SqL K H a xs) : SqL K H' a xs := by
  rcases h with h | h
  · exact Or.inl (ex_rd e h)
  · exact Or.inr h
theorem ex_t {K : PySem.W.Frag} {H H' : Hp} {a : Addr} {xs : List V} (e : Ex H H') (h : SqT K H a xs) : SqT K H' a xs := by
  rcases h with h | h
  · exact Or.inl (ex_rd e h)
  · exact Or.inr h
section
variable {K : PySem.W.Frag} {F F' : Hp}
mutual
theorem Rel.mono (e : Ex F F') : ∀ (d : D) (v : V), Rel K F v d → Rel K F' v d
  | .non, _, h => by cases h; exact .non
  | .bl _, _, h => by cases h; exact .bl _
  | .int _, _, h => by cases h; exact .int _
  | .str _, _, h => by cases h; exact .str _
  | .lst ds, _, h => by
    cases h with
    | lst s r => exact .lst (ex_l e s) (RelAll.mono e ds _ r)
  | .tup ds, _, h => by
    cases h with
    | tup s r => exact .tup (ex_t e s) (RelAll.mono e ds _ r)
theorem RelAll.mono (e : Ex F F') : ∀ (ds : List D) (vs : List V), RelAll K F vs ds → RelAll K F' vs ds
  | [], _, h => by cases h; exact .nil
  | d :: ds, _, h => by
    cases h with
    | cons a b => exact .cons (Rel.mono e d _ a) (RelAll.mono e ds _ b)
end
theorem Rel.up (e : Ex F F') {d : D} {v : V} (h : Rel K F v d) : Rel K F' v d := Rel.mono e d v h
theorem RelAll.up (e : Ex F F') {ds : List D} {vs : List V} (h : RelAll K F vs ds) : RelAll K F' vs ds := RelAll.mono e ds vs h
theorem RelAll.len : ∀ {vs : List V} {ds : List D}, RelAll K F vs ds → vs.length = ds.length
  | _, [], h => by cases h; rfl
  | _, d :: ds, h => by
    cases h with
    | cons a b => simp [RelAll.len b]
theorem RelAll.app : ∀ {vs ws : List V} {ds es : List D}, RelAll K F vs ds → RelAll K F ws es → RelAll K F (vs ++ ws) (ds ++ es)
  | _, _, [], _, h, g => by cases h; exact g
  | _, _, d :: ds, _, h, g => by
    cases h with
    | cons a b => exact .cons a (RelAll.app b g)
theorem RelAll.get : ∀ {vs : List V} {ds : List D} {i : Nat} {v : V}, RelAll K F vs ds → vs[i]? = some v → ∃ d, ds[i]? = some d ∧ Rel K F v d
  | _, [], _, _, h, e => by cases h; simp at e
  | _, d :: ds, i, v, h, e => by
    cases h with
    | cons a b =>
      cases i with
      | zero =>
        simp at e
        subst e
        exact ⟨d, rfl, a⟩
      | succ i =>
        obtain ⟨d', e', r⟩ := RelAll.get (i := i) b (by simpa using e)
        exact ⟨d', by simpa using e', r⟩
theorem RelAll.getD : ∀ {vs : List V} {ds : List D} {i : Nat} {d : D}, RelAll K F vs ds → ds[i]? = some d → ∃ v, vs[i]? = some v ∧ Rel K F v d
  | _, [], _, _, h, e => by simp at e
  | _, d :: ds, i, x, h, e => by
    cases h with
    | cons a b =>
      cases i with
      | zero =>
        simp at e
        subst e
        exact ⟨_, rfl, a⟩
      | succ i =>
        obtain ⟨d', e', r⟩ := RelAll.getD (i := i) b (by simpa using e)
        exact ⟨d', by simpa using e', r⟩
theorem RelAll.take : ∀ {vs : List V} {ds : List D} (n : Nat), RelAll K F vs ds → RelAll K F (vs.take n) (ds.take n)
  | _, _, 0, _ => by simp; exact .nil
  | _, [], n + 1, h => by cases h; simp; exact .nil
  | _, d :: ds, n + 1, h => by
    cases h with
    | cons a b => exact .cons a (RelAll.take n b)
theorem RelAll.drop : ∀ {vs : List V} {ds : List D} (n : Nat), RelAll K F vs ds → RelAll K F (vs.drop n) (ds.drop n)
  | _, _, 0, h => by simpa using h
  | _, [], n + 1, h => by cases h; simp; exact .nil
  | _, d :: ds, n + 1, h => by
    cases h with
    | cons a b => simpa using RelAll.drop n b
theorem RelAll.rev : ∀ {vs : List V} {ds : List D}, RelAll K F vs ds → RelAll K F vs.reverse ds.reverse
  | _, [], h => by cases h; exact .nil
  | _, d :: ds, h => by
    cases h with
    | cons a b =>
      rw [List.reverse_cons, List.reverse_cons]
      exact RelAll.app (RelAll.rev b) (.cons a .nil)
theorem RelAll.set : ∀ {vs : List V} {ds : List D} (i : Nat) {v : V} {d : D}, RelAll K F vs ds → Rel K F v d → RelAll K F (vs.set i v) (ds.set i d)
  | _, [], _, _, _, h, _ => by cases h; exact .nil
  | _, d :: ds, 0, _, _, h, r => by
    cases h with
    | cons a b => exact .cons r b
  | _, d :: ds, i + 1, _, _, h, r => by
    cases h with
    | cons a b => exact .cons a (RelAll.set i b r)
theorem RelAll.ints : ∀ (ns : List Int), RelAll K F (ns.map V.int) (ns.map D.int)
  | [] => .nil
  | n :: r => .cons (.int n) (RelAll.ints r)
end

/-! ### what a slot holds -/
/-- the content of a thing that is one's own -/
inductive C where
  | lst (xs : List D)
def CellOk (K : PySem.W.Frag) (F : Hp) (o : HO) : C → Prop
  | .lst ds => ∃ vs, o = .lst vs ∧ RelAll K F vs ds
theorem CellOk.up {K : PySem.W.Frag} {F F' : Hp} {o : HO} (e : Ex F F') : ∀ {c : C}, CellOk K F o c → CellOk K F' o c
  | .lst _, ⟨vs, h, r⟩ => ⟨vs, h, r.up e⟩
/-- own true: a thing that was handed in, and goes back to the caller -/
inductive SV where
  | un | d (x : D) | own (b : Bool) (c : C)
/-- what the caller keeps: things that stand as they are; where the things that were handed in stand -/
structure Fm where
  r : Hp
  t : Nat → Addr
def FEx (R R' : Fm) : Prop := Ex R.r R'.r ∧ R.t = R'.t
theorem FEx.refl (R : Fm) : FEx R R := ⟨Ex.refl _, rfl⟩
abbrev Sl := List SV
/-- a value in passing -/
inductive RV where
  | d (x : D) | own (c : C) | cv (i : Nat)

structure Sta (K : PySem.W.Frag) (F : Hp) (R : Fm) (σ : L2.St) (H : Hp) (env : Sl) : Prop where
  sub : Ex F H
  fr : Ex R.r H
  dis : ∀ b o, R.r b = some o → F b = none
  len : σ.length = env.length
  dat : ∀ (i : Nat) x, env[i]? = some (SV.d x) → ∃ v, σ[i]? = some (some v) ∧ Rel K F v x
  own : ∀ (i : Nat) b c, env[i]? = some (SV.own b c) → ∃ p o, σ[i]? = some (some (V.ref p)) ∧ F p = none ∧ R.r p = none ∧ H p = some o ∧ CellOk K F o c
  tag : ∀ (i : Nat) c, env[i]? = some (SV.own true c) → σ[i]? = some (some (V.ref (R.t i)))
  inj : ∀ (i j : Nat) bi ci bj cj p, env[i]? = some (SV.own bi ci) → env[j]? = some (SV.own bj cj) → σ[i]? = some (some (V.ref p)) → σ[j]? = some (some (V.ref p)) → i = j
def RvOk (K : PySem.W.Frag) (F : Hp) (R : Fm) (σ : L2.St) (H : Hp) (env : Sl) (v : V) : RV → Prop
  | .d x => Rel K F v x
  | .own c => ∃ p o, v = .ref p ∧ F p = none ∧ R.r p = none ∧ H p = some o ∧ CellOk K F o c ∧ ∀ (i : Nat) b c', env[i]? = some (SV.own b c') → σ[i]? ≠ some (some (V.ref p))
  | .cv i => σ[i]? = some (some v)

/-- an exception: its class, its fields -/
structure Xn where
  cls : Addr
  fs : List (Str × D)
inductive Re where
  | ok (a : RV) (env : Sl) | ex (e : Xn) (env : Sl)
abbrev SE := Sl → Option Re
def bindE (x : Option Re) (k : RV → SE) : Option Re :=
  match x with
  | some (.ok a env) => k a env
  | some (.ex e env) => some (.ex e env)
  | none => none
@[simp] theorem bindE_ok {a : RV} {env : Sl} {k : RV → SE} : bindE (some (.ok a env)) k = k a env := rfl
@[simp] theorem bindE_ex {e : Xn} {env : Sl} {k : RV → SE} : bindE (some (.ex e env)) k = some (.ex e env) := rfl
@[simp] theorem bindE_none {k : RV → SE} : bindE none k = none := rfl

/-- how an exception lies in the heap -/
def XnAt (K : PySem.W.Frag) (F H : Hp) (e : Xn) (cls : Value) (d : Option Addr) : Prop :=
  cls = .ref e.cls ∧ ∃ dd vfs, d = some dd ∧ H dd = some (.xd vfs) ∧ vfs.map (·.1) = e.fs.map (·.1) ∧ RelAll K F (vfs.map (·.2)) (e.fs.map (·.2))

section
variable (K : PySem.W.Frag) (W : WX)
def PostE (F : Hp) (R : Fm) (σ : L2.St) (r : Re) (Q : VK) : Prop :=
  match r with
  | .ok a env' => ∀ v F' H', Ex F F' → Sta K F' R σ H' env' → RvOk K F' R σ H' env' v a → Q v H'
  | .ex e env' => ∀ cls d F' H', Ex F F' → Sta K F' R σ H' env' → XnAt K F' H' e cls d → W cls d σ H'
/-- what an expression asks: its meaning is f -/
def dE (f : SE) : TE := fun σ H Q => ∃ env F R r, Sta K F R σ H env ∧ f env = some r ∧ PostE K W F R σ r Q
end
section
variable {K : PySem.W.Frag} {W : WX} {F F' : Hp} {R : Fm} {σ : L2.St} {H : Hp} {Q : VK}
theorem PostE.up (e : Ex F F') : ∀ {r : Re}, PostE K W F R σ r Q → PostE K W F' R σ r Q
  | .ok _ _, h => fun v F2 H2 e2 s q => h v F2 H2 (e.trans e2) s q
  | .ex _ _, h => fun c d F2 H2 e2 s q => h c d F2 H2 (e.trans e2) s q
theorem dE.mono {f g : SE} (h : ∀ env r, g env = some r → f env = some r) (q : dE K W g σ H Q) : dE K W f σ H Q := by
  obtain ⟨env, F, R, r, s, e, p⟩ := q
  exact ⟨env, F, R, r, s, h env r e, p⟩
/-- the rule behind all others: first f, then k -/
theorem dE_bind {f : SE} {k : RV → SE} {Q1 : VK} (h : dE K W (fun env => bindE (f env) k) σ H Q)
    (hk : ∀ a env F R v H', Sta K F R σ H' env → RvOk K F R σ H' env v a → (∃ r, k a env = some r ∧ PostE K W F R σ r Q) → Q1 v H') : dE K W f σ H Q1 := by
  obtain ⟨env, F, R, r, s, e, p⟩ := h
  cases hf : f env with
  | none =>
    rw [show (fun env => bindE (f env) k) env = none by simp only [hf, bindE_none]] at e
    cases e
  | some r1 =>
    cases r1 with
    | ok a env1 =>
      rw [show (fun env => bindE (f env) k) env = k a env1 by simp only [hf, bindE_ok]] at e
      exact ⟨env, F, R, _, s, hf, fun v F1 H1 e1 s1 rv => hk a env1 F1 R v H1 s1 rv ⟨r, e, p.up e1⟩⟩
    | ex x env1 =>
      rw [show (fun env => bindE (f env) k) env = some (.ex x env1) by simp only [hf, bindE_ex]] at e
      cases e
      exact ⟨env, F, R, _, s, hf, p⟩
end
/-- a weaker reading -/
theorem _root_.L2.PE.wk {X : Cx} {e : Expr} {t u : TE} (h : PE X e t) (w : ∀ σ H Q, u σ H Q → t σ H Q) : PE X e u := ⟨fun pins s σ H Q I q => h.run pins s σ H Q I (w σ H Q q)⟩

/-! ### states -/
section
variable {K : PySem.W.Frag} {F F' F2 : Hp} {R R' : Fm} {σ : L2.St} {H H' : Hp} {env : Sl}
theorem ex_none {R R' : Hp} {q : Addr} (e : Ex R R') (h : R' q = none) : R q = none := by
  cases z : R q with
  | none => rfl
  | some u => rw [e q u z] at h; cases h
/-- a new object, frozen at once -/
theorem Sta.freshF (S : Sta K F R σ H env) {p : Addr} {o : HO} (hp : H p = none) : Sta K (upd F p o) R σ (upd H p o) env := by
  have hF : F p = none := ex_none S.sub hp
  have hR : R.r p = none := ex_none S.fr hp
  refine ⟨fun a u e => ?_, fun a u e => ?_, fun b u e => ?_, S.len, fun i x e => ?_, fun i b c e => ?_, S.tag, S.inj⟩
  · by_cases h : a = p
    · subst h; rw [upd_same] at e ⊢; exact e
    · rw [upd_ne h] at e ⊢; exact S.sub a u e
  · exact Ex.new hp a u (S.fr a u e)
  · have h : b ≠ p := fun h => by rw [h, hR] at e; cases e
    rw [upd_ne h]
    exact S.dis b u e
  · obtain ⟨v, e1, r⟩ := S.dat i x e
    exact ⟨v, e1, r.up (Ex.new hF)⟩
  · obtain ⟨q, u, e1, e2, e3, e4, e5⟩ := S.own i b c e
    have h : q ≠ p := fun h => by rw [h, hp] at e4; cases e4
    exact ⟨q, u, e1, by rw [upd_ne h]; exact e2, e3, by rw [upd_ne h]; exact e4, e5.up (Ex.new hF)⟩
theorem Sta.freeF (S : Sta K F R σ H env) {p : Addr} (hp : H p = none) : F p = none := ex_none S.sub hp
theorem Sta.freeR (S : Sta K F R σ H env) {p : Addr} (hp : H p = none) : R.r p = none := ex_none S.fr hp
/-- a new object, not frozen -/
theorem Sta.freshH (S : Sta K F R σ H env) {p : Addr} {o : HO} (hp : H p = none) : Sta K F R σ (upd H p o) env := by
  refine ⟨S.sub.trans (Ex.new hp), S.fr.trans (Ex.new hp), S.dis, S.len, S.dat, fun i b c e => ?_, S.tag, S.inj⟩
  obtain ⟨q, u, e1, e2, e3, e4, e5⟩ := S.own i b c e
  exact ⟨q, u, e1, e2, e3, Ex.new hp q u e4, e5⟩
/-- a temporary thing p is put aside: it stands in the rest -/
theorem Sta.hold (S : Sta K F R σ H env) {p : Addr} {o : HO} (hF : F p = none) (hp : H p = some o) (hs : ∀ (i : Nat) b c', env[i]? = some (SV.own b c') → σ[i]? ≠ some (some (V.ref p))) : Sta K F ⟨upd R.r p o, R.t⟩ σ H env := by
  refine ⟨S.sub, fun a u e => ?_, fun b u e => ?_, S.len, S.dat, fun i b c e => ?_, S.tag, S.inj⟩
  · by_cases h : a = p
    · subst h
      have e : upd R.r a o a = some u := e
      rw [upd_same] at e; cases e; exact hp
    · have e : upd R.r p o a = some u := e
      rw [upd_ne h] at e; exact S.fr a u e
  · by_cases h : b = p
    · subst h; exact hF
    · have e : upd R.r p o b = some u := e
      rw [upd_ne h] at e; exact S.dis b u e
  · obtain ⟨q, u, e1, e2, e3, e4, e5⟩ := S.own i b c e
    have h : q ≠ p := fun h => hs i b c e (by rw [← h]; exact e1)
    exact ⟨q, u, e1, e2, by show upd R.r p o q = none; rw [upd_ne h]; exact e3, e4, e5⟩
theorem Sta.unhold (S : Sta K F R' σ H env) (e : FEx R R') : Sta K F R σ H env := by
  refine ⟨S.sub, e.1.trans S.fr, fun b u q => S.dis b u (e.1 b u q), S.len, S.dat, fun i b c h => ?_, fun i c h => by rw [e.2]; exact S.tag i c h, S.inj⟩
  obtain ⟨q, u, e1, e2, e3, e4, e5⟩ := S.own i b c h
  exact ⟨q, u, e1, e2, ex_none e.1 e3, e4, e5⟩
/-- what holds of a value when it was put aside -/
def Held (K : PySem.W.Frag) (F : Hp) (R R' : Fm) (σ : L2.St) (v : V) : RV → Prop
  | .d x => Rel K F v x
  | .own c => ∃ p o, v = .ref p ∧ R.r p = none ∧ R'.r p = some o ∧ CellOk K F o c
  | .cv i => σ[i]? = some (some v)
theorem hold {a : RV} {v : V} (S : Sta K F R σ H env) (h : RvOk K F R σ H env v a) : ∃ R', FEx R R' ∧ Sta K F R' σ H env ∧ Held K F R R' σ v a := by
  cases a with
  | d x => exact ⟨R, FEx.refl R, S, h⟩
  | cv i => exact ⟨R, FEx.refl R, S, h⟩
  | own c =>
    obtain ⟨p, o, e1, e2, e3, e4, e5, e6⟩ := h
    exact ⟨⟨upd R.r p o, R.t⟩, ⟨Ex.new e3, rfl⟩, S.hold e2 e4 e6, p, o, e1, e3, upd_same, e5⟩
theorem unheld {a : RV} {v : V} (e : Ex F F') (eR : FEx R R') (S : Sta K F' R' σ H' env) (h : Held K F R R' σ v a) : RvOk K F' R σ H' env v a := by
  cases a with
  | d x => exact Rel.up e h
  | cv i => exact h
  | own c =>
    obtain ⟨p, o, e1, e3, e4, e5⟩ := h
    refine ⟨p, o, e1, S.dis p o e4, e3, S.fr p o e4, e5.up e, fun i b c' q z => ?_⟩
    obtain ⟨q1, u, z1, _, z3, _⟩ := S.own i b c' q
    rw [z] at z1
    cases z1
    rw [e4] at z3
    cases z3
theorem RvOk.unhold {a : RV} {v : V} (e : FEx R R') (h : RvOk K F R' σ H env v a) : RvOk K F R σ H env v a := by
  cases a with
  | d x => exact h
  | cv i => exact h
  | own c =>
    obtain ⟨p, o, e1, e2, e3, e4, e5, e6⟩ := h
    exact ⟨p, o, e1, e2, ex_none e.1 e3, e4, e5, e6⟩
/-- two temporary things stand apart -/
theorem held_ne {c c' : C} {v v' : V} (h : Held K F R R' σ v (.own c)) (h' : RvOk K F' R' σ H env v' (.own c')) : v ≠ v' := by
  obtain ⟨p, o, rfl, _, e4, _⟩ := h
  obtain ⟨q, u, rfl, _, e3, _⟩ := h'
  intro z
  cases z
  rw [e4] at e3
  cases e3
end
end
end Dw
namespace Dw
noncomputable section
open PySem PySem.Spec PyProof.Rows L2
section
variable (K : PySem.W.Frag) (W : WX)
def atE (f : SE) (F : Hp) (R : Fm) (σ : L2.St) (env : Sl) (Q : VK) : Prop := ∃ r, f env = some r ∧ PostE K W F R σ r Q
end
section
variable {K : PySem.W.Frag} {W : WX} {F F' : Hp} {R R' : Fm} {σ : L2.St} {H H' : Hp} {env : Sl} {Q Q1 : VK}
theorem dE_of {f : SE} (S : Sta K F R σ H env) (h : atE K W f F R σ env Q) : dE K W f σ H Q := let ⟨r, e, p⟩ := h; ⟨env, F, R, r, S, e, p⟩
theorem of_dE {f : SE} (h : dE K W f σ H Q) : ∃ env F R, Sta K F R σ H env ∧ atE K W f F R σ env Q := let ⟨env, F, R, r, S, e, p⟩ := h; ⟨env, F, R, S, r, e, p⟩
theorem atE.up {f : SE} (e : Ex F F') (h : atE K W f F R σ env Q) : atE K W f F' R σ env Q := let ⟨r, q, p⟩ := h; ⟨r, q, p.up e⟩
theorem PostE.un (e : FEx R R') : ∀ {r : Re}, PostE K W F R σ r Q → PostE K W F R' σ r Q
  | .ok _ _, h => fun v F2 H2 e2 s q => h v F2 H2 e2 (s.unhold e) (q.unhold e)
  | .ex _ _, h => fun c d F2 H2 e2 s q => h c d F2 H2 e2 (s.unhold e) q
theorem atE.un {f : SE} (e : FEx R R') (h : atE K W f F R σ env Q) : atE K W f F R' σ env Q := let ⟨r, q, p⟩ := h; ⟨r, q, p.un e⟩
theorem atE_bindR {f : SE} {k : RV → SE} (eR : FEx R R') (h : atE K W (fun env => bindE (f env) k) F R σ env Q)
    (hk : ∀ a env1 F1 v H1, Ex F F1 → Sta K F1 R' σ H1 env1 → RvOk K F1 R' σ H1 env1 v a → atE K W (k a) F1 R σ env1 Q → Q1 v H1) : atE K W f F R' σ env Q1 := by
  obtain ⟨r, e, p⟩ := h
  cases hf : f env with
  | none =>
    rw [show (fun env => bindE (f env) k) env = none by simp only [hf, bindE_none]] at e
    cases e
  | some r1 =>
    cases r1 with
    | ok a env1 =>
      rw [show (fun env => bindE (f env) k) env = k a env1 by simp only [hf, bindE_ok]] at e
      exact ⟨_, hf, fun v F1 H1 e1 s1 rv => hk a env1 F1 v H1 e1 s1 rv ⟨r, e, p.up e1⟩⟩
    | ex x env1 =>
      rw [show (fun env => bindE (f env) k) env = some (.ex x env1) by simp only [hf, bindE_ex]] at e
      cases e
      exact ⟨_, hf, PostE.un (Q := Q1) eR (show PostE K W F R σ (.ex x env1) Q1 from p)⟩
theorem atE_bind {f : SE} {k : RV → SE} (h : atE K W (fun env => bindE (f env) k) F R σ env Q)
    (hk : ∀ a env1 F1 v H1, Ex F F1 → Sta K F1 R σ H1 env1 → RvOk K F1 R σ H1 env1 v a → atE K W (k a) F1 R σ env1 Q → Q1 v H1) : atE K W f F R σ env Q1 := atE_bindR (FEx.refl R) h hk
/-- two operands -/
def two (op : RV → RV → SE) (fa fb : SE) : SE := fun env => bindE (fa env) fun a env1 => bindE (fb env1) fun b env2 => op a b env2
theorem dE_two {fa fb : SE} {op : RV → RV → SE} {r : V → V → Hp → Prop} (h : dE K W (two op fa fb) σ H Q)
    (hk : ∀ a b env F R v w H', Sta K F R σ H' env → RvOk K F R σ H' env v a → RvOk K F R σ H' env w b → atE K W (op a b) F R σ env Q → r v w H') :
    dE K W fa σ H fun x H1 => dE K W fb σ H1 fun y H2 => r x y H2 := by
  obtain ⟨env, F, R, S, q⟩ := of_dE h
  refine dE_of S (atE_bind q fun a env1 F1 v H1 e1 S1 rv q1 => ?_)
  obtain ⟨R', eR, S1', hd⟩ := hold S1 rv
  exact dE_of S1' (atE_bindR eR q1 fun b env2 F2 w H2 e2 S2 rw' q2 => hk a b env2 F2 R v w H2 (S2.unhold eR) (unheld e2 eR S2 hd) (rw'.unhold eR) q2)
theorem dE_one {fa : SE} {op : RV → SE} {r : V → Hp → Prop} (h : dE K W (fun env => bindE (fa env) op) σ H Q)
    (hk : ∀ a env F R v H', Sta K F R σ H' env → RvOk K F R σ H' env v a → atE K W (op a) F R σ env Q → r v H') : dE K W fa σ H r := by
  obtain ⟨env, F, R, S, q⟩ := of_dE h
  exact dE_of S (atE_bind q fun a env1 F1 v H1 e1 S1 rv q1 => hk a env1 F1 R v H1 S1 rv q1)

/-! ### what is seen of a value -/
def pkS : Option SV → Option D
  | some (.d x) => some x
  | some (.own _ (.lst xs)) => some (.lst xs)
  | _ => none
def pk (a : RV) (env : Sl) : Option D :=
  match a with
  | .d x => some x
  | .own (.lst xs) => some (.lst xs)
  | .cv i => pkS env[i]?
/-- a value as it is read now: a list's items are frozen, the list itself need not be -/
def Vw (K : PySem.W.Frag) (F H : Hp) (v : V) : D → Prop
  | .lst xs => ∃ p vs, v = .ref p ∧ SqL K H p vs ∧ RelAll K F vs xs
  | x => Rel K F v x
theorem Vw.of (e : Ex F H) {v : V} {x : D} (h : Rel K F v x) : Vw K F H v x := by
  cases h with
  | lst s r => exact ⟨_, _, rfl, ex_l e s, r⟩
  | non => exact .non
  | bl b => exact .bl b
  | int i => exact .int i
  | str x => exact .str x
  | tup s r => exact .tup s r
theorem Vw.rel (e : Ex F H) {v : V} : ∀ {x : D}, Vw K F H v x → Rel K H v x
  | .lst _, ⟨p, vs, e1, s, r⟩ => by subst e1; exact .lst s (r.up e)
  | .non, h => Rel.up e h
  | .bl _, h => Rel.up e h
  | .int _, h => Rel.up e h
  | .str _, h => Rel.up e h
  | .tup _, h => Rel.up e h
theorem Vw.ofCell {p : Addr} {o : HO} {xs : List D} (hp : H p = some o) (h : CellOk K F o (.lst xs)) : Vw K F H (.ref p) (.lst xs) := by
  obtain ⟨vs, rfl, r⟩ := h
  exact ⟨p, vs, rfl, .inl (Rd.of hp), r⟩
theorem pk_vw {a : RV} {v : V} {x : D} (S : Sta K F R σ H env) (h : RvOk K F R σ H env v a) (e : pk a env = some x) : Vw K F H v x := by
  cases a with
  | d y => cases e; exact Vw.of S.sub h
  | own c =>
    cases c with
    | lst xs =>
      cases e
      obtain ⟨p, o, rfl, _, _, hp, ho, _⟩ := h
      exact Vw.ofCell hp ho
  | cv i =>
    have h : σ[i]? = some (some v) := h
    have e : pkS env[i]? = some x := e
    cases hi : env[i]? with
    | none => rw [hi] at e; cases e
    | some s =>
      rw [hi] at e
      cases s with
      | un => cases e
      | d y =>
        cases e
        obtain ⟨v', e', r⟩ := S.dat i x hi
        rw [h] at e'
        cases e'
        exact Vw.of S.sub r
      | own b c =>
        cases c with
        | lst xs =>
          cases e
          obtain ⟨p, o, e', _, _, hp, ho⟩ := S.own i _ _ hi
          rw [h] at e'
          cases e'
          exact Vw.ofCell hp ho
/-- a value that is put into another thing: a list of one's own is frozen -/
def frzS (i : Nat) (env : Sl) : Option SV → Option (D × Sl)
  | some (.d x) => some (x, env)
  | some (.own false (.lst xs)) => some (.lst xs, env.set i (.d (.lst xs)))
  | _ => none
def frz (a : RV) (env : Sl) : Option (D × Sl) :=
  match a with
  | .d x => some (x, env)
  | .own (.lst xs) => some (.lst xs, env)
  | .cv i => frzS i env env[i]?
theorem Sta.freeze (S : Sta K F R σ H env) {p : Addr} {o : HO} (hF : F p = none) (hR : R.r p = none) (hp : H p = some o) (hs : ∀ (i : Nat) b c', env[i]? = some (SV.own b c') → σ[i]? ≠ some (some (V.ref p))) : Sta K (upd F p o) R σ H env := by
  have eF : Ex F (upd F p o) := Ex.new hF
  refine ⟨fun a u e => ?_, S.fr, fun b u e => ?_, S.len, fun i x e => ?_, fun i b c e => ?_, S.tag, S.inj⟩
  · by_cases h : a = p
    · subst h; rw [upd_same] at e; cases e; exact hp
    · rw [upd_ne h] at e; exact S.sub a u e
  · have h : b ≠ p := fun h => by rw [h, hR] at e; cases e
    rw [upd_ne h]; exact S.dis b u e
  · obtain ⟨v, e1, r⟩ := S.dat i x e
    exact ⟨v, e1, r.up eF⟩
  · obtain ⟨q, u, e1, e2, e3, e4, e5⟩ := S.own i b c e
    have h : q ≠ p := fun h => hs i b c e (by rw [← h]; exact e1)
    exact ⟨q, u, e1, by rw [upd_ne h]; exact e2, e3, e4, e5.up eF⟩
theorem Sta.freezeSlot (S : Sta K F R σ H env) {i : Nat} {xs : List D} {p : Addr} {o : HO} {b0 : Bool} (hi : env[i]? = some (SV.own b0 (.lst xs))) (e1 : σ[i]? = some (some (V.ref p))) (hF : F p = none) (hR : R.r p = none) (hp : H p = some o) (ho : CellOk K F o (.lst xs)) :
    Sta K (upd F p o) R σ H (env.set i (.d (.lst xs))) ∧ Rel K (upd F p o) (.ref p) (.lst xs) := by
  have eF : Ex F (upd F p o) := Ex.new hF
  obtain ⟨vs, rfl, r⟩ := ho
  have rr : Rel K (upd F p (.lst vs)) (.ref p) (.lst xs) := .lst (.inl (Rd.of upd_same)) (r.up eF)
  have hl : i < env.length := (List.getElem?_eq_some_iff.mp hi).1
  have other : ∀ {j : Nat} {b : Bool} {c : C}, (env.set i (.d (.lst xs)))[j]? = some (SV.own b c) → j ≠ i ∧ env[j]? = some (SV.own b c) := fun {j b c} h => by
    by_cases hj : j = i
    · subst hj
      rw [List.getElem?_set_self hl] at h
      cases h
    · rw [List.getElem?_set_ne (Ne.symm hj)] at h
      exact ⟨hj, h⟩
  refine ⟨⟨fun a u e => ?_, S.fr, fun b u e => ?_, by rw [List.length_set]; exact S.len, fun j x e => ?_, fun j b c e => ?_, fun j c e => S.tag j c (other e).2, fun j k bj cj bk ck q h1 h2 h3 h4 => ?_⟩, rr⟩
  · by_cases h : a = p
    · subst h; rw [upd_same] at e; cases e; exact hp
    · rw [upd_ne h] at e; exact S.sub a u e
  · have h : b ≠ p := fun h => by rw [h, hR] at e; cases e
    rw [upd_ne h]; exact S.dis b u e
  · by_cases hj : j = i
    · subst hj
      rw [List.getElem?_set_self hl] at e
      cases e
      exact ⟨_, e1, rr⟩
    · rw [List.getElem?_set_ne (Ne.symm hj)] at e
      obtain ⟨v, e1, r⟩ := S.dat j x e
      exact ⟨v, e1, r.up eF⟩
  · obtain ⟨hj, e⟩ := other e
    obtain ⟨q, u, e2, e3, e4, e5, e6⟩ := S.own j b c e
    have h : q ≠ p := fun h => hj (S.inj j i b c b0 _ p e hi (by rw [← h]; exact e2) e1)
    exact ⟨q, u, e2, by rw [upd_ne h]; exact e3, e4, e5, e6.up eF⟩
  · exact S.inj j k bj cj bk ck q (other h1).2 (other h2).2 h3 h4
theorem frz_ok {a : RV} {v : V} {x : D} {env' : Sl} (S : Sta K F R σ H env) (h : RvOk K F R σ H env v a) (e : frz a env = some (x, env')) : ∃ F', Ex F F' ∧ Sta K F' R σ H env' ∧ Rel K F' v x := by
  cases a with
  | d y => cases e; exact ⟨F, Ex.refl F, S, h⟩
  | own c =>
    cases c with
    | lst xs =>
      cases e
      obtain ⟨p, o, rfl, hF, hR, hp, ⟨vs, rfl, r⟩, hs⟩ := h
      exact ⟨upd F p (.lst vs), Ex.new hF, S.freeze hF hR hp hs, .lst (.inl (Rd.of upd_same)) (r.up (Ex.new hF))⟩
  | cv i =>
    have h : σ[i]? = some (some v) := h
    have e : frzS i env env[i]? = some (x, env') := e
    cases hi : env[i]? with
    | none => rw [hi] at e; cases e
    | some s =>
      rw [hi] at e
      cases s with
      | un => cases e
      | d y =>
        cases e
        obtain ⟨v', e', r⟩ := S.dat i x hi
        rw [h] at e'
        cases e'
        exact ⟨F, Ex.refl F, S, r⟩
      | own b c =>
        cases c with
        | lst xs =>
          cases b <;> cases e
          obtain ⟨p, o, e', hF, hR, hp, ho⟩ := S.own i _ _ hi
          rw [h] at e'
          cases e'
          obtain ⟨S', r⟩ := S.freezeSlot hi h hF hR hp ho
          exact ⟨_, Ex.new hF, S', r⟩
/-- behind a rule: a value that is data | a new list -/
theorem post_d {x : D} {v : V} (S : Sta K F R σ H env) (p : PostE K W F R σ (.ok (.d x) env) Q) (h : Rel K F v x) : Q v H := p v F H (Ex.refl F) S h
theorem post_new {xs : List D} {vs : List V} {p : Addr} (S : Sta K F R σ H env) (q : PostE K W F R σ (.ok (.own (.lst xs)) env) Q) (hp : H p = none) (h : RelAll K F vs xs) : Q (.ref p) (upd H p (.lst vs)) :=
  q _ F _ (Ex.refl F) (S.freshH hp) ⟨p, _, rfl, S.freeF hp, S.freeR hp, upd_same, ⟨vs, rfl, h⟩, fun i b c' e z => by
    obtain ⟨p', o, e1, _, _, e4, _⟩ := S.own i b c' e
    rw [z] at e1
    cases e1
    rw [hp] at e4
    cases e4⟩
theorem post_tup {xs : List D} {vs : List V} {p : Addr} (S : Sta K F R σ H env) (q : PostE K W F R σ (.ok (.d (.tup xs)) env) Q) (hp : H p = none) (h : RelAll K F vs xs) : Q (.ref p) (upd H p (.tup vs)) :=
  q _ (upd F p (.tup vs)) _ (Ex.new (S.freeF hp)) (S.freshF hp) (.tup (SqT.of upd_same) (h.up (Ex.new (S.freeF hp))))
end
end
end Dw
namespace Dw
noncomputable section
open PySem PySem.Spec PyProof.Rows L2

/-! ### names, constants -/
def constE (x : D) : SE := fun env => some (.ok (.d x) env)
def varS (i : Nat) : Option SV → Option RV
  | some (.d x) => some (.d x)
  | some (.own _ _) => some (.cv i)
  | _ => none
def varE (i : Nat) : SE := fun env => (varS i env[i]?).map (Re.ok · env)
section
variable {X : Cx} {W : WX}
theorem pd_var {i : Nat} {e : Expr} (h : PE X e (tVar i)) : PE X e (dE X.K W (varE i)) := by
  refine h.wk fun σ H Q q => ?_
  obtain ⟨env, F, R, S, r, e, p⟩ := of_dE q
  unfold varE at e
  cases hi : env[i]? with
  | none => rw [hi] at e; cases e
  | some s =>
    rw [hi] at e
    cases s with
    | un => cases e
    | d x =>
      cases e
      obtain ⟨v, e1, r⟩ := S.dat i x hi
      exact ⟨v, e1, p v F H (Ex.refl F) S r⟩
    | own b c =>
      cases e
      obtain ⟨a, o, e1, _⟩ := S.own i b c hi
      exact ⟨_, e1, p _ F H (Ex.refl F) S e1⟩
theorem pd_c {e : Expr} {v : V} {x : D} (h : PE X e (tC v)) (r : ∀ F, Rel X.K F v x) : PE X e (dE X.K W (constE x)) := by
  refine h.wk fun σ H Q q => ?_
  obtain ⟨env, F, R, S, r', e, p⟩ := of_dE q
  cases e
  exact p v F H (Ex.refl F) S (r F)
theorem pd_int {i j pos} : PE X (.Constant (.int i) j pos) (dE X.K W (constE (.int i))) := pd_c pe_int fun _ => .int i
theorem pd_bl {b j pos} : PE X (.Constant (.bool b) j pos) (dE X.K W (constE (.bl b))) := pd_c pe_bl fun _ => .bl b
theorem pd_non {j pos} : PE X (.Constant .none j pos) (dE X.K W (constE .non)) := pd_c pe_non fun _ => .non
theorem pd_str {x : Str} {j pos} (l : List Nat) (h : x.cps.toList = l) : PE X (.Constant (.str x) j pos) (dE X.K W (constE (.str l))) := by
  refine pd_c pe_str fun F => ?_
  have e : x = mk l := by rw [← h, mk_of]
  rw [e]
  exact .str l
/-- a module's constant -/
theorem pd_glob {x : Str} {v : V} {u : Value} {d : D} {pos : Pos} (hm : X.mg x = some u) (r : RelV v u) (rd : ∀ F, Rel X.K F v d) (hg : Gl X x := by rfl) (hd : (x == ("__debug__" : Str)) = false := by decide) : PE X (.Name x pos) (dE X.K W (constE d)) := pd_c (pe_glob hg hm r hd) rd
end

/-! ### operators of two values -/
def op2 (f : D → D → Option RV) (a b : RV) : SE := fun env => (pk a env).bind fun x => (pk b env).bind fun y => (f x y).map (Re.ok · env)
theorem op2_inv {f : D → D → Option RV} {a b : RV} {env : Sl} {r : Re} (h : op2 f a b env = some r) : ∃ x y z, pk a env = some x ∧ pk b env = some y ∧ f x y = some z ∧ r = .ok z env := by
  unfold op2 at h
  rw [Option.bind_eq_some_iff] at h
  obtain ⟨x, h1, h⟩ := h
  rw [Option.bind_eq_some_iff] at h
  obtain ⟨y, h2, h⟩ := h
  rw [Option.map_eq_some_iff] at h
  obtain ⟨z, h3, h⟩ := h
  exact ⟨x, y, z, h1, h2, h3, h.symm⟩
theorem bindE_inv {x : Option Re} {k : RV → SE} {r : Re} (h : bindE x k = some r) : (∃ a env1, x = some (.ok a env1) ∧ k a env1 = some r) ∨ ∃ e env1, x = some (.ex e env1) ∧ r = .ex e env1 := by
  cases x with
  | none => cases h
  | some q =>
    cases q with
    | ok a env1 => exact .inl ⟨a, env1, rfl, h⟩
    | ex e env1 => exact .inr ⟨e, env1, rfl, (Option.some.inj h).symm⟩
def Snd2 (K : PySem.W.Frag) (f : D → D → Option RV) (r : R2) : Prop := ∀ {W : WX} {F : Hp} {R : Fm} {σ : L2.St} {H : Hp} {env : Sl} {Q : VK} {x y : D} {v w : V} {z : RV},
  Sta K F R σ H env → Vw K F H v x → Vw K F H w y → f x y = some z → PostE K W F R σ (.ok z env) Q → r v w H Q
theorem op2_snd {K : PySem.W.Frag} {W : WX} {f : D → D → Option RV} {r : R2} (hs : Snd2 K f r) {a b : RV} {env : Sl} {F : Hp} {R : Fm} {σ : L2.St} {v w : V} {H : Hp} {Q : VK} (S : Sta K F R σ H env) (h1 : RvOk K F R σ H env v a) (h2 : RvOk K F R σ H env w b)
    (h : atE K W (op2 f a b) F R σ env Q) : r v w H Q := by
  obtain ⟨r', e, p⟩ := h
  obtain ⟨x, y, z, ha, hb, hf, rfl⟩ := op2_inv e
  exact hs S (pk_vw S h1 ha) (pk_vw S h2 hb) hf p
section
variable {X : Cx} {W : WX} {a b : Expr} {fa fb : SE} {pos : Pos}
theorem pd_op {op : Operator} {r : R2} {f : D → D → Option RV} (ho : OpR X (binaryOp op) r) (hs : Snd2 X.K f r) (ha : PE X a (dE X.K W fa)) (hb : PE X b (dE X.K W fb)) : PE X (.BinOp a op b pos) (dE X.K W (two (op2 f) fa fb)) :=
  (pe_op ho ha hb).wk fun σ H Q q => dE_two q fun _ _ _ _ _ _ _ _ S h1 h2 h => op2_snd hs S h1 h2 h
theorem pd_cmp {op : CmpOp} {r : R2} {f : D → D → Option RV} (ho : OpR X (compareOp op) r) (hs : Snd2 X.K f r) (hm : behindInMarks op b = false) (ha : PE X a (dE X.K W fa)) (hb : PE X b (dE X.K W fb)) : PE X (.Compare a [op] [b] pos) (dE X.K W (two (op2 f) fa fb)) :=
  (pe_cmpR ho ha hb hm).wk fun σ H Q q => dE_two q fun _ _ _ _ _ _ _ _ S h1 h2 h => op2_snd hs S h1 h2 h
end

def rOr (r r' : R2) : R2 := fun x y H Q => r x y H Q ∨ r' x y H Q
/-- a list that stands in H or in the written part -/
def rCatR (K : PySem.W.Frag) : R2 := fun x y H Q => ∃ l b xs zs, x = .ref l ∧ y = .ref b ∧ SqL K H l xs ∧ SqL K H b zs ∧ xs.length + zs.length ≤ sizeLine ∧ ∀ p, H p = none → Q (.ref p) (upd H p (.lst (xs ++ zs)))
theorem op_catR {X : Cx} : OpR X (binaryOp .Add) (rCatR X.K) := by
  intro pins s σ H x y v u Q I rx ry h
  obtain ⟨l, b, xs, zs, rfl, rfl, hH, hB, hz, q⟩ := h
  cases rx
  cases ry
  obtain ⟨its, r, p1, z1⟩ := I.list hH
  obtain ⟨its2, r2, p2, z2⟩ := I.list hB
  obtain ⟨⟨cls, dd, data, sl⟩, ho, hc, n, hd⟩ := id p1.isList
  obtain ⟨⟨cls2, dd2, data2, sl2⟩, ho2, hc2, n2, hd2⟩ := id p2.isList
  simp only at hc hd hc2 hd2
  subst hc hd hc2 hd2
  have e1 := r.length
  have e2 := r2.length
  refine concat_meets ⟨_, ho, rfl⟩ ⟨_, ho2, rfl⟩ PySem.noFill_list_add PySem.seq_list_add PySem.F.slot_list_add PySem.F.entry_list_add (PySem.F.args_list_add_2 _ _) (PyProof.Rows.list_addW l b its.toArray its2.toArray n n2 dd dd2 sl sl2 (by rw [List.size_toArray, List.size_toArray]; omega)) ⟨ho, ho2, ?_⟩
  have ea : its.toArray ++ its2.toArray = (its ++ its2).toArray := by simp
  rw [ea]
  exact ⟨.ref _, _, I.lnew (t' := s.toks) (r.append r2) (by rw [List.length_append]; omega), rfl, q _ I.fresh⟩

/-! ### + -/
def addD : D → D → Option RV
  | .int i, .int j => some (.d (.int (i + j)))
  | .str x, .str y => if x.length + y.length ≤ sizeLine then some (.d (.str (x ++ y))) else none
  | .lst xs, .lst ys => if xs.length + ys.length ≤ sizeLine then some (.own (.lst (xs ++ ys))) else none
  | .tup xs, .tup ys => if xs.length + ys.length ≤ sizeLine then some (.d (.tup (xs ++ ys))) else none
  | _, _ => none
def rAddI : R2 := rI0 fun i j => .int (i + j)
def rAddT : R2 := fun x y H Q => ∃ i j, x = .str i ∧ y = .str j ∧ i.length + j.length ≤ sizeLine ∧ Q (.str (i ++ j)) H
def rAddAny (K : PySem.W.Frag) : R2 := rOr rAddI (rOr rAddT (rOr (rCatR K) (rCatA K)))
theorem op_addAny {X : Cx} : OpR X (binaryOp .Add) (rAddAny X.K) := OpR.or op_add (OpR.or op_add_str (OpR.or op_catR op_catA))
theorem some_if {α : Type} {c : Prop} [Decidable c] {x y : α} (h : (if c then some x else none) = some y) : c ∧ x = y := by
  by_cases hc : c
  · rw [if_pos hc] at h
    exact ⟨hc, Option.some.inj h⟩
  · rw [if_neg hc] at h
    cases h
theorem snd_add {K : PySem.W.Frag} : Snd2 K addD (rAddAny K) := by
  intro W F R σ H env Q x y v w z S hx hy e p
  cases x <;> cases y <;> first | (cases e; done) | skip
  · cases hx; cases hy; cases e
    exact .inl ⟨_, _, rfl, rfl, post_d S p (.int _)⟩
  · rename_i x y
    cases hx; cases hy
    obtain ⟨c, rfl⟩ := some_if e
    refine .inr (.inl ⟨_, _, rfl, rfl, by rw [mk_len, mk_len]; exact c, ?_⟩)
    rw [mk_app]
    exact post_d S p (.str _)
  · rename_i xs ys
    obtain ⟨a, vs, rfl, ha, ra⟩ := hx
    obtain ⟨b, ws, rfl, hb, rb⟩ := hy
    obtain ⟨c, rfl⟩ := some_if e
    exact .inr (.inr (.inl ⟨_, _, _, _, rfl, rfl, ha, hb, by rw [ra.len, rb.len]; exact c, fun q hq => post_new S p hq (ra.app rb)⟩))
  · rename_i xs ys
    cases hx with
    | tup sx rx =>
      cases hy with
      | tup sy ry =>
        obtain ⟨c, rfl⟩ := some_if e
        refine .inr (.inr (.inr ⟨_, _, _, _, rfl, rfl, ex_t S.sub sx, ex_t S.sub sy, by rw [rx.len, ry.len]; exact c, fun h0 => ?_, fun h0 h1 => ?_, fun h0 h1 q hq => post_tup S p hq (rx.app ry)⟩))
        · subst h0
          have e0 : xs = [] := List.eq_nil_of_length_eq_zero (by rw [← rx.len]; rfl)
          subst e0
          exact post_d S p (.tup sy ry)
        · subst h1
          have e0 : ys = [] := List.eq_nil_of_length_eq_zero (by rw [← ry.len]; rfl)
          subst e0
          rw [List.append_nil] at p
          exact post_d S p (.tup sx rx)

/-! ### -, *, //, %, ** -/
def intD (g : Int → Int → Option Int) : D → D → Option RV
  | .int i, .int j => (g i j).map fun k => .d (.int k)
  | _, _ => none
theorem snd_int {K : PySem.W.Frag} {c : Int → Int → Prop} {g : Int → Int → Int} {f : Int → Int → Option Int} (h : ∀ i j k, f i j = some k → c i j ∧ k = g i j) : Snd2 K (intD f) (rI c fun i j => .int (g i j)) := by
  intro W F R σ H env Q x y v w z S hx hy e p
  cases x <;> cases y <;> first | (cases e; done) | skip
  rename_i i j
  cases hx; cases hy
  cases hf : f i j with
  | none => simp [intD, hf] at e
  | some k =>
    simp only [intD, hf, Option.map_some, Option.some.injEq] at e
    subst e
    obtain ⟨h1, rfl⟩ := h i j k hf
    exact ⟨i, j, rfl, rfl, h1, post_d S p (.int _)⟩
def subD : D → D → Option RV := intD fun i j => some (i - j)
theorem snd_sub {K : PySem.W.Frag} : Snd2 K subD (rI0 fun i j => .int (i - j)) := by
  intro W F R σ H env Q x y v w z S hx hy e p
  obtain ⟨i, j, a, b, _, q⟩ := snd_int (K := K) (c := fun _ _ => True) (g := fun i j => i - j) (f := fun i j => some (i - j)) (fun i j k h => ⟨trivial, (Option.some.inj h).symm⟩) S hx hy e p
  exact ⟨i, j, a, b, q⟩
def big64 (i : Int) : Bool := okP (-(2 ^ 64) < i ∧ i < 2 ^ 64)
def mulI (i j : Int) : Option Int := if big64 i || big64 j then some (i * j) else none
def fdivI (i j : Int) : Option Int := if okP (0 < j ∧ j < 1073741824) then some (i / j) else none
def modI (i j : Int) : Option Int := if okP (0 < j) then some (i % j) else none
def powI (i j : Int) : Option Int := if okP ((0 ≤ j ∧ j ≤ 1000) ∧ i.natAbs < 1000) then some (i ^ j.toNat) else none
/-- a text times a number -/
def mulD : D → D → Option RV
  | .int i, .int j => (mulI i j).map fun k => .d (.int k)
  | .str x, .int n => if x.length ≤ 1000 ∧ n ≤ 1000 ∧ -1000 ≤ n then some (.d (.str (List.replicate n.toNat x).flatten)) else none
  | _, _ => none
def fdivD : D → D → Option RV := intD fdivI
def modD : D → D → Option RV := intD modI
def powD : D → D → Option RV := intD powI
def rMulS : R2 := fun x y H Q => ∃ l n, x = .str (mk l) ∧ y = .int n ∧ (l.length ≤ 1000 ∧ n ≤ 1000 ∧ -1000 ≤ n) ∧ Q (.str (mk (List.replicate n.toNat l).flatten)) H
theorem mul_mk {l : List Nat} {n : Int} : Txt.mul (mk l) n = mk (List.replicate n.toNat l).flatten := by
  have fold : ∀ (k : Nat) (acc : List Nat), (List.replicate k l.toArray).foldl (· ++ ·) acc.toArray = (acc ++ (List.replicate k l).flatten).toArray := by
    intro k
    induction k with
    | zero => intro acc; simp
    | succ k ih =>
      intro acc
      rw [List.replicate_succ, List.foldl_cons, List.replicate_succ, List.flatten_cons]
      rw [show acc.toArray ++ l.toArray = (acc ++ l).toArray by simp, ih, List.append_assoc]
  unfold Txt.mul
  by_cases h : n < 1
  · rw [if_pos h]
    have : n.toNat = 0 := by omega
    rw [this]
    rfl
  · rw [if_neg h]
    by_cases h2 : (n == 1 || (mk l).length == 0) = true
    · rw [if_pos h2]
      rw [Bool.or_eq_true] at h2
      rcases h2 with h2 | h2
      · have : n = 1 := by simpa using h2
        subst this
        simp [mk]
      · have : l = [] := by
          rw [mk_len] at h2
          exact List.eq_nil_of_length_eq_zero (by simpa using h2)
        subst this
        have : (List.replicate n.toNat ([] : List Nat)).flatten = [] := by simp
        rw [this]
    · rw [if_neg h2]
      have := fold n.toNat []
      simp only [mk]
      rw [show (#[] : Array Nat) = ([] : List Nat).toArray from rfl, this, List.nil_append]
theorem op_mulS {X : Cx} : OpR X (binaryOp .Mult) rMulS := by
  intro pins s σ H x y v u Q I rx ry h
  obtain ⟨l, n, rfl, rfl, ⟨h1, h2, h3⟩, q⟩ := h
  obtain ⟨t, rfl⟩ := rx
  obtain ⟨t', rfl⟩ := ry
  refine SB.mul ⟨?_, fun _ _ => ?_, fun _ _ => ?_⟩ fun t2 k => ⟨.str (Txt.mul (mk l) n), H, I.tok _, ⟨_, rfl⟩, by rw [mul_mk]; exact q⟩
  · have a : ¬ n < -(2 ^ 63 : Int) := by omega
    have b : ¬ n ≥ (2 ^ 63 : Int) := by omega
    rw [decide_eq_false a, decide_eq_false b]; rfl
  · rw [mk_len]
    have hn : 1 ≤ n := by omega
    have : (1000 : Int) ≤ (2 ^ 63 - 1) / n := by
      rw [Int.le_ediv_iff_mul_le (by omega)]
      omega
    omega
  · rw [mk_len]
    have z : l.length * n.toNat ≤ 1000 * 1000 := Nat.mul_le_mul h1 (by omega)
    unfold Builtin.Str.tooLong
    refine decide_eq_false ?_
    have : (1000 * 1000 : Nat) ≤ sizeLine := by decide
    omega
def rMulAny : R2 := rOr (rI CMul fun i j => .int (i * j)) rMulS
theorem op_mulAny {X : Cx} : OpR X (binaryOp .Mult) rMulAny := OpR.or op_mul op_mulS
theorem snd_mul {K : PySem.W.Frag} : Snd2 K mulD rMulAny := by
  intro W F R σ H env Q x y v w z S hx hy e p
  cases x <;> cases y <;> first | (cases e; done) | skip
  · rename_i i j
    refine .inl (snd_int (f := mulI) (fun i j k h => ?_) S hx hy (show intD mulI (.int i) (.int j) = some z from e) p)
    unfold mulI at h
    obtain ⟨c, e⟩ := some_if h
    refine ⟨?_, e.symm⟩
    rw [Bool.or_eq_true] at c
    unfold big64 at c
    rcases c with c | c
    · exact .inl (by simpa using okP_iff.mp c)
    · exact .inr (by simpa using okP_iff.mp c)
  · rename_i l n
    cases hx; cases hy
    obtain ⟨c, rfl⟩ := some_if e
    exact .inr ⟨l, n, rfl, rfl, c, post_d S p (.str _)⟩
theorem snd_fdiv {K : PySem.W.Frag} : Snd2 K fdivD (rI CDiv fun i j => .int (i / j)) := snd_int (f := fdivI) fun i j k h => by
  unfold fdivI at h
  obtain ⟨c, e⟩ := some_if h
  exact ⟨by simpa [CDiv] using okP_iff.mp c, e.symm⟩
theorem snd_mod {K : PySem.W.Frag} : Snd2 K modD (rI (fun _ j => 0 < j) fun i j => .int (i % j)) := snd_int (f := modI) fun i j k h => by
  unfold modI at h
  obtain ⟨c, e⟩ := some_if h
  exact ⟨okP_iff.mp c, e.symm⟩
theorem snd_pow {K : PySem.W.Frag} : Snd2 K powD (rI CPow fun i j => .int (i ^ j.toNat)) := snd_int (f := powI) fun i j k h => by
  unfold powI at h
  obtain ⟨c, e⟩ := some_if h
  refine ⟨?_, e.symm⟩
  rw [okP_iff] at c
  exact ⟨c.1.1, by omega, by have := c.2; omega⟩
section
variable {X : Cx} {W : WX} {a b : Expr} {fa fb : SE} {pos : Pos}
theorem pd_add (ha : PE X a (dE X.K W fa)) (hb : PE X b (dE X.K W fb)) : PE X (.BinOp a .Add b pos) (dE X.K W (two (op2 addD) fa fb)) := pd_op op_addAny snd_add ha hb
theorem pd_sub (ha : PE X a (dE X.K W fa)) (hb : PE X b (dE X.K W fb)) : PE X (.BinOp a .Sub b pos) (dE X.K W (two (op2 subD) fa fb)) := pd_op op_sub snd_sub ha hb
theorem pd_mul (ha : PE X a (dE X.K W fa)) (hb : PE X b (dE X.K W fb)) : PE X (.BinOp a .Mult b pos) (dE X.K W (two (op2 mulD) fa fb)) := pd_op op_mulAny snd_mul ha hb
theorem pd_fdiv (ha : PE X a (dE X.K W fa)) (hb : PE X b (dE X.K W fb)) : PE X (.BinOp a .FloorDiv b pos) (dE X.K W (two (op2 fdivD) fa fb)) := pd_op op_fdiv snd_fdiv ha hb
theorem pd_mod (ha : PE X a (dE X.K W fa)) (hb : PE X b (dE X.K W fb)) : PE X (.BinOp a .Mod b pos) (dE X.K W (two (op2 modD) fa fb)) := pd_op op_mod snd_mod ha hb
theorem pd_pow (ha : PE X a (dE X.K W fa)) (hb : PE X b (dE X.K W fb)) : PE X (.BinOp a .Pow b pos) (dE X.K W (two (op2 powD) fa fb)) := pd_op op_pow snd_pow ha hb
end
end
end Dw
namespace Dw
noncomputable section
open PySem PySem.Spec PyProof.Rows L2

/-! ### == -/
mutual
def py : D → PyData
  | .non => .none
  | .bl b => .bool b
  | .int i => .int i
  | .str x => .str (mk x)
  | .lst xs => .list (pys xs)
  | .tup xs => .tuple (pys xs)
def pys : List D → List PyData
  | [] => []
  | x :: xs => py x :: pys xs
end
mutual
def eqB : D → D → Bool
  | .non, .non => true
  | .bl a, .bl b => a == b
  | .bl a, .int j => (if a then 1 else 0) == j
  | .int i, .bl b => i == (if b then 1 else 0)
  | .int i, .int j => i == j
  | .str x, .str y => x == y
  | .lst xs, .lst ys => eqBs xs ys
  | .tup xs, .tup ys => eqBs xs ys
  | _, _ => false
def eqBs : List D → List D → Bool
  | [], [] => true
  | x :: xs, y :: ys => eqB x y && eqBs xs ys
  | _, _ => false
end
theorem mk_beq (x y : List Nat) : (mk x == mk y) = (x == y) := by
  by_cases h : x = y
  · subst h
    rw [beq_self_eq_true, beq_self_eq_true]
  · have : mk x ≠ mk y := fun z => h (mk_inj z)
    rw [beq_eq_false_iff_ne.mpr this, beq_eq_false_iff_ne.mpr h]
mutual
theorem eqv_py : ∀ x y : D, PyData.eqv (py x) (py y) = eqB x y
  | .non, y => by cases y <;> rfl
  | .bl a, y => by cases y <;> rfl
  | .int a, y => by cases y <;> rfl
  | .str a, y => by
    cases y with
    | str b => exact mk_beq a b
    | _ => rfl
  | .lst xs, y => by
    cases y with
    | lst ys => exact eqv_pys xs ys
    | _ => rfl
  | .tup xs, y => by
    cases y with
    | tup ys => exact eqv_pys xs ys
    | _ => rfl
theorem eqv_pys : ∀ xs ys : List D, PyData.eqvAll (pys xs) (pys ys) = eqBs xs ys
  | [], [] => rfl
  | [], _ :: _ => rfl
  | _ :: _, [] => rfl
  | x :: xs, y :: ys => by
    show (PyData.eqv (py x) (py y) && PyData.eqvAll (pys xs) (pys ys)) = (eqB x y && eqBs xs ys)
    rw [eqv_py x y, eqv_pys xs ys]
end
section
variable {K : PySem.W.Frag} {H : Hp}
mutual
theorem Rel.dp : ∀ {v : V} (x : D), Rel K H v x → Dp K H v (py x)
  | _, .non, h => by cases h; exact .non
  | _, .bl _, h => by cases h; exact .bl _
  | _, .int _, h => by cases h; exact .int _
  | _, .str _, h => by cases h; exact .str _
  | _, .lst xs, h => by
    cases h with
    | lst s r => exact .lst s (RelAll.dp xs r)
  | _, .tup xs, h => by
    cases h with
    | tup s r => exact .tup s (RelAll.dp xs r)
theorem RelAll.dp : ∀ {vs : List V} (xs : List D), RelAll K H vs xs → DpAll K H vs (pys xs)
  | _, [], h => by cases h; exact .nil
  | _, x :: xs, h => by
    cases h with
    | cons a b => exact .cons (Rel.dp x a) (RelAll.dp xs b)
end
end
/-- data that == may look at: signs below 0x110000, at most 64 deep -/
def shp (x : D) : Bool := SeqAt.shaped (py x)
/-- flat things need no look -/
def flatD : D → Bool
  | .lst _ => false
  | .tup _ => false
  | _ => true
/-- the pairs that == tells apart at once -/
def scalD : D → D → Bool
  | .non, .non => true | .non, .int _ => true | .int _, .non => true | .non, .bl _ => true | .bl _, .non => true | .non, .str _ => true | .str _, .non => true
  | .int _, .int _ => true | .bl _, .bl _ => true | .str _, .str _ => true
  | .int _, .str _ => true | .str _, .int _ => true | .bl _, .str _ => true | .str _, .bl _ => true
  | _, _ => false
def eqD (x y : D) : Option RV := if scalD x y || (shp x && shp y) then some (.d (.bl (eqB x y))) else none
def neD (x y : D) : Option RV := if scalD x y || (shp x && shp y) then some (.d (.bl (!eqB x y))) else none
def rEqAny (K : PySem.W.Frag) : R2 := rOr rEq (rEqD K)
def rNeAny (K : PySem.W.Frag) : R2 := rOr rNe (rNeD K)
theorem scal_of {K : PySem.W.Frag} {F H : Hp} {v w : V} {x y : D} (hx : Vw K F H v x) (hy : Vw K F H w y) (h : scalD x y = true) : scal v w = true ∧ decide (v = w) = eqB x y := by
  have dstr : ∀ a b : List Nat, decide (V.str (mk a) = V.str (mk b)) = (a == b) := fun a b => by rw [dec_str, mk_beq]
  cases x <;> cases y <;> first | (cases h; done) | skip
  all_goals (cases hx; cases hy; refine ⟨rfl, ?_⟩)
  all_goals first | rfl | (exact dec_int) | (exact dec_bl) | (exact dstr _ _) | (simp [eqB]; done)
theorem snd_eq {K : PySem.W.Frag} : Snd2 K eqD (rEqAny K) := by
  intro W F R σ H env Q x y v w z S hx hy e p
  obtain ⟨c, rfl⟩ := some_if e
  by_cases h : scalD x y = true
  · obtain ⟨a, b⟩ := scal_of hx hy h
    refine .inl ⟨a, ?_⟩
    rw [b]
    exact post_d S p (.bl _)
  · rw [Bool.or_eq_true, Bool.and_eq_true] at c
    rcases c with c | c
    · exact absurd c h
    · refine .inr ⟨py x, py y, (hx.rel S.sub).dp, (hy.rel S.sub).dp, c.1, c.2, ?_⟩
      rw [eqv_py]
      exact post_d S p (.bl _)
theorem snd_ne {K : PySem.W.Frag} : Snd2 K neD (rNeAny K) := by
  intro W F R σ H env Q x y v w z S hx hy e p
  obtain ⟨c, rfl⟩ := some_if e
  by_cases h : scalD x y = true
  · obtain ⟨a, b⟩ := scal_of hx hy h
    refine .inl ⟨a, ?_⟩
    rw [b]
    exact post_d S p (.bl _)
  · rw [Bool.or_eq_true, Bool.and_eq_true] at c
    rcases c with c | c
    · exact absurd c h
    · refine .inr ⟨py x, py y, (hx.rel S.sub).dp, (hy.rel S.sub).dp, c.1, c.2, ?_⟩
      rw [eqv_py]
      exact post_d S p (.bl _)

/-! ### <, <=, >, >= -/
def ltD : D → D → Option RV
  | .int i, .int j => some (.d (.bl (decide (i < j))))
  | .str x, .str y => some (.d (.bl (decide (x < y))))
  | _, _ => none
def leD : D → D → Option RV
  | .int i, .int j => some (.d (.bl (decide (i ≤ j))))
  | .str x, .str y => some (.d (.bl (!decide (y < x))))
  | _, _ => none
def gtD : D → D → Option RV
  | .int i, .int j => some (.d (.bl (decide (j < i))))
  | _, _ => none
def geD : D → D → Option RV
  | .int i, .int j => some (.d (.bl (decide (j ≤ i))))
  | _, _ => none
theorem snd_cmpI {K : PySem.W.Frag} {g : Int → Int → Bool} {f : D → D → Option RV} (h : ∀ x y z, f x y = some z → ∃ i j, x = .int i ∧ y = .int j ∧ z = .d (.bl (g i j))) : Snd2 K f (rI0 fun i j => .bl (g i j)) := by
  intro W F R σ H env Q x y v w z S hx hy e p
  obtain ⟨i, j, rfl, rfl, rfl⟩ := h x y z e
  cases hx; cases hy
  exact ⟨i, j, rfl, rfl, post_d S p (.bl _)⟩
def rLtS : R2 := fun x y H Q => ∃ i j, x = .str i ∧ y = .str j ∧ Q (.bl (decide (i.cps.toList < j.cps.toList))) H
def rLeS : R2 := fun x y H Q => ∃ i j, x = .str i ∧ y = .str j ∧ Q (.bl (!decide (j.cps.toList < i.cps.toList))) H
theorem snd_gt {K : PySem.W.Frag} : Snd2 K gtD (rI0 fun i j => .bl (decide (j < i))) := snd_cmpI fun x y z h => by
  cases x <;> cases y <;> first | (cases h; done) | skip
  cases h
  exact ⟨_, _, rfl, rfl, rfl⟩
theorem snd_ge {K : PySem.W.Frag} : Snd2 K geD (rI0 fun i j => .bl (decide (j ≤ i))) := snd_cmpI fun x y z h => by
  cases x <;> cases y <;> first | (cases h; done) | skip
  cases h
  exact ⟨_, _, rfl, rfl, rfl⟩
def rLtAny : R2 := rOr (rI0 fun i j => .bl (decide (i < j))) rLtS
def rLeAny : R2 := rOr (rI0 fun i j => .bl (decide (i ≤ j))) rLeS
theorem snd_lt {K : PySem.W.Frag} : Snd2 K ltD rLtAny := by
  intro W F R σ H env Q x y v w z S hx hy e p
  cases x <;> cases y <;> first | (cases e; done) | skip
  · cases hx; cases hy; cases e
    exact .inl ⟨_, _, rfl, rfl, post_d S p (.bl _)⟩
  · cases hx; cases hy; cases e
    exact .inr ⟨_, _, rfl, rfl, post_d S p (.bl _)⟩
theorem snd_le {K : PySem.W.Frag} : Snd2 K leD rLeAny := by
  intro W F R σ H env Q x y v w z S hx hy e p
  cases x <;> cases y <;> first | (cases e; done) | skip
  · cases hx; cases hy; cases e
    exact .inl ⟨_, _, rfl, rfl, post_d S p (.bl _)⟩
  · cases hx; cases hy; cases e
    exact .inr ⟨_, _, rfl, rfl, post_d S p (.bl _)⟩

/-! ### is -/
def isNon : D → Bool
  | .non => true
  | _ => false
def isD : D → D → Option RV
  | x, .non => some (.d (.bl (isNon x)))
  | .bl a, .bl b => some (.d (.bl (a == b)))
  | _, _ => none
def isNotD (x y : D) : Option RV := match isD x y with
  | some (.d (.bl b)) => some (.d (.bl (!b)))
  | _ => none
def rIsAny : R2 := rOr rIsN rIsB
def rIsNotAny : R2 := rOr rNotN rNotB
theorem isN_of {K : PySem.W.Frag} {F H : Hp} {v : V} {x : D} (h : Vw K F H v x) : decide (v = .non) = (isNon x) := by
  cases x with
  | lst xs => obtain ⟨p, vs, rfl, _⟩ := h; rfl
  | _ => cases h; rfl
theorem snd_is {K : PySem.W.Frag} : Snd2 K isD rIsAny := by
  intro W F R σ H env Q x y v w z S hx hy e p
  cases y with
  | non =>
    cases hy
    have e' : z = .d (.bl (isNon x)) := by cases x <;> exact (Option.some.inj e).symm
    subst e'
    refine .inl ⟨rfl, ?_⟩
    rw [isN_of hx]
    exact post_d S p (.bl _)
  | bl b =>
    cases x with
    | bl a =>
      cases hx; cases hy; cases e
      refine .inr ⟨a, b, rfl, rfl, ?_⟩
      rw [show decide (a = b) = (a == b) by cases a <;> cases b <;> rfl]
      exact post_d S p (.bl _)
    | _ => cases e
  | _ => cases x <;> cases e
theorem snd_isNot {K : PySem.W.Frag} : Snd2 K isNotD rIsNotAny := by
  intro W F R σ H env Q x y v w z S hx hy e p
  cases y with
  | non =>
    cases hy
    have e' : z = .d (.bl (!(isNon x))) := by cases x <;> exact (Option.some.inj e).symm
    subst e'
    refine .inl ⟨rfl, ?_⟩
    rw [isN_of hx]
    exact post_d S p (.bl _)
  | bl b =>
    cases x with
    | bl a =>
      cases hx; cases hy; cases e
      refine .inr ⟨a, b, rfl, rfl, ?_⟩
      rw [show (!decide (a = b)) = (!(a == b)) by cases a <;> cases b <;> rfl]
      exact post_d S p (.bl _)
    | _ => cases e
  | _ => cases x <;> cases e

/-! ### in -/
def toV : D → V
  | .non => .non
  | .bl b => .bl b
  | .int i => .int i
  | .str x => .str (mk x)
  | _ => .non
def items? : D → Option (List D)
  | .lst xs => some xs
  | .tup xs => some xs
  | _ => none
def inB (x : D) (ys : List D) : Bool := ys.any fun y => eqB y x
def inD (x y : D) : Option RV := match y with
  | .str s => match x with
    | .str [c] => some (.d (.bl (decide (c ∈ s))))
    | _ => none
  | .tup ys => if flatD x && ys.all flatD then some (.d (.bl (inB x ys))) else none
  | .lst ys => if (flatD x && ys.all flatD) || (shp x && shp (.lst ys)) then some (.d (.bl (inB x ys))) else none
  | _ => none
def notInD (x y : D) : Option RV := match inD x y with
  | some (.d (.bl b)) => some (.d (.bl (!b)))
  | _ => none
theorem flat_toV {K : PySem.W.Frag} {F : Hp} {v : V} {x : D} (h : Rel K F v x) (f : flatD x = true) : v = toV x ∧ flatV v = true := by
  cases x with
  | lst xs => cases f
  | tup xs => cases f
  | _ => cases h; exact ⟨rfl, rfl⟩
theorem flat_all {K : PySem.W.Frag} {F : Hp} : ∀ {vs : List V} {xs : List D}, RelAll K F vs xs → xs.all flatD = true → vs = xs.map toV ∧ vs.all flatV = true
  | _, [], h, _ => by cases h; exact ⟨rfl, rfl⟩
  | _, x :: xs, h, f => by
    cases h with
    | cons a b =>
      rw [List.all_cons, Bool.and_eq_true] at f
      obtain ⟨e1, e2⟩ := flat_toV a f.1
      obtain ⟨e3, e4⟩ := flat_all b f.2
      exact ⟨by rw [List.map_cons, ← e1, ← e3], by rw [List.all_cons, e2, e4]; rfl⟩
theorem eqV_toV {x y : D} (fx : flatD x = true) (fy : flatD y = true) : eqV (toV x) (toV y) = eqB x y := by
  cases x <;> cases y <;> first | (cases fx; done) | (cases fy; done) | rfl | skip
  exact mk_beq _ _
theorem inV_toV {x : D} (fx : flatD x = true) : ∀ (ys : List D), ys.all flatD = true → inV (toV x) (ys.map toV) = inB x ys
  | [], _ => rfl
  | y :: ys, f => by
    rw [List.all_cons, Bool.and_eq_true] at f
    have := inV_toV fx ys f.2
    unfold inV inB at this ⊢
    rw [List.map_cons, List.any_cons, List.any_cons, eqV_toV f.1 fx, this]
theorem any_py (x : D) : ∀ ys : List D, ((pys ys).any fun z => PyData.eqv z (py x)) = inB x ys
  | [] => rfl
  | y :: ys => by
    have := any_py x ys
    unfold inB at this ⊢
    show ((PyData.eqv (py y) (py x)) || (pys ys).any fun z => PyData.eqv z (py x)) = _
    rw [this, eqv_py, List.any_cons]
theorem Vw.flat {K : PySem.W.Frag} {F H : Hp} {v : V} {x : D} (h : Vw K F H v x) (f : flatD x = true) : v = toV x ∧ flatV v = true := by
  cases x with
  | lst xs => cases f
  | tup xs => cases f
  | _ => cases h; exact ⟨rfl, rfl⟩
def rInSgn : R2 := fun x y H Q => ∃ (c : Nat) (z : Str), x = .str ⟨#[c]⟩ ∧ y = .str z ∧ Q (.bl (decide (c ∈ z.cps.toList))) H
def rNiSgn : R2 := fun x y H Q => ∃ (c : Nat) (z : Str), x = .str ⟨#[c]⟩ ∧ y = .str z ∧ Q (.bl (!decide (c ∈ z.cps.toList))) H
def rInAny (K : PySem.W.Frag) : R2 := rOr rInSgn (rOr (rIn K false) (rInD K))
def rNiAny (K : PySem.W.Frag) : R2 := rOr rNiSgn (rOr (rIn K true) (rNotInD K))
theorem in_cases {K : PySem.W.Frag} {F H : Hp} {x y : D} {v w : V} {b : Bool} (e : Ex F H) (hx : Vw K F H v x) (hy : Vw K F H w y) (h : inD x y = some (.d (.bl b))) :
    (∃ (c : Nat) (z : Str), v = .str ⟨#[c]⟩ ∧ w = .str z ∧ b = decide (c ∈ z.cps.toList)) ∨ (∃ p xs, w = .ref p ∧ (SqL K H p xs ∨ SqT K H p xs) ∧ flatV v = true ∧ xs.all flatV = true ∧ b = inV v xs) ∨
    ∃ d ds, Dp K H v d ∧ Dp K H w (.list ds) ∧ SeqAt.shaped d = true ∧ SeqAt.shaped (.list ds) = true ∧ b = ds.any fun z => PyData.eqv z d := by
  cases y with
  | str s =>
    cases x with
    | str t =>
      match t, h, hx with
      | [c], h, hx =>
        cases hx; cases hy; cases h
        exact .inl ⟨c, mk s, rfl, rfl, rfl⟩
      | [], h, _ => cases h
      | _ :: _ :: _, h, _ => cases h
    | _ => cases h
  | tup ys =>
    obtain ⟨c, e1⟩ := some_if (show (if flatD x && ys.all flatD then some (RV.d (.bl (inB x ys))) else none) = _ from h)
    rw [Bool.and_eq_true] at c
    cases hy with
    | tup s r =>
      obtain ⟨a1, a2⟩ := hx.flat c.1
      obtain ⟨b1, b2⟩ := flat_all r c.2
      cases e1
      exact .inr (.inl ⟨_, _, rfl, .inr (ex_t e s), a2, b2, by rw [a1, b1, inV_toV c.1 ys c.2]⟩)
  | lst ys =>
    obtain ⟨c, e1⟩ := some_if (show (if (flatD x && ys.all flatD) || (shp x && shp (.lst ys)) then some (RV.d (.bl (inB x ys))) else none) = _ from h)
    cases e1
    rw [Bool.or_eq_true, Bool.and_eq_true, Bool.and_eq_true] at c
    rcases c with c | c
    · obtain ⟨p, vs, rfl, s, r⟩ := hy
      obtain ⟨a1, a2⟩ := hx.flat c.1
      obtain ⟨b1, b2⟩ := flat_all r c.2
      exact .inr (.inl ⟨_, _, rfl, .inl s, a2, b2, by rw [a1, b1, inV_toV c.1 ys c.2]⟩)
    · exact .inr (.inr ⟨py x, pys ys, (hx.rel e).dp, (hy.rel e).dp, c.1, c.2, (any_py x ys).symm⟩)
  | _ => cases h
theorem inD_bl {x y : D} {z : RV} (h : inD x y = some z) : ∃ b, z = .d (.bl b) := by
  cases y with
  | str s =>
    cases x with
    | str t =>
      match t, h with
      | [c], h => cases h; exact ⟨_, rfl⟩
      | [], h => cases h
      | _ :: _ :: _, h => cases h
    | _ => cases h
  | tup ys => exact ⟨_, (some_if (show (if flatD x && ys.all flatD then some (RV.d (.bl (inB x ys))) else none) = _ from h)).2.symm⟩
  | lst ys => exact ⟨_, (some_if (show (if (flatD x && ys.all flatD) || (shp x && shp (.lst ys)) then some (RV.d (.bl (inB x ys))) else none) = _ from h)).2.symm⟩
  | _ => cases h
theorem snd_in {K : PySem.W.Frag} : Snd2 K inD (rInAny K) := by
  intro W F R σ H env Q x y v w z S hx hy e p
  obtain ⟨b, rfl⟩ := inD_bl e
  have q := post_d S p (.bl b)
  rcases in_cases S.sub hx hy e with ⟨c, z, e1, e2, rfl⟩ | ⟨a, xs, e1, e2, e3, e4, rfl⟩ | ⟨d, ds, e1, e2, e3, e4, rfl⟩
  · exact .inl ⟨c, z, e1, e2, q⟩
  · exact .inr (.inl ⟨a, xs, e1, e2, e3, e4, q⟩)
  · exact .inr (.inr ⟨d, ds, e1, e2, e3, e4, q⟩)
theorem snd_ni {K : PySem.W.Frag} : Snd2 K notInD (rNiAny K) := by
  intro W F R σ H env Q x y v w z S hx hy e p
  unfold notInD at e
  cases hi : inD x y with
  | none => rw [hi] at e; cases e
  | some z' =>
    obtain ⟨b, rfl⟩ := inD_bl hi
    rw [hi] at e
    cases e
    have q := post_d S p (.bl (!b))
    rcases in_cases S.sub hx hy hi with ⟨c, z, e1, e2, rfl⟩ | ⟨a, xs, e1, e2, e3, e4, rfl⟩ | ⟨d, ds, e1, e2, e3, e4, rfl⟩
    · exact .inl ⟨c, z, e1, e2, q⟩
    · exact .inr (.inl ⟨a, xs, e1, e2, e3, e4, q⟩)
    · exact .inr (.inr ⟨d, ds, e1, e2, e3, e4, q⟩)
section
variable {X : Cx} {W : WX} {a b : Expr} {fa fb : SE} {pos : Pos}
theorem pd_eq (hu : X.A.units + 64 < cLine) (ha : PE X a (dE X.K W fa)) (hb : PE X b (dE X.K W fb)) : PE X (.Compare a [.Eq] [b] pos) (dE X.K W (two (op2 eqD) fa fb)) := pd_cmp (OpR.or op_eq (op_eqD hu)) snd_eq (nomark _) ha hb
theorem pd_ne (hu : X.A.units + 64 < cLine) (ha : PE X a (dE X.K W fa)) (hb : PE X b (dE X.K W fb)) : PE X (.Compare a [.NotEq] [b] pos) (dE X.K W (two (op2 neD) fa fb)) := pd_cmp (OpR.or op_ne (op_neD hu)) snd_ne (nomark _) ha hb
theorem pd_lt (ha : PE X a (dE X.K W fa)) (hb : PE X b (dE X.K W fb)) : PE X (.Compare a [.Lt] [b] pos) (dE X.K W (two (op2 ltD) fa fb)) := pd_cmp (OpR.or op_lt op_lt_str) snd_lt (nomark _) ha hb
theorem pd_le (ha : PE X a (dE X.K W fa)) (hb : PE X b (dE X.K W fb)) : PE X (.Compare a [.LtE] [b] pos) (dE X.K W (two (op2 leD) fa fb)) := pd_cmp (OpR.or op_le op_le_str) snd_le (nomark _) ha hb
theorem pd_gt (ha : PE X a (dE X.K W fa)) (hb : PE X b (dE X.K W fb)) : PE X (.Compare a [.Gt] [b] pos) (dE X.K W (two (op2 gtD) fa fb)) := pd_cmp op_gt snd_gt (nomark _) ha hb
theorem pd_ge (ha : PE X a (dE X.K W fa)) (hb : PE X b (dE X.K W fb)) : PE X (.Compare a [.GtE] [b] pos) (dE X.K W (two (op2 geD) fa fb)) := pd_cmp op_ge snd_ge (nomark _) ha hb
theorem pd_is (ha : PE X a (dE X.K W fa)) (hb : PE X b (dE X.K W fb)) : PE X (.Compare a [.Is] [b] pos) (dE X.K W (two (op2 isD) fa fb)) := pd_cmp (OpR.or op_isN op_isBl) snd_is (nomark _) ha hb
theorem pd_isNot (ha : PE X a (dE X.K W fa)) (hb : PE X b (dE X.K W fb)) : PE X (.Compare a [.IsNot] [b] pos) (dE X.K W (two (op2 isNotD) fa fb)) := pd_cmp (OpR.or op_notN op_notBl) snd_isNot (nomark _) ha hb
theorem pd_in (hu : X.A.units + 65 < cLine) (ha : PE X a (dE X.K W fa)) (hb : PE X b (dE X.K W fb)) (hm : behindInMarks .In b = false := by rfl) : PE X (.Compare a [.In] [b] pos) (dE X.K W (two (op2 inD) fa fb)) := pd_cmp (OpR.or op_in_sign (OpR.or op_in_seq (op_inD hu))) snd_in hm ha hb
theorem pd_notIn (hu : X.A.units + 65 < cLine) (ha : PE X a (dE X.K W fa)) (hb : PE X b (dE X.K W fb)) (hm : behindInMarks .NotIn b = false := by rfl) : PE X (.Compare a [.NotIn] [b] pos) (dE X.K W (two (op2 notInD) fa fb)) := pd_cmp (OpR.or op_notIn_sign (OpR.or op_notIn_seq (op_notInD hu))) snd_ni hm ha hb
end
end
end Dw
namespace Dw
noncomputable section
open PySem PySem.Spec PyProof.Rows L2

theorem _root_.L2.PT.wk {X : Cx} {e : Expr} {t u : TT} (h : PT X e t) (w : ∀ σ H Q, u σ H Q → t σ H Q) : PT X e u := ⟨fun pins s σ H Q I q => h.run pins s σ H Q I (w σ H Q q)⟩
theorem _root_.L2.PW.wk {X : Cx} {e : Expr} {t u : TT} (h : PW X e t) (w : ∀ σ H Q, u σ H Q → t σ H Q) : PW X e u := ⟨fun wh pins s σ H Q I q => h.run wh pins s σ H Q I (w σ H Q q)⟩
theorem _root_.L2.PA.wk {X : Cx} {e : List Expr} {t u : TA} (h : PA X e t) (w : ∀ σ H Q, u σ H Q → t σ H Q) : PA X e u := ⟨fun pos pins s σ H Q I q => h.run pos pins s σ H Q I (w σ H Q q)⟩

/-! ### truth, tests -/
def truD : D → Option Bool
  | .non => some false
  | .bl b => some b
  | .int i => some (i != 0)
  | .str x => if x.length ≤ sizeLine then some (!x.isEmpty) else none
  | .lst xs => some (!xs.isEmpty)
  | .tup xs => some (!xs.isEmpty)
def tru (a : RV) (env : Sl) : Option Bool := match pk a env with
  | some x => truD x
  | none => none
theorem isEmpty_rel {K : PySem.W.Frag} {F : Hp} {vs : List V} {xs : List D} (r : RelAll K F vs xs) : vs.isEmpty = xs.isEmpty := by
  cases r <;> rfl
theorem truD_ok {K : PySem.W.Frag} {F H : Hp} {v : V} {x : D} {k : Bool} (e : Ex F H) (h : Vw K F H v x) (t : truD x = some k) : TruV K v H k := by
  cases x with
  | non => cases h; cases t; rfl
  | bl b => cases h; cases t; rfl
  | int i => cases h; cases t; rfl
  | str x =>
    cases h
    obtain ⟨c, rfl⟩ := some_if t
    refine ⟨by rw [mk_len]; exact c, ?_⟩
    rw [mk_len]
    cases x with
    | nil => rfl
    | cons a l =>
      rw [List.length_cons]
      have : ((l.length + 1 : Nat) : Int) ≠ 0 := by omega
      simp [this]
      omega
  | lst xs =>
    obtain ⟨p, vs, rfl, s, r⟩ := h
    cases t
    exact .inl ⟨vs, s, by rw [isEmpty_rel r]⟩
  | tup xs =>
    cases h with
    | tup s r =>
      cases t
      exact .inr (.inl ⟨_, ex_t e s, by rw [isEmpty_rel r]⟩)
section
variable (K : PySem.W.Frag) (W : WX)
def PostT (F : Hp) (R : Fm) (σ : L2.St) (r : Re) (Q : Bool → Hp → Prop) : Prop :=
  match r with
  | .ok a env' => ∃ b, tru a env' = some b ∧ ∀ F' H', Ex F F' → Sta K F' R σ H' env' → Q b H'
  | .ex e env' => ∀ cls d F' H', Ex F F' → Sta K F' R σ H' env' → XnAt K F' H' e cls d → W cls d σ H'
def dT (f : SE) : TT := fun σ H Q => ∃ env F R r, Sta K F R σ H env ∧ f env = some r ∧ PostT K W F R σ r Q
end
section
variable {K : PySem.W.Frag} {W : WX} {F F' : Hp} {R : Fm} {σ : L2.St} {H H' : Hp} {env : Sl} {Q : Bool → Hp → Prop}
/-- a test by the value's truth -/
theorem dT_tru {f : SE} (h : dT K W f σ H Q) : dE K W f σ H fun x H' => ∃ k, TruV K x H' k ∧ Q k H' := by
  obtain ⟨env, F, R, r, S, e, p⟩ := h
  refine ⟨env, F, R, r, S, e, ?_⟩
  cases r with
  | ok a env' =>
    obtain ⟨b, hb, p⟩ := p
    intro v F' H' e1 S1 rv
    unfold tru at hb
    cases hx : pk a env' with
    | none => rw [hx] at hb; cases hb
    | some x =>
      rw [hx] at hb
      exact ⟨b, truD_ok S1.sub (pk_vw S1 rv hx) hb, p F' H' e1 S1⟩
  | ex x env' => exact p
end
section
variable {X : Cx} {W : WX} {a b : Expr} {fa fb fc : SE} {pos : Pos} {rest : List Expr}
theorem pt_d {e : Expr} {f : SE} (h : PE X e (dE X.K W f)) (he : ∀ whole, isTrue e X.env whole = (do let v ← whole; standAt e.pos; holding [v] (truthy v)) := by intro _; rfl) : PT X e (dT X.K W f) :=
  (pt_truth h he).wk fun _ _ _ q => dT_tru q
/-- a comparison as a test: what it gives is True or False -/
theorem pt_dcmp {op : CmpOp} {r : R2} {f : D → D → Option RV} (ho : OpR X (compareOp op) r) (hs : Snd2 X.K f r) (hf : ∀ x y z, f x y = some z → ∃ b, z = .d (.bl b)) (hm : behindInMarks op b = false) (ha : PE X a (dE X.K W fa)) (hb : PE X b (dE X.K W fb)) :
    PT X (.Compare a [op] [b] pos) (dT X.K W (two (op2 f) fa fb)) := by
  refine (pt_cmpR ho ha hb hm).wk fun σ H Q q => ?_
  have key : dE X.K W (two (op2 f) fa fb) σ H fun x H' => ∃ k, x = .bl k ∧ Q k H' := by
    obtain ⟨env, F, R, r, S, e, p⟩ := q
    refine ⟨env, F, R, r, S, e, ?_⟩
    cases r with
    | ok a' env' =>
      obtain ⟨k, hk, p⟩ := p
      -- the value is a bool
      have hb : ∃ c, a' = .d (.bl c) := by
        rcases bindE_inv e with ⟨a1, e1, _, h1⟩ | ⟨x, e1, _, h1⟩
        · rcases bindE_inv h1 with ⟨a2, e2, _, h2⟩ | ⟨x, e1, _, h2⟩
          · obtain ⟨x, y, z, _, _, h3, h4⟩ := op2_inv h2
            obtain ⟨c, rfl⟩ := hf x y z h3
            cases h4
            exact ⟨c, rfl⟩
          · cases h2
        · cases h1
      obtain ⟨c, rfl⟩ := hb
      have hc : c = k := Option.some.inj hk
      subst hc
      intro v F' H' e1 S1 rv
      cases (show Rel X.K F' v (.bl c) from rv)
      exact ⟨c, rfl, p F' H' e1 S1⟩
    | ex x env' => exact p
  exact dE_two key fun _ _ _ _ _ _ _ _ S h1 h2 h => op2_snd hs S h1 h2 h
def andE (fa fb : SE) : SE := fun env => bindE (fa env) fun a env1 => match tru a env1 with
  | some true => fb env1
  | some false => some (.ok a env1)
  | none => none
def orE (fa fb : SE) : SE := fun env => bindE (fa env) fun a env1 => match tru a env1 with
  | some true => some (.ok a env1)
  | some false => fb env1
  | none => none
def notE (fa : SE) : SE := fun env => bindE (fa env) fun a env1 => (tru a env1).map fun b => .ok (.d (.bl (!b))) env1
def ifE (fc fa fb : SE) : SE := fun env => bindE (fc env) fun c env1 => match tru c env1 with
  | some true => fa env1
  | some false => fb env1
  | none => none
end
section
variable {K : PySem.W.Frag} {W : WX} {F F' : Hp} {R : Fm} {σ : L2.St} {H : Hp}
theorem PostT.up {Q : Bool → Hp → Prop} (e : Ex F F') : ∀ {r : Re}, PostT K W F R σ r Q → PostT K W F' R σ r Q
  | .ok _ _, ⟨b, hb, h⟩ => ⟨b, hb, fun F2 H2 e2 s => h F2 H2 (e.trans e2) s⟩
  | .ex _ _, h => fun c d F2 H2 e2 s q => h c d F2 H2 (e.trans e2) s q
theorem dT_and {fa fb : SE} {Q : Bool → Hp → Prop} (h : dT K W (andE fa fb) σ H Q) : tAnd (dT K W fa) (dT K W fb) σ H Q := by
  obtain ⟨env, F, R, r, S, e, p⟩ := h
  rcases bindE_inv e with ⟨a, env1, h1, h2⟩ | ⟨x, env1, h1, rfl⟩
  · refine ⟨env, F, R, _, S, h1, ?_⟩
    cases ht : tru a env1 with
    | none => rw [ht] at h2; cases h2
    | some b =>
      rw [ht] at h2
      refine ⟨b, ht, fun F1 H1 e1 S1 => ?_⟩
      cases b with
      | true => exact iteT ⟨env1, F1, R, r, S1, h2, p.up e1⟩
      | false =>
        refine iteF ?_
        cases h2
        obtain ⟨b, hb, q⟩ := p
        rw [ht] at hb
        cases hb
        exact q F1 H1 e1 S1
  · exact ⟨env, F, R, _, S, h1, p⟩
theorem dT_or {fa fb : SE} {Q : Bool → Hp → Prop} (h : dT K W (orE fa fb) σ H Q) : tOr (dT K W fa) (dT K W fb) σ H Q := by
  obtain ⟨env, F, R, r, S, e, p⟩ := h
  rcases bindE_inv e with ⟨a, env1, h1, h2⟩ | ⟨x, env1, h1, rfl⟩
  · refine ⟨env, F, R, _, S, h1, ?_⟩
    cases ht : tru a env1 with
    | none => rw [ht] at h2; cases h2
    | some b =>
      rw [ht] at h2
      refine ⟨b, ht, fun F1 H1 e1 S1 => ?_⟩
      cases b with
      | false => exact iteF ⟨env1, F1, R, r, S1, h2, p.up e1⟩
      | true =>
        refine iteT ?_
        cases h2
        obtain ⟨b, hb, q⟩ := p
        rw [ht] at hb
        cases hb
        exact q F1 H1 e1 S1
  · exact ⟨env, F, R, _, S, h1, p⟩
theorem dT_not {fa : SE} {Q : Bool → Hp → Prop} (h : dT K W (notE fa) σ H Q) : tNot (dT K W fa) σ H Q := by
  obtain ⟨env, F, R, r, S, e, p⟩ := h
  rcases bindE_inv e with ⟨a, env1, h1, h2⟩ | ⟨x, env1, h1, rfl⟩
  · refine ⟨env, F, R, _, S, h1, ?_⟩
    cases ht : tru a env1 with
    | none => rw [ht] at h2; cases h2
    | some b =>
      rw [ht] at h2
      cases h2
      obtain ⟨c, hc, q⟩ := p
      cases hc
      exact ⟨b, ht, fun F1 H1 e1 S1 => q F1 H1 e1 S1⟩
  · exact ⟨env, F, R, _, S, h1, p⟩
theorem tru_of {F : Hp} {R : Fm} {env : Sl} {a : RV} {v : V} {k : Bool} (S : Sta K F R σ H env) (h : RvOk K F R σ H env v a) (t : tru a env = some k) : TruV K v H k := by
  unfold tru at t
  cases hx : pk a env with
  | none => rw [hx] at t; cases t
  | some x =>
    rw [hx] at t
    exact truD_ok S.sub (pk_vw S h hx) t
theorem dE_and {fa fb : SE} {Q : VK} (h : dE K W (andE fa fb) σ H Q) : tAndT K (dE K W fa) (dE K W fb) σ H Q := by
  refine dE_one (op := fun a env1 => match tru a env1 with | some true => fb env1 | some false => some (.ok a env1) | none => none) h fun a env F R v H1 S rv q => ?_
  obtain ⟨r, e, p⟩ := q
  dsimp only at e
  cases ht : tru a env with
  | none => rw [ht] at e; cases e
  | some b =>
    rw [ht] at e
    refine ⟨b, tru_of S rv ht, ?_⟩
    cases b with
    | true => exact iteT ⟨env, F, R, r, S, e, p⟩
    | false =>
      cases e
      exact iteF (p v F H1 (Ex.refl F) S rv)
theorem dE_or {fa fb : SE} {Q : VK} (h : dE K W (orE fa fb) σ H Q) : tOrT K (dE K W fa) (dE K W fb) σ H Q := by
  refine dE_one (op := fun a env1 => match tru a env1 with | some true => some (.ok a env1) | some false => fb env1 | none => none) h fun a env F R v H1 S rv q => ?_
  obtain ⟨r, e, p⟩ := q
  dsimp only at e
  cases ht : tru a env with
  | none => rw [ht] at e; cases e
  | some b =>
    rw [ht] at e
    refine ⟨b, tru_of S rv ht, ?_⟩
    cases b with
    | false => exact iteF ⟨env, F, R, r, S, e, p⟩
    | true =>
      cases e
      exact iteT (p v F H1 (Ex.refl F) S rv)
theorem dE_not {fa : SE} {Q : VK} (h : dE K W (notE fa) σ H Q) : tNotT K (dE K W fa) σ H Q := by
  refine dE_one (op := fun a env1 => (tru a env1).map fun b => .ok (.d (.bl (!b))) env1) h fun a env F R v H1 S rv q => ?_
  obtain ⟨r, e, p⟩ := q
  dsimp only at e
  cases ht : tru a env with
  | none => rw [ht] at e; cases e
  | some b =>
    rw [ht] at e
    cases e
    exact ⟨b, tru_of S rv ht, p _ F H1 (Ex.refl F) S (.bl _)⟩
theorem dE_if {fc fa fb : SE} {Q : VK} (h : dE K W (ifE fc fa fb) σ H Q) : tIf (dT K W fc) (dE K W fa) (dE K W fb) σ H Q := by
  obtain ⟨env, F, R, r, S, e, p⟩ := h
  rcases bindE_inv e with ⟨a, env1, h1, h2⟩ | ⟨x, env1, h1, rfl⟩
  · refine ⟨env, F, R, _, S, h1, ?_⟩
    cases ht : tru a env1 with
    | none => rw [ht] at h2; cases h2
    | some b =>
      rw [ht] at h2
      refine ⟨b, ht, fun F1 H1 e1 S1 => ?_⟩
      cases b with
      | true => exact iteT ⟨env1, F1, R, r, S1, h2, p.up e1⟩
      | false => exact iteF ⟨env1, F1, R, r, S1, h2, p.up e1⟩
  · exact ⟨env, F, R, _, S, h1, p⟩
end
section
variable {X : Cx} {W : WX} {a b c : Expr} {fa fb fc : SE} {pos : Pos} {rest : List Expr}
theorem pw_dand1 (ha : PT X a (dT X.K W fa)) : PW X (.BoolOp .And [a] pos) (dT X.K W fa) := pw_and1 ha
theorem pw_dor1 (ha : PT X a (dT X.K W fa)) : PW X (.BoolOp .Or [a] pos) (dT X.K W fa) := pw_or1 ha
theorem pw_dand (ha : PT X a (dT X.K W fa)) (hb : PW X (.BoolOp .And (b :: rest) pos) (dT X.K W fb)) : PW X (.BoolOp .And (a :: b :: rest) pos) (dT X.K W (andE fa fb)) := (pw_and ha hb).wk fun _ _ _ q => dT_and q
theorem pw_dor (ha : PT X a (dT X.K W fa)) (hb : PW X (.BoolOp .Or (b :: rest) pos) (dT X.K W fb)) : PW X (.BoolOp .Or (a :: b :: rest) pos) (dT X.K W (orE fa fb)) := (pw_or ha hb).wk fun _ _ _ q => dT_or q
theorem pt_dnot (ha : PT X a (dT X.K W fa)) : PT X (.UnaryOp .Not a pos) (dT X.K W (notE fa)) := (pt_not ha).wk fun _ _ _ q => dT_not q
theorem pd_one {op} (h : PE X a (dE X.K W fa)) : PE X (.BoolOp op [a] pos) (dE X.K W fa) := pe_one h
theorem pd_and (ha : PE X a (dE X.K W fa)) (hb : PE X (.BoolOp .And (b :: rest) pos) (dE X.K W fb)) : PE X (.BoolOp .And (a :: b :: rest) pos) (dE X.K W (andE fa fb)) := (pe_andT ha hb).wk fun _ _ _ q => dE_and q
theorem pd_or (ha : PE X a (dE X.K W fa)) (hb : PE X (.BoolOp .Or (b :: rest) pos) (dE X.K W fb)) : PE X (.BoolOp .Or (a :: b :: rest) pos) (dE X.K W (orE fa fb)) := (pe_orT ha hb).wk fun _ _ _ q => dE_or q
theorem pd_not (ha : PE X a (dE X.K W fa)) : PE X (.UnaryOp .Not a pos) (dE X.K W (notE fa)) := (pe_notT ha).wk fun _ _ _ q => dE_not q
theorem pd_if (hc : PT X c (dT X.K W fc)) (ha : PE X a (dE X.K W fa)) (hb : PE X b (dE X.K W fb)) : PE X (.IfExp c a b pos) (dE X.K W (ifE fc fa fb)) := (pe_ifExp hc ha hb).wk fun _ _ _ q => dE_if q
/-! comparisons as tests -/
theorem bl_eq {x y : D} {z : RV} (h : eqD x y = some z) : ∃ b, z = .d (.bl b) := ⟨_, (some_if h).2.symm⟩
theorem bl_ne {x y : D} {z : RV} (h : neD x y = some z) : ∃ b, z = .d (.bl b) := ⟨_, (some_if h).2.symm⟩
theorem bl_lt {x y : D} {z : RV} (h : ltD x y = some z) : ∃ b, z = .d (.bl b) := by cases x <;> cases y <;> first | (cases h; done) | (cases h; exact ⟨_, rfl⟩)
theorem bl_le {x y : D} {z : RV} (h : leD x y = some z) : ∃ b, z = .d (.bl b) := by cases x <;> cases y <;> first | (cases h; done) | (cases h; exact ⟨_, rfl⟩)
theorem bl_gt {x y : D} {z : RV} (h : gtD x y = some z) : ∃ b, z = .d (.bl b) := by cases x <;> cases y <;> first | (cases h; done) | (cases h; exact ⟨_, rfl⟩)
theorem bl_ge {x y : D} {z : RV} (h : geD x y = some z) : ∃ b, z = .d (.bl b) := by cases x <;> cases y <;> first | (cases h; done) | (cases h; exact ⟨_, rfl⟩)
theorem bl_is {x y : D} {z : RV} (h : isD x y = some z) : ∃ b, z = .d (.bl b) := by cases x <;> cases y <;> first | (cases h; done) | (cases h; exact ⟨_, rfl⟩)
theorem bl_isNot {x y : D} {z : RV} (h : isNotD x y = some z) : ∃ b, z = .d (.bl b) := by cases x <;> cases y <;> first | (cases h; done) | (cases h; exact ⟨_, rfl⟩)
theorem bl_ni {x y : D} {z : RV} (h : notInD x y = some z) : ∃ b, z = .d (.bl b) := by
  unfold notInD at h
  cases hi : inD x y with
  | none => rw [hi] at h; cases h
  | some q =>
    obtain ⟨b, rfl⟩ := inD_bl hi
    rw [hi] at h
    cases h
    exact ⟨_, rfl⟩
theorem pt_eqd (hu : X.A.units + 64 < cLine) (ha : PE X a (dE X.K W fa)) (hb : PE X b (dE X.K W fb)) : PT X (.Compare a [.Eq] [b] pos) (dT X.K W (two (op2 eqD) fa fb)) := pt_dcmp (OpR.or op_eq (op_eqD hu)) snd_eq (fun _ _ _ => bl_eq) (nomark _) ha hb
theorem pt_ned (hu : X.A.units + 64 < cLine) (ha : PE X a (dE X.K W fa)) (hb : PE X b (dE X.K W fb)) : PT X (.Compare a [.NotEq] [b] pos) (dT X.K W (two (op2 neD) fa fb)) := pt_dcmp (OpR.or op_ne (op_neD hu)) snd_ne (fun _ _ _ => bl_ne) (nomark _) ha hb
theorem pt_ltd (ha : PE X a (dE X.K W fa)) (hb : PE X b (dE X.K W fb)) : PT X (.Compare a [.Lt] [b] pos) (dT X.K W (two (op2 ltD) fa fb)) := pt_dcmp (OpR.or op_lt op_lt_str) snd_lt (fun _ _ _ => bl_lt) (nomark _) ha hb
theorem pt_led (ha : PE X a (dE X.K W fa)) (hb : PE X b (dE X.K W fb)) : PT X (.Compare a [.LtE] [b] pos) (dT X.K W (two (op2 leD) fa fb)) := pt_dcmp (OpR.or op_le op_le_str) snd_le (fun _ _ _ => bl_le) (nomark _) ha hb
theorem pt_gtd (ha : PE X a (dE X.K W fa)) (hb : PE X b (dE X.K W fb)) : PT X (.Compare a [.Gt] [b] pos) (dT X.K W (two (op2 gtD) fa fb)) := pt_dcmp op_gt snd_gt (fun _ _ _ => bl_gt) (nomark _) ha hb
theorem pt_ged (ha : PE X a (dE X.K W fa)) (hb : PE X b (dE X.K W fb)) : PT X (.Compare a [.GtE] [b] pos) (dT X.K W (two (op2 geD) fa fb)) := pt_dcmp op_ge snd_ge (fun _ _ _ => bl_ge) (nomark _) ha hb
theorem pt_isd (ha : PE X a (dE X.K W fa)) (hb : PE X b (dE X.K W fb)) : PT X (.Compare a [.Is] [b] pos) (dT X.K W (two (op2 isD) fa fb)) := pt_dcmp (OpR.or op_isN op_isBl) snd_is (fun _ _ _ => bl_is) (nomark _) ha hb
theorem pt_isNotd (ha : PE X a (dE X.K W fa)) (hb : PE X b (dE X.K W fb)) : PT X (.Compare a [.IsNot] [b] pos) (dT X.K W (two (op2 isNotD) fa fb)) := pt_dcmp (OpR.or op_notN op_notBl) snd_isNot (fun _ _ _ => bl_isNot) (nomark _) ha hb
theorem pt_ind (hu : X.A.units + 65 < cLine) (ha : PE X a (dE X.K W fa)) (hb : PE X b (dE X.K W fb)) (hm : behindInMarks .In b = false := by rfl) : PT X (.Compare a [.In] [b] pos) (dT X.K W (two (op2 inD) fa fb)) := pt_dcmp (OpR.or op_in_sign (OpR.or op_in_seq (op_inD hu))) snd_in (fun _ _ _ => inD_bl) hm ha hb
theorem pt_notInd (hu : X.A.units + 65 < cLine) (ha : PE X a (dE X.K W fa)) (hb : PE X b (dE X.K W fb)) (hm : behindInMarks .NotIn b = false := by rfl) : PT X (.Compare a [.NotIn] [b] pos) (dT X.K W (two (op2 notInD) fa fb)) := pt_dcmp (OpR.or op_notIn_sign (OpR.or op_notIn_seq (op_notInD hu))) snd_ni (fun _ _ _ => bl_ni) hm ha hb
end
end
end Dw
namespace Dw
noncomputable section
open PySem PySem.Spec PyProof.Rows L2

/-! ### argument lists -/
inductive ReA where
  | ok (as : List RV) (env : Sl) | ex (e : Xn) (env : Sl)
abbrev SA := Sl → Option ReA
def bindEA (x : Option Re) (k : RV → SA) : Option ReA :=
  match x with
  | some (.ok a env) => k a env
  | some (.ex e env) => some (.ex e env)
  | none => none
def bindA (x : Option ReA) (k : List RV → SE) : Option Re :=
  match x with
  | some (.ok as env) => k as env
  | some (.ex e env) => some (.ex e env)
  | none => none
@[simp] theorem bindEA_ok {a : RV} {env : Sl} {k : RV → SA} : bindEA (some (.ok a env)) k = k a env := rfl
@[simp] theorem bindEA_ex {e : Xn} {env : Sl} {k : RV → SA} : bindEA (some (.ex e env)) k = some (.ex e env) := rfl
@[simp] theorem bindEA_none {k : RV → SA} : bindEA none k = none := rfl
@[simp] theorem bindA_ok {a : List RV} {env : Sl} {k : List RV → SE} : bindA (some (.ok a env)) k = k a env := rfl
@[simp] theorem bindA_ex {e : Xn} {env : Sl} {k : List RV → SE} : bindA (some (.ex e env)) k = some (.ex e env) := rfl
@[simp] theorem bindA_none {k : List RV → SE} : bindA none k = none := rfl
def nilA : SA := fun env => some (.ok [] env)
def mapA (x : Option ReA) (g : List RV → List RV) : Option ReA :=
  match x with
  | some (.ok as env) => some (.ok (g as) env)
  | some (.ex e env) => some (.ex e env)
  | none => none
@[simp] theorem mapA_ok {a : List RV} {env : Sl} {g : List RV → List RV} : mapA (some (.ok a env)) g = some (.ok (g a) env) := rfl
@[simp] theorem mapA_ex {e : Xn} {env : Sl} {g : List RV → List RV} : mapA (some (.ex e env)) g = some (.ex e env) := rfl
@[simp] theorem mapA_none {g : List RV → List RV} : mapA none g = none := rfl
def consA (fa : SE) (fr : SA) : SA := fun env => bindEA (fa env) fun a env1 => mapA (fr env1) (a :: ·)
def HeldAll (K : PySem.W.Frag) (F : Hp) (R R' : Fm) (σ : L2.St) : List V → List RV → Prop
  | [], [] => True
  | v :: vs, a :: as => Held K F R R' σ v a ∧ (∀ c, a = .own c → ∀ w b, (w, b) ∈ vs.zip as → ∀ c', b = .own c' → w ≠ v) ∧ HeldAll K F R R' σ vs as
  | _, _ => False
section
variable (K : PySem.W.Frag) (W : WX)
def PostA (F : Hp) (R : Fm) (σ : L2.St) (r : ReA) (Q : List V → Hp → Prop) : Prop :=
  match r with
  | .ok as env' => ∀ vs F' H' R', Ex F F' → FEx R R' → Sta K F' R' σ H' env' → HeldAll K F' R R' σ vs as → Q vs H'
  | .ex e env' => ∀ cls d F' H', Ex F F' → Sta K F' R σ H' env' → XnAt K F' H' e cls d → W cls d σ H'
def dA (f : SA) : TA := fun σ H Q => ∃ env F R r, Sta K F R σ H env ∧ f env = some r ∧ PostA K W F R σ r Q
end
section
variable {K : PySem.W.Frag} {W : WX} {F F' : Hp} {R R' R2 : Fm} {σ : L2.St} {H H' : Hp} {env : Sl}
theorem FEx.trans {R R' R2 : Fm} (a : FEx R R') (b : FEx R' R2) : FEx R R2 := ⟨a.1.trans b.1, a.2.trans b.2⟩
theorem Held.low {v : V} {a : RV} (e : FEx R R') (h : Held K F R' R2 σ v a) : Held K F R R2 σ v a := by
  cases a with
  | d x => exact h
  | cv i => exact h
  | own c =>
    obtain ⟨p, o, e1, e2, e3, e4⟩ := h
    exact ⟨p, o, e1, ex_none e.1 e2, e3, e4⟩
theorem Held.high {v : V} {a : RV} (e : FEx R' R2) (h : Held K F R R' σ v a) : Held K F R R2 σ v a := by
  cases a with
  | d x => exact h
  | cv i => exact h
  | own c =>
    obtain ⟨p, o, e1, e2, e3, e4⟩ := h
    exact ⟨p, o, e1, e2, e.1 p o e3, e4⟩
theorem Held.up {v : V} {a : RV} (e : Ex F F') (h : Held K F R R' σ v a) : Held K F' R R' σ v a := by
  cases a with
  | d x => exact Rel.up e h
  | cv i => exact h
  | own c =>
    obtain ⟨p, o, e1, e2, e3, e4⟩ := h
    exact ⟨p, o, e1, e2, e3, e4.up e⟩
theorem HeldAll.low (e : FEx R R') : ∀ {vs : List V} {as : List RV}, HeldAll K F R' R2 σ vs as → HeldAll K F R R2 σ vs as
  | [], [], _ => trivial
  | v :: vs, a :: as, h => ⟨h.1.low e, h.2.1, HeldAll.low e h.2.2⟩
  | [], _ :: _, h => h.elim
  | _ :: _, [], h => h.elim
theorem heldAll_none : ∀ {vs : List V} {as : List RV}, HeldAll K F R R' σ vs as → ∀ w b, (w, b) ∈ vs.zip as → ∀ c', b = .own c' → ∃ q, w = .ref q ∧ R.r q = none
  | [], [], _, w, b, h, _, _ => by simp at h
  | v :: vs, a :: as, h, w, b, hm, c', hb => by
    rw [List.zip_cons_cons, List.mem_cons] at hm
    rcases hm with hm | hm
    · cases hm
      subst hb
      obtain ⟨p, o, e1, e2, _⟩ := h.1
      exact ⟨p, e1, e2⟩
    · exact heldAll_none h.2.2 w b hm c' hb
  | [], _ :: _, h, _, _, _, _, _ => h.elim
  | _ :: _, [], h, _, _, _, _, _ => h.elim
theorem dA_cons {fa : SE} {fr : SA} {Q : List V → Hp → Prop} (h : dA K W (consA fa fr) σ H Q) : tCons (dE K W fa) (dA K W fr) σ H Q := by
  obtain ⟨env, F, R, r, S, e, p⟩ := h
  have e : bindEA (fa env) (fun a env1 => mapA (fr env1) (a :: ·)) = some r := e
  cases h1 : fa env with
  | none => rw [h1] at e; cases e
  | some q =>
    rw [h1] at e
    cases q with
    | ex x env1 =>
      cases e
      exact ⟨env, F, R, _, S, h1, p⟩
    | ok a env1 =>
      rw [bindEA_ok] at e
      refine ⟨env, F, R, _, S, h1, fun v F1 H1 e1 S1 rv => ?_⟩
      obtain ⟨R1, eR, S1', hd⟩ := hold S1 rv
      cases h2 : fr env1 with
      | none => rw [h2] at e; cases e
      | some q2 =>
        rw [h2] at e
        cases q2 with
        | ex x env2 =>
          cases e
          exact ⟨env1, F1, R1, _, S1', h2, fun cls d F2 H2 e2 S2 hx => p cls d F2 H2 (e1.trans e2) (S2.unhold eR) hx⟩
        | ok as env2 =>
          cases e
          refine ⟨env1, F1, R1, _, S1', h2, fun vs F2 H2 R2 e2 eR2 S2 hvs => ?_⟩
          refine p (v :: vs) F2 H2 R2 (e1.trans e2) (eR.trans eR2) S2 ⟨(hd.up e2).high eR2, fun c ec w b hm c' hb => ?_, hvs.low eR⟩
          subst ec
          obtain ⟨q, e3, e4⟩ := heldAll_none hvs w b hm c' hb
          obtain ⟨q', o, e5, _, e6, _⟩ := hd
          subst e3
          subst e5
          intro z
          cases z
          rw [e4] at e6
          cases e6
end
section
variable {X : Cx} {W : WX} {e : Expr} {es : List Expr} {fa : SE} {fr : SA}
theorem pa_dnil : PA X [] (dA X.K W nilA) := pa_nil.wk fun σ H Q q => by
  obtain ⟨env, F, R, r, S, e, p⟩ := q
  cases e
  exact p [] F H R (Ex.refl F) (FEx.refl R) S trivial
theorem pa_dcons (ha : PE X e (dE X.K W fa)) (hr : PA X es (dA X.K W fr)) (hs : starEach (e :: es) X.env = (false, eval e X.env) :: starEach es X.env := by rfl) : PA X (e :: es) (dA X.K W (consA fa fr)) := (pa_cons ha hr hs).wk fun _ _ _ q => dA_cons q
end

/-! ### values that are seen -/
def pks : List RV → Sl → Option (List D)
  | [], _ => some []
  | a :: as, env => (pk a env).bind fun x => (pks as env).map (x :: ·)
def VwAll (K : PySem.W.Frag) (F H : Hp) : List V → List D → Prop
  | [], [] => True
  | v :: vs, x :: xs => Vw K F H v x ∧ VwAll K F H vs xs
  | _, _ => False
section
variable {K : PySem.W.Frag} {W : WX} {F F' : Hp} {R R' : Fm} {σ : L2.St} {H H' : Hp} {env : Sl} {Q : VK}
theorem pks_vw (eR : FEx R R') (S : Sta K F R' σ H env) : ∀ {vs : List V} {as : List RV} {xs : List D}, HeldAll K F R R' σ vs as → pks as env = some xs → VwAll K F H vs xs
  | [], [], xs, _, e => by cases e; trivial
  | v :: vs, a :: as, xs, h, e => by
    have e : ((pk a env).bind fun x => (pks as env).map (x :: ·)) = some xs := e
    rw [Option.bind_eq_some_iff] at e
    obtain ⟨x, h1, e⟩ := e
    rw [Option.map_eq_some_iff] at e
    obtain ⟨ys, h2, rfl⟩ := e
    exact ⟨pk_vw (S.unhold eR) (unheld (Ex.refl F) eR S h.1) h1, pks_vw eR S h.2.2 h2⟩
  | [], _ :: _, _, h, _ => h.elim
  | _ :: _, [], _, h, _ => h.elim
/-- what a call of a built-in makes of what it sees -/
def callE (f : List D → Option RV) (fa : SA) : SE := fun env => bindA (fa env) fun as env1 => (pks as env1).bind fun xs => (f xs).map (Re.ok · env1)
def SndC (K : PySem.W.Frag) (f : List D → Option RV) (r : List V → Hp → VK → Prop) : Prop := ∀ {W : WX} {F : Hp} {R : Fm} {σ : L2.St} {H : Hp} {env : Sl} {Q : VK} {xs : List D} {vs : List V} {z : RV},
  Sta K F R σ H env → VwAll K F H vs xs → f xs = some z → PostE K W F R σ (.ok z env) Q → r vs H Q
theorem dE_callB {f : List D → Option RV} {r : List V → Hp → VK → Prop} {fa : SA} (hs : SndC K f r) (h : dE K W (callE f fa) σ H Q) : tCB r (dA K W fa) σ H Q := by
  obtain ⟨env, F, R, r', S, e, p⟩ := h
  have e : bindA (fa env) (fun as env1 => (pks as env1).bind fun xs => (f xs).map (Re.ok · env1)) = some r' := e
  cases h1 : fa env with
  | none => rw [h1] at e; cases e
  | some q =>
    rw [h1] at e
    cases q with
    | ex x env1 =>
      cases e
      exact ⟨env, F, R, _, S, h1, p⟩
    | ok as env1 =>
      rw [bindA_ok, Option.bind_eq_some_iff] at e
      obtain ⟨xs, h2, e⟩ := e
      rw [Option.map_eq_some_iff] at e
      obtain ⟨z, h3, rfl⟩ := e
      exact ⟨env, F, R, _, S, h1, fun vs F1 H1 R1 e1 eR S1 hv => hs (S1.unhold eR) (pks_vw eR S1 hv h2) h3 (p.up e1)⟩
end
section
variable {X : Cx} {W : WX} {x : Str} {p pos : Pos} {e : Expr} {es : List Expr} {fa : SA} {id T : String} {f : List D → Option RV} {r : List V → Hp → VK → Prop}
theorem pd_callB (hc : CallR X (.builtin id) r) (hs : SndC X.K f r) (hm : X.mg x = none) (hv : bootBuiltins x = some (.builtin id)) (ha : PA X (e :: es) (dA X.K W fa)) (hg : Gl X x := by rfl) (hn : x ≠ "__name__" := by decide) (hdb : (x == ("__debug__" : Str)) = false := by decide)
    (he : starEach (e :: es) X.env = (false, eval e X.env) :: starEach es X.env := by rfl) (hpl : (backTo pos (starEach es X.env)).any (·.1) = false := by rfl) : PE X (.Call (.Name x p) (e :: es) [] pos) (dE X.K W (callE f fa)) :=
  (pe_callB hc hg hm hv ha hn hdb he hpl).wk fun _ _ _ q => dE_callB hs q
theorem pd_callTy (hc : CallR X (.type T) r) (hs : SndC X.K f r) (hm : X.mg x = none) (hv : bootBuiltins x = some (.type T)) (ha : PA X (e :: es) (dA X.K W fa)) (hg : Gl X x := by rfl) (hn : x ≠ "__name__" := by decide) (hdb : (x == ("__debug__" : Str)) = false := by decide)
    (he : starEach (e :: es) X.env = (false, eval e X.env) :: starEach es X.env := by rfl) (hpl : (backTo pos (starEach es X.env)).any (·.1) = false := by rfl) : PE X (.Call (.Name x p) (e :: es) [] pos) (dE X.K W (callE f fa)) :=
  (pe_callTy hc hg hm hv ha hn hdb he hpl).wk fun _ _ _ q => dE_callB hs q
end
theorem CallR.or {X : Cx} {f : Value} {r r' : List V → Hp → VK → Prop} (h : CallR X f r) (h' : CallR X f r') : CallR X f (fun xs H Q => r xs H Q ∨ r' xs H Q) := by
  intro pins s σ H xs us Q I rr q
  rcases q with q | q
  · exact h pins s σ H xs us Q I rr q
  · exact h' pins s σ H xs us Q I rr q

/-! ### a[i] -/
def getD : D → D → Option RV
  | .lst xs, .int i => (atI xs i).map .d
  | .tup xs, .int i => (atI xs i).map .d
  | .str x, .int i => if x.length ≤ sizeLine then (atI x i).map fun c => .d (.str [c]) else none
  | _, _ => none
theorem RelAll.atI {K : PySem.W.Frag} {F : Hp} {vs : List V} {xs : List D} {i : Int} {x : D} (r : RelAll K F vs xs) (h : L2.atI xs i = some x) : ∃ v, L2.atI vs i = some v ∧ Rel K F v x := by
  unfold L2.atI at h ⊢
  rw [Option.bind_eq_some_iff] at h
  obtain ⟨j, h1, h2⟩ := h
  rw [r.len, h1]
  obtain ⟨v, e, rv⟩ := r.getD h2
  exact ⟨v, e, rv⟩
theorem snd_get {K : PySem.W.Frag} : Snd2 K getD (rIx K) := by
  intro W F R σ H env Q x y v w z S hx hy e p
  cases y with
  | int i =>
    cases hy
    cases x with
    | lst xs =>
      obtain ⟨a, vs, rfl, s, r⟩ := hx
      have e : (L2.atI xs i).map RV.d = some z := e
      rw [Option.map_eq_some_iff] at e
      obtain ⟨d, h1, rfl⟩ := e
      obtain ⟨u, h2, ru⟩ := r.atI h1
      exact .inl ⟨a, vs, i, u, rfl, rfl, s, h2, post_d S p ru⟩
    | tup xs =>
      cases hx with
      | tup s r =>
        have e : (L2.atI xs i).map RV.d = some z := e
        rw [Option.map_eq_some_iff] at e
        obtain ⟨d, h1, rfl⟩ := e
        obtain ⟨u, h2, ru⟩ := r.atI h1
        exact .inr (.inl ⟨_, _, i, u, rfl, rfl, ex_t S.sub s, h2, post_d S p ru⟩)
    | str x =>
      cases hx
      have e : (if x.length ≤ sizeLine then (L2.atI x i).map fun c => RV.d (.str [c]) else none) = some z := e
      by_cases hl : x.length ≤ sizeLine
      · rw [if_pos hl, Option.map_eq_some_iff] at e
        obtain ⟨c, h1, rfl⟩ := e
        exact .inr (.inr ⟨mk x, i, c, rfl, rfl, by rw [mk_len]; exact hl, h1, post_d S p (.str [c])⟩)
      · rw [if_neg hl] at e
        cases e
    | _ => cases e
  | _ => cases x <;> cases e
section
variable {X : Cx} {W : WX} {a b : Expr} {fa fb : SE} {pos : Pos}
theorem pd_get (ha : PE X a (dE X.K W fa)) (hb : PE X b (dE X.K W fb)) (hs : PlainIx b := by exact fun _ _ => rfl) : PE X (.Subscript a b pos) (dE X.K W (two (op2 getD) fa fb)) :=
  (pe_ix ix_seq ha hb hs).wk fun σ H Q q => dE_two q fun _ _ _ _ _ _ _ _ S h1 h2 h => op2_snd snd_get S h1 h2 h
end

/-! ### a[lo:hi] -/
def cutL {α : Type} (xs : List α) (lo hi : Option Int) : List α := (xs.drop (HT.sIx xs.length 0 lo)).take (HT.sIx xs.length xs.length hi - HT.sIx xs.length 0 lo)
theorem cutV_L (xs : List V) (lo hi : Option Int) : cutV xs lo hi = cutL xs lo hi := rfl
theorem cutS_L (x : List Nat) (lo hi : Option Int) : cutS (mk x) lo hi = mk (cutL x lo hi) := by
  unfold cutS cutL mk
  simp [Str.length]
def bindO (fo : Option SE) (env : Sl) (k : Option Int → SE) : Option Re :=
  match fo with
  | none => k none env
  | some f => bindE (f env) fun b env1 => match pk b env1 with
    | some (.int i) => k (some i) env1
    | _ => none
def cutD (x : D) (lo hi : Option Int) : Option RV := match x with
  | .lst xs => some (.own (.lst (cutL xs lo hi)))
  | .tup xs => some (.d (.tup (cutL xs lo hi)))
  | .str x => if x.length ≤ sizeLine then some (.d (.str (cutL x lo hi))) else none
  | _ => none
def sliceE (fe : SE) (fl fh : Option SE) : SE := fun env => bindE (fe env) fun a env1 => bindO fl env1 fun lo env2 => bindO fh env2 fun hi env3 => (pk a env3).bind fun x => (cutD x lo hi).map (Re.ok · env3)
def tO (K : PySem.W.Frag) (W : WX) : Option SE → TO
  | none => tNoPart
  | some f => tPart (dE K W f)
theorem RelAll.cut {K : PySem.W.Frag} {F : Hp} {vs : List V} {xs : List D} (r : RelAll K F vs xs) (lo hi : Option Int) : RelAll K F (cutL vs lo hi) (cutL xs lo hi) := by
  unfold cutL
  rw [r.len]
  exact (r.drop _).take _
theorem cut_whole {α : Type} {xs : List α} {lo hi : Option Int} (h : HT.sIx xs.length 0 lo = 0 ∧ HT.sIx xs.length xs.length hi = xs.length) : cutL xs lo hi = xs := by
  unfold cutL
  rw [h.1, h.2, List.drop_zero, Nat.sub_zero, List.take_length]
def rSlAny (K : PySem.W.Frag) : V → Option Int → Option Int → Hp → VK → Prop := fun x lo hi H Q => rSlL K x lo hi H Q ∨ rSlA K x lo hi H Q ∨ rSlS x lo hi H Q
theorem sl_any {X : Cx} : SlR X (rSlAny X.K) := SlR.or sl_list (SlR.or sl_tupA sl_str)
section
variable {K : PySem.W.Frag} {W : WX} {F F' : Hp} {R R' : Fm} {σ : L2.St} {H H' : Hp} {env : Sl} {Q : VK}
theorem snd_cut {x : D} {v : V} {lo hi : Option Int} {z : RV} (S : Sta K F R σ H env) (hx : Vw K F H v x) (e : cutD x lo hi = some z) (p : PostE K W F R σ (.ok z env) Q) : rSlAny K v lo hi H Q := by
  cases x with
  | lst xs =>
    obtain ⟨a, vs, rfl, s, r⟩ := hx
    cases e
    exact .inl ⟨a, vs, rfl, s, fun q hq => post_new S p hq (r.cut lo hi)⟩
  | tup xs =>
    cases hx with
    | tup s r =>
      cases e
      refine .inr (.inl ⟨_, _, rfl, ex_t S.sub s, fun hw => ?_, fun _ q hq => post_tup S p hq (r.cut lo hi)⟩)
      rw [r.len] at hw
      rw [cut_whole hw] at p
      exact post_d S p (.tup s r)
  | str x =>
    cases hx
    obtain ⟨c, rfl⟩ := some_if e
    refine .inr (.inr ⟨mk x, rfl, by rw [mk_len]; exact c, ?_⟩)
    rw [cutS_L]
    exact post_d S p (.str _)
  | _ => cases e
/-- one part, something held meanwhile -/
theorem tO_ok {fo : Option SE} {k : Option Int → SE} {Q1 : Option Int → Hp → Prop} (eR : FEx R R') (S : Sta K F R' σ H env) (h : atE K W (fun env => bindO fo env k) F R σ env Q)
    (hk : ∀ i env1 F1 H1, Ex F F1 → Sta K F1 R' σ H1 env1 → atE K W (k i) F1 R σ env1 Q → Q1 i H1) : tO K W fo σ H Q1 := by
  cases fo with
  | none => exact hk none env F H (Ex.refl F) S h
  | some f =>
    refine dE_of S (atE_bindR (k := fun b env1 => match pk b env1 with | some (.int i) => k (some i) env1 | _ => none) eR h fun b env1 F1 w H1 e1 S1 rw' q => ?_)
    obtain ⟨r, e, p⟩ := q
    dsimp only at e
    cases hx : pk b env1 with
    | none => rw [hx] at e; cases e
    | some x =>
      rw [hx] at e
      cases x with
      | int i =>
        cases (show Rel K F1 w (.int i) from pk_vw S1 rw' hx)
        exact ⟨i, rfl, hk (some i) env1 F1 H1 e1 S1 ⟨r, e, p⟩⟩
      | _ => cases e
theorem dE_slice {fe : SE} {fl fh : Option SE} (h : dE K W (sliceE fe fl fh) σ H Q) : tSl (rSlAny K) (dE K W fe) (tO K W fl) (tO K W fh) σ H Q := by
  obtain ⟨env, F, R, S, q⟩ := of_dE h
  refine dE_of S (atE_bind q fun a env1 F1 v H1 e1 S1 rv q1 => ?_)
  obtain ⟨R', eR, S1', hd⟩ := hold S1 rv
  refine tO_ok eR S1' q1 fun lo env2 F2 H2 e2 S2 q2 => tO_ok eR S2 q2 fun hi env3 F3 H3 e3 S3 q3 => ?_
  obtain ⟨r, e, p⟩ := q3
  dsimp only at e
  rw [Option.bind_eq_some_iff] at e
  obtain ⟨x, h1, e⟩ := e
  rw [Option.map_eq_some_iff] at e
  obtain ⟨z, h2, rfl⟩ := e
  exact snd_cut (S3.unhold eR) (pk_vw (S3.unhold eR) (unheld (e2.trans e3) eR S3 hd) h1) h2 p
end
section
variable {X : Cx} {W : WX} {e : Expr} {lo hi : Option Expr} {fe f : SE} {fl fh : Option SE} {pos p2 : Pos}
theorem po_dnone : PO X none (tO X.K W none) := po_none
theorem po_dsome {e : Expr} (h : PE X e (dE X.K W f)) : PO X (some e) (tO X.K W (some f)) := po_some h
theorem pd_slice (he : PE X e (dE X.K W fe)) (hl : PO X lo (tO X.K W fl)) (hu : PO X hi (tO X.K W fh)) : PE X (.Subscript e (.Slice lo hi none p2) pos) (dE X.K W (sliceE fe fl fh)) :=
  (pe_slice sl_any he hl hu).wk fun _ _ _ q => dE_slice q
end
end
end Dw
namespace Dw
noncomputable section
open PySem PySem.Spec PyProof.Rows L2

/-! ### displays -/
def frzs : List RV → Sl → Option (List D × Sl)
  | [], env => some ([], env)
  | a :: as, env => (frz a env).bind fun p => (frzs as p.2).map fun q => (p.1 :: q.1, q.2)
section
variable {K : PySem.W.Frag} {W : WX} {F F' : Hp} {R R' R2 : Fm} {σ : L2.St} {H H' : Hp} {env env' : Sl} {Q : VK}
/-- one held value is frozen: the others stay held -/
theorem frz_held {a : RV} {v : V} {x : D} (eR : FEx R R') (S : Sta K F R' σ H env) (h : Held K F R R' σ v a) (e : frz a env = some (x, env')) :
    ∃ F' R2, Ex F F' ∧ FEx R R2 ∧ Sta K F' R2 σ H env' ∧ Rel K F' v x ∧ ∀ w b, (∀ c c', a = .own c → b = .own c' → w ≠ v) → Held K F R R' σ w b → Held K F' R R2 σ w b := by
  cases a with
  | d y => cases e; exact ⟨F, R', Ex.refl F, eR, S, h, fun _ _ _ q => q⟩
  | cv i =>
    obtain ⟨F', e1, S', r⟩ := frz_ok (a := .cv i) S (show RvOk K F R' σ H env v (.cv i) from h) e
    exact ⟨F', R', e1, eR, S', r, fun w b _ q => q.up e1⟩
  | own c =>
    cases c with
    | lst xs =>
      cases e
      obtain ⟨p, o, rfl, hR, hp, ⟨vs, rfl, r⟩⟩ := h
      have hF : F p = none := S.dis p _ hp
      have eF : Ex F (upd F p (.lst vs)) := Ex.new hF
      refine ⟨upd F p (.lst vs), ⟨fun b => if b = p then none else R'.r b, R'.t⟩, eF, ⟨fun b u q => ?_, eR.2⟩, ⟨fun b u q => ?_, fun b u q => ?_, fun b u q => ?_, S.len, fun i x q => ?_, fun i b c q => ?_, S.tag, S.inj⟩, .lst (.inl (Rd.of upd_same)) (r.up eF), fun w b hne q => ?_⟩
      · show (if b = p then none else R'.r b) = some u
        rw [if_neg (fun z => by rw [z, hR] at q; cases q)]
        exact eR.1 b u q
      · by_cases hb : b = p
        · subst hb; rw [upd_same] at q; cases q; exact S.fr b _ hp
        · rw [upd_ne hb] at q; exact S.sub b u q
      · have q : (if b = p then none else R'.r b) = some u := q
        by_cases hb : b = p
        · rw [if_pos hb] at q; cases q
        · rw [if_neg hb] at q; exact S.fr b u q
      · have q : (if b = p then none else R'.r b) = some u := q
        by_cases hb : b = p
        · rw [if_pos hb] at q; cases q
        · rw [if_neg hb] at q
          rw [upd_ne hb]; exact S.dis b u q
      · obtain ⟨v, e1, r⟩ := S.dat i x q
        exact ⟨v, e1, r.up eF⟩
      · obtain ⟨q1, u, e2, e3, e4, e5, e6⟩ := S.own i b c q
        have hb : q1 ≠ p := fun z => by rw [z, hp] at e4; cases e4
        exact ⟨q1, u, e2, by rw [upd_ne hb]; exact e3, by show (if q1 = p then none else R'.r q1) = none; rw [if_neg hb]; exact e4, e5, e6.up eF⟩
      · cases b with
        | d y => exact Rel.up eF q
        | cv i => exact q
        | own c' =>
          obtain ⟨p', o, rfl, h1, h2, h3⟩ := q
          have hb : p' ≠ p := fun z => hne _ _ rfl rfl (by rw [z])
          exact ⟨p', o, rfl, h1, by show (if p' = p then none else R'.r p') = some o; rw [if_neg hb]; exact h2, h3.up eF⟩
theorem frzs_held : ∀ {as : List RV} {vs : List V} {xs : List D} {env env' : Sl} {F : Hp} {R' : Fm}, FEx R R' → Sta K F R' σ H env → HeldAll K F R R' σ vs as → frzs as env = some (xs, env') →
    ∃ F' R2, Ex F F' ∧ FEx R R2 ∧ Sta K F' R2 σ H env' ∧ RelAll K F' vs xs
  | [], [], xs, env, env', F, R', eR, S, _, e => by
    cases e
    exact ⟨F, R', Ex.refl F, eR, S, .nil⟩
  | a :: as, v :: vs, xs, env, env', F, R', eR, S, h, e => by
    have e : ((frz a env).bind fun p => (frzs as p.2).map fun q => (p.1 :: q.1, q.2)) = some (xs, env') := e
    rw [Option.bind_eq_some_iff] at e
    obtain ⟨⟨x, env1⟩, h1, e⟩ := e
    rw [Option.map_eq_some_iff] at e
    obtain ⟨⟨ys, env2⟩, h2, e⟩ := e
    cases e
    obtain ⟨F1, R1, e1, eR1, S1, r1, keep⟩ := frz_held eR S h.1 h1
    have all : ∀ {vs : List V} {as : List RV}, (∀ c, a = .own c → ∀ w b, (w, b) ∈ vs.zip as → ∀ c', b = .own c' → w ≠ v) → HeldAll K F R R' σ vs as → HeldAll K F1 R R1 σ vs as := by
      intro vs
      induction vs with
      | nil => intro as _ h; cases as with
        | nil => trivial
        | cons _ _ => exact h.elim
      | cons w ws ih =>
        intro as hne h
        cases as with
        | nil => exact h.elim
        | cons b bs =>
          exact ⟨keep w b (fun c c' e1 e2 => hne c e1 w b (by simp) c' e2) h.1, h.2.1, ih (fun c e1 w b hm c' e2 => hne c e1 w b (by rw [List.zip_cons_cons]; exact List.mem_cons_of_mem _ hm) c' e2) h.2.2⟩
    obtain ⟨F2, R2, e2, eR2, S2, r2⟩ := frzs_held eR1 S1 (all h.2.1 h.2.2) h2
    exact ⟨F2, R2, e1.trans e2, eR2, S2, .cons (r1.up e2) r2⟩
  | [], _ :: _, _, _, _, _, _, _, _, h, _ => h.elim
  | _ :: _, [], _, _, _, _, _, _, _, h, _ => h.elim
def tupE (fa : SA) : SE := fun env => bindA (fa env) fun as env1 => (frzs as env1).bind fun p => if p.1.length ≤ 100000 then some (.ok (.d (.tup p.1)) p.2) else none
def lstE (fa : SA) : SE := fun env => bindA (fa env) fun as env1 => (frzs as env1).bind fun p => if p.1.length ≤ 100000 then some (.ok (.own (.lst p.1)) p.2) else none
theorem bindA_inv {x : Option ReA} {k : List RV → SE} {r : Re} (h : bindA x k = some r) : (∃ as env1, x = some (.ok as env1) ∧ k as env1 = some r) ∨ ∃ e env1, x = some (.ex e env1) ∧ r = .ex e env1 := by
  cases x with
  | none => cases h
  | some q =>
    cases q with
    | ok a env1 => exact .inl ⟨a, env1, rfl, h⟩
    | ex e env1 => exact .inr ⟨e, env1, rfl, (Option.some.inj h).symm⟩
theorem sz_of {n : Nat} (h : n ≤ 100000) : n ≤ sizeLine := Nat.le_trans h (by decide)
theorem dE_tup {fa : SA} (h : dE K W (tupE fa) σ H Q) : tTup (dA K W fa) σ H Q := by
  obtain ⟨env, F, R, r, S, e, p⟩ := h
  rcases bindA_inv e with ⟨as, env1, h1, h2⟩ | ⟨x, env1, h1, rfl⟩
  · rw [Option.bind_eq_some_iff] at h2
    obtain ⟨⟨xs, env2⟩, h3, h4⟩ := h2
    obtain ⟨c, rfl⟩ := some_if h4
    refine ⟨env, F, R, _, S, h1, fun vs F1 H1 R1 e1 eR S1 hv => ?_⟩
    obtain ⟨F2, R2, e2, eR2, S2, rr⟩ := frzs_held eR S1 hv h3
    exact ⟨sz_of (by rw [rr.len]; exact c), fun q hq => post_tup (S2.unhold eR2) (p.up (e1.trans e2)) hq rr⟩
  · exact ⟨env, F, R, _, S, h1, p⟩
theorem dE_lst {fa : SA} (h : dE K W (lstE fa) σ H Q) : tLst (dA K W fa) σ H Q := by
  obtain ⟨env, F, R, r, S, e, p⟩ := h
  rcases bindA_inv e with ⟨as, env1, h1, h2⟩ | ⟨x, env1, h1, rfl⟩
  · rw [Option.bind_eq_some_iff] at h2
    obtain ⟨⟨xs, env2⟩, h3, h4⟩ := h2
    obtain ⟨c, rfl⟩ := some_if h4
    refine ⟨env, F, R, _, S, h1, fun vs F1 H1 R1 e1 eR S1 hv => ?_⟩
    obtain ⟨F2, R2, e2, eR2, S2, rr⟩ := frzs_held eR S1 hv h3
    exact ⟨sz_of (by rw [rr.len]; exact c), fun q hq => post_new (S2.unhold eR2) (p.up (e1.trans e2)) hq rr⟩
  · exact ⟨env, F, R, _, S, h1, p⟩
end
section
variable {X : Cx} {W : WX} {es : List Expr} {fa : SA} {pos : Pos}
theorem pd_tup {x1} (h : PA X es (dA X.K W fa)) : PE X (.Tuple es x1 pos) (dE X.K W (tupE fa)) := (pe_tup h).wk fun _ _ _ q => dE_tup q
theorem pd_lst (h : PA X es (dA X.K W fa)) : PE X (.List es pos) (dE X.K W (lstE fa)) := (pe_lst h).wk fun _ _ _ q => dE_lst q
end

/-! ### built-in functions -/
theorem vw1 {K : PySem.W.Frag} {F H : Hp} {vs : List V} {x : D} (h : VwAll K F H vs [x]) : ∃ v, vs = [v] ∧ Vw K F H v x := by
  match vs, h with
  | [v], h => exact ⟨v, rfl, h.1⟩
  | [], h => exact h.elim
  | _ :: _ :: _, h => exact h.2.elim
theorem vw2 {K : PySem.W.Frag} {F H : Hp} {vs : List V} {x y : D} (h : VwAll K F H vs [x, y]) : ∃ v w, vs = [v, w] ∧ Vw K F H v x ∧ Vw K F H w y := by
  match vs, h with
  | [v, w], h => exact ⟨v, w, rfl, h.1, h.2.1⟩
  | [], h => exact h.elim
  | [_], h => exact h.2.elim
  | _ :: _ :: _ :: _, h => exact h.2.2.elim
def lenD : List D → Option RV
  | [.lst xs] => some (.d (.int xs.length))
  | [.tup xs] => some (.d (.int xs.length))
  | [.str x] => if x.length ≤ sizeLine then some (.d (.int x.length)) else none
  | _ => none
def rLenAny (K : PySem.W.Frag) : List V → Hp → VK → Prop := fun xs H Q => (∃ p ys, xs = [.ref p] ∧ (SqL K H p ys ∨ SqT K H p ys) ∧ Q (.int ys.length) H) ∨ ∃ z, xs = [.str z] ∧ z.length ≤ sizeLine ∧ Q (.int z.length) H
theorem cr_len {X : Cx} : CallR X (.builtin "len") (rLenAny X.K) := CallR.or call_len_seq call_len_str
theorem snd_len {K : PySem.W.Frag} : SndC K lenD (rLenAny K) := by
  intro W F R σ H env Q xs vs z S h e p
  match xs, h, e with
  | [.lst ys], h, e =>
    cases e
    obtain ⟨v, rfl, a, us, rfl, s, r⟩ := vw1 h
    refine .inl ⟨a, us, rfl, .inl s, ?_⟩
    rw [r.len]
    exact post_d S p (.int _)
  | [.tup ys], h, e =>
    cases e
    obtain ⟨v, rfl, hv⟩ := vw1 h
    cases hv with
    | tup s r =>
      refine .inl ⟨_, _, rfl, .inr (ex_t S.sub s), ?_⟩
      rw [r.len]
      exact post_d S p (.int _)
  | [.str x], h, e =>
    obtain ⟨c, rfl⟩ := some_if e
    obtain ⟨v, rfl, hv⟩ := vw1 h
    cases hv
    refine .inr ⟨mk x, rfl, by rw [mk_len]; exact c, ?_⟩
    rw [mk_len]
    exact post_d S p (.int _)
def intC : List D → Option RV
  | [.int i] => some (.d (.int i))
  | [.bl b] => some (.d (.int (b2i b)))
  | _ => none
def listC : List D → Option RV
  | [.lst xs] => some (.own (.lst xs))
  | [.tup xs] => some (.own (.lst xs))
  | _ => none
def rListC (K : PySem.W.Frag) : List V → Hp → VK → Prop := fun xs H Q => ∃ p ys, xs = [.ref p] ∧ (SqL K H p ys ∨ SqT K H p ys) ∧ ∀ l, H l = none → Q (.ref l) (upd H l (.lst ys))
theorem snd_list {K : PySem.W.Frag} : SndC K listC (rListC K) := by
  intro W F R σ H env Q xs vs z S h e p
  match xs, h, e with
  | [.lst ys], h, e =>
    cases e
    obtain ⟨v, rfl, a, us, rfl, s, r⟩ := vw1 h
    exact ⟨a, us, rfl, .inl s, fun q hq => post_new S p hq r⟩
  | [.tup ys], h, e =>
    cases e
    obtain ⟨v, rfl, hv⟩ := vw1 h
    cases hv with
    | tup s r => exact ⟨_, _, rfl, .inr (ex_t S.sub s), fun q hq => post_new S p hq r⟩
def tupleC : List D → Option RV
  | [.lst xs] => some (.d (.tup xs))
  | [.tup xs] => some (.d (.tup xs))
  | _ => none
def rTupleC (K : PySem.W.Frag) : List V → Hp → VK → Prop := fun xs H Q => ∃ p ys, xs = [.ref p] ∧ ((SqL K H p ys ∧ ∀ l, H l = none → Q (.ref l) (upd H l (.tup ys))) ∨ (SqT K H p ys ∧ Q (.ref p) H))
theorem snd_tuple {K : PySem.W.Frag} : SndC K tupleC (rTupleC K) := by
  intro W F R σ H env Q xs vs z S h e p
  match xs, h, e with
  | [.lst ys], h, e =>
    cases e
    obtain ⟨v, rfl, a, us, rfl, s, r⟩ := vw1 h
    exact ⟨a, us, rfl, .inl ⟨s, fun q hq => post_tup S p hq r⟩⟩
  | [.tup ys], h, e =>
    cases e
    obtain ⟨v, rfl, hv⟩ := vw1 h
    cases hv with
    | tup s r => exact ⟨_, _, rfl, .inr ⟨ex_t S.sub s, post_d S p (.tup s r)⟩⟩
def ordC : List D → Option RV
  | [.str [c]] => some (.d (.int c))
  | _ => none
def absC : List D → Option RV
  | [.int i] => some (.d (.int (if i < 0 then -i else i)))
  | _ => none
def minC : List D → Option RV
  | [.int i, .int j] => some (.d (.int (if j < i then j else i)))
  | _ => none
def maxC : List D → Option RV
  | [.int i, .int j] => some (.d (.int (if j > i then j else i)))
  | _ => none
end
end Dw
namespace Dw
noncomputable section
open PySem PySem.Spec PyProof.Rows L2

theorem _root_.L2.PS.wk {X : Cx} {e : Stmt} {t u : TS} (h : PS X e t) (w : ∀ En σ H, u En σ H → t En σ H) : PS X e u := ⟨fun pins s σ H En I q => h.run pins s σ H En I (w En σ H q)⟩
theorem _root_.L2.PSs.wk {X : Cx} {e : List Stmt} {t u : TS} (h : PSs X e t) (w : ∀ En σ H, u En σ H → t En σ H) : PSs X e u := ⟨fun pins s σ H En I q => h.run pins s σ H En I (w En σ H q)⟩

/-! ### statements -/
inductive Out where
  | nx (env : Sl) | rt (a : RV) (env : Sl) | bk (env : Sl) | ct (env : Sl) | ex (e : Xn) (env : Sl)
abbrev SS := Sl → Option Out
section
variable (K : PySem.W.Frag) (W : WX)
def PostS (En : Ends) (F : Hp) (R : Fm) (r : Out) : Prop :=
  match r with
  | .nx env' => ∀ σ' F' H', Ex F F' → Sta K F' R σ' H' env' → En.nx σ' H'
  | .rt a env' => ∀ v σ' F' H', Ex F F' → Sta K F' R σ' H' env' → RvOk K F' R σ' H' env' v a → En.rt v H'
  | .bk env' => ∀ σ' F' H', Ex F F' → Sta K F' R σ' H' env' → En.bk σ' H'
  | .ct env' => ∀ σ' F' H', Ex F F' → Sta K F' R σ' H' env' → En.ct σ' H'
  | .ex e env' => ∀ cls d σ' F' H', Ex F F' → Sta K F' R σ' H' env' → XnAt K F' H' e cls d → W cls d σ' H'
def dS (f : SS) : TS := fun En σ H => ∃ env F R r, Sta K F R σ H env ∧ f env = some r ∧ PostS K W En F R r
end
def bindS (x : Option Re) (k : RV → SS) : Option Out :=
  match x with
  | some (.ok a env) => k a env
  | some (.ex e env) => some (.ex e env)
  | none => none
@[simp] theorem bindS_ok {a : RV} {env : Sl} {k : RV → SS} : bindS (some (.ok a env)) k = k a env := rfl
@[simp] theorem bindS_ex {e : Xn} {env : Sl} {k : RV → SS} : bindS (some (.ex e env)) k = some (.ex e env) := rfl
@[simp] theorem bindS_none {k : RV → SS} : bindS none k = none := rfl
theorem bindS_inv {x : Option Re} {k : RV → SS} {r : Out} (h : bindS x k = some r) : (∃ a env1, x = some (.ok a env1) ∧ k a env1 = some r) ∨ ∃ e env1, x = some (.ex e env1) ∧ r = .ex e env1 := by
  cases x with
  | none => cases h
  | some q =>
    cases q with
    | ok a env1 => exact .inl ⟨a, env1, rfl, h⟩
    | ex e env1 => exact .inr ⟨e, env1, rfl, (Option.some.inj h).symm⟩
def skipS : SS := fun env => some (.nx env)
def seqS (f g : SS) : SS := fun env => match f env with
  | some (.nx env1) => g env1
  | o => o
/-- a free slot: it may be written -/
def freeSlot : Option SV → Bool
  | some (.own true _) => false
  | some _ => true
  | none => false
def setSlot (i : Nat) (s : SV) (env : Sl) : Option Sl := if freeSlot env[i]? then some (env.set i s) else none
/-- what a name holds behind a store -/
def storeR (i : Nat) (a : RV) : Sl → Option Sl := fun env => match a with
  | .d x => setSlot i (.d x) env
  | .own c => setSlot i (.own false c) env
  | .cv j => (frz (.cv j) env).bind fun p => setSlot i (.d p.1) p.2
def asgS (i : Nat) (fe : SE) : SS := fun env => bindS (fe env) fun a env1 => (storeR i a env1).map .nx
def exprS (fe : SE) : SS := fun env => bindS (fe env) fun _ env1 => some (.nx env1)
def retS (fe : SE) : SS := fun env => bindS (fe env) fun a env1 => some (.rt a env1)
def retNS : SS := fun env => some (.rt (.d .non) env)
def iteS (fc : SE) (f g : SS) : SS := fun env => bindS (fc env) fun c env1 => match tru c env1 with
  | some true => f env1
  | some false => g env1
  | none => none
def breakS : SS := fun env => some (.bk env)
def contS : SS := fun env => some (.ct env)
def neverS : SS := fun _ => none
section
variable {K : PySem.W.Frag} {W : WX} {F F' : Hp} {R R' : Fm} {σ : L2.St} {H H' : Hp} {env env' : Sl} {En : Ends}
theorem PostS.up (e : Ex F F') : ∀ {r : Out}, PostS K W En F R r → PostS K W En F' R r
  | .nx _, h => fun σ F2 H2 e2 s => h σ F2 H2 (e.trans e2) s
  | .rt _ _, h => fun v σ F2 H2 e2 s q => h v σ F2 H2 (e.trans e2) s q
  | .bk _, h => fun σ F2 H2 e2 s => h σ F2 H2 (e.trans e2) s
  | .ct _, h => fun σ F2 H2 e2 s => h σ F2 H2 (e.trans e2) s
  | .ex _ _, h => fun c d σ F2 H2 e2 s q => h c d σ F2 H2 (e.trans e2) s q
theorem dS_seq {f g : SS} (h : dS K W (seqS f g) En σ H) : tSeq (dS K W f) (dS K W g) En σ H := by
  obtain ⟨env, F, R, r, S, e, p⟩ := h
  have e : (match f env with | some (.nx env1) => g env1 | o => o) = some r := e
  cases h1 : f env with
  | none => rw [h1] at e; cases e
  | some o =>
    rw [h1] at e
    cases o with
    | nx env1 => exact ⟨env, F, R, _, S, h1, fun σ1 F1 H1 e1 S1 => ⟨env1, F1, R, r, S1, e, p.up e1⟩⟩
    | _ => cases e; exact ⟨env, F, R, _, S, h1, p⟩
/-- a slot is written with data -/
theorem Sta.setD {i : Nat} {x : D} {v : V} (S : Sta K F R σ H env) (hf : freeSlot env[i]? = true) (r : Rel K F v x) : Sta K F R (σ.set i (some v)) H (env.set i (.d x)) := by
  have hl : i < env.length := by
    cases h : env[i]? with
    | none => rw [h] at hf; cases hf
    | some s => exact (List.getElem?_eq_some_iff.mp h).1
  have hl' : i < σ.length := by rw [S.len]; exact hl
  have other : ∀ {j : Nat} {b : Bool} {c : C}, (env.set i (.d x))[j]? = some (SV.own b c) → j ≠ i ∧ env[j]? = some (SV.own b c) := fun {j b c} h => by
    by_cases hj : j = i
    · subst hj; rw [List.getElem?_set_self hl] at h; cases h
    · rw [List.getElem?_set_ne (Ne.symm hj)] at h; exact ⟨hj, h⟩
  refine ⟨S.sub, S.fr, S.dis, by rw [List.length_set, List.length_set]; exact S.len, fun j y e => ?_, fun j b c e => ?_, fun j c e => ?_, fun j k bj cj bk ck q h1 h2 h3 h4 => ?_⟩
  · by_cases hj : j = i
    · subst hj
      rw [List.getElem?_set_self hl] at e
      cases e
      exact ⟨v, by rw [List.getElem?_set_self hl'], r⟩
    · rw [List.getElem?_set_ne (Ne.symm hj)] at e ⊢
      exact S.dat j y e
  · obtain ⟨hj, e⟩ := other e
    rw [List.getElem?_set_ne (Ne.symm hj)]
    exact S.own j b c e
  · obtain ⟨hj, e⟩ := other e
    rw [List.getElem?_set_ne (Ne.symm hj)]
    exact S.tag j c e
  · obtain ⟨hj, h1⟩ := other h1
    obtain ⟨hk, h2⟩ := other h2
    rw [List.getElem?_set_ne (Ne.symm hj)] at h3
    rw [List.getElem?_set_ne (Ne.symm hk)] at h4
    exact S.inj j k bj cj bk ck q h1 h2 h3 h4
/-- .. with a thing of one's own -/
theorem Sta.setO {i : Nat} {c : C} {p : Addr} {o : HO} (S : Sta K F R σ H env) (hf : freeSlot env[i]? = true) (hF : F p = none) (hR : R.r p = none) (hp : H p = some o) (hc : CellOk K F o c) (hs : ∀ (j : Nat) b c', env[j]? = some (SV.own b c') → σ[j]? ≠ some (some (V.ref p))) :
    Sta K F R (σ.set i (some (.ref p))) H (env.set i (.own false c)) := by
  have hl : i < env.length := by
    cases h : env[i]? with
    | none => rw [h] at hf; cases hf
    | some s => exact (List.getElem?_eq_some_iff.mp h).1
  have hl' : i < σ.length := by rw [S.len]; exact hl
  refine ⟨S.sub, S.fr, S.dis, by rw [List.length_set, List.length_set]; exact S.len, fun j y e => ?_, fun j b c' e => ?_, fun j c' e => ?_, fun j k bj cj bk ck q h1 h2 h3 h4 => ?_⟩
  · by_cases hj : j = i
    · subst hj
      rw [List.getElem?_set_self hl] at e
      cases e
    · rw [List.getElem?_set_ne (Ne.symm hj)] at e ⊢
      exact S.dat j y e
  · by_cases hj : j = i
    · subst hj
      rw [List.getElem?_set_self hl] at e
      cases e
      exact ⟨p, o, by rw [List.getElem?_set_self hl'], hF, hR, hp, hc⟩
    · rw [List.getElem?_set_ne (Ne.symm hj)] at e ⊢
      exact S.own j b c' e
  · by_cases hj : j = i
    · subst hj
      rw [List.getElem?_set_self hl] at e
      cases e
    · rw [List.getElem?_set_ne (Ne.symm hj)] at e ⊢
      exact S.tag j c' e
  · by_cases hj : j = i
    · by_cases hk : k = i
      · rw [hj, hk]
      · subst hj
        rw [List.getElem?_set_self hl'] at h3
        cases h3
        rw [List.getElem?_set_ne (Ne.symm hk)] at h2 h4
        exact absurd h4 (hs k bk ck h2)
    · by_cases hk : k = i
      · subst hk
        rw [List.getElem?_set_self hl'] at h4
        cases h4
        rw [List.getElem?_set_ne (Ne.symm hj)] at h1 h3
        exact absurd h3 (hs j bj cj h1)
      · rw [List.getElem?_set_ne (Ne.symm hj)] at h1 h3
        rw [List.getElem?_set_ne (Ne.symm hk)] at h2 h4
        exact S.inj j k bj cj bk ck q h1 h2 h3 h4
theorem setSlot_inv {i : Nat} {s : SV} (h : setSlot i s env = some env') : freeSlot env[i]? = true ∧ env' = env.set i s := by
  obtain ⟨c, e⟩ := some_if h
  exact ⟨c, e.symm⟩
theorem storeR_ok {i : Nat} {a : RV} {v : V} (S : Sta K F R σ H env) (h : RvOk K F R σ H env v a) (e : storeR i a env = some env') : ∃ F', Ex F F' ∧ Sta K F' R (σ.set i (some v)) H env' := by
  cases a with
  | d x =>
    obtain ⟨c, rfl⟩ := setSlot_inv e
    exact ⟨F, Ex.refl F, S.setD c h⟩
  | own c =>
    obtain ⟨cf, rfl⟩ := setSlot_inv e
    obtain ⟨p, o, rfl, hF, hR, hp, hc, hs⟩ := h
    exact ⟨F, Ex.refl F, S.setO cf hF hR hp hc hs⟩
  | cv j =>
    have e : ((frz (.cv j) env).bind fun p => setSlot i (.d p.1) p.2) = some env' := e
    rw [Option.bind_eq_some_iff] at e
    obtain ⟨⟨x, env1⟩, h1, e⟩ := e
    obtain ⟨F', e1, S', r⟩ := frz_ok S h h1
    obtain ⟨c, rfl⟩ := setSlot_inv e
    exact ⟨F', e1, S'.setD c r⟩
theorem dS_bind {f : SE} {k : RV → SS} {Q1 : VK} (h : dS K W (fun env => bindS (f env) k) En σ H)
    (hk : ∀ a env F R v H', Sta K F R σ H' env → RvOk K F R σ H' env v a → (∃ r, k a env = some r ∧ PostS K W En F R r) → Q1 v H') : dE K W f σ H Q1 := by
  obtain ⟨env, F, R, r, S, e, p⟩ := h
  rcases bindS_inv e with ⟨a, env1, h1, h2⟩ | ⟨x, env1, h1, rfl⟩
  · exact ⟨env, F, R, _, S, h1, fun v F1 H1 e1 S1 rv => hk a env1 F1 R v H1 S1 rv ⟨r, h2, p.up e1⟩⟩
  · exact ⟨env, F, R, _, S, h1, fun cls d F' H' e1 S1 hx => p cls d σ F' H' e1 S1 hx⟩
theorem dS_asg {i : Nat} {fe : SE} (h : dS K W (asgS i fe) En σ H) : tAsg (dE K W fe) (gName i) En σ H :=
  dS_bind (k := fun a env1 => (storeR i a env1).map .nx) h fun a env F R v H' S rv q => by
    obtain ⟨r, e, p⟩ := q
    have e : (storeR i a env).map Out.nx = some r := e
    rw [Option.map_eq_some_iff] at e
    obtain ⟨env', h1, rfl⟩ := e
    obtain ⟨F', e1, S'⟩ := storeR_ok S rv h1
    exact p _ F' H' e1 S'
theorem dS_expr {fe : SE} (h : dS K W (exprS fe) En σ H) : tDrop (dE K W fe) En σ H :=
  dS_bind (k := fun _ env1 => some (.nx env1)) h fun a env F R v H' S rv q => by
    obtain ⟨r, e, p⟩ := q
    cases e
    exact p σ F H' (Ex.refl F) S
theorem dS_ret {fe : SE} (h : dS K W (retS fe) En σ H) : tRet (dE K W fe) En σ H :=
  dS_bind (k := fun a env1 => some (.rt a env1)) h fun a env F R v H' S rv q => by
    obtain ⟨r, e, p⟩ := q
    cases e
    exact p v σ F H' (Ex.refl F) S rv
theorem dS_if {fc : SE} {f g : SS} (h : dS K W (iteS fc f g) En σ H) : tIfS (dT K W fc) (dS K W f) (dS K W g) En σ H := by
  obtain ⟨env, F, R, r, S, e, p⟩ := h
  rcases bindS_inv e with ⟨a, env1, h1, h2⟩ | ⟨x, env1, h1, rfl⟩
  · refine ⟨env, F, R, _, S, h1, ?_⟩
    cases ht : tru a env1 with
    | none => rw [ht] at h2; cases h2
    | some b =>
      rw [ht] at h2
      refine ⟨b, ht, fun F1 H1 e1 S1 => ?_⟩
      cases b with
      | true => exact iteT ⟨env1, F1, R, r, S1, h2, p.up e1⟩
      | false => exact iteF ⟨env1, F1, R, r, S1, h2, p.up e1⟩
  · exact ⟨env, F, R, _, S, h1, fun cls d F' H' e1 S1 hx => p cls d σ F' H' e1 S1 hx⟩
end
section
variable {X : Cx} {W : WX} {e : Expr} {st : Stmt} {rest : List Stmt} {fe fc : SE} {f g : SS} {pos : Pos}
theorem pss_dnil : PSs X [] (dS X.K W skipS) := pss_nil.wk fun En σ H q => by
  obtain ⟨env, F, R, r, S, e, p⟩ := q
  cases e
  exact p σ F H (Ex.refl F) S
theorem pss_dcons (h1 : PS X st (dS X.K W f)) (h2 : PSs X rest (dS X.K W g)) : PSs X (st :: rest) (dS X.K W (seqS f g)) := (pss_cons h1 h2).wk fun _ _ _ q => dS_seq q
theorem pss_done (h1 : PS X st (dS X.K W f)) : PSs X [st] (dS X.K W f) := pss_one h1
theorem ps_dset {i : Nat} {x : Str} {pos' : Pos} (hN : X.N.Nodup) (hi : X.N[i]? = some x) (hx : Loc X.env.scope x) (he : PE X e (dE X.K W fe)) (hs : swapsWith e (some (.Name x pos')) pos.line X.env = pure false := by rfl) (hf : X.fn x = true ∨ X.env.scope.names.lookup x = some .local := by first | exact .inl rfl | exact .inr rfl | assumption) :
    PS X (.Assign [.Name x pos'] e pos) (dS X.K W (asgS i fe)) := (ps_set hN hi hx he hs hf).wk fun _ _ _ q => dS_asg q
theorem ps_dexpr (he : PE X e (dE X.K W fe)) (hs : swapsWith e none pos.line X.env = pure false := by rfl) : PS X (.Expr e pos) (dS X.K W (exprS fe)) := (ps_expr he hs).wk fun _ _ _ q => dS_expr q
theorem ps_dret (he : PE X e (dE X.K W fe)) : PS X (.Return (some e) pos) (dS X.K W (retS fe)) := (ps_ret he).wk fun _ _ _ q => dS_ret q
theorem ps_dretN : PS X (.Return none pos) (dS X.K W retNS) := ps_retN.wk fun En σ H q => by
  obtain ⟨env, F, R, r, S, e, p⟩ := q
  cases e
  exact p .non σ F H (Ex.refl F) S .non
theorem ps_dif {c : Expr} {a b : List Stmt} (hc : PT X c (dT X.K W fc)) (ha : PSs X a (dS X.K W f)) (hb : PSs X b (dS X.K W g)) : PS X (.If c a b pos) (dS X.K W (iteS fc f g)) := (ps_if hc ha hb).wk fun _ _ _ q => dS_if q
theorem ps_dpass : PS X (.Pass pos) (dS X.K W skipS) := ps_pass.wk fun En σ H q => by
  obtain ⟨env, F, R, r, S, e, p⟩ := q
  cases e
  exact p σ F H (Ex.refl F) S
theorem ps_dbreak : PS X (.Break pos) (dS X.K W breakS) := ps_break.wk fun En σ H q => by
  obtain ⟨env, F, R, r, S, e, p⟩ := q
  cases e
  exact p σ F H (Ex.refl F) S
theorem ps_dcont : PS X (.Continue pos) (dS X.K W contS) := ps_continue.wk fun En σ H q => by
  obtain ⟨env, F, R, r, S, e, p⟩ := q
  cases e
  exact p σ F H (Ex.refl F) S
theorem ps_dnever : PS X st (dS X.K W neverS) := ps_never.wk fun En σ H q => by
  obtain ⟨env, F, R, r, S, e, p⟩ := q
  cases e
end

/-! ### what is walked -/
inductive ReI where
  | ok (xs : List D) (env : Sl) | ex (e : Xn) (env : Sl)
abbrev SI := Sl → Option ReI
/-- it walks xs while the frozen things stand -/
structure Wk (K : PySem.W.Frag) (F : Hp) (J : It) (xs : List D) : Prop where
  goes : ∀ i H, i < xs.length → Ex F H → J.go i H
  stops : ∀ H, Ex F H → J.stop xs.length H
  yields : ∀ {F' : Hp} {R : Fm} {σ : L2.St} {env : Sl} i H v H' x, xs[i]? = some x → Ex F F' → Sta K F' R σ H env → J.yld i H v H' → ∃ F2, Ex F' F2 ∧ Sta K F2 R σ H' env ∧ Rel K F2 v x ∧ Ex H H'
section
variable (K : PySem.W.Frag) (W : WX)
def PostI (F : Hp) (R : Fm) (σ : L2.St) (r : ReI) (Q : It → Hp → Prop) : Prop :=
  match r with
  | .ok xs env' => ∀ J F' H', Ex F F' → Sta K F' R σ H' env' → Wk K F' J xs → Q J H'
  | .ex e env' => ∀ cls d F' H', Ex F F' → Sta K F' R σ H' env' → XnAt K F' H' e cls d → W cls d σ H'
def dI (f : SI) : TI := fun σ H Q => ∃ env F R r, Sta K F R σ H env ∧ f env = some r ∧ PostI K W F R σ r Q
end
/-- where an item goes: a name, or two names -/
inductive Tg where
  | nm (i : Nat) | two (i j : Nat)
def putT : Tg → D → Sl → Option Sl
  | .nm i, x, env => setSlot i (.d x) env
  | .two i j, .tup [x, y], env => (setSlot i (.d x) env).bind (setSlot j (.d y))
  | _, _, _ => none
def gT (K : PySem.W.Frag) : Tg → TG
  | .nm i => gName i
  | .two i j => gTup K 2 (gCons (gName i) (gCons (gName j) gNil))
def loopD (tg : Tg) (body : SS) : List D → SS
  | [], env => some (.nx env)
  | x :: xs, env => (putT tg x env).bind fun env1 => match body env1 with
    | some (.nx e2) => loopD tg body xs e2
    | some (.ct e2) => loopD tg body xs e2
    | some (.bk e2) => some (.nx e2)
    | o => o
def forS (fi : SI) (tg : Tg) (body : SS) : SS := fun env => match fi env with
  | some (.ok xs env1) => loopD tg body xs env1
  | some (.ex e env1) => some (.ex e env1)
  | none => none
section
variable {K : PySem.W.Frag} {W : WX} {F F' : Hp} {R R' : Fm} {σ : L2.St} {H H' : Hp} {env env' : Sl} {En : Ends}
theorem putT_ok {tg : Tg} {x : D} {v : V} {Q : L2.St → Hp → Prop} (S : Sta K F R σ H env) (r : Rel K F v x) (e : putT tg x env = some env') (q : ∀ σ', Sta K F R σ' H env' → Q σ' H) : gT K tg v σ H Q := by
  cases tg with
  | nm i =>
    obtain ⟨c, rfl⟩ := setSlot_inv e
    exact q _ (S.setD c r)
  | two i j =>
    match x, e, r with
    | .tup [x, y], e, r =>
      have e : ((setSlot i (.d x) env).bind (setSlot j (.d y))) = some env' := e
      rw [Option.bind_eq_some_iff] at e
      obtain ⟨env1, h1, h2⟩ := e
      obtain ⟨c1, rfl⟩ := setSlot_inv h1
      obtain ⟨c2, rfl⟩ := setSlot_inv h2
      cases r with
      | tup s rr =>
        cases rr with
        | cons r1 rr =>
          cases rr with
          | cons r2 rr =>
            cases rr
            exact ⟨_, _, rfl, ex_t S.sub s, rfl, _, _, rfl, _, _, rfl, rfl, q _ ((S.setD c1 r1).setD c2 r2)⟩
theorem dS_for {fi : SI} {tg : Tg} {body : SS} (h : dS K W (forS fi tg body) En σ H) : tFor (dI K W fi) (gT K tg) (dS K W body) En σ H := by
  obtain ⟨env, F, R, r, S, e, p⟩ := h
  have e : (match fi env with | some (.ok xs env1) => loopD tg body xs env1 | some (.ex e env1) => some (.ex e env1) | none => none) = some r := e
  cases h1 : fi env with
  | none => rw [h1] at e; cases e
  | some q =>
    rw [h1] at e
    cases q with
    | ex x env1 =>
      cases e
      exact ⟨env, F, R, _, S, h1, fun cls d F' H' e1 S1 hx => p cls d σ F' H' e1 S1 hx⟩
    | ok xs env1 =>
      refine ⟨env, F, R, _, S, h1, fun J F1 H1 e1 S1 wk => ?_⟩
      refine ⟨fun i m σ' H' => m = xs.length - i ∧ i ≤ xs.length ∧ ∃ env' F', Ex F1 F' ∧ Sta K F' R σ' H' env' ∧ loopD tg body (xs.drop i) env' = some r, ⟨xs.length, by simp, Nat.zero_le _, env1, F1, Ex.refl _, S1, e⟩, ?_⟩
      rintro i m σ' H' ⟨rfl, hi, env', F', e2, S2, e3⟩
      by_cases hlt : i < xs.length
      · have hx : xs[i]? = some xs[i] := List.getElem?_eq_getElem hlt
        rw [List.drop_eq_getElem_cons hlt] at e3
        have e3 : ((putT tg xs[i] env').bind fun env1 => match body env1 with
          | some (.nx e2) => loopD tg body (xs.drop (i + 1)) e2
          | some (.ct e2) => loopD tg body (xs.drop (i + 1)) e2
          | some (.bk e2) => some (.nx e2)
          | o => o) = some r := e3
        rw [Option.bind_eq_some_iff] at e3
        obtain ⟨env2, h2, e3⟩ := e3
        refine .inr ⟨wk.goes i H' hlt (e2.trans S2.sub), fun σ2 H2 => ∃ env2 F2, Ex F1 F2 ∧ Sta K F2 R σ2 H2 env2 ∧ loopD tg body (xs.drop (i + 1)) env2 = some r, fun σ2 H2 ⟨env2, F2, e4, S4, e5⟩ => ⟨xs.length - (i + 1), by omega, rfl, hlt, env2, F2, e4, S4, e5⟩, fun v H3 hy => ?_⟩
        obtain ⟨F3, e4, S3, rv, _⟩ := wk.yields i H' v H3 xs[i] hx e2 S2 hy
        refine putT_ok S3 rv h2 fun σ3 S4 => ?_
        cases hb : body env2 with
        | none => rw [hb] at e3; cases e3
        | some o =>
          rw [hb] at e3
          have e5 : Ex F1 F3 := e2.trans e4
          refine ⟨env2, F3, R, o, S4, hb, ?_⟩
          cases o with
          | nx env3 => exact fun σ4 F4 H4 e6 S5 => ⟨env3, F4, e5.trans e6, S5, e3⟩
          | ct env3 => exact fun σ4 F4 H4 e6 S5 => ⟨env3, F4, e5.trans e6, S5, e3⟩
          | bk env3 => cases e3; exact fun σ4 F4 H4 e6 S5 => p σ4 F4 H4 ((e1.trans e5).trans e6) S5
          | rt a env3 => cases e3; exact fun v σ4 F4 H4 e6 S5 rv => p v σ4 F4 H4 ((e1.trans e5).trans e6) S5 rv
          | ex x env3 => cases e3; exact fun cls d σ4 F4 H4 e6 S5 hx => p cls d σ4 F4 H4 ((e1.trans e5).trans e6) S5 hx
      · have hi' : i = xs.length := by omega
        subst hi'
        rw [List.drop_length] at e3
        cases e3
        exact .inl ⟨wk.stops H' (e2.trans S2.sub), p σ' F' H' (e1.trans e2) S2⟩
end
end
end Dw
namespace Dw
noncomputable section
open PySem PySem.Spec PyProof.Rows L2

theorem _root_.L2.PI.wk {X : Cx} {tg e : Expr} {t u : TI} (h : PI X tg e t) (w : ∀ σ H Q, u σ H Q → t σ H Q) : PI X tg e u := ⟨fun pins s σ H Q I q => h.run pins s σ H Q I (w σ H Q q)⟩
theorem _root_.L2.PI.or {X : Cx} {tg e : Expr} {t u : TI} (h : PI X tg e t) (h' : PI X tg e u) : PI X tg e (fun σ H R => t σ H R ∨ u σ H R) := ⟨fun pins s σ H Q I q => by
  rcases q with q | q
  · exact h.run pins s σ H Q I q
  · exact h'.run pins s σ H Q I q⟩
def bindI (x : Option Re) (k : RV → SI) : Option ReI :=
  match x with
  | some (.ok a env) => k a env
  | some (.ex e env) => some (.ex e env)
  | none => none
@[simp] theorem bindI_ok {a : RV} {env : Sl} {k : RV → SI} : bindI (some (.ok a env)) k = k a env := rfl
@[simp] theorem bindI_ex {e : Xn} {env : Sl} {k : RV → SI} : bindI (some (.ex e env)) k = some (.ex e env) := rfl
@[simp] theorem bindI_none {k : RV → SI} : bindI none k = none := rfl
theorem bindI_inv {x : Option Re} {k : RV → SI} {r : ReI} (h : bindI x k = some r) : (∃ a env1, x = some (.ok a env1) ∧ k a env1 = some r) ∨ ∃ e env1, x = some (.ex e env1) ∧ r = .ex e env1 := by
  cases x with
  | none => cases h
  | some q =>
    cases q with
    | ok a env1 => exact .inl ⟨a, env1, rfl, h⟩
    | ex e env1 => exact .inr ⟨e, env1, rfl, (Option.some.inj h).symm⟩
def itemsD : D → Option (List D)
  | .lst xs => some xs
  | .tup xs => some xs
  | .str x => some (x.map fun c => .str [c])
  | _ => none
def srcE (fe : SE) : SI := fun env => bindI (fe env) fun a env1 => (frz a env1).bind fun p => (itemsD p.1).map fun xs => .ok xs p.2
section
variable {K : PySem.W.Frag} {W : WX} {F F' : Hp} {R R' : Fm} {σ : L2.St} {H H' : Hp} {env env' : Sl}
theorem wk_list {a : Addr} {vs : List V} {xs : List D} (s : SqL K F a vs) (r : RelAll K F vs xs) : Wk K F (Itl K a) xs := by
  have w : Walk (Itl K a) vs.length (fun H => SqL K H a vs) (YAt vs) := walk_list
  refine ⟨fun i H hi e => w.goes i H (by rw [r.len]; exact hi) (ex_l e s), fun H e => by rw [← r.len]; exact w.stops H (ex_l e s), fun {F' R σ env} i H v H' x hx e S y => ?_⟩
  have hi : i < vs.length := by rw [r.len]; exact (List.getElem?_eq_some_iff.mp hx).1
  obtain ⟨e1, e2⟩ := w.yields i H v H' hi (ex_l (e.trans S.sub) s) y
  subst e1
  obtain ⟨d, e3, rv⟩ := r.get e2
  rw [hx] at e3
  cases e3
  exact ⟨F', Ex.refl F', S, rv.up e, Ex.refl _⟩
theorem wk_tup {a : Addr} {vs : List V} {xs : List D} (s : SqT K F a vs) (r : RelAll K F vs xs) : Wk K F (Itt K a) xs := by
  have w : Walk (Itt K a) vs.length (fun H => SqT K H a vs) (YAt vs) := walk_tup
  refine ⟨fun i H hi e => w.goes i H (by rw [r.len]; exact hi) (ex_t e s), fun H e => by rw [← r.len]; exact w.stops H (ex_t e s), fun {F' R σ env} i H v H' x hx e S y => ?_⟩
  have hi : i < vs.length := by rw [r.len]; exact (List.getElem?_eq_some_iff.mp hx).1
  obtain ⟨e1, e2⟩ := w.yields i H v H' hi (ex_t (e.trans S.sub) s) y
  subst e1
  obtain ⟨d, e3, rv⟩ := r.get e2
  rw [hx] at e3
  cases e3
  exact ⟨F', Ex.refl F', S, rv.up e, Ex.refl _⟩
theorem wk_str {x : List Nat} : Wk K F (Its (mk x)) (x.map fun c => .str [c]) := by
  have w : Walk (Its (mk x)) (mk x).cps.size (fun _ => True) (fun i H v H' => H' = H ∧ ∃ c, (mk x).cps[i]? = some c ∧ v = .str ⟨#[c]⟩) := walk_str
  have hs : (mk x).cps.size = x.length := mk_len x
  refine ⟨fun i H hi e => w.goes i H (by rw [hs]; simpa using hi) trivial, fun H e => by rw [List.length_map, ← hs]; exact w.stops H trivial, fun {F' R σ env} i H v H' y hx e S yl => ?_⟩
  have hi : i < x.length := by simpa using (List.getElem?_eq_some_iff.mp hx).1
  obtain ⟨e1, c, e2, e3⟩ := w.yields i H v H' (by rw [hs]; exact hi) trivial yl
  subst e1
  subst e3
  have e4 : x[i]? = some c := by simpa [mk] using e2
  rw [List.getElem?_map, e4] at hx
  cases hx
  exact ⟨F', Ex.refl F', S, .str [c], Ex.refl _⟩
theorem dI_src {fe : SE} {Q : It → Hp → Prop} (h : dI K W (srcE fe) σ H Q) : iList K (dE K W fe) σ H Q ∨ iTup K (dE K W fe) σ H Q ∨ iStr (dE K W fe) σ H Q := by
  obtain ⟨env, F, R, r, S, e, p⟩ := h
  rcases bindI_inv e with ⟨a, env1, h1, h2⟩ | ⟨x, env1, h1, rfl⟩
  · rw [Option.bind_eq_some_iff] at h2
    obtain ⟨⟨x, env2⟩, h3, h4⟩ := h2
    rw [Option.map_eq_some_iff] at h4
    obtain ⟨xs, h5, rfl⟩ := h4
    have key : ∀ {Q1 : VK}, (∀ v F2 H1, Ex F F2 → Sta K F2 R σ H1 env2 → Rel K F2 v x → Q1 v H1) → dE K W fe σ H Q1 := fun {Q1} k =>
      ⟨env, F, R, _, S, h1, fun v F1 H1 e1 S1 rv => by
        obtain ⟨F2, e2, S2, r2⟩ := frz_ok S1 rv h3
        exact k v F2 H1 (e1.trans e2) S2 r2⟩
    cases x with
    | lst ys =>
      cases h5
      exact .inl (key fun v F2 H1 e2 S2 r2 => by
        cases r2 with
        | lst s rr => exact ⟨_, rfl, ⟨_, ex_l S2.sub s⟩, p _ F2 H1 e2 S2 (wk_list s rr)⟩)
    | tup ys =>
      cases h5
      exact .inr (.inl (key fun v F2 H1 e2 S2 r2 => by
        cases r2 with
        | tup s rr => exact ⟨_, rfl, ⟨_, ex_t S2.sub s⟩, p _ F2 H1 e2 S2 (wk_tup s rr)⟩))
    | str y =>
      cases h5
      exact .inr (.inr (key fun v F2 H1 e2 S2 r2 => by
        cases r2
        exact ⟨mk y, rfl, p _ F2 H1 e2 S2 wk_str⟩))
    | _ => cases h5
  · exact .inl ⟨env, F, R, _, S, h1, p⟩
/-! range -/
def bindAI (x : Option ReA) (k : List RV → SI) : Option ReI :=
  match x with
  | some (.ok as env) => k as env
  | some (.ex e env) => some (.ex e env)
  | none => none
@[simp] theorem bindAI_ok {a : List RV} {env : Sl} {k : List RV → SI} : bindAI (some (.ok a env)) k = k a env := rfl
@[simp] theorem bindAI_ex {e : Xn} {env : Sl} {k : List RV → SI} : bindAI (some (.ex e env)) k = some (.ex e env) := rfl
@[simp] theorem bindAI_none {k : List RV → SI} : bindAI none k = none := rfl
theorem bindAI_inv {x : Option ReA} {k : List RV → SI} {r : ReI} (h : bindAI x k = some r) : (∃ a env1, x = some (.ok a env1) ∧ k a env1 = some r) ∨ ∃ e env1, x = some (.ex e env1) ∧ r = .ex e env1 := by
  cases x with
  | none => cases h
  | some q =>
    cases q with
    | ok a env1 => exact .inl ⟨a, env1, rfl, h⟩
    | ex e env1 => exact .inr ⟨e, env1, rfl, (Option.some.inj h).symm⟩
def rng1 : List D → Option (List D)
  | [.int n] => if okP (-(2 ^ 62) ≤ n ∧ n < 2 ^ 62) then some ((List.range n.toNat).map fun i => .int (i : Nat)) else none
  | _ => none
def rng2 : List D → Option (List D)
  | [.int m, .int n] => if okP (((-(2 ^ 62) ≤ m ∧ m < 2 ^ 62) ∧ -(2 ^ 62) ≤ n) ∧ n < 2 ^ 62) then some ((List.range (n - m).toNat).map fun i => .int (m + (i : Nat))) else none
  | _ => none
def argsI (g : List D → Option (List D)) (fa : SA) : SI := fun env => bindAI (fa env) fun as env1 => (pks as env1).bind fun xs => (g xs).map fun ys => .ok ys env1
theorem wk_range {lo : Int} {n : Nat} : Wk K F (Itr lo n) ((List.range n).map fun i => .int (lo + (i : Nat))) := by
  have w : Walk (Itr lo n) n (fun _ => True) (YFn fun i => .int (lo + i)) := walk_range
  refine ⟨fun i H hi e => w.goes i H (by simpa using hi) trivial, fun H e => by simpa using w.stops H trivial, fun {F' R σ env} i H v H' y hx e S yl => ?_⟩
  have hi : i < n := by simpa using (List.getElem?_eq_some_iff.mp hx).1
  obtain ⟨e1, e2⟩ := w.yields i H v H' hi trivial yl
  subst e1
  subst e2
  rw [List.getElem?_map, List.getElem?_range hi] at hx
  cases hx
  exact ⟨F', Ex.refl F', S, .int _, Ex.refl _⟩
theorem dI_range1 {fa : SA} {Q : It → Hp → Prop} (h : dI K W (argsI rng1 fa) σ H Q) : iRng1 (dA K W fa) σ H Q := by
  obtain ⟨env, F, R, r, S, e, p⟩ := h
  rcases bindAI_inv e with ⟨as, env1, h1, h2⟩ | ⟨x, env1, h1, rfl⟩
  · rw [Option.bind_eq_some_iff] at h2
    obtain ⟨xs, h3, h4⟩ := h2
    rw [Option.map_eq_some_iff] at h4
    obtain ⟨ys, h5, rfl⟩ := h4
    match xs, h3, h5 with
    | [.int n], h3, h5 =>
      obtain ⟨c, rfl⟩ := some_if h5
      rw [okP_iff] at c
      refine ⟨env, F, R, _, S, h1, fun vs F1 H1 R1 e1 eR S1 hv => ?_⟩
      obtain ⟨v, rfl, hv'⟩ := vw1 (pks_vw eR S1 hv h3)
      cases hv'
      refine ⟨n, rfl, c.1, c.2, p _ F1 H1 e1 (S1.unhold eR) ?_⟩
      have := wk_range (K := K) (F := F1) (lo := 0) (n := n.toNat)
      simpa using this
  · exact ⟨env, F, R, _, S, h1, p⟩
theorem dI_range2 {fa : SA} {Q : It → Hp → Prop} (h : dI K W (argsI rng2 fa) σ H Q) : iRng2 (dA K W fa) σ H Q := by
  obtain ⟨env, F, R, r, S, e, p⟩ := h
  rcases bindAI_inv e with ⟨as, env1, h1, h2⟩ | ⟨x, env1, h1, rfl⟩
  · rw [Option.bind_eq_some_iff] at h2
    obtain ⟨xs, h3, h4⟩ := h2
    rw [Option.map_eq_some_iff] at h4
    obtain ⟨ys, h5, rfl⟩ := h4
    match xs, h3, h5 with
    | [.int m, .int n], h3, h5 =>
      obtain ⟨c, rfl⟩ := some_if h5
      rw [okP_iff] at c
      refine ⟨env, F, R, _, S, h1, fun vs F1 H1 R1 e1 eR S1 hv => ?_⟩
      obtain ⟨v, w, rfl, hv', hw'⟩ := vw2 (pks_vw eR S1 hv h3)
      cases hv'
      cases hw'
      exact ⟨m, n, rfl, ⟨c.1.1.1, c.1.1.2, c.1.2, c.2⟩, p _ F1 H1 e1 (S1.unhold eR) wk_range⟩
  · exact ⟨env, F, R, _, S, h1, p⟩
end
section
variable {X : Cx} {W : WX} {tg e : Expr} {fe : SE} {fa : SA} {body : List Stmt} {f : SS} {pos : Pos}
theorem pi_dsrc (h : PE X e (dE X.K W fe)) : PI X tg e (dI X.K W (srcE fe)) := ((pi_list h).or ((pi_tup h).or (pi_str h))).wk fun _ _ _ q => dI_src q
theorem pi_drange1 {a : Expr} {p : Pos} (hm : X.mg "range" = none) (ha : PA X [a] (dA X.K W fa)) (hg : Gl X "range" := by rfl) (hs : starEach [a] X.env = [(false, eval a X.env)] := by rfl) : PI X tg (.Call (.Name "range" p) [a] [] pos) (dI X.K W (argsI rng1 fa)) :=
  (pi_range1 hg hm ha hs).wk fun _ _ _ q => dI_range1 q
theorem pi_drange2 {a b : Expr} {p : Pos} (hm : X.mg "range" = none) (ha : PA X [a, b] (dA X.K W fa)) (hg : Gl X "range" := by rfl) (hs : starEach [a, b] X.env = [(false, eval a X.env), (false, eval b X.env)] := by rfl) (hs2 : starEach [b] X.env = [(false, eval b X.env)] := by rfl) :
    PI X tg (.Call (.Name "range" p) [a, b] [] pos) (dI X.K W (argsI rng2 fa)) := (pi_range2 hg hm ha hs hs2).wk fun _ _ _ q => dI_range2 q
/-! for -/
theorem ps_dfor {t : Tg} {iter : Expr} {fi : SI} (hp : PassesOwn (model X.prog X.w) X.A X.env X.xe) (hc : X.calm = true) (hi : PI X tg iter (dI X.K W fi)) (hg : PG X tg (gT X.K t)) (hb : PSs X body (dS X.K W f))
    (hs : ∀ x, foldedSetIterable iter X.env x = pure x := by intro _; rfl) : PS X (.For tg iter body [] pos) (dS X.K W (forS fi t f)) := (ps_for hp hc hi hg hb hs).wk fun _ _ _ q => dS_for q
theorem pg_dnm {i : Nat} {x : Str} {p : Pos} (hN : X.N.Nodup) (hi : X.N[i]? = some x) (hx : Loc X.env.scope x) (hf : X.fn x = true ∨ X.env.scope.names.lookup x = some .local := by first | exact .inl rfl | exact .inr rfl | assumption) : PG X (.Name x p) (gT X.K (.nm i)) := pg_name hN hi hx hf
theorem pg_dtwo {i j : Nat} {x y : Str} {p1 p2 p3 : Pos} {k : Nat} (hN : X.N.Nodup) (hc : X.calm = true) (hi : X.N[i]? = some x) (hx : Loc X.env.scope x) (hj : X.N[j]? = some y) (hy : Loc X.env.scope y)
    (hf : X.fn x = true ∨ X.env.scope.names.lookup x = some .local := by first | exact .inl rfl | exact .inr rfl | assumption) (hf2 : X.fn y = true ∨ X.env.scope.names.lookup y = some .local := by first | exact .inl rfl | exact .inr rfl | assumption)
    (hs1 : (assignEach [.Name x p1, .Name y p2] X.env).map (·.2) = assign (.Name x p1) X.env :: (assignEach [.Name y p2] X.env).map (·.2) := by rfl)
    (hs2 : (assignEach [.Name y p2] X.env).map (·.2) = assign (.Name y p2) X.env :: (assignEach [] X.env).map (·.2) := by rfl)
    (hn : (assignEach [.Name x p1, .Name y p2] X.env).length = 2 := by rfl) (hst : (assignEach [.Name x p1, .Name y p2] X.env).findIdx? (·.1) = none := by rfl) : PG X (.Tuple [.Name x p1, .Name y p2] k p3) (gT X.K (.two i j)) :=
  pg_tup hc (pgs_cons (pg_name hN hi hx hf) (pgs_cons (pg_name hN hj hy hf2) pgs_nil hs2) hs1) hn hst
end

/-! ### comprehensions -/
abbrev W0 : WX := fun _ _ _ _ => False
/-- the block's own names are empty ahead of each turn -/
def clr : List Nat → Sl → Sl
  | [], env => env
  | i :: is, env => (clr is env).set i .un
def keepD : Option SV → SV
  | some (.d x) => .d x
  | _ => .un
/-- .. and behind it what stood there before -/
def rst : List Nat → Sl → Sl → Sl
  | [], _, env' => env'
  | i :: is, env, env' => (rst is env env').set i (keepD env[i]?)
def bindTD (ft : Option SE) (env : Sl) (k : Bool → Sl → Option (List D × Sl)) : Option (List D × Sl) :=
  match ft with
  | none => k true env
  | some f => match f env with
    | some (.ok a env2) => (tru a env2).bind fun b => k b env2
    | _ => none
def eltD (fe : SE) (env : Sl) : Option (D × Sl) := match fe env with
  | some (.ok a env3) => frz a env3
  | _ => none
def compD (vs : List Nat) (tg : Tg) (ft : Option SE) (fe : SE) : List D → List D → Sl → Option (List D × Sl)
  | [], acc, env => some (acc, env)
  | x :: xs, acc, env => (putT tg x env).bind fun env1 => bindTD ft env1 fun b env2 => match b with
    | true => (eltD fe env2).bind fun p => if acc.length < 100000 then compD vs tg ft fe xs (acc ++ [p.1]) (clr vs p.2) else none
    | false => compD vs tg ft fe xs acc (clr vs env2)
def compE (vs : List Nat) (fi : SI) (tg : Tg) (ft : Option SE) (fe : SE) : SE := fun env => match fi env with
  | some (.ok xs env1) => (compD vs tg ft fe xs [] (clr vs env1)).map fun p => .ok (.own (.lst p.1)) (rst vs env1 p.2)
  | some (.ex e env1) => some (.ex e env1)
  | none => none
def Tg.sub (vs : List Nat) : Tg → Bool
  | .nm i => vs.contains i
  | .two i j => vs.contains i && vs.contains j
section
theorem clr_get : ∀ (vs : List Nat) (env : Sl) (k : Nat), k ∉ vs → (clr vs env)[k]? = env[k]?
  | [], _, _, _ => rfl
  | i :: is, env, k, h => by
    rw [List.mem_cons, not_or] at h
    unfold clr
    rw [List.getElem?_set_ne (Ne.symm h.1)]
    exact clr_get is env k h.2
theorem clr_len : ∀ (vs : List Nat) (env : Sl), (clr vs env).length = env.length
  | [], _ => rfl
  | i :: is, env => by unfold clr; rw [List.length_set, clr_len is env]
theorem clr_in : ∀ (vs : List Nat) (env : Sl) (k : Nat) (s : SV), k ∈ vs → (clr vs env)[k]? = some s → s = .un
  | i :: is, env, k, s, h, e => by
    unfold clr at e
    by_cases hk : k = i
    · subst hk
      by_cases hl : k < (clr is env).length
      · rw [List.getElem?_set_self hl] at e
        cases e
        rfl
      · rw [List.getElem?_eq_none (by rw [List.length_set]; omega)] at e
        cases e
    · rw [List.getElem?_set_ne (Ne.symm hk)] at e
      rcases List.mem_cons.mp h with h | h
      · exact absurd h hk
      · exact clr_in is env k s h e
theorem rst_get : ∀ (vs : List Nat) (env env' : Sl) (k : Nat), k ∉ vs → (rst vs env env')[k]? = env'[k]?
  | [], _, _, _, _ => rfl
  | i :: is, env, env', k, h => by
    rw [List.mem_cons, not_or] at h
    unfold rst
    rw [List.getElem?_set_ne (Ne.symm h.1)]
    exact rst_get is env env' k h.2
theorem rst_len : ∀ (vs : List Nat) (env env' : Sl), (rst vs env env').length = env'.length
  | [], _, _ => rfl
  | i :: is, env, env' => by unfold rst; rw [List.length_set, rst_len is env env']
theorem rst_in : ∀ (vs : List Nat) (env env' : Sl) (k : Nat) (s : SV), k ∈ vs → (rst vs env env')[k]? = some s → s = keepD env[k]?
  | i :: is, env, env', k, s, h, e => by
    unfold rst at e
    by_cases hk : k = i
    · subst hk
      by_cases hl : k < (rst is env env').length
      · rw [List.getElem?_set_self hl] at e
        cases e
        rfl
      · rw [List.getElem?_eq_none (by rw [List.length_set]; omega)] at e
        cases e
    · rw [List.getElem?_set_ne (Ne.symm hk)] at e
      rcases List.mem_cons.mp h with h | h
      · exact absurd h hk
      · exact rst_in is env env' k s h e
theorem wipe_get : ∀ (vs : List Nat) (σ : L2.St) (k : Nat), k ∉ vs → (wipe σ vs)[k]? = σ[k]?
  | [], _, _, _ => rfl
  | i :: is, σ, k, h => by
    rw [List.mem_cons, not_or] at h
    unfold wipe
    rw [List.getElem?_set_ne (Ne.symm h.1)]
    exact wipe_get is σ k h.2
theorem wipe_in : ∀ (vs : List Nat) (σ : L2.St) (k : Nat), k ∈ vs → k < σ.length → (wipe σ vs)[k]? = some none
  | i :: is, σ, k, h, hl => by
    unfold wipe
    by_cases hk : k = i
    · subst hk
      rw [List.getElem?_set_self (by rw [wipe_length]; exact hl)]
    · rw [List.getElem?_set_ne (Ne.symm hk)]
      rcases List.mem_cons.mp h with h | h
      · exact absurd h hk
      · exact wipe_in is σ k h hl
theorem wipe_eq {vs : List Nat} {σ σ' : L2.St} (hl : σ'.length = σ.length) (h : ∀ k, k ∉ vs → σ'[k]? = σ[k]?) : wipe σ' vs = wipe σ vs := by
  apply List.ext_getElem?
  intro k
  by_cases hk : k ∈ vs
  · by_cases hk2 : k < σ.length
    · rw [wipe_in vs σ k hk hk2, wipe_in vs σ' k hk (by omega)]
    · rw [List.getElem?_eq_none (by rw [wipe_length]; omega), List.getElem?_eq_none (by rw [wipe_length]; omega)]
  · rw [wipe_get vs σ' k hk, wipe_get vs σ k hk, h k hk]
variable {K : PySem.W.Frag} {W : WX} {F F' : Hp} {R R' : Fm} {σ : L2.St} {H H' : Hp} {env env' : Sl}
theorem Sta.wipe (vs : List Nat) (S : Sta K F R σ H env) : Sta K F R (L2.wipe σ vs) H (clr vs env) := by
  have un : ∀ {i : Nat} {s : SV}, (clr vs env)[i]? = some s → s ≠ .un → i ∉ vs ∧ env[i]? = some s := fun {i s} h hs => by
    by_cases hi : i ∈ vs
    · exact absurd (clr_in vs env i s hi h) hs
    · rw [clr_get vs env i hi] at h
      exact ⟨hi, h⟩
  refine ⟨S.sub, S.fr, S.dis, by rw [wipe_length, clr_len]; exact S.len, fun i x e => ?_, fun i b c e => ?_, fun i c e => ?_, fun i j bi ci bj cj p h1 h2 h3 h4 => ?_⟩
  · obtain ⟨hi, e⟩ := un e (by simp)
    rw [wipe_get vs σ i hi]
    exact S.dat i x e
  · obtain ⟨hi, e⟩ := un e (by simp)
    rw [wipe_get vs σ i hi]
    exact S.own i b c e
  · obtain ⟨hi, e⟩ := un e (by simp)
    rw [wipe_get vs σ i hi]
    exact S.tag i c e
  · obtain ⟨hi, h1⟩ := un h1 (by simp)
    obtain ⟨hj, h2⟩ := un h2 (by simp)
    rw [wipe_get vs σ i hi] at h3
    rw [wipe_get vs σ j hj] at h4
    exact S.inj i j bi ci bj cj p h1 h2 h3 h4
/-- the block's names cleared once more: any slots that agree outside them -/
theorem Sta.rewipe {σ2 : L2.St} (vs : List Nat) (S : Sta K F R σ2 H env) (h : L2.wipe σ2 vs = L2.wipe σ vs) : Sta K F R (L2.wipe σ vs) H (clr vs env) := by
  rw [← h]
  exact S.wipe vs
theorem Sta.unwipe {vs : List Nat} {F0 : Hp} {R0 : Fm} {H0 : Hp} (S0 : Sta K F0 R0 σ H0 env) (e : Ex F0 F) (S : Sta K F R (L2.wipe σ vs) H env') : Sta K F R σ H (rst vs env env') := by
  have un : ∀ {i : Nat} {s : SV}, (rst vs env env')[i]? = some s → (i ∉ vs ∧ env'[i]? = some s) ∨ (i ∈ vs ∧ s = keepD env[i]?) := fun {i s} h => by
    by_cases hi : i ∈ vs
    · exact .inr ⟨hi, rst_in vs env env' i s hi h⟩
    · rw [rst_get vs env env' i hi] at h
      exact .inl ⟨hi, h⟩
  have kd : ∀ {o : Option SV} {x : D}, keepD o = .d x → o = some (.d x) := fun {o x} h => by
    unfold keepD at h
    split at h
    · cases h; rfl
    · cases h
  have ko : ∀ {o : Option SV} {b : Bool} {c : C}, keepD o ≠ .own b c := fun {o b c} h => by
    unfold keepD at h
    split at h <;> cases h
  refine ⟨S.sub, S.fr, S.dis, by rw [rst_len, ← S.len, wipe_length], fun i x q => ?_, fun i b c q => ?_, fun i c q => ?_, fun i j bi ci bj cj p h1 h2 h3 h4 => ?_⟩
  · rcases un q with ⟨hi, q⟩ | ⟨hi, q⟩
    · have := S.dat i x q
      rw [wipe_get vs σ i hi] at this
      exact this
    · obtain ⟨v, e1, r⟩ := S0.dat i x (kd q.symm)
      exact ⟨v, e1, r.up e⟩
  · rcases un q with ⟨hi, q⟩ | ⟨hi, q⟩
    · have := S.own i b c q
      rw [wipe_get vs σ i hi] at this
      exact this
    · exact absurd q.symm ko
  · rcases un q with ⟨hi, q⟩ | ⟨hi, q⟩
    · have := S.tag i c q
      rw [wipe_get vs σ i hi] at this
      exact this
    · exact absurd q.symm ko
  · rcases un h1 with ⟨hi, h1⟩ | ⟨hi, q⟩
    · rcases un h2 with ⟨hj, h2⟩ | ⟨hj, q⟩
      · exact S.inj i j bi ci bj cj p h1 h2 (by rw [wipe_get vs σ i hi]; exact h3) (by rw [wipe_get vs σ j hj]; exact h4)
      · exact absurd q.symm ko
    · exact absurd q.symm ko
/-- the target is stored within the block's own names -/
theorem putT_in {tg : Tg} {vs : List Nat} {x : D} {v : V} {Q : L2.St → Hp → Prop} (hv : tg.sub vs = true) (S : Sta K F R (L2.wipe σ vs) H env) (r : Rel K F v x) (e : putT tg x env = some env') (q : ∀ σ', Sta K F R σ' H env' → L2.wipe σ' vs = L2.wipe σ vs → Q σ' H) : gT K tg v (L2.wipe σ vs) H Q := by
  have ww : ∀ {i : Nat} {w : Option V} {σ2 : L2.St}, i ∈ vs → L2.wipe σ2 vs = L2.wipe σ vs → L2.wipe (σ2.set i w) vs = L2.wipe σ vs := fun {i w σ2} hi h => by
    rw [← h]
    exact wipe_eq (by rw [List.length_set]) fun k hk => by rw [List.getElem?_set_ne (fun z => hk (by subst z; exact hi))]
  have w0 : L2.wipe (L2.wipe σ vs) vs = L2.wipe σ vs := wipe_eq (wipe_length σ vs) fun k hk => wipe_get vs σ k hk
  cases tg with
  | nm i =>
    obtain ⟨c, rfl⟩ := setSlot_inv e
    exact q _ (S.setD c r) (ww (by simpa [Tg.sub] using hv) w0)
  | two i j =>
    simp only [Tg.sub, Bool.and_eq_true, List.contains_iff_mem] at hv
    match x, e, r with
    | .tup [x, y], e, r =>
      have e : ((setSlot i (.d x) env).bind (setSlot j (.d y))) = some env' := e
      rw [Option.bind_eq_some_iff] at e
      obtain ⟨env1, h1, h2⟩ := e
      obtain ⟨c1, rfl⟩ := setSlot_inv h1
      obtain ⟨c2, rfl⟩ := setSlot_inv h2
      cases r with
      | tup s rr =>
        cases rr with
        | cons r1 rr =>
          cases rr with
          | cons r2 rr =>
            cases rr
            exact ⟨_, _, rfl, ex_t S.sub s, rfl, _, _, rfl, _, _, rfl, rfl, q _ ((S.setD c1 r1).setD c2 r2) (ww hv.2 (ww hv.1 w0))⟩
def tTD (K : PySem.W.Frag) : Option SE → TT
  | none => tYes
  | some f => dT K W0 f
theorem dE_comp {vs : List Nat} {fi : SI} {tg : Tg} {ft : Option SE} {fe : SE} {Q : VK} (hv : tg.sub vs = true) (h : dE K W (compE vs fi tg ft fe) σ H Q) : tLc (dI K W fi) (gT K tg) (tTD K ft) (dE K W0 fe) vs σ H Q := by
  obtain ⟨env, F, R, r, S, e, p⟩ := h
  have e : (match fi env with
    | some (.ok xs env1) => (compD vs tg ft fe xs [] (clr vs env1)).map fun p => Re.ok (.own (.lst p.1)) (rst vs env1 p.2)
    | some (.ex e env1) => some (.ex e env1)
    | none => none) = some r := e
  cases h1 : fi env with
  | none => rw [h1] at e; cases e
  | some q =>
    rw [h1] at e
    cases q with
    | ex x env1 => cases e; exact ⟨env, F, R, _, S, h1, p⟩
    | ok xs env1 =>
      dsimp only at e
      rw [Option.map_eq_some_iff] at e
      obtain ⟨⟨ys, env9⟩, h2, rfl⟩ := e
      refine ⟨env, F, R, _, S, h1, fun J F1 H1 e1 S1 wk L hL => ?_⟩
      -- between the turns: the list at L holds acc
      refine ⟨fun i m H' => m = xs.length - i ∧ i ≤ xs.length ∧ ∃ env' F' acc avs, Ex F1 F' ∧ Sta K F' R (L2.wipe σ vs) H' env' ∧ H' L = some (.lst avs) ∧ F' L = none ∧ R.r L = none ∧ (∀ (j : Nat) b c', env'[j]? = some (SV.own b c') → (L2.wipe σ vs)[j]? ≠ some (some (V.ref L))) ∧ RelAll K F' avs acc ∧ compD vs tg ft fe (xs.drop i) acc env' = some (ys, env9),
        ⟨xs.length, by simp, Nat.zero_le _, clr vs env1, F1, [], [], Ex.refl _, (S1.wipe vs).freshH hL, upd_same, S1.freeF hL, S1.freeR hL, fun j b c' q z => ?_, .nil, h2⟩, ?_⟩
      · obtain ⟨p', o, z1, _, _, z4, _⟩ := (S1.wipe vs).own j b c' q
        rw [z] at z1
        cases z1
        rw [hL] at z4
        cases z4
      · rintro i m H' ⟨rfl, hi, env', F', acc, avs, e2, S2, hL2, hF2, hR2, hs2, ra, e3⟩
        by_cases hlt : i < xs.length
        · have hx : xs[i]? = some xs[i] := List.getElem?_eq_getElem hlt
          rw [List.drop_eq_getElem_cons hlt] at e3
          have e3 : ((putT tg xs[i] env').bind fun env1 => bindTD ft env1 fun b env2 => match b with
            | true => (eltD fe env2).bind fun p => if acc.length < 100000 then compD vs tg ft fe (xs.drop (i + 1)) (acc ++ [p.1]) (clr vs p.2) else none
            | false => compD vs tg ft fe (xs.drop (i + 1)) acc (clr vs env2)) = some (ys, env9) := e3
          rw [Option.bind_eq_some_iff] at e3
          obtain ⟨env2, h3, e3⟩ := e3
          have S2' := S2.hold hF2 hL2 hs2
          have eR : FEx R ⟨upd R.r L (.lst avs), R.t⟩ := ⟨Ex.new hR2, rfl⟩
          refine .inr ⟨wk.goes i H' hlt (e2.trans S2.sub), fun H2 => ∃ env' F' acc avs, Ex F1 F' ∧ Sta K F' R (L2.wipe σ vs) H2 env' ∧ H2 L = some (.lst avs) ∧ F' L = none ∧ R.r L = none ∧ (∀ (j : Nat) b c', env'[j]? = some (SV.own b c') → (L2.wipe σ vs)[j]? ≠ some (some (V.ref L))) ∧ RelAll K F' avs acc ∧ compD vs tg ft fe (xs.drop (i + 1)) acc env' = some (ys, env9),
            fun H2 ⟨env', F', acc, avs, q⟩ => ⟨xs.length - (i + 1), by omega, rfl, hlt, env', F', acc, avs, q⟩, fun v H3 hy => ?_⟩
          obtain ⟨F3, e4, S3, rv, eH⟩ := wk.yields i H' v H3 xs[i] hx e2 S2' hy
          refine putT_in hv S3 rv h3 fun σ3 S4 hw => ⟨hw, ?_⟩
          -- what holds of the list through the turn
          have stay : ∀ {F5 H5 : Hp} {env5 : Sl}, Sta K F5 ⟨upd R.r L (.lst avs), R.t⟩ σ3 H5 env5 → H5 L = some (.lst avs) ∧ F5 L = none ∧ Sta K F5 ⟨upd R.r L (.lst avs), R.t⟩ (L2.wipe σ vs) H5 (clr vs env5) := fun {F5 H5 env5} S5 =>
            ⟨S5.fr L _ upd_same, S5.dis L _ upd_same, S5.rewipe vs hw⟩
          have apart : ∀ {F5 H5 : Hp} {env5 : Sl}, Sta K F5 ⟨upd R.r L (.lst avs), R.t⟩ (L2.wipe σ vs) H5 env5 → ∀ (j : Nat) b c', env5[j]? = some (SV.own b c') → (L2.wipe σ vs)[j]? ≠ some (some (V.ref L)) := fun {F5 H5 env5} S5 j b c' q z => by
            obtain ⟨p', o, z1, _, z3, _⟩ := S5.own j b c' q
            rw [z] at z1
            cases z1
            have z3 : upd R.r L (.lst avs) L = none := z3
            rw [upd_same] at z3
            cases z3
          have elt : ∀ (env3 : Sl) (F5 H5 : Hp), Ex F3 F5 → Sta K F5 ⟨upd R.r L (.lst avs), R.t⟩ σ3 H5 env3 → ((eltD fe env3).bind fun p => if acc.length < 100000 then compD vs tg ft fe (xs.drop (i + 1)) (acc ++ [p.1]) (clr vs p.2) else none) = some (ys, env9) →
              dE K W0 fe σ3 H5 fun y H4 => ∃ acc, H4 L = some (.lst acc) ∧ acc.length < sizeLine ∧ ∃ env' F' acc' avs, Ex F1 F' ∧ Sta K F' R (L2.wipe σ vs) (upd H4 L (.lst (acc ++ [y]))) env' ∧ (upd H4 L (.lst (acc ++ [y]))) L = some (.lst avs) ∧ F' L = none ∧ R.r L = none ∧ (∀ (j : Nat) b c', env'[j]? = some (SV.own b c') → (L2.wipe σ vs)[j]? ≠ some (some (V.ref L))) ∧ RelAll K F' avs acc' ∧ compD vs tg ft fe (xs.drop (i + 1)) acc' env' = some (ys, env9) := fun env3 F5 H5 e5 S5 e6 => by
            rw [Option.bind_eq_some_iff] at e6
            obtain ⟨⟨y, env4⟩, h4, e6⟩ := e6
            have hle : acc.length < 100000 := by
              by_cases c : acc.length < 100000
              · exact c
              · rw [if_neg c] at e6; cases e6
            rw [if_pos hle] at e6
            unfold eltD at h4
            cases h5 : fe env3 with
            | none => rw [h5] at h4; cases h4
            | some r5 =>
              rw [h5] at h4
              cases r5 with
              | ex _ _ => cases h4
              | ok a env5 =>
                refine ⟨env3, F5, ⟨upd R.r L (.lst avs), R.t⟩, _, S5, h5, fun w F6 H6 e7 S6 rw' => ?_⟩
                obtain ⟨F7, e8, S7, r7⟩ := frz_ok S6 rw' h4
                obtain ⟨k1, k2, k3⟩ := stay S7
                have eF : Ex F' F7 := ((e4.trans e5).trans e7).trans e8
                refine ⟨avs, k1, Nat.lt_of_lt_of_le (by rw [ra.len]; exact hle) (by decide : 100000 ≤ sizeLine), clr vs env4, F7, acc ++ [y], avs ++ [w], e2.trans eF, ?_, upd_same, k2, hR2, fun j b c' q => apart k3 j b c' q, (ra.up eF).app (.cons r7 .nil), e6⟩
                have S8 := k3.unhold eR
                have ap := apart k3
                refine ⟨fun b u q => ?_, fun b u q => ?_, S8.dis, S8.len, S8.dat, fun j b c q => ?_, S8.tag, S8.inj⟩
                · have hb : b ≠ L := fun z => by rw [z, k2] at q; cases q
                  rw [upd_ne hb]; exact S8.sub b u q
                · have hb : b ≠ L := fun z => by rw [z, hR2] at q; cases q
                  rw [upd_ne hb]; exact S8.fr b u q
                · obtain ⟨p', o, z1, z2, z3, z4, z5⟩ := S8.own j b c q
                  have hb : p' ≠ L := fun z => ap j b c q (by rw [z1, z])
                  exact ⟨p', o, z1, z2, z3, by rw [upd_ne hb]; exact z4, z5⟩
          cases ft with
          | none =>
            exact elt env2 F3 H3 (Ex.refl _) S4 e3
          | some f =>
            have e3 : (match f env2 with
              | some (.ok a env2) => (tru a env2).bind fun b => match b with
                | true => (eltD fe env2).bind fun p => if acc.length < 100000 then compD vs tg (some f) fe (xs.drop (i + 1)) (acc ++ [p.1]) (clr vs p.2) else none
                | false => compD vs tg (some f) fe (xs.drop (i + 1)) acc (clr vs env2)
              | _ => none) = some (ys, env9) := e3
            cases h6 : f env2 with
            | none => rw [h6] at e3; cases e3
            | some r6 =>
              rw [h6] at e3
              cases r6 with
              | ex _ _ => cases e3
              | ok a env3 =>
                dsimp only at e3
                rw [Option.bind_eq_some_iff] at e3
                obtain ⟨b, h7, e3⟩ := e3
                refine ⟨env2, F3, ⟨upd R.r L (.lst avs), R.t⟩, _, S4, h6, b, h7, fun F5 H5 e5 S5 => ?_⟩
                cases b with
                | true => exact iteT (elt env3 F5 H5 e5 S5 e3)
                | false =>
                  refine iteF ?_
                  obtain ⟨k1, k2, k3⟩ := stay S5
                  have eF : Ex F' F5 := e4.trans e5
                  exact ⟨clr vs env3, F5, acc, avs, e2.trans eF, k3.unhold eR, k1, k2, hR2, apart k3, ra.up eF, e3⟩
        · have hi' : i = xs.length := by omega
          subst hi'
          rw [List.drop_length] at e3
          cases e3
          refine .inl ⟨wk.stops H' (e2.trans S2.sub), p _ F' H' (e1.trans e2) (Sta.unwipe S1 e2 S2) ⟨L, _, rfl, hF2, hR2, hL2, ⟨avs, rfl, ra⟩, fun j b c' q z => ?_⟩⟩
          by_cases hj : j ∈ vs
          · have := rst_in vs env1 env9 j _ hj q
            unfold keepD at this
            split at this <;> cases this
          · rw [rst_get vs env1 env9 j hj] at q
            exact hs2 j b c' q (by rw [wipe_get vs σ j hj]; exact z)
end
end
end Dw
namespace Dw
noncomputable section
open PySem PySem.Spec PyProof.Rows L2

section
variable {X : Cx} {W : WX} {f : SE}
theorem pts_dnil : PTs X [] (tTD X.K none) := pts_nil
theorem pts_done {c : Expr} (h : PT X c (dT X.K W0 f)) : PTs X [c] (tTD X.K (some f)) := pts_one h
theorem pd_comp {elt tg iter : Expr} {ifs : List Expr} {scope : Scope} {own : List (Str × Nat)} {pos : Pos} {fi : SI} {t : Tg} {ft : Option SE} {fe : SE} (hc : X.calm = true) (hN : X.N.Nodup) (ok : BlkOk X.N X.env.scope scope own) (hv : t.sub (own.map (·.2)) = true) (hi : PI X tg iter (dI X.K W fi))
    (hg : ∀ (s : Shared) (H : Hp) (C : Addr) (cl : List (Str × Addr)) (fp : List Addr), PG (X.blk s H scope (compEnvC scope cl C X.env) fp) tg (gT X.K t)) (ht : ∀ (s : Shared) (H : Hp) (C : Addr) (cl : List (Str × Addr)) (fp : List Addr), PTs (X.blk s H scope (compEnvC scope cl C X.env) fp) ifs (tTD X.K ft))
    (he : ∀ (s : Shared) (H : Hp) (C : Addr) (cl : List (Str × Addr)) (fp : List Addr), PE (X.blk s H scope (compEnvC scope cl C X.env) fp) elt (dE X.K W0 fe)) (hs : ∀ x, foldedSetIterable iter X.env x = pure x := by intro _; rfl) :
    PE X (.ListComp elt [⟨tg, iter, ifs, 0⟩] scope pos) (dE X.K W (compE (own.map (·.2)) fi t ft fe)) := (pe_lc hc hN hi ok hg ht he hs).wk fun _ _ _ q => dE_comp hv q
theorem ps_dsetComp {i : Nat} {y : Str} {py : Pos} {elt tg iter : Expr} {ifs : List Expr} {scope : Scope} {own : List (Str × Nat)} {pos spos : Pos} {fi : SI} {t : Tg} {ft : Option SE} {fe : SE} (hc : X.calm = true) (hN : X.N.Nodup) (hy : X.N[i]? = some y) (hyl : X.env.scope.names.lookup y = some .local)
    (hsw : swapsWith (.ListComp elt [⟨tg, iter, ifs, 0⟩] scope pos) (some (.Name y py)) spos.line X.env = pure true) (ok : BlkOk X.N X.env.scope scope own) (hv : t.sub (own.map (·.2)) = true) (hi : PI X tg iter (dI X.K W fi))
    (hg : ∀ (s : Shared) (H : Hp) (C : Addr) (cl : List (Str × Addr)) (fp : List Addr), PG (X.blk s H scope (compEnvC scope cl C X.env) fp) tg (gT X.K t)) (ht : ∀ (s : Shared) (H : Hp) (C : Addr) (cl : List (Str × Addr)) (fp : List Addr), PTs (X.blk s H scope (compEnvC scope cl C X.env) fp) ifs (tTD X.K ft))
    (he : ∀ (s : Shared) (H : Hp) (C : Addr) (cl : List (Str × Addr)) (fp : List Addr), PE (X.blk s H scope (compEnvC scope cl C X.env) fp) elt (dE X.K W0 fe)) (hs : ∀ x, foldedSetIterable iter X.env x = pure x := by intro _; rfl) :
    PS X (.Assign [.Name y py] (.ListComp elt [⟨tg, iter, ifs, 0⟩] scope pos) spos) (dS X.K W (asgS i (compE (own.map (·.2)) fi t ft fe))) := (ps_setLc hc hN hy hyl hsw hi ok hg ht he hs).wk fun _ _ _ q => dE_comp hv (dS_asg q)
end

/-! ### what a def means -/
inductive FR where
  | ok (a : RV) (outs : List SV) | ex (e : Xn) (outs : List SV)
def resS : Option SV → Option RV
  | some (.own false c) => some (.own c)
  | some (.d x) => some (.d x)
  | _ => none
def resV (a : RV) (env : Sl) : Option RV := match a with
  | .d x => some (.d x)
  | .own c => some (.own c)
  | .cv i => resS env[i]?
def backs : List SV → Sl → Option (List SV)
  | [], _ => some []
  | .own true _ :: as, .own true c :: es => (backs as es).map (.own true c :: ·)
  | .d x :: as, _ :: es => (backs as es).map (.d x :: ·)
  | _, _ => none
def runF (n : Nat) (body : SS) (args : List SV) : Option FR := match body (args ++ List.replicate n .un) with
  | some (.rt a env) => (resV a env).bind fun a' => (backs args env).map (FR.ok a')
  | some (.nx env) => (backs args env).map (FR.ok (.d .non))
  | some (.ex e env) => (backs args env).map (FR.ex e)
  | _ => none
section
variable (K : PySem.W.Frag)
def PostF (F : Hp) (R : Fm) (vs : List V) (r : FR) (Q : VK) (E : XK) : Prop :=
  match r with
  | .ok a outs => ∀ v F' H', Ex F F' → Sta K F' R (vs.map some) H' outs → RvOk K F' R (vs.map some) H' outs v a → Q v H'
  | .ex e outs => ∀ cls d F' H', Ex F F' → Sta K F' R (vs.map some) H' outs → XnAt K F' H' e cls d → E cls d H'
def spD (np : Nat) (m : List SV → Option FR) : Sp := fun vs H Q E => ∃ F R args r, args.length = np ∧ Sta K F R (vs.map some) H args ∧ m args = some r ∧ PostF K F R vs r Q E
end
section
variable {K : PySem.W.Frag} {W : WX} {F F' : Hp} {R R' : Fm} {σ : L2.St} {H H' : Hp} {env env' : Sl} {vs : List V} {args : List SV}
theorem backs_len : ∀ {as : List SV} {es : Sl} {outs : List SV}, backs as es = some outs → outs.length = as.length
  | [], _, _, h => by cases h; rfl
  | .un :: _, _, _, h => by cases h
  | .own false _ :: _, _, _, h => by cases h
  | .own true _ :: as, [], _, h => by cases h
  | .own true _ :: as, e :: es, _, h => by
    cases e with
    | own b c =>
      cases b with
      | false => cases h
      | true =>
        have h : (backs as es).map (SV.own true c :: ·) = some _ := h
        rw [Option.map_eq_some_iff] at h
        obtain ⟨o, h1, rfl⟩ := h
        simp [backs_len h1]
    | _ => cases h
  | .d x :: as, [], _, h => by cases h
  | .d x :: as, e :: es, outs, h => by
    have h : (backs as es).map (SV.d x :: ·) = some outs := by cases e <;> exact h
    rw [Option.map_eq_some_iff] at h
    obtain ⟨o, h1, rfl⟩ := h
    simp [backs_len h1]
theorem backs_at : ∀ {as : List SV} {es : Sl} {outs : List SV} {i : Nat} {s : SV}, backs as es = some outs → outs[i]? = some s → (∃ x, s = .d x ∧ as[i]? = some (.d x)) ∨ ∃ c c', s = .own true c' ∧ as[i]? = some (.own true c) ∧ es[i]? = some (.own true c')
  | [], _, _, _, _, h, e => by cases h; simp at e
  | .un :: _, _, _, _, _, h, _ => by cases h
  | .own false _ :: _, _, _, _, _, h, _ => by cases h
  | .own true _ :: as, [], _, _, _, h, _ => by cases h
  | .own true c0 :: as, e :: es, _, i, s, h, q => by
    cases e with
    | own b c =>
      cases b with
      | false => cases h
      | true =>
        have h : (backs as es).map (SV.own true c :: ·) = some _ := h
        rw [Option.map_eq_some_iff] at h
        obtain ⟨o, h1, rfl⟩ := h
        cases i with
        | zero =>
          simp at q
          subst q
          exact .inr ⟨c0, c, rfl, rfl, rfl⟩
        | succ i => simpa using backs_at (i := i) h1 (by simpa using q)
    | _ => cases h
  | .d x :: as, [], _, _, _, h, _ => by cases h
  | .d x :: as, e :: es, outs, i, s, h, q => by
    have h : (backs as es).map (SV.d x :: ·) = some outs := by cases e <;> exact h
    rw [Option.map_eq_some_iff] at h
    obtain ⟨o, h1, rfl⟩ := h
    cases i with
    | zero =>
      simp at q
      subst q
      exact .inl ⟨x, rfl, rfl⟩
    | succ i => simpa using backs_at (i := i) h1 (by simpa using q)
/-- the def's slots at its entry -/
theorem Sta.start {N : List Str} {n : Nat} (S : Sta K F R (vs.map some) H args) (hN : N.length = vs.length + n) : Sta K F R (L2.start N vs) H (args ++ List.replicate n .un) := by
  have hl : vs.length = args.length := by simpa using S.len
  have hs : L2.start N vs = vs.map some ++ List.replicate n none := by unfold L2.start; rw [hN, Nat.add_sub_cancel_left]
  rw [hs]
  have low : ∀ {i : Nat} {s : SV}, (args ++ List.replicate n SV.un)[i]? = some s → s ≠ .un → i < args.length ∧ args[i]? = some s := fun {i s} h hu => by
    by_cases hi : i < args.length
    · rw [List.getElem?_append_left hi] at h
      exact ⟨hi, h⟩
    · rw [List.getElem?_append_right (by omega), List.getElem?_replicate] at h
      split at h
      · cases h; exact absurd rfl hu
      · cases h
  have lowσ : ∀ {i : Nat}, i < args.length → (vs.map some ++ List.replicate n none)[i]? = (vs.map some)[i]? := fun {i} h => List.getElem?_append_left (by simpa [hl] using h)
  refine ⟨S.sub, S.fr, S.dis, by simp [hl], fun i x e => ?_, fun i b c e => ?_, fun i c e => ?_, fun i j bi ci bj cj p h1 h2 h3 h4 => ?_⟩
  · obtain ⟨hi, e⟩ := low e (by simp)
    rw [lowσ hi]
    exact S.dat i x e
  · obtain ⟨hi, e⟩ := low e (by simp)
    rw [lowσ hi]
    exact S.own i b c e
  · obtain ⟨hi, e⟩ := low e (by simp)
    rw [lowσ hi]
    exact S.tag i c e
  · obtain ⟨hi, h1⟩ := low h1 (by simp)
    obtain ⟨hj, h2⟩ := low h2 (by simp)
    rw [lowσ hi] at h3
    rw [lowσ hj] at h4
    exact S.inj i j bi ci bj cj p h1 h2 h3 h4
/-- .. and at its end, as the caller sees them -/
theorem Sta.backs {outs : List SV} (S0 : Sta K F R (vs.map some) H args) (e : Ex F F') (S : Sta K F' R σ H' env) (h : backs args env = some outs) : Sta K F' R (vs.map some) H' outs := by
  have hl := backs_len h
  have tag : ∀ {i : Nat} {c c' : C}, args[i]? = some (.own true c) → env[i]? = some (.own true c') → (vs.map some)[i]? = some (some (V.ref (R.t i))) ∧ σ[i]? = some (some (V.ref (R.t i))) := fun {i c c'} h1 h2 => ⟨S0.tag i c h1, S.tag i c' h2⟩
  refine ⟨S.sub, S.fr, S.dis, by rw [hl]; exact S0.len, fun i x q => ?_, fun i b c q => ?_, fun i c q => ?_, fun i j bi ci bj cj p h1 h2 h3 h4 => ?_⟩
  · rcases backs_at h q with ⟨y, q1, q2⟩ | ⟨c, c', q1, _⟩
    · cases q1
      obtain ⟨v, e1, r⟩ := S0.dat i x q2
      exact ⟨v, e1, r.up e⟩
    · cases q1
  · rcases backs_at h q with ⟨y, q1, q2⟩ | ⟨c1, c', q1, q2, q3⟩
    · cases q1
    · cases q1
      obtain ⟨t1, t2⟩ := tag q2 q3
      obtain ⟨p, o, z1, z2⟩ := S.own i _ _ q3
      rw [t2] at z1
      cases z1
      exact ⟨_, o, t1, z2⟩
  · rcases backs_at h q with ⟨y, q1, q2⟩ | ⟨c1, c', q1, q2, q3⟩
    · cases q1
    · exact (tag q2 q3).1
  · rcases backs_at h h1 with ⟨y, q1, q2⟩ | ⟨c1, c', q1, q2, q3⟩
    · cases q1
    · rcases backs_at h h2 with ⟨y, r1, r2⟩ | ⟨d1, d', r1, r2, r3⟩
      · cases r1
      · obtain ⟨t1, t2⟩ := tag q2 q3
        obtain ⟨u1, u2⟩ := tag r2 r3
        rw [t1] at h3
        rw [u1] at h4
        exact S.inj i j _ _ _ _ p q3 r3 (by rw [t2]; exact h3) (by rw [u2]; exact h4)
theorem RvOk.backs {outs : List SV} {a a' : RV} {v : V} (S0 : Sta K F R (vs.map some) H args) (S : Sta K F' R σ H' env) (h : Dw.backs args env = some outs) (rv : RvOk K F' R σ H' env v a) (ha : resV a env = some a') : RvOk K F' R (vs.map some) H' outs v a' := by
  have own : ∀ {c : C} {p : Addr} {o : HO}, v = .ref p → F' p = none → R.r p = none → H' p = some o → CellOk K F' o c → (∀ (i : Nat) c', env[i]? = some (SV.own true c') → σ[i]? ≠ some (some (V.ref p))) → RvOk K F' R (vs.map some) H' outs v (.own c) := fun {c p o} e1 e2 e3 e4 e5 e6 =>
    ⟨p, o, e1, e2, e3, e4, e5, fun i b c' q z => by
      rcases backs_at h q with ⟨y, q1, q2⟩ | ⟨c1, c2, q1, q2, q3⟩
      · cases q1
      · rw [S0.tag i c1 q2] at z
        exact e6 i c2 q3 (by rw [S.tag i c2 q3]; exact z)⟩
  cases a with
  | d x => cases ha; exact rv
  | own c =>
    cases ha
    obtain ⟨p, o, e1, e2, e3, e4, e5, e6⟩ := rv
    exact own e1 e2 e3 e4 e5 fun i c' q => e6 i true c' q
  | cv i =>
    have rv : σ[i]? = some (some v) := rv
    have ha : resS env[i]? = some a' := ha
    cases hi : env[i]? with
    | none => rw [hi] at ha; cases ha
    | some s =>
      rw [hi] at ha
      cases s with
      | un => cases ha
      | d x =>
        cases ha
        obtain ⟨w, e1, r⟩ := S.dat i x hi
        rw [rv] at e1
        cases e1
        exact r
      | own b c =>
        cases b with
        | true => cases ha
        | false =>
          cases ha
          obtain ⟨p, o, e1, e2, e3, e4, e5⟩ := S.own i _ _ hi
          rw [rv] at e1
          cases e1
          refine own rfl e2 e3 e4 e5 fun j c' q z => ?_
          have := S.inj i j _ _ _ _ p hi q rv z
          subst this
          rw [hi] at q
          cases q
end
section
variable {P : Program} {w : World} {K : PySem.W.Frag} {mg : Str → Option Value} {base : Heap}
/-- a def that raises nothing keeps the promise «it means what its body means» -/
theorem fnd_ok {x qual : Str} {st : Stmt} {f : Addr} {fd : FuncData} {N ps : List Str} {k n : Nat} {body : SS} (F : Fun K x qual st f fd) (S : FnScope N ps (defScope st)) (hn : N.length = ps.length + n)
    (hb : ∀ (cdv : Value) (A : Around) (outer : List Env) (s : Shared) (H : Hp) (E : XK), Room k (A.deeper (envOfC qual (defScope st) s.heap.objs.size f cdv)) → PSs (cxOf CX0 P w K mg base N qual (defScope st) f cdv A outer s H E).nox (defBody st) (dS K W0 body)) :
    FnOk P w K mg base CX0 (k + 1) f fd ps (spD K ps.length fun args => match runF n body args with | some (.ok a o) => some (.ok a o) | _ => none) := by
  refine F.ok S (fun vs H Q E h => ?_) (fun cdv A outer s H vs Q E hr h => ⟨_, hb cdv A outer s H E hr, ?_⟩)
  · obtain ⟨F, R, args, r, h1, h2, _⟩ := h
    have := h2.len
    rw [List.length_map] at this
    omega
  · obtain ⟨F1, R, args, r, h1, S1, e, p⟩ := h
    have hv : vs.length = ps.length := by
      have := S1.len
      rw [List.length_map] at this
      omega
    have S2 := S1.start (N := N) (n := n) (by omega)
    dsimp only at e
    cases hr : runF n body args with
    | none => rw [hr] at e; cases e
    | some q =>
      rw [hr] at e
      cases q with
      | ex _ _ => cases e
      | ok a outs =>
        cases e
        unfold runF at hr
        cases hbd : body (args ++ List.replicate n .un) with
        | none => rw [hbd] at hr; cases hr
        | some o =>
          rw [hbd] at hr
          refine ⟨_, F1, R, o, S2, hbd, ?_⟩
          cases o with
          | rt a0 env =>
            dsimp only at hr
            rw [Option.bind_eq_some_iff] at hr
            obtain ⟨a', h3, hr⟩ := hr
            rw [Option.map_eq_some_iff] at hr
            obtain ⟨o', h4, hr⟩ := hr
            cases hr
            exact fun v σ' F' H' e1 S3 rv => p v F' H' e1 (S1.backs e1 S3 h4) (RvOk.backs S1 S3 h4 rv h3)
          | nx env =>
            dsimp only at hr
            rw [Option.map_eq_some_iff] at hr
            obtain ⟨o', h4, hr⟩ := hr
            cases hr
            exact fun σ' F' H' e1 S3 => p .non F' H' e1 (S1.backs e1 S3 h4) .non
          | bk env => cases hr
          | ct env => cases hr
          | ex x env =>
            dsimp only at hr
            rw [Option.map_eq_some_iff] at hr
            obtain ⟨o', h4, hr⟩ := hr
            cases hr
end
end
end Dw
namespace Dw
noncomputable section
open PySem PySem.Spec PyProof.Rows L2

/-! ### the callee's frame: the caller's own things stand, all but slot i -/
open Classical
noncomputable def calF (R : Fm) (σ : L2.St) (H : Hp) (env : Sl) (i : Nat) (p0 : Addr) : Fm :=
  ⟨fun a => if ∃ j b c, j ≠ i ∧ env[j]? = some (SV.own b c) ∧ σ[j]? = some (some (V.ref a)) then H a else R.r a, fun _ => p0⟩
section
variable {K : PySem.W.Frag} {W : WX} {F F' : Hp} {R R' : Fm} {σ : L2.St} {H H' : Hp} {env : Sl} {Q : VK} {i : Nat} {p0 : Addr}
theorem calF_own (S : Sta K F R σ H env) {j : Nat} {b : Bool} {c : C} {p : Addr} (hj : j ≠ i) (h : env[j]? = some (.own b c)) (e : σ[j]? = some (some (V.ref p))) : (calF R σ H env i p0).r p = H p := by
  show (if _ then _ else _) = _
  rw [if_pos ⟨j, b, c, hj, h, e⟩]
theorem calF_none (S : Sta K F R σ H env) {p : Addr} (h : (calF R σ H env i p0).r p = none) : R.r p = none ∧ ∀ (j : Nat) (b : Bool) (c : C), j ≠ i → env[j]? = some (SV.own b c) → σ[j]? ≠ some (some (V.ref p)) := by
  have h : (if ∃ j b c, j ≠ i ∧ env[j]? = some (SV.own b c) ∧ σ[j]? = some (some (V.ref p)) then H p else R.r p) = none := h
  by_cases hc : ∃ j b c, j ≠ i ∧ env[j]? = some (SV.own b c) ∧ σ[j]? = some (some (V.ref p))
  · rw [if_pos hc] at h
    exact ⟨S.freeR h, fun j b c hj e1 e2 => by
      obtain ⟨q, o, e3, _, _, e4, _⟩ := S.own j b c e1
      rw [e2] at e3
      cases e3
      rw [h] at e4
      cases e4⟩
  · rw [if_neg hc] at h
    exact ⟨h, fun j b c hj e1 e2 => hc ⟨j, b, c, hj, e1, e2⟩⟩
theorem calF_ex (S : Sta K F R σ H env) : Ex R.r (calF R σ H env i p0).r := fun a u e => by
  show (if ∃ j b c, j ≠ i ∧ env[j]? = some (SV.own b c) ∧ σ[j]? = some (some (V.ref a)) then H a else R.r a) = some u
  split
  · exact S.fr a u e
  · exact e
theorem calF_sub (S : Sta K F R σ H env) : Ex (calF R σ H env i p0).r H := fun a u e => by
  have e : (if ∃ j b c, j ≠ i ∧ env[j]? = some (SV.own b c) ∧ σ[j]? = some (some (V.ref a)) then H a else R.r a) = some u := e
  split at e
  · exact e
  · exact S.fr a u e
theorem calF_dis (S : Sta K F R σ H env) : ∀ b o, (calF R σ H env i p0).r b = some o → F b = none := fun a u e => by
  have e : (if ∃ j b c, j ≠ i ∧ env[j]? = some (SV.own b c) ∧ σ[j]? = some (some (V.ref a)) then H a else R.r a) = some u := e
  split at e
  · next h =>
    obtain ⟨j, b, c, _, h1, h2⟩ := h
    obtain ⟨q, o, e3, e4, _⟩ := S.own j b c h1
    rw [h2] at e3
    cases e3
    exact e4
  · exact S.dis a u e
theorem calF_free (S : Sta K F R σ H env) {b : Bool} {c : C} {p : Addr} (h : env[i]? = some (.own b c)) (e : σ[i]? = some (some (V.ref p))) : (calF R σ H env i p0).r p = none := by
  show (if ∃ j b c, j ≠ i ∧ env[j]? = some (SV.own b c) ∧ σ[j]? = some (some (V.ref p)) then H p else R.r p) = none
  rw [if_neg]
  · obtain ⟨q, o, e3, _, e4, _⟩ := S.own i b c h
    rw [e] at e3
    cases e3
    exact e4
  · intro ⟨j, b', c', hj, h1, h2⟩
    exact hj (S.inj j i _ _ _ _ p h1 h h2 e)
theorem dGet {xs : List D} {vs : List V} {k : Nat} {s : SV} (r : RelAll K F vs xs) (h : (xs.map SV.d)[k]? = some s) : ∃ x v, s = .d x ∧ (vs.map some)[k]? = some (some v) ∧ Rel K F v x := by
  rw [List.getElem?_map, Option.map_eq_some_iff] at h
  obtain ⟨x, h1, rfl⟩ := h
  obtain ⟨v, h2, rv⟩ := r.getD h1
  exact ⟨x, v, rfl, by rw [List.getElem?_map, h2]; rfl, rv⟩
/-- in: data only -/
theorem Sta.callD (S : Sta K F R σ H env) {xs : List D} {vs : List V} (r : RelAll K F vs xs) : Sta K F (calF R σ H env i p0) (vs.map some) H (xs.map .d) := by
  refine ⟨S.sub, calF_sub S, calF_dis S, by simp [r.len], fun k x e => ?_, fun k b c e => ?_, fun k c e => ?_, fun k l bk ck bl cl p h1 h2 _ _ => ?_⟩
  · obtain ⟨y, v, h1, h2, h3⟩ := dGet r e
    cases h1
    exact ⟨v, h2, h3⟩
  · obtain ⟨y, v, h1, _⟩ := dGet r e
    cases h1
  · obtain ⟨y, v, h1, _⟩ := dGet r e
    cases h1
  · obtain ⟨y, v, h1, _⟩ := dGet r h1
    cases h1
/-- out: the caller's slots stand as they did -/
theorem Sta.retD {σc : L2.St} {envc : Sl} (S : Sta K F R σ H env) (e : Ex F F') (S' : Sta K F' (calF R σ H env env.length p0) σc H' envc) : Sta K F' R σ H' env := by
  refine ⟨S'.sub, (calF_ex S).trans S'.fr, fun b u q => S'.dis b u (calF_ex S b u q), S.len, fun i x q => ?_, fun j b c q => ?_, S.tag, S.inj⟩
  · obtain ⟨v, e1, r⟩ := S.dat i x q
    exact ⟨v, e1, r.up e⟩
  · obtain ⟨p, o, e1, e2, e3, e4, e5⟩ := S.own j b c q
    have hj : j ≠ env.length := fun z => by subst z; simp at q
    have hr := calF_own (p0 := p0) S hj q e1
    rw [e4] at hr
    exact ⟨p, o, e1, S'.dis p o hr, e3, S'.fr p o hr, e5.up e⟩
theorem RvOk.ret {σc : L2.St} {envc : Sl} {a : RV} {v : V} (S : Sta K F R σ H env) (h : RvOk K F' (calF R σ H env i p0) σc H' envc v a) (hcv : ∀ i, a ≠ .cv i) (hi : ∀ (b : Bool) c, env[i]? = some (SV.own b c) → ∀ p, a ≠ .d .non → σ[i]? = some (some (V.ref p)) → v ≠ .ref p ∨ ∃ x, a = .d x) : RvOk K F' R σ H' env v a := by
  cases a with
  | d x => exact h
  | cv i => exact absurd rfl (hcv i)
  | own c =>
    obtain ⟨p, o, e1, e2, e3, e4, e5, e6⟩ := h
    obtain ⟨h1, h2⟩ := calF_none S e3
    refine ⟨p, o, e1, e2, h1, e4, e5, fun j b c' q z => ?_⟩
    by_cases hj : j = i
    · subst hj
      rcases hi b c' q p (by simp) z with h | ⟨x, h⟩
      · exact h e1
      · cases h
    · exact h2 j b c' hj q z
end

/-! ### a call of a def: data in -/
def retV : RV → Option RV
  | .d x => some (.d x)
  | .own c => some (.own c)
  | .cv _ => none
def outD (env : Sl) : FR → Option Re
  | .ok a _ => (retV a).map (Re.ok · env)
  | .ex e _ => some (.ex e env)
def callD (m : List SV → Option FR) (dfs : List D) (fa : SA) : SE := fun env => bindA (fa env) fun as env1 => (frzs as env1).bind fun p => (m ((p.1 ++ dfs).map .d)).bind (outD p.2)
section
variable {K : PySem.W.Frag} {W : WX} {F F' : Hp} {R R' : Fm} {σ : L2.St} {H H' : Hp} {env : Sl} {Q : VK}
theorem post_out {vs : List V} {xs : List D} {fr : FR} {r : Re} (S : Sta K F R σ H env) (rv : RelAll K F vs xs) (e : outD env fr = some r) (p : PostE K W F R σ r Q) : PostF K F (calF R σ H env env.length 0) vs fr Q (WE W σ) := by
  cases fr with
  | ex x outs =>
    cases e
    exact fun cls d F' H' e1 S1 hx => p cls d F' H' e1 (S.retD e1 S1) hx
  | ok a outs =>
    have e : (retV a).map (Re.ok · env) = some r := e
    rw [Option.map_eq_some_iff] at e
    obtain ⟨a', h, rfl⟩ := e
    have ha : a' = a ∧ ∀ i, a ≠ .cv i := by
      cases a with
      | d x => cases h; exact ⟨rfl, by simp⟩
      | own c => cases h; exact ⟨rfl, by simp⟩
      | cv i => cases h
    obtain ⟨rfl, hcv⟩ := ha
    exact fun v F' H' e1 S1 rv' => p v F' H' e1 (S.retD e1 S1) (RvOk.ret S rv' hcv fun b c q => by simp at q)
theorem dE_callD {np : Nat} {m : List SV → Option FR} {dfs : List D} {dvs : List V} {fa : SA} (hd : ∀ F : Hp, RelAll K F dvs dfs) (hn : ∀ as fr, m as = some fr → as.length = np) (h : dE K W (callD m dfs fa) σ H Q) : tCallSD (spD K np m) dvs (WE W) (dA K W fa) σ H Q := by
  obtain ⟨env, F, R, r, S, e, p⟩ := h
  rcases bindA_inv e with ⟨as, env1, h1, h2⟩ | ⟨x, env1, h1, rfl⟩
  · rw [Option.bind_eq_some_iff] at h2
    obtain ⟨⟨xs, env2⟩, h3, h4⟩ := h2
    rw [Option.bind_eq_some_iff] at h4
    obtain ⟨fr, h4, h5⟩ := h4
    refine ⟨env, F, R, _, S, h1, fun vs F1 H1 R1 e1 eR S1 hv => ?_⟩
    obtain ⟨F2, R2, e2, eR2, S2, rr⟩ := frzs_held eR S1 hv h3
    have S3 := S2.unhold eR2
    have rr2 : RelAll K F2 (vs ++ dvs) (xs ++ dfs) := rr.app (hd F2)
    exact ⟨F2, calF R σ H1 env2 env2.length 0, _, fr, hn _ _ h4, S3.callD rr2, h4, post_out S3 rr2 h5 (p.up (e1.trans e2))⟩
  · exact ⟨env, F, R, _, S, h1, p⟩
end
section
variable {X : Cx} {W : WX} {CX : CXT} {k : Nat} {f : Addr} {fd : FuncData} {ps : List Str} {np : Nat} {m : List SV → Option FR} {dfs : List D} {dvs : List V} {ds : List Value} {fa : SA} {x : Str} {p pos : Pos} {e : Expr} {es : List Expr}
theorem pd_call (F : FnOk X.prog X.w X.K X.mg X.base CX k f fd ps (spD X.K np m)) (hr : Room k X.A) (hm : X.mg x = some (.ref f)) (hk : PySem.W.keepIn X.K (.ref f) = true) (hb : Binds X.K fd ps ds) (hd : Vals dvs ds) (hx : ∀ σ, PassesAt CX X σ (WE W σ)) (hD : ∀ F : Hp, RelAll X.K F dvs dfs) (hn : ∀ as fr, m as = some fr → as.length = np)
    (ha : PA X (e :: es) (dA X.K W fa)) (hg : Gl X x := by rfl) (hdb : (x == ("__debug__" : Str)) = false := by decide) (he : starEach (e :: es) X.env = (false, eval e X.env) :: starEach es X.env := by rfl) (hpl : (backTo pos (starEach es X.env)).any (·.1) = false := by rfl) :
    PE X (.Call (.Name x p) (e :: es) [] pos) (dE X.K W (callD m dfs fa)) := (pe_callSD F hr hg hm hk hb hd hx ha hdb he hpl).wk fun _ _ _ q => dE_callD hD hn q
end
end
end Dw
namespace Dw
noncomputable section
open PySem PySem.Spec PyProof.Rows L2

/-! ### small built-ins -/
def rInt1 : List V → Hp → VK → Prop := fun xs H Q => (∃ i, xs = [.int i] ∧ Q (.int i) H) ∨ ∃ k, xs = [.bl k] ∧ Q (.int (if k then 1 else 0)) H
theorem cr_int {X : Cx} : CallR X (.type "int") rInt1 := call_int1
theorem snd_intC {K : PySem.W.Frag} : SndC K intC rInt1 := by
  intro W F R σ H env Q xs vs z S h e p
  match xs, h, e with
  | [.int i], h, e =>
    cases e
    obtain ⟨v, rfl, hv⟩ := vw1 h
    cases hv
    exact .inl ⟨i, rfl, post_d S p (.int _)⟩
  | [.bl b], h, e =>
    cases e
    obtain ⟨v, rfl, hv⟩ := vw1 h
    cases hv
    refine .inr ⟨b, rfl, post_d S p ?_⟩
    cases b <;> exact .int _
def rOrd : List V → Hp → VK → Prop := fun xs H Q => ∃ x, xs = [.str x] ∧ x.length = 1 ∧ Q (.int (x.cps.getD 0 0 : Nat)) H
theorem cr_ord {X : Cx} : CallR X (.builtin "ord") rOrd := call_ord
theorem snd_ord {K : PySem.W.Frag} : SndC K ordC rOrd := by
  intro W F R σ H env Q xs vs z S h e p
  match xs, h, e with
  | [.str [c]], h, e =>
    cases e
    obtain ⟨v, rfl, hv⟩ := vw1 h
    cases hv
    exact ⟨mk [c], rfl, rfl, post_d S p (.int _)⟩
def rAbs : List V → Hp → VK → Prop := fun xs H Q => ∃ i, xs = [.int i] ∧ Q (.int (if i < 0 then -i else i)) H
theorem cr_abs {X : Cx} : CallR X (.builtin "abs") rAbs := call_abs
theorem snd_abs {K : PySem.W.Frag} : SndC K absC rAbs := by
  intro W F R σ H env Q xs vs z S h e p
  match xs, h, e with
  | [.int i], h, e =>
    cases e
    obtain ⟨v, rfl, hv⟩ := vw1 h
    cases hv
    exact ⟨i, rfl, post_d S p (.int _)⟩
def rMin2 : List V → Hp → VK → Prop := fun xs H Q => ∃ i j, xs = [.int i, .int j] ∧ Q (.int (if j < i then j else i)) H
theorem cr_min {X : Cx} (hc : X.calm = true) : CallR X (.builtin "min") rMin2 := call_min2 hc
theorem snd_min {K : PySem.W.Frag} : SndC K minC rMin2 := by
  intro W F R σ H env Q xs vs z S h e p
  match xs, h, e with
  | [.int i, .int j], h, e =>
    cases e
    obtain ⟨v, w, rfl, hv, hw⟩ := vw2 h
    cases hv
    cases hw
    exact ⟨i, j, rfl, post_d S p (.int _)⟩
def rMax2 : List V → Hp → VK → Prop := fun xs H Q => ∃ i j, xs = [.int i, .int j] ∧ Q (.int (if j > i then j else i)) H
theorem cr_max {X : Cx} (hc : X.calm = true) : CallR X (.builtin "max") rMax2 := call_max2 hc
theorem snd_max {K : PySem.W.Frag} : SndC K maxC rMax2 := by
  intro W F R σ H env Q xs vs z S h e p
  match xs, h, e with
  | [.int i, .int j], h, e =>
    cases e
    obtain ⟨v, w, rfl, hv, hw⟩ := vw2 h
    cases hv
    cases hw
    exact ⟨i, j, rfl, post_d S p (.int _)⟩

/-! ### isinstance, one built-in class -/
def tyD : D → String
  | .non => "NoneType"
  | .bl _ => "bool"
  | .int _ => "int"
  | .str _ => "str"
  | .lst _ => "list"
  | .tup _ => "tuple"
def isiD (n : String) (x : D) : Bool := match x with
  | .bl _ => n == "bool" || n == "int"
  | x => n == tyD x
theorem tupTy {K : PySem.W.Frag} {H : Hp} {a : Addr} {xs : List V} (h : SqT K H a xs) : TyX K H (.ref a) (.type "tuple") := by
  rcases h with h | h
  · rcases h with h | ⟨o, h⟩
    · exact .base (.tup h)
    · exact .fTuple h
  · obtain ⟨o, its, n, hk, hc, _⟩ := h
    exact .kTuple hk hc
theorem tyD_ok {K : PySem.W.Frag} {F H : Hp} {v : V} {x : D} (e : Ex F H) (h : Vw K F H v x) : TyX K H v (.type (tyD x)) := by
  cases x with
  | non => cases h; exact .base .non
  | bl b => cases h; exact .base (.bl b)
  | int i => cases h; exact .base (.int i)
  | str s => cases h; exact .base (.str _)
  | lst xs =>
    obtain ⟨a, vs, rfl, s, r⟩ := h
    rcases s with s | ⟨o, _, _, hk, hc, _⟩
    · rcases s with s | ⟨o, s⟩
      · exact .base (.lst s)
      · exact .base (.frz s)
    · exact .kList hk hc
  | tup xs =>
    cases h with
    | tup s r => exact tupTy (ex_t e s)
theorem kit_all : ∀ a ∈ ["NoneType", "bool", "int", "str", "list", "tuple"], ∀ n ∈ ["bool", "int", "str", "list", "tuple"], kitB a n = some (n == a || (a == "bool" && n == "int")) := by decide +kernel
theorem kit_ok {n : String} (hn : n ∈ ["bool", "int", "str", "list", "tuple"]) (x : D) : kitB (tyD x) n = some (isiD n x) := by
  have h := fun a ha => kit_all a ha n hn
  cases x with
  | bl b =>
    rw [show tyD (.bl b) = "bool" from rfl, h "bool" (by decide)]
    simp [isiD]
  | non => rw [show tyD .non = "NoneType" from rfl, h "NoneType" (by decide)]; simp [isiD, tyD]
  | int b => rw [show tyD (.int b) = "int" from rfl, h "int" (by decide)]; simp [isiD, tyD]
  | str b => rw [show tyD (.str b) = "str" from rfl, h "str" (by decide)]; simp [isiD, tyD]
  | lst b => rw [show tyD (.lst b) = "list" from rfl, h "list" (by decide)]; simp [isiD, tyD]
  | tup b => rw [show tyD (.tup b) = "tuple" from rfl, h "tuple" (by decide)]; simp [isiD, tyD]
def isiE (n : String) (fa : SE) : SE := fun env => bindE (fa env) fun a env1 => (pk a env1).map fun x => Re.ok (.d (.bl (isiD n x))) env1
section
variable {X : Cx} {W : WX} {e : Expr} {fa : SE} {T : Str} {n : String} {p p2 pos : Pos}
theorem pd_isi (hn : n ∈ ["bool", "int", "str", "list", "tuple"]) (hm : X.mg "isinstance" = none) (hT : X.mg T = none) (hb : bootBuiltins T = some (.type n)) (ha : PE X e (dE X.K W fa)) (hgT : Gl X T := by rfl) (hTn : T ≠ "__name__" := by decide) (hTd : (T == ("__debug__" : Str)) = false := by decide) (hg : Gl X "isinstance" := by rfl)
    (he : starEach [e, .Name T p2] X.env = (false, eval e X.env) :: starEach [.Name T p2] X.env := by rfl) (he2 : starEach [.Name T p2] X.env = (false, eval (.Name T p2) X.env) :: starEach [] X.env := by rfl) (hpl : (backTo pos (starEach [.Name T p2] X.env)).any (·.1) = false := by rfl) :
    PE X (.Call (.Name "isinstance" p) [e, .Name T p2] [] pos) (dE X.K W (isiE n fa)) :=
  (pe_callB call_isi hg hm (show bootBuiltins "isinstance" = some (.builtin "isinstance") by rfl) (pa_cons ha (pa_cons (pe_bltn (v := .ty n) hgT hT hb rfl hTn hTd) pa_nil he2) he) (by decide) (by decide) he hpl).wk fun σ H Q q =>
    dE_one q fun a env F R v H1 S rv q => by
      obtain ⟨r, e1, p1⟩ := q
      rw [Option.map_eq_some_iff] at e1
      obtain ⟨x, hx, rfl⟩ := e1
      exact ⟨v, .ty n, .type (tyD x), .type n, isiD n x, rfl, .ty n, tyD_ok S.sub (pk_vw S rv hx), kit_ty (kit_ok hn x), post_d S p1 (.bl _)⟩
end

/-! ### methods that change nothing -/
def SndM (K : PySem.W.Frag) (f : D → List D → Option RV) (r : V → List V → Hp → VK → Prop) : Prop := ∀ {W : WX} {F : Hp} {R : Fm} {σ : L2.St} {H : Hp} {env : Sl} {Q : VK} {x : D} {v : V} {xs : List D} {vs : List V} {z : RV},
  Sta K F R σ H env → Vw K F H v x → VwAll K F H vs xs → f x xs = some z → PostE K W F R σ (.ok z env) Q → r v vs H Q
def metE (T : String) (f : D → List D → Option RV) (fo : SE) (fa : SA) : SE := fun env => bindE (fo env) fun a env1 => (pk a env1).bind fun x0 => if tyD x0 = T then bindA (fa env1) fun as env2 => (pk a env2).bind fun x => (pks as env2).bind fun xs => (f x xs).map (Re.ok · env2) else none
theorem tyV_d {K : PySem.W.Frag} {F H : Hp} {v : V} {x : D} {T : String} (h : Vw K F H v x) (e : tyD x = T) (hT : T = "str" ∨ T = "list") : tyV K T v H := by
  cases x with
  | str s => cases h; exact e.symm
  | lst xs =>
    obtain ⟨a, vs, rfl, s, r⟩ := h
    exact .inl ⟨e.symm, vs, s⟩
  | _ => subst e; rcases hT with h | h <;> simp [tyD] at h
section
variable {K : PySem.W.Frag} {W : WX} {F F' : Hp} {R R' : Fm} {σ : L2.St} {H H' : Hp} {env : Sl} {Q : VK}
theorem PostA.un {QA : List V → Hp → Prop} (e : FEx R R') : ∀ {r : ReA}, PostA K W F R σ r QA → PostA K W F R' σ r QA
  | .ok _ _, h => fun vs F2 H2 R2 e2 eR s q => h vs F2 H2 R2 e2 (e.trans eR) s (q.low e)
  | .ex _ _, h => fun c d F2 H2 e2 s q => h c d F2 H2 e2 (s.unhold e) q
theorem dE_met {T : String} {f : D → List D → Option RV} {r : V → List V → Hp → VK → Prop} {fo : SE} {fa : SA} (hT : T = "str" ∨ T = "list") (hs : SndM K f r) (h : dE K W (metE T f fo fa) σ H Q) : tBM K T r (dE K W fo) (dA K W fa) σ H Q := by
  obtain ⟨env, F, R, S, q⟩ := of_dE h
  refine dE_of S (atE_bind q fun a env1 F1 v H1 e1 S1 rv q1 => ?_)
  obtain ⟨r', e, p⟩ := q1
  rw [Option.bind_eq_some_iff] at e
  obtain ⟨x0, h1, e⟩ := e
  obtain ⟨hty, e⟩ := (show tyD x0 = T ∧ _ = some r' by
    by_cases hc : tyD x0 = T
    · rw [if_pos hc] at e; exact ⟨hc, e⟩
    · rw [if_neg hc] at e; cases e)
  refine ⟨tyV_d (pk_vw S1 rv h1) hty hT, ?_⟩
  obtain ⟨R', eR, S1', hd⟩ := hold S1 rv
  rcases bindA_inv e with ⟨as, env2, h2, h3⟩ | ⟨x, env2, h2, rfl⟩
  · rw [Option.bind_eq_some_iff] at h3
    obtain ⟨x, h4, h3⟩ := h3
    rw [Option.bind_eq_some_iff] at h3
    obtain ⟨xs, h5, h3⟩ := h3
    rw [Option.map_eq_some_iff] at h3
    obtain ⟨z, h6, rfl⟩ := h3
    refine ⟨env1, F1, R', _, S1', h2, fun vs F2 H2 R2 e2 eR2 S2 hv => ?_⟩
    have S3 := S2.unhold eR2
    exact hs (S3.unhold eR) (pk_vw (S3.unhold eR) (unheld e2 eR S3 hd) h4) (pks_vw eR2 S2 hv h5) h6 (p.up e2)
  · exact ⟨env1, F1, R', _, S1', h2, fun cls d F2 H2 e2 S2 hx => p cls d F2 H2 e2 (S2.unhold eR) hx⟩
end
section
variable {X : Cx} {W : WX} {o e : Expr} {es : List Expr} {fo : SE} {fa : SA} {apos pos : Pos} {T id : String} {name : Str} {f : D → List D → Option RV} {r : V → List V → Hp → VK → Prop}
theorem pd_met (hT : T = "str" ∨ T = "list") (pa : PlainAttrs T) (slot : Slot T name id) (hty : typeOf (.builtin id) = pure (.type "method_descriptor")) (hm : MtR X id r) (hs : SndM X.K f r) (ho : PE X o (dE X.K W fo)) (ha : PA X (e :: es) (dA X.K W fa))
    (hbase : attributeBase o name X.env (eval o X.env) = eval o X.env := by rfl)
    (hfew : ((backTo pos (starEach (e :: es) X.env)).all (fun x => !x.1) && (backToKw pos (keywordEach [] X.env)).all (fun x => x.1.isSome)
      && decide ((e :: es).length + ([] : List Keyword).length + (if ([] : List Keyword).isEmpty then 0 else 1) < 30)) = true := by rfl)
    (hline : (apos.endLine == pos.line) = true := by rfl) (hs' : starEach (e :: es) X.env = (false, eval e X.env) :: starEach es X.env := by rfl) (hplain : (backTo pos (starEach es X.env)).any (·.1) = false := by rfl) :
    PE X (.Call (.Attribute o name apos) (e :: es) [] pos) (dE X.K W (metE T f fo fa)) := (pe_bm pa slot hty hm ho ha hbase hfew hline hs' hplain).wk fun _ _ _ q => dE_met hT hs q
end

/-! ### join -/
def txts : List D → Option (List (List Nat))
  | [] => some []
  | .str x :: r => (txts r).map (x :: ·)
  | _ => none
def joinD : D → List D → Option RV
  | .str a, [.lst xs] => (txts xs).bind fun ys => if (ys.map (·.length)).sum + ys.length * a.length ≤ 100000 then some (.d (.str (TL.joinL a ys))) else none
  | .str a, [.tup xs] => (txts xs).bind fun ys => if (ys.map (·.length)).sum + ys.length * a.length ≤ 100000 then some (.d (.str (TL.joinL a ys))) else none
  | _, _ => none
def rJoin (K : PySem.W.Frag) : V → List V → Hp → VK → Prop := fun x xs H Q => ∃ a p, ∃ ys : List Str, x = .str a ∧ xs = [.ref p] ∧ (SqL K H p (ys.map V.str) ∨ SqT K H p (ys.map V.str)) ∧
    (ys.map (·.length)).sum + ys.length * a.length ≤ 16777216 ∧ Q (.str (Txt.join a ys)) H
theorem txts_rel {K : PySem.W.Frag} {F : Hp} : ∀ {xs : List D} {vs : List V} {ys : List (List Nat)}, RelAll K F vs xs → txts xs = some ys → vs = (ys.map mk).map V.str
  | [], _, ys, r, e => by cases r; cases e; rfl
  | .str x :: xs, _, ys, r, e => by
    have e : (txts xs).map (x :: ·) = some ys := e
    rw [Option.map_eq_some_iff] at e
    obtain ⟨zs, h, rfl⟩ := e
    cases r with
    | cons a b =>
      cases a
      rw [txts_rel b h]
      rfl
  | .non :: _, _, _, _, e => by cases e
  | .bl _ :: _, _, _, _, e => by cases e
  | .int _ :: _, _, _, _, e => by cases e
  | .lst _ :: _, _, _, _, e => by cases e
  | .tup _ :: _, _, _, _, e => by cases e
theorem join_mk (a : List Nat) (ys : List (List Nat)) : Txt.join (mk a) (ys.map mk) = mk (TL.joinL a ys) := by
  rw [TL.join_eq]
  have h := TL.tl_join (mk a) (ys.map mk)
  rw [List.map_map, show (TL.tl ∘ mk) = id from funext fun x => rfl, List.map_id] at h
  rw [← mk_of (Str.join (mk a) (ys.map mk))]
  exact congrArg mk h
theorem lens_mk (ys : List (List Nat)) : (ys.map mk).map (·.length) = ys.map (·.length) := by
  rw [List.map_map]
  exact List.map_congr_left fun x _ => mk_len x
theorem snd_join {K : PySem.W.Frag} : SndM K joinD (rJoin K) := by
  intro W F R σ H env Q x v xs vs z S hx h e p
  have go : ∀ {a : List Nat} {ds : List D} {us : List V} {q : Addr}, v = .str (mk a) → vs = [.ref q] → (SqL K H q us ∨ SqT K H q us) → RelAll K F us ds → ((txts ds).bind fun ys => if (ys.map (·.length)).sum + ys.length * a.length ≤ 100000 then some (RV.d (.str (TL.joinL a ys))) else none) = some z → rJoin K v vs H Q := by
    intro a ds us q e1 e2 hq r e
    subst e1 e2
    rw [Option.bind_eq_some_iff] at e
    obtain ⟨ys, h1, e⟩ := e
    obtain ⟨c, rfl⟩ := some_if e
    have := txts_rel r h1
    subst this
    refine ⟨mk a, q, ys.map mk, rfl, rfl, hq, ?_, ?_⟩
    · rw [lens_mk, List.length_map, mk_len]
      omega
    · rw [join_mk]
      exact post_d S p (.str _)
  cases x with
  | str a =>
    cases hx
    match xs, h, e with
    | [.lst ds], h, e =>
      obtain ⟨w, rfl, q, us, rfl, s, r⟩ := vw1 h
      exact go rfl rfl (.inl s) r e
    | [.tup ds], h, e =>
      obtain ⟨w, rfl, hw⟩ := vw1 h
      cases hw with
      | tup s r => exact go rfl rfl (.inr (ex_t S.sub s)) r e
  | _ => cases e
section
variable {X : Cx} {W : WX} {o e : Expr} {fo : SE} {fa : SA} {apos pos : Pos}
theorem pd_join (ho : PE X o (dE X.K W fo)) (ha : PA X [e] (dA X.K W fa)) (hbase : attributeBase o "join" X.env (eval o X.env) = eval o X.env := by rfl)
    (hfew : ((backTo pos (starEach [e] X.env)).all (fun x => !x.1) && (backToKw pos (keywordEach [] X.env)).all (fun x => x.1.isSome)
      && decide ([e].length + ([] : List Keyword).length + (if ([] : List Keyword).isEmpty then 0 else 1) < 30)) = true := by rfl)
    (hline : (apos.endLine == pos.line) = true := by rfl) (hs' : starEach [e] X.env = (false, eval e X.env) :: starEach [] X.env := by rfl) (hplain : (backTo pos (starEach [] X.env)).any (·.1) = false := by rfl) :
    PE X (.Call (.Attribute o "join" apos) [e] [] pos) (dE X.K W (metE "str" joinD fo fa)) := pd_met (.inl rfl) F.plainAttrs_str F.slot_str_join F.type_str_join mt_join snd_join ho ha hbase hfew hline hs' hplain
end
end
end Dw
namespace Dw
noncomputable section
open PySem PySem.Spec PyProof.Rows L2

/-! ### methods that change a list of one's own -/
section
variable {K : PySem.W.Frag} {W : WX} {F F' : Hp} {R R' : Fm} {σ : L2.St} {H H' : Hp} {env : Sl} {Q : VK}
theorem Sta.mut (S : Sta K F R σ H env) {i : Nat} {b : Bool} {c c' : C} {p : Addr} {o' : HO} (hi : env[i]? = some (.own b c)) (e : σ[i]? = some (some (V.ref p))) (h : CellOk K F o' c') : Sta K F R σ (upd H p o') (env.set i (.own b c')) := by
  obtain ⟨q, o, e1, hF, hR, hp, _⟩ := S.own i b c hi
  rw [e] at e1
  cases e1
  have hl : i < env.length := (List.getElem?_eq_some_iff.mp hi).1
  have other : ∀ {j : Nat} {b1 : Bool} {c1 : C}, (env.set i (.own b c'))[j]? = some (SV.own b1 c1) → (j = i ∧ b1 = b ∧ c1 = c') ∨ (j ≠ i ∧ env[j]? = some (SV.own b1 c1)) := fun {j b1 c1} h => by
    by_cases hj : j = i
    · subst hj
      rw [List.getElem?_set_self hl] at h
      cases h
      exact .inl ⟨rfl, rfl, rfl⟩
    · rw [List.getElem?_set_ne (Ne.symm hj)] at h
      exact .inr ⟨hj, h⟩
  have keep : ∀ {a : Addr} {u : HO}, a ≠ p → H a = some u → upd H p o' a = some u := fun ha q => by rw [upd_ne ha]; exact q
  refine ⟨fun a u q => keep (fun z => by rw [z, hF] at q; cases q) (S.sub a u q), fun a u q => keep (fun z => by rw [z, hR] at q; cases q) (S.fr a u q), S.dis, by rw [List.length_set]; exact S.len, fun j x q => ?_, fun j b1 c1 q => ?_, fun j c1 q => ?_, fun j k bj cj bk ck a h1 h2 h3 h4 => ?_⟩
  · by_cases hj : j = i
    · subst hj
      rw [List.getElem?_set_self hl] at q
      cases q
    · rw [List.getElem?_set_ne (Ne.symm hj)] at q
      exact S.dat j x q
  · rcases other q with ⟨rfl, rfl, rfl⟩ | ⟨hj, q⟩
    · exact ⟨p, o', e, hF, hR, upd_same, h⟩
    · obtain ⟨a, o1, z1, z2, z3, z4, z5⟩ := S.own j b1 c1 q
      exact ⟨a, o1, z1, z2, z3, keep (fun z => hj (S.inj j i _ _ _ _ p q hi (by rw [← z]; exact z1) e)) z4, z5⟩
  · rcases other q with ⟨rfl, h1, h2⟩ | ⟨hj, q⟩
    · subst h1; exact S.tag j c hi
    · exact S.tag j c1 q
  · have get : ∀ {j : Nat} {b1 : Bool} {c1 : C}, (env.set i (.own b c'))[j]? = some (SV.own b1 c1) → ∃ b2 c2, env[j]? = some (SV.own b2 c2) := fun q => by
      rcases other q with ⟨rfl, _, _⟩ | ⟨_, q⟩
      · exact ⟨_, _, hi⟩
      · exact ⟨_, _, q⟩
    obtain ⟨_, _, g1⟩ := get h1
    obtain ⟨_, _, g2⟩ := get h2
    exact S.inj j k _ _ _ _ a g1 g2 h3 h4
def SndU (K : PySem.W.Frag) (f : List D → List D → Option (D × List D)) (r : V → List V → Hp → VK → Prop) : Prop := ∀ {F H : Hp} {Q : VK} {l : Addr} {ws vs : List V} {ys xs : List D} {z : D × List D},
  Ex F H → H l = some (.lst ws) → RelAll K F ws ys → RelAll K F vs xs → f ys xs = some z → (∀ v ws', Rel K F v z.1 → RelAll K F ws' z.2 → Q v (upd H l (.lst ws'))) → r (.ref l) vs H Q
def ownL : Option SV → Option (Bool × List D)
  | some (.own b (.lst ys)) => some (b, ys)
  | _ => none
def mutE (f : List D → List D → Option (D × List D)) (fo : SE) (fa : SA) : SE := fun env => bindE (fo env) fun a env1 => match a with
  | .cv i => (ownL env1[i]?).bind fun _ => bindA (fa env1) fun as env2 => (frzs as env2).bind fun p => (ownL p.2[i]?).bind fun o => (f o.2 p.1).map fun q => Re.ok (.d q.1) (p.2.set i (.own o.1 (.lst q.2)))
  | _ => none
theorem ownL_some {s : Option SV} {b : Bool} {ys : List D} (h : ownL s = some (b, ys)) : s = some (.own b (.lst ys)) := by
  cases s with
  | none => cases h
  | some s =>
    cases s with
    | own b c => cases c; cases h; rfl
    | un => cases h
    | d x => cases h
theorem dE_mut {f : List D → List D → Option (D × List D)} {r : V → List V → Hp → VK → Prop} {fo : SE} {fa : SA} (hs : SndU K f r) (h : dE K W (mutE f fo fa) σ H Q) : tBM K "list" r (dE K W fo) (dA K W fa) σ H Q := by
  obtain ⟨env, F, R, S, q⟩ := of_dE h
  refine dE_of S (atE_bind q fun a env1 F1 v H1 e1 S1 rv q1 => ?_)
  obtain ⟨r', e, p⟩ := q1
  cases a with
  | d x => cases e
  | own c => cases e
  | cv i =>
    have rv : σ[i]? = some (some v) := rv
    have e : ((ownL env1[i]?).bind fun _ => bindA (fa env1) fun as env2 => (frzs as env2).bind fun p => (ownL p.2[i]?).bind fun o => (f o.2 p.1).map fun q => Re.ok (.d q.1) (p.2.set i (.own o.1 (.lst q.2)))) = some r' := e
    rw [Option.bind_eq_some_iff] at e
    obtain ⟨⟨b0, y0⟩, h1, e⟩ := e
    obtain ⟨p0, o0, z1, _, _, z4, ws0, rfl, _⟩ := S1.own i _ _ (ownL_some h1)
    rw [rv] at z1
    cases z1
    refine ⟨.inl ⟨rfl, ws0, .inl (Rd.of z4)⟩, ?_⟩
    rcases bindA_inv e with ⟨as, env2, h2, h3⟩ | ⟨x, env2, h2, rfl⟩
    · rw [Option.bind_eq_some_iff] at h3
      obtain ⟨⟨xs, env3⟩, h4, h3⟩ := h3
      rw [Option.bind_eq_some_iff] at h3
      obtain ⟨⟨b, ys⟩, h5, h3⟩ := h3
      rw [Option.map_eq_some_iff] at h3
      obtain ⟨⟨d, zs⟩, h6, rfl⟩ := h3
      refine ⟨env1, F1, R, _, S1, h2, fun vs F2 H2 R2 e2 eR2 S2 hv => ?_⟩
      obtain ⟨F3, R3, e3, eR3, S3, rr⟩ := frzs_held eR2 S2 hv h4
      have S4 := S3.unhold eR3
      have h5 := ownL_some h5
      obtain ⟨p1, o1, z1, z2, z3, z4, ws, rfl, z5⟩ := S4.own i _ _ h5
      rw [rv] at z1
      cases z1
      exact hs S4.sub z4 z5 rr h6 fun v ws' r1 r2 => p v F3 _ (e2.trans e3) (S4.mut h5 rv ⟨ws', rfl, r2⟩) r1
    · exact ⟨env1, F1, R, _, S1, h2, p⟩
end
def appU : List D → List D → Option (D × List D)
  | ys, [x] => if ys.length < 100000 then some (.non, ys ++ [x]) else none
  | _, _ => none
theorem rel1 {K : PySem.W.Frag} {F : Hp} {vs : List V} {x : D} (h : RelAll K F vs [x]) : ∃ v, vs = [v] ∧ Rel K F v x := by
  cases h with
  | cons a b => cases b; exact ⟨_, rfl, a⟩
theorem snd_app {K : PySem.W.Frag} : SndU K appU rAppend := by
  intro F H Q l ws vs ys xs z eF hl rw' rv e q
  match xs, rv, e with
  | [x], rv, e =>
    obtain ⟨c, rfl⟩ := some_if e
    obtain ⟨v, rfl, r⟩ := rel1 rv
    refine ⟨l, ws, v, rfl, rfl, hl, ?_, q .non _ .non (rw'.app (.cons r .nil))⟩
    rw [rw'.len]
    exact Nat.lt_of_lt_of_le c (by decide)
/-- pop(k) -/
def popAtU : List D → List D → Option (D × List D)
  | ys, [.int i] => if okP (-(2 ^ 63) ≤ i ∧ i < 2 ^ 63) then (seqIndex? i ys.length).bind fun k => (ys[k]?).map fun d => (d, ys.eraseIdx k) else none
  | _, _ => none
theorem RelAll.erase {K : PySem.W.Frag} {F : Hp} : ∀ {vs : List V} {ds : List D} (k : Nat), RelAll K F vs ds → RelAll K F (vs.eraseIdx k) (ds.eraseIdx k)
  | _, [], _, h => by cases h; exact .nil
  | _, d :: ds, 0, h => by
    cases h with
    | cons a b => exact b
  | _, d :: ds, k + 1, h => by
    cases h with
    | cons a b => exact .cons a (RelAll.erase k b)
theorem snd_popAt {K : PySem.W.Frag} : SndU K popAtU rPopAt := by
  intro F H Q l ws vs ys xs z eF hl rw' rv e q
  match xs, rv, e with
  | [.int i], rv, e =>
    obtain ⟨v, rfl, r⟩ := rel1 rv
    cases r
    have e : (if okP (-(2 ^ 63) ≤ i ∧ i < 2 ^ 63) then (seqIndex? i ys.length).bind fun k => (ys[k]?).map fun d => (d, ys.eraseIdx k) else none) = some z := e
    by_cases hc : okP (-(2 ^ 63) ≤ i ∧ i < 2 ^ 63) = true
    · rw [if_pos hc, Option.bind_eq_some_iff] at e
      obtain ⟨k, h1, e⟩ := e
      rw [Option.map_eq_some_iff] at e
      obtain ⟨d, h2, rfl⟩ := e
      obtain ⟨w, h3, r⟩ := rw'.getD h2
      rw [okP_iff] at hc
      exact ⟨l, ws, i, k, w, rfl, rfl, hl, hc.1, hc.2, by rw [rw'.len]; exact h1, h3, q w _ r (rw'.erase k)⟩
    · rw [if_neg hc] at e
      cases e
section
variable {X : Cx} {W : WX} {o e : Expr} {es : List Expr} {fo : SE} {fa : SA} {apos pos : Pos} {id : String} {name : Str} {f : List D → List D → Option (D × List D)} {r : V → List V → Hp → VK → Prop}
theorem pd_mut (slot : Slot "list" name id) (hty : typeOf (.builtin id) = pure (.type "method_descriptor")) (hm : MtR X id r) (hs : SndU X.K f r) (ho : PE X o (dE X.K W fo)) (ha : PA X (e :: es) (dA X.K W fa))
    (hbase : attributeBase o name X.env (eval o X.env) = eval o X.env := by rfl)
    (hfew : ((backTo pos (starEach (e :: es) X.env)).all (fun x => !x.1) && (backToKw pos (keywordEach [] X.env)).all (fun x => x.1.isSome)
      && decide ((e :: es).length + ([] : List Keyword).length + (if ([] : List Keyword).isEmpty then 0 else 1) < 30)) = true := by rfl)
    (hline : (apos.endLine == pos.line) = true := by rfl) (hs' : starEach (e :: es) X.env = (false, eval e X.env) :: starEach es X.env := by rfl) (hplain : (backTo pos (starEach es X.env)).any (·.1) = false := by rfl) :
    PE X (.Call (.Attribute o name apos) (e :: es) [] pos) (dE X.K W (mutE f fo fa)) := (pe_bm F.plainAttrs_list slot hty hm ho ha hbase hfew hline hs' hplain).wk fun _ _ _ q => dE_mut hs q
theorem pd_append (ho : PE X o (dE X.K W fo)) (ha : PA X [e] (dA X.K W fa)) (hbase : attributeBase o "append" X.env (eval o X.env) = eval o X.env := by rfl)
    (hfew : ((backTo pos (starEach [e] X.env)).all (fun x => !x.1) && (backToKw pos (keywordEach [] X.env)).all (fun x => x.1.isSome)
      && decide ([e].length + ([] : List Keyword).length + (if ([] : List Keyword).isEmpty then 0 else 1) < 30)) = true := by rfl)
    (hline : (apos.endLine == pos.line) = true := by rfl) (hs' : starEach [e] X.env = (false, eval e X.env) :: starEach [] X.env := by rfl) (hplain : (backTo pos (starEach [] X.env)).any (·.1) = false := by rfl) :
    PE X (.Call (.Attribute o "append" apos) [e] [] pos) (dE X.K W (mutE appU fo fa)) := pd_mut F.slot_list_append F.type_list_append mt_append snd_app ho ha hbase hfew hline hs' hplain
theorem pd_popAt (ho : PE X o (dE X.K W fo)) (ha : PA X [e] (dA X.K W fa)) (hbase : attributeBase o "pop" X.env (eval o X.env) = eval o X.env := by rfl)
    (hfew : ((backTo pos (starEach [e] X.env)).all (fun x => !x.1) && (backToKw pos (keywordEach [] X.env)).all (fun x => x.1.isSome)
      && decide ([e].length + ([] : List Keyword).length + (if ([] : List Keyword).isEmpty then 0 else 1) < 30)) = true := by rfl)
    (hline : (apos.endLine == pos.line) = true := by rfl) (hs' : starEach [e] X.env = (false, eval e X.env) :: starEach [] X.env := by rfl) (hplain : (backTo pos (starEach [] X.env)).any (·.1) = false := by rfl) :
    PE X (.Call (.Attribute o "pop" apos) [e] [] pos) (dE X.K W (mutE popAtU fo fa)) := pd_mut F.slot_list_pop F.type_list_pop mt_popAt snd_popAt ho ha hbase hfew hline hs' hplain
end
end
end Dw
namespace Dw
noncomputable section
open PySem PySem.Spec PyProof.Rows L2

/-! ### < of tuples and lists -/
def rLtD (K : PySem.W.Frag) : R2 := fun x y H Q => ∃ d e, Dp K H x d ∧ Dp K H y e ∧ PySem.W.alike d e = true ∧ d ≠ .none ∧ d.depth ≤ 64 ∧ Q (.bl (PySem.W.dataLt d e)) H
theorem op_ltD {X : Cx} (hu : X.A.units + 64 < cLine) : OpR X (compareOp .Lt) (rLtD X.K) := by
  intro pins s σ H x y v u Q I rx ry h
  obtain ⟨d, e, hd, he, ha, hn, hz, q⟩ := h
  obtain ⟨as, r1⟩ := Dp.reads I d x v hd rx
  obtain ⟨bs, r2⟩ := Dp.reads I e y u he ry
  exact PySem.W.rcLt_alike d e X.A s v u as bs r1 r2 ha hn (by omega) X.prog X.w _ _ ⟨.bl _, H, I, rfl, q⟩
mutual
def ltB : D → D → Bool
  | .bl a, .bl b => decide (b2i a < b2i b)
  | .int a, .int b => decide (a < b)
  | .str a, .str b => decide (a < b)
  | .lst a, .lst b => ltBs a b
  | .tup a, .tup b => ltBs a b
  | _, _ => false
def ltBs : List D → List D → Bool
  | x :: xs, y :: ys => if eqB x y then ltBs xs ys else ltB x y
  | [], _ :: _ => true
  | _, [] => false
end
mutual
def alk : D → D → Bool
  | .non, .non => true
  | .bl _, .bl _ => true
  | .int _, .int _ => true
  | .str _, .str _ => true
  | .lst a, .lst b => alks a b
  | .tup a, .tup b => alks a b
  | _, _ => false
def alks : List D → List D → Bool
  | x :: xs, y :: ys => alk x y && alks xs ys
  | _, _ => true
end
mutual
theorem alk_py : ∀ x y : D, PySem.W.alike (py x) (py y) = alk x y
  | .non, y => by cases y <;> simp [py, PySem.W.alike, alk]
  | .bl _, y => by cases y <;> simp [py, PySem.W.alike, alk]
  | .int _, y => by cases y <;> simp [py, PySem.W.alike, alk]
  | .str _, y => by cases y <;> simp [py, PySem.W.alike, alk]
  | .lst xs, y => by
    cases y with
    | lst ys => simp [py, PySem.W.alike, alk, alks_py xs ys]
    | _ => simp [py, PySem.W.alike, alk]
  | .tup xs, y => by
    cases y with
    | tup ys => simp [py, PySem.W.alike, alk, alks_py xs ys]
    | _ => simp [py, PySem.W.alike, alk]
theorem alks_py : ∀ xs ys : List D, PySem.W.alikeAll (pys xs) (pys ys) = alks xs ys
  | [], ys => by cases ys <;> simp [pys, PySem.W.alikeAll, alks]
  | _ :: _, [] => by simp [pys, PySem.W.alikeAll, alks]
  | x :: xs, y :: ys => by simp [pys, PySem.W.alikeAll, alks, alk_py x y, alks_py xs ys]
end
mutual
theorem ltB_py : ∀ x y : D, alk x y = true → x ≠ .non → PySem.W.dataLt (py x) (py y) = ltB x y
  | .non, y, _, h => absurd rfl h
  | .bl a, y, h, _ => by
    cases y <;> first | (simp [alk] at h; done) | skip
    exact PySem.W.dataLt_bool _ _
  | .int a, y, h, _ => by
    cases y <;> first | (simp [alk] at h; done) | skip
    exact PySem.W.dataLt_int _ _
  | .str a, y, h, _ => by
    cases y <;> first | (simp [alk] at h; done) | skip
    exact PySem.W.dataLt_str _ _
  | .lst xs, y, h, _ => by
    cases y <;> first | (simp [alk] at h; done) | skip
    rename_i ys
    rw [alk] at h
    rw [py, py, PySem.W.dataLt_list, ltB, ltBs_py xs ys h]
  | .tup xs, y, h, _ => by
    cases y <;> first | (simp [alk] at h; done) | skip
    rename_i ys
    rw [alk] at h
    rw [py, py, PySem.W.dataLt_tuple, ltB, ltBs_py xs ys h]
theorem ltBs_py : ∀ xs ys : List D, alks xs ys = true → PyProof.Rows.lexLt PyProof.Rows.itemOrd (PySem.W.keyToksAll (pys xs)) (PySem.W.keyToksAll (pys ys)) = ltBs xs ys
  | [], [], _ => by simp [pys, PySem.W.keyToksAll, ltBs, PyProof.Rows.lex_irrefl]
  | [], y :: ys, _ => by
    rw [pys, pys, PySem.W.toks_all_cons]
    simp only [PySem.W.keyToksAll]
    rw [PyProof.Rows.lex_diff (O := PyProof.Rows.itemOrd) (by simp)]
    simp [PyProof.Rows.itemLt, ltBs]
  | x :: xs, [], _ => by
    rw [pys, pys, PySem.W.toks_all_cons]
    simp only [PySem.W.keyToksAll]
    rw [PyProof.Rows.lex_diff (O := PyProof.Rows.itemOrd) (by simp)]
    simp [PyProof.Rows.itemLt, ltBs]
  | x :: xs, y :: ys, h => by
    rw [alks, Bool.and_eq_true] at h
    rw [pys, pys, ltBs]
    have ha : PySem.W.alike (py x) (py y) = true := by rw [alk_py]; exact h.1
    cases e : eqB x y with
    | true => rw [if_pos rfl, PySem.W.dataLt_all_yes ha (by rw [eqv_py]; exact e), ltBs_py xs ys h.2]
    | false =>
      rw [if_neg Bool.false_ne_true, PySem.W.dataLt_all_no ha (by rw [eqv_py]; exact e)]
      exact ltB_py x y h.1 fun z => by
        subst z
        cases y <;> first | (simp [alk] at h; done) | skip
        simp [eqB] at e
end
def seqD : D → Bool
  | .lst _ => true
  | .tup _ => true
  | _ => false
def ltG (x y : D) : Option RV := match x, y with
  | .int i, .int j => some (.d (.bl (decide (i < j))))
  | .str x, .str y => some (.d (.bl (decide (x < y))))
  | x, y => if (seqD x && alk x y) && decide ((py x).depth ≤ 64) then some (.d (.bl (ltB x y))) else none
def rLtG (K : PySem.W.Frag) : R2 := rOr rLtAny (rLtD K)
theorem snd_ltG {K : PySem.W.Frag} : Snd2 K ltG (rLtG K) := by
  intro W F R σ H env Q x y v w z S hx hy e p
  have go : (if (seqD x && alk x y) && decide ((py x).depth ≤ 64) then some (RV.d (.bl (ltB x y))) else none) = some z → rLtG K v w H Q := fun e => by
    obtain ⟨c, rfl⟩ := some_if e
    rw [Bool.and_eq_true, Bool.and_eq_true, decide_eq_true_eq] at c
    have hn : x ≠ .non := fun z => by subst z; simp [seqD] at c
    refine .inr ⟨py x, py y, (hx.rel S.sub).dp, (hy.rel S.sub).dp, by rw [alk_py]; exact c.1.2, fun z => ?_, c.2, ?_⟩
    · cases x <;> first | exact hn rfl | (simp [py] at z)
    · rw [ltB_py x y c.1.2 hn]
      exact post_d S p (.bl _)
  cases x with
  | int i =>
    cases y with
    | int j => exact .inl (snd_lt S hx hy e p)
    | _ => exact go e
  | str i =>
    cases y with
    | str j => exact .inl (snd_lt S hx hy e p)
    | _ => exact go e
  | _ => exact go e
theorem bl_ltG {x y : D} {z : RV} (h : ltG x y = some z) : ∃ b, z = .d (.bl b) := by
  have go : (if (seqD x && alk x y) && decide ((py x).depth ≤ 64) then some (RV.d (.bl (ltB x y))) else none) = some z → ∃ b, z = .d (.bl b) := fun e => by
    obtain ⟨c, rfl⟩ := some_if e
    exact ⟨_, rfl⟩
  cases x with
  | int i =>
    cases y with
    | int j => cases h; exact ⟨_, rfl⟩
    | _ => exact go h
  | str i =>
    cases y with
    | str j => cases h; exact ⟨_, rfl⟩
    | _ => exact go h
  | _ => exact go h
section
variable {X : Cx} {W : WX} {a b : Expr} {fa fb : SE} {pos : Pos}
theorem pd_ltg (hu : X.A.units + 64 < cLine) (ha : PE X a (dE X.K W fa)) (hb : PE X b (dE X.K W fb)) : PE X (.Compare a [.Lt] [b] pos) (dE X.K W (two (op2 ltG) fa fb)) := pd_cmp (OpR.or (OpR.or op_lt op_lt_str) (op_ltD hu)) snd_ltG (nomark _) ha hb
theorem pt_ltg (hu : X.A.units + 64 < cLine) (ha : PE X a (dE X.K W fa)) (hb : PE X b (dE X.K W fb)) : PT X (.Compare a [.Lt] [b] pos) (dT X.K W (two (op2 ltG) fa fb)) := pt_dcmp (OpR.or (OpR.or op_lt op_lt_str) (op_ltD hu)) snd_ltG (fun _ _ _ => bl_ltG) (nomark _) ha hb
end

/-! ### unary minus -/
def negD : D → Option RV
  | .int i => some (.d (.int (-i)))
  | _ => none
def oneE (f : D → Option RV) (fa : SE) : SE := fun env => bindE (fa env) fun a env1 => (pk a env1).bind fun x => (f x).map (Re.ok · env1)

/-! ### what a def means -/
def noX : Option FR → Option FR
  | some (.ok a o) => some (.ok a o)
  | _ => none
def defM (np n : Nat) (body : SS) (args : List SV) : Option FR := if args.length = np then noX (runF n body args) else none
theorem defM_len {np n : Nat} {body : SS} : ∀ as fr, defM np n body as = some fr → as.length = np := fun as fr h => by
  unfold defM at h
  by_cases c : as.length = np
  · exact c
  · rw [if_neg c] at h; cases h
section
variable {P : Program} {w : World} {K : PySem.W.Frag} {mg : Str → Option Value} {base : Heap}
theorem fnd {x qual : Str} {st : Stmt} {f : Addr} {fd : FuncData} {N ps : List Str} {k n : Nat} {body : SS} (F : Fun K x qual st f fd) (S : FnScope N ps (defScope st)) (hn : N.length = ps.length + n)
    (hb : ∀ (cdv : Value) (A : Around) (outer : List Env) (s : Shared) (H : Hp) (E : XK), Room k (A.deeper (envOfC qual (defScope st) s.heap.objs.size f cdv)) → PSs (cxOf CX0 P w K mg base N qual (defScope st) f cdv A outer s H E).nox (defBody st) (dS K W0 body)) :
    FnOk P w K mg base CX0 (k + 1) f fd ps (spD K ps.length (defM ps.length n body)) := (fnd_ok (n := n) F S hn hb).imp fun vs H Q E h => by
  obtain ⟨F, R, args, r, h1, h2, h3, h4⟩ := h
  refine ⟨F, R, args, r, h1, h2, ?_, h4⟩
  unfold defM at h3
  rw [if_pos h1] at h3
  exact h3
end
end
end Dw
namespace Dw
noncomputable section
open PySem PySem.Spec PyProof.Rows L2

section
variable {X : Cx} {W : WX} {a : Expr} {fa : SE} {pos : Pos}
theorem snd_neg {K : PySem.W.Frag} {F : Hp} {R : Fm} {σ : L2.St} {H : Hp} {env : Sl} {Q : VK} {x : D} {v : V} {z : RV} (S : Sta K F R σ H env) (hx : Vw K F H v x) (e : negD x = some z) (p : PostE K W F R σ (.ok z env) Q) : rU (fun i => .int (-i)) v H Q := by
  cases x with
  | int i =>
    cases hx
    cases e
    exact ⟨i, rfl, post_d S p (.int _)⟩
  | _ => cases e
theorem pd_neg (ha : PE X a (dE X.K W fa)) : PE X (.UnaryOp .USub a pos) (dE X.K W (oneE negD fa)) := (pe_un un_neg ha).wk fun σ H Q q =>
  dE_one q fun a env F R v H1 S rv q => by
    obtain ⟨r, e1, p1⟩ := q
    rw [Option.bind_eq_some_iff] at e1
    obtain ⟨x, hx, e1⟩ := e1
    rw [Option.map_eq_some_iff] at e1
    obtain ⟨z, hz, rfl⟩ := e1
    exact snd_neg S (pk_vw S rv hx) hz p1
end

/-! ### a comprehension's block -/
def blkB (N : List Str) (sc scope : Scope) (own : List (Str × Nat)) : Bool :=
  decide (scope.kind = .function) && scope.names.all (fun y => decide (scope.names.lookup y.1 = some y.2)) && own.all (fun p => decide (N[p.2]? = some p.1)) &&
  scope.names.all (fun y => !decide (y.2 = .free) || decide (sc.names.lookup y.1 = some .cell) || decide (sc.names.lookup y.1 = some .free)) &&
  scope.names.all (fun y => !(decide (y.2 = .local) || decide (y.2 = .cell)) || decide (y.1 ∈ own.map (·.1)) || decide (y.1 ∉ N))
theorem blk_of {N : List Str} {sc scope : Scope} {own : List (Str × Nat)} (h : blkB N sc scope own = true) : BlkOk N sc scope own := by
  unfold blkB at h
  simp only [Bool.and_eq_true, decide_eq_true_eq, List.all_eq_true, Bool.or_eq_true, Bool.not_eq_true', decide_eq_false_iff_not, Bool.or_eq_false_iff] at h
  obtain ⟨⟨⟨⟨h1, h2⟩, h3⟩, h4⟩, h5⟩ := h
  refine ⟨h1, h2, h3, fun y hy hf => ?_, fun y hy hf => ?_⟩
  · rcases h4 y hy with (h | h) | h
    · exact absurd hf h
    · exact .inl h
    · exact .inr h
  · rcases h5 y hy with (h | h) | h
    · rcases hf with hf | hf
      · exact absurd hf h.1
      · exact absurd hf h.2
    · exact .inl h
    · exact .inr h

/-! ### a def, bundled -/
structure Def (P : Program) (w : World) (K : PySem.W.Frag) (mg : Str → Option Value) (base : Heap) (k : Nat) (x : Str) (np : Nat) (m : List SV → Option FR) (dfs : List D) : Prop where
  ex : ∃ (f : Addr) (fd : FuncData) (ps : List Str) (ds : List Value) (dvs : List V), FnOk P w K mg base CX0 k f fd ps (spD K np m) ∧ mg x = some (.ref f) ∧ PySem.W.keepIn K (.ref f) = true ∧ Binds K fd ps ds ∧ Vals dvs ds ∧ (∀ F : Hp, RelAll K F dvs dfs) ∧ ∀ as fr, m as = some fr → as.length = np
theorem Def.mk0 {P : Program} {w : World} {K : PySem.W.Frag} {mg : Str → Option Value} {base : Heap} {k : Nat} {x : Str} {np n : Nat} {body : SS} {f : Addr} {fd : FuncData} {ps : List Str} (F : FnOk P w K mg base CX0 k f fd ps (spD K np (defM np n body))) (hm : mg x = some (.ref f)) (hk : PySem.W.keepIn K (.ref f) = true) (hb : Binds K fd ps []) : Def P w K mg base k x np (defM np n body) [] :=
  ⟨f, fd, ps, [], [], F, hm, hk, hb, .nil, fun _ => .nil, defM_len⟩
theorem r65 {k : Nat} {A : Around} (hr : Room k A) : A.units + 65 < cLine := by have := hr.un; omega
theorem pd_callN {X : Cx} {W : WX} {k j : Nat} {x : Str} {np : Nat} {m : List SV → Option FR} {dfs : List D} {fa : SA} {p pos : Pos} {e : Expr} {es : List Expr} (C : Def X.prog X.w X.K X.mg X.base k x np m dfs) (hr : Room j X.A) (hj : k ≤ j) (ha : PA X (e :: es) (dA X.K W fa)) (hg : Gl X x := by rfl)
    (hdb : (x == ("__debug__" : Str)) = false := by decide) (he : starEach (e :: es) X.env = (false, eval e X.env) :: starEach es X.env := by rfl) (hpl : (backTo pos (starEach es X.env)).any (·.1) = false := by rfl) :
    PE X (.Call (.Name x p) (e :: es) [] pos) (dE X.K W (callD m dfs fa)) := by
  obtain ⟨f, fd, ps, ds, dvs, h1, h2, h3, h4, h5, h6, h7⟩ := C.ex
  exact pd_call h1 (hr.mono hj) h2 h3 h4 h5 (fun σ pins H s e s' I c => c.elim) h6 h7 ha hg hdb he hpl

/-! ### the law -/
def Fm0 : Fm := ⟨fun _ => none, fun _ => 0⟩
theorem fm0 {b : Addr} {u : HO} {p : Prop} (q : Fm0.r b = some u) : p := by
  have q : (none : Option HO) = some u := q
  cases q
theorem law_sp {K : PySem.W.Frag} {H : Hp} {a : Addr} {ns : List Int} {m : List SV → Option FR} {o : List SV} {E : XK} (hS : SqL K H a (ns.map V.int)) (h : m [.d (.lst (ns.map .int))] = some (.ok (.d (.bl true)) o)) : spD K 1 m [.ref a] H (fun v _ => v = .bl true) E := by
  refine ⟨H, Fm0, [.d (.lst (ns.map .int))], _, rfl, ⟨Ex.refl H, fun b u q => fm0 q, fun b u q => fm0 q, rfl, fun i x e => ?_, fun i b c e => ?_, fun i c e => ?_, fun i j bi ci bj cj p h1 _ _ _ => ?_⟩, h, fun v F' H' _ _ rv => ?_⟩
  · match i, e with
    | 0, e =>
      cases e
      exact ⟨_, rfl, .lst hS (RelAll.ints ns)⟩
  · match i, e with
    | 0, e => cases e
  · match i, e with
    | 0, e => cases e
  · match i, h1 with
    | 0, e => cases e
  · have rv : Rel K F' v (.bl true) := rv
    cases rv
    rfl
end
end Dw
namespace Dw
noncomputable section
open PySem PySem.Spec PyProof.Rows L2

/-! ### reckoning with meanings -/
section
variable {env env1 env2 env3 : Sl} {a b : RV} {x y : D} {z : RV} {i : Nat} {f : D → D → Option RV} {fa fb fc fo : SE} {as : List RV} {fr fs : SA} {xs ys : List D} {r : Re}
@[simp] theorem ev_const : constE x env = some (.ok (.d x) env) := rfl
theorem ev_var (h : env[i]? = some (.d x)) : varE i env = some (.ok (.d x) env) := by unfold varE; rw [h]; rfl
theorem ev_varO {c : C} {t : Bool} (h : env[i]? = some (.own t c)) : varE i env = some (.ok (.cv i) env) := by unfold varE; rw [h]; rfl
theorem ev_two (h1 : fa env = some (.ok a env1)) (h2 : fb env1 = some (.ok b env2)) (h3 : pk a env2 = some x) (h4 : pk b env2 = some y) (h5 : f x y = some z) : two (op2 f) fa fb env = some (.ok z env2) := by
  unfold two; rw [h1, bindE_ok, h2, bindE_ok]; unfold op2; rw [h3, h4]; show (f x y).map _ = _; rw [h5]; rfl
theorem ev_one {g : D → Option RV} (h1 : fa env = some (.ok a env1)) (h3 : pk a env1 = some x) (h5 : g x = some z) : oneE g fa env = some (.ok z env1) := by
  unfold oneE; rw [h1, bindE_ok, h3, Option.bind_some, h5]; rfl
theorem pk_d : pk (.d x) env = some x := rfl
theorem pk_own : pk (.own (.lst xs)) env = some (.lst xs) := rfl
theorem pk_cv {t : Bool} (h : env[i]? = some (.own t (.lst xs))) : pk (.cv i) env = some (.lst xs) := by unfold pk; dsimp only; rw [h]; rfl
theorem ev_nil : nilA env = some (.ok [] env) := rfl
theorem ev_cons (h1 : fa env = some (.ok a env1)) (h2 : fs env1 = some (.ok as env2)) : consA fa fs env = some (.ok (a :: as) env2) := by
  unfold consA; rw [h1, bindEA_ok, h2]; rfl
theorem pks_nil : pks [] env = some [] := rfl
theorem pks_cons (h1 : pk a env = some x) (h2 : pks as env = some xs) : pks (a :: as) env = some (x :: xs) := by
  unfold pks; rw [h1, Option.bind_some, h2]; rfl
theorem ev_callE {g : List D → Option RV} (h1 : fs env = some (.ok as env1)) (h2 : pks as env1 = some xs) (h3 : g xs = some z) : callE g fs env = some (.ok z env1) := by
  unfold callE; rw [h1, bindA_ok, h2, Option.bind_some, h3]; rfl
theorem ev_isi {n : String} (h1 : fa env = some (.ok a env1)) (h2 : pk a env1 = some x) : isiE n fa env = some (.ok (.d (.bl (isiD n x))) env1) := by
  unfold isiE; rw [h1, bindE_ok, h2]; rfl
theorem frz_d : frz (.d x) env = some (x, env) := rfl
theorem frz_own : frz (.own (.lst xs)) env = some (.lst xs, env) := rfl
theorem frz_cv (h : env[i]? = some (.own false (.lst xs))) (h2 : env.set i (.d (.lst xs)) = env1) : frz (.cv i) env = some (.lst xs, env1) := by subst h2; unfold frz; dsimp only; rw [h]; rfl
theorem frzs_nil : frzs [] env = some ([], env) := rfl
theorem frzs_cons (h1 : frz a env = some (x, env1)) (h2 : frzs as env1 = some (xs, env2)) : frzs (a :: as) env = some (x :: xs, env2) := by
  unfold frzs; rw [h1, Option.bind_some, h2]; rfl
theorem ev_tup (h1 : fs env = some (.ok as env1)) (h2 : frzs as env1 = some (xs, env2)) (h3 : xs.length ≤ 100000) : tupE fs env = some (.ok (.d (.tup xs)) env2) := by
  unfold tupE; rw [h1, bindA_ok, h2, Option.bind_some]; exact if_pos h3
theorem ev_lst (h1 : fs env = some (.ok as env1)) (h2 : frzs as env1 = some (xs, env2)) (h3 : xs.length ≤ 100000) : lstE fs env = some (.ok (.own (.lst xs)) env2) := by
  unfold lstE; rw [h1, bindA_ok, h2, Option.bind_some]; exact if_pos h3
/-- a call of a def -/
theorem ev_callD {m : List SV → Option FR} {ds : List D} {o vs : List SV} {a' : RV} (h1 : fs env = some (.ok as env1)) (h2 : frzs as env1 = some (xs, env2)) (he : (xs ++ ds).map SV.d = vs) (h3 : m vs = some (.ok a' o)) (h4 : retV a' = some b) : callD m ds fs env = some (.ok b env2) := by
  subst he
  unfold callD; rw [h1, bindA_ok, h2, Option.bind_some, h3]; show (retV a').map _ = _; rw [h4]; rfl
theorem ret_d : retV (.d x) = some (.d x) := rfl
theorem ret_own {c : C} : retV (.own c) = some (.own c) := rfl
theorem mapd_nn : (([] : List D) ++ []).map SV.d = [] := rfl
theorem mapd_c {ds : List D} {vs : List SV} (h : (xs ++ ds).map SV.d = vs) : ((x :: xs) ++ ds).map SV.d = .d x :: vs := by subst h; rfl
theorem mapd_d {ds : List D} {vs : List SV} (h : (([] : List D) ++ ds).map SV.d = vs) : (([] : List D) ++ (x :: ds)).map SV.d = .d x :: vs := by subst h; rfl
theorem tru_bl {t : Bool} : tru (.d (.bl t)) env = some t := rfl
theorem tru_of_pk {t : Bool} (h : pk a env = some x) (h2 : truD x = some t) : tru a env = some t := by unfold tru; rw [h]; exact h2
theorem ev_not {t : Bool} (h1 : fa env = some (.ok a env1)) (h2 : tru a env1 = some t) : notE fa env = some (.ok (.d (.bl (!t))) env1) := by
  unfold notE; rw [h1, bindE_ok, h2]; rfl
theorem ev_andT (h1 : fa env = some (.ok a env1)) (h2 : tru a env1 = some true) (h3 : fb env1 = some r) : andE fa fb env = some r := by
  unfold andE; rw [h1, bindE_ok, h2]; exact h3
theorem ev_andF (h1 : fa env = some (.ok a env1)) (h2 : tru a env1 = some false) : andE fa fb env = some (.ok a env1) := by
  unfold andE; rw [h1, bindE_ok, h2]
theorem ev_orF (h1 : fa env = some (.ok a env1)) (h2 : tru a env1 = some false) (h3 : fb env1 = some r) : orE fa fb env = some r := by
  unfold orE; rw [h1, bindE_ok, h2]; exact h3
theorem ev_orT (h1 : fa env = some (.ok a env1)) (h2 : tru a env1 = some true) : orE fa fb env = some (.ok a env1) := by
  unfold orE; rw [h1, bindE_ok, h2]
/-- and, or of two truth values -/
theorem ev_andB {t u : Bool} (h1 : fa env = some (.ok (.d (.bl t)) env)) (h3 : fb env = some (.ok (.d (.bl u)) env)) : andE fa fb env = some (.ok (.d (.bl (t && u))) env) := by
  cases t with
  | true => exact ev_andT h1 rfl h3
  | false => exact ev_andF h1 rfl
theorem ev_orB {t u : Bool} (h1 : fa env = some (.ok (.d (.bl t)) env)) (h3 : fb env = some (.ok (.d (.bl u)) env)) : orE fa fb env = some (.ok (.d (.bl (t || u))) env) := by
  cases t with
  | true => exact ev_orT h1 rfl
  | false => exact ev_orF h1 rfl h3
theorem ev_ifT (h1 : fc env = some (.ok a env1)) (h2 : tru a env1 = some true) (h3 : fa env1 = some r) : ifE fc fa fb env = some r := by
  unfold ifE; rw [h1, bindE_ok, h2]; exact h3
theorem ev_ifF (h1 : fc env = some (.ok a env1)) (h2 : tru a env1 = some false) (h3 : fb env1 = some r) : ifE fc fa fb env = some r := by
  unfold ifE; rw [h1, bindE_ok, h2]; exact h3
theorem ev_met {T : String} {g : D → List D → Option RV} (h1 : fo env = some (.ok a env1)) (h2 : pk a env1 = some x) (h3 : tyD x = T) (h4 : fs env1 = some (.ok as env2)) (h5 : pk a env2 = some y) (h6 : pks as env2 = some xs) (h7 : g y xs = some z) : metE T g fo fs env = some (.ok z env2) := by
  unfold metE; rw [h1, bindE_ok, h2, Option.bind_some, if_pos h3, h4, bindA_ok, h5, Option.bind_some, h6, Option.bind_some, h7]; rfl
theorem ev_mut {g : List D → List D → Option (D × List D)} {t t2 : Bool} {ys0 : C} {ys2 zs : List D} {env4 : Sl} (h1 : fo env = some (.ok (.cv i) env1)) (h2 : env1[i]? = some (.own t ys0)) (h2' : ys0 = .lst ys) (h4 : fs env1 = some (.ok as env2)) (h5 : frzs as env2 = some (xs, env3)) (h6 : env3[i]? = some (.own t2 (.lst ys2))) (h7 : g ys2 xs = some (x, zs)) (h8 : env3.set i (.own t2 (.lst zs)) = env4) :
    mutE g fo fs env = some (.ok (.d x) env4) := by
  subst h2' h8
  unfold mutE; rw [h1, bindE_ok]; dsimp only; rw [h2]; show (some (t, ys)).bind _ = _; rw [Option.bind_some, h4, bindA_ok, h5, Option.bind_some]; dsimp only; rw [h6]; show (some (t2, ys2)).bind _ = _; rw [Option.bind_some]; dsimp only; rw [h7]; rfl
/-- slices -/
def oI : Option Int → Option Int := id
theorem bo_none {k : Option Int → SE} : bindO none env k = k none env := rfl
theorem bo_some {k : Option Int → SE} {n : Int} (h1 : fa env = some (.ok a env1)) (h2 : pk a env1 = some (.int n)) : bindO (some fa) env k = k (some n) env1 := by
  unfold bindO; dsimp only; rw [h1, bindE_ok, h2]
theorem ev_sl {fl fh : Option SE} {lo hi : Option Int} (h1 : fo env = some (.ok a env1)) (h2 : ∀ k, bindO fl env1 k = k lo env2) (h3 : ∀ k, bindO fh env2 k = k hi env3) (h4 : pk a env3 = some x) (h5 : cutD x lo hi = some z) : sliceE fo fl fh env = some (.ok z env3) := by
  unfold sliceE; rw [h1, bindE_ok, h2, h3, h4, Option.bind_some, h5]; rfl
end
section
variable {env env1 env2 : Sl} {f g : SS} {fe fc : SE} {a : RV} {x : D} {i : Nat} {o : Out} {tg : Tg} {body : SS} {fi : SI} {xs ys : List D} {fa : SA} {as : List RV}
theorem ev_seq (h : f env = some (.nx env1)) : seqS f g env = g env1 := by unfold seqS; rw [h]
theorem ev_seq2 (h : f env = some (.nx env1)) (h2 : g env1 = some o) : seqS f g env = some o := by unfold seqS; rw [h]; exact h2
theorem ev_seq_rt (h : f env = some (.rt a env1)) : seqS f g env = some (.rt a env1) := by unfold seqS; rw [h]
theorem ev_iteT (h : fc env = some (.ok a env1)) (ht : tru a env1 = some true) (h2 : f env1 = some o) : iteS fc f g env = some o := by
  unfold iteS bindS; rw [h]; dsimp only; rw [ht]; exact h2
theorem ev_iteF (h : fc env = some (.ok a env1)) (ht : tru a env1 = some false) (h2 : g env1 = some o) : iteS fc f g env = some o := by
  unfold iteS bindS; rw [h]; dsimp only; rw [ht]; exact h2
theorem ev_ret (h : fe env = some (.ok a env1)) : retS fe env = some (.rt a env1) := by unfold retS bindS; rw [h]
theorem ev_skip : skipS env = some (.nx env) := rfl
theorem ev_expr (h : fe env = some (.ok a env1)) : exprS fe env = some (.nx env1) := by unfold exprS bindS; rw [h]
theorem ev_asg (h : fe env = some (.ok a env1)) (h2 : storeR i a env1 = some env2) : asgS i fe env = some (.nx env2) := by unfold asgS bindS; rw [h]; dsimp only; rw [h2]; rfl
theorem st_d (h : freeSlot env[i]? = true) (h2 : env.set i (.d x) = env2) : storeR i (.d x) env = some env2 := by subst h2; unfold storeR setSlot; dsimp only; rw [if_pos h]
theorem st_own {c : C} (h : freeSlot env[i]? = true) (h2 : env.set i (.own false c) = env2) : storeR i (.own c) env = some env2 := by subst h2; unfold storeR setSlot; dsimp only; rw [if_pos h]
theorem ty_str {x : List Nat} : tyD (.str x) = "str" := rfl
theorem ty_lst {x : List D} : tyD (.lst x) = "list" := rfl
theorem st_cv {j : Nat} (h : frz (.cv j) env = some (x, env1)) (h2 : freeSlot env1[i]? = true) (h3 : env1.set i (.d x) = env2) : storeR i (.cv j) env = some env2 := by subst h3; unfold storeR; dsimp only; rw [h, Option.bind_some]; unfold setSlot; rw [if_pos h2]
theorem fs_ok {s : Option SV} (h : freeSlot s = true) : freeSlot s = true := h
theorem gE {env : Sl} {i : Nat} {s : SV} (h : env[i]? = some s) : env[i]? = some s := h
theorem lst_eq {ys : List D} : C.lst ys = C.lst ys := rfl
theorem set_z {s t : SV} {l : Sl} : (s :: l).set 0 t = t :: l := rfl
theorem set_s {s t : SV} {l l' : Sl} {n : Nat} (h : l.set n t = l') : (s :: l).set (n + 1) t = s :: l' := by subst h; rfl
theorem ev_for (h : fi env = some (.ok xs env1)) : forS fi tg body env = loopD tg body xs env1 := by unfold forS; rw [h]
theorem ev_src (h : fe env = some (.ok a env1)) (h2 : frz a env1 = some (x, env2)) (h3 : itemsD x = some xs) : srcE fe env = some (.ok xs env2) := by
  unfold srcE; rw [h]; show (frz a env1).bind _ = _; rw [h2, Option.bind_some, h3]; rfl
theorem ev_args {g : List D → Option (List D)} (h : fa env = some (.ok as env1)) (h2 : pks as env1 = some xs) (h3 : g xs = some ys) : argsI g fa env = some (.ok ys env1) := by
  unfold argsI bindAI
  rw [h]
  dsimp only
  rw [h2, Option.bind_some, h3]
  rfl
end
theorem modI_ok {i j : Int} (h : 0 < j) : modI i j = some (i % j) := by unfold modI; rw [if_pos (okP_iff.mpr h)]
theorem fdivI_ok {i j : Int} (h : 0 < j) (h2 : j < 1073741824) : fdivI i j = some (i / j) := by unfold fdivI; rw [if_pos (okP_iff.mpr ⟨h, h2⟩)]
theorem big64_iff {i : Int} : big64 i = true ↔ -(2 ^ 64) < i ∧ i < 2 ^ 64 := okP_iff
theorem mulI_l {i j : Int} (h : big64 i = true) : mulI i j = some (i * j) := by unfold mulI; rw [h]; rfl
theorem mulI_r {i j : Int} (h : big64 j = true) : mulI i j = some (i * j) := by unfold mulI; rw [h, Bool.or_true]; rfl
theorem powI_18 : powI 10 18 = some 1000000000000000000 := by
  unfold powI
  rw [if_pos (okP_iff.mpr ⟨⟨by decide, by decide⟩, by decide⟩)]
  rfl
theorem mod_ok {i j : Int} (h : 0 < j) : modD (.int i) (.int j) = some (.d (.int (i % j))) := by show (modI i j).map _ = _; rw [modI_ok h]; rfl
theorem fdiv_ok {i j : Int} (h : 0 < j) (h2 : j < 1073741824) : fdivD (.int i) (.int j) = some (.d (.int (i / j))) := by show (fdivI i j).map _ = _; rw [fdivI_ok h h2]; rfl
theorem mul_l {i j : Int} (h : big64 i = true) : mulD (.int i) (.int j) = some (.d (.int (i * j))) := by show (mulI i j).map _ = _; rw [mulI_l h]; rfl
theorem mul_r {i j : Int} (h : big64 j = true) : mulD (.int i) (.int j) = some (.d (.int (i * j))) := by show (mulI i j).map _ = _; rw [mulI_r h]; rfl
theorem pow_18 : powD (.int 10) (.int 18) = some (.d (.int 1000000000000000000)) := by show (powI 10 18).map _ = _; rw [powI_18]; rfl
theorem len_str {x : List Nat} (h : x.length ≤ sizeLine) : lenD [.str x] = some (.d (.int x.length)) := if_pos h
theorem len_lst {x : List D} : lenD [.lst x] = some (.d (.int x.length)) := rfl
theorem len_tup {x : List D} : lenD [.tup x] = some (.d (.int x.length)) := rfl
theorem get_str {x : List Nat} {i : Int} {c : Nat} (h : x.length ≤ sizeLine) (h2 : L2.atI x i = some c) : getD (.str x) (.int i) = some (.d (.str [c])) := by
  show (if x.length ≤ sizeLine then _ else none) = _; rw [if_pos h, h2]; rfl
theorem get_lst {x : List D} {i : Int} {c : D} (h2 : L2.atI x i = some c) : getD (.lst x) (.int i) = some (.d c) := by show (L2.atI x i).map _ = _; rw [h2]; rfl
theorem get_tup {x : List D} {i : Int} {c : D} (h2 : L2.atI x i = some c) : getD (.tup x) (.int i) = some (.d c) := by show (L2.atI x i).map _ = _; rw [h2]; rfl
theorem app_ok {xs : List D} {x : D} (h : xs.length < 100000) : appU xs [x] = some (.non, xs ++ [x]) := if_pos h
theorem add_str {x y : List Nat} (h : x.length + y.length ≤ sizeLine) : addD (.str x) (.str y) = some (.d (.str (x ++ y))) := if_pos h
theorem cut_str {x : List Nat} {lo hi : Option Int} (h : x.length ≤ sizeLine) : cutD (.str x) lo hi = some (.d (.str (cutL x lo hi))) := if_pos h
theorem rng1_nat {n : Nat} (h : n ≤ 1000000) : rng1 [.int n] = some ((List.range n).map fun i => .int (i : Nat)) := by
  have q : okP (-(2 ^ 62) ≤ (n : Int) ∧ (n : Int) < 2 ^ 62) = true := okP_iff.mpr (by omega)
  unfold rng1
  dsimp only
  rw [if_pos q]
  rfl
section
variable {i j : Int} {a b : Bool} {x y : List Nat} {c : Nat} {ds es : List D}
theorem eq_int : eqD (.int i) (.int j) = some (.d (.bl (i == j))) := rfl
theorem ne_int : neD (.int i) (.int j) = some (.d (.bl (!(i == j)))) := rfl
theorem eq_str : eqD (.str x) (.str y) = some (.d (.bl (x == y))) := rfl
theorem ne_str : neD (.str x) (.str y) = some (.d (.bl (!(x == y)))) := rfl
theorem eq_bl : eqD (.bl a) (.bl b) = some (.d (.bl (a == b))) := rfl
theorem ne_bl : neD (.bl a) (.bl b) = some (.d (.bl (!(a == b)))) := rfl
theorem lt_int' : ltG (.int i) (.int j) = some (.d (.bl (decide (i < j)))) := rfl
theorem lt_str' : ltG (.str x) (.str y) = some (.d (.bl (decide (x < y)))) := rfl
theorem le_int' : leD (.int i) (.int j) = some (.d (.bl (decide (i ≤ j)))) := rfl
theorem gt_int' : gtD (.int i) (.int j) = some (.d (.bl (decide (j < i)))) := rfl
theorem ge_int' : geD (.int i) (.int j) = some (.d (.bl (decide (j ≤ i)))) := rfl
theorem add_int' : addD (.int i) (.int j) = some (.d (.int (i + j))) := rfl
theorem sub_int' : subD (.int i) (.int j) = some (.d (.int (i - j))) := rfl
theorem neg_int' : negD (.int i) = some (.d (.int (-i))) := rfl
theorem ord_str : ordC [.str [c]] = some (.d (.int c)) := rfl
theorem int_int : intC [.int i] = some (.d (.int i)) := rfl
theorem int_bl : intC [.bl a] = some (.d (.int (b2i a))) := rfl
theorem list_lst : listC [.lst ds] = some (.own (.lst ds)) := rfl
theorem list_tup : listC [.tup ds] = some (.own (.lst ds)) := rfl
theorem tup_lst : tupleC [.lst ds] = some (.d (.tup ds)) := rfl
theorem tup_tup : tupleC [.tup ds] = some (.d (.tup ds)) := rfl
theorem it_lst : itemsD (.lst ds) = some ds := rfl
theorem it_tup : itemsD (.tup ds) = some ds := rfl
theorem it_str : itemsD (.str x) = some (x.map fun c => .str [c]) := rfl
end
/-- a def's meaning, from its body's -/
theorem defM_rt {np n : Nat} {body : SS} {as : List SV} {a : RV} {b : RV} (e0 : Sl) {env : Sl} {o : List SV} (hl : as.length = np) (he : as ++ List.replicate n .un = e0) (h : body e0 = some (.rt a env)) (h2 : resV a env = some b) (h3 : backs as env = some o) : defM np n body as = some (.ok b o) := by
  unfold defM runF; rw [if_pos hl, he, h]; dsimp only; rw [h2, Option.bind_some, h3]; rfl
theorem defM_nx {np n : Nat} {body : SS} {as : List SV} (e0 : Sl) {env : Sl} {o : List SV} (hl : as.length = np) (he : as ++ List.replicate n .un = e0) (h : body e0 = some (.nx env)) (h3 : backs as env = some o) : defM np n body as = some (.ok (.d .non) o) := by
  unfold defM runF; rw [if_pos hl, he, h]; dsimp only; rw [h3]; rfl
end
end Dw
namespace Dw
noncomputable section
open PySem PySem.Spec PyProof.Rows L2

/-! ### methods of texts, with a text -/
def textM (g : List Nat → List Nat → Option RV) : D → List D → Option RV
  | .str a, [.str b] => g a b
  | _, _ => none
theorem snd_textM {K : PySem.W.Frag} {g : List Nat → List Nat → Option RV} {r : V → List V → Hp → VK → Prop}
    (h : ∀ {W : WX} {F : Hp} {R : Fm} {σ : L2.St} {H : Hp} {env : Sl} {Q : VK} {a b : List Nat} {z : RV}, Sta K F R σ H env → g a b = some z → PostE K W F R σ (.ok z env) Q → r (.str (mk a)) [.str (mk b)] H Q) : SndM K (textM g) r := by
  intro W F R σ H env Q x v xs vs z S hx hv e p
  cases x with
  | str a =>
    cases hx
    match xs, hv, e with
    | [.str b], hv, e =>
      obtain ⟨w, rfl, hw⟩ := vw1 hv
      cases hw
      exact h S e p
  | _ => cases e
def indexL (a b : List Nat) : Option RV := match Builtin.Str.occurrences (mk a) (mk b) 0 a.length 1 with
  | i :: _ => some (.d (.int (i : Nat)))
  | [] => none
def rIndexS : V → List V → Hp → VK → Prop := fun x xs H Q => ∃ a b i rest, x = .str a ∧ xs = [.str b] ∧ Builtin.Str.occurrences a b 0 a.length 1 = i :: rest ∧ Q (.int (i : Nat)) H
theorem snd_index {K : PySem.W.Frag} : SndM K (textM indexL) rIndexS := snd_textM fun {W F R σ H env Q a b z} S e p => by
  unfold indexL at e
  cases ho : Builtin.Str.occurrences (mk a) (mk b) 0 a.length 1 with
  | nil => rw [ho] at e; cases e
  | cons i rest =>
    rw [ho] at e
    cases e
    exact ⟨mk a, mk b, i, rest, rfl, rfl, by rw [mk_len]; exact ho, post_d S p (.int _)⟩
def countL (a b : List Nat) : Option RV := some (.d (.int (Txt.count (mk a) (mk b))))
def rCountS : V → List V → Hp → VK → Prop := fun x xs H Q => ∃ a b, x = .str a ∧ xs = [.str b] ∧ Q (.int (Txt.count a b)) H
theorem snd_count {K : PySem.W.Frag} : SndM K (textM countL) rCountS := snd_textM fun S e p => by
  cases e
  exact ⟨_, _, rfl, rfl, post_d S p (.int _)⟩
def startsL (a b : List Nat) : Option RV := some (.d (.bl (Txt.startswith (mk a) (mk b))))
def rStartsS : V → List V → Hp → VK → Prop := fun x xs H Q => ∃ a b, x = .str a ∧ xs = [.str b] ∧ Q (.bl (Txt.startswith a b)) H
theorem snd_starts {K : PySem.W.Frag} : SndM K (textM startsL) rStartsS := snd_textM fun S e p => by
  cases e
  exact ⟨_, _, rfl, rfl, post_d S p (.bl _)⟩
def cutEnd (a b : List Nat) : List Nat := a.take (a.length - (a.reverse.takeWhile b.contains).length)
def cutTop (a b : List Nat) : List Nat := a.drop (a.takeWhile b.contains).length
theorem conts (b : List Nat) : (mk b).cps.contains = b.contains := by
  funext c
  simp [mk]
theorem rstrip_mk (a b : List Nat) : Txt.rstripChars (mk a) (mk b) = mk (cutEnd a b) := by
  unfold Txt.rstripChars
  rw [stripBy_eq, conts]
  unfold cutEnd Builtin.Str.strSub stripLo stripHi
  simp [mk, Str.length]
theorem lstrip_mk (a b : List Nat) : Txt.lstripChars (mk a) (mk b) = mk (cutTop a b) := by
  unfold Txt.lstripChars
  rw [stripBy_eq, conts]
  unfold cutTop Builtin.Str.strSub stripLo stripHi
  simp [mk, Str.length]
  exact List.take_of_length_le (by rw [List.length_drop]; omega)
def rstripL (a b : List Nat) : Option RV := if a.length ≤ sizeLine then some (.d (.str (cutEnd a b))) else none
def lstripL (a b : List Nat) : Option RV := if a.length ≤ sizeLine then some (.d (.str (cutTop a b))) else none
def rStripS (f : Str → Str → Str) : V → List V → Hp → VK → Prop := fun x xs H Q => ∃ a b, x = .str a ∧ xs = [.str b] ∧ a.length ≤ sizeLine ∧ Q (.str (f a b)) H
theorem snd_rstrip {K : PySem.W.Frag} : SndM K (textM rstripL) (rStripS Txt.rstripChars) := snd_textM fun {W F R σ H env Q a b z} S e p => by
  obtain ⟨c, rfl⟩ := some_if e
  refine ⟨_, _, rfl, rfl, by rw [mk_len]; exact c, ?_⟩
  rw [rstrip_mk]
  exact post_d S p (.str _)
theorem snd_lstrip {K : PySem.W.Frag} : SndM K (textM lstripL) (rStripS Txt.lstripChars) := snd_textM fun {W F R σ H env Q a b z} S e p => by
  obtain ⟨c, rfl⟩ := some_if e
  refine ⟨_, _, rfl, rfl, by rw [mk_len]; exact c, ?_⟩
  rw [lstrip_mk]
  exact post_d S p (.str _)

/-! ### constants of the module -/
section
variable {X : Cx} {W : WX} {x : Str} {pos : Pos}
theorem pd_cstr {l : List Nat} (h : ∃ t, X.mg x = some (.str (mk l) t)) (hg : Gl X x := by rfl) (hd : (x == ("__debug__" : Str)) = false := by decide) : PE X (.Name x pos) (dE X.K W (constE (.str l))) := by
  obtain ⟨t, h⟩ := h
  exact pd_glob h (v := .str (mk l)) ⟨t, rfl⟩ (fun _ => .str l) hg hd
theorem pd_cint {n : Int} (h : ∃ t, X.mg x = some (.int n t)) (hg : Gl X x := by rfl) (hd : (x == ("__debug__" : Str)) = false := by decide) : PE X (.Name x pos) (dE X.K W (constE (.int n))) := by
  obtain ⟨t, h⟩ := h
  exact pd_glob h (v := .int n) ⟨t, rfl⟩ (fun _ => .int n) hg hd
end
end
end Dw
namespace Dw
noncomputable section
open PySem PySem.Spec PyProof.Rows L2

/-! ### enumerate(a text) -/
def ItEs (x : Str) : It :=
  ⟨fun i _ => i < x.cps.size, fun i H v H' => ∃ T c, v = .ref T ∧ H T = none ∧ H' = upd H T (.tup [.int (i : Nat), .str ⟨#[c]⟩]) ∧ x.cps[i]? = some c, fun i _ => x.cps.size ≤ i⟩
theorem draws_str {P : Program} {w : World} {A : Around} (hh : A.handled = none) (it : Addr) (x : Str) (t : Tok) : Draws P w A it [it] x.cps.size (fun i v => ∃ c u, x.cps[i]? = some c ∧ v = .str ⟨#[c]⟩ u) (fun i h => h.IsStrIter it (strIterType x) x t i) := by
  unfold strIterType
  split
  · exact Draws.strAscii hh it x t
  · exact Draws.strWide hh it x t
theorem turn_enumS {P : Program} {w : World} {K : PySem.W.Frag} {elts : List Expr} {kk : Nat} {tpos : Pos} (x : Str) (t : Tok) (e it : Addr) :
    Turn P w K (.Tuple elts kk tpos) (ItEs x) [e, it] e (fun i h => (∃ old, IsEnum h e it i old) ∧ h.IsStrIter it (strIterType x) x t i ∧ e ≠ it ∧ i ≤ x.cps.size) where
  mem := by simp
  obj := fun i h st b hb => by
    obtain ⟨⟨old, he⟩, ⟨o, ho, hc, hd⟩, _⟩ := st
    have e' : b = e ∨ b = it := by simpa using hb
    rcases e' with z | z
    · rw [z]; exact ⟨_, he, fun v q => nomatch q⟩
    · rw [z]; exact ⟨o, ho, fun v q => by rw [hd] at q; cases q⟩
  keep := fun i h h' st k => by
    obtain ⟨⟨old, he⟩, ⟨o, ho, r⟩, hne, hi⟩ := st
    exact ⟨⟨old, k e (by simp) _ he⟩, ⟨o, k it (by simp) _ ho, r⟩, hne, hi⟩
  item := by
    intro X hP hw hK hc i pins s σ H E I hf st hg
    subst hP hw hK
    obtain ⟨⟨old, he⟩, hit, hne, hi⟩ := st
    have hlt : i < x.cps.size := hg
    have hel : e < s.heap.objs.size := Heap.lt_size he
    have hil : it < s.heap.objs.size := by obtain ⟨_, q, _⟩ := hit; exact Heap.lt_size q
    have hh : X.A.in1.handled = none := I.ok.hd hc
    refine wpAny_pyNext_enum_itemD (draws_str (A := X.A.in1) hh it x t) he hit hlt hne (by simpa using hne) fun u h' tk hu ho hit' hT hsz hk => ?_
    obtain ⟨c, tu, hc1, rfl⟩ := hu
    refine ⟨_, rfl, wpAny_letOwnedTupleGo_enum (s := { s with heap := h', toks := tk + 1 }) ho fun h'' he' sb => ?_⟩
    have hT2 : h''.get? s.heap.objs.size = some { cls := .type "tuple", data := .seq #[.int i tk, .str ⟨#[c]⟩ tu] } := (sb.2 _ (Nat.ne_of_gt hel)).trans hT
    have new : ObjOk X.prog X.w (upd H s.heap.objs.size (.tup [.int (i : Nat), .str ⟨#[c]⟩])) h'' s.heap.objs.size (.tup [.int (i : Nat), .str ⟨#[c]⟩]) :=
      ⟨by show 2 ≤ sizeLine; decide, [.int i tk, .str ⟨#[c]⟩ tu], .cons ⟨_, rfl⟩ (.cons ⟨_, rfl⟩ .nil), ⟨_, hT2, rfl, _, rfl⟩⟩
    have I1 : Inv X pins σ (upd H s.heap.objs.size (.tup [.int (i : Nat), .str ⟨#[c]⟩])) { s with heap := h'', toks := tk + 1 } :=
      I.turnedNew (ch := [e, it]) (fun b ob hb q => (sb.2 b (fun z => hb (by simp [z]))).trans (hk b ob (fun z => hb (by simp [z])) (fun z => hb (by simp [z])) q)) hf (Nat.le_refl _) new
    refine ⟨.ref s.heap.objs.size, _, I1, rfl, ⟨_, c, rfl, I.hok.fresh (Nat.le_refl _), rfl, hc1⟩, ⟨⟨.str ⟨#[c]⟩ tu, ?_⟩, ?_, hne, hlt⟩, fun b hb => ?_⟩
    · have e1 : ((i + 1 : Nat) : Int) = (i : Int) + 1 := by omega
      rw [e1]; exact he'
    · obtain ⟨o, ho2, r⟩ := hit'
      exact ⟨o, (sb.2 it (Ne.symm hne)).trans ho2, r⟩
    · have hb' : b < s.heap.objs.size := by
        have e' : b = e ∨ b = it := by simpa using hb
        rcases e' with z | z
        · rw [z]; exact hel
        · rw [z]; exact hil
      rw [upd_ne (Nat.ne_of_lt hb')]
      exact (hf b hb).1
  done := by
    intro X hP hw hK hc i pins s σ H E I hf st hg
    subst hP hw hK
    obtain ⟨⟨old, he⟩, hit, hne, hi⟩ := st
    have hle : x.cps.size ≤ i := hg
    have ei : i = x.cps.size := by omega
    subst ei
    obtain ⟨f0, f1, f2, f3, f4, f5⟩ := hf it (by simp)
    have hh : X.A.in1.handled = none := I.ok.hd hc
    exact wpAny_pyNext_enum_endD (draws_str (A := X.A.in1) hh it x t) he hit fun h' eb => ⟨rfl, I.turned (t' := s.toks) (fun b o hb q => eb b o hb q) f0 f1 f3 f4 f5⟩
  self := fun A i s Q E st h => let ⟨⟨_, he⟩, _⟩ := st; wpAny_pyIter_enum he h
def iEnumS (te : TA) : TI := fun σ H R => te σ H fun vs H1 => ∃ x, vs = [.str x] ∧ R (ItEs x) H1
theorem pi_enumS {X : Cx} {e : Expr} {ta : TA} {p pos tpos : Pos} {elts : List Expr} {kk : Nat} (hg : Gl X "enumerate") (hm : X.mg "enumerate" = none) (ha : PA X [e] ta) (hs : starEach [e] X.env = [(false, eval e X.env)] := by rfl) :
    PI X (.Tuple elts kk tpos) (.Call (.Name "enumerate" p) [e] [] pos) (iEnumS ta) := by
  refine ⟨fun pins s σ H R I h => ?_⟩
  refine Call_ (ld_blt I hg hm boot_enumerate (PyProof.Rows.callWith_type1 (thn (ha.run pos pins s σ H _ I h) fun us s1 ⟨vs, H1, I1, r1, q1⟩ => ?_) hs rfl))
  obtain ⟨x, ex, q⟩ := q1
  subst ex
  cases r1 with
  | cons r rr =>
    cases rr
    obtain ⟨t, rfl⟩ := r
    refine call_enumerate_str fun h' he hit hsz hk => wpAny_pyIter_enum he ?_
    have I2 : Inv X pins σ H1 { s1 with heap := h' } := I1.kept (t' := s1.toks) hk
    refine ⟨s1.heap.objs.size + 1, [s1.heap.objs.size + 1, s1.heap.objs.size], _, _, H1, rfl, I2, turn_enumS x t (s1.heap.objs.size + 1) s1.heap.objs.size, ⟨⟨.none, he⟩, hit, Nat.succ_ne_self _, Nat.zero_le _⟩, fun b hb => ?_, q⟩
    have e' : b = s1.heap.objs.size + 1 ∨ b = s1.heap.objs.size := by simpa using hb
    have hle : s1.heap.objs.size ≤ b := by
      rcases e' with z | z
      · rw [z]; exact Nat.le_add_right _ _
      · rw [z]; exact Nat.le_refl _
    exact I1.fpOk hle (I1.hok.fresh hle)
theorem _root_.L2.PI.or2 {X : Cx} {tg e : Expr} {t u : TI} (h : PI X tg e t) (h' : PI X tg e u) : PI X tg e (fun σ H R => t σ H R ∨ u σ H R) := ⟨fun pins s σ H R I q => by
  rcases q with q | q
  · exact h.run pins s σ H R I q
  · exact h'.run pins s σ H R I q⟩

/-! ### enumerate: the meaning -/
def enumL : Nat → List D → List D
  | _, [] => []
  | i, x :: xs => .tup [.int (i : Nat), x] :: enumL (i + 1) xs
theorem enumL_len : ∀ (i : Nat) (xs : List D), (enumL i xs).length = xs.length
  | _, [] => rfl
  | i, x :: xs => by rw [enumL, List.length_cons, List.length_cons, enumL_len]
theorem enumL_get : ∀ (i k : Nat) (xs : List D) (x : D), (enumL i xs)[k]? = some x → ∃ y, xs[k]? = some y ∧ x = .tup [.int ((i + k : Nat) : Int), y]
  | i, k, [], x, h => by simp [enumL] at h
  | i, 0, y :: xs, x, h => by
    simp [enumL] at h
    exact ⟨y, rfl, h.symm⟩
  | i, k + 1, y :: xs, x, h => by
    obtain ⟨z, h1, h2⟩ := enumL_get (i + 1) k xs x (by simpa [enumL] using h)
    exact ⟨z, by simpa using h1, by rw [h2, show i + 1 + k = i + (k + 1) by omega]⟩
def enumE (fa : SA) : SI := fun env => bindAI (fa env) fun as env1 => match as with
  | [a] => (frz a env1).bind fun p => (match p.1 with | .lst xs => some (enumL 0 xs) | .str x => some (enumL 0 (x.map fun c => .str [c])) | _ => none).map fun ys => .ok ys p.2
  | _ => none
section
variable {K : PySem.W.Frag} {W : WX} {F F' : Hp} {R R' : Fm} {σ : L2.St} {H H' : Hp} {env env' : Sl}
theorem wk_enumS {x : List Nat} : Wk K F (ItEs (mk x)) (enumL 0 (x.map fun c => .str [c])) := by
  have hs : (mk x).cps.size = x.length := mk_len x
  refine ⟨fun i H hi e => ?_, fun H e => ?_, fun {F' R σ env} i H v H' y hx e S yl => ?_⟩
  · rw [enumL_len, List.length_map] at hi
    show i < (mk x).cps.size
    rw [hs]; exact hi
  · show (mk x).cps.size ≤ _
    rw [enumL_len, List.length_map, hs]
    exact Nat.le_refl _
  · obtain ⟨T, c, rfl, hT, rfl, hc⟩ := yl
    obtain ⟨z, h1, rfl⟩ := enumL_get 0 i _ _ hx
    have e4 : x[i]? = some c := by simpa [mk] using hc
    rw [List.getElem?_map, e4] at h1
    cases h1
    refine ⟨upd F' T (.tup [.int (i : Nat), .str ⟨#[c]⟩]), Ex.new (S.freeF hT), S.freshF hT, .tup (SqT.of upd_same) ?_, Ex.new hT⟩
    rw [Nat.zero_add]
    exact .cons (.int _) (.cons (.str [c]) .nil)
theorem wk_enumL {a : Addr} {vs : List V} {xs : List D} (s : SqL K F a vs) (r : RelAll K F vs xs) : Wk K F (Ite K a) (enumL 0 xs) := by
  refine ⟨fun i H hi e => ?_, fun H e => ?_, fun {F' R σ env} i H v H' y hx e S yl => ?_⟩
  · rw [enumL_len] at hi
    obtain ⟨v, hv, _⟩ := r.getD (List.getElem?_eq_getElem hi)
    exact ⟨vs, v, ex_l e s, hv⟩
  · exact ⟨vs, ex_l e s, by rw [enumL_len, r.len]; exact Nat.le_refl _⟩
  · obtain ⟨T, u, rfl, hT, rfl, hc⟩ := yl
    obtain ⟨z, h1, rfl⟩ := enumL_get 0 i _ _ hx
    have hu := hc vs (ex_l (e.trans S.sub) s)
    obtain ⟨d, h2, rv⟩ := r.get hu
    rw [h1] at h2
    cases h2
    have eF : Ex F' (upd F' T (.tup [.int (i : Nat), u])) := Ex.new (S.freeF hT)
    refine ⟨upd F' T (.tup [.int (i : Nat), u]), eF, S.freshF hT, .tup (SqT.of upd_same) ?_, Ex.new hT⟩
    rw [Nat.zero_add]
    exact .cons (.int _) (.cons ((rv.up e).up eF) .nil)
theorem dI_enum {fa : SA} {Q : It → Hp → Prop} (h : dI K W (enumE fa) σ H Q) : iEnum K (dA K W fa) σ H Q ∨ iEnumS (dA K W fa) σ H Q := by
  obtain ⟨env, F, R, r, S, e, p⟩ := h
  rcases bindAI_inv e with ⟨as, env1, h1, h2⟩ | ⟨x, env1, h1, rfl⟩
  · match as, h1, h2 with
    | [a], h1, h2 =>
      dsimp only at h2
      rw [Option.bind_eq_some_iff] at h2
      obtain ⟨⟨x, env2⟩, h3, h4⟩ := h2
      rw [Option.map_eq_some_iff] at h4
      obtain ⟨ys, h5, rfl⟩ := h4
      have key : ∀ {Q1 : List V → Hp → Prop}, (∀ v F2 H1, Ex F F2 → Sta K F2 R σ H1 env2 → Rel K F2 v x → Q1 [v] H1) → dA K W fa σ H Q1 := fun {Q1} k =>
        ⟨env, F, R, _, S, h1, fun vs F1 H1 R1 e1 eR S1 hv => by
          match vs, hv with
          | [v], hv =>
            obtain ⟨F2, e2, S2, r2⟩ := frz_ok (S1.unhold eR) (unheld (Ex.refl _) eR S1 hv.1) h3
            exact k v F2 H1 (e1.trans e2) S2 r2
          | [], hv => exact hv.elim
          | _ :: _ :: _, hv => exact hv.2.2.elim⟩
      cases x with
      | lst xs =>
        cases h5
        exact .inl (key fun v F2 H1 e2 S2 r2 => by
          cases r2 with
          | lst s rr => exact ⟨_, _, rfl, ex_l S2.sub s, p _ F2 H1 e2 S2 (wk_enumL s rr)⟩)
      | str y =>
        cases h5
        exact .inr (key fun v F2 H1 e2 S2 r2 => by
          cases r2
          exact ⟨mk y, rfl, p _ F2 H1 e2 S2 wk_enumS⟩)
      | _ => cases h5
  · exact .inl ⟨env, F, R, _, S, h1, p⟩
end
section
variable {X : Cx} {W : WX} {e : Expr} {fa : SA} {p pos tpos : Pos} {elts : List Expr} {kk : Nat}
theorem pi_denum (hm : X.mg "enumerate" = none) (ha : PA X [e] (dA X.K W fa)) (hg : Gl X "enumerate" := by rfl) (hs : starEach [e] X.env = [(false, eval e X.env)] := by rfl) : PI X (.Tuple elts kk tpos) (.Call (.Name "enumerate" p) [e] [] pos) (dI X.K W (enumE fa)) :=
  ((pi_enum hg hm ha hs).or2 (pi_enumS hg hm ha hs)).wk fun _ _ _ q => dI_enum q
end
end
end Dw
namespace Dw
noncomputable section
open PySem PySem.Spec PyProof.Rows L2

theorem cr_list {X : Cx} : CallR X (.type "list") (rListC X.K) := call_list_of
theorem cr_tuple {X : Cx} : CallR X (.type "tuple") (rTupleC X.K) := call_tuple_of
/-! ### tuple(range(n)), list(range(n)) -/
def rgD (g : List D → RV) (fa : SE) : SE := fun env => bindE (fa env) fun a env1 => match pk a env1 with
  | some (.int n) => if okP (-(2 ^ 62) ≤ n ∧ n < 2 ^ 62 ∧ n.toNat ≤ 100000) then some (.ok (g ((List.range n.toNat).map fun i => .int (i : Nat))) env1) else none
  | _ => none
def tupRV (xs : List D) : RV := .d (.tup xs)
def lstRV (xs : List D) : RV := .own (.lst xs)
theorem rgV_rel {K : PySem.W.Frag} {F : Hp} (n : Int) : RelAll K F (rgV 0 n) ((List.range n.toNat).map fun i => .int (i : Nat)) := by
  unfold rgV
  rw [Int.sub_zero]
  have h := RelAll.ints (K := K) (F := F) ((List.range n.toNat).map fun i : Nat => (i : Int))
  rw [List.map_map, List.map_map] at h
  have e : (fun i : Nat => V.int (0 + (i : Int))) = V.int ∘ fun i : Nat => (i : Int) := by funext i; simp
  rw [e]
  exact h
section
variable {K : PySem.W.Frag} {W : WX} {σ : L2.St} {H : Hp} {Q : VK}
theorem dE_rg {g : List D → RV} {fa : SE} {R0 : Int → Hp → VK → Prop} (h : dE K W (rgD g fa) σ H Q)
    (hk : ∀ {F R env n H1}, Sta K F R σ H1 env → RgOk 0 n → PostE K W F R σ (.ok (g ((List.range n.toNat).map fun i => .int (i : Nat))) env) Q → R0 n H1 Q) : dE K W fa σ H fun x H1 => ∃ n, x = .int n ∧ R0 n H1 Q := by
  refine dE_one (op := fun a env1 => match pk a env1 with | some (.int n) => if okP (-(2 ^ 62) ≤ n ∧ n < 2 ^ 62 ∧ n.toNat ≤ 100000) then some (.ok (g ((List.range n.toNat).map fun i => .int (i : Nat))) env1) else none | _ => none) h fun a env F R v H1 S rv q => ?_
  obtain ⟨r, e, p⟩ := q
  dsimp only at e
  cases hx : pk a env with
  | none => rw [hx] at e; cases e
  | some x =>
    rw [hx] at e
    cases x with
    | int n =>
      cases (show Rel K F v (.int n) from pk_vw S rv hx)
      obtain ⟨c, rfl⟩ := some_if e
      rw [okP_iff] at c
      exact ⟨n, rfl, hk S ⟨by omega, by omega, c.1, c.2.1, by rw [Int.sub_zero]; omega⟩ p⟩
    | _ => cases e
end
section
variable {X : Cx} {W : WX} {a : Expr} {fa : SE} {p p2 pos pos2 : Pos}
theorem pd_tupRg (hc : X.calm = true) (hm : X.mg "tuple" = none) (hm2 : X.mg "range" = none) (ha : PE X a (dE X.K W fa)) (hg : Gl X "tuple" := by rfl) (hg2 : Gl X "range" := by rfl) (na2 : starEach [a] X.env = (false, eval a X.env) :: starEach [] X.env := by rfl)
    (na : starEach [.Call (.Name "range" p2) [a] [] pos2] X.env = (false, eval (.Call (.Name "range" p2) [a] [] pos2) X.env) :: starEach [] X.env := by rfl) :
    PE X (.Call (.Name "tuple" p) [.Call (.Name "range" p2) [a] [] pos2] [] pos) (dE X.K W (rgD tupRV fa)) :=
  (pe_tupRg hc hg hm (prg_1 hg2 hm2 ha na2) na).wk fun σ H Q q => by
    have := dE_rg (R0 := fun n H1 Q => RgOk 0 n ∧ ∀ q, H1 q = none → Q (.ref q) (upd H1 q (.tup (rgV 0 n)))) q fun {F R env n H1} S ok p => ⟨ok, fun q hq => post_tup S p hq (rgV_rel n)⟩
    exact this
end
end
end Dw
namespace Dw
noncomputable section
open PySem PySem.Spec PyProof.Rows L2

/-! ### a call of a def that changes one of its arguments, a list of the caller's own -/
section
variable {K : PySem.W.Frag} {W : WX} {F F' : Hp} {R R' : Fm} {σ : L2.St} {H H' : Hp} {env : Sl} {Q : VK}
theorem heldAll_set : ∀ {vs : List V} {as : List RV} (j : Nat), HeldAll K F R R' σ vs as → HeldAll K F R R' σ (vs.set j .non) (as.set j (.d .non))
  | [], [], _, _ => trivial
  | v :: vs, a :: as, 0, h => ⟨.non, ⟨fun c e => (by cases e), h.2.2⟩⟩
  | v :: vs, a :: as, j + 1, h => by
    refine ⟨h.1, fun c e w b hm c' hb => ?_, heldAll_set j h.2.2⟩
    have mem : ∀ (vs : List V) (as : List RV) (j : Nat), (w, b) ∈ (vs.set j .non).zip (as.set j (.d .non)) → (w, b) ∈ vs.zip as ∨ b = .d .non := by
      intro vs
      induction vs with
      | nil => intro as j hm; simp at hm
      | cons x xs ih =>
        intro as j hm
        cases as with
        | nil => simp at hm
        | cons y ys =>
          cases j with
          | zero =>
            simp only [List.set_cons_zero, List.zip_cons_cons, List.mem_cons] at hm ⊢
            rcases hm with hm | hm
            · cases hm; exact .inr rfl
            · exact .inl (.inr hm)
          | succ j =>
            simp only [List.set_cons_succ, List.zip_cons_cons, List.mem_cons] at hm ⊢
            rcases hm with hm | hm
            · exact .inl (.inl hm)
            · rcases ih ys j hm with h | h
              · exact .inl (.inr h)
              · exact .inr h
    rcases mem vs as j hm with h1 | h1
    · exact h.2.1 c e w b h1 c' hb
    · rw [h1] at hb; cases hb
  | [], _ :: _, _, h => h.elim
  | _ :: _, [], _, h => h.elim
theorem heldAll_at : ∀ {vs : List V} {as : List RV} {j i : Nat}, HeldAll K F R R' σ vs as → as[j]? = some (.cv i) → ∃ v, vs[j]? = some v ∧ σ[i]? = some (some v)
  | [], [], _, _, _, h => by simp at h
  | v :: vs, a :: as, 0, i, h, e => by
    simp at e
    subst e
    exact ⟨v, rfl, h.1⟩
  | v :: vs, a :: as, j + 1, i, h, e => by
    obtain ⟨w, h1, h2⟩ := heldAll_at (j := j) h.2.2 (by simpa using e)
    exact ⟨w, by simpa using h1, h2⟩
  | [], _ :: _, _, _, h, _ => h.elim
  | _ :: _, [], _, _, h, _ => h.elim
theorem Sta.callM (S : Sta K F R σ H env) {xs : List D} {vs : List V} {i j : Nat} {b : Bool} {c : C} {p : Addr} (hi : env[i]? = some (.own b c)) (hp : σ[i]? = some (some (V.ref p))) (hj : vs[j]? = some (.ref p)) (r : RelAll K F (vs.set j .non) xs) :
    Sta K F (calF R σ H env i p) (vs.map some) H ((xs.map .d).set j (.own true c)) := by
  have hl : xs.length = vs.length := by rw [← r.len, List.length_set]
  have hjl : j < vs.length := (List.getElem?_eq_some_iff.mp hj).1
  have hjx : j < (xs.map SV.d).length := by rw [List.length_map, hl]; exact hjl
  have at' : ∀ {k : Nat} {s : SV}, ((xs.map SV.d).set j (.own true c))[k]? = some s → (k = j ∧ s = .own true c) ∨ (k ≠ j ∧ ∃ x v, s = .d x ∧ (vs.map some)[k]? = some (some v) ∧ Rel K F v x) := fun {k s} h => by
    by_cases hk : k = j
    · subst hk
      rw [List.getElem?_set_self hjx] at h
      cases h
      exact .inl ⟨rfl, rfl⟩
    · rw [List.getElem?_set_ne (Ne.symm hk)] at h
      obtain ⟨x, v, h1, h2, h3⟩ := dGet r h
      rw [List.getElem?_map, List.getElem?_set_ne (Ne.symm hk), ← List.getElem?_map] at h2
      exact .inr ⟨hk, x, v, h1, h2, h3⟩
  have hjs : (vs.map some)[j]? = some (some (V.ref p)) := by rw [List.getElem?_map, hj]; rfl
  obtain ⟨q, o, e1, e2, e3, e4, e5⟩ := S.own i b c hi
  rw [hp] at e1
  cases e1
  refine ⟨S.sub, calF_sub S, calF_dis S, by rw [List.length_map, List.length_set, List.length_map, hl], fun k x e => ?_, fun k b' c' e => ?_, fun k c' e => ?_, fun k l bk ck bl cl q h1 h2 _ _ => ?_⟩
  · rcases at' e with ⟨_, h⟩ | ⟨_, y, v, h1, h2, h3⟩
    · cases h
    · cases h1; exact ⟨v, h2, h3⟩
  · rcases at' e with ⟨rfl, h⟩ | ⟨_, y, v, h1, _⟩
    · cases h
      exact ⟨p, o, hjs, e2, calF_free S hi hp, e4, e5⟩
    · cases h1
  · rcases at' e with ⟨rfl, h⟩ | ⟨_, y, v, h1, _⟩
    · exact hjs
    · cases h1
  · rcases at' h1 with ⟨a1, _⟩ | ⟨_, y, v, a1, _⟩
    · rcases at' h2 with ⟨a2, _⟩ | ⟨_, y, v, a2, _⟩
      · rw [a1, a2]
      · cases a2
    · cases a1
theorem Sta.retM {σc : L2.St} {envc : Sl} {i j : Nat} {b : Bool} {c c' : C} {p : Addr} (S : Sta K F R σ H env) (e : Ex F F') (S' : Sta K F' (calF R σ H env i p) σc H' envc) (hi : env[i]? = some (.own b c)) (hp : σ[i]? = some (some (V.ref p))) (hj : envc[j]? = some (.own true c')) : Sta K F' R σ H' (env.set i (.own b c')) := by
  have hl : i < env.length := (List.getElem?_eq_some_iff.mp hi).1
  have at' : ∀ {k : Nat} {s : SV}, (env.set i (.own b c'))[k]? = some s → (k = i ∧ s = .own b c') ∨ (k ≠ i ∧ env[k]? = some s) := fun {k s} h => by
    by_cases hk : k = i
    · subst hk
      rw [List.getElem?_set_self hl] at h
      cases h
      exact .inl ⟨rfl, rfl⟩
    · rw [List.getElem?_set_ne (Ne.symm hk)] at h
      exact .inr ⟨hk, h⟩
  have tg : σc[j]? = some (some (V.ref p)) := S'.tag j c' hj
  refine ⟨S'.sub, (calF_ex S).trans S'.fr, fun a u q => S'.dis a u (calF_ex S a u q), by rw [List.length_set]; exact S.len, fun k x q => ?_, fun k b1 c1 q => ?_, fun k c1 q => ?_, fun k l bk ck bl cl a h1 h2 h3 h4 => ?_⟩
  · rcases at' q with ⟨_, h⟩ | ⟨_, q⟩
    · cases h
    · obtain ⟨v, e1, r⟩ := S.dat k x q
      exact ⟨v, e1, r.up e⟩
  · rcases at' q with ⟨rfl, h⟩ | ⟨hk, q⟩
    · cases h
      obtain ⟨p', o', z1, z2, _, z4, z5⟩ := S'.own j true c' hj
      rw [tg] at z1
      cases z1
      obtain ⟨p2, o2, y1, _, y3, _⟩ := S.own k _ _ hi
      rw [hp] at y1
      cases y1
      exact ⟨p, o', hp, z2, y3, z4, z5⟩
    · obtain ⟨p2, o2, y1, y2, y3, y4, y5⟩ := S.own k b1 c1 q
      have hr := calF_own (p0 := p) S hk q y1
      rw [y4] at hr
      exact ⟨p2, o2, y1, S'.dis p2 o2 hr, y3, S'.fr p2 o2 hr, y5.up e⟩
  · rcases at' q with ⟨rfl, h⟩ | ⟨hk, q⟩
    · cases h
      exact S.tag k c hi
    · exact S.tag k c1 q
  · have get : ∀ {k : Nat} {b1 : Bool} {c1 : C}, (env.set i (.own b c'))[k]? = some (SV.own b1 c1) → ∃ b2 c2, env[k]? = some (SV.own b2 c2) := fun q => by
      rcases at' q with ⟨rfl, _⟩ | ⟨_, q⟩
      · exact ⟨_, _, hi⟩
      · exact ⟨_, _, q⟩
    obtain ⟨_, _, g1⟩ := get h1
    obtain ⟨_, _, g2⟩ := get h2
    exact S.inj k l _ _ _ _ a g1 g2 h3 h4
def outM (i j : Nat) (b : Bool) (env : Sl) : FR → Option Re
  | .ok a outs => match outs[j]? with
    | some (.own true c) => (retV a).map (Re.ok · (env.set i (.own b c)))
    | _ => none
  | .ex e outs => match outs[j]? with
    | some (.own true c) => some (.ex e (env.set i (.own b c)))
    | _ => none
def callM (j : Nat) (m : List SV → Option FR) (dfs : List D) (fa : SA) : SE := fun env => bindA (fa env) fun as env1 => match as[j]? with
  | some (.cv i) => (frzs (as.set j (.d .non)) env1).bind fun p => match p.2[i]? with
    | some (.own b c) => (m (((p.1 ++ dfs).map .d).set j (.own true c))).bind (outM i j b p.2)
    | _ => none
  | _ => none
theorem outs_own {s : Option SV} {α : Type} {k : C → Option α} {r : α} (h : (match s with | some (.own true c) => k c | _ => none) = some r) : ∃ c, s = some (.own true c) ∧ k c = some r := by
  cases s with
  | none => cases h
  | some s =>
    cases s with
    | own b c =>
      cases b with
      | true => exact ⟨c, rfl, h⟩
      | false => cases h
    | un => cases h
    | d x => cases h
theorem post_outM {vs : List V} {fr : FR} {r : Re} {i j : Nat} {b : Bool} {c : C} {p : Addr} (S : Sta K F R σ H env) (hi : env[i]? = some (.own b c)) (hp : σ[i]? = some (some (V.ref p))) (e : outM i j b env fr = some r) (q : PostE K W F R σ r Q) : PostF K F (calF R σ H env i p) vs fr Q (WE W σ) := by
  cases fr with
  | ex x outs =>
    obtain ⟨c', h1, h2⟩ := outs_own e
    cases h2
    exact fun cls d F' H' e1 S1 hx => q cls d F' H' e1 (S.retM e1 S1 hi hp h1) hx
  | ok a outs =>
    obtain ⟨c', h1, h2⟩ := outs_own e
    rw [Option.map_eq_some_iff] at h2
    obtain ⟨a', h, rfl⟩ := h2
    have ha : a' = a ∧ ∀ i, a ≠ .cv i := by
      cases a with
      | d x => cases h; exact ⟨rfl, by simp⟩
      | own c => cases h; exact ⟨rfl, by simp⟩
      | cv i => cases h
    obtain ⟨rfl, hcv⟩ := ha
    intro v F' H' e1 S1 rv'
    refine q v F' H' e1 (S.retM e1 S1 hi hp h1) ?_
    cases a' with
    | d x => exact rv'
    | cv i => exact absurd rfl (hcv i)
    | own c1 =>
      obtain ⟨p1, o1, z1, z2, z3, z4, z5, z6⟩ := rv'
      obtain ⟨y1, y2⟩ := calF_none S z3
      have tg := S1.tag j c' h1
      have hne : p1 ≠ p := fun z => z6 j true c' h1 (by rw [z]; exact tg)
      refine ⟨p1, o1, z1, z2, y1, z4, z5, fun k b2 c2 hk hz => ?_⟩
      by_cases hki : k = i
      · subst hki
        rw [hp] at hz
        cases hz
        exact hne rfl
      · rw [List.getElem?_set_ne (Ne.symm hki)] at hk
        exact y2 k b2 c2 hki hk hz
theorem ownC {s : Option SV} {α : Type} {k : Bool → C → Option α} {r : α} (h : (match s with | some (.own b c) => k b c | _ => none) = some r) : ∃ b c, s = some (.own b c) ∧ k b c = some r := by
  cases s with
  | none => cases h
  | some s =>
    cases s with
    | own b c => exact ⟨b, c, rfl, h⟩
    | un => cases h
    | d x => cases h
theorem asC {s : Option RV} {α : Type} {k : Nat → Option α} {r : α} (h : (match s with | some (.cv i) => k i | _ => none) = some r) : ∃ i, s = some (.cv i) ∧ k i = some r := by
  cases s with
  | none => cases h
  | some s =>
    cases s with
    | cv i => exact ⟨i, rfl, h⟩
    | d x => cases h
    | own c => cases h
theorem dE_callM {np j : Nat} {m : List SV → Option FR} {dfs : List D} {dvs : List V} {fa : SA} (hd : ∀ F : Hp, RelAll K F dvs dfs) (hn : ∀ as fr, m as = some fr → as.length = np) (h : dE K W (callM j m dfs fa) σ H Q) : tCallSD (spD K np m) dvs (WE W) (dA K W fa) σ H Q := by
  obtain ⟨env, F, R, r, S, e, p⟩ := h
  rcases bindA_inv e with ⟨as, env1, h1, h2⟩ | ⟨x, env1, h1, rfl⟩
  · obtain ⟨i, ha, h2⟩ := asC h2
    rw [Option.bind_eq_some_iff] at h2
    obtain ⟨⟨xs, env2⟩, h3, h4⟩ := h2
    obtain ⟨b, c, hi, h4⟩ := ownC h4
    rw [Option.bind_eq_some_iff] at h4
    obtain ⟨fr, h4, h5⟩ := h4
    refine ⟨env, F, R, _, S, h1, fun vs F1 H1 R1 e1 eR S1 hv => ?_⟩
    obtain ⟨v, hvj, hvs⟩ := heldAll_at hv ha
    obtain ⟨F2, R2, e2, eR2, S2, rr⟩ := frzs_held eR S1 (heldAll_set j hv) h3
    have S3 := S2.unhold eR2
    obtain ⟨p0, o0, y1, _⟩ := S3.own i b c hi
    rw [hvs] at y1
    cases y1
    have hjl : j < vs.length := (List.getElem?_eq_some_iff.mp hvj).1
    have rr2 : RelAll K F2 ((vs ++ dvs).set j .non) (xs ++ dfs) := by
      rw [List.set_append_left _ _ hjl]
      exact rr.app (hd F2)
    have hj2 : (vs ++ dvs)[j]? = some (.ref p0) := by rw [List.getElem?_append_left hjl]; exact hvj
    exact ⟨F2, calF R σ H1 env2 i p0, _, fr, hn _ _ h4, S3.callM hi hvs hj2 rr2, h4, post_outM S3 hi hvs h5 (p.up (e1.trans e2))⟩
  · exact ⟨env, F, R, _, S, h1, p⟩
end
theorem pd_callMN {X : Cx} {W : WX} {k l : Nat} {x : Str} {np : Nat} {m : List SV → Option FR} {dfs : List D} {fa : SA} {p pos : Pos} {e : Expr} {es : List Expr} (j : Nat) (C : Def X.prog X.w X.K X.mg X.base k x np m dfs) (hr : Room l X.A) (hj : k ≤ l) (ha : PA X (e :: es) (dA X.K W fa)) (hg : Gl X x := by rfl)
    (hdb : (x == ("__debug__" : Str)) = false := by decide) (he : starEach (e :: es) X.env = (false, eval e X.env) :: starEach es X.env := by rfl) (hpl : (backTo pos (starEach es X.env)).any (·.1) = false := by rfl) :
    PE X (.Call (.Name x p) (e :: es) [] pos) (dE X.K W (callM j m dfs fa)) := by
  obtain ⟨f, fd, ps, ds, dvs, h1, h2, h3, h4, h5, h6, h7⟩ := C.ex
  exact (pe_callSD h1 (hr.mono hj) hg h2 h3 h4 h5 (fun σ pins H s e s' I c => c.elim) ha hdb he hpl).wk fun _ _ _ q => dE_callM h6 h7 q
end
end Dw
namespace Dw
noncomputable section
open PySem PySem.Spec PyProof.Rows L2

/-! ### while -/
def whileN (fc : SE) (f : SS) : Nat → SS
  | 0 => fun _ => none
  | n + 1 => fun env => bindS (fc env) fun c env1 => match tru c env1 with
    | some true => match f env1 with
      | some (.nx e2) => whileN fc f n e2
      | some (.ct e2) => whileN fc f n e2
      | some (.bk e2) => some (.nx e2)
      | o => o
    | some false => some (.nx env1)
    | none => none
/-- with turns enough for what is reckoned here -/
def whileS (fc : SE) (f : SS) : SS := whileN fc f 100000
section
variable {K : PySem.W.Frag} {W : WX} {F F' : Hp} {R R' : Fm} {σ : L2.St} {H H' : Hp} {env env' : Sl} {En : Ends}
theorem dS_while {fc : SE} {f : SS} {n0 : Nat} (h : dS K W (whileN fc f n0) En σ H) : tWhile (dT K W fc) (dS K W f) En σ H := by
  obtain ⟨env, F, R, r, S, e, p⟩ := h
  refine ⟨fun n σ' H' => ∃ env' F', Ex F F' ∧ Sta K F' R σ' H' env' ∧ whileN fc f n env' = some r, ⟨n0, env, F, Ex.refl F, S, e⟩, ?_⟩
  rintro n σ1 H1 ⟨env1, F1, e1, S1, h1⟩
  cases n with
  | zero => cases h1
  | succ n =>
    rcases bindS_inv h1 with ⟨a, env2, h2, h3⟩ | ⟨x, env2, h2, rfl⟩
    · refine ⟨env1, F1, R, _, S1, h2, ?_⟩
      cases ht : tru a env2 with
      | none => rw [ht] at h3; cases h3
      | some b =>
        rw [ht] at h3
        refine ⟨b, ht, fun F2 H2 e2 S2 => ?_⟩
        cases b with
        | false =>
          refine iteF ?_
          cases h3
          exact p σ1 F2 H2 (e1.trans e2) S2
        | true =>
          refine iteT ⟨fun σ3 H3 => ∃ env3 F3, Ex F F3 ∧ Sta K F3 R σ3 H3 env3 ∧ whileN fc f n env3 = some r, fun σ3 H3 q => ⟨n, Nat.lt_succ_self n, q⟩, ?_⟩
          dsimp only at h3
          cases hb : f env2 with
          | none => rw [hb] at h3; cases h3
          | some o =>
            rw [hb] at h3
            have e5 : Ex F F2 := e1.trans e2
            refine ⟨env2, F2, R, o, S2, hb, ?_⟩
            cases o with
            | nx env3 => exact fun σ4 F4 H4 e6 S5 => ⟨env3, F4, e5.trans e6, S5, h3⟩
            | ct env3 => exact fun σ4 F4 H4 e6 S5 => ⟨env3, F4, e5.trans e6, S5, h3⟩
            | bk env3 => cases h3; exact fun σ4 F4 H4 e6 S5 => p σ4 F4 H4 (e5.trans e6) S5
            | rt a env3 => cases h3; exact fun v σ4 F4 H4 e6 S5 rv => p v σ4 F4 H4 (e5.trans e6) S5 rv
            | ex x env3 => cases h3; exact fun cls d σ4 F4 H4 e6 S5 hx => p cls d σ4 F4 H4 (e5.trans e6) S5 hx
    · exact ⟨env1, F1, R, _, S1, h2, fun cls d F' H' e2 S2 hx => p cls d σ1 F' H' (e1.trans e2) S2 hx⟩
end
section
variable {X : Cx} {W : WX} {c : Expr} {body : List Stmt} {fc : SE} {f : SS} {pos : Pos}
theorem ps_dwhile (hp : PassesOwn (model X.prog X.w) X.A X.env X.xe) (hc : PT X c (dT X.K W fc)) (hb : PSs X body (dS X.K W f)) : PS X (.While c body [] pos) (dS X.K W (whileS fc f)) := (ps_while hp hc hb).wk fun _ _ _ q => dS_while q
end
section
variable {fc : SE} {f : SS} {env env1 env2 : Sl} {a : RV} {n : Nat}
theorem while_T (h : fc env = some (.ok a env1)) (ht : tru a env1 = some true) (hb : f env1 = some (.nx env2)) : whileN fc f (n + 1) env = whileN fc f n env2 := by
  show bindS (fc env) _ = _
  unfold bindS
  rw [h]
  dsimp only
  rw [ht]
  dsimp only
  rw [hb]
theorem while_F (h : fc env = some (.ok a env1)) (ht : tru a env1 = some false) : whileN fc f (n + 1) env = some (.nx env1) := by
  show bindS (fc env) _ = _
  unfold bindS
  rw [h]
  dsimp only
  rw [ht]
end
end
end Dw
namespace Dw
noncomputable section
open PySem PySem.Spec PyProof.Rows L2

/-! ### a, b = .. -/
def asgT (tg : Tg) (fe : SE) : SS := fun env => bindS (fe env) fun a env1 => (frz a env1).bind fun p => (putT tg p.1 p.2).map .nx
section
variable {K : PySem.W.Frag} {W : WX} {σ : L2.St} {H : Hp} {En : Ends}
theorem dS_asgT {tg : Tg} {fe : SE} (h : dS K W (asgT tg fe) En σ H) : tAsg (dE K W fe) (gT K tg) En σ H := by
  obtain ⟨env, F, R, r, S, e, p⟩ := h
  rcases bindS_inv e with ⟨a, env1, h1, h2⟩ | ⟨x, env1, h1, rfl⟩
  · rw [Option.bind_eq_some_iff] at h2
    obtain ⟨⟨x, env2⟩, h3, h4⟩ := h2
    rw [Option.map_eq_some_iff] at h4
    obtain ⟨env3, h5, rfl⟩ := h4
    refine ⟨env, F, R, _, S, h1, fun v F1 H1 e1 S1 rv => ?_⟩
    obtain ⟨F2, e2, S2, r2⟩ := frz_ok S1 rv h3
    exact putT_ok S2 r2 h5 fun σ' S3 => p σ' F2 H1 (e1.trans e2) S3
  · exact ⟨env, F, R, _, S, h1, fun cls d F' H' e1 S1 hx => p cls d σ F' H' e1 S1 hx⟩
end
section
variable {X : Cx} {W : WX} {tg e : Expr} {t : Tg} {fe : SE} {pos : Pos}
theorem ps_dasgT (he : PE X e (dE X.K W fe)) (hg : PG X tg (gT X.K t)) (hs : swapsWithSole [tg] e pos.line X.env = pure false := by rfl) (hw : swappedStores [tg] e X.env = pure none := by rfl)
    (h1 : (assignEach [tg] X.env).map (·.2) = [assign tg X.env] := by rfl) : PS X (.Assign [tg] e pos) (dS X.K W (asgT t fe)) := (ps_asg he hg hs hw h1).wk fun _ _ _ q => dS_asgT q
end
/-! ### divmod -/
def divmodC : List D → Option RV
  | [.int i, .int j] => if okP (0 < j ∧ j < 1073741824) then some (.d (.tup [.int (i / j), .int (i % j)])) else none
  | _ => none
def rDivmod : List V → Hp → VK → Prop := fun xs H Q => ∃ i j, xs = [.int i, .int j] ∧ CDiv i j ∧ ∀ p, H p = none → Q (.ref p) (upd H p (.tup [.int (i / j), .int (i % j)]))
theorem cr_divmod {X : Cx} : CallR X (.builtin "divmod") rDivmod := call_divmod
theorem snd_divmod {K : PySem.W.Frag} : SndC K divmodC rDivmod := by
  intro W F R σ H env Q xs vs z S h e p
  match xs, h, e with
  | [.int i, .int j], h, e =>
    obtain ⟨c, rfl⟩ := some_if e
    rw [okP_iff] at c
    obtain ⟨v, w, rfl, hv, hw⟩ := vw2 h
    cases hv
    cases hw
    exact ⟨i, j, rfl, by simpa [CDiv] using c, fun q hq => post_tup S p hq (.cons (.int _) (.cons (.int _) .nil))⟩
end
end Dw
namespace Dw
noncomputable section
open PySem PySem.Spec PyProof.Rows L2 RT
section
variable {prog : Program} {w : World} {A : Around} {E : Value → Shared → Prop} {s : Shared} {x : Str} {t : Tok} {Q : Value → Shared → Prop}
theorem join_rev {it l : Addr} {items : Array Value} (hh : A.handled = none) (hit : s.heap.IsRevIter it l ((items.size : Int) - 1)) (hl : s.heap.IsList l items) (hne : l ≠ it) (hn : items.size ≤ sizeLine)
    (hstr : ∀ v ∈ items.toList, ∃ y u, v = Value.str y u)
    (hq : ∀ (h' : Heap) (tk : Nat) (ls : List (Str × Tok)), (∀ b o, b ≠ it → s.heap.get? b = some o → h'.get? b = some o) → ItemsOf (fun i v => items[items.size - 1 - i]? = some v) (strValues ls).toArray items.size → JoinOk x (ls.map (·.1)) = true ∧ ∀ t' k, Q (.str (Txt.join x (ls.map (·.1))) t') { s with heap := h', toks := k }) :
    wpAny (model prog w) A (call (.builtin "str.join") [.str x t, .ref it]) Q E s := by
  refine wpAny_call (codeAny_call_builtin F.slot_str_join.plain F.entry_str_join (F.slot_str_join.check _ _ _ _ _ _ _ _ (typeIs_str _ _ _) (F.args_str_join_2 _ _) ?_))
  rw [join_tree_other]
  have hT : s.TypeIs (.ref it) "list_reverseiterator" := hit.typeIs
  refine wpAny_bind (wpAny_typeOf hT ?_)
  show wpAny _ A.in1 ((pyIter (.ref it)).tryCatch _ >>= fun it => collect it >>= fun items => joinTail x items) _ _ s
  refine wpAny_bind (wpAny_tryCatch (wpAny_pyIter_revIter hit ?_))
  have hh1 : A.in1.handled = none := hh
  refine wpAny_bind (collect_rev (A := A.in1) hh1 hit hl hne hn fun h' tk acc hk hacc => ?_)
  obtain ⟨ls, hls⟩ := exists_strValues acc.toList fun v hv => by
    obtain ⟨j, hj, rfl⟩ := Array.mem_iff_getElem.mp (Array.mem_toList_iff.mp hv)
    have := hacc.2 j _ (Array.getElem?_eq_getElem hj)
    obtain ⟨hk2, e2⟩ := Array.getElem?_eq_some_iff.mp this
    exact hstr _ (by rw [← e2]; exact Array.getElem_mem_toList hk2)
  rw [← hls]
  have hacc' : ItemsOf (fun i v => items[items.size - 1 - i]? = some v) (strValues ls).toArray items.size := by rw [hls]; simpa using hacc
  obtain ⟨hok, hpost⟩ := hq h' tk ls hk hacc'
  unfold JoinOk at hok
  rw [Bool.not_eq_true'] at hok
  have g : Gives (joinTail x (strValues ls)) (joinMade x ls) := by
    have g0 := gives_joinTail x ls hok
    cases ls with
    | nil => exact g0
    | cons p r => cases r with
      | nil => exact g0
      | cons q r' => exact g0
  exact g prog w A (wants Q E) { s with heap := h', toks := tk } (post_join ls ⟨joinFit_length hok, fun t' k => hpost t' k⟩)
end
def tJoinRev (K : PySem.W.Frag) (to te : TE) : TE := fun σ H Q => to σ H fun x H1 => ∃ a, x = .str a ∧ te σ H1 fun y H2 => ∃ q, ∃ ys : List Str, y = .ref q ∧ SqL K H2 q (ys.map V.str) ∧ (ys.map (·.length)).sum + ys.length * a.length ≤ 16777216 ∧ Q (.str (Txt.join a ys.reverse)) H2
theorem pe_joinRev {X : Cx} {o e : Expr} {to te : TE} {apos pos p pos2 : Pos} (hc : X.calm = true) (ho : PE X o to) (hg : Gl X "reversed") (hm : X.mg "reversed" = none) (he : PE X e te)
    (hs1 : starEach [.Call (.Name "reversed" p) [e] [] pos2] X.env = [(false, eval (.Call (.Name "reversed" p) [e] [] pos2) X.env)] := by rfl) (hs : starEach [e] X.env = (false, eval e X.env) :: starEach [] X.env := by rfl)
    (hbase : attributeBase o "join" X.env (eval o X.env) = eval o X.env := by rfl) (hline : (apos.endLine == pos.line) = true := by rfl) :
    PE X (.Call (.Attribute o "join" apos) [.Call (.Name "reversed" p) [e] [] pos2] [] pos) (tJoinRev X.K to te) := by
  refine ⟨fun pins s σ H Q I h => ?_⟩
  refine PySem.Call_method1 hbase hs1 hline (thn (ho.run pins s σ H _ I h) fun v s1 ⟨x, H1, I1, r1, q1⟩ => ?_)
  obtain ⟨a, rfl, q1⟩ := q1
  obtain ⟨t, rfl⟩ := _root_.id r1
  refine ⟨"str", _, F.plainAttrs_str, F.slot_str_join, F.type_str_join, typeIs_str _ _ _, (fun _ e => nomatch e), Calls.callWith_builtin rfl (Calls.evalArgs_plain (Calls.spliced_cons ?_))⟩
  refine Call_ (ld_blt I1 hg hm PyProof.Rows.boot_reversed (PyProof.Rows.callWith_type1 (args_cons (thn (he.run pins s1 σ H1 _ I1 q1) fun u s2 ⟨y, H2, I2, r2, q2⟩ => args_nil ?_) hs) hs rfl))
  obtain ⟨q, ys, rfl, hq, hz, q2⟩ := q2
  obtain rfl : u = Value.ref q := r2
  obtain ⟨its, rv, p', hsz⟩ := I2.list hq
  refine call_reversed_list p'.isList (Calls.spliced_nil ?_)
  have k0 : ∀ b o, s2.heap.get? b = some o → (s2.heap.push (revObj q ((its.toArray.size : Int) - 1))).get? b = some o := fun b o e => Heap.get?_push_of_some _ e
  have I3 : Inv X pins σ H2 { s2 with heap := s2.heap.push (revObj q ((its.toArray.size : Int) - 1)) } := I2.kept (t' := s2.toks) k0
  obtain ⟨f0, f1, f2, f3, f4, f5⟩ := I2.fpOk (H' := H2) (b := s2.heap.objs.size) (Nat.le_refl _) (I2.hok.fresh (Nat.le_refl _))
  have hl := p'.isList
  obtain ⟨ol, hol, _⟩ := id hl
  have hne : q ≠ s2.heap.objs.size := Nat.ne_of_lt (Heap.lt_size hol)
  have hn : its.toArray.size ≤ sizeLine := by rw [List.size_toArray, ← rv.length]; exact hsz
  refine join_rev (s := { s2 with heap := s2.heap.push (revObj q ((its.toArray.size : Int) - 1)) }) (I2.ok.hd hc) ⟨_, Heap.get?_push_size _ rfl, rfl, rfl⟩ (hl.push _) hne hn (fun v hv => ?_) fun h' tk ls hk hi => ?_
  · have : StrsAre its ys := strs_of_vals rv
    rw [List.toList_toArray] at hv
    obtain ⟨l2, e2, _⟩ := strsAre_values this
    rw [e2] at hv
    unfold strValues at hv
    obtain ⟨z, _, rfl⟩ := List.mem_map.mp hv
    exact ⟨z.1, z.2, rfl⟩
  · have rr : Vals (ys.map V.str).reverse (strValues ls).toArray.toList := vals_rev rv hi
    rw [List.toList_toArray, ← List.map_reverse] at rr
    have e1 : ls.map (·.1) = ys.reverse := by
      have h1 : StrsAre (strValues ls) ys.reverse := strs_of_vals rr
      obtain ⟨l2, e2, e3⟩ := strsAre_values h1
      have : l2 = ls := by
        have inj : ∀ (a b : List (Str × Tok)), strValues a = strValues b → a = b := by
          intro a
          induction a with
          | nil => intro b h; cases b with
            | nil => rfl
            | cons _ _ => simp [strValues] at h
          | cons p a ih =>
            intro b h
            cases b with
            | nil => simp [strValues] at h
            | cons r b =>
              simp only [strValues, List.map_cons, List.cons.injEq, Value.str.injEq] at h
              obtain ⟨⟨h1, h2⟩, h3⟩ := h
              rw [ih b h3]
              cases p
              cases r
              simp only at h1 h2
              rw [h1, h2]
        exact inj _ _ e2.symm
      rw [← this, e3]
    rw [e1]
    refine ⟨joinOk_of (by rw [List.map_reverse, List.sum_reverse, List.length_reverse]; exact hz), fun t' k => ?_⟩
    have I4 : Inv X pins σ H2 { s2 with heap := h', toks := k } := I3.turned (t' := k) (fun b o hb e => hk b o hb e) f0 f1 f3 f4 f5
    exact ⟨.str _, H2, I4, ⟨t', rfl⟩, q2⟩
/-! ### join of reversed: the meaning -/
def joinRevE (fo fe : SE) : SE := fun env => bindE (fo env) fun a env1 => match a with
  | .d (.str x) => bindE (fe env1) fun b env2 => match pk b env2 with
    | some (.lst xs) => (txts xs).bind fun ys => if (ys.map (·.length)).sum + ys.length * x.length ≤ 100000 then some (.ok (.d (.str (TL.joinL x ys.reverse))) env2) else none
    | _ => none
  | _ => none
section
variable {K : PySem.W.Frag} {W : WX} {F F' : Hp} {R R' : Fm} {σ : L2.St} {H H' : Hp} {env env' : Sl} {Q : VK}
theorem dE_joinRev {fo fe : SE} (h : dE K W (joinRevE fo fe) σ H Q) : tJoinRev K (dE K W fo) (dE K W fe) σ H Q := by
  obtain ⟨env, F, R, S, q⟩ := of_dE h
  refine dE_of S (atE_bind q fun a env1 F1 v H1 e1 S1 rv q1 => ?_)
  cases a with
  | d x =>
    cases x with
    | str x =>
      cases rv
      refine ⟨mk x, rfl, dE_of S1 (atE_bind (k := fun b env2 => match pk b env2 with | some (.lst xs) => (txts xs).bind fun ys => if (ys.map (·.length)).sum + ys.length * x.length ≤ 100000 then some (.ok (.d (.str (TL.joinL x ys.reverse))) env2) else none | _ => none) q1 fun b env2 F2 w H2 e2 S2 rw' q2 => ?_)⟩
      obtain ⟨r, e, p⟩ := q2
      dsimp only at e
      cases hx : pk b env2 with
      | none => rw [hx] at e; cases e
      | some y =>
        rw [hx] at e
        cases y with
        | lst xs =>
          dsimp only at e
          rw [Option.bind_eq_some_iff] at e
          obtain ⟨ys, h1, e⟩ := e
          obtain ⟨c, rfl⟩ := some_if e
          obtain ⟨q, vs, rfl, sq, rr⟩ := (show ∃ p vs, w = .ref p ∧ SqL K H2 p vs ∧ RelAll K F2 vs xs from pk_vw S2 rw' hx)
          have := txts_rel rr h1
          subst this
          refine ⟨q, ys.map mk, rfl, sq, ?_, ?_⟩
          · rw [lens_mk, List.length_map, mk_len]
            omega
          · rw [← List.map_reverse, join_mk]
            exact post_d S2 p (.str _)
        | _ => cases e
    | _ => obtain ⟨r, e, _⟩ := q1; cases e
  | own c => obtain ⟨r, e, _⟩ := q1; cases e
  | cv i => obtain ⟨r, e, _⟩ := q1; cases e
end
section
variable {X : Cx} {W : WX} {o e : Expr} {fo fe : SE} {apos pos p pos2 : Pos}
theorem pd_joinRev (hc : X.calm = true) (hm : X.mg "reversed" = none) (ho : PE X o (dE X.K W fo)) (he : PE X e (dE X.K W fe)) (hg : Gl X "reversed" := by rfl)
    (hs1 : starEach [.Call (.Name "reversed" p) [e] [] pos2] X.env = [(false, eval (.Call (.Name "reversed" p) [e] [] pos2) X.env)] := by rfl) (hs : starEach [e] X.env = (false, eval e X.env) :: starEach [] X.env := by rfl)
    (hbase : attributeBase o "join" X.env (eval o X.env) = eval o X.env := by rfl) (hline : (apos.endLine == pos.line) = true := by rfl) :
    PE X (.Call (.Attribute o "join" apos) [.Call (.Name "reversed" p) [e] [] pos2] [] pos) (dE X.K W (joinRevE fo fe)) := (pe_joinRev hc ho hg hm he hs1 hs hbase hline).wk fun _ _ _ q => dE_joinRev q
end
end
end Dw
namespace Dw
noncomputable section
open PySem PySem.Spec PyProof.Rows L2
open PySem.Sem (wp)

/-! ### zip of two things, each a list or a tuple (t: a tuple) -/
def ItB (t : Bool) (h : Heap) (it l : Addr) (k : Nat) : Prop := if t then h.IsTupleIter it l k else h.IsListIter it l k
def SqB (t : Bool) (h : Heap) (l : Addr) (xs : Array Value) : Prop := if t then h.IsTuple l xs else h.IsList l xs
section
variable {t u : Bool} {h h' : Heap} {it l c : Addr} {k : Nat} {xs : Array Value}
theorem ItB.but (q : ItB t h it l k) (e : Heap.ExtBut c h h') (n : it ≠ c) : ItB t h' it l k := by
  cases t
  · exact Heap.IsListIter.extBut q e n
  · exact Heap.IsTupleIter.extBut q e n
theorem SqB.but (q : SqB t h l xs) (e : Heap.ExtBut c h h') (n : l ≠ c) : SqB t h' l xs := by
  cases t
  · exact Heap.IsList.extBut q e n
  · exact Heap.IsTuple.extBut q e n
theorem ItB.keep (q : ItB t h it l k) (e : ∀ o, h.get? it = some o → h'.get? it = some o) : ItB t h' it l k := by
  cases t
  · exact Heap.IsListIter.at q e
  · exact Heap.IsTupleIter.at q e
theorem SqB.push (q : SqB t h l xs) (o : Obj) : SqB t (h.push o) l xs := by
  cases t
  · exact Heap.IsList.push q o
  · exact Heap.IsTuple.push q o
theorem ItB.obj (q : ItB t h it l k) : ∃ o, h.get? it = some o ∧ ∀ v, o.data ≠ .cell v := by
  cases t
  · obtain ⟨o, ho, _, hd⟩ := (q : h.IsListIter it l k)
    exact ⟨o, ho, fun v z => by rw [hd] at z; cases z⟩
  · obtain ⟨o, ho, _, hd⟩ := (q : h.IsTupleIter it l k)
    exact ⟨o, ho, fun v z => by rw [hd] at z; cases z⟩
theorem ItB.lt (q : ItB t h it l k) : it < h.objs.size := let ⟨_, e, _⟩ := q.obj; Heap.lt_size e
theorem SqB.lt (q : SqB t h l xs) : l < h.objs.size := by
  cases t
  · obtain ⟨o, ho, _⟩ := (q : h.IsList l xs)
    exact Heap.lt_size ho
  · obtain ⟨o, ho, _⟩ := (q : h.IsTuple l xs)
    exact Heap.lt_size ho
def itO (t : Bool) (l : Addr) : Obj := { cls := .type (if t then "tuple_iterator" else "list_iterator"), data := .fields #[.ref l, .int 0 0] }
theorem ItB.new (e : h.get? it = some (itO t l)) : ItB t h it l 0 := by
  cases t
  · exact ⟨_, e, rfl, rfl⟩
  · exact ⟨_, e, rfl, rfl⟩
end
section
variable {prog : Program} {w : World} {A : Around} {E : Value → Shared → Prop} {s : Shared} {t u : Bool}
theorem next_itB {it l : Addr} {i : Nat} {xs : Array Value} {x : Value} {Q : Value → Shared → Prop} (q : ItB t s.heap it l i) (ql : SqB t s.heap l xs) (hx : xs[i]? = some x)
    (k : ∀ h', ItB t h' it l (i + 1) → Heap.SameBut it s.heap h' → Q x { s with heap := h' }) : wpAny (model prog w) A (Builtin.SmallTypes.nextOf (.ref it)) Q E s := by
  cases t
  · exact wpAny_nextOf_list_item q ql hx fun h' a b => k h' a b
  · exact RZ.nextOf_tuple_item q ql hx fun h' a b => k h' a b
theorem stop_itB {it l : Addr} {i : Nat} {xs : Array Value} {Q : Value → Shared → Prop} (hh : A.handled = none) (q : ItB t s.heap it l i) (ql : SqB t s.heap l xs) (hx : xs[i]? = none)
    (k : ∀ h' e, Heap.ExtBut it s.heap h' → (∃ o, h'.get? e = some o ∧ o.cls = .type "StopIteration") → E (.ref e) { s with heap := h' }) : wpAny (model prog w) A (Builtin.SmallTypes.nextOf (.ref it)) Q E s := by
  cases t
  · exact wpAny_nextOf_list_end hh q ql hx fun h' e a b => k h' e a b
  · exact RZ.nextOf_tuple_end hh q ql hx fun h' e a b => k h' e a b
end
end
end Dw
namespace Dw
noncomputable section
open PySem PySem.Spec PyProof.Rows L2
/-- what a turn of zip leaves as it was -/
def ZKeep (z TO p q : Addr) (h h' : Heap) : Prop := ∀ c o, c ≠ z → c ≠ TO → c ≠ p → c ≠ q → h.get? c = some o → h'.get? c = some o
section
variable {prog : Program} {w : World} {A : Around} {E : Value → Shared → Prop} {s : Shared} {t u : Bool} {z TI TO p q la lb : Addr} {m n : Nat} {xs ys : Array Value} {v0 v1 : Value}
theorem zipB_item {x y : Value} {Q : Value → Shared → Prop} (D : ZipApart z TI TO p q la lb) (hz : IsZip s.heap z TI TO .none) (hi : IsPair s.heap TI (.ref p) (.ref q)) (ho : IsPair s.heap TO v0 v1)
    (a1 : ItB t s.heap p la m) (a2 : ItB u s.heap q lb n) (b1 : SqB t s.heap la xs) (b2 : SqB u s.heap lb ys) (ex : xs[m]? = some x) (ey : ys[n]? = some y)
    (k : ∀ h', IsZip h' z TI TO (rawInt s.heap.objs.size) → IsPair h' TO x y → ItB t h' p la (m + 1) → ItB u h' q lb (n + 1) → IsPair h' s.heap.objs.size x y → h'.objs.size = s.heap.objs.size + 1 → ZKeep z TO p q s.heap h' → Q (.ref s.heap.objs.size) { s with heap := h' }) :
    wpAny (model prog w) A (Builtin.«zip.__next__» ⟨[.ref z], []⟩) (fun fin s' => ∃ v, fin = .done (.ret v) ∧ Q v s') E s := by
  (show wpAny _ _ (field (.ref z) 2 >>= _) _ _ _); refine wpAny_bind (wpAny_field hz rfl (x := .bool false) rfl ?_)
  (show wpAny _ _ (field (.ref z) 3 >>= _) _ _ _); refine wpAny_bind (wpAny_field hz rfl (x := .ref TI) rfl ?_)
  refine wpAny_bind (wpAny_seqItems hi rfl ?_); (show wpAny _ _ (Builtin.SmallTypes.ownedTupleIsFree (.ref z) >>= _) _ _ _); refine wpAny_bind ?_
  unfold Builtin.SmallTypes.ownedTupleIsFree; refine wpAny_bind (wpAny_field hz rfl (x := .none) rfl (wpAny_pure ?_)); simp only [if_true]
  refine wpAny_bind (wpAny_rule ?_); refine wpAny_bind (wpAny_field hz rfl (x := .ref TO) rfl ?_)
  refine wpAny_bind (wpAny_setField_rec hz (by simp) fun g1 z1 k1 => ?_)
  have z1 : IsZip g1 z TI TO .ellipsis := z1
  refine wpAny_bind ?_; simp only [List.zipIdx_cons, List.zipIdx_nil, List.forIn_cons, List.forIn_nil]
  refine wpAny_bind (wpAny_bind (wpAny_onRaise ?_)); (show wpAny _ _ (Builtin.SmallTypes.nextOf (.ref p) >>= _) _ _ _)
  refine wpAny_bind (next_itB (a1.but k1.extBut D.i1z) (b1.but k1.extBut D.l1z) ex fun g2 n1 k2 => wpAny_pure ?_)
  have o2 : IsPair g2 TO v0 v1 := k2.extBut _ _ D.TOi1 (k1.extBut _ _ D.TOz ho)
  refine wpAny_bind (wpAny_seqItems o2 rfl ?_); refine wpAny_bind (wpAny_updateSeq_pair o2 fun g3 o3 k3 => ?_)
  have o3 : IsPair g3 TO x v1 := o3
  refine wpAny_bind (wpAny_letGo (wpAny_pure ?_)); refine wpAny_bind (wpAny_bind (wpAny_onRaise ?_)); (show wpAny _ _ (Builtin.SmallTypes.nextOf (.ref q) >>= _) _ _ _)
  refine wpAny_bind (next_itB (((a2.but k1.extBut D.i2z).but k2.extBut D.i12.symm).but k3.extBut D.TOi2.symm) (((b2.but k1.extBut D.l2z).but k2.extBut D.l2i1).but k3.extBut D.l2TO) ey fun g4 n2 k4 => wpAny_pure ?_)
  have o4 : IsPair g4 TO x v1 := k4.extBut _ _ D.TOi2 o3
  refine wpAny_bind (wpAny_seqItems o4 rfl ?_); refine wpAny_bind (wpAny_updateSeq_pair o4 fun g5 o5 k5 => ?_)
  have o5 : IsPair g5 TO x y := o5
  refine wpAny_bind (wpAny_letGo (wpAny_pure (wpAny_pure ?_))); refine wpAny_bind (wpAny_seqItems o5 rfl ?_); refine wpAny_bind (wpAny_newTuple ?_)
  have sz : g5.objs.size = s.heap.objs.size := by rw [k5.1, k4.1, k3.1, k2.1, k1.1]
  have z5 : IsZip g5 z TI TO .ellipsis := k5.extBut _ _ D.TOz.symm (k4.extBut _ _ D.i2z.symm (k3.extBut _ _ D.TOz.symm (k2.extBut _ _ D.i1z.symm z1)))
  have kk : ZKeep z TO p q s.heap g5 := fun c o c1 c2 c3 c4 e => k5.extBut _ _ c2 (k4.extBut _ _ c4 (k3.extBut _ _ c2 (k2.extBut _ _ c3 (k1.extBut _ _ c1 e))))
  have p5 : ItB t g5 p la (m + 1) := ((n1.but k3.extBut D.TOi1.symm).but k4.extBut D.i12).but k5.extBut D.TOi1.symm
  have q5 : ItB u g5 q lb (n + 1) := n2.but k5.extBut D.TOi2.symm
  have zl : z < g5.objs.size := Heap.lt_size z5
  (show wpAny _ _ (Builtin.SmallTypes.ownedTupleHandOut (.ref z) (.ref g5.objs.size) >>= _) _ _ _); refine wpAny_bind ?_
  unfold Builtin.SmallTypes.ownedTupleHandOut
  have z6 : IsZip (g5.push { cls := .type "tuple", data := .seq #[x, y] }) z TI TO .ellipsis := Heap.get?_push_of_some _ z5
  refine wpAny_bind (wpAny_setField_rec z6 (by simp) fun g7 z7 k7 => ?_)
  have z7 : IsZip g7 z TI TO (rawInt g5.objs.size) := z7
  refine wpAny_setField_rec z7 (by simp) fun g8 z8 k8 => ?_
  have z8 : IsZip g8 z TI TO (rawInt g5.objs.size) := z8
  have up : ∀ c o, c ≠ z → g5.get? c = some o → g8.get? c = some o := fun c o c1 e => k8.extBut _ _ c1 (k7.extBut _ _ c1 (Heap.get?_push_of_some _ e))
  have t8 : IsPair g8 g5.objs.size x y := k8.extBut _ _ (Nat.ne_of_gt zl) (k7.extBut _ _ (Nat.ne_of_gt zl) (Heap.get?_push_size _ rfl))
  have s8 : g8.objs.size = g5.objs.size + 1 := by rw [k8.1, k7.1, Heap.size_push]
  rw [sz] at z8 t8 s8
  refine wpAny_pure ⟨_, rfl, ?_⟩
  (show Q (.ref g5.objs.size) _); rw [sz]
  exact k g8 z8 (up _ _ D.TOz o5) (p5.keep fun o e => up _ o D.i1z e) (q5.keep fun o e => up _ o D.i2z e) t8 s8 fun c o c1 c2 c3 c4 e => up c o c1 (kk c o c1 c2 c3 c4 e)
theorem zipB_stop {Q : Fin → Shared → Prop} (hh : A.handled = none) (D : ZipApart z TI TO p q la lb) (hz : IsZip s.heap z TI TO .none) (hi : IsPair s.heap TI (.ref p) (.ref q)) (ho : IsPair s.heap TO v0 v1)
    (a1 : ItB t s.heap p la m) (a2 : ItB u s.heap q lb n) (b1 : SqB t s.heap la xs) (b2 : SqB u s.heap lb ys) (en : xs[m]? = none ∨ ys[n]? = none)
    (k : ∀ h' e, ZKeep z TO p q s.heap h' → (∃ o, h'.get? e = some o ∧ o.cls = .type "StopIteration") → E (.ref e) { s with heap := h' }) : wpAny (model prog w) A (Builtin.«zip.__next__» ⟨[.ref z], []⟩) Q E s := by
  (show wpAny _ _ (field (.ref z) 2 >>= _) _ _ _); refine wpAny_bind (wpAny_field hz rfl (x := .bool false) rfl ?_)
  (show wpAny _ _ (field (.ref z) 3 >>= _) _ _ _); refine wpAny_bind (wpAny_field hz rfl (x := .ref TI) rfl ?_)
  refine wpAny_bind (wpAny_seqItems hi rfl ?_); (show wpAny _ _ (Builtin.SmallTypes.ownedTupleIsFree (.ref z) >>= _) _ _ _); refine wpAny_bind ?_
  unfold Builtin.SmallTypes.ownedTupleIsFree; refine wpAny_bind (wpAny_field hz rfl (x := .none) rfl (wpAny_pure ?_)); simp only [if_true]
  refine wpAny_bind (wpAny_rule ?_); refine wpAny_bind (wpAny_field hz rfl (x := .ref TO) rfl ?_)
  refine wpAny_bind (wpAny_setField_rec hz (by simp) fun g1 z1 k1 => ?_)
  have z1 : IsZip g1 z TI TO .ellipsis := z1
  refine wpAny_bind ?_; simp only [List.zipIdx_cons, List.zipIdx_nil, List.forIn_cons, List.forIn_nil]
  refine wpAny_bind (wpAny_bind (wpAny_onRaise ?_)); (show wpAny _ _ (Builtin.SmallTypes.nextOf (.ref p) >>= _) _ _ _)
  cases ex : xs[m]? with
  | none =>
    refine wpAny_bind (stop_itB hh (a1.but k1.extBut D.i1z) (b1.but k1.extBut D.l1z) ex fun g2 e k2 ⟨oe, he, ce⟩ => ?_)
    have z2 : IsZip g2 z TI TO .ellipsis := k2 _ _ D.i1z.symm z1
    have ne : e ≠ z := fun r => by subst r; rw [z2] at he; cases he; simp at ce
    exact wpAny_setField_rec z2 (by simp) fun g3 _ k3 => k g3 e (fun c o c1 _ c3 _ r => k3.extBut _ _ c1 (k2 _ _ c3 (k1.extBut _ _ c1 r))) ⟨oe, k3.extBut _ _ ne he, ce⟩
  | some x =>
    have ey : ys[n]? = none := en.resolve_left (by rw [ex]; simp)
    refine wpAny_bind (next_itB (a1.but k1.extBut D.i1z) (b1.but k1.extBut D.l1z) ex fun g2 n1 k2 => wpAny_pure ?_)
    have o2 : IsPair g2 TO v0 v1 := k2.extBut _ _ D.TOi1 (k1.extBut _ _ D.TOz ho)
    refine wpAny_bind (wpAny_seqItems o2 rfl ?_); refine wpAny_bind (wpAny_updateSeq_pair o2 fun g3 o3 k3 => ?_)
    refine wpAny_bind (wpAny_letGo (wpAny_pure ?_)); refine wpAny_bind (wpAny_bind (wpAny_onRaise ?_)); (show wpAny _ _ (Builtin.SmallTypes.nextOf (.ref q) >>= _) _ _ _)
    refine wpAny_bind (stop_itB hh (((a2.but k1.extBut D.i2z).but k2.extBut D.i12.symm).but k3.extBut D.TOi2.symm) (((b2.but k1.extBut D.l2z).but k2.extBut D.l2i1).but k3.extBut D.l2TO) ey fun g4 e k4 ⟨oe, he, ce⟩ => ?_)
    have z4 : IsZip g4 z TI TO .ellipsis := k4 _ _ D.i2z.symm (k3.extBut _ _ D.TOz.symm (k2.extBut _ _ D.i1z.symm z1))
    have ne : e ≠ z := fun r => by subst r; rw [z4] at he; cases he; simp at ce
    exact wpAny_setField_rec z4 (by simp) fun g5 _ k5 => k g5 e (fun c o c1 c2 c3 c4 r => k5.extBut _ _ c1 (k4 _ _ c4 (k3.extBut _ _ c2 (k2.extBut _ _ c3 (k1.extBut _ _ c1 r))))) ⟨oe, k5.extBut _ _ ne he, ce⟩
theorem pyNext_zipB {x y : Value} {Q : Option Value → Shared → Prop} (D : ZipApart z TI TO p q la lb) (hz : IsZip s.heap z TI TO .none) (hi : IsPair s.heap TI (.ref p) (.ref q)) (ho : IsPair s.heap TO v0 v1)
    (a1 : ItB t s.heap p la m) (a2 : ItB u s.heap q lb n) (b1 : SqB t s.heap la xs) (b2 : SqB u s.heap lb ys) (ex : xs[m]? = some x) (ey : ys[n]? = some y)
    (k : ∀ h', IsZip h' z TI TO (rawInt s.heap.objs.size) → IsPair h' TO x y → ItB t h' p la (m + 1) → ItB u h' q lb (n + 1) → IsPair h' s.heap.objs.size x y → h'.objs.size = s.heap.objs.size + 1 → ZKeep z TO p q s.heap h' → Q (some (.ref s.heap.objs.size)) { s with heap := h' }) :
    wpAny (model prog w) A (pyNext (.ref z)) Q E s := by
  have ty : s.TypeIs (.ref z) "zip" := ⟨_, hz, rfl⟩
  exact wpAny_bind (wpAny_attempt (wpAny_callSpecial?_slot (name := Str.ofString "__next__") ty F.slot_zip_next (wpAny_call_entry F.slot_zip_next ty F.entry_zip_next
    (zipB_item D hz hi ho a1 a2 b1 b2 ex ey fun h' c1 c2 c3 c4 c5 c6 c7 => wpAny_pure (k h' c1 c2 c3 c4 c5 c6 c7)) (F.args_zip_next_1 _))))
theorem pyNext_zipB_stop {Q : Option Value → Shared → Prop} (hh : A.handled = none) (D : ZipApart z TI TO p q la lb) (hz : IsZip s.heap z TI TO .none) (hi : IsPair s.heap TI (.ref p) (.ref q)) (ho : IsPair s.heap TO v0 v1)
    (a1 : ItB t s.heap p la m) (a2 : ItB u s.heap q lb n) (b1 : SqB t s.heap la xs) (b2 : SqB u s.heap lb ys) (en : xs[m]? = none ∨ ys[n]? = none)
    (k : ∀ h', ZKeep z TO p q s.heap h' → Q none { s with heap := h' }) : wpAny (model prog w) A (pyNext (.ref z)) Q E s := by
  have ty : s.TypeIs (.ref z) "zip" := ⟨_, hz, rfl⟩
  refine wpAny_bind (wpAny_attempt (wpAny_callSpecial?_slot (name := Str.ofString "__next__") ty F.slot_zip_next (wpAny_call_entry F.slot_zip_next ty F.entry_zip_next
    (zipB_stop hh D hz hi ho a1 a2 b1 b2 en fun h' e hk ⟨o, oe, ce⟩ => ?_) (F.args_zip_next_1 _))))
  exact wpAny_bind (wpAny_isInstance (T := "StopIteration") (b := true) ⟨o, oe, ce⟩ isSubtype_stop (wpAny_pure (k _ hk)))
end
/-! ### a new zip -/
abbrev zB1 (t : Bool) (h : Heap) (a : Addr) : Heap := h.push (itO t a)
abbrev zB2 (t u : Bool) (h : Heap) (a b : Addr) : Heap := (zB1 t h a).push (itO u b)
abbrev zB3 (t u : Bool) (h : Heap) (a b : Addr) : Heap := (zB2 t u h a b).push { cls := .type "tuple", data := .seq #[.ref h.objs.size, .ref (zB1 t h a).objs.size] }
abbrev zB4 (t u : Bool) (h : Heap) (a b : Addr) : Heap := (zB3 t u h a b).push { cls := .type "tuple", data := .seq #[.none, .none] }
abbrev zB5 (t u : Bool) (h : Heap) (a b : Addr) : Heap := (zB4 t u h a b).push { cls := .type "zip", data := .fields #[.none, .bool false, .bool false, .ref (zB2 t u h a b).objs.size, .ref (zB3 t u h a b).objs.size] }
theorem meets_zipLT (a b : Addr) (xs ys : Array Value) : Meets (Builtin.«zip.__new__» ⟨[.type "zip", .ref a, .ref b], []⟩) (fun _ R s => s.heap.IsList a xs ∧ s.heap.IsTuple b ys ∧ R (.ok (.ret (.ref (zB4 false true s.heap a b).objs.size))) { s with heap := zB5 false true s.heap a b }) :=
  .of_wp fun prog w A R s h => by
    obtain ⟨hp, g, d, tk, os⟩ := s; obtain ⟨e1, e2, h⟩ := h; have hsub := sub_zip
    have f1 : Heap.IsList (Shared.heap ⟨hp, g, d, tk, os⟩) a xs := e1
    have f2 : Heap.IsTuple (Shared.heap ⟨hp.push { cls := .type "list_iterator", data := .fields #[.ref a, .int 0 0] }, g, d, tk, os⟩) b ys := Heap.IsTuple.push e2 _
    wp_walk using wpAny_pyIter_list f1, wpAny_pyIter_tuple f2
    exact ⟨_, rfl, h⟩
theorem meets_zipTL (a b : Addr) (xs ys : Array Value) : Meets (Builtin.«zip.__new__» ⟨[.type "zip", .ref a, .ref b], []⟩) (fun _ R s => s.heap.IsTuple a xs ∧ s.heap.IsList b ys ∧ R (.ok (.ret (.ref (zB4 true false s.heap a b).objs.size))) { s with heap := zB5 true false s.heap a b }) :=
  .of_wp fun prog w A R s h => by
    obtain ⟨hp, g, d, tk, os⟩ := s; obtain ⟨e1, e2, h⟩ := h; have hsub := sub_zip
    have f1 : Heap.IsTuple (Shared.heap ⟨hp, g, d, tk, os⟩) a xs := e1
    have f2 : Heap.IsList (Shared.heap ⟨hp.push { cls := .type "tuple_iterator", data := .fields #[.ref a, .int 0 0] }, g, d, tk, os⟩) b ys := Heap.IsList.push e2 _
    wp_walk using wpAny_pyIter_tuple f1, wpAny_pyIter_list f2
    exact ⟨_, rfl, h⟩
theorem meets_zipB (t u : Bool) (a b : Addr) (xs ys : Array Value) : Meets (Builtin.«zip.__new__» ⟨[.type "zip", .ref a, .ref b], []⟩) (fun _ R s => SqB t s.heap a xs ∧ SqB u s.heap b ys ∧ R (.ok (.ret (.ref (zB4 t u s.heap a b).objs.size))) { s with heap := zB5 t u s.heap a b }) := by
  cases t <;> cases u
  · exact meets_zip_new a b xs ys
  · exact meets_zipLT a b xs ys
  · exact meets_zipTL a b xs ys
  · exact RZ.meets_zipT_new a b xs ys
end
end Dw
namespace Dw
noncomputable section
open PySem PySem.Spec PyProof.Rows L2
section
variable {prog : Program} {w : World} {A : Around} {E : Value → Shared → Prop} {s : Shared} {t u : Bool} {a b : Addr} {xs ys : Array Value}
theorem call_zipB {Q : Value → Shared → Prop} (e1 : SqB t s.heap a xs) (e2 : SqB u s.heap b ys)
    (k : ∀ h', IsZip h' (s.heap.objs.size + 4) (s.heap.objs.size + 2) (s.heap.objs.size + 3) .none → IsPair h' (s.heap.objs.size + 2) (.ref s.heap.objs.size) (.ref (s.heap.objs.size + 1)) → IsPair h' (s.heap.objs.size + 3) .none .none →
      ItB t h' s.heap.objs.size a 0 → ItB u h' (s.heap.objs.size + 1) b 0 → (∀ c o, s.heap.get? c = some o → h'.get? c = some o) → Q (.ref (s.heap.objs.size + 4)) { s with heap := h' }) : wpAny (model prog w) A (call (.type "zip") [.ref a, .ref b]) Q E s := by
  refine callType_new F.called_zip (by decide) (F.typeCall_zip_2 _ _) (F.newCall_zip_2 _ _) (fun obj => F.args_object_init_3 obj _ _) F.entry_zip_new (meets_zipB t u a b xs ys) ⟨e1, e2, ?_⟩
  have y1 : (zB1 t s.heap a).objs.size = s.heap.objs.size + 1 := Heap.size_push ..
  have y2 : (zB2 t u s.heap a b).objs.size = s.heap.objs.size + 2 := by rw [Heap.size_push, y1]
  have y3 : (zB3 t u s.heap a b).objs.size = s.heap.objs.size + 3 := by rw [Heap.size_push, y2]
  have y4 : (zB4 t u s.heap a b).objs.size = s.heap.objs.size + 4 := by rw [Heap.size_push, y3]
  have p5 : (zB5 t u s.heap a b).get? (zB4 t u s.heap a b).objs.size = some _ := Heap.get?_push_size _ rfl
  have p4 : (zB5 t u s.heap a b).get? (zB3 t u s.heap a b).objs.size = some _ := Heap.get?_push_of_some _ (Heap.get?_push_size _ rfl)
  have p3 : (zB5 t u s.heap a b).get? (zB2 t u s.heap a b).objs.size = some _ := Heap.get?_push_of_some _ (Heap.get?_push_of_some _ (Heap.get?_push_size _ rfl))
  have p2 : (zB5 t u s.heap a b).get? (zB1 t s.heap a).objs.size = some (itO u b) := Heap.get?_push_of_some _ (Heap.get?_push_of_some _ (Heap.get?_push_of_some _ (Heap.get?_push_size _ rfl)))
  have p1 : (zB5 t u s.heap a b).get? s.heap.objs.size = some (itO t a) := Heap.get?_push_of_some _ (Heap.get?_push_of_some _ (Heap.get?_push_of_some _ (Heap.get?_push_of_some _ (Heap.get?_push_size _ rfl))))
  (show _ ∧ _); rw [y2, y3, y4] at p5; rw [y1, y2] at p3; rw [y3] at p4; rw [y1] at p2; rw [y4]
  exact ⟨⟨_, p5, rfl⟩, k _ p5 p3 p4 (ItB.new p1) (ItB.new p2) fun c o x => Heap.get?_push_of_some _ (Heap.get?_push_of_some _ (Heap.get?_push_of_some _ (Heap.get?_push_of_some _ (Heap.get?_push_of_some _ x))))⟩
end

/-! ### the loop over it -/
def SqX (t : Bool) (K : PySem.W.Frag) (H : Hp) (a : Addr) (xs : List V) : Prop := if t then SqT K H a xs else SqL K H a xs
theorem SqX.ex {t : Bool} {K : PySem.W.Frag} {H H' : Hp} {a : Addr} {xs : List V} (e : Ex H H') (q : SqX t K H a xs) : SqX t K H' a xs := by
  cases t
  · exact ex_l e q
  · exact ex_t e q
section
variable {X : Cx} {pins : List (Addr × Obj)} {σ : L2.St} {H : Hp} {s : Shared}
theorem SqX.at {t : Bool} {a : Addr} {xs : List V} (I : Inv X pins σ H s) (q : SqX t X.K H a xs) : ∃ its : List Value, Vals xs its ∧ SqB t s.heap a its.toArray := by
  cases t
  · obtain ⟨its, r, p, _⟩ := I.list q
    exact ⟨its, r, p.isList⟩
  · obtain ⟨its, r, p, _⟩ := I.tuple q
    exact ⟨its, r, p⟩
theorem SqX.inj {t : Bool} {a : Addr} {xs ys : List V} (I : Inv X pins σ H s) (q : SqX t X.K H a xs) (r : SqX t X.K H a ys) : xs = ys := by
  cases t
  · exact I.list_inj q r
  · exact I.tuple_inj q r
end
def ItZ (K : PySem.W.Frag) (t u : Bool) (a b : Addr) : It :=
  ⟨fun i H => ∃ (xs ys : List V) (x y : V), SqX t K H a xs ∧ SqX u K H b ys ∧ xs[i]? = some x ∧ ys[i]? = some y,
   fun i H v H' => ∃ T x y, v = .ref T ∧ H T = none ∧ H' = upd H T (.tup [x, y]) ∧ (∀ xs, SqX t K H a xs → xs[i]? = some x) ∧ ∀ ys, SqX u K H b ys → ys[i]? = some y,
   fun i H => ∃ xs ys : List V, SqX t K H a xs ∧ SqX u K H b ys ∧ (xs.length ≤ i ∨ ys.length ≤ i)⟩
theorem turn_zipB {P : Program} {w : World} {K : PySem.W.Frag} {elts : List Expr} {kk : Nat} {tpos : Pos} {t u : Bool} {a b z TI TO p q : Addr} (D : ZipApart z TI TO p q a b) :
    Turn P w K (.Tuple elts kk tpos) (ItZ K t u a b) [z, TI, TO, p, q] z (fun i h => IsZip h z TI TO .none ∧ IsPair h TI (.ref p) (.ref q) ∧ (∃ x y, IsPair h TO x y) ∧ ItB t h p a i ∧ ItB u h q b i) where
  mem := by simp
  obj := by
    intro i h st c hc
    obtain ⟨hz, h1, ⟨x, y, h2⟩, h3, h4⟩ := st
    simp only [List.mem_cons, List.not_mem_nil, or_false] at hc
    rcases hc with e | e | e | e | e <;> subst e
    · exact ⟨_, hz, fun v r => nomatch r⟩
    · exact ⟨_, h1, fun v r => nomatch r⟩
    · exact ⟨_, h2, fun v r => nomatch r⟩
    · exact h3.obj
    · exact h4.obj
  keep := by
    intro i h h' st k
    obtain ⟨hz, h1, ⟨x, y, h2⟩, h3, h4⟩ := st
    exact ⟨k z (by simp) _ hz, k TI (by simp) _ h1, ⟨x, y, k TO (by simp) _ h2⟩, h3.keep fun o r => k p (by simp) o r, h4.keep fun o r => k q (by simp) o r⟩
  item := by
    intro X hP hw hK hc i pins s σ H E I hf st hg
    subst hP hw hK
    obtain ⟨hz, h1, ⟨x0, y0, h2⟩, h3, h4⟩ := st
    obtain ⟨xs, ys, x, y, qx, qy, hx, hy⟩ := hg
    obtain ⟨is, r1, b1⟩ := qx.at I
    obtain ⟨js, r2, b2⟩ := qy.at I
    obtain ⟨v1, e1, f1⟩ := r1.get hx
    obtain ⟨v2, e2, f2⟩ := r2.get hy
    have zl : z < s.heap.objs.size := Heap.lt_size hz
    refine pyNext_zipB D hz h1 h2 h3 h4 b1 b2 (x := v1) (y := v2) (by simpa using e1) (by simpa using e2) fun h' n1 n2 n3 n4 n5 n6 n7 => ?_
    refine ⟨_, rfl, wpAny_letOwnedTupleGo_zip (s := { s with heap := h' }) n1 fun h'' m1 sb => ?_⟩
    have t2 : h''.get? s.heap.objs.size = some { cls := .type "tuple", data := .seq #[v1, v2] } := (sb.2 _ (Nat.ne_of_gt zl)).trans n5
    have nw : ObjOk X.prog X.w (upd H s.heap.objs.size (.tup [x, y])) h'' s.heap.objs.size (.tup [x, y]) := ⟨by show 2 ≤ sizeLine; decide, [v1, v2], .cons f1 (.cons f2 .nil), ⟨_, t2, rfl, _, rfl⟩⟩
    have I1 : Inv X pins σ (upd H s.heap.objs.size (.tup [x, y])) { s with heap := h'' } := I.turnedNew (t' := s.toks) (ch := [z, TI, TO, p, q])
      (fun c o hb r => (sb.2 c (fun w => hb (by simp [w]))).trans (n7 c o (fun w => hb (by simp [w])) (fun w => hb (by simp [w])) (fun w => hb (by simp [w])) (fun w => hb (by simp [w])) r)) hf (Nat.le_refl _) nw
    refine ⟨.ref s.heap.objs.size, _, I1, rfl, ⟨_, x, y, rfl, I.hok.fresh (Nat.le_refl _), rfl, fun l hl => by rw [hl.inj I qx]; exact hx, fun l hl => by rw [hl.inj I qy]; exact hy⟩,
      ⟨m1, (sb.2 _ D.TIz).trans (n7 _ _ D.TIz D.TITO D.TIi1 D.TIi2 h1), ⟨v1, v2, (sb.2 _ D.TOz).trans n2⟩, n3.keep fun o r => (sb.2 _ D.i1z).trans r, n4.keep fun o r => (sb.2 _ D.i2z).trans r⟩, fun c hcm => ?_⟩
    have hlt : c < s.heap.objs.size := by
      have hcm2 := hcm
      simp only [List.mem_cons, List.not_mem_nil, or_false] at hcm2
      rcases hcm2 with e | e | e | e | e <;> rw [e]
      · exact zl
      · exact Heap.lt_size h1
      · exact Heap.lt_size h2
      · exact h3.lt
      · exact h4.lt
    rw [upd_ne (Nat.ne_of_lt hlt)]
    exact (hf c hcm).1
  done := by
    intro X hP hw hK hc i pins s σ H E I hf st hg
    subst hP hw hK
    obtain ⟨hz, h1, ⟨x0, y0, h2⟩, h3, h4⟩ := st
    obtain ⟨xs, ys, qx, qy, en⟩ := hg
    obtain ⟨is, r1, b1⟩ := qx.at I
    obtain ⟨js, r2, b2⟩ := qy.at I
    have l1 := r1.length
    have l2 := r2.length
    have he : is.toArray[i]? = none ∨ js.toArray[i]? = none := en.imp (fun r => by simp; omega) (fun r => by simp; omega)
    exact pyNext_zipB_stop (I.ok.hd hc) D hz h1 h2 h3 h4 b1 b2 he fun h' hk => ⟨rfl, I.turnedL (t' := s.toks) (ch := [z, TI, TO, p, q])
      (fun c o hb r => hk c o (fun w => hb (by simp [w])) (fun w => hb (by simp [w])) (fun w => hb (by simp [w])) (fun w => hb (by simp [w])) r) hf⟩
  self := fun A i s Q E st h => wpAny_pyIter_zip st.1 h
def iZipB (K : PySem.W.Frag) (ta : TA) : TI := fun σ H R => ta σ H fun vs H1 => ∃ t u a b xs ys, vs = [.ref a, .ref b] ∧ SqX t K H1 a xs ∧ SqX u K H1 b ys ∧ R (ItZ K t u a b) H1
theorem pi_zipB {X : Cx} {e e2 : Expr} {ta : TA} {p pos tpos : Pos} {elts : List Expr} {kk : Nat} (hg : Gl X "zip") (hm : X.mg "zip" = none) (ha : PA X [e, e2] ta)
    (hs : starEach [e, e2] X.env = (false, eval e X.env) :: starEach [e2] X.env := by rfl) (hpl : (backTo pos (starEach [e2] X.env)).any (·.1) = false := by rfl) : PI X (.Tuple elts kk tpos) (.Call (.Name "zip" p) [e, e2] [] pos) (iZipB X.K ta) := by
  refine ⟨fun pins s σ H R I h => ?_⟩
  refine Call_ (ld_blt I hg hm PyProof.Rows.boot_zip (PyProof.Rows.callWith_type1 (thn (ha.run pos pins s σ H _ I h) fun us s1 ⟨vs, H1, I1, r1, q1⟩ => ?_) hs hpl))
  obtain ⟨t, u, a, b, xs, ys, ex, qx, qy, q⟩ := q1
  subst ex
  cases r1 with
  | cons rx rr =>
  cases rr with
  | cons ry rr =>
  cases rr
  cases rx
  cases ry
  obtain ⟨is, f1, b1⟩ := qx.at I1
  obtain ⟨js, f2, b2⟩ := qy.at I1
  refine call_zipB b1 b2 fun h' n1 n2 n3 n4 n5 hk => wpAny_pyIter_zip n1 ?_
  have I2 : Inv X pins σ H1 { s1 with heap := h' } := I1.kept (t' := s1.toks) hk
  refine ⟨s1.heap.objs.size + 4, [s1.heap.objs.size + 4, s1.heap.objs.size + 2, s1.heap.objs.size + 3, s1.heap.objs.size, s1.heap.objs.size + 1], _, _, H1, rfl, I2, turn_zipB (PySem.W.ktu_apart s1.heap.objs.size a b b1.lt b2.lt), ⟨n1, n2, ⟨_, _, n3⟩, n4, n5⟩, fun c hcm => ?_, q⟩
  have hc5 : c = s1.heap.objs.size + 4 ∨ c = s1.heap.objs.size + 2 ∨ c = s1.heap.objs.size + 3 ∨ c = s1.heap.objs.size ∨ c = s1.heap.objs.size + 1 := by simpa only [List.mem_cons, List.not_mem_nil, or_false] using hcm
  have hle : s1.heap.objs.size ≤ c := by
    rcases hc5 with e | e | e | e | e <;> rw [e]
    · exact Nat.le_add_right _ _
    · exact Nat.le_add_right _ _
    · exact Nat.le_add_right _ _
    · exact Nat.le_refl _
    · exact Nat.le_add_right _ _
  exact I1.fpOk hle (I1.hok.fresh hle)
end
end Dw
namespace Dw
noncomputable section
open PySem PySem.Spec PyProof.Rows L2

/-! ### zip: the meaning -/
def zipL : List D → List D → List D
  | x :: xs, y :: ys => .tup [x, y] :: zipL xs ys
  | _, _ => []
theorem zipL_len : ∀ (xs ys : List D), (zipL xs ys).length = min xs.length ys.length
  | [], _ => by simp [zipL]
  | _ :: _, [] => by simp [zipL]
  | x :: xs, y :: ys => by rw [zipL, List.length_cons, List.length_cons, List.length_cons, zipL_len]; omega
theorem zipL_get : ∀ (k : Nat) (xs ys : List D) (z : D), (zipL xs ys)[k]? = some z → ∃ x y, xs[k]? = some x ∧ ys[k]? = some y ∧ z = .tup [x, y]
  | k, [], _, z, h => by simp [zipL] at h
  | k, _ :: _, [], z, h => by simp [zipL] at h
  | 0, x :: xs, y :: ys, z, h => by
    simp [zipL] at h
    exact ⟨x, y, rfl, rfl, h.symm⟩
  | k + 1, x :: xs, y :: ys, z, h => by
    obtain ⟨a, b, h1, h2, h3⟩ := zipL_get k xs ys z (by simpa [zipL] using h)
    exact ⟨a, b, by simpa using h1, by simpa using h2, h3⟩
def seqZ : D → Option (Bool × List D)
  | .lst xs => some (false, xs)
  | .tup xs => some (true, xs)
  | _ => none
def zipE (fa : SA) : SI := fun env => bindAI (fa env) fun as env1 => (frzs as env1).bind fun p => match p.1 with
  | [x, y] => (seqZ x).bind fun a => (seqZ y).map fun b => .ok (zipL a.2 b.2) p.2
  | _ => none
section
variable {K : PySem.W.Frag} {W : WX} {F F' : Hp} {R R' : Fm} {σ : L2.St} {H H' : Hp} {env env' : Sl}
theorem seqZ_at {x : D} {t : Bool} {xs : List D} {v : V} (e : seqZ x = some (t, xs)) (r : Rel K F v x) : ∃ a vs, v = .ref a ∧ SqX t K F a vs ∧ RelAll K F vs xs := by
  cases r with
  | lst s r => cases e; exact ⟨_, _, rfl, s, r⟩
  | tup s r => cases e; exact ⟨_, _, rfl, s, r⟩
  | _ => cases e
theorem wk_zip {t u : Bool} {a b : Addr} {vs ws : List V} {xs ys : List D} (s : SqX t K F a vs) (r : RelAll K F vs xs) (s2 : SqX u K F b ws) (r2 : RelAll K F ws ys) : Wk K F (ItZ K t u a b) (zipL xs ys) := by
  refine ⟨fun i H hi e => ?_, fun H e => ⟨vs, ws, s.ex e, s2.ex e, by rw [r.len, r2.len, zipL_len]; omega⟩, fun {F' R σ env} i H v H' y hx e S yl => ?_⟩
  · rw [zipL_len] at hi
    obtain ⟨v, hv, _⟩ := r.getD (List.getElem?_eq_getElem (show i < xs.length by omega))
    obtain ⟨w, hw, _⟩ := r2.getD (List.getElem?_eq_getElem (show i < ys.length by omega))
    exact ⟨vs, ws, v, w, s.ex e, s2.ex e, hv, hw⟩
  · obtain ⟨T, v1, v2, rfl, hT, rfl, g1, g2⟩ := yl
    obtain ⟨x, y, h1, h2, rfl⟩ := zipL_get i _ _ _ hx
    obtain ⟨d1, q1, f1⟩ := r.get (g1 vs (s.ex (e.trans S.sub)))
    obtain ⟨d2, q2, f2⟩ := r2.get (g2 ws (s2.ex (e.trans S.sub)))
    rw [h1] at q1
    rw [h2] at q2
    cases q1
    cases q2
    have eF : Ex F' (upd F' T (.tup [v1, v2])) := Ex.new (S.freeF hT)
    exact ⟨_, eF, S.freshF hT, .tup (SqT.of upd_same) (.cons ((f1.up e).up eF) (.cons ((f2.up e).up eF) .nil)), Ex.new hT⟩
theorem dI_zip {fa : SA} {Q : It → Hp → Prop} (h : dI K W (zipE fa) σ H Q) : iZipB K (dA K W fa) σ H Q := by
  obtain ⟨env, F, R, r, S, e, p⟩ := h
  rcases bindAI_inv e with ⟨as, env1, h1, h2⟩ | ⟨x, env1, h1, rfl⟩
  · rw [Option.bind_eq_some_iff] at h2
    obtain ⟨⟨zs, env2⟩, h3, h4⟩ := h2
    match zs, h3, h4 with
    | [x, y], h3, h4 =>
      have h4 : ((seqZ x).bind fun a => (seqZ y).map fun b => ReI.ok (zipL a.2 b.2) env2) = some r := h4
      rw [Option.bind_eq_some_iff] at h4
      obtain ⟨⟨t, xs⟩, h5, h6⟩ := h4
      rw [Option.map_eq_some_iff] at h6
      obtain ⟨⟨u, ys⟩, h7, rfl⟩ := h6
      refine ⟨env, F, R, _, S, h1, fun vs F1 H1 R1 e1 eR S1 hv => ?_⟩
      obtain ⟨F2, R2, e2, eR2, S2, rr⟩ := frzs_held eR S1 hv h3
      match vs, rr with
      | _, .cons ra (.cons rb .nil) =>
        obtain ⟨a, us, rfl, sa, la⟩ := seqZ_at h5 ra
        obtain ⟨b, ws, rfl, sb, lb⟩ := seqZ_at h7 rb
        exact ⟨t, u, a, b, us, ws, rfl, sa.ex S2.sub, sb.ex S2.sub, p _ F2 H1 (e1.trans e2) (S2.unhold eR2) (wk_zip sa la sb lb)⟩
    | [], h3, h4 => cases h4
    | [_], h3, h4 => cases h4
    | _ :: _ :: _ :: _, h3, h4 => cases h4
  · exact ⟨env, F, R, _, S, h1, p⟩
end
section
variable {X : Cx} {W : WX} {e e2 : Expr} {fa : SA} {p pos tpos : Pos} {elts : List Expr} {kk : Nat}
theorem pi_dzip (hm : X.mg "zip" = none) (ha : PA X [e, e2] (dA X.K W fa)) (hg : Gl X "zip" := by rfl) (hs : starEach [e, e2] X.env = (false, eval e X.env) :: starEach [e2] X.env := by rfl) (hpl : (backTo pos (starEach [e2] X.env)).any (·.1) = false := by rfl) :
    PI X (.Tuple elts kk tpos) (.Call (.Name "zip" p) [e, e2] [] pos) (dI X.K W (zipE fa)) := (pi_zipB hg hm ha hs hpl).wk fun _ _ _ q => dI_zip q
end
theorem ev_zip {env env1 env2 : Sl} {fa : SA} {as : List RV} {x y : D} {t u : Bool} {xs ys : List D} (h : fa env = some (.ok as env1)) (h2 : frzs as env1 = some ([x, y], env2)) (h3 : seqZ x = some (t, xs)) (h4 : seqZ y = some (u, ys)) : zipE fa env = some (.ok (zipL xs ys) env2) := by
  unfold zipE bindAI
  rw [h]
  dsimp only
  rw [h2, Option.bind_some]
  dsimp only
  rw [h3, Option.bind_some, h4]
  rfl
end
end Dw
namespace Dw
noncomputable section
open PySem PySem.Spec PyProof.Rows L2

/-! ### loops and comprehensions as a whole -/
theorem loop_run {tg : Tg} {body : SS} : ∀ (xs : List D) (I : Nat → Sl → Prop) (env : Sl), I 0 env → (∀ k x env, xs[k]? = some x → I k env → ∃ env1 env2, putT tg x env = some env1 ∧ (body env1 = some (.nx env2) ∨ body env1 = some (.ct env2)) ∧ I (k + 1) env2) →
    ∃ env', loopD tg body xs env = some (.nx env') ∧ I xs.length env'
  | [], I, env, h, _ => ⟨env, rfl, h⟩
  | x :: xs, I, env, h, hs => by
    obtain ⟨env1, env2, h1, h2, h3⟩ := hs 0 x env rfl h
    obtain ⟨env', h4, h5⟩ := loop_run xs (fun k => I (k + 1)) env2 h3 fun k x env hk hi => hs (k + 1) x env (by simpa using hk) hi
    refine ⟨env', ?_, by simpa using h5⟩
    unfold loopD
    rw [h1, Option.bind_some]
    rcases h2 with h2 | h2 <;> rw [h2] <;> exact h4
/-- a loop that may end the def, or break off -/
theorem loop_runR {tg : Tg} {body : SS} : ∀ (xs : List D) (I : Nat → Sl → Prop) (P : Out → Prop) (env : Sl), I 0 env → (∀ env, I xs.length env → P (.nx env)) →
    (∀ k x env, xs[k]? = some x → I k env → ∃ env1, putT tg x env = some env1 ∧ ((∃ env2, (body env1 = some (.nx env2) ∨ body env1 = some (.ct env2)) ∧ I (k + 1) env2) ∨ (∃ env2, body env1 = some (.bk env2) ∧ P (.nx env2)) ∨ (∃ a env2, body env1 = some (.rt a env2) ∧ P (.rt a env2)))) →
    ∃ o, loopD tg body xs env = some o ∧ P o
  | [], I, P, env, h, hd, _ => ⟨.nx env, rfl, hd env h⟩
  | x :: xs, I, P, env, h, hd, hs => by
    obtain ⟨env1, h1, h2⟩ := hs 0 x env rfl h
    unfold loopD
    rw [h1, Option.bind_some]
    rcases h2 with ⟨env2, h2, h3⟩ | ⟨env2, h2, h3⟩ | ⟨a, env2, h2, h3⟩
    · obtain ⟨o, h4, h5⟩ := loop_runR xs (fun k => I (k + 1)) P env2 h3 (fun env q => hd env (by simpa using q)) fun k x env hk hi => hs (k + 1) x env (by simpa using hk) hi
      exact ⟨o, by rcases h2 with h2 | h2 <;> rw [h2] <;> exact h4, h5⟩
    · exact ⟨_, by rw [h2], h3⟩
    · exact ⟨_, by rw [h2], h3⟩
theorem comp_run {vs : List Nat} {tg : Tg} {fe : SE} {env0 : Sl} (f : D → D) : ∀ (xs acc : List D), (∀ x ∈ xs, ∃ env1 a env2 env3, putT tg x env0 = some env1 ∧ fe env1 = some (.ok a env2) ∧ frz a env2 = some (f x, env3) ∧ clr vs env3 = env0) → acc.length + xs.length ≤ 100000 →
    compD vs tg none fe xs acc env0 = some (acc ++ xs.map f, env0)
  | [], acc, _, _ => by simp [compD]
  | x :: xs, acc, h, hl => by
    rw [List.length_cons] at hl
    obtain ⟨env1, a, env2, env3, h1, h2, h3, h4⟩ := h x (List.mem_cons_self ..)
    have ih := comp_run f xs (acc ++ [f x]) (fun y hy => h y (List.mem_cons_of_mem _ hy)) (by simp; omega)
    have hc : acc.length < 100000 := by omega
    unfold compD
    rw [h1, Option.bind_some]
    show (eltD fe env1).bind _ = _
    unfold eltD
    rw [h2]
    dsimp only
    rw [h3, Option.bind_some, if_pos hc]
    dsimp only
    rw [h4, ih, List.append_assoc]
    rfl
theorem comp_if {vs : List Nat} {tg : Tg} {fe fc : SE} {env0 : Sl} (c : D → Bool) (f : D → D) : ∀ (xs acc : List D), (∀ x ∈ xs, ∃ env1 b env2, putT tg x env0 = some env1 ∧ fc env1 = some (.ok b env2) ∧ tru b env2 = some (c x) ∧
      (c x = true → ∃ a env3 env4, fe env2 = some (.ok a env3) ∧ frz a env3 = some (f x, env4) ∧ clr vs env4 = env0) ∧ (c x = false → clr vs env2 = env0)) → acc.length + xs.length ≤ 100000 →
    compD vs tg (some fc) fe xs acc env0 = some (acc ++ (xs.filter c).map f, env0)
  | [], acc, _, _ => by simp [compD]
  | x :: xs, acc, h, hl => by
    rw [List.length_cons] at hl
    obtain ⟨env1, b, env2, h1, h2, h3, h4, h5⟩ := h x (List.mem_cons_self ..)
    have hc : acc.length < 100000 := by omega
    unfold compD
    rw [h1, Option.bind_some]
    show bindTD (some fc) env1 _ = _
    unfold bindTD
    dsimp only
    rw [h2]
    dsimp only
    rw [h3, Option.bind_some]
    cases hb : c x with
    | true =>
      obtain ⟨a, env3, env4, h6, h7, h8⟩ := h4 hb
      have ih := comp_if c f xs (acc ++ [f x]) (fun y hy => h y (List.mem_cons_of_mem _ hy)) (by simp; omega)
      show (eltD fe env2).bind _ = _
      unfold eltD
      rw [h6]
      dsimp only
      rw [h7, Option.bind_some, if_pos hc]
      dsimp only
      rw [h8, ih, List.filter_cons_of_pos hb, List.append_assoc]
      rfl
    | false =>
      have ih := comp_if c f xs acc (fun y hy => h y (List.mem_cons_of_mem _ hy)) (by omega)
      show compD vs tg (some fc) fe xs acc (clr vs env2) = _
      rw [h5 hb, ih, List.filter_cons_of_neg (by rw [hb]; simp)]
theorem ev_comp {vs : List Nat} {fi : SI} {tg : Tg} {ft : Option SE} {fe : SE} {env env1 env2 env3 : Sl} {xs ys : List D} (h : fi env = some (.ok xs env1)) (h2 : compD vs tg ft fe xs [] (clr vs env1) = some (ys, env2)) (h3 : rst vs env1 env2 = env3) : compE vs fi tg ft fe env = some (.ok (.own (.lst ys)) env3) := by
  subst h3
  unfold compE
  rw [h]
  dsimp only
  rw [h2]
  rfl
/-! ### texts and data compared -/
theorem inB_str (z : List Nat) : ∀ ls : List (List Nat), inB (.str z) (ls.map D.str) = decide (z ∈ ls)
  | [] => rfl
  | a :: ls => by
    have ih := inB_str z ls
    unfold inB at ih ⊢
    rw [List.map_cons, List.any_cons, ih]
    by_cases h : a = z
    · subst h; simp [eqB]
    · have h' : ¬ z = a := fun e => h e.symm
      simp [eqB, h, h']
theorem flat_str (ls : List (List Nat)) : (ls.map D.str).all flatD = true := by
  rw [List.all_eq_true]
  intro x hx
  obtain ⟨z, _, rfl⟩ := List.mem_map.mp hx
  rfl
theorem in_lstS {z : List Nat} {ls : List (List Nat)} : inD (.str z) (.lst (ls.map D.str)) = some (.d (.bl (decide (z ∈ ls)))) := by
  show (if (flatD (.str z) && (ls.map D.str).all flatD) || _ then some (RV.d (.bl (inB (.str z) (ls.map D.str)))) else none) = _
  rw [flat_str, inB_str]
  rfl
theorem in_tupS {z : List Nat} {ls : List (List Nat)} : inD (.str z) (.tup (ls.map D.str)) = some (.d (.bl (decide (z ∈ ls)))) := by
  show (if flatD (.str z) && (ls.map D.str).all flatD then some (RV.d (.bl (inB (.str z) (ls.map D.str)))) else none) = _
  rw [flat_str, inB_str]
  rfl
end
end Dw
namespace Dw
noncomputable section
open PySem PySem.Spec PyProof.Rows L2

/-! ### xs[i] = e -/
def setL (j : Nat) (fi fe : SE) : SS := fun env => bindS (fe env) fun a env1 => (frz a env1).bind fun p => (ownL p.2[j]?).bind fun _ => bindS (fi p.2) fun b env2 => match pk b env2 with
  | some (.int k) => (ownL env2[j]?).bind fun o => (ixN o.2.length k).map fun m => .nx (env2.set j (.own o.1 (.lst (o.2.set m p.1))))
  | _ => none
section
variable {K : PySem.W.Frag} {W : WX} {F F' : Hp} {R R' : Fm} {σ : L2.St} {H H' : Hp} {env env' : Sl} {En : Ends} {Q : VK}
theorem dS_setL {j : Nat} {fi fe : SE} (h : dS K W (setL j fi fe) En σ H) : tAsg (dE K W fe) (gSub (dE K W (varE j)) (dE K W fi) rSetL) En σ H := by
  obtain ⟨env, F, R, r, S, e, p⟩ := h
  rcases bindS_inv e with ⟨a, env1, h1, h2⟩ | ⟨x, env1, h1, rfl⟩
  · rw [Option.bind_eq_some_iff] at h2
    obtain ⟨⟨x, env2⟩, h3, h4⟩ := h2
    rw [Option.bind_eq_some_iff] at h4
    obtain ⟨⟨b0, y0⟩, h5, h6⟩ := h4
    refine ⟨env, F, R, _, S, h1, fun v F1 H1 e1 S1 rv => ?_⟩
    obtain ⟨F2, e2, S2, rx⟩ := frz_ok S1 rv h3
    have h5 := ownL_some h5
    have hv : varE j env2 = some (.ok (.cv j) env2) := ev_varO h5
    refine ⟨env2, F2, R, _, S2, hv, fun o F3 H3 e3 S3 ro => ?_⟩
    have ro : σ[j]? = some (some o) := ro
    rcases bindS_inv h6 with ⟨b, env3, h7, h8⟩ | ⟨x', env3, h7, rfl⟩
    · refine ⟨env2, F3, R, _, S3, h7, fun w F4 H4 e4 S4 rw' => ?_⟩
      cases hb : pk b env3 with
      | none => rw [hb] at h8; cases h8
      | some y =>
        rw [hb] at h8
        cases y with
        | int k =>
          have h8 : ((ownL env3[j]?).bind fun o => (ixN o.2.length k).map fun m => Out.nx (env3.set j (.own o.1 (.lst (o.2.set m x))))) = some r := h8
          rw [Option.bind_eq_some_iff] at h8
          obtain ⟨⟨b1, ys⟩, h9, h8⟩ := h8
          rw [Option.map_eq_some_iff] at h8
          obtain ⟨m, h10, rfl⟩ := h8
          have h9 := ownL_some h9
          have vw := pk_vw S4 rw' hb
          cases vw
          obtain ⟨q, u, z1, _, _, z4, ws, rfl, z5⟩ := S4.own j _ _ h9
          rw [ro] at z1
          cases z1
          refine ⟨q, ws, k, m, rfl, rfl, z4, by rw [z5.len]; exact h10, ?_⟩
          exact p σ F4 _ (((e1.trans e2).trans e3).trans e4) (S4.mut h9 ro ⟨_, rfl, z5.set m (rx.up (e3.trans e4))⟩)
        | _ => cases h8
    · exact ⟨env2, F3, R, _, S3, h7, fun cls d F4 H4 e4 S4 hx => p cls d σ F4 H4 (((e1.trans e2).trans e3).trans e4) S4 hx⟩
  · exact ⟨env, F, R, _, S, h1, fun cls d F1 H1 e1 S1 hx => p cls d σ F1 H1 e1 S1 hx⟩
/-! ### xs.extend(a new list) -/
def extE (fo fe : SE) : SE := fun env => bindE (fo env) fun a env1 => match a with
  | .cv i => (ownL env1[i]?).bind fun _ => bindE (fe env1) fun b env2 => match b with
    | .own (.lst zs) => (ownL env2[i]?).bind fun o => if o.2.length + zs.length ≤ 100000 then some (.ok (.d .non) (env2.set i (.own o.1 (.lst (o.2 ++ zs))))) else none
    | _ => none
  | _ => none
theorem dE_ext {fo fe : SE} (h : dE K W (extE fo fe) σ H Q) : tBM K "list" rExtend (dE K W fo) (tCons (dE K W fe) tNil) σ H Q := by
  obtain ⟨env, F, R, S, q⟩ := of_dE h
  refine dE_of S (atE_bind q fun a env1 F1 v H1 e1 S1 rv q1 => ?_)
  obtain ⟨r', e, p⟩ := q1
  cases a with
  | d x => cases e
  | own c => cases e
  | cv i =>
    have rv : σ[i]? = some (some v) := rv
    have e : ((ownL env1[i]?).bind fun _ => bindE (fe env1) fun b env2 => match b with
      | .own (.lst zs) => (ownL env2[i]?).bind fun o => if o.2.length + zs.length ≤ 100000 then some (Re.ok (.d .non) (env2.set i (.own o.1 (.lst (o.2 ++ zs))))) else none
      | _ => none) = some r' := e
    rw [Option.bind_eq_some_iff] at e
    obtain ⟨⟨b0, y0⟩, h1, e⟩ := e
    obtain ⟨p0, o0, z1, _, _, z4, ws0, rfl, _⟩ := S1.own i _ _ (ownL_some h1)
    rw [rv] at z1
    cases z1
    refine ⟨.inl ⟨rfl, ws0, .inl (Rd.of z4)⟩, ?_⟩
    cases h2 : fe env1 with
    | none => rw [h2] at e; cases e
    | some q2 =>
      rw [h2] at e
      cases q2 with
      | ex x env2 =>
        cases e
        exact ⟨env1, F1, R, _, S1, h2, p⟩
      | ok b env2 =>
        rw [bindE_ok] at e
        refine ⟨env1, F1, R, _, S1, h2, fun w F2 H2 e2 S2 rw' => ?_⟩
        cases b with
        | d x => cases e
        | cv k => cases e
        | own c =>
          cases c with
          | lst zs =>
            have e : ((ownL env2[i]?).bind fun o => if o.2.length + zs.length ≤ 100000 then some (Re.ok (.d .non) (env2.set i (.own o.1 (.lst (o.2 ++ zs))))) else none) = some r' := e
            rw [Option.bind_eq_some_iff] at e
            obtain ⟨⟨b1, ys⟩, h3, e⟩ := e
            obtain ⟨hc, rfl⟩ := some_if e
            have h3 := ownL_some h3
            obtain ⟨p1, o1, z1, z2, z3, z4, ws, rfl, z5⟩ := S2.own i _ _ h3
            rw [rv] at z1
            cases z1
            obtain ⟨p2, o2, rfl, y2, y3, y4, ⟨us, rfl, y5⟩, y6⟩ := rw'
            refine ⟨p0, p2, ws, us, rfl, rfl, z4, y4, ?_, ?_⟩
            · rw [z5.len, y5.len]; exact Nat.le_trans hc (by decide)
            · exact p .non F2 _ e2 (S2.mut h3 rv ⟨_, rfl, z5.app y5⟩) .non
/-! ### xs.pop(), xs.insert(i, y) -/
def popE (fo : SE) : SE := fun env => bindE (fo env) fun a env1 => match a with
  | .cv i => (ownL env1[i]?).bind fun o => (o.2[o.2.length - 1]?).map fun x => .ok (.d x) (env1.set i (.own o.1 (.lst o.2.dropLast)))
  | _ => none
theorem RelAll.dropLast {K : PySem.W.Frag} {F : Hp} {vs : List V} {ds : List D} (h : RelAll K F vs ds) : RelAll K F vs.dropLast ds.dropLast := by
  rw [List.dropLast_eq_take, List.dropLast_eq_take, h.len]
  exact h.take _
theorem dE_pop {fo : SE} (h : dE K W (popE fo) σ H Q) : tBM0 K "list" rPop (dE K W fo) σ H Q := by
  obtain ⟨env, F, R, S, q⟩ := of_dE h
  refine dE_of S (atE_bind q fun a env1 F1 v H1 e1 S1 rv q1 => ?_)
  obtain ⟨r', e, p⟩ := q1
  cases a with
  | d x => cases e
  | own c => cases e
  | cv i =>
    have rv : σ[i]? = some (some v) := rv
    have e : ((ownL env1[i]?).bind fun o => (o.2[o.2.length - 1]?).map fun x => Re.ok (.d x) (env1.set i (.own o.1 (.lst o.2.dropLast)))) = some r' := e
    rw [Option.bind_eq_some_iff] at e
    obtain ⟨⟨b0, ys⟩, h1, e⟩ := e
    rw [Option.map_eq_some_iff] at e
    obtain ⟨x, h2, rfl⟩ := e
    have h1 := ownL_some h1
    obtain ⟨p0, o0, z1, _, _, z4, ws, rfl, z5⟩ := S1.own i _ _ h1
    rw [rv] at z1
    cases z1
    obtain ⟨w, h3, rx⟩ := z5.getD h2
    refine ⟨.inl ⟨rfl, ws, .inl (Rd.of z4)⟩, p0, ws, w, rfl, rfl, z4, by rw [z5.len]; exact h3, ?_⟩
    exact p w F1 _ (Ex.refl _) (S1.mut h1 rv ⟨_, rfl, z5.dropLast⟩) rx
def insU : List D → List D → Option (D × List D)
  | ys, [.int i, x] => if okP (0 ≤ i ∧ i < 2 ^ 63 ∧ ys.length < 100000) then some (.non, ys.take i.toNat ++ [x] ++ ys.drop i.toNat) else none
  | _, _ => none
theorem snd_ins {K : PySem.W.Frag} : SndU K insU (fun x vs H Q => ∃ (l : Addr) (xs : List V) (i : Int) (y : V), x = .ref l ∧ vs = [.int i, y] ∧ H l = some (.lst xs) ∧ xs.length < sizeLine ∧ 0 ≤ i ∧ i < 2 ^ 63 ∧ Q .non (upd H l (.lst (xs.take i.toNat ++ [y] ++ xs.drop i.toNat)))) := by
  intro F H Q l ws vs ys xs z eF hl rw' rv e q
  match xs, rv, e with
  | [.int i, x], rv, e =>
    have e : (if okP (0 ≤ i ∧ i < 2 ^ 63 ∧ ys.length < 100000) then some (D.non, ys.take i.toNat ++ [x] ++ ys.drop i.toNat) else none) = some z := e
    obtain ⟨hc, rfl⟩ := some_if e
    rw [okP_iff] at hc
    cases rv with
    | cons r1 rr =>
      obtain ⟨v, rfl, r2⟩ := rel1 rr
      cases r1
      refine ⟨l, ws, i, v, rfl, rfl, hl, ?_, hc.1, hc.2.1, q .non _ .non (((rw'.take i.toNat).app (.cons r2 .nil)).app (rw'.drop i.toNat))⟩
      rw [rw'.len]
      exact Nat.lt_of_lt_of_le hc.2.2 (by decide)
/-! ### xs[::-1] -/
def revE (fe : SE) : SE := fun env => bindE (fe env) fun a env1 => match pk a env1 with
  | some (.lst xs) => some (.ok (.own (.lst xs.reverse)) env1)
  | _ => none
theorem dE_rev {fe : SE} (h : dE K W (revE fe) σ H Q) : tRevL K (dE K W fe) σ H Q := by
  obtain ⟨env, F, R, S, q⟩ := of_dE h
  refine dE_of S (atE_bind q fun a env1 F1 v H1 e1 S1 rv q1 => ?_)
  obtain ⟨r', e, p⟩ := q1
  have e : (match pk a env1 with
    | some (.lst xs) => some (Re.ok (.own (.lst xs.reverse)) env1)
    | _ => none) = some r' := e
  cases ha : pk a env1 with
  | none => rw [ha] at e; cases e
  | some y =>
    rw [ha] at e
    cases y with
    | lst xs =>
      cases e
      obtain ⟨l, vs, rfl, s, r⟩ := pk_vw S1 rv ha
      exact ⟨l, vs, rfl, s, fun q hq => post_new S1 p hq r.rev⟩
    | _ => cases e
end
/-! ### sum -/
def intsD : List D → Option (List Int)
  | [] => some []
  | .int i :: xs => (intsD xs).map (i :: ·)
  | _ => none
theorem intsD_of : ∀ ns : List Int, intsD (ns.map D.int) = some ns
  | [] => rfl
  | n :: ns => by rw [List.map_cons, intsD, intsD_of ns]; rfl
theorem intsD_rel {K : PySem.W.Frag} {F : Hp} : ∀ {xs : List D} {vs : List V} {ns : List Int}, intsD xs = some ns → RelAll K F vs xs → vs = ns.map V.int
  | [], _, _, e, r => by cases e; cases r; rfl
  | .int i :: xs, _, ns, e, r => by
    have e : (intsD xs).map (i :: ·) = some ns := e
    rw [Option.map_eq_some_iff] at e
    obtain ⟨ms, e1, rfl⟩ := e
    cases r with
    | cons r1 r2 =>
      cases r1
      rw [intsD_rel e1 r2]
      rfl
  | .non :: _, _, _, e, _ => by cases e
  | .bl _ :: _, _, _, e, _ => by cases e
  | .str _ :: _, _, _, e, _ => by cases e
  | .lst _ :: _, _, _, e, _ => by cases e
  | .tup _ :: _, _, _, e, _ => by cases e
def sumC : List D → Option RV
  | [.lst xs] => (intsD xs).map fun ns => .d (.int ns.sum)
  | _ => none
theorem snd_sum {K : PySem.W.Frag} : SndC K sumC (rSum K) := by
  intro W F R σ H env Q xs vs z S hv e p
  match xs, e with
  | [.lst ys], e =>
    have e : ((intsD ys).map fun ns => RV.d (.int ns.sum)) = some z := e
    rw [Option.map_eq_some_iff] at e
    obtain ⟨ns, h1, rfl⟩ := e
    obtain ⟨v, rfl, hv'⟩ := vw1 hv
    obtain ⟨l, ws, rfl, s, r⟩ := hv'
    rw [intsD_rel h1 r] at s
    exact ⟨l, ns, rfl, s, post_d S p (.int _)⟩
section
variable {X : Cx} {W : WX} {o e i : Expr} {es : List Expr} {fo fe fi : SE} {fa : SA} {apos pos : Pos} {j : Nat} {x : Str} {px : Pos}
theorem ps_dsetL {tg : Expr} (he : PE X e (dE X.K W fe)) (hg : PG X tg (gSub (dE X.K W (varE j)) (dE X.K W fi) rSetL)) (hs : swapsWithSole [tg] e pos.line X.env = pure false := by rfl) (hw : swappedStores [tg] e X.env = pure none := by rfl)
    (h1 : (assignEach [tg] X.env).map (·.2) = [assign tg X.env] := by rfl) : PS X (.Assign [tg] e pos) (dS X.K W (setL j fi fe)) := (ps_asg he hg hs hw h1).wk fun _ _ _ q => dS_setL q
theorem pd_ext (ho : PE X o (dE X.K W fo)) (he : PE X e (dE X.K W fe)) (hbase : attributeBase o "extend" X.env (eval o X.env) = eval o X.env := by rfl)
    (hfew : ((backTo pos (starEach [e] X.env)).all (fun x => !x.1) && (backToKw pos (keywordEach [] X.env)).all (fun x => x.1.isSome)
      && decide ([e].length + ([] : List Keyword).length + (if ([] : List Keyword).isEmpty then 0 else 1) < 30)) = true := by rfl)
    (hline : (apos.endLine == pos.line) = true := by rfl) (hs' : starEach [e] X.env = (false, eval e X.env) :: starEach [] X.env := by rfl) (hplain : (backTo pos (starEach [] X.env)).any (·.1) = false := by rfl) :
    PE X (.Call (.Attribute o "extend" apos) [e] [] pos) (dE X.K W (extE fo fe)) := (pe_bm F.plainAttrs_list F.slot_list_extend F.type_list_extend mt_extend ho (pa_cons he pa_nil hs') hbase hfew hline hs' hplain).wk fun _ _ _ q => dE_ext q
theorem pd_pop (ho : PE X o (dE X.K W fo)) (hbase : attributeBase o "pop" X.env (eval o X.env) = eval o X.env := by rfl) (hline : (apos.endLine == pos.line) = true := by rfl) :
    PE X (.Call (.Attribute o "pop" apos) [] [] pos) (dE X.K W (popE fo)) := (pe_bm0 F.plainAttrs_list F.slot_list_pop F.type_list_pop mt_pop ho hbase hline).wk fun _ _ _ q => dE_pop q
theorem pd_rev {k : Nat} {p1 p2 p3 : Pos} (he : PE X e (dE X.K W fe)) : PE X (.Subscript e (.Slice none none (some (.UnaryOp .USub (.Constant (.int 1) k p1) p2)) p3) pos) (dE X.K W (revE fe)) := (pe_revL he).wk fun _ _ _ q => dE_rev q
end
/-! ### a def that calls itself -/
section
variable {P : Program} {w : World} {K : PySem.W.Frag} {mg : Str → Option Value} {base : Heap} {k : Nat} {f : Addr} {fd : FuncData} {ps : List Str} {np : Nat}
theorem spD_no {vs : List V} {H : Hp} {Q : VK} {E : XK} (h : spD K np (fun _ => none) vs H Q E) : False := by
  obtain ⟨_, _, _, _, _, _, e, _⟩ := h
  cases e
theorem fn0 : FnOk P w K mg base CX0 k f fd ps (spD K np fun _ => none) where
  len := fun vs H Q E h => (spD_no h).elim
  run := fun A outer s H args us vs Q E _ _ _ _ h => (spD_no h).elim
theorem Def.self {x : Str} {n k0 : Nat} {r : Nat → List SV → Option FR} {B : (List SV → Option FR) → SS} (h0 : r 0 = fun _ => none) (hs : ∀ i, r (i + 1) = defM np n (B (r i)))
    (step : ∀ (k : Nat) (m : List SV → Option FR), k0 ≤ k → Def P w K mg base k x np m [] → FnOk P w K mg base CX0 (k + 1) f fd ps (spD K np (defM np n (B m)))) (hm : mg x = some (.ref f)) (hk : PySem.W.keepIn K (.ref f) = true) (hb : Binds K fd ps []) :
    ∀ i, Def P w K mg base (k0 + i) x np (r i) []
  | 0 => by
    rw [h0]
    exact ⟨f, fd, ps, [], [], fn0, hm, hk, hb, .nil, fun _ => .nil, fun _ _ e => by cases e⟩
  | i + 1 => by
    have C := Def.self h0 hs step hm hk hb i
    have F := step (k0 + i) (r i) (Nat.le_add_right _ _) C
    rw [hs]
    exact Def.mk0 F hm hk hb
end
/-! ### reckoning -/
section
variable {env env1 env2 env3 : Sl} {fe fi fo : SE} {a b : RV} {x : D} {ys zs : List D} {j : Nat} {t t2 : Bool} {k : Int} {m : Nat}
theorem ev_setL (h1 : fe env = some (.ok a env1)) (h2 : frz a env1 = some (x, env2)) (h3 : env2[j]? = some (.own t (.lst zs))) (h4 : fi env2 = some (.ok b env3)) (h5 : pk b env3 = some (.int k)) (h6 : env3[j]? = some (.own t2 (.lst ys))) (h7 : ixN ys.length k = some m) {env4 : Sl} (h8 : env3.set j (.own t2 (.lst (ys.set m x))) = env4) :
    setL j fi fe env = some (.nx env4) := by
  subst h8
  unfold setL bindS
  rw [h1]
  show (frz a env1).bind _ = _
  rw [h2, Option.bind_some]
  dsimp only
  rw [h3]
  show (some (t, zs)).bind _ = _
  rw [Option.bind_some, h4]
  dsimp only
  rw [h5]
  dsimp only
  rw [h6]
  show (some (t2, ys)).bind _ = _
  rw [Option.bind_some]
  dsimp only
  rw [h7]
  rfl
theorem ev_ext (h1 : fo env = some (.ok (.cv j) env1)) (h2 : env1[j]? = some (.own t (.lst zs))) {ws : List D} (h3 : fe env1 = some (.ok (.own (.lst ws)) env2)) (h4 : env2[j]? = some (.own t2 (.lst ys))) (h5 : ys.length + ws.length ≤ 100000) {env4 : Sl} (h8 : env2.set j (.own t2 (.lst (ys ++ ws))) = env4) :
    extE fo fe env = some (.ok (.d .non) env4) := by
  subst h8
  unfold extE
  rw [h1, bindE_ok]
  dsimp only
  rw [h2]
  show (some (t, zs)).bind _ = _
  rw [Option.bind_some, h3, bindE_ok]
  dsimp only
  rw [h4]
  show (some (t2, ys)).bind _ = _
  rw [Option.bind_some]
  exact if_pos h5
theorem ev_pop (h1 : fo env = some (.ok (.cv j) env1)) (h2 : env1[j]? = some (.own t (.lst ys))) (h3 : ys[ys.length - 1]? = some x) {env4 : Sl} (h8 : env1.set j (.own t (.lst ys.dropLast)) = env4) : popE fo env = some (.ok (.d x) env4) := by
  subst h8
  unfold popE
  rw [h1, bindE_ok]
  dsimp only
  rw [h2]
  show (some (t, ys)).bind _ = _
  rw [Option.bind_some]
  dsimp only
  rw [h3]
  rfl
theorem ev_rev (h1 : fe env = some (.ok a env1)) (h2 : pk a env1 = some (.lst ys)) : revE fe env = some (.ok (.own (.lst ys.reverse)) env1) := by
  unfold revE
  rw [h1, bindE_ok]
  simp only [h2]
theorem sum_ints {ns : List Int} : sumC [.lst (ns.map D.int)] = some (.d (.int ns.sum)) := by
  show (intsD (ns.map D.int)).map _ = _
  rw [intsD_of]
  rfl
end
end
end Dw
namespace Dw
noncomputable section
open PySem PySem.Spec PyProof.Rows L2
theorem ev_callM {env env1 env2 env3 : Sl} {fs : SA} {as : List RV} {xs : List D} {i j : Nat} {t : Bool} {c c' : C} {m : List SV → Option FR} {ds : List D} {vs outs : List SV} {a b : RV} (h1 : fs env = some (.ok as env1)) (ha : as[j]? = some (.cv i)) (h2 : frzs (as.set j (.d .non)) env1 = some (xs, env2)) (hi : env2[i]? = some (.own t c))
    (he : ((xs ++ ds).map SV.d).set j (.own true c) = vs) (h3 : m vs = some (.ok a outs)) (ho : outs[j]? = some (.own true c')) (h4 : retV a = some b) (h5 : env2.set i (.own t c') = env3) : callM j m ds fs env = some (.ok b env3) := by
  subst he h5
  unfold callM
  rw [h1, bindA_ok, ha]
  show (frzs (as.set j (.d .non)) env1).bind _ = _
  rw [h2, Option.bind_some]
  show (match env2[i]? with | some (.own b c) => _ | _ => none) = _
  rw [hi]
  show (m (((xs ++ ds).map SV.d).set j (.own true c))).bind _ = _
  rw [h3, Option.bind_some]
  show (match outs[j]? with | some (.own true c) => (retV a).map (Re.ok · (env2.set i (.own t c))) | _ => none) = _
  rw [ho]
  show (retV a).map _ = _
  rw [h4]
  rfl
/-- one argument, two, four: the list stands in slot i -/
theorem call1 {env : Sl} {i : Nat} {t : Bool} {xs ys : List D} {m : List SV → Option FR} {x : D} (hi : env[i]? = some (.own t (.lst xs))) (h : m [.own true (.lst xs)] = some (.ok (.d x) [.own true (.lst ys)])) :
    callM 0 m [] (consA (varE i) nilA) env = some (.ok (.d x) (env.set i (.own t (.lst ys)))) :=
  ev_callM (as := [.cv i]) (ev_cons (ev_varO hi) ev_nil) rfl (xs := [.non]) (frzs_cons frz_d frzs_nil) hi rfl h rfl rfl rfl
theorem call2 {env : Sl} {i : Nat} {t : Bool} {xs ys : List D} {m : List SV → Option FR} {x y : D} {fb : SE} {o : SV} (hi : env[i]? = some (.own t (.lst xs))) (hb : fb env = some (.ok (.d y) env)) (h : m [.own true (.lst xs), .d y] = some (.ok (.d x) [.own true (.lst ys), o])) :
    callM 0 m [] (consA (varE i) (consA fb nilA)) env = some (.ok (.d x) (env.set i (.own t (.lst ys)))) :=
  ev_callM (as := [.cv i, .d y]) (ev_cons (ev_varO hi) (ev_cons hb ev_nil)) rfl (xs := [.non, y]) (frzs_cons frz_d (frzs_cons frz_d frzs_nil)) hi rfl h rfl rfl rfl
theorem comp_inv {vs : List Nat} {tg : Tg} {fe : SE} : ∀ (xs acc : List D) (I : List D → Sl → Prop) (env : Sl), I acc env → (∀ x acc env, x ∈ xs → I acc env → ∃ env1 a env2 y env3, putT tg x env = some env1 ∧ fe env1 = some (.ok a env2) ∧ frz a env2 = some (y, env3) ∧ I (acc ++ [y]) (clr vs env3)) → acc.length + xs.length ≤ 100000 →
    ∃ ys env', compD vs tg none fe xs acc env = some (ys, env') ∧ I ys env' ∧ ys.length = acc.length + xs.length
  | [], acc, I, env, h, _, _ => ⟨acc, env, by simp [compD], h, rfl⟩
  | x :: xs, acc, I, env, h, hs, hl => by
    rw [List.length_cons] at hl
    obtain ⟨env1, a, env2, y, env3, h1, h2, h3, h4⟩ := hs x acc env (List.mem_cons_self ..) h
    obtain ⟨ys, env', h5, h6, h7⟩ := comp_inv xs (acc ++ [y]) I (clr vs env3) h4 (fun x acc env hx => hs x acc env (List.mem_cons_of_mem _ hx)) (by simp; omega)
    refine ⟨ys, env', ?_, h6, by rw [h7, List.length_append, List.length_cons]; simp; omega⟩
    have hc : acc.length < 100000 := by omega
    unfold compD
    rw [h1, Option.bind_some]
    show (eltD fe env1).bind _ = _
    unfold eltD
    rw [h2]
    dsimp only
    rw [h3, Option.bind_some, if_pos hc]
    exact h5
theorem comp_two {vs : List Nat} {tg : Tg} {fe : SE} {env0 : Sl} : ∀ (xs ys acc : List D), xs.length = ys.length → (∀ (k : Nat) (x y : D), xs[k]? = some x → ys[k]? = some y → ∃ env1 a env2 env3, putT tg x env0 = some env1 ∧ fe env1 = some (.ok a env2) ∧ frz a env2 = some (y, env3) ∧ clr vs env3 = env0) → acc.length + xs.length ≤ 100000 →
    compD vs tg none fe xs acc env0 = some (acc ++ ys, env0)
  | [], [], acc, _, _, _ => by simp [compD]
  | [], _ :: _, _, h, _, _ => by cases h
  | _ :: _, [], _, h, _, _ => by cases h
  | x :: xs, y :: ys, acc, h, hs, hl => by
    rw [List.length_cons] at hl
    obtain ⟨env1, a, env2, env3, h1, h2, h3, h4⟩ := hs 0 x y rfl rfl
    have ih := comp_two xs ys (acc ++ [y]) (by simpa using h) (fun k u v hu hv => hs (k + 1) u v (by simpa using hu) (by simpa using hv)) (by simp; omega)
    have hc : acc.length < 100000 := by omega
    unfold compD
    rw [h1, Option.bind_some]
    show (eltD fe env1).bind _ = _
    unfold eltD
    rw [h2]
    dsimp only
    rw [h3, Option.bind_some, if_pos hc]
    dsimp only
    rw [h4, ih, List.append_assoc]
    rfl
theorem txts_chr (xs : List Nat) : txts (xs.map fun c => .str [c]) = some (xs.map fun c => [c]) := by
  induction xs with
  | nil => rfl
  | cons c xs ih => rw [List.map_cons, txts, ih]; rfl
theorem joinL_nil0 : ∀ (ys : List (List Nat)), TL.joinL [] ys = ys.flatten
  | [] => rfl
  | [y] => by simp [TL.joinL]
  | y :: z :: r => by
    rw [TL.joinL, joinL_nil0 (z :: r)]
    rfl
theorem flat_chr (xs : List Nat) : (xs.map fun c => [c]).flatten = xs := by
  induction xs with
  | nil => rfl
  | cons c xs ih => rw [List.map_cons, List.flatten_cons, ih]; rfl
theorem sum_chr (xs : List Nat) : ((xs.map fun c => [c]).map (·.length)).sum = xs.length := by
  induction xs with
  | nil => rfl
  | cons c xs ih => rw [List.map_cons, List.map_cons, List.sum_cons, ih, List.length_cons]; simp; omega
theorem join_chr {xs : List Nat} (h : xs.length ≤ 1000) : joinD (.str []) [.lst (xs.map fun c => .str [c])] = some (.d (.str xs)) := by
  simp only [joinD]
  rw [txts_chr, Option.bind_some, joinL_nil0, flat_chr, if_pos (by rw [sum_chr]; simp; omega)]
theorem putT_nm {i : Nat} {x : D} {env env1 : Sl} (h : freeSlot env[i]? = true) (h2 : env.set i (.d x) = env1) : putT (.nm i) x env = some env1 := by
  subst h2
  show setSlot i _ _ = _
  unfold setSlot
  rw [if_pos h]
theorem notin_S {z : List Nat} {ls : List (List Nat)} : notInD (.str z) (.lst (ls.map D.str)) = some (.d (.bl (!decide (z ∈ ls)))) := by
  unfold notInD
  rw [in_lstS]
theorem modN {c : Int} {n : Nat} (h : 0 < n) : ∃ k : Nat, c % (n : Int) = k ∧ k < n := ⟨(c % (n : Int)).toNat, by
  have := Int.emod_nonneg c (b := (n : Int)) (by omega)
  omega, by
  have := Int.emod_nonneg c (b := (n : Int)) (by omega)
  have := Int.emod_lt_of_pos c (b := (n : Int)) (by omega)
  omega⟩
theorem get_S {ps : List (List Nat)} {i : Nat} (h : i < ps.length) : getD (.lst (ps.map D.str)) (.int (i : Int)) = some (.d (.str ps[i])) := by
  refine Dw.get_lst (L2.atI_nat ?_)
  rw [List.getElem?_map, List.getElem?_eq_getElem h]
  rfl
end
end Dw
namespace P_talkalike_k19_order_of_talks
noncomputable section
open PySem PySem.Spec PyProof.Rows L2 Dw
def topS (i : Nat) : Stmt := PySem.Challenge.pw_talkalike_k19_order_of_talks.main.body.getD i (.Pass ⟨0, 0, 0, 0⟩)
/-! ### compare_keys -/
abbrev s_compare_keys : Stmt := topS 1
theorem sc_compare_keys : FnScope ["first", "second"] ["first", "second"] (defScope s_compare_keys) := ⟨rfl, rfl, rfl, by decide +kernel, rfl, by decide +kernel, by decide +kernel⟩
def b_compare_keys : SS :=
    (seqS (iteS (two (op2 eqD) (varE 0) (varE 1)) (retS (constE (.int 0))) skipS)
    (retS (ifE (two (op2 ltG) (varE 0) (varE 1)) (oneE negD (constE (.int 1))) (constE (.int 1)))))
def m_compare_keys : List SV → Option FR := defM 2 0 b_compare_keys
theorem ok_compare_keys {P : Program} {w : World} {K : PySem.W.Frag} {mg : Str → Option Value} {base : Heap} {f : Addr} {fd : FuncData} (F : Fun K "compare_keys" "compare_keys" s_compare_keys f fd)  : FnOk P w K mg base CX0 1 f fd ["first", "second"] (spD K 2 m_compare_keys) :=
  fnd (k := 0) (n := 0) F sc_compare_keys rfl fun cdv A outer s H E hr =>
    (pss_dcons (ps_dif (pt_eqd hr.units (pd_var (pv 0)) (pd_var (pv 1))) (pss_done (ps_dret pd_int)) pss_dnil)
    (pss_done (ps_dret (Dw.pd_if (pt_ltg hr.units (pd_var (pv 0)) (pd_var (pv 1))) (pd_neg pd_int) pd_int))))
/-! ### text_key -/
abbrev s_text_key : Stmt := topS 2
theorem sc_text_key : FnScope ["text"] ["text"] (defScope s_text_key) := ⟨rfl, rfl, rfl, by decide +kernel, rfl, by decide +kernel, by decide +kernel⟩
def b_text_key : SS :=
    (retS (tupE (consA (callE lenD (consA (varE 0) nilA)) (consA (varE 0) nilA))))
def m_text_key : List SV → Option FR := defM 1 0 b_text_key
theorem ok_text_key {P : Program} {w : World} {K : PySem.W.Frag} {mg : Str → Option Value} {base : Heap} {f : Addr} {fd : FuncData} (F : Fun K "text_key" "text_key" s_text_key f fd) (z_len : mg "len" = none) : FnOk P w K mg base CX0 1 f fd ["text"] (spD K 1 m_text_key) :=
  fnd (k := 0) (n := 0) F sc_text_key rfl fun cdv A outer s H E hr =>
    (pss_done (ps_dret (pd_tup (pa_dcons (pd_callB cr_len snd_len z_len rfl (pa_dcons (pd_var (pv 0)) pa_dnil)) (pa_dcons (pd_var (pv 0)) pa_dnil)))))
/-! ### value_key -/
abbrev s_value_key : Stmt := topS 4
theorem sc_value_key : FnScope ["value"] ["value"] (defScope s_value_key) := ⟨rfl, rfl, rfl, by decide +kernel, rfl, by decide +kernel, by decide +kernel⟩
def b_value_key : SS :=
    (seqS (iteS (isiE "str" (varE 0)) (retS (two (op2 addD) (tupE (consA (constE (.int 0)) nilA)) (callD m_text_key [] (consA (varE 0) nilA)))) skipS)
    (seqS (iteS (two (op2 ltG) (varE 0) (constE (.int 0))) (retS (tupE (consA (constE (.int 1)) (consA (oneE negD (varE 0)) nilA)))) skipS)
    (retS (tupE (consA (constE (.int 2)) (consA (varE 0) nilA))))))
def m_value_key : List SV → Option FR := defM 1 0 b_value_key
theorem ok_value_key {P : Program} {w : World} {K : PySem.W.Frag} {mg : Str → Option Value} {base : Heap} {f : Addr} {fd : FuncData} (F : Fun K "value_key" "value_key" s_value_key f fd) (z_isinstance : mg "isinstance" = none) (z_str : mg "str" = none) (c_text_key : Def P w K mg base 1 "text_key" 1 m_text_key []) : FnOk P w K mg base CX0 2 f fd ["value"] (spD K 1 m_value_key) :=
  fnd (k := 1) (n := 0) F sc_value_key rfl fun cdv A outer s H E hr =>
    (pss_dcons (ps_dif (pt_d (pd_isi (n := "str") (by decide) z_isinstance z_str rfl (pd_var (pv 0)))) (pss_done (ps_dret (pd_add (pd_tup (pa_dcons pd_int pa_dnil)) (pd_callN c_text_key hr (by decide) (pa_dcons (pd_var (pv 0)) pa_dnil))))) pss_dnil)
    (pss_dcons (ps_dif (pt_ltg hr.units (pd_var (pv 0)) pd_int) (pss_done (ps_dret (pd_tup (pa_dcons pd_int (pa_dcons (pd_neg (pd_var (pv 0))) pa_dnil))))) pss_dnil)
    (pss_done (ps_dret (pd_tup (pa_dcons pd_int (pa_dcons (pd_var (pv 0)) pa_dnil)))))))
/-! ### kind_number -/
abbrev s_kind_number : Stmt := topS 6
theorem sc_kind_number : FnScope ["kinds", "name", "number", "kind"] ["kinds", "name"] (defScope s_kind_number) := ⟨rfl, rfl, rfl, by decide +kernel, rfl, by decide +kernel, by decide +kernel⟩
def l_kind_number_1 : SS :=
    (iteS (two (op2 eqD) (two (op2 getD) (varE 3) (constE (.int 0))) (varE 1)) (retS (varE 2)) skipS)
def b_kind_number : SS :=
    (seqS (forS (enumE (consA (varE 0) nilA)) (.two 2 3) l_kind_number_1)
    (retS (constE .non)))
def m_kind_number : List SV → Option FR := defM 2 2 b_kind_number
theorem ok_kind_number {P : Program} {w : World} {K : PySem.W.Frag} {mg : Str → Option Value} {base : Heap} {f : Addr} {fd : FuncData} (F : Fun K "kind_number" "kind_number" s_kind_number f fd) (z_enumerate : mg "enumerate" = none) : FnOk P w K mg base CX0 1 f fd ["kinds", "name"] (spD K 2 m_kind_number) :=
  fnd (k := 0) (n := 2) F sc_kind_number rfl fun cdv A outer s H E hr =>
    (pss_dcons (ps_dfor PassesOwn.never rfl (pi_denum z_enumerate (pa_dcons (pd_var (pv 0)) pa_dnil)) (pg_dtwo sc_kind_number.nd rfl rfl (.inl rfl) rfl (.inl rfl)) (pss_done (ps_dif (pt_eqd hr.units (pd_get (pd_var (pv 3)) pd_int) (pd_var (pv 1))) (pss_done (ps_dret (pd_var (pv 2)))) pss_dnil)))
    (pss_done (ps_dret pd_non)))
/-! ### is_opening -/
abbrev s_is_opening : Stmt := topS 7
theorem sc_is_opening : FnScope ["request"] ["request"] (defScope s_is_opening) := ⟨rfl, rfl, rfl, by decide +kernel, rfl, by decide +kernel, by decide +kernel⟩
def b_is_opening : SS :=
    (retS (two (op2 eqD) (sliceE (varE 0) none (some (constE (.int 1)))) (tupE (consA (constE (.str [110, 101, 119])) nilA))))
def m_is_opening : List SV → Option FR := defM 1 0 b_is_opening
theorem ok_is_opening {P : Program} {w : World} {K : PySem.W.Frag} {mg : Str → Option Value} {base : Heap} {f : Addr} {fd : FuncData} (F : Fun K "is_opening" "is_opening" s_is_opening f fd)  : FnOk P w K mg base CX0 1 f fd ["request"] (spD K 1 m_is_opening) :=
  fnd (k := 0) (n := 0) F sc_is_opening rfl fun cdv A outer s H E hr =>
    (pss_done (ps_dret (pd_eq hr.units (pd_slice (pd_var (pv 0)) po_dnone (po_dsome pd_int)) (pd_tup (pa_dcons (pd_str [110, 101, 119] (by rfl)) pa_dnil)))))
/-! ### name_of -/
abbrev s_name_of : Stmt := topS 8
theorem sc_name_of : FnScope ["request"] ["request"] (defScope s_name_of) := ⟨rfl, rfl, rfl, by decide +kernel, rfl, by decide +kernel, by decide +kernel⟩
def b_name_of : SS :=
    (retS (ifE (callD m_is_opening [] (consA (varE 0) nilA)) (constE (.str [110, 101, 119])) (two (op2 getD) (varE 0) (constE (.int 1)))))
def m_name_of : List SV → Option FR := defM 1 0 b_name_of
theorem ok_name_of {P : Program} {w : World} {K : PySem.W.Frag} {mg : Str → Option Value} {base : Heap} {f : Addr} {fd : FuncData} (F : Fun K "name_of" "name_of" s_name_of f fd) (c_is_opening : Def P w K mg base 1 "is_opening" 1 m_is_opening []) : FnOk P w K mg base CX0 2 f fd ["request"] (spD K 1 m_name_of) :=
  fnd (k := 1) (n := 0) F sc_name_of rfl fun cdv A outer s H E hr =>
    (pss_done (ps_dret (Dw.pd_if (pt_d (pd_callN c_is_opening hr (by decide) (pa_dcons (pd_var (pv 0)) pa_dnil))) (pd_str [110, 101, 119] (by rfl)) (pd_get (pd_var (pv 0)) pd_int))))
/-! ### values_of -/
abbrev s_values_of : Stmt := topS 9
theorem sc_values_of : FnScope ["request"] ["request"] (defScope s_values_of) := ⟨rfl, rfl, rfl, by decide +kernel, rfl, by decide +kernel, by decide +kernel⟩
def b_values_of : SS :=
    (retS (ifE (callD m_is_opening [] (consA (varE 0) nilA)) (sliceE (varE 0) (some (constE (.int 1))) none) (sliceE (varE 0) (some (constE (.int 2))) none)))
def m_values_of : List SV → Option FR := defM 1 0 b_values_of
theorem ok_values_of {P : Program} {w : World} {K : PySem.W.Frag} {mg : Str → Option Value} {base : Heap} {f : Addr} {fd : FuncData} (F : Fun K "values_of" "values_of" s_values_of f fd) (c_is_opening : Def P w K mg base 1 "is_opening" 1 m_is_opening []) : FnOk P w K mg base CX0 2 f fd ["request"] (spD K 1 m_values_of) :=
  fnd (k := 1) (n := 0) F sc_values_of rfl fun cdv A outer s H E hr =>
    (pss_done (ps_dret (Dw.pd_if (pt_d (pd_callN c_is_opening hr (by decide) (pa_dcons (pd_var (pv 0)) pa_dnil))) (pd_slice (pd_var (pv 0)) (po_dsome pd_int) po_dnone) (pd_slice (pd_var (pv 0)) (po_dsome pd_int) po_dnone))))
/-! ### request_key -/
abbrev s_request_key : Stmt := topS 10
theorem sc_request_key : FnScope ["kinds", "request", "items", "item"] ["kinds", "request"] (defScope s_request_key) := ⟨rfl, rfl, rfl, by decide +kernel, rfl, by decide +kernel, by decide +kernel⟩
def e_request_key_1 : SE :=
    (callD m_value_key [] (consA (varE 3) nilA))
def b_request_key : SS :=
    (seqS (asgS 2 (two (op2 addD) (sliceE (varE 1) none (some (constE (.int 1)))) (callD m_values_of [] (consA (varE 1) nilA))))
    (retS (tupE (consA (callD m_kind_number [] (consA (varE 0) (consA (callD m_name_of [] (consA (varE 1) nilA)) nilA))) (consA (compE [3] (srcE (varE 2)) (.nm 3) none e_request_key_1) nilA)))))
def m_request_key : List SV → Option FR := defM 2 2 b_request_key
theorem ok_request_key {P : Program} {w : World} {K : PySem.W.Frag} {mg : Str → Option Value} {base : Heap} {f : Addr} {fd : FuncData} (F : Fun K "request_key" "request_key" s_request_key f fd) (c_values_of : Def P w K mg base 2 "values_of" 1 m_values_of []) (c_value_key : Def P w K mg base 2 "value_key" 1 m_value_key []) (c_name_of : Def P w K mg base 2 "name_of" 1 m_name_of []) (c_kind_number : Def P w K mg base 1 "kind_number" 2 m_kind_number []) : FnOk P w K mg base CX0 3 f fd ["kinds", "request"] (spD K 2 m_request_key) :=
  fnd (k := 2) (n := 2) F sc_request_key rfl fun cdv A outer s H E hr =>
    (pss_dcons (ps_dset (i := 2) sc_request_key.nd rfl (.inl rfl) (pd_add (pd_slice (pd_var (pv 1)) po_dnone (po_dsome pd_int)) (pd_callN c_values_of hr (by decide) (pa_dcons (pd_var (pv 1)) pa_dnil))))
    (pss_done (ps_dret (pd_tup (pa_dcons (pd_callN c_kind_number hr (by decide) (pa_dcons (pd_var (pv 0)) (pa_dcons (pd_callN c_name_of hr (by decide) (pa_dcons (pd_var (pv 1)) pa_dnil)) pa_dnil))) (pa_dcons (pd_comp (own := [("item", 3)]) (by rfl) sc_request_key.nd (blk_of (N := ["kinds", "request", "items", "item"]) (sc := defScope s_request_key) (by decide +kernel)) (by rfl) (pi_dsrc (pd_var (pv 2))) (fun s H C cl fp => (pg_dnm sc_request_key.nd rfl (.inl rfl))) (fun s H C cl fp => pts_dnil) (fun s H C cl fp => (pd_callN c_value_key hr (by decide) (pa_dcons (pd_var (pv 3)) pa_dnil)))) pa_dnil))))))
/-! ### talk_key -/
abbrev s_talk_key : Stmt := topS 11
theorem sc_talk_key : FnScope ["kinds", "talk", "request"] ["kinds", "talk"] (defScope s_talk_key) := ⟨rfl, rfl, rfl, by decide +kernel, rfl, by decide +kernel, by decide +kernel⟩
def e_talk_key_1 : SE :=
    (callD m_request_key [] (consA (varE 0) (consA (varE 2) nilA)))
def b_talk_key : SS :=
    (retS (tupE (consA (callE lenD (consA (varE 1) nilA)) (consA (compE [2] (srcE (varE 1)) (.nm 2) none e_talk_key_1) nilA))))
def m_talk_key : List SV → Option FR := defM 2 1 b_talk_key
theorem ok_talk_key {P : Program} {w : World} {K : PySem.W.Frag} {mg : Str → Option Value} {base : Heap} {f : Addr} {fd : FuncData} (F : Fun K "talk_key" "talk_key" s_talk_key f fd) (z_len : mg "len" = none) (c_request_key : Def P w K mg base 3 "request_key" 2 m_request_key []) : FnOk P w K mg base CX0 4 f fd ["kinds", "talk"] (spD K 2 m_talk_key) :=
  fnd (k := 3) (n := 1) F sc_talk_key rfl fun cdv A outer s H E hr =>
    (pss_done (ps_dret (pd_tup (pa_dcons (pd_callB cr_len snd_len z_len rfl (pa_dcons (pd_var (pv 1)) pa_dnil)) (pa_dcons (pd_comp (own := [("request", 2)]) (by rfl) sc_talk_key.nd (blk_of (N := ["kinds", "talk", "request"]) (sc := defScope s_talk_key) (by decide +kernel)) (by rfl) (pi_dsrc (pd_var (pv 1))) (fun s H C cl fp => (pg_dnm sc_talk_key.nd rfl (.inl rfl))) (fun s H C cl fp => pts_dnil) (fun s H C cl fp => (pd_callN c_request_key hr (by decide) (pa_dcons (pd_var (pv 0)) (pa_dcons (pd_var (pv 2)) pa_dnil))))) pa_dnil)))))
/-! ### compare_requests -/
abbrev s_compare_requests : Stmt := topS 12
theorem sc_compare_requests : FnScope ["kinds", "first", "second"] ["kinds", "first", "second"] (defScope s_compare_requests) := ⟨rfl, rfl, rfl, by decide +kernel, rfl, by decide +kernel, by decide +kernel⟩
def b_compare_requests : SS :=
    (retS (callD m_compare_keys [] (consA (callD m_request_key [] (consA (varE 0) (consA (varE 1) nilA))) (consA (callD m_request_key [] (consA (varE 0) (consA (varE 2) nilA))) nilA))))
def m_compare_requests : List SV → Option FR := defM 3 0 b_compare_requests
theorem ok_compare_requests {P : Program} {w : World} {K : PySem.W.Frag} {mg : Str → Option Value} {base : Heap} {f : Addr} {fd : FuncData} (F : Fun K "compare_requests" "compare_requests" s_compare_requests f fd) (c_request_key : Def P w K mg base 3 "request_key" 2 m_request_key []) (c_compare_keys : Def P w K mg base 1 "compare_keys" 2 m_compare_keys []) : FnOk P w K mg base CX0 4 f fd ["kinds", "first", "second"] (spD K 3 m_compare_requests) :=
  fnd (k := 3) (n := 0) F sc_compare_requests rfl fun cdv A outer s H E hr =>
    (pss_done (ps_dret (pd_callN c_compare_keys hr (by decide) (pa_dcons (pd_callN c_request_key hr (by decide) (pa_dcons (pd_var (pv 0)) (pa_dcons (pd_var (pv 1)) pa_dnil))) (pa_dcons (pd_callN c_request_key hr (by decide) (pa_dcons (pd_var (pv 0)) (pa_dcons (pd_var (pv 2)) pa_dnil))) pa_dnil)))))
/-! ### compare_talks -/
abbrev s_compare_talks : Stmt := topS 13
theorem sc_compare_talks : FnScope ["kinds", "first", "second"] ["kinds", "first", "second"] (defScope s_compare_talks) := ⟨rfl, rfl, rfl, by decide +kernel, rfl, by decide +kernel, by decide +kernel⟩
def b_compare_talks : SS :=
    (retS (callD m_compare_keys [] (consA (callD m_talk_key [] (consA (varE 0) (consA (varE 1) nilA))) (consA (callD m_talk_key [] (consA (varE 0) (consA (varE 2) nilA))) nilA))))
def m_compare_talks : List SV → Option FR := defM 3 0 b_compare_talks
theorem ok_compare_talks {P : Program} {w : World} {K : PySem.W.Frag} {mg : Str → Option Value} {base : Heap} {f : Addr} {fd : FuncData} (F : Fun K "compare_talks" "compare_talks" s_compare_talks f fd) (c_talk_key : Def P w K mg base 4 "talk_key" 2 m_talk_key []) (c_compare_keys : Def P w K mg base 1 "compare_keys" 2 m_compare_keys []) : FnOk P w K mg base CX0 5 f fd ["kinds", "first", "second"] (spD K 3 m_compare_talks) :=
  fnd (k := 4) (n := 0) F sc_compare_talks rfl fun cdv A outer s H E hr =>
    (pss_done (ps_dret (pd_callN c_compare_keys hr (by decide) (pa_dcons (pd_callN c_talk_key hr (by decide) (pa_dcons (pd_var (pv 0)) (pa_dcons (pd_var (pv 1)) pa_dnil))) (pa_dcons (pd_callN c_talk_key hr (by decide) (pa_dcons (pd_var (pv 0)) (pa_dcons (pd_var (pv 2)) pa_dnil))) pa_dnil)))))
/-! ### _law_mixed -/
abbrev s_ulawumixed : Stmt := topS 15
theorem sc_ulawumixed : FnScope ["cell", "k", "number"] ["cell", "k"] (defScope s_ulawumixed) := ⟨rfl, rfl, rfl, by decide +kernel, rfl, by decide +kernel, by decide +kernel⟩
def b_ulawumixed : SS :=
    (seqS (asgS 2 (two (op2 modD) (callE intC (consA (two (op2 addD) (two (op2 addD) (two (op2 mulD) (varE 0) (constE (.int 48271))) (two (op2 mulD) (varE 1) (constE (.int 69621)))) (constE (.int 12345))) nilA)) (constE (.int 2147483647))))
    (seqS (asgS 2 (two (op2 modD) (callE intC (consA (two (op2 addD) (two (op2 addD) (two (op2 mulD) (varE 2) (varE 2)) (two (op2 mulD) (constE (.int 16807)) (varE 1))) (constE (.int 7))) nilA)) (constE (.int 998244353))))
    (seqS (asgS 2 (two (op2 modD) (callE intC (consA (two (op2 addD) (two (op2 addD) (two (op2 mulD) (varE 2) (varE 2)) (two (op2 mulD) (constE (.int 48271)) (varE 1))) (varE 0)) nilA)) (constE (.int 2147483629))))
    (retS (two (op2 modD) (two (op2 fdivD) (varE 2) (constE (.int 13))) (constE (.int 1000)))))))
def m_ulawumixed : List SV → Option FR := defM 2 1 b_ulawumixed
theorem ok_ulawumixed {P : Program} {w : World} {K : PySem.W.Frag} {mg : Str → Option Value} {base : Heap} {f : Addr} {fd : FuncData} (F : Fun K "_law_mixed" "_law_mixed" s_ulawumixed f fd) (z_int : mg "int" = none) : FnOk P w K mg base CX0 1 f fd ["cell", "k"] (spD K 2 m_ulawumixed) :=
  fnd (k := 0) (n := 1) F sc_ulawumixed rfl fun cdv A outer s H E hr =>
    (pss_dcons (ps_dset (i := 2) sc_ulawumixed.nd rfl (.inl rfl) (pd_mod (pd_callTy cr_int snd_intC z_int rfl (pa_dcons (pd_add (pd_add (pd_mul (pd_var (pv 0)) pd_int) (pd_mul (pd_var (pv 1)) pd_int)) pd_int) pa_dnil)) pd_int))
    (pss_dcons (ps_dset (i := 2) sc_ulawumixed.nd rfl (.inl rfl) (pd_mod (pd_callTy cr_int snd_intC z_int rfl (pa_dcons (pd_add (pd_add (pd_mul (pd_var (pv 2)) (pd_var (pv 2))) (pd_mul pd_int (pd_var (pv 1)))) pd_int) pa_dnil)) pd_int))
    (pss_dcons (ps_dset (i := 2) sc_ulawumixed.nd rfl (.inl rfl) (pd_mod (pd_callTy cr_int snd_intC z_int rfl (pa_dcons (pd_add (pd_add (pd_mul (pd_var (pv 2)) (pd_var (pv 2))) (pd_mul pd_int (pd_var (pv 1)))) (pd_var (pv 0))) pa_dnil)) pd_int))
    (pss_done (ps_dret (pd_mod (pd_fdiv (pd_var (pv 2)) pd_int) pd_int))))))
/-! ### _law_stream -/
abbrev s_ulawustream : Stmt := topS 16
theorem sc_ulawustream : FnScope ["script", "count", "stream", "cell", "first", "k", "rest"] ["script", "count"] (defScope s_ulawustream) := ⟨rfl, rfl, rfl, by decide +kernel, rfl, by decide +kernel, by decide +kernel⟩
def l_ulawustream_1 : SS :=
    (iteS (two (op2 gtD) (varE 6) (constE (.int 0))) (seqS (exprS (mutE appU (varE 2) (consA (two (op2 modD) (callE intC (consA (varE 6) nilA)) (constE (.int 1000))) nilA)))
    (asgS 6 (two (op2 fdivD) (varE 6) (constE (.int 1000))))) skipS)
def l_ulawustream_2 : SS :=
    (exprS (mutE appU (varE 2) (consA (callD m_ulawumixed [] (consA (varE 6) (consA (varE 5) nilA))) nilA)))
def l_ulawustream_3 : SS :=
    (seqS (asgS 6 (callE absC (consA (callE intC (consA (varE 3) nilA)) nilA)))
    (iteS (two (op2 geD) (varE 6) (constE (.int 1000000000000000000))) (forS (argsI rng1 (consA (constE (.int 60)) nilA)) (.nm 5) l_ulawustream_1) (forS (argsI rng1 (consA (constE (.int 4)) nilA)) (.nm 5) l_ulawustream_2)))
def l_ulawustream_4 : SS :=
    (exprS (mutE appU (varE 2) (consA (callD m_ulawumixed [] (consA (varE 4) (consA (two (op2 addD) (varE 5) (constE (.int 4))) nilA))) nilA)))
def b_ulawustream : SS :=
    (seqS (asgS 2 (lstE nilA))
    (seqS (forS (srcE (sliceE (varE 0) none (some (constE (.int 63))))) (.nm 3) l_ulawustream_3)
    (seqS (asgS 4 (constE (.int 0)))
    (seqS (iteS (two (op2 gtD) (callE lenD (consA (varE 0) nilA)) (constE (.int 0))) (asgS 4 (callE absC (consA (callE intC (consA (two (op2 getD) (varE 0) (constE (.int 0))) nilA)) nilA))) skipS)
    (seqS (forS (argsI rng1 (consA (varE 1) nilA)) (.nm 5) l_ulawustream_4)
    (retS (varE 2)))))))
def m_ulawustream : List SV → Option FR := defM 2 5 b_ulawustream
theorem ok_ulawustream {P : Program} {w : World} {K : PySem.W.Frag} {mg : Str → Option Value} {base : Heap} {f : Addr} {fd : FuncData} (F : Fun K "_law_stream" "_law_stream" s_ulawustream f fd) (z_abs : mg "abs" = none) (z_int : mg "int" = none) (z_len : mg "len" = none) (z_range : mg "range" = none) (c_ulawumixed : Def P w K mg base 1 "_law_mixed" 2 m_ulawumixed []) : FnOk P w K mg base CX0 2 f fd ["script", "count"] (spD K 2 m_ulawustream) :=
  fnd (k := 1) (n := 5) F sc_ulawustream rfl fun cdv A outer s H E hr =>
    (pss_dcons (ps_dset (i := 2) sc_ulawustream.nd rfl (.inl rfl) (pd_lst pa_dnil))
    (pss_dcons (ps_dfor PassesOwn.never rfl (pi_dsrc (pd_slice (pd_var (pv 0)) po_dnone (po_dsome pd_int))) (pg_dnm sc_ulawustream.nd rfl (.inl rfl)) (pss_dcons (ps_dset (i := 6) sc_ulawustream.nd rfl (.inl rfl) (pd_callB cr_abs snd_abs z_abs rfl (pa_dcons (pd_callTy cr_int snd_intC z_int rfl (pa_dcons (pd_var (pv 3)) pa_dnil)) pa_dnil)))
    (pss_done (ps_dif (pt_ged (pd_var (pv 6)) pd_int) (pss_done (ps_dfor PassesOwn.never rfl (pi_drange1 z_range (pa_dcons pd_int pa_dnil)) (pg_dnm sc_ulawustream.nd rfl (.inl rfl)) (pss_done (ps_dif (pt_gtd (pd_var (pv 6)) pd_int) (pss_dcons (ps_dexpr (pd_append (pd_var (pv 2)) (pa_dcons (pd_mod (pd_callTy cr_int snd_intC z_int rfl (pa_dcons (pd_var (pv 6)) pa_dnil)) pd_int) pa_dnil)))
    (pss_done (ps_dset (i := 6) sc_ulawustream.nd rfl (.inl rfl) (pd_fdiv (pd_var (pv 6)) pd_int)))) pss_dnil)))) (pss_done (ps_dfor PassesOwn.never rfl (pi_drange1 z_range (pa_dcons pd_int pa_dnil)) (pg_dnm sc_ulawustream.nd rfl (.inl rfl)) (pss_done (ps_dexpr (pd_append (pd_var (pv 2)) (pa_dcons (pd_callN c_ulawumixed hr (by decide) (pa_dcons (pd_var (pv 6)) (pa_dcons (pd_var (pv 5)) pa_dnil))) pa_dnil))))))))))
    (pss_dcons (ps_dset (i := 4) sc_ulawustream.nd rfl (.inl rfl) pd_int)
    (pss_dcons (ps_dif (pt_gtd (pd_callB cr_len snd_len z_len rfl (pa_dcons (pd_var (pv 0)) pa_dnil)) pd_int) (pss_done (ps_dset (i := 4) sc_ulawustream.nd rfl (.inl rfl) (pd_callB cr_abs snd_abs z_abs rfl (pa_dcons (pd_callTy cr_int snd_intC z_int rfl (pa_dcons (pd_get (pd_var (pv 0)) pd_int) pa_dnil)) pa_dnil)))) pss_dnil)
    (pss_dcons (ps_dfor PassesOwn.never rfl (pi_drange1 z_range (pa_dcons (pd_var (pv 1)) pa_dnil)) (pg_dnm sc_ulawustream.nd rfl (.inl rfl)) (pss_done (ps_dexpr (pd_append (pd_var (pv 2)) (pa_dcons (pd_callN c_ulawumixed hr (by decide) (pa_dcons (pd_var (pv 4)) (pa_dcons (pd_add (pd_var (pv 5)) pd_int) pa_dnil))) pa_dnil)))))
    (pss_done (ps_dret (pd_var (pv 2)))))))))
/-! ### _law_take -/
abbrev s_ulawutake : Stmt := topS 17
theorem sc_ulawutake : FnScope ["stream", "bound"] ["stream", "bound"] (defScope s_ulawutake) := ⟨rfl, rfl, rfl, by decide +kernel, rfl, by decide +kernel, by decide +kernel⟩
def b_ulawutake : SS :=
    (seqS (iteS (two (op2 eqD) (callE lenD (consA (varE 0) nilA)) (constE (.int 0))) (retS (constE (.int 0))) skipS)
    (retS (two (op2 modD) (callE intC (consA (mutE popAtU (varE 0) (consA (constE (.int 0)) nilA)) nilA)) (varE 1))))
def m_ulawutake : List SV → Option FR := defM 2 0 b_ulawutake
theorem ok_ulawutake {P : Program} {w : World} {K : PySem.W.Frag} {mg : Str → Option Value} {base : Heap} {f : Addr} {fd : FuncData} (F : Fun K "_law_take" "_law_take" s_ulawutake f fd) (z_int : mg "int" = none) (z_len : mg "len" = none) : FnOk P w K mg base CX0 1 f fd ["stream", "bound"] (spD K 2 m_ulawutake) :=
  fnd (k := 0) (n := 0) F sc_ulawutake rfl fun cdv A outer s H E hr =>
    (pss_dcons (ps_dif (pt_eqd hr.units (pd_callB cr_len snd_len z_len rfl (pa_dcons (pd_var (pv 0)) pa_dnil)) pd_int) (pss_done (ps_dret pd_int)) pss_dnil)
    (pss_done (ps_dret (pd_mod (pd_callTy cr_int snd_intC z_int rfl (pa_dcons (pd_popAt (pd_var (pv 0)) (pa_dcons pd_int pa_dnil)) pa_dnil)) (pd_var (pv 1))))))
/-! ### _law_letter -/
abbrev s_ulawuletter : Stmt := topS 18
theorem sc_ulawuletter : FnScope ["stream"] ["stream"] (defScope s_ulawuletter) := ⟨rfl, rfl, rfl, by decide +kernel, rfl, by decide +kernel, by decide +kernel⟩
def b_ulawuletter : SS :=
    (retS (two (op2 getD) (constE (.str [97, 98, 99, 100, 101, 102, 103, 104, 105, 106, 107, 108, 109, 110, 111, 112, 113, 114, 115, 116, 117, 118, 119, 120, 121, 122])) (callM 0 m_ulawutake [] (consA (varE 0) (consA (constE (.int 26)) nilA)))))
def m_ulawuletter : List SV → Option FR := defM 1 0 b_ulawuletter
theorem ok_ulawuletter {P : Program} {w : World} {K : PySem.W.Frag} {mg : Str → Option Value} {base : Heap} {f : Addr} {fd : FuncData} (F : Fun K "_law_letter" "_law_letter" s_ulawuletter f fd) (c_ulawutake : Def P w K mg base 1 "_law_take" 2 m_ulawutake []) : FnOk P w K mg base CX0 2 f fd ["stream"] (spD K 1 m_ulawuletter) :=
  fnd (k := 1) (n := 0) F sc_ulawuletter rfl fun cdv A outer s H E hr =>
    (pss_done (ps_dret (pd_get (pd_str [97, 98, 99, 100, 101, 102, 103, 104, 105, 106, 107, 108, 109, 110, 111, 112, 113, 114, 115, 116, 117, 118, 119, 120, 121, 122] (by rfl)) (pd_callMN 0 c_ulawutake hr (by decide) (pa_dcons (pd_var (pv 0)) (pa_dcons pd_int pa_dnil))))))
/-! ### _law_text -/
abbrev s_ulawutext : Stmt := topS 19
theorem sc_ulawutext : FnScope ["stream", "size", "letter", "k"] ["stream"] (defScope s_ulawutext) := ⟨rfl, rfl, rfl, by decide +kernel, rfl, by decide +kernel, by decide +kernel⟩
def e_ulawutext_1 : SE :=
    (varE 2)
def e_ulawutext_2 : SE :=
    (callM 0 m_ulawuletter [] (consA (varE 0) nilA))
def b_ulawutext : SS :=
    (seqS (asgS 1 (callM 0 m_ulawutake [] (consA (varE 0) (consA (constE (.int 6)) nilA))))
    (seqS (iteS (two (op2 eqD) (callM 0 m_ulawutake [] (consA (varE 0) (consA (constE (.int 12)) nilA))) (constE (.int 5))) (asgS 1 (two (op2 addD) (varE 1) (constE (.int 30)))) skipS)
    (seqS (iteS (two (op2 eqD) (callM 0 m_ulawutake [] (consA (varE 0) (consA (constE (.int 3)) nilA))) (constE (.int 1))) (seqS (asgS 2 (callM 0 m_ulawuletter [] (consA (varE 0) nilA)))
    (retS (metE "str" joinD (constE (.str [])) (consA (compE [3] (argsI rng1 (consA (varE 1) nilA)) (.nm 3) none e_ulawutext_1) nilA)))) skipS)
    (retS (metE "str" joinD (constE (.str [])) (consA (compE [3] (argsI rng1 (consA (varE 1) nilA)) (.nm 3) none e_ulawutext_2) nilA))))))
def m_ulawutext : List SV → Option FR := defM 1 3 b_ulawutext
theorem ok_ulawutext {P : Program} {w : World} {K : PySem.W.Frag} {mg : Str → Option Value} {base : Heap} {f : Addr} {fd : FuncData} (F : Fun K "_law_text" "_law_text" s_ulawutext f fd) (z_range : mg "range" = none) (c_ulawutake : Def P w K mg base 1 "_law_take" 2 m_ulawutake []) (c_ulawuletter : Def P w K mg base 2 "_law_letter" 1 m_ulawuletter []) : FnOk P w K mg base CX0 3 f fd ["stream"] (spD K 1 m_ulawutext) :=
  fnd (k := 2) (n := 3) F sc_ulawutext rfl fun cdv A outer s H E hr =>
    (pss_dcons (ps_dset (i := 1) sc_ulawutext.nd rfl (.inl rfl) (pd_callMN 0 c_ulawutake hr (by decide) (pa_dcons (pd_var (pv 0)) (pa_dcons pd_int pa_dnil))))
    (pss_dcons (ps_dif (pt_eqd hr.units (pd_callMN 0 c_ulawutake hr (by decide) (pa_dcons (pd_var (pv 0)) (pa_dcons pd_int pa_dnil))) pd_int) (pss_done (ps_dset (i := 1) sc_ulawutext.nd rfl (.inl rfl) (pd_add (pd_var (pv 1)) pd_int))) pss_dnil)
    (pss_dcons (ps_dif (pt_eqd hr.units (pd_callMN 0 c_ulawutake hr (by decide) (pa_dcons (pd_var (pv 0)) (pa_dcons pd_int pa_dnil))) pd_int) (pss_dcons (ps_dset (i := 2) sc_ulawutext.nd rfl (.inr rfl) (pd_callMN 0 c_ulawuletter hr (by decide) (pa_dcons (pd_var (pv 0)) pa_dnil)))
    (pss_done (ps_dret (pd_join (pd_str [] (by rfl)) (pa_dcons (pd_comp (own := [("k", 3)]) (by rfl) sc_ulawutext.nd (blk_of (N := ["stream", "size", "letter", "k"]) (sc := defScope s_ulawutext) (by decide +kernel)) (by rfl) (pi_drange1 z_range (pa_dcons (pd_var (pv 1)) pa_dnil)) (fun s H C cl fp => (pg_dnm sc_ulawutext.nd rfl (.inl rfl))) (fun s H C cl fp => pts_dnil) (fun s H C cl fp => (pd_var (pv 2)))) pa_dnil))))) pss_dnil)
    (pss_done (ps_dret (pd_join (pd_str [] (by rfl)) (pa_dcons (pd_comp (own := [("k", 3)]) (by rfl) sc_ulawutext.nd (blk_of (N := ["stream", "size", "letter", "k"]) (sc := defScope s_ulawutext) (by decide +kernel)) (by rfl) (pi_drange1 z_range (pa_dcons (pd_var (pv 1)) pa_dnil)) (fun s H C cl fp => (pg_dnm sc_ulawutext.nd rfl (.inl rfl))) (fun s H C cl fp => pts_dnil) (fun s H C cl fp => (pd_callMN 0 c_ulawuletter hr (by decide) (pa_dcons (pd_var (pv 0)) pa_dnil)))) pa_dnil)))))))
/-! ### _law_id -/
abbrev s_ulawuid : Stmt := topS 20
theorem sc_ulawuid : FnScope ["stream", "number"] ["stream"] (defScope s_ulawuid) := ⟨rfl, rfl, rfl, by decide +kernel, rfl, by decide +kernel, by decide +kernel⟩
def b_ulawuid : SS :=
    (seqS (iteS (two (op2 gtD) (callM 0 m_ulawutake [] (consA (varE 0) (consA (constE (.int 4)) nilA))) (constE (.int 0))) (retS (two (op2 subD) (callM 0 m_ulawutake [] (consA (varE 0) (consA (constE (.int 9)) nilA))) (constE (.int 4)))) skipS)
    (seqS (asgS 1 (two (op2 mulD) (two (op2 addD) (callM 0 m_ulawutake [] (consA (varE 0) (consA (constE (.int 999)) nilA))) (constE (.int 1))) (two (op2 getD) (lstE (consA (constE (.int 1)) (consA (constE (.int 1000)) (consA (constE (.int 1000000000000)) (consA (two (op2 powD) (constE (.int 10)) (constE (.int 27))) nilA))))) (callM 0 m_ulawutake [] (consA (varE 0) (consA (constE (.int 4)) nilA))))))
    (seqS (iteS (two (op2 eqD) (callM 0 m_ulawutake [] (consA (varE 0) (consA (constE (.int 2)) nilA))) (constE (.int 0))) (retS (oneE negD (varE 1))) skipS)
    (retS (varE 1)))))
def m_ulawuid : List SV → Option FR := defM 1 1 b_ulawuid
theorem ok_ulawuid {P : Program} {w : World} {K : PySem.W.Frag} {mg : Str → Option Value} {base : Heap} {f : Addr} {fd : FuncData} (F : Fun K "_law_id" "_law_id" s_ulawuid f fd) (c_ulawutake : Def P w K mg base 1 "_law_take" 2 m_ulawutake []) : FnOk P w K mg base CX0 2 f fd ["stream"] (spD K 1 m_ulawuid) :=
  fnd (k := 1) (n := 1) F sc_ulawuid rfl fun cdv A outer s H E hr =>
    (pss_dcons (ps_dif (pt_gtd (pd_callMN 0 c_ulawutake hr (by decide) (pa_dcons (pd_var (pv 0)) (pa_dcons pd_int pa_dnil))) pd_int) (pss_done (ps_dret (pd_sub (pd_callMN 0 c_ulawutake hr (by decide) (pa_dcons (pd_var (pv 0)) (pa_dcons pd_int pa_dnil))) pd_int))) pss_dnil)
    (pss_dcons (ps_dset (i := 1) sc_ulawuid.nd rfl (.inl rfl) (pd_mul (pd_add (pd_callMN 0 c_ulawutake hr (by decide) (pa_dcons (pd_var (pv 0)) (pa_dcons pd_int pa_dnil))) pd_int) (pd_get (pd_lst (pa_dcons pd_int (pa_dcons pd_int (pa_dcons pd_int (pa_dcons (pd_pow pd_int pd_int) pa_dnil))))) (pd_callMN 0 c_ulawutake hr (by decide) (pa_dcons (pd_var (pv 0)) (pa_dcons pd_int pa_dnil))))))
    (pss_dcons (ps_dif (pt_eqd hr.units (pd_callMN 0 c_ulawutake hr (by decide) (pa_dcons (pd_var (pv 0)) (pa_dcons pd_int pa_dnil))) pd_int) (pss_done (ps_dret (pd_neg (pd_var (pv 1))))) pss_dnil)
    (pss_done (ps_dret (pd_var (pv 1)))))))
/-! ### _law_value -/
abbrev s_ulawuvalue : Stmt := topS 21
theorem sc_ulawuvalue : FnScope ["stream"] ["stream"] (defScope s_ulawuvalue) := ⟨rfl, rfl, rfl, by decide +kernel, rfl, by decide +kernel, by decide +kernel⟩
def b_ulawuvalue : SS :=
    (seqS (iteS (two (op2 eqD) (callM 0 m_ulawutake [] (consA (varE 0) (consA (constE (.int 2)) nilA))) (constE (.int 0))) (retS (callM 0 m_ulawutext [] (consA (varE 0) nilA))) skipS)
    (retS (callM 0 m_ulawuid [] (consA (varE 0) nilA))))
def m_ulawuvalue : List SV → Option FR := defM 1 0 b_ulawuvalue
theorem ok_ulawuvalue {P : Program} {w : World} {K : PySem.W.Frag} {mg : Str → Option Value} {base : Heap} {f : Addr} {fd : FuncData} (F : Fun K "_law_value" "_law_value" s_ulawuvalue f fd) (c_ulawutake : Def P w K mg base 1 "_law_take" 2 m_ulawutake []) (c_ulawutext : Def P w K mg base 3 "_law_text" 1 m_ulawutext []) (c_ulawuid : Def P w K mg base 2 "_law_id" 1 m_ulawuid []) : FnOk P w K mg base CX0 4 f fd ["stream"] (spD K 1 m_ulawuvalue) :=
  fnd (k := 3) (n := 0) F sc_ulawuvalue rfl fun cdv A outer s H E hr =>
    (pss_dcons (ps_dif (pt_eqd hr.units (pd_callMN 0 c_ulawutake hr (by decide) (pa_dcons (pd_var (pv 0)) (pa_dcons pd_int pa_dnil))) pd_int) (pss_done (ps_dret (pd_callMN 0 c_ulawutext hr (by decide) (pa_dcons (pd_var (pv 0)) pa_dnil)))) pss_dnil)
    (pss_done (ps_dret (pd_callMN 0 c_ulawuid hr (by decide) (pa_dcons (pd_var (pv 0)) pa_dnil)))))
/-! ### _law_near -/
abbrev s_ulawunear : Stmt := topS 22
theorem sc_ulawunear : FnScope ["value", "stream", "pick", "place"] ["value", "stream"] (defScope s_ulawunear) := ⟨rfl, rfl, rfl, by decide +kernel, rfl, by decide +kernel, by decide +kernel⟩
def b_ulawunear : SS :=
    (seqS (asgS 2 (callM 0 m_ulawutake [] (consA (varE 1) (consA (constE (.int 6)) nilA))))
    (seqS (iteS (isiE "str" (varE 0)) (seqS (asgS 3 (callM 0 m_ulawutake [] (consA (varE 1) (consA (two (op2 addD) (callE lenD (consA (varE 0) nilA)) (constE (.int 1))) nilA))))
    (seqS (iteS (two (op2 ltG) (varE 2) (constE (.int 2))) (retS (two (op2 addD) (two (op2 addD) (sliceE (varE 0) none (some (varE 3))) (callM 0 m_ulawuletter [] (consA (varE 1) nilA))) (sliceE (varE 0) (some (varE 3)) none))) skipS)
    (seqS (iteS (two (op2 ltG) (varE 2) (constE (.int 4))) (retS (two (op2 addD) (two (op2 addD) (sliceE (varE 0) none (some (varE 3))) (callM 0 m_ulawuletter [] (consA (varE 1) nilA))) (sliceE (varE 0) (some (two (op2 addD) (varE 3) (constE (.int 1)))) none))) skipS)
    (retS (two (op2 addD) (varE 0) (constE (.str []))))))) skipS)
    (seqS (iteS (two (op2 ltG) (varE 2) (constE (.int 2))) (retS (two (op2 addD) (varE 0) (constE (.int 1)))) skipS)
    (seqS (iteS (two (op2 ltG) (varE 2) (constE (.int 4))) (retS (oneE negD (varE 0))) skipS)
    (retS (varE 0))))))
def m_ulawunear : List SV → Option FR := defM 2 2 b_ulawunear
theorem ok_ulawunear {P : Program} {w : World} {K : PySem.W.Frag} {mg : Str → Option Value} {base : Heap} {f : Addr} {fd : FuncData} (F : Fun K "_law_near" "_law_near" s_ulawunear f fd) (z_isinstance : mg "isinstance" = none) (z_len : mg "len" = none) (z_str : mg "str" = none) (c_ulawutake : Def P w K mg base 1 "_law_take" 2 m_ulawutake []) (c_ulawuletter : Def P w K mg base 2 "_law_letter" 1 m_ulawuletter []) : FnOk P w K mg base CX0 3 f fd ["value", "stream"] (spD K 2 m_ulawunear) :=
  fnd (k := 2) (n := 2) F sc_ulawunear rfl fun cdv A outer s H E hr =>
    (pss_dcons (ps_dset (i := 2) sc_ulawunear.nd rfl (.inl rfl) (pd_callMN 0 c_ulawutake hr (by decide) (pa_dcons (pd_var (pv 1)) (pa_dcons pd_int pa_dnil))))
    (pss_dcons (ps_dif (pt_d (pd_isi (n := "str") (by decide) z_isinstance z_str rfl (pd_var (pv 0)))) (pss_dcons (ps_dset (i := 3) sc_ulawunear.nd rfl (.inl rfl) (pd_callMN 0 c_ulawutake hr (by decide) (pa_dcons (pd_var (pv 1)) (pa_dcons (pd_add (pd_callB cr_len snd_len z_len rfl (pa_dcons (pd_var (pv 0)) pa_dnil)) pd_int) pa_dnil))))
    (pss_dcons (ps_dif (pt_ltg hr.units (pd_var (pv 2)) pd_int) (pss_done (ps_dret (pd_add (pd_add (pd_slice (pd_var (pv 0)) po_dnone (po_dsome (pd_var (pv 3)))) (pd_callMN 0 c_ulawuletter hr (by decide) (pa_dcons (pd_var (pv 1)) pa_dnil))) (pd_slice (pd_var (pv 0)) (po_dsome (pd_var (pv 3))) po_dnone)))) pss_dnil)
    (pss_dcons (ps_dif (pt_ltg hr.units (pd_var (pv 2)) pd_int) (pss_done (ps_dret (pd_add (pd_add (pd_slice (pd_var (pv 0)) po_dnone (po_dsome (pd_var (pv 3)))) (pd_callMN 0 c_ulawuletter hr (by decide) (pa_dcons (pd_var (pv 1)) pa_dnil))) (pd_slice (pd_var (pv 0)) (po_dsome (pd_add (pd_var (pv 3)) pd_int)) po_dnone)))) pss_dnil)
    (pss_done (ps_dret (pd_add (pd_var (pv 0)) (pd_str [] (by rfl)))))))) pss_dnil)
    (pss_dcons (ps_dif (pt_ltg hr.units (pd_var (pv 2)) pd_int) (pss_done (ps_dret (pd_add (pd_var (pv 0)) pd_int))) pss_dnil)
    (pss_dcons (ps_dif (pt_ltg hr.units (pd_var (pv 2)) pd_int) (pss_done (ps_dret (pd_neg (pd_var (pv 0))))) pss_dnil)
    (pss_done (ps_dret (pd_var (pv 0))))))))
/-! ### _law_names -/
abbrev s_ulawunames : Stmt := topS 23
theorem sc_ulawunames : FnScope ["stream", "count", "head", "start", "names", "k", "letter", "tail", "name", "j"] ["stream", "count"] (defScope s_ulawunames) := ⟨rfl, rfl, rfl, by decide +kernel, rfl, by decide +kernel, by decide +kernel⟩
def e_ulawunames_1 : SE :=
    (two (op2 getD) (constE (.str [97, 98, 99, 100, 101, 102, 103, 104, 105, 106, 107, 108, 109, 110, 111, 112, 113, 114, 115, 116, 117, 118, 119, 120, 121, 122])) (callM 0 m_ulawutake [] (consA (varE 0) (consA (constE (.int 26)) nilA))))
def e_ulawunames_2 : SE :=
    (two (op2 getD) (constE (.str [97, 98, 99, 100, 101, 102, 103, 104, 105, 106, 107, 108, 109, 110, 111, 112, 113, 114, 115, 116, 117, 118, 119, 120, 121, 122])) (callM 0 m_ulawutake [] (consA (varE 0) (consA (constE (.int 26)) nilA))))
def l_ulawunames_3 : SS :=
    (seqS (asgS 6 (two (op2 getD) (constE (.str [97, 98, 99, 100, 101, 102, 103, 104, 105, 106, 107, 108, 109, 110, 111, 112, 113, 114, 115, 116, 117, 118, 119, 120, 121, 122])) (two (op2 modD) (two (op2 addD) (varE 3) (two (op2 mulD) (constE (.int 3)) (varE 5))) (constE (.int 26)))))
    (seqS (asgS 7 (metE "str" joinD (constE (.str [])) (consA (compE [9] (argsI rng1 (consA (callM 0 m_ulawutake [] (consA (varE 0) (consA (constE (.int 8)) nilA))) nilA)) (.nm 9) none e_ulawunames_2) nilA)))
    (seqS (asgS 8 (two (op2 addD) (two (op2 addD) (varE 2) (varE 6)) (varE 7)))
    (seqS (iteS (orE (two (op2 eqD) (varE 8) (constE (.str [110, 101, 119]))) (two (op2 eqD) (varE 8) (constE (.str [115, 101, 108, 102])))) (asgS 8 (two (op2 addD) (varE 8) (constE (.str [120])))) skipS)
    (exprS (mutE appU (varE 4) (consA (varE 8) nilA)))))))
def b_ulawunames : SS :=
    (seqS (asgS 2 (metE "str" joinD (constE (.str [])) (consA (compE [5] (argsI rng1 (consA (callM 0 m_ulawutake [] (consA (varE 0) (consA (constE (.int 5)) nilA))) nilA)) (.nm 5) none e_ulawunames_1) nilA)))
    (seqS (asgS 3 (callM 0 m_ulawutake [] (consA (varE 0) (consA (constE (.int 26)) nilA))))
    (seqS (asgS 4 (lstE nilA))
    (seqS (forS (argsI rng1 (consA (varE 1) nilA)) (.nm 5) l_ulawunames_3)
    (retS (varE 4))))))
def m_ulawunames : List SV → Option FR := defM 2 8 b_ulawunames
theorem ok_ulawunames {P : Program} {w : World} {K : PySem.W.Frag} {mg : Str → Option Value} {base : Heap} {f : Addr} {fd : FuncData} (F : Fun K "_law_names" "_law_names" s_ulawunames f fd) (z_range : mg "range" = none) (c_ulawutake : Def P w K mg base 1 "_law_take" 2 m_ulawutake []) : FnOk P w K mg base CX0 2 f fd ["stream", "count"] (spD K 2 m_ulawunames) :=
  fnd (k := 1) (n := 8) F sc_ulawunames rfl fun cdv A outer s H E hr =>
    (pss_dcons (ps_dset (i := 2) sc_ulawunames.nd rfl (.inl rfl) (pd_join (pd_str [] (by rfl)) (pa_dcons (pd_comp (own := [("k", 5)]) (by rfl) sc_ulawunames.nd (blk_of (N := ["stream", "count", "head", "start", "names", "k", "letter", "tail", "name", "j"]) (sc := defScope s_ulawunames) (by decide +kernel)) (by rfl) (pi_drange1 z_range (pa_dcons (pd_callMN 0 c_ulawutake hr (by decide) (pa_dcons (pd_var (pv 0)) (pa_dcons pd_int pa_dnil))) pa_dnil)) (fun s H C cl fp => (pg_dnm sc_ulawunames.nd rfl (.inl rfl))) (fun s H C cl fp => pts_dnil) (fun s H C cl fp => (pd_get (pd_str [97, 98, 99, 100, 101, 102, 103, 104, 105, 106, 107, 108, 109, 110, 111, 112, 113, 114, 115, 116, 117, 118, 119, 120, 121, 122] (by rfl)) (pd_callMN 0 c_ulawutake hr (by decide) (pa_dcons (pd_var (pv 0)) (pa_dcons pd_int pa_dnil)))))) pa_dnil)))
    (pss_dcons (ps_dset (i := 3) sc_ulawunames.nd rfl (.inl rfl) (pd_callMN 0 c_ulawutake hr (by decide) (pa_dcons (pd_var (pv 0)) (pa_dcons pd_int pa_dnil))))
    (pss_dcons (ps_dset (i := 4) sc_ulawunames.nd rfl (.inl rfl) (pd_lst pa_dnil))
    (pss_dcons (ps_dfor PassesOwn.never rfl (pi_drange1 z_range (pa_dcons (pd_var (pv 1)) pa_dnil)) (pg_dnm sc_ulawunames.nd rfl (.inl rfl)) (pss_dcons (ps_dset (i := 6) sc_ulawunames.nd rfl (.inl rfl) (pd_get (pd_str [97, 98, 99, 100, 101, 102, 103, 104, 105, 106, 107, 108, 109, 110, 111, 112, 113, 114, 115, 116, 117, 118, 119, 120, 121, 122] (by rfl)) (pd_mod (pd_add (pd_var (pv 3)) (pd_mul pd_int (pd_var (pv 5)))) pd_int)))
    (pss_dcons (ps_dset (i := 7) sc_ulawunames.nd rfl (.inl rfl) (pd_join (pd_str [] (by rfl)) (pa_dcons (pd_comp (own := [("j", 9)]) (by rfl) sc_ulawunames.nd (blk_of (N := ["stream", "count", "head", "start", "names", "k", "letter", "tail", "name", "j"]) (sc := defScope s_ulawunames) (by decide +kernel)) (by rfl) (pi_drange1 z_range (pa_dcons (pd_callMN 0 c_ulawutake hr (by decide) (pa_dcons (pd_var (pv 0)) (pa_dcons pd_int pa_dnil))) pa_dnil)) (fun s H C cl fp => (pg_dnm sc_ulawunames.nd rfl (.inl rfl))) (fun s H C cl fp => pts_dnil) (fun s H C cl fp => (pd_get (pd_str [97, 98, 99, 100, 101, 102, 103, 104, 105, 106, 107, 108, 109, 110, 111, 112, 113, 114, 115, 116, 117, 118, 119, 120, 121, 122] (by rfl)) (pd_callMN 0 c_ulawutake hr (by decide) (pa_dcons (pd_var (pv 0)) (pa_dcons pd_int pa_dnil)))))) pa_dnil)))
    (pss_dcons (ps_dset (i := 8) sc_ulawunames.nd rfl (.inl rfl) (pd_add (pd_add (pd_var (pv 2)) (pd_var (pv 6))) (pd_var (pv 7))))
    (pss_dcons (ps_dif ((pw_dor (pt_eqd hr.units (pd_var (pv 8)) (pd_str [110, 101, 119] (by rfl))) (pw_dor1 (pt_eqd hr.units (pd_var (pv 8)) (pd_str [115, 101, 108, 102] (by rfl)))))).pt (pss_done (ps_dset (i := 8) sc_ulawunames.nd rfl (.inl rfl) (pd_add (pd_var (pv 8)) (pd_str [120] (by rfl))))) pss_dnil)
    (pss_done (ps_dexpr (pd_append (pd_var (pv 4)) (pa_dcons (pd_var (pv 8)) pa_dnil)))))))))
    (pss_done (ps_dret (pd_var (pv 4))))))))
/-! ### _law_kinds -/
abbrev s_ulawukinds : Stmt := topS 24
theorem sc_ulawukinds : FnScope ["stream", "count", "names", "kinds", "name"] ["stream"] (defScope s_ulawukinds) := ⟨rfl, rfl, rfl, by decide +kernel, rfl, by decide +kernel, by decide +kernel⟩
def l_ulawukinds_1 : SS :=
    (exprS (mutE appU (varE 3) (consA (callE tupleC (consA (two (op2 addD) (lstE (consA (varE 4) nilA)) (callM 0 m_ulawunames [] (consA (varE 0) (consA (callM 0 m_ulawutake [] (consA (varE 0) (consA (constE (.int 4)) nilA))) nilA)))) nilA)) nilA)))
def b_ulawukinds : SS :=
    (seqS (asgS 1 (callM 0 m_ulawutake [] (consA (varE 0) (consA (constE (.int 6)) nilA))))
    (seqS (asgS 2 (two (op2 addD) (lstE (consA (constE (.str [110, 101, 119])) nilA)) (callM 0 m_ulawunames [] (consA (varE 0) (consA (varE 1) nilA)))))
    (seqS (asgS 3 (lstE nilA))
    (seqS (forS (srcE (varE 2)) (.nm 4) l_ulawukinds_1)
    (retS (varE 3))))))
def m_ulawukinds : List SV → Option FR := defM 1 4 b_ulawukinds
theorem ok_ulawukinds {P : Program} {w : World} {K : PySem.W.Frag} {mg : Str → Option Value} {base : Heap} {f : Addr} {fd : FuncData} (F : Fun K "_law_kinds" "_law_kinds" s_ulawukinds f fd) (z_tuple : mg "tuple" = none) (c_ulawutake : Def P w K mg base 1 "_law_take" 2 m_ulawutake []) (c_ulawunames : Def P w K mg base 2 "_law_names" 2 m_ulawunames []) : FnOk P w K mg base CX0 3 f fd ["stream"] (spD K 1 m_ulawukinds) :=
  fnd (k := 2) (n := 4) F sc_ulawukinds rfl fun cdv A outer s H E hr =>
    (pss_dcons (ps_dset (i := 1) sc_ulawukinds.nd rfl (.inl rfl) (pd_callMN 0 c_ulawutake hr (by decide) (pa_dcons (pd_var (pv 0)) (pa_dcons pd_int pa_dnil))))
    (pss_dcons (ps_dset (i := 2) sc_ulawukinds.nd rfl (.inl rfl) (pd_add (pd_lst (pa_dcons (pd_str [110, 101, 119] (by rfl)) pa_dnil)) (pd_callMN 0 c_ulawunames hr (by decide) (pa_dcons (pd_var (pv 0)) (pa_dcons (pd_var (pv 1)) pa_dnil)))))
    (pss_dcons (ps_dset (i := 3) sc_ulawukinds.nd rfl (.inl rfl) (pd_lst pa_dnil))
    (pss_dcons (ps_dfor PassesOwn.never rfl (pi_dsrc (pd_var (pv 2))) (pg_dnm sc_ulawukinds.nd rfl (.inl rfl)) (pss_done (ps_dexpr (pd_append (pd_var (pv 3)) (pa_dcons (pd_callTy cr_tuple snd_tuple z_tuple rfl (pa_dcons (pd_add (pd_lst (pa_dcons (pd_var (pv 4)) pa_dnil)) (pd_callMN 0 c_ulawunames hr (by decide) (pa_dcons (pd_var (pv 0)) (pa_dcons (pd_callMN 0 c_ulawutake hr (by decide) (pa_dcons (pd_var (pv 0)) (pa_dcons pd_int pa_dnil))) pa_dnil)))) pa_dnil)) pa_dnil)))))
    (pss_done (ps_dret (pd_var (pv 3))))))))
/-! ### _law_request -/
abbrev s_ulawurequest : Stmt := topS 25
theorem sc_ulawurequest : FnScope ["kinds", "stream", "number", "values", "k"] ["kinds", "stream"] (defScope s_ulawurequest) := ⟨rfl, rfl, rfl, by decide +kernel, rfl, by decide +kernel, by decide +kernel⟩
def e_ulawurequest_1 : SE :=
    (callM 0 m_ulawuvalue [] (consA (varE 1) nilA))
def b_ulawurequest : SS :=
    (seqS (asgS 2 (callM 0 m_ulawutake [] (consA (varE 1) (consA (callE lenD (consA (varE 0) nilA)) nilA))))
    (seqS (asgS 3 (compE [4] (argsI rng1 (consA (two (op2 subD) (callE lenD (consA (two (op2 getD) (varE 0) (varE 2)) nilA)) (constE (.int 1))) nilA)) (.nm 4) none e_ulawurequest_1))
    (seqS (iteS (two (op2 eqD) (varE 2) (constE (.int 0))) (retS (callE tupleC (consA (two (op2 addD) (lstE (consA (constE (.str [110, 101, 119])) nilA)) (varE 3)) nilA))) skipS)
    (retS (callE tupleC (consA (two (op2 addD) (lstE (consA (callM 0 m_ulawuid [] (consA (varE 1) nilA)) (consA (two (op2 getD) (two (op2 getD) (varE 0) (varE 2)) (constE (.int 0))) nilA))) (varE 3)) nilA))))))
def m_ulawurequest : List SV → Option FR := defM 2 3 b_ulawurequest
theorem ok_ulawurequest {P : Program} {w : World} {K : PySem.W.Frag} {mg : Str → Option Value} {base : Heap} {f : Addr} {fd : FuncData} (F : Fun K "_law_request" "_law_request" s_ulawurequest f fd) (z_len : mg "len" = none) (z_range : mg "range" = none) (z_tuple : mg "tuple" = none) (c_ulawutake : Def P w K mg base 1 "_law_take" 2 m_ulawutake []) (c_ulawuvalue : Def P w K mg base 4 "_law_value" 1 m_ulawuvalue []) (c_ulawuid : Def P w K mg base 2 "_law_id" 1 m_ulawuid []) : FnOk P w K mg base CX0 5 f fd ["kinds", "stream"] (spD K 2 m_ulawurequest) :=
  fnd (k := 4) (n := 3) F sc_ulawurequest rfl fun cdv A outer s H E hr =>
    (pss_dcons (ps_dset (i := 2) sc_ulawurequest.nd rfl (.inl rfl) (pd_callMN 0 c_ulawutake hr (by decide) (pa_dcons (pd_var (pv 1)) (pa_dcons (pd_callB cr_len snd_len z_len rfl (pa_dcons (pd_var (pv 0)) pa_dnil)) pa_dnil))))
    (pss_dcons (ps_dsetComp (by rfl) sc_ulawurequest.nd rfl rfl (sw_true rfl rfl rfl (by rfl)) (own := [("k", 4)]) (blk_of (N := ["kinds", "stream", "number", "values", "k"]) (sc := defScope s_ulawurequest) (by decide +kernel)) (by rfl) (pi_drange1 z_range (pa_dcons (pd_sub (pd_callB cr_len snd_len z_len rfl (pa_dcons (pd_get (pd_var (pv 0)) (pd_var (pv 2))) pa_dnil)) pd_int) pa_dnil)) (fun s H C cl fp => (pg_dnm sc_ulawurequest.nd rfl (.inl rfl))) (fun s H C cl fp => pts_dnil) (fun s H C cl fp => (pd_callMN 0 c_ulawuvalue hr (by decide) (pa_dcons (pd_var (pv 1)) pa_dnil))))
    (pss_dcons (ps_dif (pt_eqd hr.units (pd_var (pv 2)) pd_int) (pss_done (ps_dret (pd_callTy cr_tuple snd_tuple z_tuple rfl (pa_dcons (pd_add (pd_lst (pa_dcons (pd_str [110, 101, 119] (by rfl)) pa_dnil)) (pd_var (pv 3))) pa_dnil)))) pss_dnil)
    (pss_done (ps_dret (pd_callTy cr_tuple snd_tuple z_tuple rfl (pa_dcons (pd_add (pd_lst (pa_dcons (pd_callMN 0 c_ulawuid hr (by decide) (pa_dcons (pd_var (pv 1)) pa_dnil)) (pa_dcons (pd_get (pd_get (pd_var (pv 0)) (pd_var (pv 2))) pd_int) pa_dnil))) (pd_var (pv 3))) pa_dnil)))))))
/-! ### _law_near_request -/
abbrev s_ulawunearurequest : Stmt := topS 26
theorem sc_ulawunearurequest : FnScope ["kinds", "request", "stream", "items", "opening", "places", "place", "k"] ["kinds", "request", "stream"] (defScope s_ulawunearurequest) := ⟨rfl, rfl, rfl, by decide +kernel, rfl, by decide +kernel, by decide +kernel⟩
def e_ulawunearurequest_1 : SE :=
    (varE 7)
def e_ulawunearurequest_2 : SE :=
    (varE 7)
def b_ulawunearurequest : SS :=
    (seqS (asgS 3 (callE listC (consA (varE 1) nilA)))
    (seqS (asgS 4 (two (op2 eqD) (two (op2 getD) (varE 3) (constE (.int 0))) (constE (.str [110, 101, 119]))))
    (seqS (asgS 5 (compE [7] (argsI rng1 (consA (callE lenD (consA (varE 3) nilA)) nilA)) (.nm 7) (some (orE (two (op2 gtD) (varE 7) (constE (.int 0))) (notE (varE 4)))) e_ulawunearurequest_1))
    (seqS (iteS (notE (varE 4)) (asgS 5 (compE [7] (srcE (varE 5)) (.nm 7) (some (two (op2 neD) (varE 7) (constE (.int 1)))) e_ulawunearurequest_2)) skipS)
    (seqS (iteS (two (op2 eqD) (callE lenD (consA (varE 5) nilA)) (constE (.int 0))) (retS (callM 1 m_ulawurequest [] (consA (varE 0) (consA (varE 2) nilA)))) skipS)
    (seqS (asgS 6 (two (op2 getD) (varE 5) (callM 0 m_ulawutake [] (consA (varE 2) (consA (callE lenD (consA (varE 5) nilA)) nilA)))))
    (seqS (iteS (andE (notE (varE 4)) (two (op2 eqD) (varE 6) (constE (.int 0)))) (setL 3 (constE (.int 0)) (callM 0 m_ulawuid [] (consA (varE 2) nilA))) (setL 3 (varE 6) (callM 1 m_ulawunear [] (consA (two (op2 getD) (varE 3) (varE 6)) (consA (varE 2) nilA)))))
    (retS (callE tupleC (consA (varE 3) nilA))))))))))
def m_ulawunearurequest : List SV → Option FR := defM 3 5 b_ulawunearurequest
theorem ok_ulawunearurequest {P : Program} {w : World} {K : PySem.W.Frag} {mg : Str → Option Value} {base : Heap} {f : Addr} {fd : FuncData} (F : Fun K "_law_near_request" "_law_near_request" s_ulawunearurequest f fd) (z_len : mg "len" = none) (z_list : mg "list" = none) (z_range : mg "range" = none) (z_tuple : mg "tuple" = none) (c_ulawurequest : Def P w K mg base 5 "_law_request" 2 m_ulawurequest []) (c_ulawutake : Def P w K mg base 1 "_law_take" 2 m_ulawutake []) (c_ulawuid : Def P w K mg base 2 "_law_id" 1 m_ulawuid []) (c_ulawunear : Def P w K mg base 3 "_law_near" 2 m_ulawunear []) : FnOk P w K mg base CX0 6 f fd ["kinds", "request", "stream"] (spD K 3 m_ulawunearurequest) :=
  fnd (k := 5) (n := 5) F sc_ulawunearurequest rfl fun cdv A outer s H E hr =>
    (pss_dcons (ps_dset (i := 3) sc_ulawunearurequest.nd rfl (.inl rfl) (pd_callTy cr_list snd_list z_list rfl (pa_dcons (pd_var (pv 1)) pa_dnil)))
    (pss_dcons (ps_dset (i := 4) sc_ulawunearurequest.nd rfl (.inr rfl) (pd_eq hr.units (pd_get (pd_var (pv 3)) pd_int) (pd_str [110, 101, 119] (by rfl))))
    (pss_dcons (ps_dsetComp (by rfl) sc_ulawunearurequest.nd rfl rfl (sw_true rfl rfl rfl (by rfl)) (own := [("k", 7)]) (blk_of (N := ["kinds", "request", "stream", "items", "opening", "places", "place", "k"]) (sc := defScope s_ulawunearurequest) (by decide +kernel)) (by rfl) (pi_drange1 z_range (pa_dcons (pd_callB cr_len snd_len z_len rfl (pa_dcons (pd_var (pv 3)) pa_dnil)) pa_dnil)) (fun s H C cl fp => (pg_dnm sc_ulawunearurequest.nd rfl (.inl rfl))) (fun s H C cl fp => (pts_done ((pw_dor (pt_gtd (pd_var (pv 7)) pd_int) (pw_dor1 (pt_dnot (pt_d (pd_var (pv 4))))))).pt)) (fun s H C cl fp => (pd_var (pv 7))))
    (pss_dcons (ps_dif (pt_dnot (pt_d (pd_var (pv 4)))) (pss_done (ps_dsetComp (by rfl) sc_ulawunearurequest.nd rfl rfl (sw_true rfl rfl rfl (by rfl)) (own := [("k", 7)]) (blk_of (N := ["kinds", "request", "stream", "items", "opening", "places", "place", "k"]) (sc := defScope s_ulawunearurequest) (by decide +kernel)) (by rfl) (pi_dsrc (pd_var (pv 5))) (fun s H C cl fp => (pg_dnm sc_ulawunearurequest.nd rfl (.inl rfl))) (fun s H C cl fp => (pts_done (pt_ned hr.units (pd_var (pv 7)) pd_int))) (fun s H C cl fp => (pd_var (pv 7))))) pss_dnil)
    (pss_dcons (ps_dif (pt_eqd hr.units (pd_callB cr_len snd_len z_len rfl (pa_dcons (pd_var (pv 5)) pa_dnil)) pd_int) (pss_done (ps_dret (pd_callMN 1 c_ulawurequest hr (by decide) (pa_dcons (pd_var (pv 0)) (pa_dcons (pd_var (pv 2)) pa_dnil))))) pss_dnil)
    (pss_dcons (ps_dset (i := 6) sc_ulawunearurequest.nd rfl (.inl rfl) (pd_get (pd_var (pv 5)) (pd_callMN 0 c_ulawutake hr (by decide) (pa_dcons (pd_var (pv 2)) (pa_dcons (pd_callB cr_len snd_len z_len rfl (pa_dcons (pd_var (pv 5)) pa_dnil)) pa_dnil)))))
    (pss_dcons (ps_dif ((pw_dand (pt_dnot (pt_d (pd_var (pv 4)))) (pw_dand1 (pt_eqd hr.units (pd_var (pv 6)) pd_int)))).pt (pss_done (ps_dsetL (pd_callMN 0 c_ulawuid hr (by decide) (pa_dcons (pd_var (pv 2)) pa_dnil)) (pg_sub (pd_var (pv 3)) pd_int set_list))) (pss_done (ps_dsetL (pd_callMN 1 c_ulawunear hr (by decide) (pa_dcons (pd_get (pd_var (pv 3)) (pd_var (pv 6))) (pa_dcons (pd_var (pv 2)) pa_dnil))) (pg_sub (pd_var (pv 3)) (pd_var (pv 6)) set_list))))
    (pss_done (ps_dret (pd_callTy cr_tuple snd_tuple z_tuple rfl (pa_dcons (pd_var (pv 3)) pa_dnil)))))))))))
/-! ### _law_near_talk -/
abbrev s_ulawunearutalk : Stmt := topS 27
theorem sc_ulawunearutalk : FnScope ["kinds", "talk", "stream", "pick", "place", "changed"] ["kinds", "talk", "stream"] (defScope s_ulawunearutalk) := ⟨rfl, rfl, rfl, by decide +kernel, rfl, by decide +kernel, by decide +kernel⟩
def b_ulawunearutalk : SS :=
    (seqS (asgS 3 (callM 0 m_ulawutake [] (consA (varE 2) (consA (constE (.int 6)) nilA))))
    (seqS (asgS 4 (callM 0 m_ulawutake [] (consA (varE 2) (consA (two (op2 addD) (callE lenD (consA (varE 1) nilA)) (constE (.int 1))) nilA))))
    (seqS (asgS 5 (callE listC (consA (varE 1) nilA)))
    (seqS (iteS (two (op2 eqD) (varE 3) (constE (.int 0))) (exprS (mutE appU (varE 5) (consA (callM 1 m_ulawurequest [] (consA (varE 0) (consA (varE 2) nilA))) nilA))) skipS)
    (seqS (iteS (two (op2 eqD) (varE 3) (constE (.int 1))) (asgS 5 (two (op2 addD) (sliceE (varE 1) none (some (varE 4))) (sliceE (varE 1) (some (two (op2 addD) (varE 4) (constE (.int 1)))) none))) skipS)
    (seqS (iteS (andE (two (op2 eqD) (varE 3) (constE (.int 2))) (two (op2 ltG) (varE 4) (callE lenD (consA (varE 1) nilA)))) (setL 5 (varE 4) (callM 1 m_ulawurequest [] (consA (varE 0) (consA (varE 2) nilA)))) skipS)
    (seqS (iteS (andE (two (op2 gtD) (varE 3) (constE (.int 2))) (two (op2 ltG) (varE 4) (callE lenD (consA (varE 1) nilA)))) (setL 5 (varE 4) (callM 2 m_ulawunearurequest [] (consA (varE 0) (consA (two (op2 getD) (varE 1) (varE 4)) (consA (varE 2) nilA))))) skipS)
    (retS (varE 5)))))))))
def m_ulawunearutalk : List SV → Option FR := defM 3 3 b_ulawunearutalk
theorem ok_ulawunearutalk {P : Program} {w : World} {K : PySem.W.Frag} {mg : Str → Option Value} {base : Heap} {f : Addr} {fd : FuncData} (F : Fun K "_law_near_talk" "_law_near_talk" s_ulawunearutalk f fd) (z_len : mg "len" = none) (z_list : mg "list" = none) (c_ulawutake : Def P w K mg base 1 "_law_take" 2 m_ulawutake []) (c_ulawurequest : Def P w K mg base 5 "_law_request" 2 m_ulawurequest []) (c_ulawunearurequest : Def P w K mg base 6 "_law_near_request" 3 m_ulawunearurequest []) : FnOk P w K mg base CX0 7 f fd ["kinds", "talk", "stream"] (spD K 3 m_ulawunearutalk) :=
  fnd (k := 6) (n := 3) F sc_ulawunearutalk rfl fun cdv A outer s H E hr =>
    (pss_dcons (ps_dset (i := 3) sc_ulawunearutalk.nd rfl (.inl rfl) (pd_callMN 0 c_ulawutake hr (by decide) (pa_dcons (pd_var (pv 2)) (pa_dcons pd_int pa_dnil))))
    (pss_dcons (ps_dset (i := 4) sc_ulawunearutalk.nd rfl (.inl rfl) (pd_callMN 0 c_ulawutake hr (by decide) (pa_dcons (pd_var (pv 2)) (pa_dcons (pd_add (pd_callB cr_len snd_len z_len rfl (pa_dcons (pd_var (pv 1)) pa_dnil)) pd_int) pa_dnil))))
    (pss_dcons (ps_dset (i := 5) sc_ulawunearutalk.nd rfl (.inl rfl) (pd_callTy cr_list snd_list z_list rfl (pa_dcons (pd_var (pv 1)) pa_dnil)))
    (pss_dcons (ps_dif (pt_eqd hr.units (pd_var (pv 3)) pd_int) (pss_done (ps_dexpr (pd_append (pd_var (pv 5)) (pa_dcons (pd_callMN 1 c_ulawurequest hr (by decide) (pa_dcons (pd_var (pv 0)) (pa_dcons (pd_var (pv 2)) pa_dnil))) pa_dnil)))) pss_dnil)
    (pss_dcons (ps_dif (pt_eqd hr.units (pd_var (pv 3)) pd_int) (pss_done (ps_dset (i := 5) sc_ulawunearutalk.nd rfl (.inl rfl) (pd_add (pd_slice (pd_var (pv 1)) po_dnone (po_dsome (pd_var (pv 4)))) (pd_slice (pd_var (pv 1)) (po_dsome (pd_add (pd_var (pv 4)) pd_int)) po_dnone)))) pss_dnil)
    (pss_dcons (ps_dif ((pw_dand (pt_eqd hr.units (pd_var (pv 3)) pd_int) (pw_dand1 (pt_ltg hr.units (pd_var (pv 4)) (pd_callB cr_len snd_len z_len rfl (pa_dcons (pd_var (pv 1)) pa_dnil)))))).pt (pss_done (ps_dsetL (pd_callMN 1 c_ulawurequest hr (by decide) (pa_dcons (pd_var (pv 0)) (pa_dcons (pd_var (pv 2)) pa_dnil))) (pg_sub (pd_var (pv 5)) (pd_var (pv 4)) set_list))) pss_dnil)
    (pss_dcons (ps_dif ((pw_dand (pt_gtd (pd_var (pv 3)) pd_int) (pw_dand1 (pt_ltg hr.units (pd_var (pv 4)) (pd_callB cr_len snd_len z_len rfl (pa_dcons (pd_var (pv 1)) pa_dnil)))))).pt (pss_done (ps_dsetL (pd_callMN 2 c_ulawunearurequest hr (by decide) (pa_dcons (pd_var (pv 0)) (pa_dcons (pd_get (pd_var (pv 1)) (pd_var (pv 4))) (pa_dcons (pd_var (pv 2)) pa_dnil)))) (pg_sub (pd_var (pv 5)) (pd_var (pv 4)) set_list))) pss_dnil)
    (pss_done (ps_dret (pd_var (pv 5)))))))))))
/-! ### _law_before -/
abbrev s_ulawubefore : Stmt := topS 28
theorem sc_ulawubefore : FnScope ["one", "other", "k", "letters"] ["one", "other"] (defScope s_ulawubefore) := ⟨rfl, rfl, rfl, by decide +kernel, rfl, by decide +kernel, by decide +kernel⟩
def l_ulawubefore_1 : SS :=
    (iteS (two (op2 neD) (two (op2 getD) (varE 0) (varE 2)) (two (op2 getD) (varE 1) (varE 2))) (seqS (asgS 3 (constE (.str [97, 98, 99, 100, 101, 102, 103, 104, 105, 106, 107, 108, 109, 110, 111, 112, 113, 114, 115, 116, 117, 118, 119, 120, 121, 122])))
    (retS (two (op2 ltG) (metE "str" (textM indexL) (varE 3) (consA (two (op2 getD) (varE 0) (varE 2)) nilA)) (metE "str" (textM indexL) (varE 3) (consA (two (op2 getD) (varE 1) (varE 2)) nilA))))) skipS)
def b_ulawubefore : SS :=
    (seqS (iteS (two (op2 neD) (isiE "str" (varE 0)) (isiE "str" (varE 1))) (retS (isiE "str" (varE 0))) skipS)
    (seqS (iteS (isiE "str" (varE 0)) (seqS (iteS (two (op2 neD) (callE lenD (consA (varE 0) nilA)) (callE lenD (consA (varE 1) nilA))) (retS (two (op2 ltG) (callE lenD (consA (varE 0) nilA)) (callE lenD (consA (varE 1) nilA)))) skipS)
    (seqS (forS (argsI rng1 (consA (callE lenD (consA (varE 0) nilA)) nilA)) (.nm 2) l_ulawubefore_1)
    (retS (constE (.bl false))))) skipS)
    (seqS (iteS (two (op2 neD) (two (op2 ltG) (varE 0) (constE (.int 0))) (two (op2 ltG) (varE 1) (constE (.int 0)))) (retS (two (op2 ltG) (varE 0) (constE (.int 0)))) skipS)
    (seqS (iteS (two (op2 ltG) (varE 0) (constE (.int 0))) (retS (two (op2 ltG) (varE 1) (varE 0))) skipS)
    (retS (two (op2 ltG) (varE 0) (varE 1)))))))
def m_ulawubefore : List SV → Option FR := defM 2 2 b_ulawubefore
theorem ok_ulawubefore {P : Program} {w : World} {K : PySem.W.Frag} {mg : Str → Option Value} {base : Heap} {f : Addr} {fd : FuncData} (F : Fun K "_law_before" "_law_before" s_ulawubefore f fd) (z_isinstance : mg "isinstance" = none) (z_len : mg "len" = none) (z_range : mg "range" = none) (z_str : mg "str" = none) : FnOk P w K mg base CX0 1 f fd ["one", "other"] (spD K 2 m_ulawubefore) :=
  fnd (k := 0) (n := 2) F sc_ulawubefore rfl fun cdv A outer s H E hr =>
    (pss_dcons (ps_dif (pt_ned hr.units (pd_isi (n := "str") (by decide) z_isinstance z_str rfl (pd_var (pv 0))) (pd_isi (n := "str") (by decide) z_isinstance z_str rfl (pd_var (pv 1)))) (pss_done (ps_dret (pd_isi (n := "str") (by decide) z_isinstance z_str rfl (pd_var (pv 0))))) pss_dnil)
    (pss_dcons (ps_dif (pt_d (pd_isi (n := "str") (by decide) z_isinstance z_str rfl (pd_var (pv 0)))) (pss_dcons (ps_dif (pt_ned hr.units (pd_callB cr_len snd_len z_len rfl (pa_dcons (pd_var (pv 0)) pa_dnil)) (pd_callB cr_len snd_len z_len rfl (pa_dcons (pd_var (pv 1)) pa_dnil))) (pss_done (ps_dret (pd_ltg hr.units (pd_callB cr_len snd_len z_len rfl (pa_dcons (pd_var (pv 0)) pa_dnil)) (pd_callB cr_len snd_len z_len rfl (pa_dcons (pd_var (pv 1)) pa_dnil))))) pss_dnil)
    (pss_dcons (ps_dfor PassesOwn.never rfl (pi_drange1 z_range (pa_dcons (pd_callB cr_len snd_len z_len rfl (pa_dcons (pd_var (pv 0)) pa_dnil)) pa_dnil)) (pg_dnm sc_ulawubefore.nd rfl (.inl rfl)) (pss_done (ps_dif (pt_ned hr.units (pd_get (pd_var (pv 0)) (pd_var (pv 2))) (pd_get (pd_var (pv 1)) (pd_var (pv 2)))) (pss_dcons (ps_dset (i := 3) sc_ulawubefore.nd rfl (.inl rfl) (pd_str [97, 98, 99, 100, 101, 102, 103, 104, 105, 106, 107, 108, 109, 110, 111, 112, 113, 114, 115, 116, 117, 118, 119, 120, 121, 122] (by rfl)))
    (pss_done (ps_dret (pd_ltg hr.units (pd_met (.inl rfl) PySem.F.plainAttrs_str PySem.F.slot_str_index PySem.F.type_str_index mt_sindex snd_index (pd_var (pv 3)) (pa_dcons (pd_get (pd_var (pv 0)) (pd_var (pv 2))) pa_dnil)) (pd_met (.inl rfl) PySem.F.plainAttrs_str PySem.F.slot_str_index PySem.F.type_str_index mt_sindex snd_index (pd_var (pv 3)) (pa_dcons (pd_get (pd_var (pv 1)) (pd_var (pv 2))) pa_dnil)))))) pss_dnil)))
    (pss_done (ps_dret pd_bl)))) pss_dnil)
    (pss_dcons (ps_dif (pt_ned hr.units (pd_ltg hr.units (pd_var (pv 0)) pd_int) (pd_ltg hr.units (pd_var (pv 1)) pd_int)) (pss_done (ps_dret (pd_ltg hr.units (pd_var (pv 0)) pd_int))) pss_dnil)
    (pss_dcons (ps_dif (pt_ltg hr.units (pd_var (pv 0)) pd_int) (pss_done (ps_dret (pd_ltg hr.units (pd_var (pv 1)) (pd_var (pv 0))))) pss_dnil)
    (pss_done (ps_dret (pd_ltg hr.units (pd_var (pv 0)) (pd_var (pv 1)))))))))
/-! ### _law_sign -/
abbrev s_ulawusign : Stmt := topS 29
theorem sc_ulawusign : FnScope ["before", "after"] ["before", "after"] (defScope s_ulawusign) := ⟨rfl, rfl, rfl, by decide +kernel, rfl, by decide +kernel, by decide +kernel⟩
def b_ulawusign : SS :=
    (seqS (iteS (varE 0) (retS (oneE negD (constE (.int 1)))) skipS)
    (seqS (iteS (varE 1) (retS (constE (.int 1))) skipS)
    (retS (constE (.int 0)))))
def m_ulawusign : List SV → Option FR := defM 2 0 b_ulawusign
theorem ok_ulawusign {P : Program} {w : World} {K : PySem.W.Frag} {mg : Str → Option Value} {base : Heap} {f : Addr} {fd : FuncData} (F : Fun K "_law_sign" "_law_sign" s_ulawusign f fd)  : FnOk P w K mg base CX0 1 f fd ["before", "after"] (spD K 2 m_ulawusign) :=
  fnd (k := 0) (n := 0) F sc_ulawusign rfl fun cdv A outer s H E hr =>
    (pss_dcons (ps_dif (pt_d (pd_var (pv 0))) (pss_done (ps_dret (pd_neg pd_int))) pss_dnil)
    (pss_dcons (ps_dif (pt_d (pd_var (pv 1))) (pss_done (ps_dret pd_int)) pss_dnil)
    (pss_done (ps_dret pd_int))))
/-! ### _law_is_integer -/
abbrev s_ulawuisuinteger : Stmt := topS 30
theorem sc_ulawuisuinteger : FnScope ["actual", "expected"] ["actual", "expected"] (defScope s_ulawuisuinteger) := ⟨rfl, rfl, rfl, by decide +kernel, rfl, by decide +kernel, by decide +kernel⟩
def b_ulawuisuinteger : SS :=
    (retS (andE (isiE "int" (varE 0)) (andE (notE (isiE "bool" (varE 0))) (two (op2 eqD) (varE 0) (varE 1)))))
def m_ulawuisuinteger : List SV → Option FR := defM 2 0 b_ulawuisuinteger
theorem ok_ulawuisuinteger {P : Program} {w : World} {K : PySem.W.Frag} {mg : Str → Option Value} {base : Heap} {f : Addr} {fd : FuncData} (F : Fun K "_law_is_integer" "_law_is_integer" s_ulawuisuinteger f fd) (z_bool : mg "bool" = none) (z_int : mg "int" = none) (z_isinstance : mg "isinstance" = none) : FnOk P w K mg base CX0 1 f fd ["actual", "expected"] (spD K 2 m_ulawuisuinteger) :=
  fnd (k := 0) (n := 0) F sc_ulawuisuinteger rfl fun cdv A outer s H E hr =>
    (pss_done (ps_dret (Dw.pd_and (pd_isi (n := "int") (by decide) z_isinstance z_int rfl (pd_var (pv 0))) (Dw.pd_and (Dw.pd_not (pd_isi (n := "bool") (by decide) z_isinstance z_bool rfl (pd_var (pv 0)))) (Dw.pd_one (pd_eq hr.units (pd_var (pv 0)) (pd_var (pv 1))))))))
/-! ### _law_number -/
abbrev s_ulawunumber : Stmt := topS 31
theorem sc_ulawunumber : FnScope ["kinds", "request", "k"] ["kinds", "request"] (defScope s_ulawunumber) := ⟨rfl, rfl, rfl, by decide +kernel, rfl, by decide +kernel, by decide +kernel⟩
def l_ulawunumber_1 : SS :=
    (iteS (two (op2 eqD) (two (op2 getD) (two (op2 getD) (varE 0) (varE 2)) (constE (.int 0))) (two (op2 getD) (varE 1) (constE (.int 1)))) (retS (varE 2)) skipS)
def b_ulawunumber : SS :=
    (seqS (iteS (two (op2 eqD) (two (op2 getD) (varE 1) (constE (.int 0))) (constE (.str [110, 101, 119]))) (retS (constE (.int 0))) skipS)
    (seqS (forS (argsI rng1 (consA (callE lenD (consA (varE 0) nilA)) nilA)) (.nm 2) l_ulawunumber_1)
    (retS (oneE negD (constE (.int 1))))))
def m_ulawunumber : List SV → Option FR := defM 2 1 b_ulawunumber
theorem ok_ulawunumber {P : Program} {w : World} {K : PySem.W.Frag} {mg : Str → Option Value} {base : Heap} {f : Addr} {fd : FuncData} (F : Fun K "_law_number" "_law_number" s_ulawunumber f fd) (z_len : mg "len" = none) (z_range : mg "range" = none) : FnOk P w K mg base CX0 1 f fd ["kinds", "request"] (spD K 2 m_ulawunumber) :=
  fnd (k := 0) (n := 1) F sc_ulawunumber rfl fun cdv A outer s H E hr =>
    (pss_dcons (ps_dif (pt_eqd hr.units (pd_get (pd_var (pv 1)) pd_int) (pd_str [110, 101, 119] (by rfl))) (pss_done (ps_dret pd_int)) pss_dnil)
    (pss_dcons (ps_dfor PassesOwn.never rfl (pi_drange1 z_range (pa_dcons (pd_callB cr_len snd_len z_len rfl (pa_dcons (pd_var (pv 0)) pa_dnil)) pa_dnil)) (pg_dnm sc_ulawunumber.nd rfl (.inl rfl)) (pss_done (ps_dif (pt_eqd hr.units (pd_get (pd_get (pd_var (pv 0)) (pd_var (pv 2))) pd_int) (pd_get (pd_var (pv 1)) pd_int)) (pss_done (ps_dret (pd_var (pv 2)))) pss_dnil)))
    (pss_done (ps_dret (pd_neg pd_int)))))
/-! ### _law_request_before -/
abbrev s_ulawurequestubefore : Stmt := topS 32
theorem sc_ulawurequestubefore : FnScope ["kinds", "one", "other", "k"] ["kinds", "one", "other"] (defScope s_ulawurequestubefore) := ⟨rfl, rfl, rfl, by decide +kernel, rfl, by decide +kernel, by decide +kernel⟩
def l_ulawurequestubefore_1 : SS :=
    (iteS (two (op2 neD) (two (op2 getD) (varE 1) (varE 3)) (two (op2 getD) (varE 2) (varE 3))) (retS (callD m_ulawubefore [] (consA (two (op2 getD) (varE 1) (varE 3)) (consA (two (op2 getD) (varE 2) (varE 3)) nilA)))) skipS)
def b_ulawurequestubefore : SS :=
    (seqS (iteS (two (op2 neD) (callD m_ulawunumber [] (consA (varE 0) (consA (varE 1) nilA))) (callD m_ulawunumber [] (consA (varE 0) (consA (varE 2) nilA)))) (retS (two (op2 ltG) (callD m_ulawunumber [] (consA (varE 0) (consA (varE 1) nilA))) (callD m_ulawunumber [] (consA (varE 0) (consA (varE 2) nilA))))) skipS)
    (seqS (forS (argsI rng1 (consA (callE lenD (consA (varE 1) nilA)) nilA)) (.nm 3) l_ulawurequestubefore_1)
    (retS (constE (.bl false)))))
def m_ulawurequestubefore : List SV → Option FR := defM 3 1 b_ulawurequestubefore
theorem ok_ulawurequestubefore {P : Program} {w : World} {K : PySem.W.Frag} {mg : Str → Option Value} {base : Heap} {f : Addr} {fd : FuncData} (F : Fun K "_law_request_before" "_law_request_before" s_ulawurequestubefore f fd) (z_len : mg "len" = none) (z_range : mg "range" = none) (c_ulawunumber : Def P w K mg base 1 "_law_number" 2 m_ulawunumber []) (c_ulawubefore : Def P w K mg base 1 "_law_before" 2 m_ulawubefore []) : FnOk P w K mg base CX0 2 f fd ["kinds", "one", "other"] (spD K 3 m_ulawurequestubefore) :=
  fnd (k := 1) (n := 1) F sc_ulawurequestubefore rfl fun cdv A outer s H E hr =>
    (pss_dcons (ps_dif (pt_ned hr.units (pd_callN c_ulawunumber hr (by decide) (pa_dcons (pd_var (pv 0)) (pa_dcons (pd_var (pv 1)) pa_dnil))) (pd_callN c_ulawunumber hr (by decide) (pa_dcons (pd_var (pv 0)) (pa_dcons (pd_var (pv 2)) pa_dnil)))) (pss_done (ps_dret (pd_ltg hr.units (pd_callN c_ulawunumber hr (by decide) (pa_dcons (pd_var (pv 0)) (pa_dcons (pd_var (pv 1)) pa_dnil))) (pd_callN c_ulawunumber hr (by decide) (pa_dcons (pd_var (pv 0)) (pa_dcons (pd_var (pv 2)) pa_dnil)))))) pss_dnil)
    (pss_dcons (ps_dfor PassesOwn.never rfl (pi_drange1 z_range (pa_dcons (pd_callB cr_len snd_len z_len rfl (pa_dcons (pd_var (pv 1)) pa_dnil)) pa_dnil)) (pg_dnm sc_ulawurequestubefore.nd rfl (.inl rfl)) (pss_done (ps_dif (pt_ned hr.units (pd_get (pd_var (pv 1)) (pd_var (pv 3))) (pd_get (pd_var (pv 2)) (pd_var (pv 3)))) (pss_done (ps_dret (pd_callN c_ulawubefore hr (by decide) (pa_dcons (pd_get (pd_var (pv 1)) (pd_var (pv 3))) (pa_dcons (pd_get (pd_var (pv 2)) (pd_var (pv 3))) pa_dnil))))) pss_dnil)))
    (pss_done (ps_dret pd_bl))))
/-! ### _law_talk_before -/
abbrev s_ulawutalkubefore : Stmt := topS 33
theorem sc_ulawutalkubefore : FnScope ["kinds", "one", "other", "k"] ["kinds", "one", "other"] (defScope s_ulawutalkubefore) := ⟨rfl, rfl, rfl, by decide +kernel, rfl, by decide +kernel, by decide +kernel⟩
def l_ulawutalkubefore_1 : SS :=
    (iteS (two (op2 neD) (two (op2 getD) (varE 1) (varE 3)) (two (op2 getD) (varE 2) (varE 3))) (retS (callD m_ulawurequestubefore [] (consA (varE 0) (consA (two (op2 getD) (varE 1) (varE 3)) (consA (two (op2 getD) (varE 2) (varE 3)) nilA))))) skipS)
def b_ulawutalkubefore : SS :=
    (seqS (iteS (two (op2 neD) (callE lenD (consA (varE 1) nilA)) (callE lenD (consA (varE 2) nilA))) (retS (two (op2 ltG) (callE lenD (consA (varE 1) nilA)) (callE lenD (consA (varE 2) nilA)))) skipS)
    (seqS (forS (argsI rng1 (consA (callE lenD (consA (varE 1) nilA)) nilA)) (.nm 3) l_ulawutalkubefore_1)
    (retS (constE (.bl false)))))
def m_ulawutalkubefore : List SV → Option FR := defM 3 1 b_ulawutalkubefore
theorem ok_ulawutalkubefore {P : Program} {w : World} {K : PySem.W.Frag} {mg : Str → Option Value} {base : Heap} {f : Addr} {fd : FuncData} (F : Fun K "_law_talk_before" "_law_talk_before" s_ulawutalkubefore f fd) (z_len : mg "len" = none) (z_range : mg "range" = none) (c_ulawurequestubefore : Def P w K mg base 2 "_law_request_before" 3 m_ulawurequestubefore []) : FnOk P w K mg base CX0 3 f fd ["kinds", "one", "other"] (spD K 3 m_ulawutalkubefore) :=
  fnd (k := 2) (n := 1) F sc_ulawutalkubefore rfl fun cdv A outer s H E hr =>
    (pss_dcons (ps_dif (pt_ned hr.units (pd_callB cr_len snd_len z_len rfl (pa_dcons (pd_var (pv 1)) pa_dnil)) (pd_callB cr_len snd_len z_len rfl (pa_dcons (pd_var (pv 2)) pa_dnil))) (pss_done (ps_dret (pd_ltg hr.units (pd_callB cr_len snd_len z_len rfl (pa_dcons (pd_var (pv 1)) pa_dnil)) (pd_callB cr_len snd_len z_len rfl (pa_dcons (pd_var (pv 2)) pa_dnil))))) pss_dnil)
    (pss_dcons (ps_dfor PassesOwn.never rfl (pi_drange1 z_range (pa_dcons (pd_callB cr_len snd_len z_len rfl (pa_dcons (pd_var (pv 1)) pa_dnil)) pa_dnil)) (pg_dnm sc_ulawutalkubefore.nd rfl (.inl rfl)) (pss_done (ps_dif (pt_ned hr.units (pd_get (pd_var (pv 1)) (pd_var (pv 3))) (pd_get (pd_var (pv 2)) (pd_var (pv 3)))) (pss_done (ps_dret (pd_callN c_ulawurequestubefore hr (by decide) (pa_dcons (pd_var (pv 0)) (pa_dcons (pd_get (pd_var (pv 1)) (pd_var (pv 3))) (pa_dcons (pd_get (pd_var (pv 2)) (pd_var (pv 3))) pa_dnil)))))) pss_dnil)))
    (pss_done (ps_dret pd_bl))))
/-! ### law -/
abbrev s_law : Stmt := topS 34
theorem sc_law : FnScope ["script", "stream", "kinds", "size", "first", "second", "expected", "k", "before", "after"] ["script"] (defScope s_law) := ⟨rfl, rfl, rfl, by decide +kernel, rfl, by decide +kernel, by decide +kernel⟩
def e_law_1 : SE :=
    (callM 1 m_ulawurequest [] (consA (varE 2) (consA (varE 1) nilA)))
def e_law_2 : SE :=
    (callM 1 m_ulawurequest [] (consA (varE 2) (consA (varE 1) nilA)))
def l_law_3 : SS :=
    (seqS (asgS 8 (callD m_ulawurequestubefore [] (consA (varE 2) (consA (two (op2 getD) (varE 4) (varE 7)) (consA (two (op2 getD) (varE 5) (varE 7)) nilA)))))
    (seqS (asgS 9 (callD m_ulawurequestubefore [] (consA (varE 2) (consA (two (op2 getD) (varE 5) (varE 7)) (consA (two (op2 getD) (varE 4) (varE 7)) nilA)))))
    (iteS (notE (callD m_ulawuisuinteger [] (consA (callD m_compare_requests [] (consA (varE 2) (consA (two (op2 getD) (varE 4) (varE 7)) (consA (two (op2 getD) (varE 5) (varE 7)) nilA)))) (consA (callD m_ulawusign [] (consA (varE 8) (consA (varE 9) nilA))) nilA)))) (retS (constE (.bl false))) skipS)))
def b_law : SS :=
    (seqS (asgS 1 (callD m_ulawustream [] (consA (varE 0) (consA (constE (.int 300)) nilA))))
    (seqS (asgS 2 (callM 0 m_ulawukinds [] (consA (varE 1) nilA)))
    (seqS (asgS 3 (callM 0 m_ulawutake [] (consA (varE 1) (consA (constE (.int 8)) nilA))))
    (seqS (iteS (two (op2 eqD) (callM 0 m_ulawutake [] (consA (varE 1) (consA (constE (.int 8)) nilA))) (constE (.int 3))) (asgS 3 (two (op2 addD) (varE 3) (constE (.int 40)))) skipS)
    (seqS (asgS 4 (compE [7] (argsI rng1 (consA (varE 3) nilA)) (.nm 7) none e_law_1))
    (seqS (asgS 5 (compE [7] (argsI rng1 (consA (callM 0 m_ulawutake [] (consA (varE 1) (consA (constE (.int 8)) nilA))) nilA)) (.nm 7) none e_law_2))
    (seqS (iteS (two (op2 gtD) (callM 0 m_ulawutake [] (consA (varE 1) (consA (constE (.int 4)) nilA))) (constE (.int 0))) (asgS 5 (callM 2 m_ulawunearutalk [] (consA (varE 2) (consA (varE 4) (consA (varE 1) nilA))))) skipS)
    (seqS (asgS 6 (callD m_ulawusign [] (consA (callD m_ulawutalkubefore [] (consA (varE 2) (consA (varE 4) (consA (varE 5) nilA)))) (consA (callD m_ulawutalkubefore [] (consA (varE 2) (consA (varE 5) (consA (varE 4) nilA)))) nilA))))
    (seqS (iteS (notE (callD m_ulawuisuinteger [] (consA (callD m_compare_talks [] (consA (varE 2) (consA (varE 4) (consA (varE 5) nilA)))) (consA (varE 6) nilA)))) (retS (constE (.bl false))) skipS)
    (seqS (iteS (notE (callD m_ulawuisuinteger [] (consA (callD m_compare_talks [] (consA (varE 2) (consA (varE 5) (consA (varE 4) nilA)))) (consA (oneE negD (varE 6)) nilA)))) (retS (constE (.bl false))) skipS)
    (seqS (iteS (notE (callD m_ulawuisuinteger [] (consA (callD m_compare_talks [] (consA (varE 2) (consA (varE 4) (consA (varE 4) nilA)))) (consA (constE (.int 0)) nilA)))) (retS (constE (.bl false))) skipS)
    (seqS (forS (argsI rng1 (consA (callE minC (consA (callE lenD (consA (varE 4) nilA)) (consA (callE lenD (consA (varE 5) nilA)) nilA))) nilA)) (.nm 7) l_law_3)
    (retS (constE (.bl true)))))))))))))))
def m_law : List SV → Option FR := defM 1 9 b_law
theorem ok_law {P : Program} {w : World} {K : PySem.W.Frag} {mg : Str → Option Value} {base : Heap} {f : Addr} {fd : FuncData} (F : Fun K "law" "law" s_law f fd) (z_len : mg "len" = none) (z_min : mg "min" = none) (z_range : mg "range" = none) (c_ulawustream : Def P w K mg base 2 "_law_stream" 2 m_ulawustream []) (c_ulawukinds : Def P w K mg base 3 "_law_kinds" 1 m_ulawukinds []) (c_ulawutake : Def P w K mg base 1 "_law_take" 2 m_ulawutake []) (c_ulawurequest : Def P w K mg base 5 "_law_request" 2 m_ulawurequest []) (c_ulawunearutalk : Def P w K mg base 7 "_law_near_talk" 3 m_ulawunearutalk []) (c_ulawutalkubefore : Def P w K mg base 3 "_law_talk_before" 3 m_ulawutalkubefore []) (c_ulawusign : Def P w K mg base 1 "_law_sign" 2 m_ulawusign []) (c_compare_talks : Def P w K mg base 5 "compare_talks" 3 m_compare_talks []) (c_ulawuisuinteger : Def P w K mg base 1 "_law_is_integer" 2 m_ulawuisuinteger []) (c_ulawurequestubefore : Def P w K mg base 2 "_law_request_before" 3 m_ulawurequestubefore []) (c_compare_requests : Def P w K mg base 4 "compare_requests" 3 m_compare_requests []) : FnOk P w K mg base CX0 8 f fd ["script"] (spD K 1 m_law) :=
  fnd (k := 7) (n := 9) F sc_law rfl fun cdv A outer s H E hr =>
    (pss_dcons (ps_dset (i := 1) sc_law.nd rfl (.inr rfl) (pd_callN c_ulawustream hr (by decide) (pa_dcons (pd_var (pv 0)) (pa_dcons pd_int pa_dnil))))
    (pss_dcons (ps_dset (i := 2) sc_law.nd rfl (.inr rfl) (pd_callMN 0 c_ulawukinds hr (by decide) (pa_dcons (pd_var (pv 1)) pa_dnil)))
    (pss_dcons (ps_dset (i := 3) sc_law.nd rfl (.inl rfl) (pd_callMN 0 c_ulawutake hr (by decide) (pa_dcons (pd_var (pv 1)) (pa_dcons pd_int pa_dnil))))
    (pss_dcons (ps_dif (pt_eqd hr.units (pd_callMN 0 c_ulawutake hr (by decide) (pa_dcons (pd_var (pv 1)) (pa_dcons pd_int pa_dnil))) pd_int) (pss_done (ps_dset (i := 3) sc_law.nd rfl (.inl rfl) (pd_add (pd_var (pv 3)) pd_int))) pss_dnil)
    (pss_dcons (ps_dsetComp (by rfl) sc_law.nd rfl rfl (sw_true rfl rfl rfl (by rfl)) (own := [("k", 7)]) (blk_of (N := ["script", "stream", "kinds", "size", "first", "second", "expected", "k", "before", "after"]) (sc := defScope s_law) (by decide +kernel)) (by rfl) (pi_drange1 z_range (pa_dcons (pd_var (pv 3)) pa_dnil)) (fun s H C cl fp => (pg_dnm sc_law.nd rfl (.inl rfl))) (fun s H C cl fp => pts_dnil) (fun s H C cl fp => (pd_callMN 1 c_ulawurequest hr (by decide) (pa_dcons (pd_var (pv 2)) (pa_dcons (pd_var (pv 1)) pa_dnil)))))
    (pss_dcons (ps_dsetComp (by rfl) sc_law.nd rfl rfl (sw_true rfl rfl rfl (by rfl)) (own := [("k", 7)]) (blk_of (N := ["script", "stream", "kinds", "size", "first", "second", "expected", "k", "before", "after"]) (sc := defScope s_law) (by decide +kernel)) (by rfl) (pi_drange1 z_range (pa_dcons (pd_callMN 0 c_ulawutake hr (by decide) (pa_dcons (pd_var (pv 1)) (pa_dcons pd_int pa_dnil))) pa_dnil)) (fun s H C cl fp => (pg_dnm sc_law.nd rfl (.inl rfl))) (fun s H C cl fp => pts_dnil) (fun s H C cl fp => (pd_callMN 1 c_ulawurequest hr (by decide) (pa_dcons (pd_var (pv 2)) (pa_dcons (pd_var (pv 1)) pa_dnil)))))
    (pss_dcons (ps_dif (pt_gtd (pd_callMN 0 c_ulawutake hr (by decide) (pa_dcons (pd_var (pv 1)) (pa_dcons pd_int pa_dnil))) pd_int) (pss_done (ps_dset (i := 5) sc_law.nd rfl (.inl rfl) (pd_callMN 2 c_ulawunearutalk hr (by decide) (pa_dcons (pd_var (pv 2)) (pa_dcons (pd_var (pv 4)) (pa_dcons (pd_var (pv 1)) pa_dnil)))))) pss_dnil)
    (pss_dcons (ps_dset (i := 6) sc_law.nd rfl (.inl rfl) (pd_callN c_ulawusign hr (by decide) (pa_dcons (pd_callN c_ulawutalkubefore hr (by decide) (pa_dcons (pd_var (pv 2)) (pa_dcons (pd_var (pv 4)) (pa_dcons (pd_var (pv 5)) pa_dnil)))) (pa_dcons (pd_callN c_ulawutalkubefore hr (by decide) (pa_dcons (pd_var (pv 2)) (pa_dcons (pd_var (pv 5)) (pa_dcons (pd_var (pv 4)) pa_dnil)))) pa_dnil))))
    (pss_dcons (ps_dif (pt_dnot (pt_d (pd_callN c_ulawuisuinteger hr (by decide) (pa_dcons (pd_callN c_compare_talks hr (by decide) (pa_dcons (pd_var (pv 2)) (pa_dcons (pd_var (pv 4)) (pa_dcons (pd_var (pv 5)) pa_dnil)))) (pa_dcons (pd_var (pv 6)) pa_dnil))))) (pss_done (ps_dret pd_bl)) pss_dnil)
    (pss_dcons (ps_dif (pt_dnot (pt_d (pd_callN c_ulawuisuinteger hr (by decide) (pa_dcons (pd_callN c_compare_talks hr (by decide) (pa_dcons (pd_var (pv 2)) (pa_dcons (pd_var (pv 5)) (pa_dcons (pd_var (pv 4)) pa_dnil)))) (pa_dcons (pd_neg (pd_var (pv 6))) pa_dnil))))) (pss_done (ps_dret pd_bl)) pss_dnil)
    (pss_dcons (ps_dif (pt_dnot (pt_d (pd_callN c_ulawuisuinteger hr (by decide) (pa_dcons (pd_callN c_compare_talks hr (by decide) (pa_dcons (pd_var (pv 2)) (pa_dcons (pd_var (pv 4)) (pa_dcons (pd_var (pv 4)) pa_dnil)))) (pa_dcons pd_int pa_dnil))))) (pss_done (ps_dret pd_bl)) pss_dnil)
    (pss_dcons (ps_dfor PassesOwn.never rfl (pi_drange1 z_range (pa_dcons (pd_callB (Dw.cr_min (by rfl)) snd_min z_min rfl (pa_dcons (pd_callB cr_len snd_len z_len rfl (pa_dcons (pd_var (pv 4)) pa_dnil)) (pa_dcons (pd_callB cr_len snd_len z_len rfl (pa_dcons (pd_var (pv 5)) pa_dnil)) pa_dnil))) pa_dnil)) (pg_dnm sc_law.nd rfl (.inl rfl)) (pss_dcons (ps_dset (i := 8) sc_law.nd rfl (.inl rfl) (pd_callN c_ulawurequestubefore hr (by decide) (pa_dcons (pd_var (pv 2)) (pa_dcons (pd_get (pd_var (pv 4)) (pd_var (pv 7))) (pa_dcons (pd_get (pd_var (pv 5)) (pd_var (pv 7))) pa_dnil)))))
    (pss_dcons (ps_dset (i := 9) sc_law.nd rfl (.inl rfl) (pd_callN c_ulawurequestubefore hr (by decide) (pa_dcons (pd_var (pv 2)) (pa_dcons (pd_get (pd_var (pv 5)) (pd_var (pv 7))) (pa_dcons (pd_get (pd_var (pv 4)) (pd_var (pv 7))) pa_dnil)))))
    (pss_done (ps_dif (pt_dnot (pt_d (pd_callN c_ulawuisuinteger hr (by decide) (pa_dcons (pd_callN c_compare_requests hr (by decide) (pa_dcons (pd_var (pv 2)) (pa_dcons (pd_get (pd_var (pv 4)) (pd_var (pv 7))) (pa_dcons (pd_get (pd_var (pv 5)) (pd_var (pv 7))) pa_dnil)))) (pa_dcons (pd_callN c_ulawusign hr (by decide) (pa_dcons (pd_var (pv 8)) (pa_dcons (pd_var (pv 9)) pa_dnil))) pa_dnil))))) (pss_done (ps_dret pd_bl)) pss_dnil)))))
    (pss_done (ps_dret pd_bl))))))))))))))
end
end P_talkalike_k19_order_of_talks
namespace P_talkalike_k19_order_of_talks
noncomputable section
open PySem PySem.Spec PyProof.Rows L2 Dw
abbrev dI (ns : List Int) : List D := ns.map D.int
def flat : SV → Bool
  | .own _ _ => false
  | _ => true
theorem ev_callM {env env1 env2 env3 : Sl} {fs : SA} {as : List RV} {xs : List D} {i j : Nat} {t : Bool} {c c' : C} {m : List SV → Option FR} {ds : List D} {vs outs : List SV} {a b : RV} (h1 : fs env = some (.ok as env1)) (ha : as[j]? = some (.cv i)) (h2 : frzs (as.set j (.d .non)) env1 = some (xs, env2)) (hi : env2[i]? = some (.own t c))
    (he : ((xs ++ ds).map SV.d).set j (.own true c) = vs) (h3 : m vs = some (.ok a outs)) (ho : outs[j]? = some (.own true c')) (h4 : retV a = some b) (h5 : env2.set i (.own t c') = env3) : callM j m ds fs env = some (.ok b env3) := by
  subst he h5
  unfold callM
  rw [h1, bindA_ok, ha]
  show (frzs (as.set j (.d .non)) env1).bind _ = _
  rw [h2, Option.bind_some]
  show (match env2[i]? with | some (.own b c) => _ | _ => none) = _
  rw [hi]
  show (m (((xs ++ ds).map SV.d).set j (.own true c))).bind _ = _
  rw [h3, Option.bind_some]
  show (match outs[j]? with | some (.own true c) => (retV a).map (Re.ok · (env2.set i (.own t c))) | _ => none) = _
  rw [ho]
  show (retV a).map _ = _
  rw [h4]
  rfl
/-- stream.pop(0) of nothing | of something, modulo n -/
theorem pop_ok {z : Int} {zs : List Int} : popAtU (dI (z :: zs)) [.int 0] = some (.int z, dI zs) := by
  show (if okP _ = true then _ else _) = _
  rw [if_pos (okP_iff.mpr ⟨by decide, by decide⟩)]
  have e : seqIndex? 0 (dI (z :: zs)).length = some 0 := by
    unfold seqIndex?
    simp
  rw [e]
  rfl
theorem ev_take {ls : List Int} {n : Nat} (hn : 0 < n) : ∃ ls' : List Int, ∃ v : Nat, v < n ∧ m_ulawutake [.own true (.lst (dI ls)), .d (.int n)] = some (.ok (.d (.int v)) [.own true (.lst (dI ls')), .d (.int n)]) := by
  have hc : two (op2 eqD) (callE lenD (consA (varE 0) nilA)) (constE (.int 0)) [.own true (.lst (dI ls)), .d (.int n)] = some (.ok (.d (.bl (((dI ls).length : Int) == 0))) [.own true (.lst (dI ls)), .d (.int n)]) := by repeat' (first  | with_reducible exact Dw.ty_str | with_reducible exact Dw.ty_lst | with_reducible exact Dw.lst_eq | with_reducible exact Dw.set_z | with_reducible exact Dw.ret_d | with_reducible exact Dw.ret_own | with_reducible exact Dw.mapd_nn | with_reducible exact Dw.ev_const | with_reducible exact Dw.ev_nil | with_reducible exact Dw.pk_d | with_reducible exact Dw.pk_own | with_reducible exact Dw.pks_nil | with_reducible exact Dw.frz_d | with_reducible exact Dw.frz_own | with_reducible exact Dw.frzs_nil | with_reducible exact Dw.tru_bl | with_reducible exact Dw.ev_skip | with_reducible exact Dw.len_lst | with_reducible exact Dw.len_tup | with_reducible exact Dw.eq_int | with_reducible exact Dw.ne_int | with_reducible exact Dw.eq_str | with_reducible exact Dw.ne_str | with_reducible exact Dw.eq_bl | with_reducible exact Dw.ne_bl | with_reducible exact Dw.lt_int' | with_reducible exact Dw.lt_str' | with_reducible exact Dw.le_int' | with_reducible exact Dw.gt_int' | with_reducible exact Dw.ge_int' | with_reducible exact Dw.add_int' | with_reducible exact Dw.sub_int' | with_reducible exact Dw.neg_int' | with_reducible exact Dw.ord_str | with_reducible exact Dw.int_int | with_reducible exact Dw.int_bl | with_reducible exact Dw.list_lst | with_reducible exact Dw.list_tup | with_reducible exact Dw.tup_lst | with_reducible exact Dw.tup_tup | with_reducible exact Dw.it_lst | with_reducible exact Dw.it_tup | with_reducible exact Dw.it_str | ((with_reducible apply Dw.ev_var); exact rfl) | ((with_reducible apply Dw.ev_varO); exact rfl) | ((with_reducible apply Dw.pk_cv); exact rfl) | ((with_reducible apply Dw.fs_ok); exact rfl) | ((with_reducible apply Dw.gE); exact rfl) | with_reducible apply Dw.ev_two | with_reducible apply Dw.ev_one | with_reducible apply Dw.ev_cons | with_reducible apply Dw.pks_cons | with_reducible apply Dw.ev_callE | with_reducible apply Dw.ev_isi | with_reducible apply Dw.frzs_cons | with_reducible apply Dw.ev_tup | with_reducible apply Dw.ev_lst | with_reducible apply Dw.ev_not | with_reducible apply Dw.ev_met | with_reducible apply Dw.ev_mut | with_reducible apply Dw.ev_ret | with_reducible apply Dw.ev_expr | with_reducible apply Dw.ev_asg | with_reducible apply Dw.ev_args | with_reducible apply Dw.ev_src | with_reducible apply Dw.ev_callD | with_reducible apply Dw.mapd_c | with_reducible apply Dw.mapd_d | with_reducible apply Dw.set_s | with_reducible apply Dw.st_d | with_reducible apply Dw.st_own | with_reducible apply Dw.st_cv | with_reducible apply Dw.frz_cv | ((with_reducible apply Dw.len_str); assumption) | ((with_reducible apply Dw.get_str) <;> assumption) | with_reducible assumption)
  cases ls with
  | nil => exact ⟨[], 0, hn, defM_rt (a := .d (.int 0)) _ rfl rfl (ev_seq_rt (ev_iteT hc rfl (by repeat' (first  | with_reducible exact Dw.ty_str | with_reducible exact Dw.ty_lst | with_reducible exact Dw.lst_eq | with_reducible exact Dw.set_z | with_reducible exact Dw.ret_d | with_reducible exact Dw.ret_own | with_reducible exact Dw.mapd_nn | with_reducible exact Dw.ev_const | with_reducible exact Dw.ev_nil | with_reducible exact Dw.pk_d | with_reducible exact Dw.pk_own | with_reducible exact Dw.pks_nil | with_reducible exact Dw.frz_d | with_reducible exact Dw.frz_own | with_reducible exact Dw.frzs_nil | with_reducible exact Dw.tru_bl | with_reducible exact Dw.ev_skip | with_reducible exact Dw.len_lst | with_reducible exact Dw.len_tup | with_reducible exact Dw.eq_int | with_reducible exact Dw.ne_int | with_reducible exact Dw.eq_str | with_reducible exact Dw.ne_str | with_reducible exact Dw.eq_bl | with_reducible exact Dw.ne_bl | with_reducible exact Dw.lt_int' | with_reducible exact Dw.lt_str' | with_reducible exact Dw.le_int' | with_reducible exact Dw.gt_int' | with_reducible exact Dw.ge_int' | with_reducible exact Dw.add_int' | with_reducible exact Dw.sub_int' | with_reducible exact Dw.neg_int' | with_reducible exact Dw.ord_str | with_reducible exact Dw.int_int | with_reducible exact Dw.int_bl | with_reducible exact Dw.list_lst | with_reducible exact Dw.list_tup | with_reducible exact Dw.tup_lst | with_reducible exact Dw.tup_tup | with_reducible exact Dw.it_lst | with_reducible exact Dw.it_tup | with_reducible exact Dw.it_str | ((with_reducible apply Dw.ev_var); exact rfl) | ((with_reducible apply Dw.ev_varO); exact rfl) | ((with_reducible apply Dw.pk_cv); exact rfl) | ((with_reducible apply Dw.fs_ok); exact rfl) | ((with_reducible apply Dw.gE); exact rfl) | with_reducible apply Dw.ev_two | with_reducible apply Dw.ev_one | with_reducible apply Dw.ev_cons | with_reducible apply Dw.pks_cons | with_reducible apply Dw.ev_callE | with_reducible apply Dw.ev_isi | with_reducible apply Dw.frzs_cons | with_reducible apply Dw.ev_tup | with_reducible apply Dw.ev_lst | with_reducible apply Dw.ev_not | with_reducible apply Dw.ev_met | with_reducible apply Dw.ev_mut | with_reducible apply Dw.ev_ret | with_reducible apply Dw.ev_expr | with_reducible apply Dw.ev_asg | with_reducible apply Dw.ev_args | with_reducible apply Dw.ev_src | with_reducible apply Dw.ev_callD | with_reducible apply Dw.mapd_c | with_reducible apply Dw.mapd_d | with_reducible apply Dw.set_s | with_reducible apply Dw.st_d | with_reducible apply Dw.st_own | with_reducible apply Dw.st_cv | with_reducible apply Dw.frz_cv | ((with_reducible apply Dw.len_str); assumption) | ((with_reducible apply Dw.get_str) <;> assumption) | with_reducible assumption)))) rfl rfl⟩
  | cons z zs =>
    refine ⟨zs, (z % n).toNat, ?_, ?_⟩
    · have := Int.emod_nonneg z (b := (n : Int)) (by omega)
      have := Int.emod_lt_of_pos z (b := (n : Int)) (by omega)
      omega
    · have e : (((z % n).toNat : Nat) : Int) = z % n := by
        have := Int.emod_nonneg z (b := (n : Int)) (by omega)
        omega
      rw [e]
      have m1 : modD (.int z) (.int n) = some (.d (.int (z % n))) := mod_ok (by omega)
      have hf : (((dI (z :: zs)).length : Int) == 0) = false := by simp; omega
      rw [hf] at hc
      refine defM_rt (a := .d (.int (z % n))) _ rfl rfl (env := [.own true (.lst (dI zs)), .d (.int n)]) (ev_seq2 (ev_iteF hc rfl ev_skip) ?_) rfl rfl
      have p1 : mutE popAtU (varE 0) (consA (constE (.int 0)) nilA) [.own true (.lst (dI (z :: zs))), .d (.int n)] = some (.ok (.d (.int z)) [.own true (.lst (dI zs)), .d (.int n)]) :=
        ev_mut (ev_varO rfl) rfl rfl (ev_cons ev_const ev_nil) (frzs_cons frz_d frzs_nil) rfl pop_ok rfl
      repeat' (first | with_reducible exact p1 | with_reducible exact m1 | with_reducible exact Dw.ty_str | with_reducible exact Dw.ty_lst | with_reducible exact Dw.lst_eq | with_reducible exact Dw.set_z | with_reducible exact Dw.ret_d | with_reducible exact Dw.ret_own | with_reducible exact Dw.mapd_nn | with_reducible exact Dw.ev_const | with_reducible exact Dw.ev_nil | with_reducible exact Dw.pk_d | with_reducible exact Dw.pk_own | with_reducible exact Dw.pks_nil | with_reducible exact Dw.frz_d | with_reducible exact Dw.frz_own | with_reducible exact Dw.frzs_nil | with_reducible exact Dw.tru_bl | with_reducible exact Dw.ev_skip | with_reducible exact Dw.len_lst | with_reducible exact Dw.len_tup | with_reducible exact Dw.eq_int | with_reducible exact Dw.ne_int | with_reducible exact Dw.eq_str | with_reducible exact Dw.ne_str | with_reducible exact Dw.eq_bl | with_reducible exact Dw.ne_bl | with_reducible exact Dw.lt_int' | with_reducible exact Dw.lt_str' | with_reducible exact Dw.le_int' | with_reducible exact Dw.gt_int' | with_reducible exact Dw.ge_int' | with_reducible exact Dw.add_int' | with_reducible exact Dw.sub_int' | with_reducible exact Dw.neg_int' | with_reducible exact Dw.ord_str | with_reducible exact Dw.int_int | with_reducible exact Dw.int_bl | with_reducible exact Dw.list_lst | with_reducible exact Dw.list_tup | with_reducible exact Dw.tup_lst | with_reducible exact Dw.tup_tup | with_reducible exact Dw.it_lst | with_reducible exact Dw.it_tup | with_reducible exact Dw.it_str | ((with_reducible apply Dw.ev_var); exact rfl) | ((with_reducible apply Dw.ev_varO); exact rfl) | ((with_reducible apply Dw.pk_cv); exact rfl) | ((with_reducible apply Dw.fs_ok); exact rfl) | ((with_reducible apply Dw.gE); exact rfl) | with_reducible apply Dw.ev_two | with_reducible apply Dw.ev_one | with_reducible apply Dw.ev_cons | with_reducible apply Dw.pks_cons | with_reducible apply Dw.ev_callE | with_reducible apply Dw.ev_isi | with_reducible apply Dw.frzs_cons | with_reducible apply Dw.ev_tup | with_reducible apply Dw.ev_lst | with_reducible apply Dw.ev_not | with_reducible apply Dw.ev_met | with_reducible apply Dw.ev_mut | with_reducible apply Dw.ev_ret | with_reducible apply Dw.ev_expr | with_reducible apply Dw.ev_asg | with_reducible apply Dw.ev_args | with_reducible apply Dw.ev_src | with_reducible apply Dw.ev_callD | with_reducible apply Dw.mapd_c | with_reducible apply Dw.mapd_d | with_reducible apply Dw.set_s | with_reducible apply Dw.st_d | with_reducible apply Dw.st_own | with_reducible apply Dw.st_cv | with_reducible apply Dw.frz_cv | ((with_reducible apply Dw.len_str); assumption) | ((with_reducible apply Dw.get_str) <;> assumption) | with_reducible assumption)
/-- .. as a call, the stream in slot i -/
theorem take_at {env env' : Sl} {i : Nat} {t : Bool} {ls : List Int} {n : Nat} {fb : SE} (hn : 0 < n) (hi : env[i]? = some (.own t (.lst (dI ls)))) (hb : fb env = some (.ok (.d (.int n)) env)) : ∃ ls' : List Int, ∃ v : Nat, v < n ∧ callM 0 m_ulawutake [] (consA (varE i) (consA fb nilA)) env = some (.ok (.d (.int v)) (env.set i (.own t (.lst (dI ls'))))) := by
  obtain ⟨ls', v, h1, h2⟩ := ev_take (ls := ls) hn
  exact ⟨ls', v, h1, ev_callM (as := [.cv i, .d (.int n)]) (ev_cons (ev_varO hi) (ev_cons hb ev_nil)) rfl (xs := [.non, .int n]) (frzs_cons frz_d (frzs_cons frz_d frzs_nil)) hi rfl h2 rfl rfl rfl⟩
/-- a def of the stream alone -/
theorem call_at {P : D → Prop} {m : List SV → Option FR} (h : ∀ ls : List Int, ∃ ls' : List Int, ∃ x, P x ∧ m [.own true (.lst (dI ls))] = some (.ok (.d x) [.own true (.lst (dI ls'))])) {env : Sl} {i : Nat} {t : Bool} {ls : List Int} (hi : env[i]? = some (.own t (.lst (dI ls)))) :
    ∃ ls' : List Int, ∃ x, P x ∧ callM 0 m [] (consA (varE i) nilA) env = some (.ok (.d x) (env.set i (.own t (.lst (dI ls'))))) := by
  obtain ⟨ls', x, h1, h2⟩ := h ls
  exact ⟨ls', x, h1, ev_callM (as := [.cv i]) (ev_cons (ev_varO hi) ev_nil) rfl (xs := [.non]) (frzs_cons frz_d frzs_nil) hi rfl h2 rfl rfl rfl⟩
def letters : List Nat := [97, 98, 99, 100, 101, 102, 103, 104, 105, 106, 107, 108, 109, 110, 111, 112, 113, 114, 115, 116, 117, 118, 119, 120, 121, 122]
theorem letters_at : ∀ k : Fin 26, letters[k.val]? = some (97 + k.val) := by decide
theorem get_letter {v : Nat} (h : v < 26) : getD (.str [97, 98, 99, 100, 101, 102, 103, 104, 105, 106, 107, 108, 109, 110, 111, 112, 113, 114, 115, 116, 117, 118, 119, 120, 121, 122]) (.int v) = some (.d (.str [97 + v])) := by
  have := letters_at ⟨v, h⟩
  unfold letters at this
  exact Dw.get_str (by decide) (L2.atI_nat this)
def okL (x : List Nat) : Prop := x.length ≤ 100 ∧ ∀ c ∈ x, 97 ≤ c ∧ c < 123
theorem okL.len {x : List Nat} (h : okL x) : x.length ≤ sizeLine := Nat.le_trans h.1 (by decide)
def isLet (x : D) : Prop := ∃ c, x = .str [c] ∧ 97 ≤ c ∧ c < 123
theorem ev_letter (ls : List Int) : ∃ ls' : List Int, ∃ x, isLet x ∧ m_ulawuletter [.own true (.lst (dI ls))] = some (.ok (.d x) [.own true (.lst (dI ls'))]) := by
  obtain ⟨ls', v, h1, h2⟩ := take_at (env := [.own true (.lst (dI ls))]) (env' := []) (i := 0) (n := 26) (fb := constE (.int 26)) (by decide) rfl ev_const
  have g := get_letter h1
  refine ⟨ls', .str [97 + v], ⟨97 + v, rfl, by omega, by omega⟩, defM_rt (a := .d (.str [97 + v])) _ rfl rfl (env := [.own true (.lst (dI ls'))]) (ev_ret ?_) rfl rfl⟩
  have h2' : callM 0 m_ulawutake [] (consA (varE 0) (consA (constE (.int 26)) nilA)) ([.own true (.lst (dI ls))] ++ List.replicate 0 .un) = some (.ok (.d (.int v)) [.own true (.lst (dI ls'))]) := h2
  repeat' (first | with_reducible exact h2' | with_reducible exact g | with_reducible exact Dw.ty_str | with_reducible exact Dw.ty_lst | with_reducible exact Dw.lst_eq | with_reducible exact Dw.set_z | with_reducible exact Dw.ret_d | with_reducible exact Dw.ret_own | with_reducible exact Dw.mapd_nn | with_reducible exact Dw.ev_const | with_reducible exact Dw.ev_nil | with_reducible exact Dw.pk_d | with_reducible exact Dw.pk_own | with_reducible exact Dw.pks_nil | with_reducible exact Dw.frz_d | with_reducible exact Dw.frz_own | with_reducible exact Dw.frzs_nil | with_reducible exact Dw.tru_bl | with_reducible exact Dw.ev_skip | with_reducible exact Dw.len_lst | with_reducible exact Dw.len_tup | with_reducible exact Dw.eq_int | with_reducible exact Dw.ne_int | with_reducible exact Dw.eq_str | with_reducible exact Dw.ne_str | with_reducible exact Dw.eq_bl | with_reducible exact Dw.ne_bl | with_reducible exact Dw.lt_int' | with_reducible exact Dw.lt_str' | with_reducible exact Dw.le_int' | with_reducible exact Dw.gt_int' | with_reducible exact Dw.ge_int' | with_reducible exact Dw.add_int' | with_reducible exact Dw.sub_int' | with_reducible exact Dw.neg_int' | with_reducible exact Dw.ord_str | with_reducible exact Dw.int_int | with_reducible exact Dw.int_bl | with_reducible exact Dw.list_lst | with_reducible exact Dw.list_tup | with_reducible exact Dw.tup_lst | with_reducible exact Dw.tup_tup | with_reducible exact Dw.it_lst | with_reducible exact Dw.it_tup | with_reducible exact Dw.it_str | ((with_reducible apply Dw.ev_var); exact rfl) | ((with_reducible apply Dw.ev_varO); exact rfl) | ((with_reducible apply Dw.pk_cv); exact rfl) | ((with_reducible apply Dw.fs_ok); exact rfl) | ((with_reducible apply Dw.gE); exact rfl) | with_reducible apply Dw.ev_two | with_reducible apply Dw.ev_one | with_reducible apply Dw.ev_cons | with_reducible apply Dw.pks_cons | with_reducible apply Dw.ev_callE | with_reducible apply Dw.ev_isi | with_reducible apply Dw.frzs_cons | with_reducible apply Dw.ev_tup | with_reducible apply Dw.ev_lst | with_reducible apply Dw.ev_not | with_reducible apply Dw.ev_met | with_reducible apply Dw.ev_mut | with_reducible apply Dw.ev_ret | with_reducible apply Dw.ev_expr | with_reducible apply Dw.ev_asg | with_reducible apply Dw.ev_args | with_reducible apply Dw.ev_src | with_reducible apply Dw.ev_callD | with_reducible apply Dw.mapd_c | with_reducible apply Dw.mapd_d | with_reducible apply Dw.set_s | with_reducible apply Dw.st_d | with_reducible apply Dw.st_own | with_reducible apply Dw.st_cv | with_reducible apply Dw.frz_cv | ((with_reducible apply Dw.len_str); assumption) | ((with_reducible apply Dw.get_str) <;> assumption) | with_reducible assumption)
theorem txts_chr (xs : List Nat) : txts (xs.map fun c => .str [c]) = some (xs.map fun c => [c]) := by
  induction xs with
  | nil => rfl
  | cons c xs ih => rw [List.map_cons, txts, ih]; rfl
theorem joinL_nil : ∀ (ys : List (List Nat)), TL.joinL [] ys = ys.flatten
  | [] => rfl
  | [y] => by simp [TL.joinL]
  | y :: z :: r => by
    rw [TL.joinL, joinL_nil (z :: r)]
    rfl
theorem flat_chr (xs : List Nat) : (xs.map fun c => [c]).flatten = xs := by
  induction xs with
  | nil => rfl
  | cons c xs ih => rw [List.map_cons, List.flatten_cons, ih]; rfl
theorem sum_chr (xs : List Nat) : ((xs.map fun c => [c]).map (·.length)).sum = xs.length := by
  induction xs with
  | nil => rfl
  | cons c xs ih => rw [List.map_cons, List.map_cons, List.sum_cons, ih, List.length_cons]; simp; omega
theorem join_chr {xs : List Nat} (h : xs.length ≤ 1000) : joinD (.str []) [.lst (xs.map fun c => .str [c])] = some (.d (.str xs)) := by
  simp only [joinD]
  rw [txts_chr, Option.bind_some, joinL_nil, flat_chr, if_pos (by rw [sum_chr]; simp; omega)]
theorem comp1 {a b : SV} {c : Nat} : ∀ (ks : List Nat) (acc : List D), acc.length + ks.length ≤ 100000 → compD [3] (.nm 3) none e_ulawutext_1 (ks.map fun i => .int (i : Nat)) acc [a, b, .d (.str [c]), .un] = some (acc ++ (ks.map fun _ => c).map fun c => .str [c], [a, b, .d (.str [c]), .un])
  | [], acc, _ => by simp [compD]
  | k :: ks, acc, hl => by
    rw [List.length_cons] at hl
    have ih := comp1 (a := a) (b := b) (c := c) ks (acc ++ [.str [c]]) (by simp; omega)
    have hc : acc.length < 100000 := by omega
    rw [List.map_cons, compD]
    simp only [putT, setSlot, List.getElem?_cons_succ, List.getElem?_cons_zero, freeSlot, if_true, Option.bind_some, List.set_cons_succ, List.set_cons_zero, bindTD, eltD]
    rw [show e_ulawutext_1 [a, b, .d (.str [c]), .d (.int k)] = some (.ok (.d (.str [c])) [a, b, .d (.str [c]), .d (.int k)]) from ev_var rfl]
    simp only [frz, Option.bind_some]
    rw [if_pos hc]
    simp only [clr, List.set_cons_succ, List.set_cons_zero]
    rw [ih, List.append_assoc]
    rfl
theorem comp2 {b c : SV} : ∀ (ks : List Nat) (ls : List Int) (acc : List D), acc.length + ks.length ≤ 100000 → ∃ ls' : List Int, ∃ xs : List Nat, xs.length = ks.length ∧ (∀ z ∈ xs, 97 ≤ z ∧ z < 123) ∧
    compD [3] (.nm 3) none e_ulawutext_2 (ks.map fun i => .int (i : Nat)) acc [.own true (.lst (dI ls)), b, c, .un] = some (acc ++ xs.map fun c => .str [c], [.own true (.lst (dI ls')), b, c, .un])
  | [], ls, acc, _ => ⟨ls, [], rfl, by simp, by simp [compD]⟩
  | k :: ks, ls, acc, hl => by
    rw [List.length_cons] at hl
    obtain ⟨l1, x, ⟨z, rfl, z1, z2⟩, h2⟩ := call_at (P := isLet) ev_letter (env := [.own true (.lst (dI ls)), b, c, .d (.int k)]) (i := 0) rfl
    obtain ⟨ls', xs, a1, a2, a3⟩ := comp2 (b := b) (c := c) ks l1 (acc ++ [.str [z]]) (by simp; omega)
    have hc : acc.length < 100000 := by omega
    refine ⟨ls', z :: xs, by simp [a1], fun y hy => ?_, ?_⟩
    · rcases List.mem_cons.mp hy with rfl | hy
      · exact ⟨z1, z2⟩
      · exact a2 y hy
    · rw [List.map_cons, compD]
      simp only [putT, setSlot, List.getElem?_cons_succ, List.getElem?_cons_zero, freeSlot, if_true, Option.bind_some, List.set_cons_succ, List.set_cons_zero, bindTD, eltD]
      rw [show e_ulawutext_2 [.own true (.lst (dI ls)), b, c, .d (.int k)] = some (.ok (.d (.str [z])) [.own true (.lst (dI l1)), b, c, .d (.int k)]) from h2]
      simp only [frz, Option.bind_some]
      rw [if_pos hc]
      simp only [clr, List.set_cons_succ, List.set_cons_zero]
      rw [a3, List.append_assoc]
      rfl
def isTxt (n : Nat) (x : D) : Prop := ∃ s : List Nat, x = .str s ∧ s.length ≤ n ∧ ∀ c ∈ s, 97 ≤ c ∧ c < 123
theorem ev_text (ls : List Int) : ∃ ls' : List Int, ∃ x, isTxt 36 x ∧ m_ulawutext [.own true (.lst (dI ls))] = some (.ok (.d x) [.own true (.lst (dI ls'))]) := by
  obtain ⟨l1, v1, b1, t1⟩ := take_at (env := [.own true (.lst (dI ls)), .un, .un, .un]) (env' := []) (i := 0) (n := 6) (fb := constE (.int 6)) (by decide) rfl ev_const
  obtain ⟨l2, v2, b2, t2⟩ := take_at (env := [.own true (.lst (dI l1)), .d (.int v1), .un, .un]) (env' := []) (i := 0) (n := 12) (fb := constE (.int 12)) (by decide) rfl ev_const
  have s1 : asgS 1 (callM 0 m_ulawutake [] (consA (varE 0) (consA (constE (.int 6)) nilA))) [.own true (.lst (dI ls)), .un, .un, .un] = some (.nx [.own true (.lst (dI l1)), .d (.int v1), .un, .un]) := ev_asg t1 (st_d rfl rfl)
  have c2 : two (op2 eqD) (callM 0 m_ulawutake [] (consA (varE 0) (consA (constE (.int 12)) nilA))) (constE (.int 5)) [.own true (.lst (dI l1)), .d (.int v1), .un, .un] = some (.ok (.d (.bl ((v2 : Int) == 5))) [.own true (.lst (dI l2)), .d (.int v1), .un, .un]) := ev_two t2 ev_const pk_d pk_d Dw.eq_int
  have s2 : ∃ n : Nat, n ≤ 36 ∧ iteS (two (op2 eqD) (callM 0 m_ulawutake [] (consA (varE 0) (consA (constE (.int 12)) nilA))) (constE (.int 5))) (asgS 1 (two (op2 addD) (varE 1) (constE (.int 30)))) skipS [.own true (.lst (dI l1)), .d (.int v1), .un, .un] = some (.nx [.own true (.lst (dI l2)), .d (.int n), .un, .un]) := by
    cases hb : (v2 : Int) == 5 with
    | true =>
      rw [hb] at c2
      refine ⟨v1 + 30, by omega, ev_iteT c2 rfl ?_⟩
      rw [show ((v1 + 30 : Nat) : Int) = (v1 : Int) + 30 by omega]
      repeat' (first  | with_reducible exact Dw.ty_str | with_reducible exact Dw.ty_lst | with_reducible exact Dw.lst_eq | with_reducible exact Dw.set_z | with_reducible exact Dw.ret_d | with_reducible exact Dw.ret_own | with_reducible exact Dw.mapd_nn | with_reducible exact Dw.ev_const | with_reducible exact Dw.ev_nil | with_reducible exact Dw.pk_d | with_reducible exact Dw.pk_own | with_reducible exact Dw.pks_nil | with_reducible exact Dw.frz_d | with_reducible exact Dw.frz_own | with_reducible exact Dw.frzs_nil | with_reducible exact Dw.tru_bl | with_reducible exact Dw.ev_skip | with_reducible exact Dw.len_lst | with_reducible exact Dw.len_tup | with_reducible exact Dw.eq_int | with_reducible exact Dw.ne_int | with_reducible exact Dw.eq_str | with_reducible exact Dw.ne_str | with_reducible exact Dw.eq_bl | with_reducible exact Dw.ne_bl | with_reducible exact Dw.lt_int' | with_reducible exact Dw.lt_str' | with_reducible exact Dw.le_int' | with_reducible exact Dw.gt_int' | with_reducible exact Dw.ge_int' | with_reducible exact Dw.add_int' | with_reducible exact Dw.sub_int' | with_reducible exact Dw.neg_int' | with_reducible exact Dw.ord_str | with_reducible exact Dw.int_int | with_reducible exact Dw.int_bl | with_reducible exact Dw.list_lst | with_reducible exact Dw.list_tup | with_reducible exact Dw.tup_lst | with_reducible exact Dw.tup_tup | with_reducible exact Dw.it_lst | with_reducible exact Dw.it_tup | with_reducible exact Dw.it_str | ((with_reducible apply Dw.ev_var); exact rfl) | ((with_reducible apply Dw.ev_varO); exact rfl) | ((with_reducible apply Dw.pk_cv); exact rfl) | ((with_reducible apply Dw.fs_ok); exact rfl) | ((with_reducible apply Dw.gE); exact rfl) | with_reducible apply Dw.ev_two | with_reducible apply Dw.ev_one | with_reducible apply Dw.ev_cons | with_reducible apply Dw.pks_cons | with_reducible apply Dw.ev_callE | with_reducible apply Dw.ev_isi | with_reducible apply Dw.frzs_cons | with_reducible apply Dw.ev_tup | with_reducible apply Dw.ev_lst | with_reducible apply Dw.ev_not | with_reducible apply Dw.ev_met | with_reducible apply Dw.ev_mut | with_reducible apply Dw.ev_ret | with_reducible apply Dw.ev_expr | with_reducible apply Dw.ev_asg | with_reducible apply Dw.ev_args | with_reducible apply Dw.ev_src | with_reducible apply Dw.ev_callD | with_reducible apply Dw.mapd_c | with_reducible apply Dw.mapd_d | with_reducible apply Dw.set_s | with_reducible apply Dw.st_d | with_reducible apply Dw.st_own | with_reducible apply Dw.st_cv | with_reducible apply Dw.frz_cv | ((with_reducible apply Dw.len_str); assumption) | ((with_reducible apply Dw.get_str) <;> assumption) | with_reducible assumption)
    | false => rw [hb] at c2; exact ⟨v1, by omega, ev_iteF c2 rfl ev_skip⟩
  obtain ⟨n, hn, s2⟩ := s2
  obtain ⟨l3, v3, b3, t3⟩ := take_at (env := [.own true (.lst (dI l2)), .d (.int n), .un, .un]) (env' := []) (i := 0) (n := 3) (fb := constE (.int 3)) (by decide) rfl ev_const
  have c3 : two (op2 eqD) (callM 0 m_ulawutake [] (consA (varE 0) (consA (constE (.int 3)) nilA))) (constE (.int 1)) [.own true (.lst (dI l2)), .d (.int n), .un, .un] = some (.ok (.d (.bl ((v3 : Int) == 1))) [.own true (.lst (dI l3)), .d (.int n), .un, .un]) := ev_two t3 ev_const pk_d pk_d Dw.eq_int
  have rg : ∀ s2 : SV, ∀ l : List Int, argsI rng1 (consA (varE 1) nilA) [.own true (.lst (dI l)), .d (.int n), s2, .un] = some (.ok ((List.range n).map fun i => .int (i : Nat)) [.own true (.lst (dI l)), .d (.int n), s2, .un]) := fun s2 l => ev_args (as := [.d (.int n)]) (ev_cons (ev_var rfl) ev_nil) rfl (rng1_nat (by omega))
  cases hb : (v3 : Int) == 1 with
  | true =>
    rw [hb] at c3
    obtain ⟨l4, x, ⟨z, rfl, z1, z2⟩, h4⟩ := call_at (P := isLet) ev_letter (env := [.own true (.lst (dI l3)), .d (.int n), .un, .un]) (i := 0) rfl
    have s3 : asgS 2 (callM 0 m_ulawuletter [] (consA (varE 0) nilA)) [.own true (.lst (dI l3)), .d (.int n), .un, .un] = some (.nx [.own true (.lst (dI l4)), .d (.int n), .d (.str [z]), .un]) := ev_asg h4 (st_d rfl rfl)
    have cp := comp1 (a := .own true (.lst (dI l4))) (b := .d (.int n)) (c := z) (List.range n) [] (by simp; omega)
    rw [List.nil_append] at cp
    generalize hxs : ((List.range n).map fun _ => z) = xs at cp
    have xl : xs.length = n := by rw [← hxs]; simp
    have xg : ∀ c ∈ xs, 97 ≤ c ∧ c < 123 := fun c hc => by
      rw [← hxs] at hc
      obtain ⟨_, _, rfl⟩ := List.mem_map.mp hc
      exact ⟨z1, z2⟩
    have e1 : compE [3] (argsI rng1 (consA (varE 1) nilA)) (.nm 3) none e_ulawutext_1 [.own true (.lst (dI l4)), .d (.int n), .d (.str [z]), .un] = some (.ok (.own (.lst (xs.map fun c => .str [c]))) [.own true (.lst (dI l4)), .d (.int n), .d (.str [z]), .un]) := by
      unfold compE
      rw [rg]
      simp only [clr, List.set_cons_succ, List.set_cons_zero]
      rw [cp]
      rfl
    have j1 := join_chr (xs := xs) (by omega)
    refine ⟨l4, .str xs, ⟨xs, rfl, by omega, xg⟩, defM_rt (a := .d (.str xs)) _ rfl rfl (env := [.own true (.lst (dI l4)), .d (.int n), .d (.str [z]), .un]) (ev_seq2 s1 (ev_seq2 s2 (ev_seq_rt (ev_iteT c3 rfl (ev_seq2 s3 ?_))))) rfl rfl⟩
    repeat' (first | with_reducible exact e1 | with_reducible exact j1 | with_reducible exact Dw.ty_str | with_reducible exact Dw.ty_lst | with_reducible exact Dw.lst_eq | with_reducible exact Dw.set_z | with_reducible exact Dw.ret_d | with_reducible exact Dw.ret_own | with_reducible exact Dw.mapd_nn | with_reducible exact Dw.ev_const | with_reducible exact Dw.ev_nil | with_reducible exact Dw.pk_d | with_reducible exact Dw.pk_own | with_reducible exact Dw.pks_nil | with_reducible exact Dw.frz_d | with_reducible exact Dw.frz_own | with_reducible exact Dw.frzs_nil | with_reducible exact Dw.tru_bl | with_reducible exact Dw.ev_skip | with_reducible exact Dw.len_lst | with_reducible exact Dw.len_tup | with_reducible exact Dw.eq_int | with_reducible exact Dw.ne_int | with_reducible exact Dw.eq_str | with_reducible exact Dw.ne_str | with_reducible exact Dw.eq_bl | with_reducible exact Dw.ne_bl | with_reducible exact Dw.lt_int' | with_reducible exact Dw.lt_str' | with_reducible exact Dw.le_int' | with_reducible exact Dw.gt_int' | with_reducible exact Dw.ge_int' | with_reducible exact Dw.add_int' | with_reducible exact Dw.sub_int' | with_reducible exact Dw.neg_int' | with_reducible exact Dw.ord_str | with_reducible exact Dw.int_int | with_reducible exact Dw.int_bl | with_reducible exact Dw.list_lst | with_reducible exact Dw.list_tup | with_reducible exact Dw.tup_lst | with_reducible exact Dw.tup_tup | with_reducible exact Dw.it_lst | with_reducible exact Dw.it_tup | with_reducible exact Dw.it_str | ((with_reducible apply Dw.ev_var); exact rfl) | ((with_reducible apply Dw.ev_varO); exact rfl) | ((with_reducible apply Dw.pk_cv); exact rfl) | ((with_reducible apply Dw.fs_ok); exact rfl) | ((with_reducible apply Dw.gE); exact rfl) | with_reducible apply Dw.ev_two | with_reducible apply Dw.ev_one | with_reducible apply Dw.ev_cons | with_reducible apply Dw.pks_cons | with_reducible apply Dw.ev_callE | with_reducible apply Dw.ev_isi | with_reducible apply Dw.frzs_cons | with_reducible apply Dw.ev_tup | with_reducible apply Dw.ev_lst | with_reducible apply Dw.ev_not | with_reducible apply Dw.ev_met | with_reducible apply Dw.ev_mut | with_reducible apply Dw.ev_ret | with_reducible apply Dw.ev_expr | with_reducible apply Dw.ev_asg | with_reducible apply Dw.ev_args | with_reducible apply Dw.ev_src | with_reducible apply Dw.ev_callD | with_reducible apply Dw.mapd_c | with_reducible apply Dw.mapd_d | with_reducible apply Dw.set_s | with_reducible apply Dw.st_d | with_reducible apply Dw.st_own | with_reducible apply Dw.st_cv | with_reducible apply Dw.frz_cv | ((with_reducible apply Dw.len_str); assumption) | ((with_reducible apply Dw.get_str) <;> assumption) | with_reducible assumption)
  | false =>
    rw [hb] at c3
    obtain ⟨l4, xs, xl, xg, cp⟩ := comp2 (b := .d (.int n)) (c := .un) (List.range n) l3 [] (by simp; omega)
    rw [List.nil_append] at cp
    rw [List.length_range] at xl
    have e1 : compE [3] (argsI rng1 (consA (varE 1) nilA)) (.nm 3) none e_ulawutext_2 [.own true (.lst (dI l3)), .d (.int n), .un, .un] = some (.ok (.own (.lst (xs.map fun c => .str [c]))) [.own true (.lst (dI l4)), .d (.int n), .un, .un]) := by
      unfold compE
      rw [rg]
      simp only [clr, List.set_cons_succ, List.set_cons_zero]
      rw [cp]
      rfl
    have j1 := join_chr (xs := xs) (by omega)
    refine ⟨l4, .str xs, ⟨xs, rfl, by omega, xg⟩, defM_rt (a := .d (.str xs)) _ rfl rfl (env := [.own true (.lst (dI l4)), .d (.int n), .un, .un]) (ev_seq2 s1 (ev_seq2 s2 (ev_seq2 (ev_iteF c3 rfl ev_skip) ?_))) rfl rfl⟩
    repeat' (first | with_reducible exact e1 | with_reducible exact j1 | with_reducible exact Dw.ty_str | with_reducible exact Dw.ty_lst | with_reducible exact Dw.lst_eq | with_reducible exact Dw.set_z | with_reducible exact Dw.ret_d | with_reducible exact Dw.ret_own | with_reducible exact Dw.mapd_nn | with_reducible exact Dw.ev_const | with_reducible exact Dw.ev_nil | with_reducible exact Dw.pk_d | with_reducible exact Dw.pk_own | with_reducible exact Dw.pks_nil | with_reducible exact Dw.frz_d | with_reducible exact Dw.frz_own | with_reducible exact Dw.frzs_nil | with_reducible exact Dw.tru_bl | with_reducible exact Dw.ev_skip | with_reducible exact Dw.len_lst | with_reducible exact Dw.len_tup | with_reducible exact Dw.eq_int | with_reducible exact Dw.ne_int | with_reducible exact Dw.eq_str | with_reducible exact Dw.ne_str | with_reducible exact Dw.eq_bl | with_reducible exact Dw.ne_bl | with_reducible exact Dw.lt_int' | with_reducible exact Dw.lt_str' | with_reducible exact Dw.le_int' | with_reducible exact Dw.gt_int' | with_reducible exact Dw.ge_int' | with_reducible exact Dw.add_int' | with_reducible exact Dw.sub_int' | with_reducible exact Dw.neg_int' | with_reducible exact Dw.ord_str | with_reducible exact Dw.int_int | with_reducible exact Dw.int_bl | with_reducible exact Dw.list_lst | with_reducible exact Dw.list_tup | with_reducible exact Dw.tup_lst | with_reducible exact Dw.tup_tup | with_reducible exact Dw.it_lst | with_reducible exact Dw.it_tup | with_reducible exact Dw.it_str | ((with_reducible apply Dw.ev_var); exact rfl) | ((with_reducible apply Dw.ev_varO); exact rfl) | ((with_reducible apply Dw.pk_cv); exact rfl) | ((with_reducible apply Dw.fs_ok); exact rfl) | ((with_reducible apply Dw.gE); exact rfl) | with_reducible apply Dw.ev_two | with_reducible apply Dw.ev_one | with_reducible apply Dw.ev_cons | with_reducible apply Dw.pks_cons | with_reducible apply Dw.ev_callE | with_reducible apply Dw.ev_isi | with_reducible apply Dw.frzs_cons | with_reducible apply Dw.ev_tup | with_reducible apply Dw.ev_lst | with_reducible apply Dw.ev_not | with_reducible apply Dw.ev_met | with_reducible apply Dw.ev_mut | with_reducible apply Dw.ev_ret | with_reducible apply Dw.ev_expr | with_reducible apply Dw.ev_asg | with_reducible apply Dw.ev_args | with_reducible apply Dw.ev_src | with_reducible apply Dw.ev_callD | with_reducible apply Dw.mapd_c | with_reducible apply Dw.mapd_d | with_reducible apply Dw.set_s | with_reducible apply Dw.st_d | with_reducible apply Dw.st_own | with_reducible apply Dw.st_cv | with_reducible apply Dw.frz_cv | ((with_reducible apply Dw.len_str); assumption) | ((with_reducible apply Dw.get_str) <;> assumption) | with_reducible assumption)
theorem powI_27 : powI 10 27 = some 1000000000000000000000000000 := by
  unfold powI
  rw [if_pos (okP_iff.mpr ⟨⟨by decide, by decide⟩, by decide⟩)]
  rfl
theorem pow_27 : powD (.int 10) (.int 27) = some (.d (.int 1000000000000000000000000000)) := by show (powI 10 27).map _ = _; rw [powI_27]; rfl
theorem big_small {n : Nat} (h : n ≤ 100000) : big64 (n : Int) = true := big64_iff.mpr (by omega)
def isInt (x : D) : Prop := ∃ i : Int, x = .int i
theorem ev_id (ls : List Int) : ∃ ls' : List Int, ∃ x, isInt x ∧ m_ulawuid [.own true (.lst (dI ls))] = some (.ok (.d x) [.own true (.lst (dI ls'))]) := by
  obtain ⟨l1, v1, b1, t1⟩ := take_at (env := [.own true (.lst (dI ls)), .un]) (env' := []) (i := 0) (n := 4) (fb := constE (.int 4)) (by decide) rfl ev_const
  have c1 : two (op2 gtD) (callM 0 m_ulawutake [] (consA (varE 0) (consA (constE (.int 4)) nilA))) (constE (.int 0)) [.own true (.lst (dI ls)), .un] = some (.ok (.d (.bl (decide ((0 : Int) < v1)))) [.own true (.lst (dI l1)), .un]) := ev_two t1 ev_const pk_d pk_d Dw.gt_int'
  cases hb : decide ((0 : Int) < (v1 : Int)) with
  | true =>
    rw [hb] at c1
    obtain ⟨l2, v2, b2, t2⟩ := take_at (env := [.own true (.lst (dI l1)), .un]) (env' := []) (i := 0) (n := 9) (fb := constE (.int 9)) (by decide) rfl ev_const
    exact ⟨l2, .int ((v2 : Int) - 4), ⟨_, rfl⟩, defM_rt (a := .d (.int ((v2 : Int) - 4))) _ rfl rfl (env := [.own true (.lst (dI l2)), .un]) (ev_seq_rt (ev_iteT c1 rfl (ev_ret (ev_two t2 ev_const pk_d pk_d Dw.sub_int')))) rfl rfl⟩
  | false =>
    rw [hb] at c1
    obtain ⟨l2, v2, b2, t2⟩ := take_at (env := [.own true (.lst (dI l1)), .un]) (env' := []) (i := 0) (n := 999) (fb := constE (.int 999)) (by decide) rfl ev_const
    obtain ⟨l3, v3, b3, t3⟩ := take_at (env := [.own true (.lst (dI l2)), .un]) (env' := []) (i := 0) (n := 4) (fb := constE (.int 4)) (by decide) rfl ev_const
    have lst : lstE (consA (constE (.int 1)) (consA (constE (.int 1000)) (consA (constE (.int 1000000000000)) (consA (two (op2 powD) (constE (.int 10)) (constE (.int 27))) nilA)))) [.own true (.lst (dI l2)), .un] = some (.ok (.own (.lst (dI [1, 1000, 1000000000000, 1000000000000000000000000000]))) [.own true (.lst (dI l2)), .un]) :=
      ev_lst (as := [.d (.int 1), .d (.int 1000), .d (.int 1000000000000), .d (.int 1000000000000000000000000000)]) (ev_cons ev_const (ev_cons ev_const (ev_cons ev_const (ev_cons (ev_two ev_const ev_const pk_d pk_d pow_27) ev_nil)))) rfl (show 4 ≤ 100000 by decide)
    have g : ∃ f : Int, getD (.lst (dI [1, 1000, 1000000000000, 1000000000000000000000000000])) (.int (v3 : Int)) = some (.d (.int f)) := by
      have h4 : v3 < (dI [1, 1000, 1000000000000, 1000000000000000000000000000]).length := b3
      have := L2.atI_nat (List.getElem?_eq_getElem h4)
      have e : ∃ f : Int, (dI [1, 1000, 1000000000000, 1000000000000000000000000000])[v3] = .int f := by
        rw [List.getElem_map]
        exact ⟨_, rfl⟩
      obtain ⟨f, e⟩ := e
      rw [e] at this
      exact ⟨f, Dw.get_lst this⟩
    obtain ⟨f, g⟩ := g
    have a1 : two (op2 addD) (callM 0 m_ulawutake [] (consA (varE 0) (consA (constE (.int 999)) nilA))) (constE (.int 1)) [.own true (.lst (dI l1)), .un] = some (.ok (.d (.int ((v2 : Int) + 1))) [.own true (.lst (dI l2)), .un]) := ev_two t2 ev_const pk_d pk_d Dw.add_int'
    have g1 : two (op2 getD) (lstE (consA (constE (.int 1)) (consA (constE (.int 1000)) (consA (constE (.int 1000000000000)) (consA (two (op2 powD) (constE (.int 10)) (constE (.int 27))) nilA))))) (callM 0 m_ulawutake [] (consA (varE 0) (consA (constE (.int 4)) nilA))) [.own true (.lst (dI l2)), .un] = some (.ok (.d (.int f)) [.own true (.lst (dI l3)), .un]) := ev_two lst t3 pk_own pk_d g
    have m1 : mulD (.int ((v2 : Int) + 1)) (.int f) = some (.d (.int (((v2 : Int) + 1) * f))) := by
      have := big_small (n := v2 + 1) (by omega)
      rw [show ((v2 + 1 : Nat) : Int) = (v2 : Int) + 1 by omega] at this
      exact mul_l this
    generalize ((v2 : Int) + 1) * f = num at m1
    have s2 : asgS 1 (two (op2 mulD) (two (op2 addD) (callM 0 m_ulawutake [] (consA (varE 0) (consA (constE (.int 999)) nilA))) (constE (.int 1))) (two (op2 getD) (lstE (consA (constE (.int 1)) (consA (constE (.int 1000)) (consA (constE (.int 1000000000000)) (consA (two (op2 powD) (constE (.int 10)) (constE (.int 27))) nilA))))) (callM 0 m_ulawutake [] (consA (varE 0) (consA (constE (.int 4)) nilA))))) [.own true (.lst (dI l1)), .un] = some (.nx [.own true (.lst (dI l3)), .d (.int num)]) :=
      ev_asg (ev_two a1 g1 pk_d pk_d m1) (st_d rfl rfl)
    obtain ⟨l4, v4, b4, t4⟩ := take_at (env := [.own true (.lst (dI l3)), .d (.int num)]) (env' := []) (i := 0) (n := 2) (fb := constE (.int 2)) (by decide) rfl ev_const
    have c4 : two (op2 eqD) (callM 0 m_ulawutake [] (consA (varE 0) (consA (constE (.int 2)) nilA))) (constE (.int 0)) [.own true (.lst (dI l3)), .d (.int num)] = some (.ok (.d (.bl ((v4 : Int) == 0))) [.own true (.lst (dI l4)), .d (.int num)]) := ev_two t4 ev_const pk_d pk_d Dw.eq_int
    cases hb2 : (v4 : Int) == 0 with
    | true =>
      rw [hb2] at c4
      exact ⟨l4, .int (-num), ⟨_, rfl⟩, defM_rt (a := .d (.int (-num))) _ rfl rfl (env := [.own true (.lst (dI l4)), .d (.int num)]) (ev_seq2 (ev_iteF c1 rfl ev_skip) (ev_seq2 s2 (ev_seq_rt (ev_iteT c4 rfl (ev_ret (ev_one (ev_var rfl) pk_d Dw.neg_int')))))) rfl rfl⟩
    | false =>
      rw [hb2] at c4
      exact ⟨l4, .int num, ⟨_, rfl⟩, defM_rt (a := .d (.int num)) _ rfl rfl (env := [.own true (.lst (dI l4)), .d (.int num)]) (ev_seq2 (ev_iteF c1 rfl ev_skip) (ev_seq2 s2 (ev_seq2 (ev_iteF c4 rfl ev_skip) (ev_ret (ev_var rfl))))) rfl rfl⟩
def isVal (n : Nat) (x : D) : Prop := isTxt n x ∨ isInt x
theorem ev_value (ls : List Int) : ∃ ls' : List Int, ∃ x, isVal 36 x ∧ m_ulawuvalue [.own true (.lst (dI ls))] = some (.ok (.d x) [.own true (.lst (dI ls'))]) := by
  obtain ⟨l1, v1, b1, t1⟩ := take_at (env := [.own true (.lst (dI ls))]) (env' := []) (i := 0) (n := 2) (fb := constE (.int 2)) (by decide) rfl ev_const
  have c1 : two (op2 eqD) (callM 0 m_ulawutake [] (consA (varE 0) (consA (constE (.int 2)) nilA))) (constE (.int 0)) [.own true (.lst (dI ls))] = some (.ok (.d (.bl ((v1 : Int) == 0))) [.own true (.lst (dI l1))]) := ev_two t1 ev_const pk_d pk_d Dw.eq_int
  cases hb : (v1 : Int) == 0 with
  | true =>
    rw [hb] at c1
    obtain ⟨l2, x, hx, h2⟩ := call_at (P := isTxt 36) ev_text (env := [.own true (.lst (dI l1))]) (i := 0) rfl
    exact ⟨l2, x, .inl hx, defM_rt (a := .d x) _ rfl rfl (env := [.own true (.lst (dI l2))]) (ev_seq_rt (ev_iteT c1 rfl (ev_ret h2))) rfl rfl⟩
  | false =>
    rw [hb] at c1
    obtain ⟨l2, x, hx, h2⟩ := call_at (P := isInt) ev_id (env := [.own true (.lst (dI l1))]) (i := 0) rfl
    exact ⟨l2, x, .inr hx, defM_rt (a := .d x) _ rfl rfl (env := [.own true (.lst (dI l2))]) (ev_seq2 (ev_iteF c1 rfl ev_skip) (ev_ret h2)) rfl rfl⟩
theorem cut_sub {x : List Nat} {lo hi : Option Int} : (cutL x lo hi).length ≤ x.length ∧ ∀ c ∈ cutL x lo hi, c ∈ x := by
  unfold cutL
  refine ⟨?_, fun c h => List.mem_of_mem_drop (List.mem_of_mem_take h)⟩
  rw [List.length_take, List.length_drop]
  omega
/-- three pieces -/
theorem piece {x : List Nat} {a b c d : Option Int} {z : Nat} (hx : x.length ≤ 36) (hg : ∀ c ∈ x, 97 ≤ c ∧ c < 123) (z1 : 97 ≤ z) (z2 : z < 123) : isTxt 80 (.str (cutL x a b ++ [z] ++ cutL x c d)) ∧ addD (.str (cutL x a b)) (.str [z]) = some (.d (.str (cutL x a b ++ [z]))) ∧ addD (.str (cutL x a b ++ [z])) (.str (cutL x c d)) = some (.d (.str (cutL x a b ++ [z] ++ cutL x c d))) := by
  have hs : (100000 : Nat) ≤ sizeLine := by decide
  obtain ⟨p1, p2⟩ := cut_sub (x := x) (lo := a) (hi := b)
  obtain ⟨q1, q2⟩ := cut_sub (x := x) (lo := c) (hi := d)
  refine ⟨⟨_, rfl, by rw [List.length_append, List.length_append, List.length_singleton]; omega, fun y hy => ?_⟩, Dw.add_str (by rw [List.length_singleton]; omega), Dw.add_str (by rw [List.length_append, List.length_singleton]; omega)⟩
  rcases List.mem_append.mp hy with hy | hy
  · rcases List.mem_append.mp hy with hy | hy
    · exact hg y (p2 y hy)
    · rw [List.mem_singleton.mp hy]; exact ⟨z1, z2⟩
  · exact hg y (q2 y hy)
theorem ev_near {x : D} (hx : isVal 36 x) (ls : List Int) : ∃ ls' : List Int, ∃ y, isVal 80 y ∧ m_ulawunear [.d x, .own true (.lst (dI ls))] = some (.ok (.d y) [.d x, .own true (.lst (dI ls'))]) := by
  obtain ⟨l1, v1, b1, t1⟩ := take_at (env := [.d x, .own true (.lst (dI ls)), .un, .un]) (env' := []) (i := 1) (n := 6) (fb := constE (.int 6)) (by decide) rfl ev_const
  have s1 : asgS 2 (callM 0 m_ulawutake [] (consA (varE 1) (consA (constE (.int 6)) nilA))) [.d x, .own true (.lst (dI ls)), .un, .un] = some (.nx [.d x, .own true (.lst (dI l1)), .d (.int v1), .un]) := ev_asg t1 (st_d rfl rfl)
  have ci : isiE "str" (varE 0) [.d x, .own true (.lst (dI l1)), .d (.int v1), .un] = some (.ok (.d (.bl (isiD "str" x))) [.d x, .own true (.lst (dI l1)), .d (.int v1), .un]) := ev_isi (ev_var rfl) pk_d
  have lt2 : ∀ w l, two (op2 ltG) (varE 2) (constE (.int 2)) [.d x, .own true (.lst (dI l)), .d (.int v1), w] = some (.ok (.d (.bl (decide ((v1 : Int) < 2)))) [.d x, .own true (.lst (dI l)), .d (.int v1), w]) := fun w l => ev_two (ev_var rfl) ev_const pk_d pk_d Dw.lt_int'
  have lt4 : ∀ w l, two (op2 ltG) (varE 2) (constE (.int 4)) [.d x, .own true (.lst (dI l)), .d (.int v1), w] = some (.ok (.d (.bl (decide ((v1 : Int) < 4)))) [.d x, .own true (.lst (dI l)), .d (.int v1), w]) := fun w l => ev_two (ev_var rfl) ev_const pk_d pk_d Dw.lt_int'
  rcases hx with ⟨s, rfl, hs, hg⟩ | ⟨i, rfl⟩
  · have hz : (100000 : Nat) ≤ sizeLine := by decide
    have hsl : s.length ≤ sizeLine := by omega
    have fb : two (op2 addD) (callE lenD (consA (varE 0) nilA)) (constE (.int 1)) [.d (.str s), .own true (.lst (dI l1)), .d (.int v1), .un] = some (.ok (.d (.int ((s.length + 1 : Nat) : Int))) [.d (.str s), .own true (.lst (dI l1)), .d (.int v1), .un]) := by
      rw [show ((s.length + 1 : Nat) : Int) = (s.length : Int) + 1 by omega]
      repeat' (first  | with_reducible exact Dw.ty_str | with_reducible exact Dw.ty_lst | with_reducible exact Dw.lst_eq | with_reducible exact Dw.set_z | with_reducible exact Dw.ret_d | with_reducible exact Dw.ret_own | with_reducible exact Dw.mapd_nn | with_reducible exact Dw.ev_const | with_reducible exact Dw.ev_nil | with_reducible exact Dw.pk_d | with_reducible exact Dw.pk_own | with_reducible exact Dw.pks_nil | with_reducible exact Dw.frz_d | with_reducible exact Dw.frz_own | with_reducible exact Dw.frzs_nil | with_reducible exact Dw.tru_bl | with_reducible exact Dw.ev_skip | with_reducible exact Dw.len_lst | with_reducible exact Dw.len_tup | with_reducible exact Dw.eq_int | with_reducible exact Dw.ne_int | with_reducible exact Dw.eq_str | with_reducible exact Dw.ne_str | with_reducible exact Dw.eq_bl | with_reducible exact Dw.ne_bl | with_reducible exact Dw.lt_int' | with_reducible exact Dw.lt_str' | with_reducible exact Dw.le_int' | with_reducible exact Dw.gt_int' | with_reducible exact Dw.ge_int' | with_reducible exact Dw.add_int' | with_reducible exact Dw.sub_int' | with_reducible exact Dw.neg_int' | with_reducible exact Dw.ord_str | with_reducible exact Dw.int_int | with_reducible exact Dw.int_bl | with_reducible exact Dw.list_lst | with_reducible exact Dw.list_tup | with_reducible exact Dw.tup_lst | with_reducible exact Dw.tup_tup | with_reducible exact Dw.it_lst | with_reducible exact Dw.it_tup | with_reducible exact Dw.it_str | ((with_reducible apply Dw.ev_var); exact rfl) | ((with_reducible apply Dw.ev_varO); exact rfl) | ((with_reducible apply Dw.pk_cv); exact rfl) | ((with_reducible apply Dw.fs_ok); exact rfl) | ((with_reducible apply Dw.gE); exact rfl) | with_reducible apply Dw.ev_two | with_reducible apply Dw.ev_one | with_reducible apply Dw.ev_cons | with_reducible apply Dw.pks_cons | with_reducible apply Dw.ev_callE | with_reducible apply Dw.ev_isi | with_reducible apply Dw.frzs_cons | with_reducible apply Dw.ev_tup | with_reducible apply Dw.ev_lst | with_reducible apply Dw.ev_not | with_reducible apply Dw.ev_met | with_reducible apply Dw.ev_mut | with_reducible apply Dw.ev_ret | with_reducible apply Dw.ev_expr | with_reducible apply Dw.ev_asg | with_reducible apply Dw.ev_args | with_reducible apply Dw.ev_src | with_reducible apply Dw.ev_callD | with_reducible apply Dw.mapd_c | with_reducible apply Dw.mapd_d | with_reducible apply Dw.set_s | with_reducible apply Dw.st_d | with_reducible apply Dw.st_own | with_reducible apply Dw.st_cv | with_reducible apply Dw.frz_cv | ((with_reducible apply Dw.len_str); assumption) | ((with_reducible apply Dw.get_str) <;> assumption) | with_reducible assumption)
    obtain ⟨l2, v2, b2, t2⟩ := take_at (env := [.d (.str s), .own true (.lst (dI l1)), .d (.int v1), .un]) (env' := []) (i := 1) (n := s.length + 1) (by omega) rfl fb
    have s2 := ev_asg (i := 3) t2 (st_d rfl rfl)
    obtain ⟨l3, w, ⟨z, rfl, z1, z2⟩, h3⟩ := call_at (P := isLet) ev_letter (env := [.d (.str s), .own true (.lst (dI l2)), .d (.int v1), .d (.int v2)]) (i := 1) rfl
    have top : ∀ l : List Int, sliceE (varE 0) none (some (varE 3)) [.d (.str s), .own true (.lst (dI l)), .d (.int v1), .d (.int v2)] = some (.ok (.d (.str (cutL s none (some (v2 : Int))))) [.d (.str s), .own true (.lst (dI l)), .d (.int v1), .d (.int v2)]) := fun l =>
      ev_sl (a := .d (.str s)) (ev_var rfl) (fun k => bo_none) (fun k => bo_some (a := .d (.int v2)) (ev_var rfl) rfl) rfl (Dw.cut_str hsl)
    cases hb : decide ((v1 : Int) < 2) with
    | true =>
      obtain ⟨p1, p2, p3⟩ := piece (a := none) (b := some (v2 : Int)) (c := some (v2 : Int)) (d := none) hs hg z1 z2
      have c2 := lt2 (.d (.int v2)) l2
      rw [hb] at c2
      have end1 : sliceE (varE 0) (some (varE 3)) none [.d (.str s), .own true (.lst (dI l3)), .d (.int v1), .d (.int v2)] = some (.ok (.d (.str (cutL s (some (v2 : Int)) none))) [.d (.str s), .own true (.lst (dI l3)), .d (.int v1), .d (.int v2)]) :=
        ev_sl (a := .d (.str s)) (ev_var rfl) (fun k => bo_some (a := .d (.int v2)) (ev_var rfl) rfl) (fun k => bo_none) rfl (Dw.cut_str hsl)
      exact ⟨l3, _, .inl p1, defM_rt (a := .d _) _ rfl rfl (env := [.d (.str s), .own true (.lst (dI l3)), .d (.int v1), .d (.int v2)]) (ev_seq2 s1 (ev_seq_rt (ev_iteT ci rfl (ev_seq2 s2 (ev_seq_rt (ev_iteT c2 rfl (ev_ret (ev_two (ev_two (top l2) h3 pk_d pk_d p2) end1 pk_d pk_d p3)))))))) rfl rfl⟩
    | false =>
      have c2 := lt2 (.d (.int v2)) l2
      rw [hb] at c2
      cases hb4 : decide ((v1 : Int) < 4) with
      | true =>
        obtain ⟨p1, p2, p3⟩ := piece (a := none) (b := some (v2 : Int)) (c := some ((v2 : Int) + 1)) (d := none) hs hg z1 z2
        have c4 := lt4 (.d (.int v2)) l2
        rw [hb4] at c4
        have end1 : sliceE (varE 0) (some (two (op2 addD) (varE 3) (constE (.int 1)))) none [.d (.str s), .own true (.lst (dI l3)), .d (.int v1), .d (.int v2)] = some (.ok (.d (.str (cutL s (some ((v2 : Int) + 1)) none))) [.d (.str s), .own true (.lst (dI l3)), .d (.int v1), .d (.int v2)]) :=
          ev_sl (a := .d (.str s)) (ev_var rfl) (fun k => bo_some (a := .d (.int ((v2 : Int) + 1))) (ev_two (ev_var rfl) ev_const pk_d pk_d Dw.add_int') rfl) (fun k => bo_none) rfl (Dw.cut_str hsl)
        exact ⟨l3, _, .inl p1, defM_rt (a := .d _) _ rfl rfl (env := [.d (.str s), .own true (.lst (dI l3)), .d (.int v1), .d (.int v2)]) (ev_seq2 s1 (ev_seq_rt (ev_iteT ci rfl (ev_seq2 s2 (ev_seq2 (ev_iteF c2 rfl ev_skip) (ev_seq_rt (ev_iteT c4 rfl (ev_ret (ev_two (ev_two (top l2) h3 pk_d pk_d p2) end1 pk_d pk_d p3))))))))) rfl rfl⟩
      | false =>
        have c4 := lt4 (.d (.int v2)) l2
        rw [hb4] at c4
        have a1 : addD (.str s) (.str []) = some (.d (.str s)) := by rw [Dw.add_str (by simpa using hsl), List.append_nil]
        exact ⟨l2, .str s, .inl ⟨s, rfl, by omega, hg⟩, defM_rt (a := .d _) _ rfl rfl (env := [.d (.str s), .own true (.lst (dI l2)), .d (.int v1), .d (.int v2)]) (ev_seq2 s1 (ev_seq_rt (ev_iteT ci rfl (ev_seq2 s2 (ev_seq2 (ev_iteF c2 rfl ev_skip) (ev_seq2 (ev_iteF c4 rfl ev_skip) (ev_ret (ev_two (ev_var rfl) ev_const pk_d pk_d a1)))))))) rfl rfl⟩
  · cases hb : decide ((v1 : Int) < 2) with
    | true =>
      have c2 := lt2 .un l1
      rw [hb] at c2
      exact ⟨l1, .int (i + 1), .inr ⟨_, rfl⟩, defM_rt (a := .d _) _ rfl rfl (env := [.d (.int i), .own true (.lst (dI l1)), .d (.int v1), .un]) (ev_seq2 s1 (ev_seq2 (ev_iteF ci rfl ev_skip) (ev_seq_rt (ev_iteT c2 rfl (ev_ret (ev_two (ev_var rfl) ev_const pk_d pk_d Dw.add_int')))))) rfl rfl⟩
    | false =>
      have c2 := lt2 .un l1
      rw [hb] at c2
      cases hb4 : decide ((v1 : Int) < 4) with
      | true =>
        have c4 := lt4 .un l1
        rw [hb4] at c4
        exact ⟨l1, .int (-i), .inr ⟨_, rfl⟩, defM_rt (a := .d _) _ rfl rfl (env := [.d (.int i), .own true (.lst (dI l1)), .d (.int v1), .un]) (ev_seq2 s1 (ev_seq2 (ev_iteF ci rfl ev_skip) (ev_seq2 (ev_iteF c2 rfl ev_skip) (ev_seq_rt (ev_iteT c4 rfl (ev_ret (ev_one (ev_var rfl) pk_d Dw.neg_int'))))))) rfl rfl⟩
      | false =>
        have c4 := lt4 .un l1
        rw [hb4] at c4
        exact ⟨l1, .int i, .inr ⟨_, rfl⟩, defM_rt (a := .d _) _ rfl rfl (env := [.d (.int i), .own true (.lst (dI l1)), .d (.int v1), .un]) (ev_seq2 s1 (ev_seq2 (ev_iteF ci rfl ev_skip) (ev_seq2 (ev_iteF c2 rfl ev_skip) (ev_seq2 (ev_iteF c4 rfl ev_skip) (ev_ret (ev_var rfl)))))) rfl rfl⟩
theorem big_c : big64 48271 = true ∧ big64 69621 = true ∧ big64 16807 = true := ⟨big64_iff.mpr (by decide), big64_iff.mpr (by decide), big64_iff.mpr (by decide)⟩
theorem big_of {n : Int} (h0 : 0 ≤ n) (h : n < 2147483648) : big64 n = true := by
  rw [big64_iff]
  omega
theorem ev_mixed (c k : Int) : ∃ v : Int, ∃ o, m_ulawumixed [.d (.int c), .d (.int k)] = some (.ok (.d (.int v)) o) := by
  obtain ⟨bc1, bc2, bc3⟩ := big_c
  have s1 : asgS 2 (two (op2 modD) (callE intC (consA (two (op2 addD) (two (op2 addD) (two (op2 mulD) (varE 0) (constE (.int 48271))) (two (op2 mulD) (varE 1) (constE (.int 69621)))) (constE (.int 12345))) nilA)) (constE (.int 2147483647))) [.d (.int c), .d (.int k), .un] = some (.nx [.d (.int c), .d (.int k), .d (.int ((c * 48271 + k * 69621 + 12345) % 2147483647))]) := by
    repeat' (first | with_reducible exact mul_r bc1 | with_reducible exact mul_r bc2 | with_reducible exact mod_ok (by decide) | with_reducible exact Dw.ty_str | with_reducible exact Dw.ty_lst | with_reducible exact Dw.lst_eq | with_reducible exact Dw.set_z | with_reducible exact Dw.ret_d | with_reducible exact Dw.ret_own | with_reducible exact Dw.mapd_nn | with_reducible exact Dw.ev_const | with_reducible exact Dw.ev_nil | with_reducible exact Dw.pk_d | with_reducible exact Dw.pk_own | with_reducible exact Dw.pks_nil | with_reducible exact Dw.frz_d | with_reducible exact Dw.frz_own | with_reducible exact Dw.frzs_nil | with_reducible exact Dw.tru_bl | with_reducible exact Dw.ev_skip | with_reducible exact Dw.len_lst | with_reducible exact Dw.len_tup | with_reducible exact Dw.eq_int | with_reducible exact Dw.ne_int | with_reducible exact Dw.eq_str | with_reducible exact Dw.ne_str | with_reducible exact Dw.eq_bl | with_reducible exact Dw.ne_bl | with_reducible exact Dw.lt_int' | with_reducible exact Dw.lt_str' | with_reducible exact Dw.le_int' | with_reducible exact Dw.gt_int' | with_reducible exact Dw.ge_int' | with_reducible exact Dw.add_int' | with_reducible exact Dw.sub_int' | with_reducible exact Dw.neg_int' | with_reducible exact Dw.ord_str | with_reducible exact Dw.int_int | with_reducible exact Dw.int_bl | with_reducible exact Dw.list_lst | with_reducible exact Dw.list_tup | with_reducible exact Dw.tup_lst | with_reducible exact Dw.tup_tup | with_reducible exact Dw.it_lst | with_reducible exact Dw.it_tup | with_reducible exact Dw.it_str | ((with_reducible apply Dw.ev_var); exact rfl) | ((with_reducible apply Dw.ev_varO); exact rfl) | ((with_reducible apply Dw.pk_cv); exact rfl) | ((with_reducible apply Dw.fs_ok); exact rfl) | ((with_reducible apply Dw.gE); exact rfl) | with_reducible apply Dw.ev_two | with_reducible apply Dw.ev_one | with_reducible apply Dw.ev_cons | with_reducible apply Dw.pks_cons | with_reducible apply Dw.ev_callE | with_reducible apply Dw.ev_isi | with_reducible apply Dw.frzs_cons | with_reducible apply Dw.ev_tup | with_reducible apply Dw.ev_lst | with_reducible apply Dw.ev_not | with_reducible apply Dw.ev_met | with_reducible apply Dw.ev_mut | with_reducible apply Dw.ev_ret | with_reducible apply Dw.ev_expr | with_reducible apply Dw.ev_asg | with_reducible apply Dw.ev_args | with_reducible apply Dw.ev_src | with_reducible apply Dw.ev_callD | with_reducible apply Dw.mapd_c | with_reducible apply Dw.mapd_d | with_reducible apply Dw.set_s | with_reducible apply Dw.st_d | with_reducible apply Dw.st_own | with_reducible apply Dw.st_cv | with_reducible apply Dw.frz_cv | ((with_reducible apply Dw.len_str); assumption) | ((with_reducible apply Dw.get_str) <;> assumption) | with_reducible assumption)
  generalize e1 : (c * 48271 + k * 69621 + 12345) % 2147483647 = n1 at s1
  have g1 : big64 n1 = true := big_of (by rw [← e1]; exact Int.emod_nonneg _ (by decide)) (by rw [← e1]; exact Int.lt_trans (Int.emod_lt_of_pos _ (by decide)) (by decide))
  have s2 : asgS 2 (two (op2 modD) (callE intC (consA (two (op2 addD) (two (op2 addD) (two (op2 mulD) (varE 2) (varE 2)) (two (op2 mulD) (constE (.int 16807)) (varE 1))) (constE (.int 7))) nilA)) (constE (.int 998244353))) [.d (.int c), .d (.int k), .d (.int n1)] = some (.nx [.d (.int c), .d (.int k), .d (.int ((n1 * n1 + 16807 * k + 7) % 998244353))]) := by
    repeat' (first | with_reducible exact mul_l g1 | with_reducible exact mul_l bc3 | with_reducible exact mod_ok (by decide) | with_reducible exact Dw.ty_str | with_reducible exact Dw.ty_lst | with_reducible exact Dw.lst_eq | with_reducible exact Dw.set_z | with_reducible exact Dw.ret_d | with_reducible exact Dw.ret_own | with_reducible exact Dw.mapd_nn | with_reducible exact Dw.ev_const | with_reducible exact Dw.ev_nil | with_reducible exact Dw.pk_d | with_reducible exact Dw.pk_own | with_reducible exact Dw.pks_nil | with_reducible exact Dw.frz_d | with_reducible exact Dw.frz_own | with_reducible exact Dw.frzs_nil | with_reducible exact Dw.tru_bl | with_reducible exact Dw.ev_skip | with_reducible exact Dw.len_lst | with_reducible exact Dw.len_tup | with_reducible exact Dw.eq_int | with_reducible exact Dw.ne_int | with_reducible exact Dw.eq_str | with_reducible exact Dw.ne_str | with_reducible exact Dw.eq_bl | with_reducible exact Dw.ne_bl | with_reducible exact Dw.lt_int' | with_reducible exact Dw.lt_str' | with_reducible exact Dw.le_int' | with_reducible exact Dw.gt_int' | with_reducible exact Dw.ge_int' | with_reducible exact Dw.add_int' | with_reducible exact Dw.sub_int' | with_reducible exact Dw.neg_int' | with_reducible exact Dw.ord_str | with_reducible exact Dw.int_int | with_reducible exact Dw.int_bl | with_reducible exact Dw.list_lst | with_reducible exact Dw.list_tup | with_reducible exact Dw.tup_lst | with_reducible exact Dw.tup_tup | with_reducible exact Dw.it_lst | with_reducible exact Dw.it_tup | with_reducible exact Dw.it_str | ((with_reducible apply Dw.ev_var); exact rfl) | ((with_reducible apply Dw.ev_varO); exact rfl) | ((with_reducible apply Dw.pk_cv); exact rfl) | ((with_reducible apply Dw.fs_ok); exact rfl) | ((with_reducible apply Dw.gE); exact rfl) | with_reducible apply Dw.ev_two | with_reducible apply Dw.ev_one | with_reducible apply Dw.ev_cons | with_reducible apply Dw.pks_cons | with_reducible apply Dw.ev_callE | with_reducible apply Dw.ev_isi | with_reducible apply Dw.frzs_cons | with_reducible apply Dw.ev_tup | with_reducible apply Dw.ev_lst | with_reducible apply Dw.ev_not | with_reducible apply Dw.ev_met | with_reducible apply Dw.ev_mut | with_reducible apply Dw.ev_ret | with_reducible apply Dw.ev_expr | with_reducible apply Dw.ev_asg | with_reducible apply Dw.ev_args | with_reducible apply Dw.ev_src | with_reducible apply Dw.ev_callD | with_reducible apply Dw.mapd_c | with_reducible apply Dw.mapd_d | with_reducible apply Dw.set_s | with_reducible apply Dw.st_d | with_reducible apply Dw.st_own | with_reducible apply Dw.st_cv | with_reducible apply Dw.frz_cv | ((with_reducible apply Dw.len_str); assumption) | ((with_reducible apply Dw.get_str) <;> assumption) | with_reducible assumption)
  generalize e2 : (n1 * n1 + 16807 * k + 7) % 998244353 = n2 at s2
  have g2 : big64 n2 = true := big_of (by rw [← e2]; exact Int.emod_nonneg _ (by decide)) (by rw [← e2]; exact Int.lt_trans (Int.emod_lt_of_pos _ (by decide)) (by decide))
  have s3 : asgS 2 (two (op2 modD) (callE intC (consA (two (op2 addD) (two (op2 addD) (two (op2 mulD) (varE 2) (varE 2)) (two (op2 mulD) (constE (.int 48271)) (varE 1))) (varE 0)) nilA)) (constE (.int 2147483629))) [.d (.int c), .d (.int k), .d (.int n2)] = some (.nx [.d (.int c), .d (.int k), .d (.int ((n2 * n2 + 48271 * k + c) % 2147483629))]) := by
    repeat' (first | with_reducible exact mul_l g2 | with_reducible exact mul_l bc1 | with_reducible exact mod_ok (by decide) | with_reducible exact Dw.ty_str | with_reducible exact Dw.ty_lst | with_reducible exact Dw.lst_eq | with_reducible exact Dw.set_z | with_reducible exact Dw.ret_d | with_reducible exact Dw.ret_own | with_reducible exact Dw.mapd_nn | with_reducible exact Dw.ev_const | with_reducible exact Dw.ev_nil | with_reducible exact Dw.pk_d | with_reducible exact Dw.pk_own | with_reducible exact Dw.pks_nil | with_reducible exact Dw.frz_d | with_reducible exact Dw.frz_own | with_reducible exact Dw.frzs_nil | with_reducible exact Dw.tru_bl | with_reducible exact Dw.ev_skip | with_reducible exact Dw.len_lst | with_reducible exact Dw.len_tup | with_reducible exact Dw.eq_int | with_reducible exact Dw.ne_int | with_reducible exact Dw.eq_str | with_reducible exact Dw.ne_str | with_reducible exact Dw.eq_bl | with_reducible exact Dw.ne_bl | with_reducible exact Dw.lt_int' | with_reducible exact Dw.lt_str' | with_reducible exact Dw.le_int' | with_reducible exact Dw.gt_int' | with_reducible exact Dw.ge_int' | with_reducible exact Dw.add_int' | with_reducible exact Dw.sub_int' | with_reducible exact Dw.neg_int' | with_reducible exact Dw.ord_str | with_reducible exact Dw.int_int | with_reducible exact Dw.int_bl | with_reducible exact Dw.list_lst | with_reducible exact Dw.list_tup | with_reducible exact Dw.tup_lst | with_reducible exact Dw.tup_tup | with_reducible exact Dw.it_lst | with_reducible exact Dw.it_tup | with_reducible exact Dw.it_str | ((with_reducible apply Dw.ev_var); exact rfl) | ((with_reducible apply Dw.ev_varO); exact rfl) | ((with_reducible apply Dw.pk_cv); exact rfl) | ((with_reducible apply Dw.fs_ok); exact rfl) | ((with_reducible apply Dw.gE); exact rfl) | with_reducible apply Dw.ev_two | with_reducible apply Dw.ev_one | with_reducible apply Dw.ev_cons | with_reducible apply Dw.pks_cons | with_reducible apply Dw.ev_callE | with_reducible apply Dw.ev_isi | with_reducible apply Dw.frzs_cons | with_reducible apply Dw.ev_tup | with_reducible apply Dw.ev_lst | with_reducible apply Dw.ev_not | with_reducible apply Dw.ev_met | with_reducible apply Dw.ev_mut | with_reducible apply Dw.ev_ret | with_reducible apply Dw.ev_expr | with_reducible apply Dw.ev_asg | with_reducible apply Dw.ev_args | with_reducible apply Dw.ev_src | with_reducible apply Dw.ev_callD | with_reducible apply Dw.mapd_c | with_reducible apply Dw.mapd_d | with_reducible apply Dw.set_s | with_reducible apply Dw.st_d | with_reducible apply Dw.st_own | with_reducible apply Dw.st_cv | with_reducible apply Dw.frz_cv | ((with_reducible apply Dw.len_str); assumption) | ((with_reducible apply Dw.get_str) <;> assumption) | with_reducible assumption)
  generalize (n2 * n2 + 48271 * k + c) % 2147483629 = n3 at s3
  refine ⟨n3 / 13 % 1000, [.d (.int c), .d (.int k)], defM_rt (a := .d (.int (n3 / 13 % 1000))) (env := [.d (.int c), .d (.int k), .d (.int n3)]) [.d (.int c), .d (.int k), .un] rfl rfl (ev_seq2 s1 (ev_seq2 s2 (ev_seq2 s3 ?_))) rfl rfl⟩
  repeat' (first | with_reducible exact fdiv_ok (by decide) (by decide) | with_reducible exact mod_ok (by decide) | with_reducible exact Dw.ty_str | with_reducible exact Dw.ty_lst | with_reducible exact Dw.lst_eq | with_reducible exact Dw.set_z | with_reducible exact Dw.ret_d | with_reducible exact Dw.ret_own | with_reducible exact Dw.mapd_nn | with_reducible exact Dw.ev_const | with_reducible exact Dw.ev_nil | with_reducible exact Dw.pk_d | with_reducible exact Dw.pk_own | with_reducible exact Dw.pks_nil | with_reducible exact Dw.frz_d | with_reducible exact Dw.frz_own | with_reducible exact Dw.frzs_nil | with_reducible exact Dw.tru_bl | with_reducible exact Dw.ev_skip | with_reducible exact Dw.len_lst | with_reducible exact Dw.len_tup | with_reducible exact Dw.eq_int | with_reducible exact Dw.ne_int | with_reducible exact Dw.eq_str | with_reducible exact Dw.ne_str | with_reducible exact Dw.eq_bl | with_reducible exact Dw.ne_bl | with_reducible exact Dw.lt_int' | with_reducible exact Dw.lt_str' | with_reducible exact Dw.le_int' | with_reducible exact Dw.gt_int' | with_reducible exact Dw.ge_int' | with_reducible exact Dw.add_int' | with_reducible exact Dw.sub_int' | with_reducible exact Dw.neg_int' | with_reducible exact Dw.ord_str | with_reducible exact Dw.int_int | with_reducible exact Dw.int_bl | with_reducible exact Dw.list_lst | with_reducible exact Dw.list_tup | with_reducible exact Dw.tup_lst | with_reducible exact Dw.tup_tup | with_reducible exact Dw.it_lst | with_reducible exact Dw.it_tup | with_reducible exact Dw.it_str | ((with_reducible apply Dw.ev_var); exact rfl) | ((with_reducible apply Dw.ev_varO); exact rfl) | ((with_reducible apply Dw.pk_cv); exact rfl) | ((with_reducible apply Dw.fs_ok); exact rfl) | ((with_reducible apply Dw.gE); exact rfl) | with_reducible apply Dw.ev_two | with_reducible apply Dw.ev_one | with_reducible apply Dw.ev_cons | with_reducible apply Dw.pks_cons | with_reducible apply Dw.ev_callE | with_reducible apply Dw.ev_isi | with_reducible apply Dw.frzs_cons | with_reducible apply Dw.ev_tup | with_reducible apply Dw.ev_lst | with_reducible apply Dw.ev_not | with_reducible apply Dw.ev_met | with_reducible apply Dw.ev_mut | with_reducible apply Dw.ev_ret | with_reducible apply Dw.ev_expr | with_reducible apply Dw.ev_asg | with_reducible apply Dw.ev_args | with_reducible apply Dw.ev_src | with_reducible apply Dw.ev_callD | with_reducible apply Dw.mapd_c | with_reducible apply Dw.mapd_d | with_reducible apply Dw.set_s | with_reducible apply Dw.st_d | with_reducible apply Dw.st_own | with_reducible apply Dw.st_cv | with_reducible apply Dw.frz_cv | ((with_reducible apply Dw.len_str); assumption) | ((with_reducible apply Dw.get_str) <;> assumption) | with_reducible assumption)
theorem dI_app (ls : List Int) (v : Int) : dI (ls ++ [v]) = dI ls ++ [.int v] := by rw [dI, dI, List.map_append]; rfl
theorem app_dI {ls : List Int} {v : Int} (h : ls.length < 90000) : appU (dI ls) [.int v] = some (.non, dI (ls ++ [v])) := by
  rw [dI_app]
  exact Dw.app_ok (by rw [dI, List.length_map]; omega)
theorem flat_free {w : SV} (h : flat w = true) : freeSlot (some w) = true := by
  cases w with
  | own b c => simp [flat] at h
  | _ => rfl
theorem grow_loop {B : SS} {s0 s1 s3 s4 : SV} {P6 : SV → Prop} (hB : ∀ (k : Nat) (ls : List Int) (w6 : SV), P6 w6 → ls.length < 90000 → ∃ ls' : List Int, ∃ w6', P6 w6' ∧ ls'.length ≤ ls.length + 1 ∧ B [s0, s1, .own false (.lst (dI ls)), s3, s4, .d (.int k), w6] = some (.nx [s0, s1, .own false (.lst (dI ls')), s3, s4, .d (.int k), w6'])) :
    ∀ (ks : List Nat) (ls : List Int) (w5 w6 : SV), flat w5 = true → P6 w6 → ls.length + ks.length ≤ 90000 → ∃ ls' : List Int, ∃ w5' w6', flat w5' = true ∧ P6 w6' ∧ ls'.length ≤ ls.length + ks.length ∧
      loopD (.nm 5) B (ks.map fun i => .int (i : Nat)) [s0, s1, .own false (.lst (dI ls)), s3, s4, w5, w6] = some (.nx [s0, s1, .own false (.lst (dI ls')), s3, s4, w5', w6']) := by
  intro ks
  induction ks with
  | nil => intro ls w5 w6 h5 h6 _; exact ⟨ls, w5, w6, h5, h6, Nat.le_refl _, rfl⟩
  | cons k ks ih =>
    intro ls w5 w6 h5 h6 hl
    rw [List.length_cons] at hl
    have f5 := flat_free h5
    obtain ⟨l1, w1, a1, a2, a3⟩ := hB k ls w6 h6 (by omega)
    obtain ⟨l2, w5', w2, b1, b2, b3, b4⟩ := ih l1 (.d (.int k)) w1 rfl a1 (by omega)
    refine ⟨l2, w5', w2, b1, b2, by rw [List.length_cons]; omega, ?_⟩
    rw [List.map_cons, loopD]
    simp only [putT, setSlot, List.getElem?_cons_succ, List.getElem?_cons_zero, f5, if_true, Option.bind_some, List.set_cons_succ, List.set_cons_zero]
    rw [a3]
    exact b4
def isD6 (w : SV) : Prop := ∃ r : Int, w = .d (.int r)
theorem st1 {s0 s1 s3 s4 : SV} (k : Nat) (ls : List Int) (w6 : SV) (h6 : isD6 w6) (hl : ls.length < 90000) : ∃ ls' : List Int, ∃ w6', isD6 w6' ∧ ls'.length ≤ ls.length + 1 ∧ l_ulawustream_1 [s0, s1, .own false (.lst (dI ls)), s3, s4, .d (.int k), w6] = some (.nx [s0, s1, .own false (.lst (dI ls')), s3, s4, .d (.int k), w6']) := by
  obtain ⟨r, rfl⟩ := h6
  have hc : two (op2 gtD) (varE 6) (constE (.int 0)) [s0, s1, .own false (.lst (dI ls)), s3, s4, .d (.int k), .d (.int r)] = some (.ok (.d (.bl (decide ((0 : Int) < r)))) [s0, s1, .own false (.lst (dI ls)), s3, s4, .d (.int k), .d (.int r)]) := ev_two (ev_var rfl) ev_const pk_d pk_d Dw.gt_int'
  unfold l_ulawustream_1
  cases hb : decide ((0 : Int) < r) with
  | false => rw [hb] at hc; exact ⟨ls, .d (.int r), ⟨r, rfl⟩, by omega, ev_iteF hc rfl ev_skip⟩
  | true =>
    rw [hb] at hc
    refine ⟨ls ++ [r % 1000], .d (.int (r / 1000)), ⟨_, rfl⟩, by simp, ev_iteT hc rfl (ev_seq2 (env1 := [s0, s1, .own false (.lst (dI (ls ++ [r % 1000]))), s3, s4, .d (.int k), .d (.int r)]) ?_ ?_)⟩
    · repeat' (first | with_reducible exact mod_ok (by decide) | with_reducible exact app_dI hl | with_reducible exact Dw.ty_str | with_reducible exact Dw.ty_lst | with_reducible exact Dw.lst_eq | with_reducible exact Dw.set_z | with_reducible exact Dw.ret_d | with_reducible exact Dw.ret_own | with_reducible exact Dw.mapd_nn | with_reducible exact Dw.ev_const | with_reducible exact Dw.ev_nil | with_reducible exact Dw.pk_d | with_reducible exact Dw.pk_own | with_reducible exact Dw.pks_nil | with_reducible exact Dw.frz_d | with_reducible exact Dw.frz_own | with_reducible exact Dw.frzs_nil | with_reducible exact Dw.tru_bl | with_reducible exact Dw.ev_skip | with_reducible exact Dw.len_lst | with_reducible exact Dw.len_tup | with_reducible exact Dw.eq_int | with_reducible exact Dw.ne_int | with_reducible exact Dw.eq_str | with_reducible exact Dw.ne_str | with_reducible exact Dw.eq_bl | with_reducible exact Dw.ne_bl | with_reducible exact Dw.lt_int' | with_reducible exact Dw.lt_str' | with_reducible exact Dw.le_int' | with_reducible exact Dw.gt_int' | with_reducible exact Dw.ge_int' | with_reducible exact Dw.add_int' | with_reducible exact Dw.sub_int' | with_reducible exact Dw.neg_int' | with_reducible exact Dw.ord_str | with_reducible exact Dw.int_int | with_reducible exact Dw.int_bl | with_reducible exact Dw.list_lst | with_reducible exact Dw.list_tup | with_reducible exact Dw.tup_lst | with_reducible exact Dw.tup_tup | with_reducible exact Dw.it_lst | with_reducible exact Dw.it_tup | with_reducible exact Dw.it_str | ((with_reducible apply Dw.ev_var); exact rfl) | ((with_reducible apply Dw.ev_varO); exact rfl) | ((with_reducible apply Dw.pk_cv); exact rfl) | ((with_reducible apply Dw.fs_ok); exact rfl) | ((with_reducible apply Dw.gE); exact rfl) | with_reducible apply Dw.ev_two | with_reducible apply Dw.ev_one | with_reducible apply Dw.ev_cons | with_reducible apply Dw.pks_cons | with_reducible apply Dw.ev_callE | with_reducible apply Dw.ev_isi | with_reducible apply Dw.frzs_cons | with_reducible apply Dw.ev_tup | with_reducible apply Dw.ev_lst | with_reducible apply Dw.ev_not | with_reducible apply Dw.ev_met | with_reducible apply Dw.ev_mut | with_reducible apply Dw.ev_ret | with_reducible apply Dw.ev_expr | with_reducible apply Dw.ev_asg | with_reducible apply Dw.ev_args | with_reducible apply Dw.ev_src | with_reducible apply Dw.ev_callD | with_reducible apply Dw.mapd_c | with_reducible apply Dw.mapd_d | with_reducible apply Dw.set_s | with_reducible apply Dw.st_d | with_reducible apply Dw.st_own | with_reducible apply Dw.st_cv | with_reducible apply Dw.frz_cv | ((with_reducible apply Dw.len_str); assumption) | ((with_reducible apply Dw.get_str) <;> assumption) | with_reducible assumption)
    · repeat' (first | with_reducible exact fdiv_ok (by decide) (by decide) | with_reducible exact Dw.ty_str | with_reducible exact Dw.ty_lst | with_reducible exact Dw.lst_eq | with_reducible exact Dw.set_z | with_reducible exact Dw.ret_d | with_reducible exact Dw.ret_own | with_reducible exact Dw.mapd_nn | with_reducible exact Dw.ev_const | with_reducible exact Dw.ev_nil | with_reducible exact Dw.pk_d | with_reducible exact Dw.pk_own | with_reducible exact Dw.pks_nil | with_reducible exact Dw.frz_d | with_reducible exact Dw.frz_own | with_reducible exact Dw.frzs_nil | with_reducible exact Dw.tru_bl | with_reducible exact Dw.ev_skip | with_reducible exact Dw.len_lst | with_reducible exact Dw.len_tup | with_reducible exact Dw.eq_int | with_reducible exact Dw.ne_int | with_reducible exact Dw.eq_str | with_reducible exact Dw.ne_str | with_reducible exact Dw.eq_bl | with_reducible exact Dw.ne_bl | with_reducible exact Dw.lt_int' | with_reducible exact Dw.lt_str' | with_reducible exact Dw.le_int' | with_reducible exact Dw.gt_int' | with_reducible exact Dw.ge_int' | with_reducible exact Dw.add_int' | with_reducible exact Dw.sub_int' | with_reducible exact Dw.neg_int' | with_reducible exact Dw.ord_str | with_reducible exact Dw.int_int | with_reducible exact Dw.int_bl | with_reducible exact Dw.list_lst | with_reducible exact Dw.list_tup | with_reducible exact Dw.tup_lst | with_reducible exact Dw.tup_tup | with_reducible exact Dw.it_lst | with_reducible exact Dw.it_tup | with_reducible exact Dw.it_str | ((with_reducible apply Dw.ev_var); exact rfl) | ((with_reducible apply Dw.ev_varO); exact rfl) | ((with_reducible apply Dw.pk_cv); exact rfl) | ((with_reducible apply Dw.fs_ok); exact rfl) | ((with_reducible apply Dw.gE); exact rfl) | with_reducible apply Dw.ev_two | with_reducible apply Dw.ev_one | with_reducible apply Dw.ev_cons | with_reducible apply Dw.pks_cons | with_reducible apply Dw.ev_callE | with_reducible apply Dw.ev_isi | with_reducible apply Dw.frzs_cons | with_reducible apply Dw.ev_tup | with_reducible apply Dw.ev_lst | with_reducible apply Dw.ev_not | with_reducible apply Dw.ev_met | with_reducible apply Dw.ev_mut | with_reducible apply Dw.ev_ret | with_reducible apply Dw.ev_expr | with_reducible apply Dw.ev_asg | with_reducible apply Dw.ev_args | with_reducible apply Dw.ev_src | with_reducible apply Dw.ev_callD | with_reducible apply Dw.mapd_c | with_reducible apply Dw.mapd_d | with_reducible apply Dw.set_s | with_reducible apply Dw.st_d | with_reducible apply Dw.st_own | with_reducible apply Dw.st_cv | with_reducible apply Dw.frz_cv | ((with_reducible apply Dw.len_str); assumption) | ((with_reducible apply Dw.get_str) <;> assumption) | with_reducible assumption)
theorem st2 {s0 s1 s3 s4 : SV} (k : Nat) (ls : List Int) (w6 : SV) (h6 : isD6 w6) (hl : ls.length < 90000) : ∃ ls' : List Int, ∃ w6', isD6 w6' ∧ ls'.length ≤ ls.length + 1 ∧ l_ulawustream_2 [s0, s1, .own false (.lst (dI ls)), s3, s4, .d (.int k), w6] = some (.nx [s0, s1, .own false (.lst (dI ls')), s3, s4, .d (.int k), w6']) := by
  obtain ⟨r, rfl⟩ := h6
  obtain ⟨v, o, h⟩ := ev_mixed r k
  refine ⟨ls ++ [v], .d (.int r), ⟨r, rfl⟩, by simp, ?_⟩
  unfold l_ulawustream_2
  repeat' (first | with_reducible exact h | with_reducible exact app_dI hl | with_reducible exact Dw.ty_str | with_reducible exact Dw.ty_lst | with_reducible exact Dw.lst_eq | with_reducible exact Dw.set_z | with_reducible exact Dw.ret_d | with_reducible exact Dw.ret_own | with_reducible exact Dw.mapd_nn | with_reducible exact Dw.ev_const | with_reducible exact Dw.ev_nil | with_reducible exact Dw.pk_d | with_reducible exact Dw.pk_own | with_reducible exact Dw.pks_nil | with_reducible exact Dw.frz_d | with_reducible exact Dw.frz_own | with_reducible exact Dw.frzs_nil | with_reducible exact Dw.tru_bl | with_reducible exact Dw.ev_skip | with_reducible exact Dw.len_lst | with_reducible exact Dw.len_tup | with_reducible exact Dw.eq_int | with_reducible exact Dw.ne_int | with_reducible exact Dw.eq_str | with_reducible exact Dw.ne_str | with_reducible exact Dw.eq_bl | with_reducible exact Dw.ne_bl | with_reducible exact Dw.lt_int' | with_reducible exact Dw.lt_str' | with_reducible exact Dw.le_int' | with_reducible exact Dw.gt_int' | with_reducible exact Dw.ge_int' | with_reducible exact Dw.add_int' | with_reducible exact Dw.sub_int' | with_reducible exact Dw.neg_int' | with_reducible exact Dw.ord_str | with_reducible exact Dw.int_int | with_reducible exact Dw.int_bl | with_reducible exact Dw.list_lst | with_reducible exact Dw.list_tup | with_reducible exact Dw.tup_lst | with_reducible exact Dw.tup_tup | with_reducible exact Dw.it_lst | with_reducible exact Dw.it_tup | with_reducible exact Dw.it_str | ((with_reducible apply Dw.ev_var); exact rfl) | ((with_reducible apply Dw.ev_varO); exact rfl) | ((with_reducible apply Dw.pk_cv); exact rfl) | ((with_reducible apply Dw.fs_ok); exact rfl) | ((with_reducible apply Dw.gE); exact rfl) | with_reducible apply Dw.ev_two | with_reducible apply Dw.ev_one | with_reducible apply Dw.ev_cons | with_reducible apply Dw.pks_cons | with_reducible apply Dw.ev_callE | with_reducible apply Dw.ev_isi | with_reducible apply Dw.frzs_cons | with_reducible apply Dw.ev_tup | with_reducible apply Dw.ev_lst | with_reducible apply Dw.ev_not | with_reducible apply Dw.ev_met | with_reducible apply Dw.ev_mut | with_reducible apply Dw.ev_ret | with_reducible apply Dw.ev_expr | with_reducible apply Dw.ev_asg | with_reducible apply Dw.ev_args | with_reducible apply Dw.ev_src | with_reducible apply Dw.ev_callD | with_reducible apply Dw.mapd_c | with_reducible apply Dw.mapd_d | with_reducible apply Dw.set_s | with_reducible apply Dw.st_d | with_reducible apply Dw.st_own | with_reducible apply Dw.st_cv | with_reducible apply Dw.frz_cv | ((with_reducible apply Dw.len_str); assumption) | ((with_reducible apply Dw.get_str) <;> assumption) | with_reducible assumption)
theorem st4 {s0 s1 s3 : SV} {f : Int} (k : Nat) (ls : List Int) (w6 : SV) (h6 : True) (hl : ls.length < 90000) : ∃ ls' : List Int, ∃ w6', True ∧ ls'.length ≤ ls.length + 1 ∧ l_ulawustream_4 [s0, s1, .own false (.lst (dI ls)), s3, .d (.int f), .d (.int k), w6] = some (.nx [s0, s1, .own false (.lst (dI ls')), s3, .d (.int f), .d (.int k), w6']) := by
  obtain ⟨v, o, h⟩ := ev_mixed f ((k : Int) + 4)
  refine ⟨ls ++ [v], w6, trivial, by simp, ?_⟩
  unfold l_ulawustream_4
  repeat' (first | with_reducible exact h | with_reducible exact app_dI hl | with_reducible exact Dw.ty_str | with_reducible exact Dw.ty_lst | with_reducible exact Dw.lst_eq | with_reducible exact Dw.set_z | with_reducible exact Dw.ret_d | with_reducible exact Dw.ret_own | with_reducible exact Dw.mapd_nn | with_reducible exact Dw.ev_const | with_reducible exact Dw.ev_nil | with_reducible exact Dw.pk_d | with_reducible exact Dw.pk_own | with_reducible exact Dw.pks_nil | with_reducible exact Dw.frz_d | with_reducible exact Dw.frz_own | with_reducible exact Dw.frzs_nil | with_reducible exact Dw.tru_bl | with_reducible exact Dw.ev_skip | with_reducible exact Dw.len_lst | with_reducible exact Dw.len_tup | with_reducible exact Dw.eq_int | with_reducible exact Dw.ne_int | with_reducible exact Dw.eq_str | with_reducible exact Dw.ne_str | with_reducible exact Dw.eq_bl | with_reducible exact Dw.ne_bl | with_reducible exact Dw.lt_int' | with_reducible exact Dw.lt_str' | with_reducible exact Dw.le_int' | with_reducible exact Dw.gt_int' | with_reducible exact Dw.ge_int' | with_reducible exact Dw.add_int' | with_reducible exact Dw.sub_int' | with_reducible exact Dw.neg_int' | with_reducible exact Dw.ord_str | with_reducible exact Dw.int_int | with_reducible exact Dw.int_bl | with_reducible exact Dw.list_lst | with_reducible exact Dw.list_tup | with_reducible exact Dw.tup_lst | with_reducible exact Dw.tup_tup | with_reducible exact Dw.it_lst | with_reducible exact Dw.it_tup | with_reducible exact Dw.it_str | ((with_reducible apply Dw.ev_var); exact rfl) | ((with_reducible apply Dw.ev_varO); exact rfl) | ((with_reducible apply Dw.pk_cv); exact rfl) | ((with_reducible apply Dw.fs_ok); exact rfl) | ((with_reducible apply Dw.gE); exact rfl) | with_reducible apply Dw.ev_two | with_reducible apply Dw.ev_one | with_reducible apply Dw.ev_cons | with_reducible apply Dw.pks_cons | with_reducible apply Dw.ev_callE | with_reducible apply Dw.ev_isi | with_reducible apply Dw.frzs_cons | with_reducible apply Dw.ev_tup | with_reducible apply Dw.ev_lst | with_reducible apply Dw.ev_not | with_reducible apply Dw.ev_met | with_reducible apply Dw.ev_mut | with_reducible apply Dw.ev_ret | with_reducible apply Dw.ev_expr | with_reducible apply Dw.ev_asg | with_reducible apply Dw.ev_args | with_reducible apply Dw.ev_src | with_reducible apply Dw.ev_callD | with_reducible apply Dw.mapd_c | with_reducible apply Dw.mapd_d | with_reducible apply Dw.set_s | with_reducible apply Dw.st_d | with_reducible apply Dw.st_own | with_reducible apply Dw.st_cv | with_reducible apply Dw.frz_cv | ((with_reducible apply Dw.len_str); assumption) | ((with_reducible apply Dw.get_str) <;> assumption) | with_reducible assumption)
theorem st3 {s0 s1 s4 w5 w6 : SV} {z : Int} {ls : List Int} (h5 : flat w5 = true) (h6 : flat w6 = true) (hl : ls.length ≤ 80000) : ∃ ls' : List Int, ∃ w5' w6', flat w5' = true ∧ flat w6' = true ∧ ls'.length ≤ ls.length + 60 ∧ l_ulawustream_3 [s0, s1, .own false (.lst (dI ls)), .d (.int z), s4, w5, w6] = some (.nx [s0, s1, .own false (.lst (dI ls')), .d (.int z), s4, w5', w6']) := by
  have f6 := flat_free h6
  have a1 : absC [.int z] = some (.d (.int (if z < 0 then -z else z))) := rfl
  generalize (if z < 0 then -z else z) = r at a1
  have e1 : asgS 6 (callE absC (consA (callE intC (consA (varE 3) nilA)) nilA)) [s0, s1, .own false (.lst (dI ls)), .d (.int z), s4, w5, w6] = some (.nx [s0, s1, .own false (.lst (dI ls)), .d (.int z), s4, w5, .d (.int r)]) := by
    repeat' (first | with_reducible exact a1 | exact f6 | with_reducible exact Dw.ty_str | with_reducible exact Dw.ty_lst | with_reducible exact Dw.lst_eq | with_reducible exact Dw.set_z | with_reducible exact Dw.ret_d | with_reducible exact Dw.ret_own | with_reducible exact Dw.mapd_nn | with_reducible exact Dw.ev_const | with_reducible exact Dw.ev_nil | with_reducible exact Dw.pk_d | with_reducible exact Dw.pk_own | with_reducible exact Dw.pks_nil | with_reducible exact Dw.frz_d | with_reducible exact Dw.frz_own | with_reducible exact Dw.frzs_nil | with_reducible exact Dw.tru_bl | with_reducible exact Dw.ev_skip | with_reducible exact Dw.len_lst | with_reducible exact Dw.len_tup | with_reducible exact Dw.eq_int | with_reducible exact Dw.ne_int | with_reducible exact Dw.eq_str | with_reducible exact Dw.ne_str | with_reducible exact Dw.eq_bl | with_reducible exact Dw.ne_bl | with_reducible exact Dw.lt_int' | with_reducible exact Dw.lt_str' | with_reducible exact Dw.le_int' | with_reducible exact Dw.gt_int' | with_reducible exact Dw.ge_int' | with_reducible exact Dw.add_int' | with_reducible exact Dw.sub_int' | with_reducible exact Dw.neg_int' | with_reducible exact Dw.ord_str | with_reducible exact Dw.int_int | with_reducible exact Dw.int_bl | with_reducible exact Dw.list_lst | with_reducible exact Dw.list_tup | with_reducible exact Dw.tup_lst | with_reducible exact Dw.tup_tup | with_reducible exact Dw.it_lst | with_reducible exact Dw.it_tup | with_reducible exact Dw.it_str | ((with_reducible apply Dw.ev_var); exact rfl) | ((with_reducible apply Dw.ev_varO); exact rfl) | ((with_reducible apply Dw.pk_cv); exact rfl) | ((with_reducible apply Dw.fs_ok); exact rfl) | ((with_reducible apply Dw.gE); exact rfl) | with_reducible apply Dw.ev_two | with_reducible apply Dw.ev_one | with_reducible apply Dw.ev_cons | with_reducible apply Dw.pks_cons | with_reducible apply Dw.ev_callE | with_reducible apply Dw.ev_isi | with_reducible apply Dw.frzs_cons | with_reducible apply Dw.ev_tup | with_reducible apply Dw.ev_lst | with_reducible apply Dw.ev_not | with_reducible apply Dw.ev_met | with_reducible apply Dw.ev_mut | with_reducible apply Dw.ev_ret | with_reducible apply Dw.ev_expr | with_reducible apply Dw.ev_asg | with_reducible apply Dw.ev_args | with_reducible apply Dw.ev_src | with_reducible apply Dw.ev_callD | with_reducible apply Dw.mapd_c | with_reducible apply Dw.mapd_d | with_reducible apply Dw.set_s | with_reducible apply Dw.st_d | with_reducible apply Dw.st_own | with_reducible apply Dw.st_cv | with_reducible apply Dw.frz_cv | ((with_reducible apply Dw.len_str); assumption) | ((with_reducible apply Dw.get_str) <;> assumption) | with_reducible assumption)
  have hc : two (op2 geD) (varE 6) (constE (.int 1000000000000000000)) [s0, s1, .own false (.lst (dI ls)), .d (.int z), s4, w5, .d (.int r)] = some (.ok (.d (.bl (decide ((1000000000000000000 : Int) ≤ r)))) [s0, s1, .own false (.lst (dI ls)), .d (.int z), s4, w5, .d (.int r)]) := ev_two (ev_var rfl) ev_const pk_d pk_d Dw.ge_int'
  have flat6 : ∀ w, isD6 w → flat w = true := fun w ⟨_, h⟩ => by rw [h]; rfl
  unfold l_ulawustream_3
  cases hb : decide ((1000000000000000000 : Int) ≤ r) with
  | true =>
    rw [hb] at hc
    obtain ⟨l1, w5', w6', b1, b2, b3, b4⟩ := grow_loop (s0 := s0) (s1 := s1) (s3 := .d (.int z)) (s4 := s4) st1 (List.range 60) ls w5 (.d (.int r)) h5 ⟨r, rfl⟩ (by simp; omega)
    refine ⟨l1, w5', w6', b1, flat6 _ b2, by simpa using b3, ev_seq2 e1 (ev_iteT hc rfl ?_)⟩
    rw [ev_for (ev_args (as := [.d (.int 60)]) (ev_cons ev_const ev_nil) rfl (rng1_nat (n := 60) (by decide)))]
    exact b4
  | false =>
    rw [hb] at hc
    obtain ⟨l1, w5', w6', b1, b2, b3, b4⟩ := grow_loop (s0 := s0) (s1 := s1) (s3 := .d (.int z)) (s4 := s4) st2 (List.range 4) ls w5 (.d (.int r)) h5 ⟨r, rfl⟩ (by simp; omega)
    refine ⟨l1, w5', w6', b1, flat6 _ b2, by simp at b3; omega, ev_seq2 e1 (ev_iteF hc rfl ?_)⟩
    rw [ev_for (ev_args (as := [.d (.int 4)]) (ev_cons ev_const ev_nil) rfl (rng1_nat (n := 4) (by decide)))]
    exact b4
theorem st3_loop {s0 s1 s4 : SV} : ∀ (zs : List Int) (ls : List Int) (w3 w5 w6 : SV), flat w3 = true → flat w5 = true → flat w6 = true → ls.length + 60 * zs.length ≤ 80000 → ∃ ls' : List Int, ∃ w3' w5' w6', flat w3' = true ∧ flat w5' = true ∧ flat w6' = true ∧ ls'.length ≤ ls.length + 60 * zs.length ∧
    loopD (.nm 3) l_ulawustream_3 (dI zs) [s0, s1, .own false (.lst (dI ls)), w3, s4, w5, w6] = some (.nx [s0, s1, .own false (.lst (dI ls')), w3', s4, w5', w6'])
  | [], ls, w3, w5, w6, h3, h5, h6, _ => ⟨ls, w3, w5, w6, h3, h5, h6, by simp, rfl⟩
  | z :: zs, ls, w3, w5, w6, h3, h5, h6, hl => by
    rw [List.length_cons] at hl
    have f3 := flat_free h3
    obtain ⟨l1, a5, a6, a1, a2, a3, a4⟩ := st3 (s0 := s0) (s1 := s1) (s4 := s4) (z := z) (ls := ls) h5 h6 (by omega)
    obtain ⟨l2, w3', w5', w6', b1, b2, b3, b4, b5⟩ := st3_loop (s0 := s0) (s1 := s1) (s4 := s4) zs l1 (.d (.int z)) a5 a6 rfl a1 a2 (by omega)
    refine ⟨l2, w3', w5', w6', b1, b2, b3, by rw [List.length_cons]; omega, ?_⟩
    rw [dI, List.map_cons, loopD]
    simp only [putT, setSlot, List.getElem?_cons_succ, List.getElem?_cons_zero, f3, if_true, Option.bind_some, List.set_cons_succ, List.set_cons_zero]
    rw [a4]
    exact b5
theorem cut_dI (rs : List Int) (lo hi : Option Int) : cutL (dI rs) lo hi = dI (cutL rs lo hi) := by
  unfold cutL dI
  rw [List.length_map, List.map_take, List.map_drop]
theorem ev_stream (ns : List Int) (hn : ns.length ≤ 63) : ∃ ls : List Int, ∃ o, m_ulawustream [.d (.lst (dI ns)), .d (.int 300)] = some (.ok (.own (.lst (dI ls))) o) := by
  have hcl : (cutL ns none (some 63)).length ≤ 63 := by
    unfold cutL
    rw [List.length_take, List.length_drop]
    omega
  have sl : sliceE (varE 0) none (some (constE (.int 63))) [.d (.lst (dI ns)), .d (.int 300), .own false (.lst (dI [])), .un, .un, .un, .un] = some (.ok (.own (.lst (dI (cutL ns none (some 63))))) [.d (.lst (dI ns)), .d (.int 300), .own false (.lst (dI [])), .un, .un, .un, .un]) :=
    ev_sl (a := .d (.lst (dI ns))) (ev_var rfl) (fun k => bo_none) (fun k => bo_some (a := .d (.int 63)) ev_const rfl) rfl (by rw [← cut_dI]; rfl)
  obtain ⟨l1, w3, w5, w6, a1, a2, a3, a4, a5⟩ := st3_loop (s0 := .d (.lst (dI ns))) (s1 := .d (.int 300)) (s4 := .un) (cutL ns none (some 63)) [] .un .un .un rfl rfl rfl (by simp; omega)
  have sif : ∃ f : Int, iteS (two (op2 gtD) (callE lenD (consA (varE 0) nilA)) (constE (.int 0))) (asgS 4 (callE absC (consA (callE intC (consA (two (op2 getD) (varE 0) (constE (.int 0))) nilA)) nilA))) skipS [.d (.lst (dI ns)), .d (.int 300), .own false (.lst (dI l1)), w3, .d (.int 0), w5, w6] = some (.nx [.d (.lst (dI ns)), .d (.int 300), .own false (.lst (dI l1)), w3, .d (.int f), w5, w6]) := by
    have hc : two (op2 gtD) (callE lenD (consA (varE 0) nilA)) (constE (.int 0)) [.d (.lst (dI ns)), .d (.int 300), .own false (.lst (dI l1)), w3, .d (.int 0), w5, w6] = some (.ok (.d (.bl (decide ((0 : Int) < (dI ns).length)))) [.d (.lst (dI ns)), .d (.int 300), .own false (.lst (dI l1)), w3, .d (.int 0), w5, w6]) := by repeat' (first  | with_reducible exact Dw.ty_str | with_reducible exact Dw.ty_lst | with_reducible exact Dw.lst_eq | with_reducible exact Dw.set_z | with_reducible exact Dw.ret_d | with_reducible exact Dw.ret_own | with_reducible exact Dw.mapd_nn | with_reducible exact Dw.ev_const | with_reducible exact Dw.ev_nil | with_reducible exact Dw.pk_d | with_reducible exact Dw.pk_own | with_reducible exact Dw.pks_nil | with_reducible exact Dw.frz_d | with_reducible exact Dw.frz_own | with_reducible exact Dw.frzs_nil | with_reducible exact Dw.tru_bl | with_reducible exact Dw.ev_skip | with_reducible exact Dw.len_lst | with_reducible exact Dw.len_tup | with_reducible exact Dw.eq_int | with_reducible exact Dw.ne_int | with_reducible exact Dw.eq_str | with_reducible exact Dw.ne_str | with_reducible exact Dw.eq_bl | with_reducible exact Dw.ne_bl | with_reducible exact Dw.lt_int' | with_reducible exact Dw.lt_str' | with_reducible exact Dw.le_int' | with_reducible exact Dw.gt_int' | with_reducible exact Dw.ge_int' | with_reducible exact Dw.add_int' | with_reducible exact Dw.sub_int' | with_reducible exact Dw.neg_int' | with_reducible exact Dw.ord_str | with_reducible exact Dw.int_int | with_reducible exact Dw.int_bl | with_reducible exact Dw.list_lst | with_reducible exact Dw.list_tup | with_reducible exact Dw.tup_lst | with_reducible exact Dw.tup_tup | with_reducible exact Dw.it_lst | with_reducible exact Dw.it_tup | with_reducible exact Dw.it_str | ((with_reducible apply Dw.ev_var); exact rfl) | ((with_reducible apply Dw.ev_varO); exact rfl) | ((with_reducible apply Dw.pk_cv); exact rfl) | ((with_reducible apply Dw.fs_ok); exact rfl) | ((with_reducible apply Dw.gE); exact rfl) | with_reducible apply Dw.ev_two | with_reducible apply Dw.ev_one | with_reducible apply Dw.ev_cons | with_reducible apply Dw.pks_cons | with_reducible apply Dw.ev_callE | with_reducible apply Dw.ev_isi | with_reducible apply Dw.frzs_cons | with_reducible apply Dw.ev_tup | with_reducible apply Dw.ev_lst | with_reducible apply Dw.ev_not | with_reducible apply Dw.ev_met | with_reducible apply Dw.ev_mut | with_reducible apply Dw.ev_ret | with_reducible apply Dw.ev_expr | with_reducible apply Dw.ev_asg | with_reducible apply Dw.ev_args | with_reducible apply Dw.ev_src | with_reducible apply Dw.ev_callD | with_reducible apply Dw.mapd_c | with_reducible apply Dw.mapd_d | with_reducible apply Dw.set_s | with_reducible apply Dw.st_d | with_reducible apply Dw.st_own | with_reducible apply Dw.st_cv | with_reducible apply Dw.frz_cv | ((with_reducible apply Dw.len_str); assumption) | ((with_reducible apply Dw.get_str) <;> assumption) | with_reducible assumption)
    cases ns with
    | nil => exact ⟨0, ev_iteF hc rfl ev_skip⟩
    | cons z zs =>
      have hb : decide ((0 : Int) < (dI (z :: zs)).length) = true := by simp <;> omega
      rw [hb] at hc
      have g : getD (.lst (dI (z :: zs))) (.int 0) = some (.d (.int z)) := Dw.get_lst (L2.atI_nat (j := 0) rfl)
      have ab : absC [.int z] = some (.d (.int (if z < 0 then -z else z))) := rfl
      exact ⟨_, ev_iteT hc rfl (by repeat' (first | with_reducible exact g | with_reducible exact ab | with_reducible exact Dw.ty_str | with_reducible exact Dw.ty_lst | with_reducible exact Dw.lst_eq | with_reducible exact Dw.set_z | with_reducible exact Dw.ret_d | with_reducible exact Dw.ret_own | with_reducible exact Dw.mapd_nn | with_reducible exact Dw.ev_const | with_reducible exact Dw.ev_nil | with_reducible exact Dw.pk_d | with_reducible exact Dw.pk_own | with_reducible exact Dw.pks_nil | with_reducible exact Dw.frz_d | with_reducible exact Dw.frz_own | with_reducible exact Dw.frzs_nil | with_reducible exact Dw.tru_bl | with_reducible exact Dw.ev_skip | with_reducible exact Dw.len_lst | with_reducible exact Dw.len_tup | with_reducible exact Dw.eq_int | with_reducible exact Dw.ne_int | with_reducible exact Dw.eq_str | with_reducible exact Dw.ne_str | with_reducible exact Dw.eq_bl | with_reducible exact Dw.ne_bl | with_reducible exact Dw.lt_int' | with_reducible exact Dw.lt_str' | with_reducible exact Dw.le_int' | with_reducible exact Dw.gt_int' | with_reducible exact Dw.ge_int' | with_reducible exact Dw.add_int' | with_reducible exact Dw.sub_int' | with_reducible exact Dw.neg_int' | with_reducible exact Dw.ord_str | with_reducible exact Dw.int_int | with_reducible exact Dw.int_bl | with_reducible exact Dw.list_lst | with_reducible exact Dw.list_tup | with_reducible exact Dw.tup_lst | with_reducible exact Dw.tup_tup | with_reducible exact Dw.it_lst | with_reducible exact Dw.it_tup | with_reducible exact Dw.it_str | ((with_reducible apply Dw.ev_var); exact rfl) | ((with_reducible apply Dw.ev_varO); exact rfl) | ((with_reducible apply Dw.pk_cv); exact rfl) | ((with_reducible apply Dw.fs_ok); exact rfl) | ((with_reducible apply Dw.gE); exact rfl) | with_reducible apply Dw.ev_two | with_reducible apply Dw.ev_one | with_reducible apply Dw.ev_cons | with_reducible apply Dw.pks_cons | with_reducible apply Dw.ev_callE | with_reducible apply Dw.ev_isi | with_reducible apply Dw.frzs_cons | with_reducible apply Dw.ev_tup | with_reducible apply Dw.ev_lst | with_reducible apply Dw.ev_not | with_reducible apply Dw.ev_met | with_reducible apply Dw.ev_mut | with_reducible apply Dw.ev_ret | with_reducible apply Dw.ev_expr | with_reducible apply Dw.ev_asg | with_reducible apply Dw.ev_args | with_reducible apply Dw.ev_src | with_reducible apply Dw.ev_callD | with_reducible apply Dw.mapd_c | with_reducible apply Dw.mapd_d | with_reducible apply Dw.set_s | with_reducible apply Dw.st_d | with_reducible apply Dw.st_own | with_reducible apply Dw.st_cv | with_reducible apply Dw.frz_cv | ((with_reducible apply Dw.len_str); assumption) | ((with_reducible apply Dw.get_str) <;> assumption) | with_reducible assumption))⟩
  obtain ⟨f, sif⟩ := sif
  obtain ⟨l2, w5', w6', b1, b2, b3, b4⟩ := grow_loop (s0 := .d (.lst (dI ns))) (s1 := .d (.int 300)) (s3 := w3) (s4 := .d (.int f)) (P6 := fun _ => True) st4 (List.range 300) l1 w5 w6 a2 trivial (by simp at a4 ⊢; omega)
  refine ⟨l2, [.d (.lst (dI ns)), .d (.int 300)], defM_rt (a := .cv 2) (env := [.d (.lst (dI ns)), .d (.int 300), .own false (.lst (dI l2)), w3, .d (.int f), w5', w6']) [.d (.lst (dI ns)), .d (.int 300), .un, .un, .un, .un, .un] rfl rfl ?_ rfl rfl⟩
  unfold b_ulawustream
  refine ev_seq2 (env1 := [.d (.lst (dI ns)), .d (.int 300), .own false (.lst (dI [])), .un, .un, .un, .un]) (ev_asg (a := .own (.lst [])) (ev_lst ev_nil frzs_nil (Nat.zero_le _)) (st_own rfl rfl)) ?_
  refine ev_seq2 (env1 := [.d (.lst (dI ns)), .d (.int 300), .own false (.lst (dI l1)), w3, .un, w5, w6]) ?_ ?_
  · rw [ev_for (ev_src (x := .lst (dI (cutL ns none (some 63)))) (xs := dI (cutL ns none (some 63))) sl rfl rfl)]
    exact a5
  refine ev_seq2 (env1 := [.d (.lst (dI ns)), .d (.int 300), .own false (.lst (dI l1)), w3, .d (.int 0), w5, w6]) (by repeat' (first  | with_reducible exact Dw.ty_str | with_reducible exact Dw.ty_lst | with_reducible exact Dw.lst_eq | with_reducible exact Dw.set_z | with_reducible exact Dw.ret_d | with_reducible exact Dw.ret_own | with_reducible exact Dw.mapd_nn | with_reducible exact Dw.ev_const | with_reducible exact Dw.ev_nil | with_reducible exact Dw.pk_d | with_reducible exact Dw.pk_own | with_reducible exact Dw.pks_nil | with_reducible exact Dw.frz_d | with_reducible exact Dw.frz_own | with_reducible exact Dw.frzs_nil | with_reducible exact Dw.tru_bl | with_reducible exact Dw.ev_skip | with_reducible exact Dw.len_lst | with_reducible exact Dw.len_tup | with_reducible exact Dw.eq_int | with_reducible exact Dw.ne_int | with_reducible exact Dw.eq_str | with_reducible exact Dw.ne_str | with_reducible exact Dw.eq_bl | with_reducible exact Dw.ne_bl | with_reducible exact Dw.lt_int' | with_reducible exact Dw.lt_str' | with_reducible exact Dw.le_int' | with_reducible exact Dw.gt_int' | with_reducible exact Dw.ge_int' | with_reducible exact Dw.add_int' | with_reducible exact Dw.sub_int' | with_reducible exact Dw.neg_int' | with_reducible exact Dw.ord_str | with_reducible exact Dw.int_int | with_reducible exact Dw.int_bl | with_reducible exact Dw.list_lst | with_reducible exact Dw.list_tup | with_reducible exact Dw.tup_lst | with_reducible exact Dw.tup_tup | with_reducible exact Dw.it_lst | with_reducible exact Dw.it_tup | with_reducible exact Dw.it_str | ((with_reducible apply Dw.ev_var); exact rfl) | ((with_reducible apply Dw.ev_varO); exact rfl) | ((with_reducible apply Dw.pk_cv); exact rfl) | ((with_reducible apply Dw.fs_ok); exact rfl) | ((with_reducible apply Dw.gE); exact rfl) | with_reducible apply Dw.ev_two | with_reducible apply Dw.ev_one | with_reducible apply Dw.ev_cons | with_reducible apply Dw.pks_cons | with_reducible apply Dw.ev_callE | with_reducible apply Dw.ev_isi | with_reducible apply Dw.frzs_cons | with_reducible apply Dw.ev_tup | with_reducible apply Dw.ev_lst | with_reducible apply Dw.ev_not | with_reducible apply Dw.ev_met | with_reducible apply Dw.ev_mut | with_reducible apply Dw.ev_ret | with_reducible apply Dw.ev_expr | with_reducible apply Dw.ev_asg | with_reducible apply Dw.ev_args | with_reducible apply Dw.ev_src | with_reducible apply Dw.ev_callD | with_reducible apply Dw.mapd_c | with_reducible apply Dw.mapd_d | with_reducible apply Dw.set_s | with_reducible apply Dw.st_d | with_reducible apply Dw.st_own | with_reducible apply Dw.st_cv | with_reducible apply Dw.frz_cv | ((with_reducible apply Dw.len_str); assumption) | ((with_reducible apply Dw.get_str) <;> assumption) | with_reducible assumption)) ?_
  refine ev_seq2 sif ?_
  refine ev_seq2 (env1 := [.d (.lst (dI ns)), .d (.int 300), .own false (.lst (dI l2)), w3, .d (.int f), w5', w6']) ?_ (ev_ret (ev_varO rfl))
  rw [ev_for (ev_args (as := [.d (.int 300)]) (ev_cons (ev_var rfl) ev_nil) rfl (rng1_nat (n := 300) (by decide)))]
  exact b4
/-! ### the keys -/
def keyD : D → D
  | .str s => .tup [.int 0, .int s.length, .str s]
  | .int i => if i < 0 then .tup [.int 1, .int (-i)] else .tup [.int 2, .int i]
  | x => x
theorem strOk_of {x : List Nat} (h : ∀ c ∈ x, 97 ≤ c ∧ c < 123) : PyData.strOk (mk x) = true := by
  unfold PyData.strOk
  rw [Array.all_eq_true]
  intro i hi
  have : (mk x).cps[i] ∈ x := by simp [mk]
  have := h _ this
  simp; omega
theorem key_shp {x : D} (h : isVal 80 x) : shp (keyD x) = true ∧ seqD (keyD x) = true ∧ (py (keyD x)).depth ≤ 64 := by
  rcases h with ⟨s, rfl, hs, hg⟩ | ⟨i, rfl⟩
  · refine ⟨?_, rfl, ?_⟩
    · simp [keyD, shp, SeqAt.shaped, py, pys, PyData.canLay0, PyData.canLayAll0, PyData.depth, PyData.depthAll, strOk_of hg]
    · simp [keyD, py, pys, PyData.depth, PyData.depthAll]
  · by_cases hi : i < 0
    · refine ⟨?_, by simp [keyD, hi, seqD], ?_⟩
      · simp [keyD, hi, shp, SeqAt.shaped, py, pys, PyData.canLay0, PyData.canLayAll0, PyData.depth, PyData.depthAll]
      · simp [keyD, hi, py, pys, PyData.depth, PyData.depthAll]
    · refine ⟨?_, by simp [keyD, hi, seqD], ?_⟩
      · simp [keyD, hi, shp, SeqAt.shaped, py, pys, PyData.canLay0, PyData.canLayAll0, PyData.depth, PyData.depthAll]
      · simp [keyD, hi, py, pys, PyData.depth, PyData.depthAll]
theorem key_alk {x y : D} (hx : isVal 80 x) (hy : isVal 80 y) : alk (keyD x) (keyD y) = true := by
  rcases hx with ⟨s, rfl, _, _⟩ | ⟨i, rfl⟩
  · rcases hy with ⟨t, rfl, _, _⟩ | ⟨j, rfl⟩
    · simp [keyD, alk, alks]
    · by_cases hj : j < 0 <;> simp [keyD, hj, alk, alks]
  · rcases hy with ⟨t, rfl, _, _⟩ | ⟨j, rfl⟩
    · by_cases hi : i < 0 <;> simp [keyD, hi, alk, alks]
    · by_cases hi : i < 0 <;> by_cases hj : j < 0 <;> simp [keyD, hi, hj, alk, alks]
theorem ev_text_key {x : List Nat} (hx : x.length ≤ 80) : m_text_key [.d (.str x)] = some (.ok (.d (.tup [.int x.length, .str x])) [.d (.str x)]) := by
  have hs : (100000 : Nat) ≤ sizeLine := by decide
  have hxl : x.length ≤ sizeLine := by omega
  exact defM_rt (a := .d (.tup [.int x.length, .str x])) [.d (.str x)] rfl rfl (env := [.d (.str x)]) (ev_ret (ev_tup (as := [.d (.int x.length), .d (.str x)]) (by repeat' (first  | with_reducible exact Dw.ty_str | with_reducible exact Dw.ty_lst | with_reducible exact Dw.lst_eq | with_reducible exact Dw.set_z | with_reducible exact Dw.ret_d | with_reducible exact Dw.ret_own | with_reducible exact Dw.mapd_nn | with_reducible exact Dw.ev_const | with_reducible exact Dw.ev_nil | with_reducible exact Dw.pk_d | with_reducible exact Dw.pk_own | with_reducible exact Dw.pks_nil | with_reducible exact Dw.frz_d | with_reducible exact Dw.frz_own | with_reducible exact Dw.frzs_nil | with_reducible exact Dw.tru_bl | with_reducible exact Dw.ev_skip | with_reducible exact Dw.len_lst | with_reducible exact Dw.len_tup | with_reducible exact Dw.eq_int | with_reducible exact Dw.ne_int | with_reducible exact Dw.eq_str | with_reducible exact Dw.ne_str | with_reducible exact Dw.eq_bl | with_reducible exact Dw.ne_bl | with_reducible exact Dw.lt_int' | with_reducible exact Dw.lt_str' | with_reducible exact Dw.le_int' | with_reducible exact Dw.gt_int' | with_reducible exact Dw.ge_int' | with_reducible exact Dw.add_int' | with_reducible exact Dw.sub_int' | with_reducible exact Dw.neg_int' | with_reducible exact Dw.ord_str | with_reducible exact Dw.int_int | with_reducible exact Dw.int_bl | with_reducible exact Dw.list_lst | with_reducible exact Dw.list_tup | with_reducible exact Dw.tup_lst | with_reducible exact Dw.tup_tup | with_reducible exact Dw.it_lst | with_reducible exact Dw.it_tup | with_reducible exact Dw.it_str | ((with_reducible apply Dw.ev_var); exact rfl) | ((with_reducible apply Dw.ev_varO); exact rfl) | ((with_reducible apply Dw.pk_cv); exact rfl) | ((with_reducible apply Dw.fs_ok); exact rfl) | ((with_reducible apply Dw.gE); exact rfl) | with_reducible apply Dw.ev_two | with_reducible apply Dw.ev_one | with_reducible apply Dw.ev_cons | with_reducible apply Dw.pks_cons | with_reducible apply Dw.ev_callE | with_reducible apply Dw.ev_isi | with_reducible apply Dw.frzs_cons | with_reducible apply Dw.ev_tup | with_reducible apply Dw.ev_lst | with_reducible apply Dw.ev_not | with_reducible apply Dw.ev_met | with_reducible apply Dw.ev_mut | with_reducible apply Dw.ev_ret | with_reducible apply Dw.ev_expr | with_reducible apply Dw.ev_asg | with_reducible apply Dw.ev_args | with_reducible apply Dw.ev_src | with_reducible apply Dw.ev_callD | with_reducible apply Dw.mapd_c | with_reducible apply Dw.mapd_d | with_reducible apply Dw.set_s | with_reducible apply Dw.st_d | with_reducible apply Dw.st_own | with_reducible apply Dw.st_cv | with_reducible apply Dw.frz_cv | ((with_reducible apply Dw.len_str); assumption) | ((with_reducible apply Dw.get_str) <;> assumption) | with_reducible assumption)) rfl (show 2 ≤ 100000 by decide))) rfl rfl
theorem add_tup {xs ys : List D} (h : xs.length + ys.length ≤ sizeLine) : addD (.tup xs) (.tup ys) = some (.d (.tup (xs ++ ys))) := if_pos h
theorem ev_value_key {x : D} (h : isVal 80 x) : m_value_key [.d x] = some (.ok (.d (keyD x)) [.d x]) := by
  rcases h with ⟨s, rfl, hs, hg⟩ | ⟨i, rfl⟩
  · have k := ev_text_key hs
    have z3 : (3 : Nat) ≤ sizeLine := by decide
    have a1 : addD (.tup [.int 0]) (.tup [.int s.length, .str s]) = some (.d (.tup [.int 0, .int s.length, .str s])) := add_tup z3
    have t1 : tupE (consA (constE (.int 0)) nilA) [.d (.str s)] = some (.ok (.d (.tup [.int 0])) [.d (.str s)]) := ev_tup (as := [.d (.int 0)]) (ev_cons ev_const ev_nil) rfl (show 1 ≤ 100000 by decide)
    have c1 : callD m_text_key [] (consA (varE 0) nilA) [.d (.str s)] = some (.ok (.d (.tup [.int s.length, .str s])) [.d (.str s)]) := by repeat' (first | with_reducible exact k | with_reducible exact Dw.ty_str | with_reducible exact Dw.ty_lst | with_reducible exact Dw.lst_eq | with_reducible exact Dw.set_z | with_reducible exact Dw.ret_d | with_reducible exact Dw.ret_own | with_reducible exact Dw.mapd_nn | with_reducible exact Dw.ev_const | with_reducible exact Dw.ev_nil | with_reducible exact Dw.pk_d | with_reducible exact Dw.pk_own | with_reducible exact Dw.pks_nil | with_reducible exact Dw.frz_d | with_reducible exact Dw.frz_own | with_reducible exact Dw.frzs_nil | with_reducible exact Dw.tru_bl | with_reducible exact Dw.ev_skip | with_reducible exact Dw.len_lst | with_reducible exact Dw.len_tup | with_reducible exact Dw.eq_int | with_reducible exact Dw.ne_int | with_reducible exact Dw.eq_str | with_reducible exact Dw.ne_str | with_reducible exact Dw.eq_bl | with_reducible exact Dw.ne_bl | with_reducible exact Dw.lt_int' | with_reducible exact Dw.lt_str' | with_reducible exact Dw.le_int' | with_reducible exact Dw.gt_int' | with_reducible exact Dw.ge_int' | with_reducible exact Dw.add_int' | with_reducible exact Dw.sub_int' | with_reducible exact Dw.neg_int' | with_reducible exact Dw.ord_str | with_reducible exact Dw.int_int | with_reducible exact Dw.int_bl | with_reducible exact Dw.list_lst | with_reducible exact Dw.list_tup | with_reducible exact Dw.tup_lst | with_reducible exact Dw.tup_tup | with_reducible exact Dw.it_lst | with_reducible exact Dw.it_tup | with_reducible exact Dw.it_str | ((with_reducible apply Dw.ev_var); exact rfl) | ((with_reducible apply Dw.ev_varO); exact rfl) | ((with_reducible apply Dw.pk_cv); exact rfl) | ((with_reducible apply Dw.fs_ok); exact rfl) | ((with_reducible apply Dw.gE); exact rfl) | with_reducible apply Dw.ev_two | with_reducible apply Dw.ev_one | with_reducible apply Dw.ev_cons | with_reducible apply Dw.pks_cons | with_reducible apply Dw.ev_callE | with_reducible apply Dw.ev_isi | with_reducible apply Dw.frzs_cons | with_reducible apply Dw.ev_tup | with_reducible apply Dw.ev_lst | with_reducible apply Dw.ev_not | with_reducible apply Dw.ev_met | with_reducible apply Dw.ev_mut | with_reducible apply Dw.ev_ret | with_reducible apply Dw.ev_expr | with_reducible apply Dw.ev_asg | with_reducible apply Dw.ev_args | with_reducible apply Dw.ev_src | with_reducible apply Dw.ev_callD | with_reducible apply Dw.mapd_c | with_reducible apply Dw.mapd_d | with_reducible apply Dw.set_s | with_reducible apply Dw.st_d | with_reducible apply Dw.st_own | with_reducible apply Dw.st_cv | with_reducible apply Dw.frz_cv | ((with_reducible apply Dw.len_str); assumption) | ((with_reducible apply Dw.get_str) <;> assumption) | with_reducible assumption)
    exact defM_rt (a := .d (.tup [.int 0, .int s.length, .str s])) [.d (.str s)] rfl rfl (env := [.d (.str s)]) (ev_seq_rt (ev_iteT (a := .d (.bl (isiD "str" (.str s)))) (ev_isi (ev_var rfl) pk_d) rfl (ev_ret (ev_two t1 c1 pk_d pk_d a1)))) rfl rfl
  · have c1 : two (op2 ltG) (varE 0) (constE (.int 0)) [.d (.int i)] = some (.ok (.d (.bl (decide (i < 0)))) [.d (.int i)]) := ev_two (ev_var rfl) ev_const pk_d pk_d Dw.lt_int'
    have c0 : iteS (isiE "str" (varE 0)) (retS (two (op2 addD) (tupE (consA (constE (.int 0)) nilA)) (callD m_text_key [] (consA (varE 0) nilA)))) skipS [.d (.int i)] = some (.nx [.d (.int i)]) := ev_iteF (a := .d (.bl (isiD "str" (.int i)))) (ev_isi (ev_var rfl) pk_d) rfl ev_skip
    by_cases hi : i < 0
    · rw [decide_eq_true hi] at c1
      have e : keyD (.int i) = .tup [.int 1, .int (-i)] := if_pos hi
      rw [e]
      exact defM_rt (a := .d (.tup [.int 1, .int (-i)])) [.d (.int i)] rfl rfl (env := [.d (.int i)]) (ev_seq2 c0 (ev_seq_rt (ev_iteT c1 rfl (ev_ret (ev_tup (as := [.d (.int 1), .d (.int (-i))]) (by repeat' (first  | with_reducible exact Dw.ty_str | with_reducible exact Dw.ty_lst | with_reducible exact Dw.lst_eq | with_reducible exact Dw.set_z | with_reducible exact Dw.ret_d | with_reducible exact Dw.ret_own | with_reducible exact Dw.mapd_nn | with_reducible exact Dw.ev_const | with_reducible exact Dw.ev_nil | with_reducible exact Dw.pk_d | with_reducible exact Dw.pk_own | with_reducible exact Dw.pks_nil | with_reducible exact Dw.frz_d | with_reducible exact Dw.frz_own | with_reducible exact Dw.frzs_nil | with_reducible exact Dw.tru_bl | with_reducible exact Dw.ev_skip | with_reducible exact Dw.len_lst | with_reducible exact Dw.len_tup | with_reducible exact Dw.eq_int | with_reducible exact Dw.ne_int | with_reducible exact Dw.eq_str | with_reducible exact Dw.ne_str | with_reducible exact Dw.eq_bl | with_reducible exact Dw.ne_bl | with_reducible exact Dw.lt_int' | with_reducible exact Dw.lt_str' | with_reducible exact Dw.le_int' | with_reducible exact Dw.gt_int' | with_reducible exact Dw.ge_int' | with_reducible exact Dw.add_int' | with_reducible exact Dw.sub_int' | with_reducible exact Dw.neg_int' | with_reducible exact Dw.ord_str | with_reducible exact Dw.int_int | with_reducible exact Dw.int_bl | with_reducible exact Dw.list_lst | with_reducible exact Dw.list_tup | with_reducible exact Dw.tup_lst | with_reducible exact Dw.tup_tup | with_reducible exact Dw.it_lst | with_reducible exact Dw.it_tup | with_reducible exact Dw.it_str | ((with_reducible apply Dw.ev_var); exact rfl) | ((with_reducible apply Dw.ev_varO); exact rfl) | ((with_reducible apply Dw.pk_cv); exact rfl) | ((with_reducible apply Dw.fs_ok); exact rfl) | ((with_reducible apply Dw.gE); exact rfl) | with_reducible apply Dw.ev_two | with_reducible apply Dw.ev_one | with_reducible apply Dw.ev_cons | with_reducible apply Dw.pks_cons | with_reducible apply Dw.ev_callE | with_reducible apply Dw.ev_isi | with_reducible apply Dw.frzs_cons | with_reducible apply Dw.ev_tup | with_reducible apply Dw.ev_lst | with_reducible apply Dw.ev_not | with_reducible apply Dw.ev_met | with_reducible apply Dw.ev_mut | with_reducible apply Dw.ev_ret | with_reducible apply Dw.ev_expr | with_reducible apply Dw.ev_asg | with_reducible apply Dw.ev_args | with_reducible apply Dw.ev_src | with_reducible apply Dw.ev_callD | with_reducible apply Dw.mapd_c | with_reducible apply Dw.mapd_d | with_reducible apply Dw.set_s | with_reducible apply Dw.st_d | with_reducible apply Dw.st_own | with_reducible apply Dw.st_cv | with_reducible apply Dw.frz_cv | ((with_reducible apply Dw.len_str); assumption) | ((with_reducible apply Dw.get_str) <;> assumption) | with_reducible assumption)) rfl (show 2 ≤ 100000 by decide)))))) rfl rfl
    · rw [decide_eq_false hi] at c1
      have e : keyD (.int i) = .tup [.int 2, .int i] := if_neg hi
      rw [e]
      exact defM_rt (a := .d (.tup [.int 2, .int i])) [.d (.int i)] rfl rfl (env := [.d (.int i)]) (ev_seq2 c0 (ev_seq2 (ev_iteF c1 rfl ev_skip) (ev_ret (ev_tup (as := [.d (.int 2), .d (.int i)]) (by repeat' (first  | with_reducible exact Dw.ty_str | with_reducible exact Dw.ty_lst | with_reducible exact Dw.lst_eq | with_reducible exact Dw.set_z | with_reducible exact Dw.ret_d | with_reducible exact Dw.ret_own | with_reducible exact Dw.mapd_nn | with_reducible exact Dw.ev_const | with_reducible exact Dw.ev_nil | with_reducible exact Dw.pk_d | with_reducible exact Dw.pk_own | with_reducible exact Dw.pks_nil | with_reducible exact Dw.frz_d | with_reducible exact Dw.frz_own | with_reducible exact Dw.frzs_nil | with_reducible exact Dw.tru_bl | with_reducible exact Dw.ev_skip | with_reducible exact Dw.len_lst | with_reducible exact Dw.len_tup | with_reducible exact Dw.eq_int | with_reducible exact Dw.ne_int | with_reducible exact Dw.eq_str | with_reducible exact Dw.ne_str | with_reducible exact Dw.eq_bl | with_reducible exact Dw.ne_bl | with_reducible exact Dw.lt_int' | with_reducible exact Dw.lt_str' | with_reducible exact Dw.le_int' | with_reducible exact Dw.gt_int' | with_reducible exact Dw.ge_int' | with_reducible exact Dw.add_int' | with_reducible exact Dw.sub_int' | with_reducible exact Dw.neg_int' | with_reducible exact Dw.ord_str | with_reducible exact Dw.int_int | with_reducible exact Dw.int_bl | with_reducible exact Dw.list_lst | with_reducible exact Dw.list_tup | with_reducible exact Dw.tup_lst | with_reducible exact Dw.tup_tup | with_reducible exact Dw.it_lst | with_reducible exact Dw.it_tup | with_reducible exact Dw.it_str | ((with_reducible apply Dw.ev_var); exact rfl) | ((with_reducible apply Dw.ev_varO); exact rfl) | ((with_reducible apply Dw.pk_cv); exact rfl) | ((with_reducible apply Dw.fs_ok); exact rfl) | ((with_reducible apply Dw.gE); exact rfl) | with_reducible apply Dw.ev_two | with_reducible apply Dw.ev_one | with_reducible apply Dw.ev_cons | with_reducible apply Dw.pks_cons | with_reducible apply Dw.ev_callE | with_reducible apply Dw.ev_isi | with_reducible apply Dw.frzs_cons | with_reducible apply Dw.ev_tup | with_reducible apply Dw.ev_lst | with_reducible apply Dw.ev_not | with_reducible apply Dw.ev_met | with_reducible apply Dw.ev_mut | with_reducible apply Dw.ev_ret | with_reducible apply Dw.ev_expr | with_reducible apply Dw.ev_asg | with_reducible apply Dw.ev_args | with_reducible apply Dw.ev_src | with_reducible apply Dw.ev_callD | with_reducible apply Dw.mapd_c | with_reducible apply Dw.mapd_d | with_reducible apply Dw.set_s | with_reducible apply Dw.st_d | with_reducible apply Dw.st_own | with_reducible apply Dw.st_cv | with_reducible apply Dw.frz_cv | ((with_reducible apply Dw.len_str); assumption) | ((with_reducible apply Dw.get_str) <;> assumption) | with_reducible assumption)) rfl (show 2 ≤ 100000 by decide))))) rfl rfl
def cmpV (x y : D) : Int := if eqB (keyD x) (keyD y) = true then 0 else if ltB (keyD x) (keyD y) = true then -1 else 1
theorem ltG_seq {a b : D} (h1 : seqD a = true) (h2 : alk a b = true) (h3 : (py a).depth ≤ 64) : ltG a b = some (.d (.bl (ltB a b))) := by
  cases a with
  | lst xs =>
    show (if (seqD (.lst xs) && alk (.lst xs) b) && decide ((py (.lst xs)).depth ≤ 64) then some (RV.d (.bl (ltB (.lst xs) b))) else none) = _
    rw [h1, h2, decide_eq_true h3]
    rfl
  | tup xs =>
    show (if (seqD (.tup xs) && alk (.tup xs) b) && decide ((py (.tup xs)).depth ≤ 64) then some (RV.d (.bl (ltB (.tup xs) b))) else none) = _
    rw [h1, h2, decide_eq_true h3]
    rfl
  | _ => cases h1
def dueB : List Nat → List Nat → Option Bool
  | a :: x, b :: y => if a = b then dueB x y else some (decide (a < b))
  | _, _ => none
theorem dueB_spec : ∀ (x y : List Nat), x.length = y.length → (dueB x y = none ∧ x = y) ∨ (dueB x y = some true ∧ x ≠ y ∧ x < y ∧ dueB y x = some false) ∨ (dueB x y = some false ∧ x ≠ y ∧ ¬ x < y ∧ dueB y x = some true)
  | [], [], _ => .inl ⟨rfl, rfl⟩
  | [], _ :: _, h => by simp at h
  | _ :: _, [], h => by simp at h
  | a :: x, b :: y, h => by
    have ih := dueB_spec x y (by simpa using h)
    by_cases hab : a = b
    · subst hab
      simp only [dueB, if_true, List.cons.injEq, true_and, List.cons_lt_cons_iff, Nat.lt_irrefl, false_or]
      simpa using ih
    · have hba : ¬ b = a := fun z => hab z.symm
      by_cases hlt : a < b
      · refine .inr (.inl ⟨by simp [dueB, hab, hlt], by simp [hab], by simp [List.cons_lt_cons_iff, hlt], ?_⟩)
        have : ¬ b < a := by omega
        simp [dueB, hba, this]
      · have : b < a := by omega
        refine .inr (.inr ⟨by simp [dueB, hab, hlt], by simp [hab], by simp [List.cons_lt_cons_iff, hlt, hab], ?_⟩)
        simp [dueB, hba, this]
theorem occ_letters : ∀ k : Fin 26, Builtin.Str.occurrences (mk [97, 98, 99, 100, 101, 102, 103, 104, 105, 106, 107, 108, 109, 110, 111, 112, 113, 114, 115, 116, 117, 118, 119, 120, 121, 122]) (mk [97 + k.val]) 0 26 1 = [k.val] := by decide +kernel
theorem index_letter {c : Nat} (h1 : 97 ≤ c) (h2 : c < 123) : textM indexL (.str [97, 98, 99, 100, 101, 102, 103, 104, 105, 106, 107, 108, 109, 110, 111, 112, 113, 114, 115, 116, 117, 118, 119, 120, 121, 122]) [.str [c]] = some (.d (.int ((c : Int) - 97))) := by
  have e := occ_letters ⟨c - 97, by omega⟩
  have e2 : 97 + (c - 97) = c := by omega
  rw [show (⟨c - 97, by omega⟩ : Fin 26).val = c - 97 from rfl, e2] at e
  show indexL _ _ = _
  unfold indexL
  rw [show ([97, 98, 99, 100, 101, 102, 103, 104, 105, 106, 107, 108, 109, 110, 111, 112, 113, 114, 115, 116, 117, 118, 119, 120, 121, 122] : List Nat).length = 26 from rfl, e]
  have : ((c - 97 : Nat) : Int) = (c : Int) - 97 := by omega
  rw [← this]
theorem one_eq (a b : Nat) : ([a] == [b]) = (a == b) := by
  by_cases h : a = b
  · subst h; simp
  · simp [h]
theorem bef_turn {x y : List Nat} {i a b : Nat} {w : SV} (hx : x.length ≤ 80) (hy : y.length ≤ 80) (gx : L2.atI x (i : Int) = some a) (gy : L2.atI y (i : Int) = some b) (ha : 97 ≤ a ∧ a < 123) (hb : 97 ≤ b ∧ b < 123) (hw : flat w = true) : ∃ w', flat w' = true ∧ l_ulawubefore_1 [.d (.str x), .d (.str y), .d (.int i), w] =
    if a = b then some (.nx [.d (.str x), .d (.str y), .d (.int i), w']) else some (.rt (.d (.bl (decide (a < b)))) [.d (.str x), .d (.str y), .d (.int i), w']) := by
  have hs : (100000 : Nat) ≤ sizeLine := by decide
  have hxl : x.length ≤ sizeLine := by omega
  have hyl : y.length ≤ sizeLine := by omega
  have fw := flat_free hw
  have c1 : two (op2 neD) (two (op2 getD) (varE 0) (varE 2)) (two (op2 getD) (varE 1) (varE 2)) [.d (.str x), .d (.str y), .d (.int i), w] = some (.ok (.d (.bl (!([a] == [b])))) [.d (.str x), .d (.str y), .d (.int i), w]) := by repeat' (first  | with_reducible exact Dw.ty_str | with_reducible exact Dw.ty_lst | with_reducible exact Dw.lst_eq | with_reducible exact Dw.set_z | with_reducible exact Dw.ret_d | with_reducible exact Dw.ret_own | with_reducible exact Dw.mapd_nn | with_reducible exact Dw.ev_const | with_reducible exact Dw.ev_nil | with_reducible exact Dw.pk_d | with_reducible exact Dw.pk_own | with_reducible exact Dw.pks_nil | with_reducible exact Dw.frz_d | with_reducible exact Dw.frz_own | with_reducible exact Dw.frzs_nil | with_reducible exact Dw.tru_bl | with_reducible exact Dw.ev_skip | with_reducible exact Dw.len_lst | with_reducible exact Dw.len_tup | with_reducible exact Dw.eq_int | with_reducible exact Dw.ne_int | with_reducible exact Dw.eq_str | with_reducible exact Dw.ne_str | with_reducible exact Dw.eq_bl | with_reducible exact Dw.ne_bl | with_reducible exact Dw.lt_int' | with_reducible exact Dw.lt_str' | with_reducible exact Dw.le_int' | with_reducible exact Dw.gt_int' | with_reducible exact Dw.ge_int' | with_reducible exact Dw.add_int' | with_reducible exact Dw.sub_int' | with_reducible exact Dw.neg_int' | with_reducible exact Dw.ord_str | with_reducible exact Dw.int_int | with_reducible exact Dw.int_bl | with_reducible exact Dw.list_lst | with_reducible exact Dw.list_tup | with_reducible exact Dw.tup_lst | with_reducible exact Dw.tup_tup | with_reducible exact Dw.it_lst | with_reducible exact Dw.it_tup | with_reducible exact Dw.it_str | ((with_reducible apply Dw.ev_var); exact rfl) | ((with_reducible apply Dw.ev_varO); exact rfl) | ((with_reducible apply Dw.pk_cv); exact rfl) | ((with_reducible apply Dw.fs_ok); exact rfl) | ((with_reducible apply Dw.gE); exact rfl) | with_reducible apply Dw.ev_two | with_reducible apply Dw.ev_one | with_reducible apply Dw.ev_cons | with_reducible apply Dw.pks_cons | with_reducible apply Dw.ev_callE | with_reducible apply Dw.ev_isi | with_reducible apply Dw.frzs_cons | with_reducible apply Dw.ev_tup | with_reducible apply Dw.ev_lst | with_reducible apply Dw.ev_not | with_reducible apply Dw.ev_met | with_reducible apply Dw.ev_mut | with_reducible apply Dw.ev_ret | with_reducible apply Dw.ev_expr | with_reducible apply Dw.ev_asg | with_reducible apply Dw.ev_args | with_reducible apply Dw.ev_src | with_reducible apply Dw.ev_callD | with_reducible apply Dw.mapd_c | with_reducible apply Dw.mapd_d | with_reducible apply Dw.set_s | with_reducible apply Dw.st_d | with_reducible apply Dw.st_own | with_reducible apply Dw.st_cv | with_reducible apply Dw.frz_cv | ((with_reducible apply Dw.len_str); assumption) | ((with_reducible apply Dw.get_str) <;> assumption) | with_reducible assumption)
  rw [one_eq] at c1
  unfold l_ulawubefore_1
  by_cases h : a = b
  · subst h
    rw [beq_self_eq_true] at c1
    refine ⟨w, hw, ?_⟩
    rw [if_pos rfl]
    exact ev_iteF c1 rfl ev_skip
  · have h' : (a == b) = false := by simpa using h
    rw [h'] at c1
    have ia := index_letter ha.1 ha.2
    have ib := index_letter hb.1 hb.2
    have e : decide (a < b) = decide ((a : Int) - 97 < (b : Int) - 97) := by
      apply decide_eq_decide.mpr
      omega
    refine ⟨.d (.str [97, 98, 99, 100, 101, 102, 103, 104, 105, 106, 107, 108, 109, 110, 111, 112, 113, 114, 115, 116, 117, 118, 119, 120, 121, 122]), rfl, ?_⟩
    rw [if_neg h, e]
    refine ev_iteT c1 rfl (ev_seq2 (env1 := [.d (.str x), .d (.str y), .d (.int i), .d (.str [97, 98, 99, 100, 101, 102, 103, 104, 105, 106, 107, 108, 109, 110, 111, 112, 113, 114, 115, 116, 117, 118, 119, 120, 121, 122])]) ?_ ?_)
    · repeat' (first | exact fw | with_reducible exact Dw.ty_str | with_reducible exact Dw.ty_lst | with_reducible exact Dw.lst_eq | with_reducible exact Dw.set_z | with_reducible exact Dw.ret_d | with_reducible exact Dw.ret_own | with_reducible exact Dw.mapd_nn | with_reducible exact Dw.ev_const | with_reducible exact Dw.ev_nil | with_reducible exact Dw.pk_d | with_reducible exact Dw.pk_own | with_reducible exact Dw.pks_nil | with_reducible exact Dw.frz_d | with_reducible exact Dw.frz_own | with_reducible exact Dw.frzs_nil | with_reducible exact Dw.tru_bl | with_reducible exact Dw.ev_skip | with_reducible exact Dw.len_lst | with_reducible exact Dw.len_tup | with_reducible exact Dw.eq_int | with_reducible exact Dw.ne_int | with_reducible exact Dw.eq_str | with_reducible exact Dw.ne_str | with_reducible exact Dw.eq_bl | with_reducible exact Dw.ne_bl | with_reducible exact Dw.lt_int' | with_reducible exact Dw.lt_str' | with_reducible exact Dw.le_int' | with_reducible exact Dw.gt_int' | with_reducible exact Dw.ge_int' | with_reducible exact Dw.add_int' | with_reducible exact Dw.sub_int' | with_reducible exact Dw.neg_int' | with_reducible exact Dw.ord_str | with_reducible exact Dw.int_int | with_reducible exact Dw.int_bl | with_reducible exact Dw.list_lst | with_reducible exact Dw.list_tup | with_reducible exact Dw.tup_lst | with_reducible exact Dw.tup_tup | with_reducible exact Dw.it_lst | with_reducible exact Dw.it_tup | with_reducible exact Dw.it_str | ((with_reducible apply Dw.ev_var); exact rfl) | ((with_reducible apply Dw.ev_varO); exact rfl) | ((with_reducible apply Dw.pk_cv); exact rfl) | ((with_reducible apply Dw.fs_ok); exact rfl) | ((with_reducible apply Dw.gE); exact rfl) | with_reducible apply Dw.ev_two | with_reducible apply Dw.ev_one | with_reducible apply Dw.ev_cons | with_reducible apply Dw.pks_cons | with_reducible apply Dw.ev_callE | with_reducible apply Dw.ev_isi | with_reducible apply Dw.frzs_cons | with_reducible apply Dw.ev_tup | with_reducible apply Dw.ev_lst | with_reducible apply Dw.ev_not | with_reducible apply Dw.ev_met | with_reducible apply Dw.ev_mut | with_reducible apply Dw.ev_ret | with_reducible apply Dw.ev_expr | with_reducible apply Dw.ev_asg | with_reducible apply Dw.ev_args | with_reducible apply Dw.ev_src | with_reducible apply Dw.ev_callD | with_reducible apply Dw.mapd_c | with_reducible apply Dw.mapd_d | with_reducible apply Dw.set_s | with_reducible apply Dw.st_d | with_reducible apply Dw.st_own | with_reducible apply Dw.st_cv | with_reducible apply Dw.frz_cv | ((with_reducible apply Dw.len_str); assumption) | ((with_reducible apply Dw.get_str) <;> assumption) | with_reducible assumption)
    · repeat' (first | with_reducible exact ia | with_reducible exact ib | with_reducible exact Dw.ty_str | with_reducible exact Dw.ty_lst | with_reducible exact Dw.lst_eq | with_reducible exact Dw.set_z | with_reducible exact Dw.ret_d | with_reducible exact Dw.ret_own | with_reducible exact Dw.mapd_nn | with_reducible exact Dw.ev_const | with_reducible exact Dw.ev_nil | with_reducible exact Dw.pk_d | with_reducible exact Dw.pk_own | with_reducible exact Dw.pks_nil | with_reducible exact Dw.frz_d | with_reducible exact Dw.frz_own | with_reducible exact Dw.frzs_nil | with_reducible exact Dw.tru_bl | with_reducible exact Dw.ev_skip | with_reducible exact Dw.len_lst | with_reducible exact Dw.len_tup | with_reducible exact Dw.eq_int | with_reducible exact Dw.ne_int | with_reducible exact Dw.eq_str | with_reducible exact Dw.ne_str | with_reducible exact Dw.eq_bl | with_reducible exact Dw.ne_bl | with_reducible exact Dw.lt_int' | with_reducible exact Dw.lt_str' | with_reducible exact Dw.le_int' | with_reducible exact Dw.gt_int' | with_reducible exact Dw.ge_int' | with_reducible exact Dw.add_int' | with_reducible exact Dw.sub_int' | with_reducible exact Dw.neg_int' | with_reducible exact Dw.ord_str | with_reducible exact Dw.int_int | with_reducible exact Dw.int_bl | with_reducible exact Dw.list_lst | with_reducible exact Dw.list_tup | with_reducible exact Dw.tup_lst | with_reducible exact Dw.tup_tup | with_reducible exact Dw.it_lst | with_reducible exact Dw.it_tup | with_reducible exact Dw.it_str | ((with_reducible apply Dw.ev_var); exact rfl) | ((with_reducible apply Dw.ev_varO); exact rfl) | ((with_reducible apply Dw.pk_cv); exact rfl) | ((with_reducible apply Dw.fs_ok); exact rfl) | ((with_reducible apply Dw.gE); exact rfl) | with_reducible apply Dw.ev_two | with_reducible apply Dw.ev_one | with_reducible apply Dw.ev_cons | with_reducible apply Dw.pks_cons | with_reducible apply Dw.ev_callE | with_reducible apply Dw.ev_isi | with_reducible apply Dw.frzs_cons | with_reducible apply Dw.ev_tup | with_reducible apply Dw.ev_lst | with_reducible apply Dw.ev_not | with_reducible apply Dw.ev_met | with_reducible apply Dw.ev_mut | with_reducible apply Dw.ev_ret | with_reducible apply Dw.ev_expr | with_reducible apply Dw.ev_asg | with_reducible apply Dw.ev_args | with_reducible apply Dw.ev_src | with_reducible apply Dw.ev_callD | with_reducible apply Dw.mapd_c | with_reducible apply Dw.mapd_d | with_reducible apply Dw.set_s | with_reducible apply Dw.st_d | with_reducible apply Dw.st_own | with_reducible apply Dw.st_cv | with_reducible apply Dw.frz_cv | ((with_reducible apply Dw.len_str); assumption) | ((with_reducible apply Dw.get_str) <;> assumption) | with_reducible assumption)
theorem bef_loop {x y : List Nat} (hx : x.length ≤ 80) (hy : y.length ≤ 80) (gx : ∀ c ∈ x, 97 ≤ c ∧ c < 123) (gy : ∀ c ∈ y, 97 ≤ c ∧ c < 123) (u : List Nat) : ∀ (v p q : List Nat) (w2 w3 : SV), x = p ++ u → y = q ++ v → p.length = q.length → u.length = v.length → flat w2 = true → flat w3 = true →
    ∃ w2' w3', loopD (.nm 2) l_ulawubefore_1 ((List.range' p.length u.length).map fun i => .int (i : Nat)) [.d (.str x), .d (.str y), w2, w3] = match dueB u v with
      | none => some (.nx [.d (.str x), .d (.str y), w2', w3'])
      | some z => some (.rt (.d (.bl z)) [.d (.str x), .d (.str y), w2', w3']) := by
  induction u with
  | nil => intro v p q w2 w3 _ _ _ _ _ _; exact ⟨w2, w3, by simp [loopD, dueB]⟩
  | cons a u ih =>
    intro v p q w2 w3 ex ey hpq huv h2 h3
    cases v with
    | nil => simp at huv
    | cons b v =>
      have ax : L2.atI x (p.length : Int) = some a := by
        refine L2.atI_nat ?_
        rw [ex, List.getElem?_append_right (Nat.le_refl _), Nat.sub_self]
        rfl
      have ay : L2.atI y (p.length : Int) = some b := by
        refine L2.atI_nat ?_
        rw [ey, hpq, List.getElem?_append_right (Nat.le_refl _), Nat.sub_self]
        rfl
      have f2 := flat_free h2
      obtain ⟨w', hw', e⟩ := bef_turn hx hy ax ay (gx a (by rw [ex]; simp)) (gy b (by rw [ey]; simp)) h3
      rw [List.length_cons, List.range'_succ, List.map_cons, loopD]
      simp only [putT, setSlot, List.getElem?_cons_succ, List.getElem?_cons_zero, f2, if_true, Option.bind_some, List.set_cons_succ, List.set_cons_zero]
      by_cases hab : a = b
      · rw [if_pos hab] at e
        obtain ⟨w2', w3', ih⟩ := ih v (p ++ [a]) (q ++ [b]) (.d (.int p.length)) w' (by rw [ex, List.append_assoc]; rfl) (by rw [ey, List.append_assoc]; rfl) (by simp [hpq]) (by simpa using huv) rfl hw'
        refine ⟨w2', w3', ?_⟩
        rw [e]
        dsimp only
        rw [List.length_append] at ih
        rw [show p.length + 1 = p.length + [a].length from rfl, ih, dueB, if_pos hab]
      · rw [if_neg hab] at e
        refine ⟨.d (.int p.length), w', ?_⟩
        rw [e]
        dsimp only
        rw [dueB, if_neg hab]
def befV : D → D → Bool
  | .str s, .str t => if s.length = t.length then (dueB s t).getD false else decide (s.length < t.length)
  | .str _, _ => true
  | _, .str _ => false
  | .int i, .int j => if decide (i < 0) = decide (j < 0) then (if i < 0 then decide (j < i) else decide (i < j)) else decide (i < 0)
  | _, _ => false
theorem ev_before {x y : D} (hx : isVal 80 x) (hy : isVal 80 y) : ∃ o, m_ulawubefore [.d x, .d y] = some (.ok (.d (.bl (befV x y))) o) := by
  have hs : (100000 : Nat) ≤ sizeLine := by decide
  refine ⟨[.d x, .d y], ?_⟩
  have ix : ∀ w2 w3, isiE "str" (varE 0) [.d x, .d y, w2, w3] = some (.ok (.d (.bl (isiD "str" x))) [.d x, .d y, w2, w3]) := fun w2 w3 => ev_isi (ev_var rfl) pk_d
  have iy : ∀ w2 w3, isiE "str" (varE 1) [.d x, .d y, w2, w3] = some (.ok (.d (.bl (isiD "str" y))) [.d x, .d y, w2, w3]) := fun w2 w3 => ev_isi (ev_var rfl) pk_d
  have c1 : two (op2 neD) (isiE "str" (varE 0)) (isiE "str" (varE 1)) [.d x, .d y, .un, .un] = some (.ok (.d (.bl (!(isiD "str" x == isiD "str" y)))) [.d x, .d y, .un, .un]) := ev_two (ix _ _) (iy _ _) pk_d pk_d Dw.ne_bl
  rcases hx with ⟨s, rfl, s1, s2⟩ | ⟨i, rfl⟩
  · rcases hy with ⟨t, rfl, t1, t2⟩ | ⟨j, rfl⟩
    · have hsl : s.length ≤ sizeLine := by omega
      have htl : t.length ≤ sizeLine := by omega
      have c2 : two (op2 neD) (callE lenD (consA (varE 0) nilA)) (callE lenD (consA (varE 1) nilA)) [.d (.str s), .d (.str t), .un, .un] = some (.ok (.d (.bl (!((s.length : Int) == (t.length : Int))))) [.d (.str s), .d (.str t), .un, .un]) := by repeat' (first  | with_reducible exact Dw.ty_str | with_reducible exact Dw.ty_lst | with_reducible exact Dw.lst_eq | with_reducible exact Dw.set_z | with_reducible exact Dw.ret_d | with_reducible exact Dw.ret_own | with_reducible exact Dw.mapd_nn | with_reducible exact Dw.ev_const | with_reducible exact Dw.ev_nil | with_reducible exact Dw.pk_d | with_reducible exact Dw.pk_own | with_reducible exact Dw.pks_nil | with_reducible exact Dw.frz_d | with_reducible exact Dw.frz_own | with_reducible exact Dw.frzs_nil | with_reducible exact Dw.tru_bl | with_reducible exact Dw.ev_skip | with_reducible exact Dw.len_lst | with_reducible exact Dw.len_tup | with_reducible exact Dw.eq_int | with_reducible exact Dw.ne_int | with_reducible exact Dw.eq_str | with_reducible exact Dw.ne_str | with_reducible exact Dw.eq_bl | with_reducible exact Dw.ne_bl | with_reducible exact Dw.lt_int' | with_reducible exact Dw.lt_str' | with_reducible exact Dw.le_int' | with_reducible exact Dw.gt_int' | with_reducible exact Dw.ge_int' | with_reducible exact Dw.add_int' | with_reducible exact Dw.sub_int' | with_reducible exact Dw.neg_int' | with_reducible exact Dw.ord_str | with_reducible exact Dw.int_int | with_reducible exact Dw.int_bl | with_reducible exact Dw.list_lst | with_reducible exact Dw.list_tup | with_reducible exact Dw.tup_lst | with_reducible exact Dw.tup_tup | with_reducible exact Dw.it_lst | with_reducible exact Dw.it_tup | with_reducible exact Dw.it_str | ((with_reducible apply Dw.ev_var); exact rfl) | ((with_reducible apply Dw.ev_varO); exact rfl) | ((with_reducible apply Dw.pk_cv); exact rfl) | ((with_reducible apply Dw.fs_ok); exact rfl) | ((with_reducible apply Dw.gE); exact rfl) | with_reducible apply Dw.ev_two | with_reducible apply Dw.ev_one | with_reducible apply Dw.ev_cons | with_reducible apply Dw.pks_cons | with_reducible apply Dw.ev_callE | with_reducible apply Dw.ev_isi | with_reducible apply Dw.frzs_cons | with_reducible apply Dw.ev_tup | with_reducible apply Dw.ev_lst | with_reducible apply Dw.ev_not | with_reducible apply Dw.ev_met | with_reducible apply Dw.ev_mut | with_reducible apply Dw.ev_ret | with_reducible apply Dw.ev_expr | with_reducible apply Dw.ev_asg | with_reducible apply Dw.ev_args | with_reducible apply Dw.ev_src | with_reducible apply Dw.ev_callD | with_reducible apply Dw.mapd_c | with_reducible apply Dw.mapd_d | with_reducible apply Dw.set_s | with_reducible apply Dw.st_d | with_reducible apply Dw.st_own | with_reducible apply Dw.st_cv | with_reducible apply Dw.frz_cv | ((with_reducible apply Dw.len_str); assumption) | ((with_reducible apply Dw.get_str) <;> assumption) | with_reducible assumption)
      by_cases h : s.length = t.length
      · have h' : ((s.length : Int) == (t.length : Int)) = true := by simp; omega
        rw [h'] at c2
        obtain ⟨w2, w3, hl⟩ := bef_loop s1 t1 s2 t2 s t [] [] .un .un rfl rfl rfl h rfl rfl
        rw [List.length_nil, ← List.range_eq_range'] at hl
        have e2 : forS (argsI rng1 (consA (callE lenD (consA (varE 0) nilA)) nilA)) (.nm 2) l_ulawubefore_1 [.d (.str s), .d (.str t), .un, .un] = match dueB s t with
            | none => some (.nx [.d (.str s), .d (.str t), w2, w3])
            | some z => some (.rt (.d (.bl z)) [.d (.str s), .d (.str t), w2, w3]) := by
          rw [ev_for (ev_args (as := [.d (.int s.length)]) (env1 := [.d (.str s), .d (.str t), .un, .un]) (by repeat' (first  | with_reducible exact Dw.ty_str | with_reducible exact Dw.ty_lst | with_reducible exact Dw.lst_eq | with_reducible exact Dw.set_z | with_reducible exact Dw.ret_d | with_reducible exact Dw.ret_own | with_reducible exact Dw.mapd_nn | with_reducible exact Dw.ev_const | with_reducible exact Dw.ev_nil | with_reducible exact Dw.pk_d | with_reducible exact Dw.pk_own | with_reducible exact Dw.pks_nil | with_reducible exact Dw.frz_d | with_reducible exact Dw.frz_own | with_reducible exact Dw.frzs_nil | with_reducible exact Dw.tru_bl | with_reducible exact Dw.ev_skip | with_reducible exact Dw.len_lst | with_reducible exact Dw.len_tup | with_reducible exact Dw.eq_int | with_reducible exact Dw.ne_int | with_reducible exact Dw.eq_str | with_reducible exact Dw.ne_str | with_reducible exact Dw.eq_bl | with_reducible exact Dw.ne_bl | with_reducible exact Dw.lt_int' | with_reducible exact Dw.lt_str' | with_reducible exact Dw.le_int' | with_reducible exact Dw.gt_int' | with_reducible exact Dw.ge_int' | with_reducible exact Dw.add_int' | with_reducible exact Dw.sub_int' | with_reducible exact Dw.neg_int' | with_reducible exact Dw.ord_str | with_reducible exact Dw.int_int | with_reducible exact Dw.int_bl | with_reducible exact Dw.list_lst | with_reducible exact Dw.list_tup | with_reducible exact Dw.tup_lst | with_reducible exact Dw.tup_tup | with_reducible exact Dw.it_lst | with_reducible exact Dw.it_tup | with_reducible exact Dw.it_str | ((with_reducible apply Dw.ev_var); exact rfl) | ((with_reducible apply Dw.ev_varO); exact rfl) | ((with_reducible apply Dw.pk_cv); exact rfl) | ((with_reducible apply Dw.fs_ok); exact rfl) | ((with_reducible apply Dw.gE); exact rfl) | with_reducible apply Dw.ev_two | with_reducible apply Dw.ev_one | with_reducible apply Dw.ev_cons | with_reducible apply Dw.pks_cons | with_reducible apply Dw.ev_callE | with_reducible apply Dw.ev_isi | with_reducible apply Dw.frzs_cons | with_reducible apply Dw.ev_tup | with_reducible apply Dw.ev_lst | with_reducible apply Dw.ev_not | with_reducible apply Dw.ev_met | with_reducible apply Dw.ev_mut | with_reducible apply Dw.ev_ret | with_reducible apply Dw.ev_expr | with_reducible apply Dw.ev_asg | with_reducible apply Dw.ev_args | with_reducible apply Dw.ev_src | with_reducible apply Dw.ev_callD | with_reducible apply Dw.mapd_c | with_reducible apply Dw.mapd_d | with_reducible apply Dw.set_s | with_reducible apply Dw.st_d | with_reducible apply Dw.st_own | with_reducible apply Dw.st_cv | with_reducible apply Dw.frz_cv | ((with_reducible apply Dw.len_str); assumption) | ((with_reducible apply Dw.get_str) <;> assumption) | with_reducible assumption)) rfl (rng1_nat (by omega)))]
          exact hl
        have ev : befV (.str s) (.str t) = (dueB s t).getD false := if_pos h
        rw [ev]
        cases hd : dueB s t with
        | none =>
          rw [hd] at e2
          exact defM_rt (a := .d (.bl false)) [.d (.str s), .d (.str t), .un, .un] rfl rfl (env := [.d (.str s), .d (.str t), w2, w3]) (ev_seq2 (ev_iteF c1 rfl ev_skip) (ev_seq_rt (ev_iteT (ix _ _) rfl (ev_seq2 (ev_iteF c2 rfl ev_skip) (ev_seq2 e2 (ev_ret ev_const)))))) rfl rfl
        | some z =>
          rw [hd] at e2
          exact defM_rt (a := .d (.bl z)) [.d (.str s), .d (.str t), .un, .un] rfl rfl (env := [.d (.str s), .d (.str t), w2, w3]) (ev_seq2 (ev_iteF c1 rfl ev_skip) (ev_seq_rt (ev_iteT (ix _ _) rfl (ev_seq2 (ev_iteF c2 rfl ev_skip) (ev_seq_rt e2))))) rfl rfl
      · have h' : ((s.length : Int) == (t.length : Int)) = false := by simp; omega
        rw [h'] at c2
        have ev : befV (.str s) (.str t) = decide ((s.length : Int) < t.length) := by
          show (if s.length = t.length then _ else decide (s.length < t.length)) = _
          rw [if_neg h]
          apply decide_eq_decide.mpr
          omega
        rw [ev]
        exact defM_rt (a := .d (.bl (decide ((s.length : Int) < t.length)))) [.d (.str s), .d (.str t), .un, .un] rfl rfl (env := [.d (.str s), .d (.str t), .un, .un]) (ev_seq2 (ev_iteF c1 rfl ev_skip) (ev_seq_rt (ev_iteT (ix _ _) rfl (ev_seq_rt (ev_iteT c2 rfl (ev_ret (by repeat' (first  | with_reducible exact Dw.ty_str | with_reducible exact Dw.ty_lst | with_reducible exact Dw.lst_eq | with_reducible exact Dw.set_z | with_reducible exact Dw.ret_d | with_reducible exact Dw.ret_own | with_reducible exact Dw.mapd_nn | with_reducible exact Dw.ev_const | with_reducible exact Dw.ev_nil | with_reducible exact Dw.pk_d | with_reducible exact Dw.pk_own | with_reducible exact Dw.pks_nil | with_reducible exact Dw.frz_d | with_reducible exact Dw.frz_own | with_reducible exact Dw.frzs_nil | with_reducible exact Dw.tru_bl | with_reducible exact Dw.ev_skip | with_reducible exact Dw.len_lst | with_reducible exact Dw.len_tup | with_reducible exact Dw.eq_int | with_reducible exact Dw.ne_int | with_reducible exact Dw.eq_str | with_reducible exact Dw.ne_str | with_reducible exact Dw.eq_bl | with_reducible exact Dw.ne_bl | with_reducible exact Dw.lt_int' | with_reducible exact Dw.lt_str' | with_reducible exact Dw.le_int' | with_reducible exact Dw.gt_int' | with_reducible exact Dw.ge_int' | with_reducible exact Dw.add_int' | with_reducible exact Dw.sub_int' | with_reducible exact Dw.neg_int' | with_reducible exact Dw.ord_str | with_reducible exact Dw.int_int | with_reducible exact Dw.int_bl | with_reducible exact Dw.list_lst | with_reducible exact Dw.list_tup | with_reducible exact Dw.tup_lst | with_reducible exact Dw.tup_tup | with_reducible exact Dw.it_lst | with_reducible exact Dw.it_tup | with_reducible exact Dw.it_str | ((with_reducible apply Dw.ev_var); exact rfl) | ((with_reducible apply Dw.ev_varO); exact rfl) | ((with_reducible apply Dw.pk_cv); exact rfl) | ((with_reducible apply Dw.fs_ok); exact rfl) | ((with_reducible apply Dw.gE); exact rfl) | with_reducible apply Dw.ev_two | with_reducible apply Dw.ev_one | with_reducible apply Dw.ev_cons | with_reducible apply Dw.pks_cons | with_reducible apply Dw.ev_callE | with_reducible apply Dw.ev_isi | with_reducible apply Dw.frzs_cons | with_reducible apply Dw.ev_tup | with_reducible apply Dw.ev_lst | with_reducible apply Dw.ev_not | with_reducible apply Dw.ev_met | with_reducible apply Dw.ev_mut | with_reducible apply Dw.ev_ret | with_reducible apply Dw.ev_expr | with_reducible apply Dw.ev_asg | with_reducible apply Dw.ev_args | with_reducible apply Dw.ev_src | with_reducible apply Dw.ev_callD | with_reducible apply Dw.mapd_c | with_reducible apply Dw.mapd_d | with_reducible apply Dw.set_s | with_reducible apply Dw.st_d | with_reducible apply Dw.st_own | with_reducible apply Dw.st_cv | with_reducible apply Dw.frz_cv | ((with_reducible apply Dw.len_str); assumption) | ((with_reducible apply Dw.get_str) <;> assumption) | with_reducible assumption)))))))) rfl rfl
    · exact defM_rt (a := .d (.bl true)) [.d (.str s), .d (.int j), .un, .un] rfl rfl (env := [.d (.str s), .d (.int j), .un, .un]) (ev_seq_rt (ev_iteT c1 rfl (ev_ret (ix _ _)))) rfl rfl
  · rcases hy with ⟨t, rfl, t1, t2⟩ | ⟨j, rfl⟩
    · exact defM_rt (a := .d (.bl false)) [.d (.int i), .d (.str t), .un, .un] rfl rfl (env := [.d (.int i), .d (.str t), .un, .un]) (ev_seq_rt (ev_iteT c1 rfl (ev_ret (ix _ _)))) rfl rfl
    · have l0 : two (op2 ltG) (varE 0) (constE (.int 0)) [.d (.int i), .d (.int j), .un, .un] = some (.ok (.d (.bl (decide (i < 0)))) [.d (.int i), .d (.int j), .un, .un]) := ev_two (ev_var rfl) ev_const pk_d pk_d Dw.lt_int'
      have l1 : two (op2 ltG) (varE 1) (constE (.int 0)) [.d (.int i), .d (.int j), .un, .un] = some (.ok (.d (.bl (decide (j < 0)))) [.d (.int i), .d (.int j), .un, .un]) := ev_two (ev_var rfl) ev_const pk_d pk_d Dw.lt_int'
      have c3 : two (op2 neD) (two (op2 ltG) (varE 0) (constE (.int 0))) (two (op2 ltG) (varE 1) (constE (.int 0))) [.d (.int i), .d (.int j), .un, .un] = some (.ok (.d (.bl (!(decide (i < 0) == decide (j < 0))))) [.d (.int i), .d (.int j), .un, .un]) := ev_two l0 l1 pk_d pk_d Dw.ne_bl
      have sk : ∀ a b : SS, iteS (isiE "str" (varE 0)) a skipS [.d (.int i), .d (.int j), .un, .un] = some (.nx [.d (.int i), .d (.int j), .un, .un]) := fun a b => ev_iteF (ix _ _) rfl ev_skip
      by_cases h : decide (i < 0) = decide (j < 0)
      · have h' : (decide (i < 0) == decide (j < 0)) = true := by rw [h]; exact beq_self_eq_true _
        rw [h'] at c3
        by_cases hi : i < 0
        · have ev : befV (.int i) (.int j) = decide (j < i) := by
            show (if decide (i < 0) = decide (j < 0) then (if i < 0 then decide (j < i) else decide (i < j)) else decide (i < 0)) = _
            rw [if_pos h, if_pos hi]
          rw [ev]
          rw [decide_eq_true hi] at l0
          exact defM_rt (a := .d (.bl (decide (j < i)))) [.d (.int i), .d (.int j), .un, .un] rfl rfl (env := [.d (.int i), .d (.int j), .un, .un]) (ev_seq2 (ev_iteF c1 rfl ev_skip) (ev_seq2 (sk _ skipS) (ev_seq2 (ev_iteF c3 rfl ev_skip) (ev_seq_rt (ev_iteT l0 rfl (ev_ret (ev_two (ev_var rfl) (ev_var rfl) pk_d pk_d Dw.lt_int'))))))) rfl rfl
        · have ev : befV (.int i) (.int j) = decide (i < j) := by
            show (if decide (i < 0) = decide (j < 0) then (if i < 0 then decide (j < i) else decide (i < j)) else decide (i < 0)) = _
            rw [if_pos h, if_neg hi]
          rw [ev]
          rw [decide_eq_false hi] at l0
          exact defM_rt (a := .d (.bl (decide (i < j)))) [.d (.int i), .d (.int j), .un, .un] rfl rfl (env := [.d (.int i), .d (.int j), .un, .un]) (ev_seq2 (ev_iteF c1 rfl ev_skip) (ev_seq2 (sk _ skipS) (ev_seq2 (ev_iteF c3 rfl ev_skip) (ev_seq2 (ev_iteF l0 rfl ev_skip) (ev_ret (ev_two (ev_var rfl) (ev_var rfl) pk_d pk_d Dw.lt_int')))))) rfl rfl
      · have h' : (decide (i < 0) == decide (j < 0)) = false := by simpa using h
        rw [h'] at c3
        have ev : befV (.int i) (.int j) = decide (i < 0) := by
          show (if decide (i < 0) = decide (j < 0) then (if i < 0 then decide (j < i) else decide (i < j)) else decide (i < 0)) = _
          rw [if_neg h]
        rw [ev]
        exact defM_rt (a := .d (.bl (decide (i < 0)))) [.d (.int i), .d (.int j), .un, .un] rfl rfl (env := [.d (.int i), .d (.int j), .un, .un]) (ev_seq2 (ev_iteF c1 rfl ev_skip) (ev_seq2 (sk _ skipS) (ev_seq_rt (ev_iteT c3 rfl (ev_ret l0))))) rfl rfl
def signV (a b : Bool) : Int := if a = true then -1 else if b = true then 1 else 0
theorem ev_sign (a b : Bool) : m_ulawusign [.d (.bl a), .d (.bl b)] = some (.ok (.d (.int (signV a b))) [.d (.bl a), .d (.bl b)]) := by
  cases a with
  | true => exact defM_rt (a := .d (.int (-1))) [.d (.bl true), .d (.bl b)] rfl rfl (env := [.d (.bl true), .d (.bl b)]) (ev_seq_rt (ev_iteT (a := .d (.bl true)) (ev_var rfl) rfl (ev_ret (ev_one ev_const pk_d Dw.neg_int')))) rfl rfl
  | false =>
    cases b with
    | true => exact defM_rt (a := .d (.int 1)) [.d (.bl false), .d (.bl true)] rfl rfl (env := [.d (.bl false), .d (.bl true)]) (ev_seq2 (ev_iteF (a := .d (.bl false)) (ev_var rfl) rfl ev_skip) (ev_seq_rt (ev_iteT (a := .d (.bl true)) (ev_var rfl) rfl (ev_ret ev_const)))) rfl rfl
    | false => exact defM_rt (a := .d (.int 0)) [.d (.bl false), .d (.bl false)] rfl rfl (env := [.d (.bl false), .d (.bl false)]) (ev_seq2 (ev_iteF (a := .d (.bl false)) (ev_var rfl) rfl ev_skip) (ev_seq2 (ev_iteF (a := .d (.bl false)) (ev_var rfl) rfl ev_skip) (ev_ret ev_const))) rfl rfl
theorem ev_isint {i : Int} : m_ulawuisuinteger [.d (.int i), .d (.int i)] = some (.ok (.d (.bl true)) [.d (.int i), .d (.int i)]) := by
  have e : two (op2 eqD) (varE 0) (varE 1) [.d (.int i), .d (.int i)] = some (.ok (.d (.bl (i == i))) [.d (.int i), .d (.int i)]) := ev_two (ev_var rfl) (ev_var rfl) pk_d pk_d Dw.eq_int
  rw [beq_self_eq_true] at e
  exact defM_rt (a := .d (.bl true)) [.d (.int i), .d (.int i)] rfl rfl (env := [.d (.int i), .d (.int i)]) (ev_ret (ev_andT (a := .d (.bl (isiD "int" (.int i)))) (ev_isi (ev_var rfl) pk_d) rfl (ev_andT (a := .d (.bl (!isiD "bool" (.int i)))) (ev_not (ev_isi (ev_var rfl) pk_d) rfl) rfl e))) rfl rfl
theorem eqBs_str (s t : List Nat) : eqBs [.str s] [.str t] = decide (s = t) := by
  simp only [eqBs, eqB, Bool.and_true]
  by_cases h : s = t
  · subst h; simp
  · simp [h]
theorem cmp_sign {x y : D} (hx : isVal 80 x) (hy : isVal 80 y) : cmpV x y = signV (befV x y) (befV y x) := by
  unfold cmpV signV
  rcases hx with ⟨s, rfl, _, _⟩ | ⟨i, rfl⟩
  · rcases hy with ⟨t, rfl, _, _⟩ | ⟨j, rfl⟩
    · by_cases h : s.length = t.length
      · rcases dueB_spec s t h with ⟨h1, h2⟩ | ⟨h1, h2, h3, h4⟩ | ⟨h1, h2, h3, h4⟩
        · subst h2
          simp [keyD, eqB, eqBs, befV, h1]
        · have h2' : ¬ t = s := fun z => h2 z.symm
          simp [keyD, eqB, eqBs, ltB, ltBs, befV, h, h1, h4, h2, h3]
        · have h2' : ¬ t = s := fun z => h2 z.symm
          simp [keyD, eqB, eqBs, ltB, ltBs, befV, h, h1, h4, h2, h3]
      · have h' : ¬ t.length = s.length := fun z => h z.symm
        have hI : ¬ ((s.length : Int) = t.length) := by omega
        by_cases hlt : s.length < t.length
        · have : ¬ t.length < s.length := by omega
          simp [keyD, eqB, eqBs, ltB, ltBs, befV, h, h', hI, hlt, this]
        · have : t.length < s.length := by omega
          simp [keyD, eqB, eqBs, ltB, ltBs, befV, h, h', hI, hlt, this]
    · by_cases hj : j < 0 <;> simp [keyD, hj, eqB, eqBs, ltB, ltBs, befV]
  · rcases hy with ⟨t, rfl, _, _⟩ | ⟨j, rfl⟩
    · by_cases hi : i < 0 <;> simp [keyD, hi, eqB, eqBs, ltB, ltBs, befV]
    · by_cases hi : i < 0
      · by_cases hj : j < 0
        · by_cases h : i = j
          · subst h; simp [keyD, hi, eqB, eqBs, befV]
          · have h1 : ¬ -i = -j := by omega
            by_cases hlt : j < i
            · have h2 : ¬ i < j := by omega
              have h3 : -i < -j := by omega
              simp [keyD, hi, hj, eqB, eqBs, ltB, ltBs, befV, h1, hlt, h2, h3]
            · have h2 : i < j := by omega
              have h3 : ¬ -i < -j := by omega
              simp [keyD, hi, hj, eqB, eqBs, ltB, ltBs, befV, h1, hlt, h2, h3]
        · simp [keyD, hi, hj, eqB, eqBs, ltB, ltBs, befV]
      · by_cases hj : j < 0
        · simp [keyD, hi, hj, eqB, eqBs, ltB, ltBs, befV]
        · by_cases h : i = j
          · subst h; simp [keyD, hi, eqB, eqBs, befV]
          · by_cases hlt : i < j
            · have h2 : ¬ j < i := by omega
              simp [keyD, hi, hj, eqB, eqBs, ltB, ltBs, befV, h, hlt, h2]
            · have h2 : j < i := by omega
              simp [keyD, hi, hj, eqB, eqBs, ltB, ltBs, befV, h, hlt, h2]
theorem cmp_self (x : D) (hx : isVal 80 x) : cmpV x x = 0 := by
  rw [cmp_sign hx hx]
  have : befV x x = false := by
    rcases hx with ⟨s, rfl, _, _⟩ | ⟨i, rfl⟩
    · rcases dueB_spec s s rfl with ⟨h1, _⟩ | ⟨_, h2, _⟩ | ⟨_, h2, _⟩
      · simp [befV, h1]
      · exact absurd rfl h2
      · exact absurd rfl h2
    · simp [befV]
  rw [this]
  rfl
theorem bef_asym {x y : D} (hx : isVal 80 x) (hy : isVal 80 y) : ¬ (befV x y = true ∧ befV y x = true) := by
  rintro ⟨h1, h2⟩
  rcases hx with ⟨s, rfl, _, _⟩ | ⟨i, rfl⟩
  · rcases hy with ⟨t, rfl, _, _⟩ | ⟨j, rfl⟩
    · by_cases h : s.length = t.length
      · rcases dueB_spec s t h with ⟨a1, a2⟩ | ⟨a1, _, _, a4⟩ | ⟨a1, _, _, a4⟩
        · simp [befV, h, a1] at h1
        · simp [befV, h, a4] at h2
        · simp [befV, h, a1] at h1
      · have h' : ¬ t.length = s.length := fun z => h z.symm
        simp [befV, h] at h1
        simp [befV, h'] at h2
        omega
    · simp [befV] at h2
  · rcases hy with ⟨t, rfl, _, _⟩ | ⟨j, rfl⟩
    · simp [befV] at h1
    · by_cases hi : i < 0 <;> by_cases hj : j < 0 <;> simp [befV, hi, hj] at h1 h2
      · omega
      · omega
theorem sign_neg {x y : D} (hx : isVal 80 x) (hy : isVal 80 y) : signV (befV y x) (befV x y) = - signV (befV x y) (befV y x) := by
  have h := bef_asym hx hy
  cases h1 : befV x y <;> cases h2 : befV y x <;> simp [signV, h1, h2] at h ⊢
theorem val_up {x : D} (h : isVal 36 x) : isVal 80 x := by
  rcases h with ⟨s, rfl, a, b⟩ | h
  · exact .inl ⟨s, rfl, by omega, b⟩
  · exact .inr h
end
end P_talkalike_k19_order_of_talks
namespace P_talkalike_k19_order_of_talks
noncomputable section
open PySem PySem.Spec PyProof.Rows L2 Dw
/-! ### orders by keys -/
structure Ord {α : Type} (P : α → Prop) (key : α → D) (eq bef : α → α → Bool) : Prop where
  e : ∀ x y, P x → P y → eqB (key x) (key y) = eq x y
  s : ∀ x y, P x → P y → eq y x = eq x y
  l : ∀ x y, P x → P y → eq x y = false → ltB (key x) (key y) = bef x y ∧ bef y x = !bef x y
  d : ∀ x y, P x → P y → eq x y = true → bef x y = false
def cmpK (x y : D) : Int := if eqB x y = true then 0 else if ltB x y = true then -1 else 1
theorem Ord.cmp {α : Type} {P : α → Prop} {key : α → D} {eq bef : α → α → Bool} (O : Ord P key eq bef) {x y : α} (hx : P x) (hy : P y) : cmpK (key x) (key y) = signV (bef x y) (bef y x) := by
  unfold cmpK signV
  rw [O.e x y hx hy]
  cases h : eq x y with
  | true =>
    have h2 : eq y x = true := by rw [O.s x y hx hy]; exact h
    rw [O.d x y hx hy h, O.d y x hy hx h2]
    simp
  | false =>
    obtain ⟨a, b⟩ := O.l x y hx hy h
    rw [a, b]
    cases bef x y <;> simp
theorem Ord.neg {α : Type} {P : α → Prop} {key : α → D} {eq bef : α → α → Bool} (O : Ord P key eq bef) {x y : α} (hx : P x) (hy : P y) : signV (bef y x) (bef x y) = - signV (bef x y) (bef y x) := by
  cases h : eq x y with
  | true =>
    have h2 : eq y x = true := by rw [O.s x y hx hy]; exact h
    rw [O.d x y hx hy h, O.d y x hy hx h2]
    rfl
  | false =>
    obtain ⟨a, b⟩ := O.l x y hx hy h
    rw [b]
    cases bef x y <;> rfl
theorem eqB_refl (x : D) : eqB x x = true :=
  @D.rec (fun x => eqB x x = true) (fun xs => eqBs xs xs = true) rfl (fun b => by cases b <;> rfl) (fun i => by simp [eqB]) (fun x => by simp [eqB]) (fun xs h => by simpa [eqB] using h) (fun xs h => by simpa [eqB] using h) rfl (fun x xs h1 h2 => by simp [eqBs, h1, h2]) x
theorem Ord.self {α : Type} {P : α → Prop} {key : α → D} {eq bef : α → α → Bool} (O : Ord P key eq bef) {x : α} (hx : P x) : cmpK (key x) (key x) = 0 := by
  unfold cmpK
  rw [eqB_refl]
  rfl
/-- values -/
theorem ord_val : Ord (isVal 80) keyD eqB befV := by
  have key_eq : ∀ x y, isVal 80 x → isVal 80 y → eqB (keyD x) (keyD y) = eqB x y := by
    rintro x y (⟨s, rfl, _, _⟩ | ⟨i, rfl⟩) (⟨t, rfl, _, _⟩ | ⟨j, rfl⟩)
    · simp only [keyD, eqB, eqBs, Bool.and_true]
      by_cases h : s = t
      · subst h; simp
      · simp [h]
    · by_cases hj : j < 0 <;> simp [keyD, hj, eqB, eqBs]
    · by_cases hi : i < 0 <;> simp [keyD, hi, eqB, eqBs]
    · by_cases hi : i < 0 <;> by_cases hj : j < 0
      · simp only [keyD, hi, hj, if_true, eqB, eqBs, Bool.and_true]
        by_cases h : i = j
        · subst h; simp
        · have h2 : -i ≠ -j := by omega
          rw [beq_eq_false_iff_ne.mpr h2, beq_eq_false_iff_ne.mpr h]; rfl
      · have : ¬ i = j := by omega
        simp [keyD, hi, hj, eqB, eqBs, this]
      · have : ¬ i = j := by omega
        simp [keyD, hi, hj, eqB, eqBs, this]
      · simp [keyD, hi, hj, eqB, eqBs]
  have sym : ∀ x y, isVal 80 x → isVal 80 y → eqB y x = eqB x y := by
    rintro x y (⟨s, rfl, _, _⟩ | ⟨i, rfl⟩) (⟨t, rfl, _, _⟩ | ⟨j, rfl⟩)
    · exact BEq.comm
    · rfl
    · rfl
    · exact BEq.comm
  refine ⟨key_eq, sym, fun x y hx hy h => ?_, fun x y hx hy h => ?_⟩
  · have c := cmp_sign hx hy
    have a := bef_asym hx hy
    unfold cmpV signV at c
    rw [key_eq x y hx hy, h] at c
    cases h1 : ltB (keyD x) (keyD y) <;> cases h2 : befV x y <;> cases h3 : befV y x <;> simp [h1, h2, h3] at c a ⊢
  · have c := cmp_sign hx hy
    unfold cmpV signV at c
    rw [key_eq x y hx hy, h] at c
    cases h2 : befV x y <;> cases h3 : befV y x <;> simp [h2, h3] at c ⊢
/-- lists of one length -/
def eqL {α : Type} (eq : α → α → Bool) : List α → List α → Bool
  | [], [] => true
  | x :: xs, y :: ys => eq x y && eqL eq xs ys
  | _, _ => false
def befL {α : Type} (eq bef : α → α → Bool) : List α → List α → Bool
  | x :: xs, y :: ys => if eq x y = true then befL eq bef xs ys else bef x y
  | _, _ => false
section
variable {α : Type} {P : α → Prop} {key : α → D} {eq bef : α → α → Bool} (O : Ord P key eq bef)
include O
theorem eqL_key : ∀ (xs ys : List α), (∀ x ∈ xs, P x) → (∀ y ∈ ys, P y) → eqBs (xs.map key) (ys.map key) = eqL eq xs ys
  | [], [], _, _ => rfl
  | [], _ :: _, _, _ => rfl
  | _ :: _, [], _, _ => rfl
  | x :: xs, y :: ys, hx, hy => by
    rw [List.map_cons, List.map_cons, eqBs, eqL, O.e x y (hx x (List.mem_cons_self ..)) (hy y (List.mem_cons_self ..)), eqL_key xs ys (fun z h => hx z (List.mem_cons_of_mem _ h)) (fun z h => hy z (List.mem_cons_of_mem _ h))]
theorem eqL_sym : ∀ (xs ys : List α), (∀ x ∈ xs, P x) → (∀ y ∈ ys, P y) → eqL eq ys xs = eqL eq xs ys
  | [], [], _, _ => rfl
  | [], _ :: _, _, _ => rfl
  | _ :: _, [], _, _ => rfl
  | x :: xs, y :: ys, hx, hy => by
    rw [eqL, eqL, O.s x y (hx x (List.mem_cons_self ..)) (hy y (List.mem_cons_self ..)), eqL_sym xs ys (fun z h => hx z (List.mem_cons_of_mem _ h)) (fun z h => hy z (List.mem_cons_of_mem _ h))]
theorem befL_lt : ∀ (xs ys : List α), xs.length = ys.length → (∀ x ∈ xs, P x) → (∀ y ∈ ys, P y) → eqL eq xs ys = false → ltBs (xs.map key) (ys.map key) = befL eq bef xs ys ∧ befL eq bef ys xs = !befL eq bef xs ys
  | [], [], _, _, _, h => by cases h
  | [], _ :: _, h, _, _, _ => by cases h
  | _ :: _, [], h, _, _, _ => by cases h
  | x :: xs, y :: ys, hl, hx, hy, h => by
    have px := hx x (List.mem_cons_self ..)
    have py := hy y (List.mem_cons_self ..)
    rw [List.map_cons, List.map_cons, ltBs, befL, befL, O.e x y px py, O.s x y px py]
    rw [eqL] at h
    cases he : eq x y with
    | true =>
      rw [he, Bool.true_and] at h
      rw [if_pos rfl, if_pos rfl, if_pos rfl]
      exact befL_lt xs ys (by simpa using hl) (fun z h => hx z (List.mem_cons_of_mem _ h)) (fun z h => hy z (List.mem_cons_of_mem _ h)) h
    | false =>
      rw [if_neg (by simp), if_neg (by simp), if_neg (by simp)]
      exact O.l x y px py he
theorem befL_eq : ∀ (xs ys : List α), (∀ x ∈ xs, P x) → (∀ y ∈ ys, P y) → eqL eq xs ys = true → befL eq bef xs ys = false
  | [], [], _, _, _ => rfl
  | [], _ :: _, _, _, _ => rfl
  | _ :: _, [], _, _, _ => rfl
  | x :: xs, y :: ys, hx, hy, h => by
    rw [eqL, Bool.and_eq_true] at h
    rw [befL, if_pos h.1]
    exact befL_eq xs ys (fun z h => hx z (List.mem_cons_of_mem _ h)) (fun z h => hy z (List.mem_cons_of_mem _ h)) h.2
/-- a number and a list, compared in this order; lists of one number have one length -/
theorem ord_pair {β : Type} {Q : β → Prop} {n : β → Nat} {f : β → List α} (hf : ∀ b, Q b → ∀ x ∈ f b, P x) (hl : ∀ b c, Q b → Q c → n b = n c → (f b).length = (f c).length) :
    Ord Q (fun b => .tup [.int (n b : Nat), .lst ((f b).map key)]) (fun b c => (n b == n c) && eqL eq (f b) (f c)) (fun b c => if (n b == n c) = true then befL eq bef (f b) (f c) else decide (n b < n c)) := by
  have ie : ∀ b c : β, eqB (.int (n b : Nat)) (.int (n c : Nat)) = (n b == n c) := fun b c => by
    show (((n b : Nat) : Int) == ((n c : Nat) : Int)) = _
    by_cases h : n b = n c
    · rw [h]; simp
    · have h2 : ((n b : Nat) : Int) ≠ (n c : Nat) := by omega
      rw [beq_eq_false_iff_ne.mpr h2, beq_eq_false_iff_ne.mpr h]
  refine ⟨fun b c hb hc => ?_, fun b c hb hc => ?_, fun b c hb hc h => ?_, fun b c hb hc h => ?_⟩
  · show ((eqB (.int (n b : Nat)) (.int (n c : Nat))) && (eqB (.lst ((f b).map key)) (.lst ((f c).map key)) && true)) = _
    rw [ie, Bool.and_true]
    show ((n b == n c) && eqBs ((f b).map key) ((f c).map key)) = _
    rw [eqL_key O _ _ (hf b hb) (hf c hc)]
  · rw [eqL_sym O _ _ (hf b hb) (hf c hc), show (n c == n b) = (n b == n c) from BEq.comm]
  · show (ltBs [.int (n b : Nat), .lst ((f b).map key)] [.int (n c : Nat), .lst ((f c).map key)] = _) ∧ _
    rw [ltBs, ie]
    cases hn : (n b == n c) with
    | true =>
      rw [hn, Bool.true_and] at h
      have hn2 : (n c == n b) = true := by rw [BEq.comm]; exact hn
      obtain ⟨a, b'⟩ := befL_lt O _ _ (hl b c hb hc (eq_of_beq hn)) (hf b hb) (hf c hc) h
      rw [if_pos rfl, if_pos rfl, hn2, if_pos rfl, ltBs]
      rw [show eqB (.lst ((f b).map key)) (.lst ((f c).map key)) = eqL eq (f b) (f c) from eqL_key O _ _ (hf b hb) (hf c hc), h, if_neg (by simp)]
      exact ⟨a, b'⟩
    | false =>
      have hn2 : (n c == n b) = false := by rw [BEq.comm]; exact hn
      rw [if_neg (by simp), if_neg (by simp), hn2, if_neg (by simp)]
      have hne : n b ≠ n c := fun z => by rw [z] at hn; simp at hn
      refine ⟨?_, ?_⟩
      · show decide (((n b : Nat) : Int) < ((n c : Nat) : Int)) = decide (n b < n c)
        by_cases hh : n b < n c
        · have : ((n b : Nat) : Int) < (n c : Nat) := by omega
          simp [hh]
        · have : ¬ ((n b : Nat) : Int) < (n c : Nat) := by omega
          simp [hh]
      · by_cases hh : n b < n c
        · have : ¬ n c < n b := by omega
          simp [hh, this]
        · have : n c < n b := by omega
          simp [hh, this]
  · rw [Bool.and_eq_true] at h
    rw [if_pos h.1]
    exact befL_eq O _ _ (hf b hb) (hf c hc) h.2
end
end
end P_talkalike_k19_order_of_talks
namespace P_talkalike_k19_order_of_talks
noncomputable section
open PySem PySem.Spec PyProof.Rows L2 Dw
/-! ### kinds, requests, talks -/
def kNew : List Nat := [110, 101, 119]
abbrev Kd := List (List Nat)
def kD (k : Kd) : D := .tup (k.map D.str)
def ksD (K : List Kd) : D := .lst (K.map kD)
def hdn (K : List Kd) (n : Nat) : List Nat := (K.getD n []).headD []
def okNm (x : List Nat) : Prop := x.length ≤ 40 ∧ ∀ c ∈ x, 97 ≤ c ∧ c < 123
structure okK (K : List Kd) : Prop where
  n0 : 1 ≤ K.length
  n1 : K.length ≤ 6
  l0 : ∀ k ∈ K, 1 ≤ k.length
  l1 : ∀ k ∈ K, k.length ≤ 4
  nm : ∀ k ∈ K, ∀ x ∈ k, okNm x
  fst : hdn K 0 = kNew
  dis : ∀ i j, i < K.length → j < K.length → hdn K i = hdn K j → i = j
structure Rq where
  n : Nat
  o : Int
  vs : List D
def items (q : Rq) : List D := (if q.n = 0 then .str kNew else .int q.o) :: q.vs
def rqD (K : List Kd) (q : Rq) : D := if q.n = 0 then .tup (.str kNew :: q.vs) else .tup (.int q.o :: .str (hdn K q.n) :: q.vs)
structure okR (K : List Kd) (B : Nat) (q : Rq) : Prop where
  n : q.n < K.length
  l : q.vs.length + 1 = (K.getD q.n []).length
  v : ∀ v ∈ q.vs, isVal B v
def keyR (q : Rq) : D := .tup [.int (q.n : Nat), .lst ((items q).map keyD)]
def eqR (p q : Rq) : Bool := (p.n == q.n) && eqL eqB (items p) (items q)
def befR (p q : Rq) : Bool := if (p.n == q.n) = true then befL eqB befV (items p) (items q) else decide (p.n < q.n)
theorem val_new : isVal 80 (.str kNew) := .inl ⟨kNew, rfl, by decide, by decide⟩
theorem items_val {K : List Kd} {q : Rq} (h : okR K 80 q) : ∀ x ∈ items q, isVal 80 x := by
  intro x hx
  rcases List.mem_cons.mp hx with rfl | hx
  · by_cases h0 : q.n = 0
    · rw [if_pos h0]; exact val_new
    · rw [if_neg h0]; exact .inr ⟨_, rfl⟩
  · exact h.v x hx
theorem ord_R (K : List Kd) : Ord (okR K 80) keyR eqR befR :=
  ord_pair ord_val (Q := okR K 80) (n := Rq.n) (f := items) (fun b hb => items_val hb) fun b c hb hc h => by
    have h1 := hb.l
    have h2 := hc.l
    rw [h] at h1
    show b.vs.length + 1 = c.vs.length + 1
    omega
abbrev Tk := List Rq
def tkD (K : List Kd) (t : Tk) : D := .lst (t.map (rqD K))
def okT (K : List Kd) (t : Tk) : Prop := ∀ q ∈ t, okR K 80 q
def keyT (t : Tk) : D := .tup [.int (t.length : Nat), .lst (t.map keyR)]
def eqT (s t : Tk) : Bool := (s.length == t.length) && eqL eqR s t
def befT (s t : Tk) : Bool := if (s.length == t.length) = true then befL eqR befR s t else decide (s.length < t.length)
theorem ord_T (K : List Kd) : Ord (okT K) keyT eqT befT := ord_pair (ord_R K) (Q := okT K) (n := List.length) (f := id) (fun b hb => hb) fun b c hb hc h => h
/-! ### they may be compared -/
theorem lay_key {x : D} (h : isVal 80 x) : PyData.canLay0 (py (keyD x)) = true ∧ PyData.depth (py (keyD x)) ≤ 3 ∧ seqD (keyD x) = true := by
  rcases h with ⟨s, rfl, hs, hg⟩ | ⟨i, rfl⟩
  · refine ⟨?_, ?_, rfl⟩
    · simp [keyD, py, pys, PyData.canLay0, PyData.canLayAll0, strOk_of hg]
    · simp [keyD, py, pys, PyData.depth, PyData.depthAll]
  · by_cases hi : i < 0
    · refine ⟨?_, ?_, by simp [keyD, hi, seqD]⟩
      · simp [keyD, hi, py, pys, PyData.canLay0, PyData.canLayAll0]
      · simp [keyD, hi, py, pys, PyData.depth, PyData.depthAll]
    · refine ⟨?_, ?_, by simp [keyD, hi, seqD]⟩
      · simp [keyD, hi, py, pys, PyData.canLay0, PyData.canLayAll0]
      · simp [keyD, hi, py, pys, PyData.depth, PyData.depthAll]
theorem lay_list {α : Type} {f : α → D} {k : Nat} : ∀ xs : List α, (∀ x ∈ xs, PyData.canLay0 (py (f x)) = true ∧ PyData.depth (py (f x)) ≤ k) → PyData.canLayAll0 (pys (xs.map f)) = true ∧ PyData.depthAll (pys (xs.map f)) ≤ k
  | [], _ => ⟨rfl, by simp [pys, PyData.depthAll]⟩
  | x :: xs, h => by
    obtain ⟨a, b⟩ := h x (List.mem_cons_self ..)
    obtain ⟨c, d⟩ := lay_list xs fun y hy => h y (List.mem_cons_of_mem _ hy)
    constructor
    · simp [pys, PyData.canLayAll0, a, c]
    · simp only [List.map_cons, pys, PyData.depthAll]
      omega
theorem lay_keyR {K : List Kd} {q : Rq} (h : okR K 80 q) : PyData.canLay0 (py (keyR q)) = true ∧ PyData.depth (py (keyR q)) ≤ 6 := by
  obtain ⟨a, b⟩ := lay_list (f := keyD) (k := 3) (items q) fun x hx => ⟨(lay_key (items_val h x hx)).1, (lay_key (items_val h x hx)).2.1⟩
  constructor
  · simp [keyR, py, pys, PyData.canLay0, PyData.canLayAll0, a]
  · simp only [keyR, py, pys, PyData.depth, PyData.depthAll]
    omega
theorem lay_keyT {K : List Kd} {t : Tk} (h : okT K t) : PyData.canLay0 (py (keyT t)) = true ∧ PyData.depth (py (keyT t)) ≤ 9 := by
  obtain ⟨a, b⟩ := lay_list (f := keyR) (k := 6) t fun q hq => lay_keyR (h q hq)
  constructor
  · simp [keyT, py, pys, PyData.canLay0, PyData.canLayAll0, a]
  · simp only [keyT, py, pys, PyData.depth, PyData.depthAll]
    omega
theorem alks_map {α : Type} {f : α → D} : ∀ xs ys : List α, (∀ x ∈ xs, ∀ y ∈ ys, alk (f x) (f y) = true) → alks (xs.map f) (ys.map f) = true
  | [], [], _ => rfl
  | [], _ :: _, _ => rfl
  | _ :: _, [], _ => rfl
  | x :: xs, y :: ys, h => by
    rw [List.map_cons, List.map_cons, alks, h x (List.mem_cons_self ..) y (List.mem_cons_self ..), alks_map xs ys fun a ha b hb => h a (List.mem_cons_of_mem _ ha) b (List.mem_cons_of_mem _ hb)]
    rfl
theorem alk_R {K : List Kd} {p q : Rq} (hp : okR K 80 p) (hq : okR K 80 q) : alk (keyR p) (keyR q) = true := by
  have := alks_map (f := keyD) (items p) (items q) fun x hx y hy => key_alk (items_val hp x hx) (items_val hq y hy)
  simp [keyR, alk, alks, this]
theorem alk_T {K : List Kd} {s t : Tk} (hs : okT K s) (ht : okT K t) : alk (keyT s) (keyT t) = true := by
  have := alks_map (f := keyR) s t fun x hx y hy => alk_R (hs x hx) (ht y hy)
  simp [keyT, alk, alks, this]
theorem ev_cmp {x y : D} (lx : PyData.canLay0 (py x) = true) (ly : PyData.canLay0 (py y) = true) (dx : PyData.depth (py x) ≤ 60) (dy : PyData.depth (py y) ≤ 60) (sx : seqD x = true) (al : alk x y = true) : m_compare_keys [.d x, .d y] = some (.ok (.d (.int (cmpK x y))) [.d x, .d y]) := by
  have hx : shp x = true := by
    unfold shp SeqAt.shaped
    rw [lx, Bool.true_and, decide_eq_true_eq]
    omega
  have hy : shp y = true := by
    unfold shp SeqAt.shaped
    rw [ly, Bool.true_and, decide_eq_true_eq]
    omega
  have e1 : eqD x y = some (.d (.bl (eqB x y))) := if_pos (by rw [hx, hy]; simp)
  have e2 : ltG x y = some (.d (.bl (ltB x y))) := ltG_seq sx al (by omega)
  have c1 : two (op2 eqD) (varE 0) (varE 1) [.d x, .d y] = some (.ok (.d (.bl (eqB x y))) [.d x, .d y]) := ev_two (ev_var rfl) (ev_var rfl) pk_d pk_d e1
  have c2 : two (op2 ltG) (varE 0) (varE 1) [.d x, .d y] = some (.ok (.d (.bl (ltB x y))) [.d x, .d y]) := ev_two (ev_var rfl) (ev_var rfl) pk_d pk_d e2
  refine defM_rt (a := .d (.int (cmpK x y))) (env := [.d x, .d y]) [.d x, .d y] rfl rfl ?_ rfl rfl
  unfold b_compare_keys cmpK
  cases h1 : eqB x y with
  | true =>
    rw [h1] at c1
    exact ev_seq_rt (ev_iteT c1 rfl (ev_ret ev_const))
  | false =>
    rw [h1] at c1
    refine ev_seq2 (ev_iteF c1 rfl ev_skip) (ev_ret ?_)
    cases h2 : ltB x y with
    | true =>
      rw [h2] at c2
      exact ev_ifT c2 rfl (ev_one ev_const pk_d Dw.neg_int')
    | false =>
      rw [h2] at c2
      exact ev_ifF c2 rfl ev_const
/-! ### a request's parts -/
theorem get_kind {K : List Kd} {n : Nat} (h : n < K.length) : getD (ksD K) (.int (n : Int)) = some (.d (kD (K.getD n []))) := by
  refine Dw.get_lst (L2.atI_nat ?_)
  rw [List.getElem?_map, List.getElem?_eq_getElem h, List.getD_eq_getElem?_getD, List.getElem?_eq_getElem h]
  rfl
theorem get_head {K : List Kd} (hK : okK K) {n : Nat} (h : n < K.length) : getD (kD (K.getD n [])) (.int 0) = some (.d (.str (hdn K n))) := by
  have hm : K.getD n [] ∈ K := by rw [List.getD_eq_getElem?_getD, List.getElem?_eq_getElem h]; exact List.getElem_mem h
  have hl := hK.l0 _ hm
  unfold hdn
  generalize K.getD n [] = k at hl
  match k, hl with
  | x :: xs, _ => exact Dw.get_tup (L2.atI_nat (j := 0) rfl)
theorem eq_is {i : Int} {x : List Nat} : eqD (.int i) (.str x) = some (.d (.bl false)) := rfl
theorem shp1 {x : D} (h : isVal 80 x) : shp (.tup [x]) = true := by
  rcases h with ⟨s, rfl, hs, hg⟩ | ⟨i, rfl⟩
  · simp [shp, SeqAt.shaped, py, pys, PyData.canLay0, PyData.canLayAll0, PyData.depth, PyData.depthAll, strOk_of hg]
  · simp [shp, SeqAt.shaped, py, pys, PyData.canLay0, PyData.canLayAll0, PyData.depth, PyData.depthAll]
theorem cutTo1 {x : D} {xs : List D} : cutL (x :: xs) none (some 1) = [x] := by
  unfold cutL
  rw [HT.sIx_none, show (1 : Int) = ((1 : Nat) : Int) from rfl, HT.sIx_nat, List.length_cons, Nat.min_eq_left (by omega)]
  simp
theorem cutFrom {n : Nat} {xs : List D} (h : n ≤ xs.length) : cutL xs (some (n : Int)) none = xs.drop n := by
  unfold cutL
  rw [HT.sIx_none, HT.sIx_nat, Nat.min_eq_left h]
  exact List.take_of_length_le (by rw [List.length_drop]; exact Nat.le_refl _)
/-- the first thing of a request -/
def fstD (q : Rq) : D := if q.n = 0 then .str kNew else .int q.o
def tlD (K : List Kd) (q : Rq) : List D := if q.n = 0 then q.vs else .str (hdn K q.n) :: q.vs
theorem rq_eq (K : List Kd) (q : Rq) : rqD K q = .tup (fstD q :: tlD K q) := by
  unfold rqD fstD tlD
  by_cases h : q.n = 0
  · rw [if_pos h, if_pos h, if_pos h]
  · rw [if_neg h, if_neg h, if_neg h]
theorem fst_val (q : Rq) : isVal 80 (fstD q) := by
  unfold fstD
  by_cases h : q.n = 0
  · rw [if_pos h]; exact val_new
  · rw [if_neg h]; exact .inr ⟨_, rfl⟩
theorem ev_opening (K : List Kd) (q : Rq) : m_is_opening [.d (rqD K q)] = some (.ok (.d (.bl (q.n == 0))) [.d (rqD K q)]) := by
  have sl : sliceE (varE 0) none (some (constE (.int 1))) [.d (rqD K q)] = some (.ok (.d (.tup [fstD q])) [.d (rqD K q)]) := by
    refine ev_sl (a := .d (rqD K q)) (ev_var rfl) (fun k => bo_none) (fun k => bo_some (a := .d (.int 1)) ev_const rfl) pk_d ?_
    rw [rq_eq]
    show some (RV.d (.tup (cutL _ _ _))) = _
    rw [cutTo1]
  have e : eqD (.tup [fstD q]) (.tup [.str kNew]) = some (.d (.bl (q.n == 0))) := by
    have h1 : eqD (.tup [fstD q]) (.tup [.str kNew]) = some (.d (.bl (eqB (.tup [fstD q]) (.tup [.str kNew])))) := if_pos (by rw [shp1 (fst_val q), shp1 val_new]; simp)
    rw [h1]
    unfold fstD
    by_cases h : q.n = 0
    · rw [if_pos h, h]; rfl
    · rw [if_neg h, beq_eq_false_iff_ne.mpr h]; rfl
  refine defM_rt (a := .d (.bl (q.n == 0))) (env := [.d (rqD K q)]) [.d (rqD K q)] rfl rfl ?_ rfl rfl
  unfold b_is_opening
  exact ev_ret (ev_two sl (ev_tup (as := [.d (.str kNew)]) (ev_cons ev_const ev_nil) (frzs_cons frz_d frzs_nil) (show 1 ≤ 100000 by decide)) pk_d pk_d e)
theorem ev_name_of {K : List Kd} (hK : okK K) (q : Rq) : m_name_of [.d (rqD K q)] = some (.ok (.d (.str (hdn K q.n))) [.d (rqD K q)]) := by
  have op := ev_opening K q
  have c : callD m_is_opening [] (consA (varE 0) nilA) [.d (rqD K q)] = some (.ok (.d (.bl (q.n == 0))) [.d (rqD K q)]) := ev_callD (as := [.d (rqD K q)]) (xs := [rqD K q]) (ev_cons (ev_var rfl) ev_nil) (frzs_cons frz_d frzs_nil) rfl op rfl
  refine defM_rt (a := .d (.str (hdn K q.n))) (env := [.d (rqD K q)]) [.d (rqD K q)] rfl rfl ?_ rfl rfl
  unfold b_name_of
  refine ev_ret ?_
  by_cases h : q.n = 0
  · rw [beq_iff_eq.mpr h] at c
    rw [h, hK.fst]
    exact ev_ifT c rfl ev_const
  · rw [beq_eq_false_iff_ne.mpr h] at c
    refine ev_ifF c rfl (ev_two (ev_var rfl) ev_const pk_d pk_d ?_)
    unfold rqD
    rw [if_neg h]
    exact Dw.get_tup (L2.atI_nat (j := 1) rfl)
theorem ev_values_of (K : List Kd) (q : Rq) : m_values_of [.d (rqD K q)] = some (.ok (.d (.tup q.vs)) [.d (rqD K q)]) := by
  have op := ev_opening K q
  have c : callD m_is_opening [] (consA (varE 0) nilA) [.d (rqD K q)] = some (.ok (.d (.bl (q.n == 0))) [.d (rqD K q)]) := ev_callD (as := [.d (rqD K q)]) (xs := [rqD K q]) (ev_cons (ev_var rfl) ev_nil) (frzs_cons frz_d frzs_nil) rfl op rfl
  refine defM_rt (a := .d (.tup q.vs)) (env := [.d (rqD K q)]) [.d (rqD K q)] rfl rfl ?_ rfl rfl
  unfold b_values_of
  refine ev_ret ?_
  by_cases h : q.n = 0
  · rw [beq_iff_eq.mpr h] at c
    refine ev_ifT c rfl (ev_sl (a := .d (rqD K q)) (ev_var rfl) (fun k => bo_some (a := .d (.int 1)) ev_const rfl) (fun k => bo_none) pk_d ?_)
    unfold rqD
    rw [if_pos h]
    show some (RV.d (.tup (cutL _ (some ((1 : Nat) : Int)) _))) = _
    rw [cutFrom (by simp)]
    rfl
  · rw [beq_eq_false_iff_ne.mpr h] at c
    refine ev_ifF c rfl (ev_sl (a := .d (rqD K q)) (ev_var rfl) (fun k => bo_some (a := .d (.int 2)) ev_const rfl) (fun k => bo_none) pk_d ?_)
    unfold rqD
    rw [if_neg h]
    show some (RV.d (.tup (cutL _ (some ((2 : Nat) : Int)) _))) = _
    rw [cutFrom (by simp)]
    rfl
theorem ev_kind_number {K : List Kd} (hK : okK K) {n : Nat} (h : n < K.length) : ∃ o, m_kind_number [.d (ksD K), .d (.str (hdn K n))] = some (.ok (.d (.int n)) o) := by
  obtain ⟨o, h1, w2, w3, rfl⟩ := loop_runR (tg := .two 2 3) (body := l_kind_number_1) (enumL 0 (K.map kD)) (fun k env => k ≤ n ∧ ∃ w2 w3 : SV, (freeSlot (some w2) = true ∧ freeSlot (some w3) = true) ∧ env = [.d (ksD K), .d (.str (hdn K n)), w2, w3])
    (fun o => ∃ w2 w3 : SV, o = .rt (.d (.int n)) [.d (ksD K), .d (.str (hdn K n)), w2, w3]) [.d (ksD K), .d (.str (hdn K n)), .un, .un] ⟨Nat.zero_le _, .un, .un, ⟨rfl, rfl⟩, rfl⟩ (by
      rintro env ⟨q1, _⟩
      rw [enumL_len, List.length_map] at q1
      omega) (by
      rintro k x env hx ⟨q1, w2, w3, ⟨q2, q3⟩, rfl⟩
      obtain ⟨y, hy, rfl⟩ := enumL_get 0 k _ _ hx
      rw [List.getElem?_map] at hy
      obtain ⟨kk, hk, rfl⟩ := Option.map_eq_some_iff.mp hy
      have hkl : k < K.length := (List.getElem?_eq_some_iff.mp hk).1
      have hkd : K.getD k [] = kk := by rw [List.getD_eq_getElem?_getD, hk]; rfl
      have gh := get_head hK hkl
      rw [hkd] at gh
      rw [Nat.zero_add]
      refine ⟨[.d (ksD K), .d (.str (hdn K n)), .d (.int k), .d (kD kk)], ?_, ?_⟩
      · show (setSlot 2 _ _).bind _ = _
        unfold setSlot
        rw [if_pos (show freeSlot ([SV.d (ksD K), .d (.str (hdn K n)), w2, w3][2]?) = true from q2), Option.bind_some]
        show (if freeSlot (some w3) = true then _ else _) = _
        rw [if_pos q3]
        rfl
      · have c1 : two (op2 eqD) (two (op2 getD) (varE 3) (constE (.int 0))) (varE 1) [.d (ksD K), .d (.str (hdn K n)), .d (.int k), .d (kD kk)] = some (.ok (.d (.bl (hdn K k == hdn K n))) [.d (ksD K), .d (.str (hdn K n)), .d (.int k), .d (kD kk)]) := ev_two (ev_two (ev_var rfl) ev_const pk_d pk_d gh) (ev_var rfl) pk_d pk_d Dw.eq_str
        by_cases hkn : k = n
        · subst hkn
          rw [beq_self_eq_true] at c1
          exact .inr (.inr ⟨_, _, ev_iteT c1 rfl (ev_ret (ev_var rfl)), _, _, rfl⟩)
        · rw [beq_eq_false_iff_ne.mpr fun z => hkn (hK.dis k n hkl h z)] at c1
          exact .inl ⟨_, .inl (ev_iteF c1 rfl ev_skip), by omega, .d (.int k), .d (kD kk), ⟨rfl, rfl⟩, rfl⟩)
  refine ⟨[.d (ksD K), .d (.str (hdn K n))], defM_rt (a := .d (.int n)) (env := [.d (ksD K), .d (.str (hdn K n)), w2, w3]) [.d (ksD K), .d (.str (hdn K n)), .un, .un] rfl rfl ?_ rfl rfl⟩
  unfold b_kind_number
  refine ev_seq_rt ?_
  rw [ev_for (xs := enumL 0 (K.map kD)) (env1 := [.d (ksD K), .d (.str (hdn K n)), .un, .un]) (by
    unfold enumE bindAI
    rw [ev_cons (a := .d (ksD K)) (ev_var rfl) ev_nil]
    rfl)]
  exact h1
theorem items_eq (q : Rq) : items q = fstD q :: q.vs := rfl
theorem ev_request_key {K : List Kd} (hK : okK K) {q : Rq} (hq : okR K 80 q) : ∃ o, m_request_key [.d (ksD K), .d (rqD K q)] = some (.ok (.d (keyR q)) o) := by
  have hs : (100000 : Nat) ≤ sizeLine := by decide
  have v1 := ev_values_of K q
  have v2 := ev_name_of hK q
  obtain ⟨o3, v3⟩ := ev_kind_number hK hq.n
  have hm : K.getD q.n [] ∈ K := by rw [List.getD_eq_getElem?_getD, List.getElem?_eq_getElem hq.n]; exact List.getElem_mem hq.n
  have hl := hq.l
  have hl4 := hK.l1 _ hm
  have sl : sliceE (varE 1) none (some (constE (.int 1))) [.d (ksD K), .d (rqD K q), .un, .un] = some (.ok (.d (.tup [fstD q])) [.d (ksD K), .d (rqD K q), .un, .un]) := by
    refine ev_sl (a := .d (rqD K q)) (ev_var rfl) (fun k => bo_none) (fun k => bo_some (a := .d (.int 1)) ev_const rfl) pk_d ?_
    rw [rq_eq]
    show some (RV.d (.tup (cutL _ _ _))) = _
    rw [cutTo1]
  have ad : addD (.tup [fstD q]) (.tup q.vs) = some (.d (.tup (items q))) := if_pos (by rw [List.length_singleton]; omega)
  have cp : compD [3] (.nm 3) none e_request_key_1 (items q) [] [.d (ksD K), .d (rqD K q), .d (.tup (items q)), .un] = some ([] ++ (items q).map keyD, [.d (ksD K), .d (rqD K q), .d (.tup (items q)), .un]) := comp_run keyD (items q) [] (fun x hx => by
    have e := ev_value_key (items_val hq x hx)
    refine ⟨[.d (ksD K), .d (rqD K q), .d (.tup (items q)), .d x], .d (keyD x), [.d (ksD K), .d (rqD K q), .d (.tup (items q)), .d x], [.d (ksD K), .d (rqD K q), .d (.tup (items q)), .d x], rfl, ?_, rfl, rfl⟩
    unfold e_request_key_1
    exact ev_callD (as := [.d x]) (xs := [x]) (ev_cons (ev_var rfl) ev_nil) (frzs_cons frz_d frzs_nil) rfl e rfl) (by rw [items_eq, List.length_cons]; simp; omega)
  have e1 : compE [3] (srcE (varE 2)) (.nm 3) none e_request_key_1 [.d (ksD K), .d (rqD K q), .d (.tup (items q)), .un] = some (.ok (.own (.lst ((items q).map keyD))) [.d (ksD K), .d (rqD K q), .d (.tup (items q)), .un]) :=
    ev_comp (ev_src (a := .d (.tup (items q))) (ev_var rfl) frz_d rfl) cp rfl
  refine ⟨[.d (ksD K), .d (rqD K q)], defM_rt (a := .d (keyR q)) (env := [.d (ksD K), .d (rqD K q), .d (.tup (items q)), .un]) [.d (ksD K), .d (rqD K q), .un, .un] rfl rfl ?_ rfl rfl⟩
  unfold b_request_key
  refine ev_seq2 (env1 := [.d (ksD K), .d (rqD K q), .d (.tup (items q)), .un]) (by repeat' (first | with_reducible exact sl | with_reducible exact v1 | with_reducible exact ad | with_reducible exact Dw.ty_str | with_reducible exact Dw.ty_lst | with_reducible exact Dw.lst_eq | with_reducible exact Dw.set_z | with_reducible exact Dw.ret_d | with_reducible exact Dw.ret_own | with_reducible exact Dw.mapd_nn | with_reducible exact Dw.ev_const | with_reducible exact Dw.ev_nil | with_reducible exact Dw.pk_d | with_reducible exact Dw.pk_own | with_reducible exact Dw.pks_nil | with_reducible exact Dw.frz_d | with_reducible exact Dw.frz_own | with_reducible exact Dw.frzs_nil | with_reducible exact Dw.tru_bl | with_reducible exact Dw.ev_skip | with_reducible exact Dw.len_lst | with_reducible exact Dw.len_tup | with_reducible exact Dw.eq_int | with_reducible exact Dw.ne_int | with_reducible exact Dw.eq_str | with_reducible exact Dw.ne_str | with_reducible exact Dw.eq_bl | with_reducible exact Dw.ne_bl | with_reducible exact Dw.lt_int' | with_reducible exact Dw.lt_str' | with_reducible exact Dw.le_int' | with_reducible exact Dw.gt_int' | with_reducible exact Dw.ge_int' | with_reducible exact Dw.add_int' | with_reducible exact Dw.sub_int' | with_reducible exact Dw.neg_int' | with_reducible exact Dw.ord_str | with_reducible exact Dw.int_int | with_reducible exact Dw.int_bl | with_reducible exact Dw.list_lst | with_reducible exact Dw.list_tup | with_reducible exact Dw.tup_lst | with_reducible exact Dw.tup_tup | with_reducible exact Dw.it_lst | with_reducible exact Dw.it_tup | with_reducible exact Dw.it_str | ((with_reducible apply Dw.ev_var); exact rfl) | ((with_reducible apply Dw.ev_varO); exact rfl) | ((with_reducible apply Dw.pk_cv); exact rfl) | ((with_reducible apply Dw.fs_ok); exact rfl) | ((with_reducible apply Dw.gE); exact rfl) | with_reducible apply Dw.ev_two | with_reducible apply Dw.ev_one | with_reducible apply Dw.ev_cons | with_reducible apply Dw.pks_cons | with_reducible apply Dw.ev_callE | with_reducible apply Dw.ev_isi | with_reducible apply Dw.frzs_cons | with_reducible apply Dw.ev_tup | with_reducible apply Dw.ev_lst | with_reducible apply Dw.ev_not | with_reducible apply Dw.ev_met | with_reducible apply Dw.ev_mut | with_reducible apply Dw.ev_ret | with_reducible apply Dw.ev_expr | with_reducible apply Dw.ev_asg | with_reducible apply Dw.ev_args | with_reducible apply Dw.ev_src | with_reducible apply Dw.ev_callD | with_reducible apply Dw.mapd_c | with_reducible apply Dw.mapd_d | with_reducible apply Dw.set_s | with_reducible apply Dw.st_d | with_reducible apply Dw.st_own | with_reducible apply Dw.st_cv | with_reducible apply Dw.frz_cv | ((with_reducible apply Dw.len_str); assumption) | ((with_reducible apply Dw.get_str) <;> assumption) | with_reducible assumption)) (ev_ret ?_)
  exact ev_tup (as := [.d (.int q.n), .own (.lst ((items q).map keyD))]) (ev_cons (by repeat' (first | with_reducible exact v2 | with_reducible exact v3 | with_reducible exact Dw.ty_str | with_reducible exact Dw.ty_lst | with_reducible exact Dw.lst_eq | with_reducible exact Dw.set_z | with_reducible exact Dw.ret_d | with_reducible exact Dw.ret_own | with_reducible exact Dw.mapd_nn | with_reducible exact Dw.ev_const | with_reducible exact Dw.ev_nil | with_reducible exact Dw.pk_d | with_reducible exact Dw.pk_own | with_reducible exact Dw.pks_nil | with_reducible exact Dw.frz_d | with_reducible exact Dw.frz_own | with_reducible exact Dw.frzs_nil | with_reducible exact Dw.tru_bl | with_reducible exact Dw.ev_skip | with_reducible exact Dw.len_lst | with_reducible exact Dw.len_tup | with_reducible exact Dw.eq_int | with_reducible exact Dw.ne_int | with_reducible exact Dw.eq_str | with_reducible exact Dw.ne_str | with_reducible exact Dw.eq_bl | with_reducible exact Dw.ne_bl | with_reducible exact Dw.lt_int' | with_reducible exact Dw.lt_str' | with_reducible exact Dw.le_int' | with_reducible exact Dw.gt_int' | with_reducible exact Dw.ge_int' | with_reducible exact Dw.add_int' | with_reducible exact Dw.sub_int' | with_reducible exact Dw.neg_int' | with_reducible exact Dw.ord_str | with_reducible exact Dw.int_int | with_reducible exact Dw.int_bl | with_reducible exact Dw.list_lst | with_reducible exact Dw.list_tup | with_reducible exact Dw.tup_lst | with_reducible exact Dw.tup_tup | with_reducible exact Dw.it_lst | with_reducible exact Dw.it_tup | with_reducible exact Dw.it_str | ((with_reducible apply Dw.ev_var); exact rfl) | ((with_reducible apply Dw.ev_varO); exact rfl) | ((with_reducible apply Dw.pk_cv); exact rfl) | ((with_reducible apply Dw.fs_ok); exact rfl) | ((with_reducible apply Dw.gE); exact rfl) | with_reducible apply Dw.ev_two | with_reducible apply Dw.ev_one | with_reducible apply Dw.ev_cons | with_reducible apply Dw.pks_cons | with_reducible apply Dw.ev_callE | with_reducible apply Dw.ev_isi | with_reducible apply Dw.frzs_cons | with_reducible apply Dw.ev_tup | with_reducible apply Dw.ev_lst | with_reducible apply Dw.ev_not | with_reducible apply Dw.ev_met | with_reducible apply Dw.ev_mut | with_reducible apply Dw.ev_ret | with_reducible apply Dw.ev_expr | with_reducible apply Dw.ev_asg | with_reducible apply Dw.ev_args | with_reducible apply Dw.ev_src | with_reducible apply Dw.ev_callD | with_reducible apply Dw.mapd_c | with_reducible apply Dw.mapd_d | with_reducible apply Dw.set_s | with_reducible apply Dw.st_d | with_reducible apply Dw.st_own | with_reducible apply Dw.st_cv | with_reducible apply Dw.frz_cv | ((with_reducible apply Dw.len_str); assumption) | ((with_reducible apply Dw.get_str) <;> assumption) | with_reducible assumption)) (ev_cons e1 ev_nil)) (frzs_cons frz_d (frzs_cons frz_own frzs_nil)) (show 2 ≤ 100000 by decide)
theorem ev_talk_key {K : List Kd} (hK : okK K) {t : Tk} (ht : okT K t) (hl : t.length ≤ 1000) : ∃ o, m_talk_key [.d (ksD K), .d (tkD K t)] = some (.ok (.d (keyT t)) o) := by
  have cp : compD [2] (.nm 2) none e_talk_key_1 (t.map (rqD K)) [] [.d (ksD K), .d (tkD K t), .un] = some ([] ++ t.map keyR, [.d (ksD K), .d (tkD K t), .un]) := comp_two _ _ _ (by simp) (fun k x y hx hy => by
    rw [List.getElem?_map] at hx hy
    obtain ⟨q, hq, rfl⟩ := Option.map_eq_some_iff.mp hx
    rw [hq] at hy
    cases hy
    obtain ⟨o, e⟩ := ev_request_key hK (ht q (List.mem_of_getElem? hq))
    refine ⟨[.d (ksD K), .d (tkD K t), .d (rqD K q)], .d (keyR q), [.d (ksD K), .d (tkD K t), .d (rqD K q)], [.d (ksD K), .d (tkD K t), .d (rqD K q)], rfl, ?_, rfl, rfl⟩
    unfold e_talk_key_1
    exact ev_callD (as := [.d (ksD K), .d (rqD K q)]) (xs := [ksD K, rqD K q]) (ev_cons (ev_var rfl) (ev_cons (ev_var rfl) ev_nil)) (frzs_cons frz_d (frzs_cons frz_d frzs_nil)) rfl e rfl) (by simp; omega)
  have e1 : compE [2] (srcE (varE 1)) (.nm 2) none e_talk_key_1 [.d (ksD K), .d (tkD K t), .un] = some (.ok (.own (.lst (t.map keyR))) [.d (ksD K), .d (tkD K t), .un]) :=
    ev_comp (ev_src (a := .d (tkD K t)) (ev_var rfl) frz_d rfl) cp rfl
  have ln : lenD [tkD K t] = some (.d (.int t.length)) := by
    show some (RV.d (.int ((t.map (rqD K)).length : Nat))) = _
    rw [List.length_map]
  refine ⟨[.d (ksD K), .d (tkD K t)], defM_rt (a := .d (keyT t)) (env := [.d (ksD K), .d (tkD K t), .un]) [.d (ksD K), .d (tkD K t), .un] rfl rfl ?_ rfl rfl⟩
  unfold b_talk_key
  exact ev_ret (ev_tup (as := [.d (.int t.length), .own (.lst (t.map keyR))]) (ev_cons (by repeat' (first | with_reducible exact ln | with_reducible exact Dw.ty_str | with_reducible exact Dw.ty_lst | with_reducible exact Dw.lst_eq | with_reducible exact Dw.set_z | with_reducible exact Dw.ret_d | with_reducible exact Dw.ret_own | with_reducible exact Dw.mapd_nn | with_reducible exact Dw.ev_const | with_reducible exact Dw.ev_nil | with_reducible exact Dw.pk_d | with_reducible exact Dw.pk_own | with_reducible exact Dw.pks_nil | with_reducible exact Dw.frz_d | with_reducible exact Dw.frz_own | with_reducible exact Dw.frzs_nil | with_reducible exact Dw.tru_bl | with_reducible exact Dw.ev_skip | with_reducible exact Dw.len_lst | with_reducible exact Dw.len_tup | with_reducible exact Dw.eq_int | with_reducible exact Dw.ne_int | with_reducible exact Dw.eq_str | with_reducible exact Dw.ne_str | with_reducible exact Dw.eq_bl | with_reducible exact Dw.ne_bl | with_reducible exact Dw.lt_int' | with_reducible exact Dw.lt_str' | with_reducible exact Dw.le_int' | with_reducible exact Dw.gt_int' | with_reducible exact Dw.ge_int' | with_reducible exact Dw.add_int' | with_reducible exact Dw.sub_int' | with_reducible exact Dw.neg_int' | with_reducible exact Dw.ord_str | with_reducible exact Dw.int_int | with_reducible exact Dw.int_bl | with_reducible exact Dw.list_lst | with_reducible exact Dw.list_tup | with_reducible exact Dw.tup_lst | with_reducible exact Dw.tup_tup | with_reducible exact Dw.it_lst | with_reducible exact Dw.it_tup | with_reducible exact Dw.it_str | ((with_reducible apply Dw.ev_var); exact rfl) | ((with_reducible apply Dw.ev_varO); exact rfl) | ((with_reducible apply Dw.pk_cv); exact rfl) | ((with_reducible apply Dw.fs_ok); exact rfl) | ((with_reducible apply Dw.gE); exact rfl) | with_reducible apply Dw.ev_two | with_reducible apply Dw.ev_one | with_reducible apply Dw.ev_cons | with_reducible apply Dw.pks_cons | with_reducible apply Dw.ev_callE | with_reducible apply Dw.ev_isi | with_reducible apply Dw.frzs_cons | with_reducible apply Dw.ev_tup | with_reducible apply Dw.ev_lst | with_reducible apply Dw.ev_not | with_reducible apply Dw.ev_met | with_reducible apply Dw.ev_mut | with_reducible apply Dw.ev_ret | with_reducible apply Dw.ev_expr | with_reducible apply Dw.ev_asg | with_reducible apply Dw.ev_args | with_reducible apply Dw.ev_src | with_reducible apply Dw.ev_callD | with_reducible apply Dw.mapd_c | with_reducible apply Dw.mapd_d | with_reducible apply Dw.set_s | with_reducible apply Dw.st_d | with_reducible apply Dw.st_own | with_reducible apply Dw.st_cv | with_reducible apply Dw.frz_cv | ((with_reducible apply Dw.len_str); assumption) | ((with_reducible apply Dw.get_str) <;> assumption) | with_reducible assumption)) (ev_cons e1 ev_nil)) (frzs_cons frz_d (frzs_cons frz_own frzs_nil)) (show 2 ≤ 100000 by decide))
theorem ev_cmp_r {K : List Kd} (hK : okK K) {p q : Rq} (hp : okR K 80 p) (hq : okR K 80 q) : ∃ o, m_compare_requests [.d (ksD K), .d (rqD K p), .d (rqD K q)] = some (.ok (.d (.int (signV (befR p q) (befR q p)))) o) := by
  obtain ⟨o1, e1⟩ := ev_request_key hK hp
  obtain ⟨o2, e2⟩ := ev_request_key hK hq
  obtain ⟨l1, d1⟩ := lay_keyR hp
  obtain ⟨l2, d2⟩ := lay_keyR hq
  have e3 := ev_cmp l1 l2 (by omega) (by omega) rfl (alk_R hp hq)
  rw [(ord_R K).cmp hp hq] at e3
  refine ⟨[.d (ksD K), .d (rqD K p), .d (rqD K q)], defM_rt (a := .d (.int (signV (befR p q) (befR q p)))) (env := [.d (ksD K), .d (rqD K p), .d (rqD K q)]) [.d (ksD K), .d (rqD K p), .d (rqD K q)] rfl rfl ?_ rfl rfl⟩
  unfold b_compare_requests
  repeat' (first | with_reducible exact e1 | with_reducible exact e2 | with_reducible exact e3 | with_reducible exact Dw.ty_str | with_reducible exact Dw.ty_lst | with_reducible exact Dw.lst_eq | with_reducible exact Dw.set_z | with_reducible exact Dw.ret_d | with_reducible exact Dw.ret_own | with_reducible exact Dw.mapd_nn | with_reducible exact Dw.ev_const | with_reducible exact Dw.ev_nil | with_reducible exact Dw.pk_d | with_reducible exact Dw.pk_own | with_reducible exact Dw.pks_nil | with_reducible exact Dw.frz_d | with_reducible exact Dw.frz_own | with_reducible exact Dw.frzs_nil | with_reducible exact Dw.tru_bl | with_reducible exact Dw.ev_skip | with_reducible exact Dw.len_lst | with_reducible exact Dw.len_tup | with_reducible exact Dw.eq_int | with_reducible exact Dw.ne_int | with_reducible exact Dw.eq_str | with_reducible exact Dw.ne_str | with_reducible exact Dw.eq_bl | with_reducible exact Dw.ne_bl | with_reducible exact Dw.lt_int' | with_reducible exact Dw.lt_str' | with_reducible exact Dw.le_int' | with_reducible exact Dw.gt_int' | with_reducible exact Dw.ge_int' | with_reducible exact Dw.add_int' | with_reducible exact Dw.sub_int' | with_reducible exact Dw.neg_int' | with_reducible exact Dw.ord_str | with_reducible exact Dw.int_int | with_reducible exact Dw.int_bl | with_reducible exact Dw.list_lst | with_reducible exact Dw.list_tup | with_reducible exact Dw.tup_lst | with_reducible exact Dw.tup_tup | with_reducible exact Dw.it_lst | with_reducible exact Dw.it_tup | with_reducible exact Dw.it_str | ((with_reducible apply Dw.ev_var); exact rfl) | ((with_reducible apply Dw.ev_varO); exact rfl) | ((with_reducible apply Dw.pk_cv); exact rfl) | ((with_reducible apply Dw.fs_ok); exact rfl) | ((with_reducible apply Dw.gE); exact rfl) | with_reducible apply Dw.ev_two | with_reducible apply Dw.ev_one | with_reducible apply Dw.ev_cons | with_reducible apply Dw.pks_cons | with_reducible apply Dw.ev_callE | with_reducible apply Dw.ev_isi | with_reducible apply Dw.frzs_cons | with_reducible apply Dw.ev_tup | with_reducible apply Dw.ev_lst | with_reducible apply Dw.ev_not | with_reducible apply Dw.ev_met | with_reducible apply Dw.ev_mut | with_reducible apply Dw.ev_ret | with_reducible apply Dw.ev_expr | with_reducible apply Dw.ev_asg | with_reducible apply Dw.ev_args | with_reducible apply Dw.ev_src | with_reducible apply Dw.ev_callD | with_reducible apply Dw.mapd_c | with_reducible apply Dw.mapd_d | with_reducible apply Dw.set_s | with_reducible apply Dw.st_d | with_reducible apply Dw.st_own | with_reducible apply Dw.st_cv | with_reducible apply Dw.frz_cv | ((with_reducible apply Dw.len_str); assumption) | ((with_reducible apply Dw.get_str) <;> assumption) | with_reducible assumption)
theorem ev_cmp_t {K : List Kd} (hK : okK K) {s t : Tk} (hs : okT K s) (ht : okT K t) (ls : s.length ≤ 1000) (lt : t.length ≤ 1000) : ∃ o, m_compare_talks [.d (ksD K), .d (tkD K s), .d (tkD K t)] = some (.ok (.d (.int (cmpK (keyT s) (keyT t)))) o) := by
  obtain ⟨o1, e1⟩ := ev_talk_key hK hs ls
  obtain ⟨o2, e2⟩ := ev_talk_key hK ht lt
  obtain ⟨l1, d1⟩ := lay_keyT hs
  obtain ⟨l2, d2⟩ := lay_keyT ht
  have e3 := ev_cmp l1 l2 (by omega) (by omega) rfl (alk_T hs ht)
  refine ⟨[.d (ksD K), .d (tkD K s), .d (tkD K t)], defM_rt (a := .d (.int (cmpK (keyT s) (keyT t)))) (env := [.d (ksD K), .d (tkD K s), .d (tkD K t)]) [.d (ksD K), .d (tkD K s), .d (tkD K t)] rfl rfl ?_ rfl rfl⟩
  unfold b_compare_talks
  repeat' (first | with_reducible exact e1 | with_reducible exact e2 | with_reducible exact e3 | with_reducible exact Dw.ty_str | with_reducible exact Dw.ty_lst | with_reducible exact Dw.lst_eq | with_reducible exact Dw.set_z | with_reducible exact Dw.ret_d | with_reducible exact Dw.ret_own | with_reducible exact Dw.mapd_nn | with_reducible exact Dw.ev_const | with_reducible exact Dw.ev_nil | with_reducible exact Dw.pk_d | with_reducible exact Dw.pk_own | with_reducible exact Dw.pks_nil | with_reducible exact Dw.frz_d | with_reducible exact Dw.frz_own | with_reducible exact Dw.frzs_nil | with_reducible exact Dw.tru_bl | with_reducible exact Dw.ev_skip | with_reducible exact Dw.len_lst | with_reducible exact Dw.len_tup | with_reducible exact Dw.eq_int | with_reducible exact Dw.ne_int | with_reducible exact Dw.eq_str | with_reducible exact Dw.ne_str | with_reducible exact Dw.eq_bl | with_reducible exact Dw.ne_bl | with_reducible exact Dw.lt_int' | with_reducible exact Dw.lt_str' | with_reducible exact Dw.le_int' | with_reducible exact Dw.gt_int' | with_reducible exact Dw.ge_int' | with_reducible exact Dw.add_int' | with_reducible exact Dw.sub_int' | with_reducible exact Dw.neg_int' | with_reducible exact Dw.ord_str | with_reducible exact Dw.int_int | with_reducible exact Dw.int_bl | with_reducible exact Dw.list_lst | with_reducible exact Dw.list_tup | with_reducible exact Dw.tup_lst | with_reducible exact Dw.tup_tup | with_reducible exact Dw.it_lst | with_reducible exact Dw.it_tup | with_reducible exact Dw.it_str | ((with_reducible apply Dw.ev_var); exact rfl) | ((with_reducible apply Dw.ev_varO); exact rfl) | ((with_reducible apply Dw.pk_cv); exact rfl) | ((with_reducible apply Dw.fs_ok); exact rfl) | ((with_reducible apply Dw.gE); exact rfl) | with_reducible apply Dw.ev_two | with_reducible apply Dw.ev_one | with_reducible apply Dw.ev_cons | with_reducible apply Dw.pks_cons | with_reducible apply Dw.ev_callE | with_reducible apply Dw.ev_isi | with_reducible apply Dw.frzs_cons | with_reducible apply Dw.ev_tup | with_reducible apply Dw.ev_lst | with_reducible apply Dw.ev_not | with_reducible apply Dw.ev_met | with_reducible apply Dw.ev_mut | with_reducible apply Dw.ev_ret | with_reducible apply Dw.ev_expr | with_reducible apply Dw.ev_asg | with_reducible apply Dw.ev_args | with_reducible apply Dw.ev_src | with_reducible apply Dw.ev_callD | with_reducible apply Dw.mapd_c | with_reducible apply Dw.mapd_d | with_reducible apply Dw.set_s | with_reducible apply Dw.st_d | with_reducible apply Dw.st_own | with_reducible apply Dw.st_cv | with_reducible apply Dw.frz_cv | ((with_reducible apply Dw.len_str); assumption) | ((with_reducible apply Dw.get_str) <;> assumption) | with_reducible assumption)
end
end P_talkalike_k19_order_of_talks
namespace P_talkalike_k19_order_of_talks
noncomputable section
open PySem PySem.Spec PyProof.Rows L2 Dw
/-! ### the law's own order -/
def FL (K : List Kd) (q : Rq) : List D := fstD q :: tlD K q
theorem hd_val {K : List Kd} (hK : okK K) {n : Nat} (h : n < K.length) : isVal 80 (.str (hdn K n)) := by
  have hm : K.getD n [] ∈ K := by rw [List.getD_eq_getElem?_getD, List.getElem?_eq_getElem h]; exact List.getElem_mem h
  have hl := hK.l0 _ hm
  have hn := hK.nm _ hm
  unfold hdn
  generalize K.getD n [] = k at hl hn
  match k, hl with
  | x :: xs, _ =>
    have := hn x (List.mem_cons_self ..)
    exact .inl ⟨x, rfl, Nat.le_trans this.1 (by decide), this.2⟩
theorem fl_val {K : List Kd} (hK : okK K) {q : Rq} (hq : okR K 80 q) : ∀ x ∈ FL K q, isVal 80 x := by
  intro x hx
  rcases List.mem_cons.mp hx with rfl | hx
  · exact fst_val q
  · unfold tlD at hx
    by_cases h : q.n = 0
    · rw [if_pos h] at hx; exact hq.v x hx
    · rw [if_neg h] at hx
      rcases List.mem_cons.mp hx with rfl | hx
      · exact hd_val hK hq.n
      · exact hq.v x hx
theorem fl_len {K : List Kd} {p q : Rq} (hp : okR K 80 p) (hq : okR K 80 q) (h : p.n = q.n) : (FL K p).length = (FL K q).length := by
  have h1 := hp.l
  have h2 := hq.l
  rw [h] at h1
  unfold FL tlD
  rw [h]
  by_cases h0 : q.n = 0
  · rw [if_pos h0, if_pos h0]; simp; omega
  · rw [if_neg h0, if_neg h0]; simp; omega
theorem fl_short {K : List Kd} (hK : okK K) {q : Rq} (hq : okR K 80 q) : (FL K q).length ≤ 10 := by
  have hm : K.getD q.n [] ∈ K := by rw [List.getD_eq_getElem?_getD, List.getElem?_eq_getElem hq.n]; exact List.getElem_mem hq.n
  have hl := hq.l
  have hl4 := hK.l1 _ hm
  unfold FL tlD
  by_cases h0 : q.n = 0
  · rw [if_pos h0]; simp; omega
  · rw [if_neg h0]; simp; omega
theorem befL_fl {K : List Kd} {p q : Rq} (h : p.n = q.n) : befL eqB befV (FL K p) (FL K q) = befL eqB befV (items p) (items q) := by
  rw [items_eq, items_eq]
  unfold FL tlD
  rw [h]
  by_cases h0 : q.n = 0
  · rw [if_pos h0, if_pos h0]
  · rw [if_neg h0, if_neg h0, befL, befL, befL, eqB_refl, if_pos rfl]
theorem ev_number {K : List Kd} (hK : okK K) {q : Rq} (hq : okR K 80 q) : ∃ o, m_ulawunumber [.d (ksD K), .d (rqD K q)] = some (.ok (.d (.int (q.n : Nat))) o) := by
  have g0 : getD (rqD K q) (.int 0) = some (.d (fstD q)) := by rw [rq_eq]; exact Dw.get_tup (L2.atI_nat (j := 0) rfl)
  have hl : lenD [ksD K] = some (.d (.int K.length)) := by
    show some (RV.d (.int ((K.map kD).length : Nat))) = _
    rw [List.length_map]
  by_cases h : q.n = 0
  · have e : fstD q = .str kNew := if_pos h
    rw [e] at g0
    have c1 : two (op2 eqD) (two (op2 getD) (varE 1) (constE (.int 0))) (constE (.str [110, 101, 119])) [.d (ksD K), .d (rqD K q), .un] = some (.ok (.d (.bl (kNew == kNew))) [.d (ksD K), .d (rqD K q), .un]) := ev_two (ev_two (ev_var rfl) ev_const pk_d pk_d g0) ev_const pk_d pk_d Dw.eq_str
    rw [beq_self_eq_true] at c1
    rw [h]
    refine ⟨[.d (ksD K), .d (rqD K q)], defM_rt (a := .d (.int 0)) (env := [.d (ksD K), .d (rqD K q), .un]) [.d (ksD K), .d (rqD K q), .un] rfl rfl ?_ rfl rfl⟩
    unfold b_ulawunumber
    exact ev_seq_rt (ev_iteT c1 rfl (ev_ret ev_const))
  · have e : fstD q = .int q.o := if_neg h
    rw [e] at g0
    have g1 : getD (rqD K q) (.int 1) = some (.d (.str (hdn K q.n))) := by
      unfold rqD
      rw [if_neg h]
      exact Dw.get_tup (L2.atI_nat (j := 1) rfl)
    have c1 : two (op2 eqD) (two (op2 getD) (varE 1) (constE (.int 0))) (constE (.str [110, 101, 119])) [.d (ksD K), .d (rqD K q), .un] = some (.ok (.d (.bl false)) [.d (ksD K), .d (rqD K q), .un]) := ev_two (ev_two (ev_var rfl) ev_const pk_d pk_d g0) ev_const pk_d pk_d eq_is
    obtain ⟨o, h1, w2, rfl⟩ := loop_runR (tg := .nm 2) (body := l_ulawunumber_1) ((List.range K.length).map fun i => .int (i : Nat)) (fun k env => k ≤ q.n ∧ ∃ w2 : SV, freeSlot (some w2) = true ∧ env = [.d (ksD K), .d (rqD K q), w2])
      (fun o => ∃ w2 : SV, o = .rt (.d (.int (q.n : Nat))) [.d (ksD K), .d (rqD K q), w2]) [.d (ksD K), .d (rqD K q), .un] ⟨Nat.zero_le _, .un, rfl, rfl⟩ (by
        rintro env ⟨q1, _⟩
        rw [List.length_map, List.length_range] at q1
        have := hq.n
        omega) (by
        rintro k x env hx ⟨q1, w2, q2, rfl⟩
        rw [List.getElem?_map] at hx
        obtain ⟨i, hi, rfl⟩ := Option.map_eq_some_iff.mp hx
        have hk : k < K.length := by
          have := (List.getElem?_eq_some_iff.mp hi).1
          rwa [List.length_range] at this
        rw [List.getElem?_range hk] at hi
        cases hi
        have gk := get_kind hk
        have gh := get_head hK hk
        refine ⟨[.d (ksD K), .d (rqD K q), .d (.int k)], putT_nm q2 rfl, ?_⟩
        have c2 : two (op2 eqD) (two (op2 getD) (two (op2 getD) (varE 0) (varE 2)) (constE (.int 0))) (two (op2 getD) (varE 1) (constE (.int 1))) [.d (ksD K), .d (rqD K q), .d (.int k)] = some (.ok (.d (.bl (hdn K k == hdn K q.n))) [.d (ksD K), .d (rqD K q), .d (.int k)]) :=
          ev_two (ev_two (ev_two (ev_var rfl) (ev_var rfl) pk_d pk_d gk) ev_const pk_d pk_d gh) (ev_two (ev_var rfl) ev_const pk_d pk_d g1) pk_d pk_d Dw.eq_str
        by_cases hkn : k = q.n
        · rw [hkn, beq_self_eq_true] at c2
          subst hkn
          exact .inr (.inr ⟨_, _, ev_iteT c2 rfl (ev_ret (ev_var rfl)), _, rfl⟩)
        · rw [beq_eq_false_iff_ne.mpr fun z => hkn (hK.dis k q.n hk hq.n z)] at c2
          exact .inl ⟨_, .inl (ev_iteF c2 rfl ev_skip), by omega, .d (.int k), rfl, rfl⟩)
    refine ⟨[.d (ksD K), .d (rqD K q)], defM_rt (a := .d (.int (q.n : Nat))) (env := [.d (ksD K), .d (rqD K q), w2]) [.d (ksD K), .d (rqD K q), .un] rfl rfl ?_ rfl rfl⟩
    unfold b_ulawunumber
    refine ev_seq2 (ev_iteF c1 rfl ev_skip) (ev_seq_rt ?_)
    rw [ev_for (ev_args (as := [.d (.int K.length)]) (env1 := [.d (ksD K), .d (rqD K q), .un]) (by repeat' (first | with_reducible exact hl | with_reducible exact Dw.ty_str | with_reducible exact Dw.ty_lst | with_reducible exact Dw.lst_eq | with_reducible exact Dw.set_z | with_reducible exact Dw.ret_d | with_reducible exact Dw.ret_own | with_reducible exact Dw.mapd_nn | with_reducible exact Dw.ev_const | with_reducible exact Dw.ev_nil | with_reducible exact Dw.pk_d | with_reducible exact Dw.pk_own | with_reducible exact Dw.pks_nil | with_reducible exact Dw.frz_d | with_reducible exact Dw.frz_own | with_reducible exact Dw.frzs_nil | with_reducible exact Dw.tru_bl | with_reducible exact Dw.ev_skip | with_reducible exact Dw.len_lst | with_reducible exact Dw.len_tup | with_reducible exact Dw.eq_int | with_reducible exact Dw.ne_int | with_reducible exact Dw.eq_str | with_reducible exact Dw.ne_str | with_reducible exact Dw.eq_bl | with_reducible exact Dw.ne_bl | with_reducible exact Dw.lt_int' | with_reducible exact Dw.lt_str' | with_reducible exact Dw.le_int' | with_reducible exact Dw.gt_int' | with_reducible exact Dw.ge_int' | with_reducible exact Dw.add_int' | with_reducible exact Dw.sub_int' | with_reducible exact Dw.neg_int' | with_reducible exact Dw.ord_str | with_reducible exact Dw.int_int | with_reducible exact Dw.int_bl | with_reducible exact Dw.list_lst | with_reducible exact Dw.list_tup | with_reducible exact Dw.tup_lst | with_reducible exact Dw.tup_tup | with_reducible exact Dw.it_lst | with_reducible exact Dw.it_tup | with_reducible exact Dw.it_str | ((with_reducible apply Dw.ev_var); exact rfl) | ((with_reducible apply Dw.ev_varO); exact rfl) | ((with_reducible apply Dw.pk_cv); exact rfl) | ((with_reducible apply Dw.fs_ok); exact rfl) | ((with_reducible apply Dw.gE); exact rfl) | with_reducible apply Dw.ev_two | with_reducible apply Dw.ev_one | with_reducible apply Dw.ev_cons | with_reducible apply Dw.pks_cons | with_reducible apply Dw.ev_callE | with_reducible apply Dw.ev_isi | with_reducible apply Dw.frzs_cons | with_reducible apply Dw.ev_tup | with_reducible apply Dw.ev_lst | with_reducible apply Dw.ev_not | with_reducible apply Dw.ev_met | with_reducible apply Dw.ev_mut | with_reducible apply Dw.ev_ret | with_reducible apply Dw.ev_expr | with_reducible apply Dw.ev_asg | with_reducible apply Dw.ev_args | with_reducible apply Dw.ev_src | with_reducible apply Dw.ev_callD | with_reducible apply Dw.mapd_c | with_reducible apply Dw.mapd_d | with_reducible apply Dw.set_s | with_reducible apply Dw.st_d | with_reducible apply Dw.st_own | with_reducible apply Dw.st_cv | with_reducible apply Dw.frz_cv | ((with_reducible apply Dw.len_str); assumption) | ((with_reducible apply Dw.get_str) <;> assumption) | with_reducible assumption)) rfl (rng1_nat (by have := hK.n1; omega)))]
    exact h1
theorem ne_val {x y : D} (hx : isVal 80 x) (hy : isVal 80 y) : neD x y = some (.d (.bl (!eqB x y))) := by
  rcases hx with ⟨s, rfl, _, _⟩ | ⟨i, rfl⟩ <;> rcases hy with ⟨t, rfl, _, _⟩ | ⟨j, rfl⟩ <;> rfl
theorem getT {xs : List D} {k : Nat} {x : D} (h : xs[k]? = some x) : getD (.tup xs) (.int (k : Int)) = some (.d x) := Dw.get_tup (L2.atI_nat h)
theorem ev_rq_before {K : List Kd} (hK : okK K) {p q : Rq} (hp : okR K 80 p) (hq : okR K 80 q) : ∃ o, m_ulawurequestubefore [.d (ksD K), .d (rqD K p), .d (rqD K q)] = some (.ok (.d (.bl (befR p q))) o) := by
  obtain ⟨o1, n1⟩ := ev_number hK hp
  obtain ⟨o2, n2⟩ := ev_number hK hq
  have c0 : two (op2 neD) (callD m_ulawunumber [] (consA (varE 0) (consA (varE 1) nilA))) (callD m_ulawunumber [] (consA (varE 0) (consA (varE 2) nilA))) [.d (ksD K), .d (rqD K p), .d (rqD K q), .un] = some (.ok (.d (.bl (!(((p.n : Nat) : Int) == ((q.n : Nat) : Int))))) [.d (ksD K), .d (rqD K p), .d (rqD K q), .un]) := by repeat' (first | with_reducible exact n1 | with_reducible exact n2 | with_reducible exact Dw.ty_str | with_reducible exact Dw.ty_lst | with_reducible exact Dw.lst_eq | with_reducible exact Dw.set_z | with_reducible exact Dw.ret_d | with_reducible exact Dw.ret_own | with_reducible exact Dw.mapd_nn | with_reducible exact Dw.ev_const | with_reducible exact Dw.ev_nil | with_reducible exact Dw.pk_d | with_reducible exact Dw.pk_own | with_reducible exact Dw.pks_nil | with_reducible exact Dw.frz_d | with_reducible exact Dw.frz_own | with_reducible exact Dw.frzs_nil | with_reducible exact Dw.tru_bl | with_reducible exact Dw.ev_skip | with_reducible exact Dw.len_lst | with_reducible exact Dw.len_tup | with_reducible exact Dw.eq_int | with_reducible exact Dw.ne_int | with_reducible exact Dw.eq_str | with_reducible exact Dw.ne_str | with_reducible exact Dw.eq_bl | with_reducible exact Dw.ne_bl | with_reducible exact Dw.lt_int' | with_reducible exact Dw.lt_str' | with_reducible exact Dw.le_int' | with_reducible exact Dw.gt_int' | with_reducible exact Dw.ge_int' | with_reducible exact Dw.add_int' | with_reducible exact Dw.sub_int' | with_reducible exact Dw.neg_int' | with_reducible exact Dw.ord_str | with_reducible exact Dw.int_int | with_reducible exact Dw.int_bl | with_reducible exact Dw.list_lst | with_reducible exact Dw.list_tup | with_reducible exact Dw.tup_lst | with_reducible exact Dw.tup_tup | with_reducible exact Dw.it_lst | with_reducible exact Dw.it_tup | with_reducible exact Dw.it_str | ((with_reducible apply Dw.ev_var); exact rfl) | ((with_reducible apply Dw.ev_varO); exact rfl) | ((with_reducible apply Dw.pk_cv); exact rfl) | ((with_reducible apply Dw.fs_ok); exact rfl) | ((with_reducible apply Dw.gE); exact rfl) | with_reducible apply Dw.ev_two | with_reducible apply Dw.ev_one | with_reducible apply Dw.ev_cons | with_reducible apply Dw.pks_cons | with_reducible apply Dw.ev_callE | with_reducible apply Dw.ev_isi | with_reducible apply Dw.frzs_cons | with_reducible apply Dw.ev_tup | with_reducible apply Dw.ev_lst | with_reducible apply Dw.ev_not | with_reducible apply Dw.ev_met | with_reducible apply Dw.ev_mut | with_reducible apply Dw.ev_ret | with_reducible apply Dw.ev_expr | with_reducible apply Dw.ev_asg | with_reducible apply Dw.ev_args | with_reducible apply Dw.ev_src | with_reducible apply Dw.ev_callD | with_reducible apply Dw.mapd_c | with_reducible apply Dw.mapd_d | with_reducible apply Dw.set_s | with_reducible apply Dw.st_d | with_reducible apply Dw.st_own | with_reducible apply Dw.st_cv | with_reducible apply Dw.frz_cv | ((with_reducible apply Dw.len_str); assumption) | ((with_reducible apply Dw.get_str) <;> assumption) | with_reducible assumption)
  have ie : (((p.n : Nat) : Int) == ((q.n : Nat) : Int)) = (p.n == q.n) := by
    by_cases h : p.n = q.n
    · rw [h]; simp
    · have h2 : ((p.n : Nat) : Int) ≠ (q.n : Nat) := by omega
      rw [beq_eq_false_iff_ne.mpr h2, beq_eq_false_iff_ne.mpr h]
  rw [ie] at c0
  unfold befR
  cases hb : (p.n == q.n) with
  | false =>
    rw [hb] at c0
    have c1 : two (op2 ltG) (callD m_ulawunumber [] (consA (varE 0) (consA (varE 1) nilA))) (callD m_ulawunumber [] (consA (varE 0) (consA (varE 2) nilA))) [.d (ksD K), .d (rqD K p), .d (rqD K q), .un] = some (.ok (.d (.bl (decide (((p.n : Nat) : Int) < ((q.n : Nat) : Int))))) [.d (ksD K), .d (rqD K p), .d (rqD K q), .un]) := by repeat' (first | with_reducible exact n1 | with_reducible exact n2 | with_reducible exact Dw.ty_str | with_reducible exact Dw.ty_lst | with_reducible exact Dw.lst_eq | with_reducible exact Dw.set_z | with_reducible exact Dw.ret_d | with_reducible exact Dw.ret_own | with_reducible exact Dw.mapd_nn | with_reducible exact Dw.ev_const | with_reducible exact Dw.ev_nil | with_reducible exact Dw.pk_d | with_reducible exact Dw.pk_own | with_reducible exact Dw.pks_nil | with_reducible exact Dw.frz_d | with_reducible exact Dw.frz_own | with_reducible exact Dw.frzs_nil | with_reducible exact Dw.tru_bl | with_reducible exact Dw.ev_skip | with_reducible exact Dw.len_lst | with_reducible exact Dw.len_tup | with_reducible exact Dw.eq_int | with_reducible exact Dw.ne_int | with_reducible exact Dw.eq_str | with_reducible exact Dw.ne_str | with_reducible exact Dw.eq_bl | with_reducible exact Dw.ne_bl | with_reducible exact Dw.lt_int' | with_reducible exact Dw.lt_str' | with_reducible exact Dw.le_int' | with_reducible exact Dw.gt_int' | with_reducible exact Dw.ge_int' | with_reducible exact Dw.add_int' | with_reducible exact Dw.sub_int' | with_reducible exact Dw.neg_int' | with_reducible exact Dw.ord_str | with_reducible exact Dw.int_int | with_reducible exact Dw.int_bl | with_reducible exact Dw.list_lst | with_reducible exact Dw.list_tup | with_reducible exact Dw.tup_lst | with_reducible exact Dw.tup_tup | with_reducible exact Dw.it_lst | with_reducible exact Dw.it_tup | with_reducible exact Dw.it_str | ((with_reducible apply Dw.ev_var); exact rfl) | ((with_reducible apply Dw.ev_varO); exact rfl) | ((with_reducible apply Dw.pk_cv); exact rfl) | ((with_reducible apply Dw.fs_ok); exact rfl) | ((with_reducible apply Dw.gE); exact rfl) | with_reducible apply Dw.ev_two | with_reducible apply Dw.ev_one | with_reducible apply Dw.ev_cons | with_reducible apply Dw.pks_cons | with_reducible apply Dw.ev_callE | with_reducible apply Dw.ev_isi | with_reducible apply Dw.frzs_cons | with_reducible apply Dw.ev_tup | with_reducible apply Dw.ev_lst | with_reducible apply Dw.ev_not | with_reducible apply Dw.ev_met | with_reducible apply Dw.ev_mut | with_reducible apply Dw.ev_ret | with_reducible apply Dw.ev_expr | with_reducible apply Dw.ev_asg | with_reducible apply Dw.ev_args | with_reducible apply Dw.ev_src | with_reducible apply Dw.ev_callD | with_reducible apply Dw.mapd_c | with_reducible apply Dw.mapd_d | with_reducible apply Dw.set_s | with_reducible apply Dw.st_d | with_reducible apply Dw.st_own | with_reducible apply Dw.st_cv | with_reducible apply Dw.frz_cv | ((with_reducible apply Dw.len_str); assumption) | ((with_reducible apply Dw.get_str) <;> assumption) | with_reducible assumption)
    have il : decide (((p.n : Nat) : Int) < ((q.n : Nat) : Int)) = decide (p.n < q.n) := by
      by_cases hh : p.n < q.n
      · have : ((p.n : Nat) : Int) < (q.n : Nat) := by omega
        simp [hh]
      · have : ¬ ((p.n : Nat) : Int) < (q.n : Nat) := by omega
        simp [hh]
    rw [il] at c1
    rw [if_neg (by simp)]
    refine ⟨[.d (ksD K), .d (rqD K p), .d (rqD K q)], defM_rt (a := .d (.bl (decide (p.n < q.n)))) (env := [.d (ksD K), .d (rqD K p), .d (rqD K q), .un]) [.d (ksD K), .d (rqD K p), .d (rqD K q), .un] rfl rfl ?_ rfl rfl⟩
    unfold b_ulawurequestubefore
    exact ev_seq_rt (ev_iteT c0 rfl (ev_ret c1))
  | true =>
    rw [hb] at c0
    rw [if_pos rfl, ← befL_fl (K := K) (eq_of_beq hb)]
    have hlen := fl_len hp hq (eq_of_beq hb)
    have vp := fl_val hK hp
    have vq := fl_val hK hq
    have sh := fl_short hK hp
    have hl : lenD [rqD K p] = some (.d (.int (FL K p).length)) := by rw [rq_eq]; rfl
    have ep : rqD K p = .tup (FL K p) := rq_eq K p
    have eq : rqD K q = .tup (FL K q) := rq_eq K q
    rw [ep, eq] at c0
    rw [ep] at hl
    rw [ep, eq]
    generalize FL K p = xs at *
    generalize FL K q = ys at *
    obtain ⟨o, h1, w3, ho⟩ := loop_runR (tg := .nm 3) (body := l_ulawurequestubefore_1) ((List.range xs.length).map fun i => .int (i : Nat)) (fun k env => befL eqB befV xs ys = befL eqB befV (xs.drop k) (ys.drop k) ∧ ∃ w3 : SV, freeSlot (some w3) = true ∧ env = [.d (ksD K), .d (.tup xs), .d (.tup ys), w3])
      (fun o => ∃ w3 : SV, o = .rt (.d (.bl (befL eqB befV xs ys))) [.d (ksD K), .d (.tup xs), .d (.tup ys), w3] ∨ (befL eqB befV xs ys = false ∧ o = .nx [.d (ksD K), .d (.tup xs), .d (.tup ys), w3])) [.d (ksD K), .d (.tup xs), .d (.tup ys), .un] ⟨rfl, .un, rfl, rfl⟩ (by
        rintro env ⟨q1, w3, q2, rfl⟩
        rw [List.length_map, List.length_range, List.drop_length] at q1
        exact ⟨w3, .inr ⟨by rw [q1, befL]; intros; simp_all, rfl⟩⟩) (by
        rintro k z env hz ⟨q1, w3, q2, rfl⟩
        rw [List.getElem?_map] at hz
        obtain ⟨i, hi, rfl⟩ := Option.map_eq_some_iff.mp hz
        have hk : k < xs.length := by
          have := (List.getElem?_eq_some_iff.mp hi).1
          rwa [List.length_range] at this
        rw [List.getElem?_range hk] at hi
        cases hi
        have hk2 : k < ys.length := by omega
        have gx : xs[k]? = some xs[k] := List.getElem?_eq_getElem hk
        have gy : ys[k]? = some ys[k] := List.getElem?_eq_getElem hk2
        have dx := List.drop_eq_getElem_cons hk
        have dy := List.drop_eq_getElem_cons hk2
        have vx := vp xs[k] (List.getElem_mem hk)
        have vy := vq ys[k] (List.getElem_mem hk2)
        rw [dx, dy, befL] at q1
        generalize xs[k] = x at gx vx q1
        generalize ys[k] = y at gy vy q1
        have tx := getT gx
        have ty := getT gy
        refine ⟨[.d (ksD K), .d (.tup xs), .d (.tup ys), .d (.int k)], putT_nm q2 rfl, ?_⟩
        have c2 : two (op2 neD) (two (op2 getD) (varE 1) (varE 3)) (two (op2 getD) (varE 2) (varE 3)) [.d (ksD K), .d (.tup xs), .d (.tup ys), .d (.int k)] = some (.ok (.d (.bl (!eqB x y))) [.d (ksD K), .d (.tup xs), .d (.tup ys), .d (.int k)]) :=
          ev_two (ev_two (ev_var rfl) (ev_var rfl) pk_d pk_d tx) (ev_two (ev_var rfl) (ev_var rfl) pk_d pk_d ty) pk_d pk_d (ne_val vx vy)
        cases he : eqB x y with
        | true =>
          rw [he] at c2 q1
          rw [if_pos rfl] at q1
          exact .inl ⟨_, .inl (ev_iteF c2 rfl ev_skip), q1, .d (.int k), rfl, rfl⟩
        | false =>
          rw [he] at c2 q1
          rw [if_neg (by simp)] at q1
          obtain ⟨o3, b3⟩ := ev_before vx vy
          rw [← q1] at b3
          exact .inr (.inr ⟨_, _, ev_iteT c2 rfl (ev_ret (ev_callD (as := [.d x, .d y]) (xs := [x, y]) (ev_cons (ev_two (ev_var rfl) (ev_var rfl) pk_d pk_d tx) (ev_cons (ev_two (ev_var rfl) (ev_var rfl) pk_d pk_d ty) ev_nil)) (frzs_cons frz_d (frzs_cons frz_d frzs_nil)) rfl b3 rfl)), _, .inl rfl⟩))
    rcases ho with rfl | ⟨hf, rfl⟩
    · refine ⟨[.d (ksD K), .d (.tup xs), .d (.tup ys)], defM_rt (a := .d (.bl (befL eqB befV xs ys))) (env := [.d (ksD K), .d (.tup xs), .d (.tup ys), w3]) [.d (ksD K), .d (.tup xs), .d (.tup ys), .un] rfl rfl ?_ rfl rfl⟩
      unfold b_ulawurequestubefore
      refine ev_seq2 (ev_iteF c0 rfl ev_skip) (ev_seq_rt ?_)
      rw [ev_for (ev_args (as := [.d (.int xs.length)]) (env1 := [.d (ksD K), .d (.tup xs), .d (.tup ys), .un]) (by repeat' (first | with_reducible exact hl | with_reducible exact Dw.ty_str | with_reducible exact Dw.ty_lst | with_reducible exact Dw.lst_eq | with_reducible exact Dw.set_z | with_reducible exact Dw.ret_d | with_reducible exact Dw.ret_own | with_reducible exact Dw.mapd_nn | with_reducible exact Dw.ev_const | with_reducible exact Dw.ev_nil | with_reducible exact Dw.pk_d | with_reducible exact Dw.pk_own | with_reducible exact Dw.pks_nil | with_reducible exact Dw.frz_d | with_reducible exact Dw.frz_own | with_reducible exact Dw.frzs_nil | with_reducible exact Dw.tru_bl | with_reducible exact Dw.ev_skip | with_reducible exact Dw.len_lst | with_reducible exact Dw.len_tup | with_reducible exact Dw.eq_int | with_reducible exact Dw.ne_int | with_reducible exact Dw.eq_str | with_reducible exact Dw.ne_str | with_reducible exact Dw.eq_bl | with_reducible exact Dw.ne_bl | with_reducible exact Dw.lt_int' | with_reducible exact Dw.lt_str' | with_reducible exact Dw.le_int' | with_reducible exact Dw.gt_int' | with_reducible exact Dw.ge_int' | with_reducible exact Dw.add_int' | with_reducible exact Dw.sub_int' | with_reducible exact Dw.neg_int' | with_reducible exact Dw.ord_str | with_reducible exact Dw.int_int | with_reducible exact Dw.int_bl | with_reducible exact Dw.list_lst | with_reducible exact Dw.list_tup | with_reducible exact Dw.tup_lst | with_reducible exact Dw.tup_tup | with_reducible exact Dw.it_lst | with_reducible exact Dw.it_tup | with_reducible exact Dw.it_str | ((with_reducible apply Dw.ev_var); exact rfl) | ((with_reducible apply Dw.ev_varO); exact rfl) | ((with_reducible apply Dw.pk_cv); exact rfl) | ((with_reducible apply Dw.fs_ok); exact rfl) | ((with_reducible apply Dw.gE); exact rfl) | with_reducible apply Dw.ev_two | with_reducible apply Dw.ev_one | with_reducible apply Dw.ev_cons | with_reducible apply Dw.pks_cons | with_reducible apply Dw.ev_callE | with_reducible apply Dw.ev_isi | with_reducible apply Dw.frzs_cons | with_reducible apply Dw.ev_tup | with_reducible apply Dw.ev_lst | with_reducible apply Dw.ev_not | with_reducible apply Dw.ev_met | with_reducible apply Dw.ev_mut | with_reducible apply Dw.ev_ret | with_reducible apply Dw.ev_expr | with_reducible apply Dw.ev_asg | with_reducible apply Dw.ev_args | with_reducible apply Dw.ev_src | with_reducible apply Dw.ev_callD | with_reducible apply Dw.mapd_c | with_reducible apply Dw.mapd_d | with_reducible apply Dw.set_s | with_reducible apply Dw.st_d | with_reducible apply Dw.st_own | with_reducible apply Dw.st_cv | with_reducible apply Dw.frz_cv | ((with_reducible apply Dw.len_str); assumption) | ((with_reducible apply Dw.get_str) <;> assumption) | with_reducible assumption)) rfl (rng1_nat (by omega)))]
      exact h1
    · rw [hf]
      refine ⟨[.d (ksD K), .d (.tup xs), .d (.tup ys)], defM_rt (a := .d (.bl false)) (env := [.d (ksD K), .d (.tup xs), .d (.tup ys), w3]) [.d (ksD K), .d (.tup xs), .d (.tup ys), .un] rfl rfl ?_ rfl rfl⟩
      unfold b_ulawurequestubefore
      refine ev_seq2 (ev_iteF c0 rfl ev_skip) (ev_seq2 ?_ (ev_ret ev_const))
      rw [ev_for (ev_args (as := [.d (.int xs.length)]) (env1 := [.d (ksD K), .d (.tup xs), .d (.tup ys), .un]) (by repeat' (first | with_reducible exact hl | with_reducible exact Dw.ty_str | with_reducible exact Dw.ty_lst | with_reducible exact Dw.lst_eq | with_reducible exact Dw.set_z | with_reducible exact Dw.ret_d | with_reducible exact Dw.ret_own | with_reducible exact Dw.mapd_nn | with_reducible exact Dw.ev_const | with_reducible exact Dw.ev_nil | with_reducible exact Dw.pk_d | with_reducible exact Dw.pk_own | with_reducible exact Dw.pks_nil | with_reducible exact Dw.frz_d | with_reducible exact Dw.frz_own | with_reducible exact Dw.frzs_nil | with_reducible exact Dw.tru_bl | with_reducible exact Dw.ev_skip | with_reducible exact Dw.len_lst | with_reducible exact Dw.len_tup | with_reducible exact Dw.eq_int | with_reducible exact Dw.ne_int | with_reducible exact Dw.eq_str | with_reducible exact Dw.ne_str | with_reducible exact Dw.eq_bl | with_reducible exact Dw.ne_bl | with_reducible exact Dw.lt_int' | with_reducible exact Dw.lt_str' | with_reducible exact Dw.le_int' | with_reducible exact Dw.gt_int' | with_reducible exact Dw.ge_int' | with_reducible exact Dw.add_int' | with_reducible exact Dw.sub_int' | with_reducible exact Dw.neg_int' | with_reducible exact Dw.ord_str | with_reducible exact Dw.int_int | with_reducible exact Dw.int_bl | with_reducible exact Dw.list_lst | with_reducible exact Dw.list_tup | with_reducible exact Dw.tup_lst | with_reducible exact Dw.tup_tup | with_reducible exact Dw.it_lst | with_reducible exact Dw.it_tup | with_reducible exact Dw.it_str | ((with_reducible apply Dw.ev_var); exact rfl) | ((with_reducible apply Dw.ev_varO); exact rfl) | ((with_reducible apply Dw.pk_cv); exact rfl) | ((with_reducible apply Dw.fs_ok); exact rfl) | ((with_reducible apply Dw.gE); exact rfl) | with_reducible apply Dw.ev_two | with_reducible apply Dw.ev_one | with_reducible apply Dw.ev_cons | with_reducible apply Dw.pks_cons | with_reducible apply Dw.ev_callE | with_reducible apply Dw.ev_isi | with_reducible apply Dw.frzs_cons | with_reducible apply Dw.ev_tup | with_reducible apply Dw.ev_lst | with_reducible apply Dw.ev_not | with_reducible apply Dw.ev_met | with_reducible apply Dw.ev_mut | with_reducible apply Dw.ev_ret | with_reducible apply Dw.ev_expr | with_reducible apply Dw.ev_asg | with_reducible apply Dw.ev_args | with_reducible apply Dw.ev_src | with_reducible apply Dw.ev_callD | with_reducible apply Dw.mapd_c | with_reducible apply Dw.mapd_d | with_reducible apply Dw.set_s | with_reducible apply Dw.st_d | with_reducible apply Dw.st_own | with_reducible apply Dw.st_cv | with_reducible apply Dw.frz_cv | ((with_reducible apply Dw.len_str); assumption) | ((with_reducible apply Dw.get_str) <;> assumption) | with_reducible assumption)) rfl (rng1_nat (by omega)))]
      exact h1
theorem eqBs_L : ∀ xs ys : List D, eqBs xs ys = eqL eqB xs ys
  | [], [] => rfl
  | [], _ :: _ => rfl
  | _ :: _, [] => rfl
  | x :: xs, y :: ys => by rw [eqBs, eqL, eqBs_L xs ys]
theorem rq_inj {K : List Kd} (hK : okK K) {p q : Rq} (hp : okR K 80 p) (hq : okR K 80 q) : eqB (rqD K p) (rqD K q) = eqR p q := by
  unfold rqD eqR
  rw [items_eq, items_eq, eqL]
  unfold fstD
  by_cases h1 : p.n = 0
  · by_cases h2 : q.n = 0
    · rw [if_pos h1, if_pos h2, if_pos h1, if_pos h2, h1, h2]
      show eqBs (.str kNew :: p.vs) (.str kNew :: q.vs) = _
      rw [eqBs, eqBs_L]
      rfl
    · rw [if_pos h1, if_neg h2, h1, beq_eq_false_iff_ne.mpr (Ne.symm h2)]
      rfl
  · by_cases h2 : q.n = 0
    · rw [if_neg h1, if_pos h2, h2, beq_eq_false_iff_ne.mpr h1]
      rfl
    · rw [if_neg h1, if_neg h2, if_neg h1, if_neg h2]
      show eqBs (.int p.o :: .str (hdn K p.n) :: p.vs) (.int q.o :: .str (hdn K q.n) :: q.vs) = _
      rw [eqBs, eqBs, eqBs_L]
      show (eqB (.int p.o) (.int q.o) && ((hdn K p.n == hdn K q.n) && eqL eqB p.vs q.vs)) = _
      by_cases h : p.n = q.n
      · rw [h, beq_self_eq_true, beq_self_eq_true, Bool.true_and, Bool.true_and]
      · rw [beq_eq_false_iff_ne.mpr h, beq_eq_false_iff_ne.mpr fun z => h (hK.dis _ _ hp.n hq.n z)]
        simp
theorem lay_val {x : D} (h : isVal 80 x) : PyData.canLay0 (py x) = true ∧ PyData.depth (py x) ≤ 1 := by
  rcases h with ⟨s, rfl, hs, hg⟩ | ⟨i, rfl⟩
  · exact ⟨by simp [py, PyData.canLay0, strOk_of hg], by simp [py, PyData.depth]⟩
  · exact ⟨by simp [py, PyData.canLay0], by simp [py, PyData.depth]⟩
theorem shp_rq {K : List Kd} (hK : okK K) {q : Rq} (hq : okR K 80 q) : shp (rqD K q) = true := by
  obtain ⟨a, b⟩ := lay_list (f := id) (k := 1) (FL K q) fun x hx => lay_val (fl_val hK hq x hx)
  rw [List.map_id] at a b
  rw [rq_eq]
  show shp (.tup (FL K q)) = true
  simp [shp, SeqAt.shaped, py, PyData.canLay0, PyData.depth, a]
  omega
theorem get_rq {K : List Kd} {t : Tk} {k : Nat} {q : Rq} (h : t[k]? = some q) : getD (tkD K t) (.int (k : Int)) = some (.d (rqD K q)) := by
  refine Dw.get_lst (L2.atI_nat ?_)
  rw [List.getElem?_map, h]
  rfl
theorem len_tk {K : List Kd} {t : Tk} : lenD [tkD K t] = some (.d (.int t.length)) := by
  show some (RV.d (.int ((t.map (rqD K)).length : Nat))) = _
  rw [List.length_map]
theorem ev_tk_before {K : List Kd} (hK : okK K) {s t : Tk} (hs : okT K s) (ht : okT K t) (ls : s.length ≤ 1000) : ∃ o, m_ulawutalkubefore [.d (ksD K), .d (tkD K s), .d (tkD K t)] = some (.ok (.d (.bl (befT s t))) o) := by
  have l1 := len_tk (K := K) (t := s)
  have l2 := len_tk (K := K) (t := t)
  have c0 : two (op2 neD) (callE lenD (consA (varE 1) nilA)) (callE lenD (consA (varE 2) nilA)) [.d (ksD K), .d (tkD K s), .d (tkD K t), .un] = some (.ok (.d (.bl (!(((s.length : Nat) : Int) == ((t.length : Nat) : Int))))) [.d (ksD K), .d (tkD K s), .d (tkD K t), .un]) := by repeat' (first | with_reducible exact l1 | with_reducible exact l2 | with_reducible exact Dw.ty_str | with_reducible exact Dw.ty_lst | with_reducible exact Dw.lst_eq | with_reducible exact Dw.set_z | with_reducible exact Dw.ret_d | with_reducible exact Dw.ret_own | with_reducible exact Dw.mapd_nn | with_reducible exact Dw.ev_const | with_reducible exact Dw.ev_nil | with_reducible exact Dw.pk_d | with_reducible exact Dw.pk_own | with_reducible exact Dw.pks_nil | with_reducible exact Dw.frz_d | with_reducible exact Dw.frz_own | with_reducible exact Dw.frzs_nil | with_reducible exact Dw.tru_bl | with_reducible exact Dw.ev_skip | with_reducible exact Dw.len_lst | with_reducible exact Dw.len_tup | with_reducible exact Dw.eq_int | with_reducible exact Dw.ne_int | with_reducible exact Dw.eq_str | with_reducible exact Dw.ne_str | with_reducible exact Dw.eq_bl | with_reducible exact Dw.ne_bl | with_reducible exact Dw.lt_int' | with_reducible exact Dw.lt_str' | with_reducible exact Dw.le_int' | with_reducible exact Dw.gt_int' | with_reducible exact Dw.ge_int' | with_reducible exact Dw.add_int' | with_reducible exact Dw.sub_int' | with_reducible exact Dw.neg_int' | with_reducible exact Dw.ord_str | with_reducible exact Dw.int_int | with_reducible exact Dw.int_bl | with_reducible exact Dw.list_lst | with_reducible exact Dw.list_tup | with_reducible exact Dw.tup_lst | with_reducible exact Dw.tup_tup | with_reducible exact Dw.it_lst | with_reducible exact Dw.it_tup | with_reducible exact Dw.it_str | ((with_reducible apply Dw.ev_var); exact rfl) | ((with_reducible apply Dw.ev_varO); exact rfl) | ((with_reducible apply Dw.pk_cv); exact rfl) | ((with_reducible apply Dw.fs_ok); exact rfl) | ((with_reducible apply Dw.gE); exact rfl) | with_reducible apply Dw.ev_two | with_reducible apply Dw.ev_one | with_reducible apply Dw.ev_cons | with_reducible apply Dw.pks_cons | with_reducible apply Dw.ev_callE | with_reducible apply Dw.ev_isi | with_reducible apply Dw.frzs_cons | with_reducible apply Dw.ev_tup | with_reducible apply Dw.ev_lst | with_reducible apply Dw.ev_not | with_reducible apply Dw.ev_met | with_reducible apply Dw.ev_mut | with_reducible apply Dw.ev_ret | with_reducible apply Dw.ev_expr | with_reducible apply Dw.ev_asg | with_reducible apply Dw.ev_args | with_reducible apply Dw.ev_src | with_reducible apply Dw.ev_callD | with_reducible apply Dw.mapd_c | with_reducible apply Dw.mapd_d | with_reducible apply Dw.set_s | with_reducible apply Dw.st_d | with_reducible apply Dw.st_own | with_reducible apply Dw.st_cv | with_reducible apply Dw.frz_cv | ((with_reducible apply Dw.len_str); assumption) | ((with_reducible apply Dw.get_str) <;> assumption) | with_reducible assumption)
  have ie : (((s.length : Nat) : Int) == ((t.length : Nat) : Int)) = (s.length == t.length) := by
    by_cases h : s.length = t.length
    · rw [h]; simp
    · have h2 : ((s.length : Nat) : Int) ≠ (t.length : Nat) := by omega
      rw [beq_eq_false_iff_ne.mpr h2, beq_eq_false_iff_ne.mpr h]
  rw [ie] at c0
  unfold befT
  cases hb : (s.length == t.length) with
  | false =>
    rw [hb] at c0
    have c1 : two (op2 ltG) (callE lenD (consA (varE 1) nilA)) (callE lenD (consA (varE 2) nilA)) [.d (ksD K), .d (tkD K s), .d (tkD K t), .un] = some (.ok (.d (.bl (decide (((s.length : Nat) : Int) < ((t.length : Nat) : Int))))) [.d (ksD K), .d (tkD K s), .d (tkD K t), .un]) := by repeat' (first | with_reducible exact l1 | with_reducible exact l2 | with_reducible exact Dw.ty_str | with_reducible exact Dw.ty_lst | with_reducible exact Dw.lst_eq | with_reducible exact Dw.set_z | with_reducible exact Dw.ret_d | with_reducible exact Dw.ret_own | with_reducible exact Dw.mapd_nn | with_reducible exact Dw.ev_const | with_reducible exact Dw.ev_nil | with_reducible exact Dw.pk_d | with_reducible exact Dw.pk_own | with_reducible exact Dw.pks_nil | with_reducible exact Dw.frz_d | with_reducible exact Dw.frz_own | with_reducible exact Dw.frzs_nil | with_reducible exact Dw.tru_bl | with_reducible exact Dw.ev_skip | with_reducible exact Dw.len_lst | with_reducible exact Dw.len_tup | with_reducible exact Dw.eq_int | with_reducible exact Dw.ne_int | with_reducible exact Dw.eq_str | with_reducible exact Dw.ne_str | with_reducible exact Dw.eq_bl | with_reducible exact Dw.ne_bl | with_reducible exact Dw.lt_int' | with_reducible exact Dw.lt_str' | with_reducible exact Dw.le_int' | with_reducible exact Dw.gt_int' | with_reducible exact Dw.ge_int' | with_reducible exact Dw.add_int' | with_reducible exact Dw.sub_int' | with_reducible exact Dw.neg_int' | with_reducible exact Dw.ord_str | with_reducible exact Dw.int_int | with_reducible exact Dw.int_bl | with_reducible exact Dw.list_lst | with_reducible exact Dw.list_tup | with_reducible exact Dw.tup_lst | with_reducible exact Dw.tup_tup | with_reducible exact Dw.it_lst | with_reducible exact Dw.it_tup | with_reducible exact Dw.it_str | ((with_reducible apply Dw.ev_var); exact rfl) | ((with_reducible apply Dw.ev_varO); exact rfl) | ((with_reducible apply Dw.pk_cv); exact rfl) | ((with_reducible apply Dw.fs_ok); exact rfl) | ((with_reducible apply Dw.gE); exact rfl) | with_reducible apply Dw.ev_two | with_reducible apply Dw.ev_one | with_reducible apply Dw.ev_cons | with_reducible apply Dw.pks_cons | with_reducible apply Dw.ev_callE | with_reducible apply Dw.ev_isi | with_reducible apply Dw.frzs_cons | with_reducible apply Dw.ev_tup | with_reducible apply Dw.ev_lst | with_reducible apply Dw.ev_not | with_reducible apply Dw.ev_met | with_reducible apply Dw.ev_mut | with_reducible apply Dw.ev_ret | with_reducible apply Dw.ev_expr | with_reducible apply Dw.ev_asg | with_reducible apply Dw.ev_args | with_reducible apply Dw.ev_src | with_reducible apply Dw.ev_callD | with_reducible apply Dw.mapd_c | with_reducible apply Dw.mapd_d | with_reducible apply Dw.set_s | with_reducible apply Dw.st_d | with_reducible apply Dw.st_own | with_reducible apply Dw.st_cv | with_reducible apply Dw.frz_cv | ((with_reducible apply Dw.len_str); assumption) | ((with_reducible apply Dw.get_str) <;> assumption) | with_reducible assumption)
    have il : decide (((s.length : Nat) : Int) < ((t.length : Nat) : Int)) = decide (s.length < t.length) := by
      by_cases hh : s.length < t.length
      · have : ((s.length : Nat) : Int) < (t.length : Nat) := by omega
        simp [hh]
      · have : ¬ ((s.length : Nat) : Int) < (t.length : Nat) := by omega
        simp [hh]
    rw [il] at c1
    rw [if_neg (by simp)]
    refine ⟨[.d (ksD K), .d (tkD K s), .d (tkD K t)], defM_rt (a := .d (.bl (decide (s.length < t.length)))) (env := [.d (ksD K), .d (tkD K s), .d (tkD K t), .un]) [.d (ksD K), .d (tkD K s), .d (tkD K t), .un] rfl rfl ?_ rfl rfl⟩
    unfold b_ulawutalkubefore
    exact ev_seq_rt (ev_iteT c0 rfl (ev_ret c1))
  | true =>
    rw [hb] at c0
    rw [if_pos rfl]
    have hlen : s.length = t.length := eq_of_beq hb
    obtain ⟨o, h1, w3, ho⟩ := loop_runR (tg := .nm 3) (body := l_ulawutalkubefore_1) ((List.range s.length).map fun i => .int (i : Nat)) (fun k env => befL eqR befR s t = befL eqR befR (s.drop k) (t.drop k) ∧ ∃ w3 : SV, freeSlot (some w3) = true ∧ env = [.d (ksD K), .d (tkD K s), .d (tkD K t), w3])
      (fun o => ∃ w3 : SV, o = .rt (.d (.bl (befL eqR befR s t))) [.d (ksD K), .d (tkD K s), .d (tkD K t), w3] ∨ (befL eqR befR s t = false ∧ o = .nx [.d (ksD K), .d (tkD K s), .d (tkD K t), w3])) [.d (ksD K), .d (tkD K s), .d (tkD K t), .un] ⟨rfl, .un, rfl, rfl⟩ (by
        rintro env ⟨q1, w3, q2, rfl⟩
        rw [List.length_map, List.length_range, List.drop_length] at q1
        exact ⟨w3, .inr ⟨by rw [q1, befL]; intros; simp_all, rfl⟩⟩) (by
        rintro k z env hz ⟨q1, w3, q2, rfl⟩
        rw [List.getElem?_map] at hz
        obtain ⟨i, hi, rfl⟩ := Option.map_eq_some_iff.mp hz
        have hk : k < s.length := by
          have := (List.getElem?_eq_some_iff.mp hi).1
          rwa [List.length_range] at this
        rw [List.getElem?_range hk] at hi
        cases hi
        have hk2 : k < t.length := by omega
        have gx : s[k]? = some s[k] := List.getElem?_eq_getElem hk
        have gy : t[k]? = some t[k] := List.getElem?_eq_getElem hk2
        have dx := List.drop_eq_getElem_cons hk
        have dy := List.drop_eq_getElem_cons hk2
        have vx := hs s[k] (List.getElem_mem hk)
        have vy := ht t[k] (List.getElem_mem hk2)
        rw [dx, dy, befL] at q1
        generalize s[k] = x at gx vx q1
        generalize t[k] = y at gy vy q1
        have tx := get_rq (K := K) gx
        have ty := get_rq (K := K) gy
        have ne : neD (rqD K x) (rqD K y) = some (.d (.bl (!eqR x y))) := by
          rw [← rq_inj hK vx vy]
          exact if_pos (by rw [shp_rq hK vx, shp_rq hK vy]; simp)
        refine ⟨[.d (ksD K), .d (tkD K s), .d (tkD K t), .d (.int k)], putT_nm q2 rfl, ?_⟩
        have c2 : two (op2 neD) (two (op2 getD) (varE 1) (varE 3)) (two (op2 getD) (varE 2) (varE 3)) [.d (ksD K), .d (tkD K s), .d (tkD K t), .d (.int k)] = some (.ok (.d (.bl (!eqR x y))) [.d (ksD K), .d (tkD K s), .d (tkD K t), .d (.int k)]) :=
          ev_two (ev_two (ev_var rfl) (ev_var rfl) pk_d pk_d tx) (ev_two (ev_var rfl) (ev_var rfl) pk_d pk_d ty) pk_d pk_d ne
        cases he : eqR x y with
        | true =>
          rw [he] at c2 q1
          rw [if_pos rfl] at q1
          exact .inl ⟨_, .inl (ev_iteF c2 rfl ev_skip), q1, .d (.int k), rfl, rfl⟩
        | false =>
          rw [he] at c2 q1
          rw [if_neg (by simp)] at q1
          obtain ⟨o3, b3⟩ := ev_rq_before hK vx vy
          rw [← q1] at b3
          exact .inr (.inr ⟨_, _, ev_iteT c2 rfl (ev_ret (ev_callD (as := [.d (ksD K), .d (rqD K x), .d (rqD K y)]) (xs := [ksD K, rqD K x, rqD K y]) (ev_cons (ev_var rfl) (ev_cons (ev_two (ev_var rfl) (ev_var rfl) pk_d pk_d tx) (ev_cons (ev_two (ev_var rfl) (ev_var rfl) pk_d pk_d ty) ev_nil))) (frzs_cons frz_d (frzs_cons frz_d (frzs_cons frz_d frzs_nil))) rfl b3 rfl)), _, .inl rfl⟩))
    rcases ho with rfl | ⟨hf, rfl⟩
    · refine ⟨[.d (ksD K), .d (tkD K s), .d (tkD K t)], defM_rt (a := .d (.bl (befL eqR befR s t))) (env := [.d (ksD K), .d (tkD K s), .d (tkD K t), w3]) [.d (ksD K), .d (tkD K s), .d (tkD K t), .un] rfl rfl ?_ rfl rfl⟩
      unfold b_ulawutalkubefore
      refine ev_seq2 (ev_iteF c0 rfl ev_skip) (ev_seq_rt ?_)
      rw [ev_for (ev_args (as := [.d (.int s.length)]) (env1 := [.d (ksD K), .d (tkD K s), .d (tkD K t), .un]) (by repeat' (first | with_reducible exact l1 | with_reducible exact Dw.ty_str | with_reducible exact Dw.ty_lst | with_reducible exact Dw.lst_eq | with_reducible exact Dw.set_z | with_reducible exact Dw.ret_d | with_reducible exact Dw.ret_own | with_reducible exact Dw.mapd_nn | with_reducible exact Dw.ev_const | with_reducible exact Dw.ev_nil | with_reducible exact Dw.pk_d | with_reducible exact Dw.pk_own | with_reducible exact Dw.pks_nil | with_reducible exact Dw.frz_d | with_reducible exact Dw.frz_own | with_reducible exact Dw.frzs_nil | with_reducible exact Dw.tru_bl | with_reducible exact Dw.ev_skip | with_reducible exact Dw.len_lst | with_reducible exact Dw.len_tup | with_reducible exact Dw.eq_int | with_reducible exact Dw.ne_int | with_reducible exact Dw.eq_str | with_reducible exact Dw.ne_str | with_reducible exact Dw.eq_bl | with_reducible exact Dw.ne_bl | with_reducible exact Dw.lt_int' | with_reducible exact Dw.lt_str' | with_reducible exact Dw.le_int' | with_reducible exact Dw.gt_int' | with_reducible exact Dw.ge_int' | with_reducible exact Dw.add_int' | with_reducible exact Dw.sub_int' | with_reducible exact Dw.neg_int' | with_reducible exact Dw.ord_str | with_reducible exact Dw.int_int | with_reducible exact Dw.int_bl | with_reducible exact Dw.list_lst | with_reducible exact Dw.list_tup | with_reducible exact Dw.tup_lst | with_reducible exact Dw.tup_tup | with_reducible exact Dw.it_lst | with_reducible exact Dw.it_tup | with_reducible exact Dw.it_str | ((with_reducible apply Dw.ev_var); exact rfl) | ((with_reducible apply Dw.ev_varO); exact rfl) | ((with_reducible apply Dw.pk_cv); exact rfl) | ((with_reducible apply Dw.fs_ok); exact rfl) | ((with_reducible apply Dw.gE); exact rfl) | with_reducible apply Dw.ev_two | with_reducible apply Dw.ev_one | with_reducible apply Dw.ev_cons | with_reducible apply Dw.pks_cons | with_reducible apply Dw.ev_callE | with_reducible apply Dw.ev_isi | with_reducible apply Dw.frzs_cons | with_reducible apply Dw.ev_tup | with_reducible apply Dw.ev_lst | with_reducible apply Dw.ev_not | with_reducible apply Dw.ev_met | with_reducible apply Dw.ev_mut | with_reducible apply Dw.ev_ret | with_reducible apply Dw.ev_expr | with_reducible apply Dw.ev_asg | with_reducible apply Dw.ev_args | with_reducible apply Dw.ev_src | with_reducible apply Dw.ev_callD | with_reducible apply Dw.mapd_c | with_reducible apply Dw.mapd_d | with_reducible apply Dw.set_s | with_reducible apply Dw.st_d | with_reducible apply Dw.st_own | with_reducible apply Dw.st_cv | with_reducible apply Dw.frz_cv | ((with_reducible apply Dw.len_str); assumption) | ((with_reducible apply Dw.get_str) <;> assumption) | with_reducible assumption)) rfl (rng1_nat (by omega)))]
      exact h1
    · rw [hf]
      refine ⟨[.d (ksD K), .d (tkD K s), .d (tkD K t)], defM_rt (a := .d (.bl false)) (env := [.d (ksD K), .d (tkD K s), .d (tkD K t), w3]) [.d (ksD K), .d (tkD K s), .d (tkD K t), .un] rfl rfl ?_ rfl rfl⟩
      unfold b_ulawutalkubefore
      refine ev_seq2 (ev_iteF c0 rfl ev_skip) (ev_seq2 ?_ (ev_ret ev_const))
      rw [ev_for (ev_args (as := [.d (.int s.length)]) (env1 := [.d (ksD K), .d (tkD K s), .d (tkD K t), .un]) (by repeat' (first | with_reducible exact l1 | with_reducible exact Dw.ty_str | with_reducible exact Dw.ty_lst | with_reducible exact Dw.lst_eq | with_reducible exact Dw.set_z | with_reducible exact Dw.ret_d | with_reducible exact Dw.ret_own | with_reducible exact Dw.mapd_nn | with_reducible exact Dw.ev_const | with_reducible exact Dw.ev_nil | with_reducible exact Dw.pk_d | with_reducible exact Dw.pk_own | with_reducible exact Dw.pks_nil | with_reducible exact Dw.frz_d | with_reducible exact Dw.frz_own | with_reducible exact Dw.frzs_nil | with_reducible exact Dw.tru_bl | with_reducible exact Dw.ev_skip | with_reducible exact Dw.len_lst | with_reducible exact Dw.len_tup | with_reducible exact Dw.eq_int | with_reducible exact Dw.ne_int | with_reducible exact Dw.eq_str | with_reducible exact Dw.ne_str | with_reducible exact Dw.eq_bl | with_reducible exact Dw.ne_bl | with_reducible exact Dw.lt_int' | with_reducible exact Dw.lt_str' | with_reducible exact Dw.le_int' | with_reducible exact Dw.gt_int' | with_reducible exact Dw.ge_int' | with_reducible exact Dw.add_int' | with_reducible exact Dw.sub_int' | with_reducible exact Dw.neg_int' | with_reducible exact Dw.ord_str | with_reducible exact Dw.int_int | with_reducible exact Dw.int_bl | with_reducible exact Dw.list_lst | with_reducible exact Dw.list_tup | with_reducible exact Dw.tup_lst | with_reducible exact Dw.tup_tup | with_reducible exact Dw.it_lst | with_reducible exact Dw.it_tup | with_reducible exact Dw.it_str | ((with_reducible apply Dw.ev_var); exact rfl) | ((with_reducible apply Dw.ev_varO); exact rfl) | ((with_reducible apply Dw.pk_cv); exact rfl) | ((with_reducible apply Dw.fs_ok); exact rfl) | ((with_reducible apply Dw.gE); exact rfl) | with_reducible apply Dw.ev_two | with_reducible apply Dw.ev_one | with_reducible apply Dw.ev_cons | with_reducible apply Dw.pks_cons | with_reducible apply Dw.ev_callE | with_reducible apply Dw.ev_isi | with_reducible apply Dw.frzs_cons | with_reducible apply Dw.ev_tup | with_reducible apply Dw.ev_lst | with_reducible apply Dw.ev_not | with_reducible apply Dw.ev_met | with_reducible apply Dw.ev_mut | with_reducible apply Dw.ev_ret | with_reducible apply Dw.ev_expr | with_reducible apply Dw.ev_asg | with_reducible apply Dw.ev_args | with_reducible apply Dw.ev_src | with_reducible apply Dw.ev_callD | with_reducible apply Dw.mapd_c | with_reducible apply Dw.mapd_d | with_reducible apply Dw.set_s | with_reducible apply Dw.st_d | with_reducible apply Dw.st_own | with_reducible apply Dw.st_cv | with_reducible apply Dw.frz_cv | ((with_reducible apply Dw.len_str); assumption) | ((with_reducible apply Dw.get_str) <;> assumption) | with_reducible assumption)) rfl (rng1_nat (by omega)))]
      exact h1
end
end P_talkalike_k19_order_of_talks
namespace P_talkalike_k19_order_of_talks
noncomputable section
open PySem PySem.Spec PyProof.Rows L2 Dw
/-! ### what the law draws -/
def okLs (xs : List Nat) : Prop := ∀ c ∈ xs, 97 ≤ c ∧ c < 123
abbrev sL (ps : List (List Nat)) : List D := ps.map D.str
theorem set_same {rest : Sl} {jj : Nat} (hr : rest[jj]? = some .un) : rest.set jj .un = rest := by
  obtain ⟨h, e⟩ := List.getElem?_eq_some_iff.mp hr
  conv => lhs; rw [← e]
  exact List.set_getElem_self h
theorem draw_join {b jj : Nat} (hb : 0 < b) (hb2 : b ≤ 100) {rest : Sl} (hr : rest[jj]? = some .un) {t : Bool} (ls : List Int) :
    ∃ ls' : List Int, ∃ xs : List Nat, xs.length < b ∧ okLs xs ∧ metE "str" joinD (constE (.str [])) (consA (compE [jj + 1] (argsI rng1 (consA (callM 0 m_ulawutake [] (consA (varE 0) (consA (constE (.int (b : Nat))) nilA))) nilA)) (.nm (jj + 1)) none (two (op2 getD) (constE (.str [97, 98, 99, 100, 101, 102, 103, 104, 105, 106, 107, 108, 109, 110, 111, 112, 113, 114, 115, 116, 117, 118, 119, 120, 121, 122])) (callM 0 m_ulawutake [] (consA (varE 0) (consA (constE (.int 26)) nilA))))) nilA) (.own t (.lst (dI ls)) :: rest) = some (.ok (.d (.str xs)) (.own t (.lst (dI ls')) :: rest)) := by
  obtain ⟨l1, v, v1, t1⟩ := take_at (env := .own t (.lst (dI ls)) :: rest) (env' := []) (i := 0) (n := b) (fb := constE (.int (b : Nat))) hb rfl ev_const
  have src : argsI rng1 (consA (callM 0 m_ulawutake [] (consA (varE 0) (consA (constE (.int (b : Nat))) nilA))) nilA) (.own t (.lst (dI ls)) :: rest) = some (.ok ((List.range v).map fun i => .int (i : Nat)) (.own t (.lst (dI l1)) :: rest)) := ev_args (as := [.d (.int v)]) (ev_cons t1 ev_nil) rfl (rng1_nat (by omega))
  have hs := set_same hr
  obtain ⟨ys, env', c1, ⟨l2, xs, q1, q2, rfl⟩, c3⟩ := comp_inv (vs := [jj + 1]) (tg := .nm (jj + 1)) (fe := two (op2 getD) (constE (.str [97, 98, 99, 100, 101, 102, 103, 104, 105, 106, 107, 108, 109, 110, 111, 112, 113, 114, 115, 116, 117, 118, 119, 120, 121, 122])) (callM 0 m_ulawutake [] (consA (varE 0) (consA (constE (.int 26)) nilA)))) ((List.range v).map fun i => .int (i : Nat)) []
    (fun acc env => ∃ ls : List Int, ∃ xs : List Nat, acc = (xs.map fun c => .str [c]) ∧ okLs xs ∧ env = .own t (.lst (dI ls)) :: rest) (.own t (.lst (dI l1)) :: rest) ⟨l1, [], rfl, by intro c hc; simp at hc, rfl⟩ (by
      rintro x acc env hx ⟨l0, xs, q1, q2, rfl⟩
      obtain ⟨l2, v2, b2, t2⟩ := take_at (env := .own t (.lst (dI l0)) :: rest.set jj (.d x)) (env' := []) (i := 0) (n := 26) (fb := constE (.int 26)) (by decide) rfl ev_const
      refine ⟨.own t (.lst (dI l0)) :: rest.set jj (.d x), .d (.str [97 + v2]), .own t (.lst (dI l2)) :: rest.set jj (.d x), .str [97 + v2], .own t (.lst (dI l2)) :: rest.set jj (.d x), putT_nm (by rw [List.getElem?_cons_succ, hr]; rfl) rfl, ev_two ev_const t2 pk_d pk_d (get_letter b2), rfl, l2, xs ++ [97 + v2], by rw [q1, List.map_append]; rfl, ?_, ?_⟩
      · intro c hc
        rcases List.mem_append.mp hc with hc | hc
        · exact q2 c hc
        · rw [List.mem_singleton] at hc; subst hc; omega
      · show (SV.own t (.lst (dI l2)) :: rest.set jj (.d x)).set (jj + 1) .un = _
        rw [List.set_cons_succ, List.set_set, hs]) (by simp; omega)
  have xl : xs.length = v := by
    rw [q1] at c3
    simpa using c3
  subst q1
  have e1 : compE [jj + 1] (argsI rng1 (consA (callM 0 m_ulawutake [] (consA (varE 0) (consA (constE (.int (b : Nat))) nilA))) nilA)) (.nm (jj + 1)) none (two (op2 getD) (constE (.str [97, 98, 99, 100, 101, 102, 103, 104, 105, 106, 107, 108, 109, 110, 111, 112, 113, 114, 115, 116, 117, 118, 119, 120, 121, 122])) (callM 0 m_ulawutake [] (consA (varE 0) (consA (constE (.int 26)) nilA)))) (.own t (.lst (dI ls)) :: rest) = some (.ok (.own (.lst (xs.map fun c => .str [c]))) (.own t (.lst (dI l2)) :: rest)) := by
    refine ev_comp src (env2 := .own t (.lst (dI l2)) :: rest) ?_ ?_
    · show compD _ _ _ _ _ _ ((SV.own t (.lst (dI l1)) :: rest).set (jj + 1) .un) = _
      rw [List.set_cons_succ, hs]
      exact c1
    · show (SV.own t (.lst (dI l2)) :: rest).set (jj + 1) (keepD ((SV.own t (.lst (dI l1)) :: rest)[jj + 1]?)) = _
      rw [List.getElem?_cons_succ, hr, List.set_cons_succ]
      show _ :: rest.set jj .un = _
      rw [hs]
  have j1 := join_chr (xs := xs) (by omega)
  refine ⟨l2, xs, by omega, q2, ?_⟩
  repeat' (first | with_reducible exact e1 | with_reducible exact j1 | with_reducible exact Dw.ty_str | with_reducible exact Dw.ty_lst | with_reducible exact Dw.lst_eq | with_reducible exact Dw.set_z | with_reducible exact Dw.ret_d | with_reducible exact Dw.ret_own | with_reducible exact Dw.mapd_nn | with_reducible exact Dw.ev_const | with_reducible exact Dw.ev_nil | with_reducible exact Dw.pk_d | with_reducible exact Dw.pk_own | with_reducible exact Dw.pks_nil | with_reducible exact Dw.frz_d | with_reducible exact Dw.frz_own | with_reducible exact Dw.frzs_nil | with_reducible exact Dw.tru_bl | with_reducible exact Dw.ev_skip | with_reducible exact Dw.len_lst | with_reducible exact Dw.len_tup | with_reducible exact Dw.eq_int | with_reducible exact Dw.ne_int | with_reducible exact Dw.eq_str | with_reducible exact Dw.ne_str | with_reducible exact Dw.eq_bl | with_reducible exact Dw.ne_bl | with_reducible exact Dw.lt_int' | with_reducible exact Dw.lt_str' | with_reducible exact Dw.le_int' | with_reducible exact Dw.gt_int' | with_reducible exact Dw.ge_int' | with_reducible exact Dw.add_int' | with_reducible exact Dw.sub_int' | with_reducible exact Dw.neg_int' | with_reducible exact Dw.ord_str | with_reducible exact Dw.int_int | with_reducible exact Dw.int_bl | with_reducible exact Dw.list_lst | with_reducible exact Dw.list_tup | with_reducible exact Dw.tup_lst | with_reducible exact Dw.tup_tup | with_reducible exact Dw.it_lst | with_reducible exact Dw.it_tup | with_reducible exact Dw.it_str | ((with_reducible apply Dw.ev_var); exact rfl) | ((with_reducible apply Dw.ev_varO); exact rfl) | ((with_reducible apply Dw.pk_cv); exact rfl) | ((with_reducible apply Dw.fs_ok); exact rfl) | ((with_reducible apply Dw.gE); exact rfl) | with_reducible apply Dw.ev_two | with_reducible apply Dw.ev_one | with_reducible apply Dw.ev_cons | with_reducible apply Dw.pks_cons | with_reducible apply Dw.ev_callE | with_reducible apply Dw.ev_isi | with_reducible apply Dw.frzs_cons | with_reducible apply Dw.ev_tup | with_reducible apply Dw.ev_lst | with_reducible apply Dw.ev_not | with_reducible apply Dw.ev_met | with_reducible apply Dw.ev_mut | with_reducible apply Dw.ev_ret | with_reducible apply Dw.ev_expr | with_reducible apply Dw.ev_asg | with_reducible apply Dw.ev_args | with_reducible apply Dw.ev_src | with_reducible apply Dw.ev_callD | with_reducible apply Dw.mapd_c | with_reducible apply Dw.mapd_d | with_reducible apply Dw.set_s | with_reducible apply Dw.st_d | with_reducible apply Dw.st_own | with_reducible apply Dw.st_cv | with_reducible apply Dw.frz_cv | ((with_reducible apply Dw.len_str); assumption) | ((with_reducible apply Dw.get_str) <;> assumption) | with_reducible assumption)
/-- the names of one drawing -/
theorem names_diff {c s i j : Nat} (hc : c ≤ 6) (hi : i < c) (hj : j < c) (h : 97 + (s + 3 * i) % 26 = 97 + (s + 3 * j) % 26) : i = j := by omega
theorem ev_names (ls : List Int) {c : Nat} (hc : c ≤ 6) : ∃ ls' : List Int, ∃ nm : List (List Nat), nm.length = c ∧ (∀ x ∈ nm, okNm x ∧ x ≠ kNew) ∧ (∀ (i j : Nat) x, nm[i]? = some x → nm[j]? = some x → i = j) ∧
    m_ulawunames [.own true (.lst (dI ls)), .d (.int c)] = some (.ok (.own (.lst (sL nm))) [.own true (.lst (dI ls')), .d (.int c)]) := by
  have hs : (100000 : Nat) ≤ sizeLine := by decide
  obtain ⟨l1, h, h1, h2, h3⟩ := draw_join (b := 5) (jj := 4) (by decide) (by decide) (rest := [.d (.int c), .un, .un, .un, .un, .un, .un, .un, .un]) rfl (t := true) ls
  obtain ⟨l2, st, t1, t2⟩ := take_at (env := [.own true (.lst (dI l1)), .d (.int c), .d (.str h), .un, .un, .un, .un, .un, .un, .un]) (env' := []) (i := 0) (n := 26) (fb := constE (.int 26)) (by decide) rfl ev_const
  obtain ⟨env', r1, nm, l3, w5, w6, w7, w8, r2, r3, r4, rfl⟩ := loop_run (tg := .nm 5) (body := l_ulawunames_3) ((List.range c).map fun i => .int (i : Nat))
    (fun k env => ∃ (nm : List (List Nat)) (ls : List Int) (w5 w6 w7 w8 : SV), nm.length = k ∧ (∀ x ∈ nm, okNm x ∧ x ≠ kNew) ∧ ((∀ (i : Nat) x, nm[i]? = some x → x[h.length]? = some (97 + (st + 3 * i) % 26)) ∧ freeSlot (some w5) = true ∧ freeSlot (some w6) = true ∧ freeSlot (some w7) = true ∧ freeSlot (some w8) = true) ∧ env = [.own true (.lst (dI ls)), .d (.int c), .d (.str h), .d (.int st), .own false (.lst (sL nm)), w5, w6, w7, w8, .un])
    [.own true (.lst (dI l2)), .d (.int c), .d (.str h), .d (.int st), .own false (.lst []), .un, .un, .un, .un, .un] ⟨[], l2, .un, .un, .un, .un, rfl, by simp, ⟨by simp, rfl, rfl, rfl, rfl⟩, rfl⟩ (by
      rintro k z env hz ⟨nm, l0, w5, w6, w7, w8, q1, q2, ⟨q3, f5, f6, f7, f8⟩, rfl⟩
      rw [List.getElem?_map] at hz
      obtain ⟨i, hi, rfl⟩ := Option.map_eq_some_iff.mp hz
      have hk : k < c := by
        have := (List.getElem?_eq_some_iff.mp hi).1
        rwa [List.length_range] at this
      rw [List.getElem?_range hk] at hi
      cases hi
      have m1 : mulD (.int 3) (.int (k : Int)) = some (.d (.int (3 * (k : Int)))) := mul_r (big_small (by omega))
      have m2 : modD (.int ((st : Int) + 3 * (k : Int))) (.int 26) = some (.d (.int (((st + 3 * k) % 26 : Nat) : Int))) := by
        rw [mod_ok (by decide)]
        congr 3
      have hl : (st + 3 * k) % 26 < 26 := Nat.mod_lt _ (by decide)
      have g := get_letter hl
      have hq : 97 + (st + 3 * k) % 26 = 97 + (st + 3 * k) % 26 := rfl
      generalize hv : (st + 3 * k) % 26 = v at m2 hl g hq
      obtain ⟨l4, tl, a1, a2, a3⟩ := draw_join (b := 8) (jj := 8) (by decide) (by decide) (rest := [.d (.int c), .d (.str h), .d (.int st), .own false (.lst (sL nm)), .d (.int k), .d (.str [97 + v]), w7, w8, .un]) rfl (t := true) l0
      have ad1 : addD (.str h) (.str [97 + v]) = some (.d (.str (h ++ [97 + v]))) := Dw.add_str (by rw [List.length_singleton]; omega)
      have ad2 : addD (.str (h ++ [97 + v])) (.str tl) = some (.d (.str (h ++ [97 + v] ++ tl))) := Dw.add_str (by rw [List.length_append, List.length_singleton]; omega)
      have gn : ∀ x ∈ h ++ [97 + v] ++ tl, 97 ≤ x ∧ x < 123 := by
        intro x hx
        rcases List.mem_append.mp hx with hx | hx
        · rcases List.mem_append.mp hx with hx | hx
          · exact h2 x hx
          · rw [List.mem_singleton] at hx; subst hx; omega
        · exact a2 x hx
      have ln : (h ++ [97 + v] ++ tl).length ≤ 12 := by rw [List.length_append, List.length_append, List.length_singleton]; omega
      have at1 : ∀ u : List Nat, (h ++ [97 + v] ++ tl ++ u)[h.length]? = some (97 + v) := fun u => by
        rw [List.append_assoc, List.append_assoc, List.getElem?_append_right (Nat.le_refl _), Nat.sub_self]
        rfl
      generalize hN : h ++ [97 + v] ++ tl = N at ad2 gn ln at1
      have s6 : asgS 6 (two (op2 getD) (constE (.str [97, 98, 99, 100, 101, 102, 103, 104, 105, 106, 107, 108, 109, 110, 111, 112, 113, 114, 115, 116, 117, 118, 119, 120, 121, 122])) (two (op2 modD) (two (op2 addD) (varE 3) (two (op2 mulD) (constE (.int 3)) (varE 5))) (constE (.int 26)))) [.own true (.lst (dI l0)), .d (.int c), .d (.str h), .d (.int st), .own false (.lst (sL nm)), .d (.int k), w6, w7, w8, .un] = some (.nx [.own true (.lst (dI l0)), .d (.int c), .d (.str h), .d (.int st), .own false (.lst (sL nm)), .d (.int k), .d (.str [97 + v]), w7, w8, .un]) := by
        repeat' (first | with_reducible exact m1 | with_reducible exact m2 | with_reducible exact g | exact f6 | with_reducible exact Dw.ty_str | with_reducible exact Dw.ty_lst | with_reducible exact Dw.lst_eq | with_reducible exact Dw.set_z | with_reducible exact Dw.ret_d | with_reducible exact Dw.ret_own | with_reducible exact Dw.mapd_nn | with_reducible exact Dw.ev_const | with_reducible exact Dw.ev_nil | with_reducible exact Dw.pk_d | with_reducible exact Dw.pk_own | with_reducible exact Dw.pks_nil | with_reducible exact Dw.frz_d | with_reducible exact Dw.frz_own | with_reducible exact Dw.frzs_nil | with_reducible exact Dw.tru_bl | with_reducible exact Dw.ev_skip | with_reducible exact Dw.len_lst | with_reducible exact Dw.len_tup | with_reducible exact Dw.eq_int | with_reducible exact Dw.ne_int | with_reducible exact Dw.eq_str | with_reducible exact Dw.ne_str | with_reducible exact Dw.eq_bl | with_reducible exact Dw.ne_bl | with_reducible exact Dw.lt_int' | with_reducible exact Dw.lt_str' | with_reducible exact Dw.le_int' | with_reducible exact Dw.gt_int' | with_reducible exact Dw.ge_int' | with_reducible exact Dw.add_int' | with_reducible exact Dw.sub_int' | with_reducible exact Dw.neg_int' | with_reducible exact Dw.ord_str | with_reducible exact Dw.int_int | with_reducible exact Dw.int_bl | with_reducible exact Dw.list_lst | with_reducible exact Dw.list_tup | with_reducible exact Dw.tup_lst | with_reducible exact Dw.tup_tup | with_reducible exact Dw.it_lst | with_reducible exact Dw.it_tup | with_reducible exact Dw.it_str | ((with_reducible apply Dw.ev_var); exact rfl) | ((with_reducible apply Dw.ev_varO); exact rfl) | ((with_reducible apply Dw.pk_cv); exact rfl) | ((with_reducible apply Dw.fs_ok); exact rfl) | ((with_reducible apply Dw.gE); exact rfl) | with_reducible apply Dw.ev_two | with_reducible apply Dw.ev_one | with_reducible apply Dw.ev_cons | with_reducible apply Dw.pks_cons | with_reducible apply Dw.ev_callE | with_reducible apply Dw.ev_isi | with_reducible apply Dw.frzs_cons | with_reducible apply Dw.ev_tup | with_reducible apply Dw.ev_lst | with_reducible apply Dw.ev_not | with_reducible apply Dw.ev_met | with_reducible apply Dw.ev_mut | with_reducible apply Dw.ev_ret | with_reducible apply Dw.ev_expr | with_reducible apply Dw.ev_asg | with_reducible apply Dw.ev_args | with_reducible apply Dw.ev_src | with_reducible apply Dw.ev_callD | with_reducible apply Dw.mapd_c | with_reducible apply Dw.mapd_d | with_reducible apply Dw.set_s | with_reducible apply Dw.st_d | with_reducible apply Dw.st_own | with_reducible apply Dw.st_cv | with_reducible apply Dw.frz_cv | ((with_reducible apply Dw.len_str); assumption) | ((with_reducible apply Dw.get_str) <;> assumption) | with_reducible assumption)
      have s7 : asgS 7 (metE "str" joinD (constE (.str [])) (consA (compE [9] (argsI rng1 (consA (callM 0 m_ulawutake [] (consA (varE 0) (consA (constE (.int 8)) nilA))) nilA)) (.nm 9) none e_ulawunames_2) nilA)) [.own true (.lst (dI l0)), .d (.int c), .d (.str h), .d (.int st), .own false (.lst (sL nm)), .d (.int k), .d (.str [97 + v]), w7, w8, .un] = some (.nx [.own true (.lst (dI l4)), .d (.int c), .d (.str h), .d (.int st), .own false (.lst (sL nm)), .d (.int k), .d (.str [97 + v]), .d (.str tl), w8, .un]) := ev_asg a3 (st_d f7 rfl)
      have s8 : asgS 8 (two (op2 addD) (two (op2 addD) (varE 2) (varE 6)) (varE 7)) [.own true (.lst (dI l4)), .d (.int c), .d (.str h), .d (.int st), .own false (.lst (sL nm)), .d (.int k), .d (.str [97 + v]), .d (.str tl), w8, .un] = some (.nx [.own true (.lst (dI l4)), .d (.int c), .d (.str h), .d (.int st), .own false (.lst (sL nm)), .d (.int k), .d (.str [97 + v]), .d (.str tl), .d (.str N), .un]) := by
        repeat' (first | with_reducible exact ad1 | with_reducible exact ad2 | exact f8 | with_reducible exact Dw.ty_str | with_reducible exact Dw.ty_lst | with_reducible exact Dw.lst_eq | with_reducible exact Dw.set_z | with_reducible exact Dw.ret_d | with_reducible exact Dw.ret_own | with_reducible exact Dw.mapd_nn | with_reducible exact Dw.ev_const | with_reducible exact Dw.ev_nil | with_reducible exact Dw.pk_d | with_reducible exact Dw.pk_own | with_reducible exact Dw.pks_nil | with_reducible exact Dw.frz_d | with_reducible exact Dw.frz_own | with_reducible exact Dw.frzs_nil | with_reducible exact Dw.tru_bl | with_reducible exact Dw.ev_skip | with_reducible exact Dw.len_lst | with_reducible exact Dw.len_tup | with_reducible exact Dw.eq_int | with_reducible exact Dw.ne_int | with_reducible exact Dw.eq_str | with_reducible exact Dw.ne_str | with_reducible exact Dw.eq_bl | with_reducible exact Dw.ne_bl | with_reducible exact Dw.lt_int' | with_reducible exact Dw.lt_str' | with_reducible exact Dw.le_int' | with_reducible exact Dw.gt_int' | with_reducible exact Dw.ge_int' | with_reducible exact Dw.add_int' | with_reducible exact Dw.sub_int' | with_reducible exact Dw.neg_int' | with_reducible exact Dw.ord_str | with_reducible exact Dw.int_int | with_reducible exact Dw.int_bl | with_reducible exact Dw.list_lst | with_reducible exact Dw.list_tup | with_reducible exact Dw.tup_lst | with_reducible exact Dw.tup_tup | with_reducible exact Dw.it_lst | with_reducible exact Dw.it_tup | with_reducible exact Dw.it_str | ((with_reducible apply Dw.ev_var); exact rfl) | ((with_reducible apply Dw.ev_varO); exact rfl) | ((with_reducible apply Dw.pk_cv); exact rfl) | ((with_reducible apply Dw.fs_ok); exact rfl) | ((with_reducible apply Dw.gE); exact rfl) | with_reducible apply Dw.ev_two | with_reducible apply Dw.ev_one | with_reducible apply Dw.ev_cons | with_reducible apply Dw.pks_cons | with_reducible apply Dw.ev_callE | with_reducible apply Dw.ev_isi | with_reducible apply Dw.frzs_cons | with_reducible apply Dw.ev_tup | with_reducible apply Dw.ev_lst | with_reducible apply Dw.ev_not | with_reducible apply Dw.ev_met | with_reducible apply Dw.ev_mut | with_reducible apply Dw.ev_ret | with_reducible apply Dw.ev_expr | with_reducible apply Dw.ev_asg | with_reducible apply Dw.ev_args | with_reducible apply Dw.ev_src | with_reducible apply Dw.ev_callD | with_reducible apply Dw.mapd_c | with_reducible apply Dw.mapd_d | with_reducible apply Dw.set_s | with_reducible apply Dw.st_d | with_reducible apply Dw.st_own | with_reducible apply Dw.st_cv | with_reducible apply Dw.frz_cv | ((with_reducible apply Dw.len_str); assumption) | ((with_reducible apply Dw.get_str) <;> assumption) | with_reducible assumption)
      have c9 : orE (two (op2 eqD) (varE 8) (constE (.str [110, 101, 119]))) (two (op2 eqD) (varE 8) (constE (.str [115, 101, 108, 102]))) [.own true (.lst (dI l4)), .d (.int c), .d (.str h), .d (.int st), .own false (.lst (sL nm)), .d (.int k), .d (.str [97 + v]), .d (.str tl), .d (.str N), .un] = some (.ok (.d (.bl ((N == [110, 101, 119]) || (N == [115, 101, 108, 102])))) [.own true (.lst (dI l4)), .d (.int c), .d (.str h), .d (.int st), .own false (.lst (sL nm)), .d (.int k), .d (.str [97 + v]), .d (.str tl), .d (.str N), .un]) := ev_orB (by repeat' (first  | with_reducible exact Dw.ty_str | with_reducible exact Dw.ty_lst | with_reducible exact Dw.lst_eq | with_reducible exact Dw.set_z | with_reducible exact Dw.ret_d | with_reducible exact Dw.ret_own | with_reducible exact Dw.mapd_nn | with_reducible exact Dw.ev_const | with_reducible exact Dw.ev_nil | with_reducible exact Dw.pk_d | with_reducible exact Dw.pk_own | with_reducible exact Dw.pks_nil | with_reducible exact Dw.frz_d | with_reducible exact Dw.frz_own | with_reducible exact Dw.frzs_nil | with_reducible exact Dw.tru_bl | with_reducible exact Dw.ev_skip | with_reducible exact Dw.len_lst | with_reducible exact Dw.len_tup | with_reducible exact Dw.eq_int | with_reducible exact Dw.ne_int | with_reducible exact Dw.eq_str | with_reducible exact Dw.ne_str | with_reducible exact Dw.eq_bl | with_reducible exact Dw.ne_bl | with_reducible exact Dw.lt_int' | with_reducible exact Dw.lt_str' | with_reducible exact Dw.le_int' | with_reducible exact Dw.gt_int' | with_reducible exact Dw.ge_int' | with_reducible exact Dw.add_int' | with_reducible exact Dw.sub_int' | with_reducible exact Dw.neg_int' | with_reducible exact Dw.ord_str | with_reducible exact Dw.int_int | with_reducible exact Dw.int_bl | with_reducible exact Dw.list_lst | with_reducible exact Dw.list_tup | with_reducible exact Dw.tup_lst | with_reducible exact Dw.tup_tup | with_reducible exact Dw.it_lst | with_reducible exact Dw.it_tup | with_reducible exact Dw.it_str | ((with_reducible apply Dw.ev_var); exact rfl) | ((with_reducible apply Dw.ev_varO); exact rfl) | ((with_reducible apply Dw.pk_cv); exact rfl) | ((with_reducible apply Dw.fs_ok); exact rfl) | ((with_reducible apply Dw.gE); exact rfl) | with_reducible apply Dw.ev_two | with_reducible apply Dw.ev_one | with_reducible apply Dw.ev_cons | with_reducible apply Dw.pks_cons | with_reducible apply Dw.ev_callE | with_reducible apply Dw.ev_isi | with_reducible apply Dw.frzs_cons | with_reducible apply Dw.ev_tup | with_reducible apply Dw.ev_lst | with_reducible apply Dw.ev_not | with_reducible apply Dw.ev_met | with_reducible apply Dw.ev_mut | with_reducible apply Dw.ev_ret | with_reducible apply Dw.ev_expr | with_reducible apply Dw.ev_asg | with_reducible apply Dw.ev_args | with_reducible apply Dw.ev_src | with_reducible apply Dw.ev_callD | with_reducible apply Dw.mapd_c | with_reducible apply Dw.mapd_d | with_reducible apply Dw.set_s | with_reducible apply Dw.st_d | with_reducible apply Dw.st_own | with_reducible apply Dw.st_cv | with_reducible apply Dw.frz_cv | ((with_reducible apply Dw.len_str); assumption) | ((with_reducible apply Dw.get_str) <;> assumption) | with_reducible assumption)) (by repeat' (first  | with_reducible exact Dw.ty_str | with_reducible exact Dw.ty_lst | with_reducible exact Dw.lst_eq | with_reducible exact Dw.set_z | with_reducible exact Dw.ret_d | with_reducible exact Dw.ret_own | with_reducible exact Dw.mapd_nn | with_reducible exact Dw.ev_const | with_reducible exact Dw.ev_nil | with_reducible exact Dw.pk_d | with_reducible exact Dw.pk_own | with_reducible exact Dw.pks_nil | with_reducible exact Dw.frz_d | with_reducible exact Dw.frz_own | with_reducible exact Dw.frzs_nil | with_reducible exact Dw.tru_bl | with_reducible exact Dw.ev_skip | with_reducible exact Dw.len_lst | with_reducible exact Dw.len_tup | with_reducible exact Dw.eq_int | with_reducible exact Dw.ne_int | with_reducible exact Dw.eq_str | with_reducible exact Dw.ne_str | with_reducible exact Dw.eq_bl | with_reducible exact Dw.ne_bl | with_reducible exact Dw.lt_int' | with_reducible exact Dw.lt_str' | with_reducible exact Dw.le_int' | with_reducible exact Dw.gt_int' | with_reducible exact Dw.ge_int' | with_reducible exact Dw.add_int' | with_reducible exact Dw.sub_int' | with_reducible exact Dw.neg_int' | with_reducible exact Dw.ord_str | with_reducible exact Dw.int_int | with_reducible exact Dw.int_bl | with_reducible exact Dw.list_lst | with_reducible exact Dw.list_tup | with_reducible exact Dw.tup_lst | with_reducible exact Dw.tup_tup | with_reducible exact Dw.it_lst | with_reducible exact Dw.it_tup | with_reducible exact Dw.it_str | ((with_reducible apply Dw.ev_var); exact rfl) | ((with_reducible apply Dw.ev_varO); exact rfl) | ((with_reducible apply Dw.pk_cv); exact rfl) | ((with_reducible apply Dw.fs_ok); exact rfl) | ((with_reducible apply Dw.gE); exact rfl) | with_reducible apply Dw.ev_two | with_reducible apply Dw.ev_one | with_reducible apply Dw.ev_cons | with_reducible apply Dw.pks_cons | with_reducible apply Dw.ev_callE | with_reducible apply Dw.ev_isi | with_reducible apply Dw.frzs_cons | with_reducible apply Dw.ev_tup | with_reducible apply Dw.ev_lst | with_reducible apply Dw.ev_not | with_reducible apply Dw.ev_met | with_reducible apply Dw.ev_mut | with_reducible apply Dw.ev_ret | with_reducible apply Dw.ev_expr | with_reducible apply Dw.ev_asg | with_reducible apply Dw.ev_args | with_reducible apply Dw.ev_src | with_reducible apply Dw.ev_callD | with_reducible apply Dw.mapd_c | with_reducible apply Dw.mapd_d | with_reducible apply Dw.set_s | with_reducible apply Dw.st_d | with_reducible apply Dw.st_own | with_reducible apply Dw.st_cv | with_reducible apply Dw.frz_cv | ((with_reducible apply Dw.len_str); assumption) | ((with_reducible apply Dw.get_str) <;> assumption) | with_reducible assumption))
      have s9 : ∃ M : List Nat, (okNm M ∧ M ≠ kNew) ∧ M[h.length]? = some (97 + v) ∧ iteS (orE (two (op2 eqD) (varE 8) (constE (.str [110, 101, 119]))) (two (op2 eqD) (varE 8) (constE (.str [115, 101, 108, 102])))) (asgS 8 (two (op2 addD) (varE 8) (constE (.str [120])))) skipS [.own true (.lst (dI l4)), .d (.int c), .d (.str h), .d (.int st), .own false (.lst (sL nm)), .d (.int k), .d (.str [97 + v]), .d (.str tl), .d (.str N), .un] = some (.nx [.own true (.lst (dI l4)), .d (.int c), .d (.str h), .d (.int st), .own false (.lst (sL nm)), .d (.int k), .d (.str [97 + v]), .d (.str tl), .d (.str M), .un]) := by
        cases hb : (N == [110, 101, 119]) || (N == [115, 101, 108, 102]) with
        | false =>
          rw [hb] at c9
          rw [Bool.or_eq_false_iff, beq_eq_false_iff_ne, beq_eq_false_iff_ne] at hb
          have := at1 []
          rw [List.append_nil] at this
          exact ⟨N, ⟨⟨by omega, gn⟩, hb.1⟩, this, ev_iteF c9 rfl ev_skip⟩
        | true =>
          rw [hb] at c9
          have ad3 : addD (.str N) (.str [120]) = some (.d (.str (N ++ [120]))) := Dw.add_str (by rw [List.length_singleton]; omega)
          refine ⟨N ++ [120], ⟨⟨by rw [List.length_append, List.length_singleton]; omega, fun x hx => ?_⟩, ?_⟩, at1 [120], ev_iteT c9 rfl (by repeat' (first | with_reducible exact ad3 | with_reducible exact Dw.ty_str | with_reducible exact Dw.ty_lst | with_reducible exact Dw.lst_eq | with_reducible exact Dw.set_z | with_reducible exact Dw.ret_d | with_reducible exact Dw.ret_own | with_reducible exact Dw.mapd_nn | with_reducible exact Dw.ev_const | with_reducible exact Dw.ev_nil | with_reducible exact Dw.pk_d | with_reducible exact Dw.pk_own | with_reducible exact Dw.pks_nil | with_reducible exact Dw.frz_d | with_reducible exact Dw.frz_own | with_reducible exact Dw.frzs_nil | with_reducible exact Dw.tru_bl | with_reducible exact Dw.ev_skip | with_reducible exact Dw.len_lst | with_reducible exact Dw.len_tup | with_reducible exact Dw.eq_int | with_reducible exact Dw.ne_int | with_reducible exact Dw.eq_str | with_reducible exact Dw.ne_str | with_reducible exact Dw.eq_bl | with_reducible exact Dw.ne_bl | with_reducible exact Dw.lt_int' | with_reducible exact Dw.lt_str' | with_reducible exact Dw.le_int' | with_reducible exact Dw.gt_int' | with_reducible exact Dw.ge_int' | with_reducible exact Dw.add_int' | with_reducible exact Dw.sub_int' | with_reducible exact Dw.neg_int' | with_reducible exact Dw.ord_str | with_reducible exact Dw.int_int | with_reducible exact Dw.int_bl | with_reducible exact Dw.list_lst | with_reducible exact Dw.list_tup | with_reducible exact Dw.tup_lst | with_reducible exact Dw.tup_tup | with_reducible exact Dw.it_lst | with_reducible exact Dw.it_tup | with_reducible exact Dw.it_str | ((with_reducible apply Dw.ev_var); exact rfl) | ((with_reducible apply Dw.ev_varO); exact rfl) | ((with_reducible apply Dw.pk_cv); exact rfl) | ((with_reducible apply Dw.fs_ok); exact rfl) | ((with_reducible apply Dw.gE); exact rfl) | with_reducible apply Dw.ev_two | with_reducible apply Dw.ev_one | with_reducible apply Dw.ev_cons | with_reducible apply Dw.pks_cons | with_reducible apply Dw.ev_callE | with_reducible apply Dw.ev_isi | with_reducible apply Dw.frzs_cons | with_reducible apply Dw.ev_tup | with_reducible apply Dw.ev_lst | with_reducible apply Dw.ev_not | with_reducible apply Dw.ev_met | with_reducible apply Dw.ev_mut | with_reducible apply Dw.ev_ret | with_reducible apply Dw.ev_expr | with_reducible apply Dw.ev_asg | with_reducible apply Dw.ev_args | with_reducible apply Dw.ev_src | with_reducible apply Dw.ev_callD | with_reducible apply Dw.mapd_c | with_reducible apply Dw.mapd_d | with_reducible apply Dw.set_s | with_reducible apply Dw.st_d | with_reducible apply Dw.st_own | with_reducible apply Dw.st_cv | with_reducible apply Dw.frz_cv | ((with_reducible apply Dw.len_str); assumption) | ((with_reducible apply Dw.get_str) <;> assumption) | with_reducible assumption))⟩
          · rcases List.mem_append.mp hx with hx | hx
            · exact gn x hx
            · rw [List.mem_singleton] at hx; subst hx; omega
          · rw [Bool.or_eq_true, beq_iff_eq, beq_iff_eq] at hb
            rcases hb with e | e <;> rw [e] <;> decide
      obtain ⟨M, M1, M2, s9⟩ := s9
      have a1' : appU (sL nm) [.str M] = some (.non, sL nm ++ [.str M]) := Dw.app_ok (by rw [sL, List.length_map]; omega)
      have a2' : sL (nm ++ [M]) = sL nm ++ [.str M] := by rw [sL, List.map_append]; rfl
      refine ⟨[.own true (.lst (dI l0)), .d (.int c), .d (.str h), .d (.int st), .own false (.lst (sL nm)), .d (.int k), w6, w7, w8, .un], [.own true (.lst (dI l4)), .d (.int c), .d (.str h), .d (.int st), .own false (.lst (sL (nm ++ [M]))), .d (.int k), .d (.str [97 + v]), .d (.str tl), .d (.str M), .un], putT_nm f5 rfl, .inl ?_, nm ++ [M], l4, .d (.int k), .d (.str [97 + v]), .d (.str tl), .d (.str M), by rw [List.length_append, List.length_singleton, q1], ?_, ⟨?_, rfl, rfl, rfl, rfl⟩, rfl⟩
      · unfold l_ulawunames_3
        refine ev_seq2 s6 (ev_seq2 s7 (ev_seq2 s8 (ev_seq2 s9 ?_)))
        rw [a2']
        repeat' (first | with_reducible exact a1' | with_reducible exact Dw.ty_str | with_reducible exact Dw.ty_lst | with_reducible exact Dw.lst_eq | with_reducible exact Dw.set_z | with_reducible exact Dw.ret_d | with_reducible exact Dw.ret_own | with_reducible exact Dw.mapd_nn | with_reducible exact Dw.ev_const | with_reducible exact Dw.ev_nil | with_reducible exact Dw.pk_d | with_reducible exact Dw.pk_own | with_reducible exact Dw.pks_nil | with_reducible exact Dw.frz_d | with_reducible exact Dw.frz_own | with_reducible exact Dw.frzs_nil | with_reducible exact Dw.tru_bl | with_reducible exact Dw.ev_skip | with_reducible exact Dw.len_lst | with_reducible exact Dw.len_tup | with_reducible exact Dw.eq_int | with_reducible exact Dw.ne_int | with_reducible exact Dw.eq_str | with_reducible exact Dw.ne_str | with_reducible exact Dw.eq_bl | with_reducible exact Dw.ne_bl | with_reducible exact Dw.lt_int' | with_reducible exact Dw.lt_str' | with_reducible exact Dw.le_int' | with_reducible exact Dw.gt_int' | with_reducible exact Dw.ge_int' | with_reducible exact Dw.add_int' | with_reducible exact Dw.sub_int' | with_reducible exact Dw.neg_int' | with_reducible exact Dw.ord_str | with_reducible exact Dw.int_int | with_reducible exact Dw.int_bl | with_reducible exact Dw.list_lst | with_reducible exact Dw.list_tup | with_reducible exact Dw.tup_lst | with_reducible exact Dw.tup_tup | with_reducible exact Dw.it_lst | with_reducible exact Dw.it_tup | with_reducible exact Dw.it_str | ((with_reducible apply Dw.ev_var); exact rfl) | ((with_reducible apply Dw.ev_varO); exact rfl) | ((with_reducible apply Dw.pk_cv); exact rfl) | ((with_reducible apply Dw.fs_ok); exact rfl) | ((with_reducible apply Dw.gE); exact rfl) | with_reducible apply Dw.ev_two | with_reducible apply Dw.ev_one | with_reducible apply Dw.ev_cons | with_reducible apply Dw.pks_cons | with_reducible apply Dw.ev_callE | with_reducible apply Dw.ev_isi | with_reducible apply Dw.frzs_cons | with_reducible apply Dw.ev_tup | with_reducible apply Dw.ev_lst | with_reducible apply Dw.ev_not | with_reducible apply Dw.ev_met | with_reducible apply Dw.ev_mut | with_reducible apply Dw.ev_ret | with_reducible apply Dw.ev_expr | with_reducible apply Dw.ev_asg | with_reducible apply Dw.ev_args | with_reducible apply Dw.ev_src | with_reducible apply Dw.ev_callD | with_reducible apply Dw.mapd_c | with_reducible apply Dw.mapd_d | with_reducible apply Dw.set_s | with_reducible apply Dw.st_d | with_reducible apply Dw.st_own | with_reducible apply Dw.st_cv | with_reducible apply Dw.frz_cv | ((with_reducible apply Dw.len_str); assumption) | ((with_reducible apply Dw.get_str) <;> assumption) | with_reducible assumption)
      · intro x hx
        rcases List.mem_append.mp hx with hx | hx
        · exact q2 x hx
        · rw [List.mem_singleton] at hx; subst hx; exact M1
      · intro i x hx
        by_cases hik : i < nm.length
        · rw [List.getElem?_append_left hik] at hx
          exact q3 i x hx
        · rw [List.getElem?_append_right (by omega)] at hx
          have : i - nm.length = 0 := by
            have := (List.getElem?_eq_some_iff.mp hx).1
            rw [List.length_singleton] at this
            omega
          rw [this] at hx
          cases hx
          rw [M2, show i = k by omega, hv])
  rw [List.length_map, List.length_range] at r2
  obtain ⟨r4, f5, f6, f7, f8⟩ := r4
  refine ⟨l3, nm, r2, r3, fun i j x hi hj => ?_, defM_rt (a := .cv 4) (env := [.own true (.lst (dI l3)), .d (.int c), .d (.str h), .d (.int st), .own false (.lst (sL nm)), w5, w6, w7, w8, .un]) [.own true (.lst (dI ls)), .d (.int c), .un, .un, .un, .un, .un, .un, .un, .un] rfl rfl ?_ rfl rfl⟩
  · have e1 := r4 i x hi
    have e2 := r4 j x hj
    rw [e1] at e2
    have i1 := (List.getElem?_eq_some_iff.mp hi).1
    have j1 := (List.getElem?_eq_some_iff.mp hj).1
    exact names_diff hc (by omega) (by omega) (Option.some.inj e2)
  unfold b_ulawunames
  refine ev_seq2 (env1 := [.own true (.lst (dI l1)), .d (.int c), .d (.str h), .un, .un, .un, .un, .un, .un, .un]) (ev_asg h3 (st_d rfl rfl)) ?_
  refine ev_seq2 (env1 := [.own true (.lst (dI l2)), .d (.int c), .d (.str h), .d (.int st), .un, .un, .un, .un, .un, .un]) (ev_asg t2 (st_d rfl rfl)) ?_
  refine ev_seq2 (env1 := [.own true (.lst (dI l2)), .d (.int c), .d (.str h), .d (.int st), .own false (.lst []), .un, .un, .un, .un, .un]) (by repeat' (first | exact Nat.zero_le _ | with_reducible exact Dw.ty_str | with_reducible exact Dw.ty_lst | with_reducible exact Dw.lst_eq | with_reducible exact Dw.set_z | with_reducible exact Dw.ret_d | with_reducible exact Dw.ret_own | with_reducible exact Dw.mapd_nn | with_reducible exact Dw.ev_const | with_reducible exact Dw.ev_nil | with_reducible exact Dw.pk_d | with_reducible exact Dw.pk_own | with_reducible exact Dw.pks_nil | with_reducible exact Dw.frz_d | with_reducible exact Dw.frz_own | with_reducible exact Dw.frzs_nil | with_reducible exact Dw.tru_bl | with_reducible exact Dw.ev_skip | with_reducible exact Dw.len_lst | with_reducible exact Dw.len_tup | with_reducible exact Dw.eq_int | with_reducible exact Dw.ne_int | with_reducible exact Dw.eq_str | with_reducible exact Dw.ne_str | with_reducible exact Dw.eq_bl | with_reducible exact Dw.ne_bl | with_reducible exact Dw.lt_int' | with_reducible exact Dw.lt_str' | with_reducible exact Dw.le_int' | with_reducible exact Dw.gt_int' | with_reducible exact Dw.ge_int' | with_reducible exact Dw.add_int' | with_reducible exact Dw.sub_int' | with_reducible exact Dw.neg_int' | with_reducible exact Dw.ord_str | with_reducible exact Dw.int_int | with_reducible exact Dw.int_bl | with_reducible exact Dw.list_lst | with_reducible exact Dw.list_tup | with_reducible exact Dw.tup_lst | with_reducible exact Dw.tup_tup | with_reducible exact Dw.it_lst | with_reducible exact Dw.it_tup | with_reducible exact Dw.it_str | ((with_reducible apply Dw.ev_var); exact rfl) | ((with_reducible apply Dw.ev_varO); exact rfl) | ((with_reducible apply Dw.pk_cv); exact rfl) | ((with_reducible apply Dw.fs_ok); exact rfl) | ((with_reducible apply Dw.gE); exact rfl) | with_reducible apply Dw.ev_two | with_reducible apply Dw.ev_one | with_reducible apply Dw.ev_cons | with_reducible apply Dw.pks_cons | with_reducible apply Dw.ev_callE | with_reducible apply Dw.ev_isi | with_reducible apply Dw.frzs_cons | with_reducible apply Dw.ev_tup | with_reducible apply Dw.ev_lst | with_reducible apply Dw.ev_not | with_reducible apply Dw.ev_met | with_reducible apply Dw.ev_mut | with_reducible apply Dw.ev_ret | with_reducible apply Dw.ev_expr | with_reducible apply Dw.ev_asg | with_reducible apply Dw.ev_args | with_reducible apply Dw.ev_src | with_reducible apply Dw.ev_callD | with_reducible apply Dw.mapd_c | with_reducible apply Dw.mapd_d | with_reducible apply Dw.set_s | with_reducible apply Dw.st_d | with_reducible apply Dw.st_own | with_reducible apply Dw.st_cv | with_reducible apply Dw.frz_cv | ((with_reducible apply Dw.len_str); assumption) | ((with_reducible apply Dw.get_str) <;> assumption) | with_reducible assumption)) ?_
  refine ev_seq2 (env1 := [.own true (.lst (dI l3)), .d (.int c), .d (.str h), .d (.int st), .own false (.lst (sL nm)), w5, w6, w7, w8, .un]) ?_ (ev_ret (ev_varO rfl))
  rw [ev_for (ev_args (as := [.d (.int c)]) (env1 := [.own true (.lst (dI l2)), .d (.int c), .d (.str h), .d (.int st), .own false (.lst []), .un, .un, .un, .un, .un]) (by repeat' (first  | with_reducible exact Dw.ty_str | with_reducible exact Dw.ty_lst | with_reducible exact Dw.lst_eq | with_reducible exact Dw.set_z | with_reducible exact Dw.ret_d | with_reducible exact Dw.ret_own | with_reducible exact Dw.mapd_nn | with_reducible exact Dw.ev_const | with_reducible exact Dw.ev_nil | with_reducible exact Dw.pk_d | with_reducible exact Dw.pk_own | with_reducible exact Dw.pks_nil | with_reducible exact Dw.frz_d | with_reducible exact Dw.frz_own | with_reducible exact Dw.frzs_nil | with_reducible exact Dw.tru_bl | with_reducible exact Dw.ev_skip | with_reducible exact Dw.len_lst | with_reducible exact Dw.len_tup | with_reducible exact Dw.eq_int | with_reducible exact Dw.ne_int | with_reducible exact Dw.eq_str | with_reducible exact Dw.ne_str | with_reducible exact Dw.eq_bl | with_reducible exact Dw.ne_bl | with_reducible exact Dw.lt_int' | with_reducible exact Dw.lt_str' | with_reducible exact Dw.le_int' | with_reducible exact Dw.gt_int' | with_reducible exact Dw.ge_int' | with_reducible exact Dw.add_int' | with_reducible exact Dw.sub_int' | with_reducible exact Dw.neg_int' | with_reducible exact Dw.ord_str | with_reducible exact Dw.int_int | with_reducible exact Dw.int_bl | with_reducible exact Dw.list_lst | with_reducible exact Dw.list_tup | with_reducible exact Dw.tup_lst | with_reducible exact Dw.tup_tup | with_reducible exact Dw.it_lst | with_reducible exact Dw.it_tup | with_reducible exact Dw.it_str | ((with_reducible apply Dw.ev_var); exact rfl) | ((with_reducible apply Dw.ev_varO); exact rfl) | ((with_reducible apply Dw.pk_cv); exact rfl) | ((with_reducible apply Dw.fs_ok); exact rfl) | ((with_reducible apply Dw.gE); exact rfl) | with_reducible apply Dw.ev_two | with_reducible apply Dw.ev_one | with_reducible apply Dw.ev_cons | with_reducible apply Dw.pks_cons | with_reducible apply Dw.ev_callE | with_reducible apply Dw.ev_isi | with_reducible apply Dw.frzs_cons | with_reducible apply Dw.ev_tup | with_reducible apply Dw.ev_lst | with_reducible apply Dw.ev_not | with_reducible apply Dw.ev_met | with_reducible apply Dw.ev_mut | with_reducible apply Dw.ev_ret | with_reducible apply Dw.ev_expr | with_reducible apply Dw.ev_asg | with_reducible apply Dw.ev_args | with_reducible apply Dw.ev_src | with_reducible apply Dw.ev_callD | with_reducible apply Dw.mapd_c | with_reducible apply Dw.mapd_d | with_reducible apply Dw.set_s | with_reducible apply Dw.st_d | with_reducible apply Dw.st_own | with_reducible apply Dw.st_cv | with_reducible apply Dw.frz_cv | ((with_reducible apply Dw.len_str); assumption) | ((with_reducible apply Dw.get_str) <;> assumption) | with_reducible assumption)) rfl (rng1_nat (by omega)))]
  exact r1
end
end P_talkalike_k19_order_of_talks
namespace P_talkalike_k19_order_of_talks
noncomputable section
open PySem PySem.Spec PyProof.Rows L2 Dw
theorem add_lst {xs ys : List D} (h : xs.length + ys.length ≤ 1000) : addD (.lst xs) (.lst ys) = some (.own (.lst (xs ++ ys))) := if_pos (Nat.le_trans h (by decide))
/-- the names, called: the count is drawn, too -/
theorem names_call {env : Sl} {i : Nat} {t : Bool} {ls : List Int} {c : Nat} {fb : SE} {l1 : List Int} (hc : c ≤ 6) (hi : env[i]? = some (.own t (.lst (dI ls)))) (hb : fb env = some (.ok (.d (.int c)) (env.set i (.own t (.lst (dI l1)))))) :
    ∃ ls' : List Int, ∃ nm : List (List Nat), nm.length = c ∧ (∀ x ∈ nm, okNm x ∧ x ≠ kNew) ∧ (∀ (i j : Nat) x, nm[i]? = some x → nm[j]? = some x → i = j) ∧
    callM 0 m_ulawunames [] (consA (varE i) (consA fb nilA)) env = some (.ok (.own (.lst (sL nm))) (env.set i (.own t (.lst (dI ls'))))) := by
  obtain ⟨l2, nm, h1, h2, h3, h4⟩ := ev_names l1 hc
  have hil : i < env.length := (List.getElem?_eq_some_iff.mp hi).1
  refine ⟨l2, nm, h1, h2, h3, ev_callM (as := [.cv i, .d (.int c)]) (ev_cons (ev_varO hi) (ev_cons hb ev_nil)) rfl (xs := [.non, .int c]) (frzs_cons frz_d (frzs_cons frz_d frzs_nil)) (by rw [List.getElem?_set_self hil]) rfl h4 rfl rfl ?_⟩
  rw [List.set_set]
theorem ev_kinds (ls : List Int) : ∃ ls' : List Int, ∃ K, okK K ∧ m_ulawukinds [.own true (.lst (dI ls))] = some (.ok (.own (.lst (K.map kD))) [.own true (.lst (dI ls'))]) := by
  obtain ⟨l1, v, v1, t1⟩ := take_at (env := [.own true (.lst (dI ls)), .un, .un, .un, .un]) (env' := []) (i := 0) (n := 6) (fb := constE (.int 6)) (by decide) rfl ev_const
  obtain ⟨l2, nm, n1, n2, n3, n4⟩ := names_call (env := [.own true (.lst (dI l1)), .d (.int v), .un, .un, .un]) (i := 0) (c := v) (fb := varE 1) (l1 := l1) (by omega) rfl (ev_var rfl)
  have ad : addD (.lst [.str kNew]) (.lst (sL nm)) = some (.own (.lst (sL (kNew :: nm)))) := add_lst (by rw [List.length_singleton, sL, List.length_map]; omega)
  have Nok : ∀ x ∈ kNew :: nm, okNm x := by
    intro x hx
    rcases List.mem_cons.mp hx with rfl | hx
    · exact ⟨by decide, by decide⟩
    · exact (n2 x hx).1
  have Ndis : ∀ (i j : Nat) x, (kNew :: nm)[i]? = some x → (kNew :: nm)[j]? = some x → i = j := by
    intro i j x hi hj
    cases i with
    | zero =>
      cases j with
      | zero => rfl
      | succ j => cases hi; exact absurd rfl (n2 _ (List.mem_of_getElem? (show nm[j]? = some kNew from hj))).2
    | succ i =>
      cases j with
      | zero => cases hj; exact absurd rfl (n2 _ (List.mem_of_getElem? (show nm[i]? = some kNew from hi))).2
      | succ j => rw [n3 i j x hi hj]
  have Nlen : (kNew :: nm).length = v + 1 := by rw [List.length_cons, n1]
  have N0 : (kNew :: nm)[0]? = some kNew := rfl
  generalize hN : kNew :: nm = N at ad Nok Ndis Nlen N0
  have s2 : asgS 2 (two (op2 addD) (lstE (consA (constE (.str [110, 101, 119])) nilA)) (callM 0 m_ulawunames [] (consA (varE 0) (consA (varE 1) nilA)))) [.own true (.lst (dI l1)), .d (.int v), .un, .un, .un] = some (.nx [.own true (.lst (dI l2)), .d (.int v), .own false (.lst (sL N)), .un, .un]) :=
    ev_asg (ev_two (a := .own (.lst [.str kNew])) (ev_lst (ev_cons ev_const ev_nil) (frzs_cons frz_d frzs_nil) (show 1 ≤ 100000 by decide)) n4 pk_own pk_own ad) (st_own rfl rfl)
  obtain ⟨env', r1, K, l3, w4, r2, r3, r4, rfl⟩ := loop_run (tg := .nm 4) (body := l_ulawukinds_1) (sL N)
    (fun k env => ∃ (K : List Kd) (ls : List Int) (w4 : SV), K.length = k ∧ (∀ (i : Nat) kk, K[i]? = some kk → (∃ x, N[i]? = some x ∧ kk.headD [] = x) ∧ 1 ≤ kk.length ∧ kk.length ≤ 4 ∧ ∀ x ∈ kk, okNm x) ∧ freeSlot (some w4) = true ∧ env = [.own true (.lst (dI ls)), .d (.int v), .d (.lst (sL N)), .own false (.lst (K.map kD)), w4])
    [.own true (.lst (dI l2)), .d (.int v), .d (.lst (sL N)), .own false (.lst []), .un] ⟨[], l2, .un, rfl, by simp, rfl, rfl⟩ (by
      rintro k z env hz ⟨K, l0, w4, q1, q2, q3, rfl⟩
      rw [List.getElem?_map] at hz
      obtain ⟨x, hx, rfl⟩ := Option.map_eq_some_iff.mp hz
      have hxm := List.mem_of_getElem? hx
      have hkN : k < N.length := (List.getElem?_eq_some_iff.mp hx).1
      obtain ⟨l4, u, u1, t4⟩ := take_at (env := [.own true (.lst (dI l0)), .d (.int v), .d (.lst (sL N)), .own false (.lst (K.map kD)), .d (.str x)]) (env' := []) (i := 0) (n := 4) (fb := constE (.int 4)) (by decide) rfl ev_const
      obtain ⟨l5, ns, m1, m2, m3, m4⟩ := names_call (env := [.own true (.lst (dI l0)), .d (.int v), .d (.lst (sL N)), .own false (.lst (K.map kD)), .d (.str x)]) (i := 0) (c := u) (l1 := l4) (by omega) rfl t4
      have ad2 : addD (.lst [.str x]) (.lst (sL ns)) = some (.own (.lst (sL (x :: ns)))) := add_lst (by rw [List.length_singleton, sL, List.length_map]; omega)
      have e1 : two (op2 addD) (lstE (consA (varE 4) nilA)) (callM 0 m_ulawunames [] (consA (varE 0) (consA (callM 0 m_ulawutake [] (consA (varE 0) (consA (constE (.int 4)) nilA))) nilA))) [.own true (.lst (dI l0)), .d (.int v), .d (.lst (sL N)), .own false (.lst (K.map kD)), .d (.str x)] = some (.ok (.own (.lst (sL (x :: ns)))) [.own true (.lst (dI l5)), .d (.int v), .d (.lst (sL N)), .own false (.lst (K.map kD)), .d (.str x)]) :=
        ev_two (a := .own (.lst [.str x])) (ev_lst (ev_cons (ev_var rfl) ev_nil) (frzs_cons frz_d frzs_nil) (show 1 ≤ 100000 by decide)) m4 pk_own pk_own ad2
      have a1 : appU (K.map kD) [kD (x :: ns)] = some (.non, (K ++ [x :: ns]).map kD) := by rw [Dw.app_ok (by rw [List.length_map]; omega), List.map_append]; rfl
      have tc : tupleC [.lst (sL (x :: ns))] = some (.d (kD (x :: ns))) := rfl
      have e2 : callE tupleC (consA (two (op2 addD) (lstE (consA (varE 4) nilA)) (callM 0 m_ulawunames [] (consA (varE 0) (consA (callM 0 m_ulawutake [] (consA (varE 0) (consA (constE (.int 4)) nilA))) nilA)))) nilA) [.own true (.lst (dI l0)), .d (.int v), .d (.lst (sL N)), .own false (.lst (K.map kD)), .d (.str x)] = some (.ok (.d (kD (x :: ns))) [.own true (.lst (dI l5)), .d (.int v), .d (.lst (sL N)), .own false (.lst (K.map kD)), .d (.str x)]) := by
        repeat' (first | with_reducible exact e1 | with_reducible exact tc | with_reducible exact Dw.ty_str | with_reducible exact Dw.ty_lst | with_reducible exact Dw.lst_eq | with_reducible exact Dw.set_z | with_reducible exact Dw.ret_d | with_reducible exact Dw.ret_own | with_reducible exact Dw.mapd_nn | with_reducible exact Dw.ev_const | with_reducible exact Dw.ev_nil | with_reducible exact Dw.pk_d | with_reducible exact Dw.pk_own | with_reducible exact Dw.pks_nil | with_reducible exact Dw.frz_d | with_reducible exact Dw.frz_own | with_reducible exact Dw.frzs_nil | with_reducible exact Dw.tru_bl | with_reducible exact Dw.ev_skip | with_reducible exact Dw.len_lst | with_reducible exact Dw.len_tup | with_reducible exact Dw.eq_int | with_reducible exact Dw.ne_int | with_reducible exact Dw.eq_str | with_reducible exact Dw.ne_str | with_reducible exact Dw.eq_bl | with_reducible exact Dw.ne_bl | with_reducible exact Dw.lt_int' | with_reducible exact Dw.lt_str' | with_reducible exact Dw.le_int' | with_reducible exact Dw.gt_int' | with_reducible exact Dw.ge_int' | with_reducible exact Dw.add_int' | with_reducible exact Dw.sub_int' | with_reducible exact Dw.neg_int' | with_reducible exact Dw.ord_str | with_reducible exact Dw.int_int | with_reducible exact Dw.int_bl | with_reducible exact Dw.list_lst | with_reducible exact Dw.list_tup | with_reducible exact Dw.tup_lst | with_reducible exact Dw.tup_tup | with_reducible exact Dw.it_lst | with_reducible exact Dw.it_tup | with_reducible exact Dw.it_str | ((with_reducible apply Dw.ev_var); exact rfl) | ((with_reducible apply Dw.ev_varO); exact rfl) | ((with_reducible apply Dw.pk_cv); exact rfl) | ((with_reducible apply Dw.fs_ok); exact rfl) | ((with_reducible apply Dw.gE); exact rfl) | with_reducible apply Dw.ev_two | with_reducible apply Dw.ev_one | with_reducible apply Dw.ev_cons | with_reducible apply Dw.pks_cons | with_reducible apply Dw.ev_callE | with_reducible apply Dw.ev_isi | with_reducible apply Dw.frzs_cons | with_reducible apply Dw.ev_tup | with_reducible apply Dw.ev_lst | with_reducible apply Dw.ev_not | with_reducible apply Dw.ev_met | with_reducible apply Dw.ev_mut | with_reducible apply Dw.ev_ret | with_reducible apply Dw.ev_expr | with_reducible apply Dw.ev_asg | with_reducible apply Dw.ev_args | with_reducible apply Dw.ev_src | with_reducible apply Dw.ev_callD | with_reducible apply Dw.mapd_c | with_reducible apply Dw.mapd_d | with_reducible apply Dw.set_s | with_reducible apply Dw.st_d | with_reducible apply Dw.st_own | with_reducible apply Dw.st_cv | with_reducible apply Dw.frz_cv | ((with_reducible apply Dw.len_str); assumption) | ((with_reducible apply Dw.get_str) <;> assumption) | with_reducible assumption)
      refine ⟨[.own true (.lst (dI l0)), .d (.int v), .d (.lst (sL N)), .own false (.lst (K.map kD)), .d (.str x)], [.own true (.lst (dI l5)), .d (.int v), .d (.lst (sL N)), .own false (.lst ((K ++ [x :: ns]).map kD)), .d (.str x)], putT_nm q3 rfl, .inl ?_, K ++ [x :: ns], l5, .d (.str x), by rw [List.length_append, List.length_singleton, q1], ?_, rfl, rfl⟩
      · unfold l_ulawukinds_1
        repeat' (first | with_reducible exact e2 | with_reducible exact a1 | with_reducible exact Dw.ty_str | with_reducible exact Dw.ty_lst | with_reducible exact Dw.lst_eq | with_reducible exact Dw.set_z | with_reducible exact Dw.ret_d | with_reducible exact Dw.ret_own | with_reducible exact Dw.mapd_nn | with_reducible exact Dw.ev_const | with_reducible exact Dw.ev_nil | with_reducible exact Dw.pk_d | with_reducible exact Dw.pk_own | with_reducible exact Dw.pks_nil | with_reducible exact Dw.frz_d | with_reducible exact Dw.frz_own | with_reducible exact Dw.frzs_nil | with_reducible exact Dw.tru_bl | with_reducible exact Dw.ev_skip | with_reducible exact Dw.len_lst | with_reducible exact Dw.len_tup | with_reducible exact Dw.eq_int | with_reducible exact Dw.ne_int | with_reducible exact Dw.eq_str | with_reducible exact Dw.ne_str | with_reducible exact Dw.eq_bl | with_reducible exact Dw.ne_bl | with_reducible exact Dw.lt_int' | with_reducible exact Dw.lt_str' | with_reducible exact Dw.le_int' | with_reducible exact Dw.gt_int' | with_reducible exact Dw.ge_int' | with_reducible exact Dw.add_int' | with_reducible exact Dw.sub_int' | with_reducible exact Dw.neg_int' | with_reducible exact Dw.ord_str | with_reducible exact Dw.int_int | with_reducible exact Dw.int_bl | with_reducible exact Dw.list_lst | with_reducible exact Dw.list_tup | with_reducible exact Dw.tup_lst | with_reducible exact Dw.tup_tup | with_reducible exact Dw.it_lst | with_reducible exact Dw.it_tup | with_reducible exact Dw.it_str | ((with_reducible apply Dw.ev_var); exact rfl) | ((with_reducible apply Dw.ev_varO); exact rfl) | ((with_reducible apply Dw.pk_cv); exact rfl) | ((with_reducible apply Dw.fs_ok); exact rfl) | ((with_reducible apply Dw.gE); exact rfl) | with_reducible apply Dw.ev_two | with_reducible apply Dw.ev_one | with_reducible apply Dw.ev_cons | with_reducible apply Dw.pks_cons | with_reducible apply Dw.ev_callE | with_reducible apply Dw.ev_isi | with_reducible apply Dw.frzs_cons | with_reducible apply Dw.ev_tup | with_reducible apply Dw.ev_lst | with_reducible apply Dw.ev_not | with_reducible apply Dw.ev_met | with_reducible apply Dw.ev_mut | with_reducible apply Dw.ev_ret | with_reducible apply Dw.ev_expr | with_reducible apply Dw.ev_asg | with_reducible apply Dw.ev_args | with_reducible apply Dw.ev_src | with_reducible apply Dw.ev_callD | with_reducible apply Dw.mapd_c | with_reducible apply Dw.mapd_d | with_reducible apply Dw.set_s | with_reducible apply Dw.st_d | with_reducible apply Dw.st_own | with_reducible apply Dw.st_cv | with_reducible apply Dw.frz_cv | ((with_reducible apply Dw.len_str); assumption) | ((with_reducible apply Dw.get_str) <;> assumption) | with_reducible assumption)
      · intro i kk hi
        by_cases hik : i < K.length
        · rw [List.getElem?_append_left hik] at hi
          exact q2 i kk hi
        · rw [List.getElem?_append_right (by omega)] at hi
          have h0 : i - K.length = 0 := by
            have := (List.getElem?_eq_some_iff.mp hi).1
            rw [List.length_singleton] at this
            omega
          rw [h0] at hi
          cases hi
          refine ⟨⟨x, by rw [show i = k by omega]; exact hx, rfl⟩, by simp, by rw [List.length_cons]; omega, fun y hy => ?_⟩
          rcases List.mem_cons.mp hy with rfl | hy
          · exact Nok _ hxm
          · exact (m2 y hy).1)
  rw [show (sL N).length = N.length from List.length_map .., Nlen] at r2
  have hd : ∀ i, i < K.length → N[i]? = some (hdn K i) := by
    intro i hi
    obtain ⟨⟨x, hx, he⟩, _⟩ := r3 i K[i] (List.getElem?_eq_getElem hi)
    unfold hdn
    rw [List.getD_eq_getElem?_getD, List.getElem?_eq_getElem hi, Option.getD_some, he]
    exact hx
  have all : ∀ kk ∈ K, 1 ≤ kk.length ∧ kk.length ≤ 4 ∧ ∀ x ∈ kk, okNm x := by
    intro kk hk
    obtain ⟨i, hi, rfl⟩ := List.mem_iff_getElem.mp hk
    exact (r3 i K[i] (List.getElem?_eq_getElem hi)).2
  refine ⟨l3, K, ⟨by omega, by omega, fun k hk => (all k hk).1, fun k hk => (all k hk).2.1, fun k hk => (all k hk).2.2, ?_, fun i j hi hj e => ?_⟩, defM_rt (a := .cv 3) (env := [.own true (.lst (dI l3)), .d (.int v), .d (.lst (sL N)), .own false (.lst (K.map kD)), w4]) [.own true (.lst (dI ls)), .un, .un, .un, .un] rfl rfl ?_ rfl rfl⟩
  · have := hd 0 (by omega)
    rw [N0] at this
    exact (Option.some.inj this).symm
  · have e1 := hd i hi
    have e2 := hd j hj
    rw [← e] at e2
    exact Ndis i j _ e1 e2
  unfold b_ulawukinds
  refine ev_seq2 (env1 := [.own true (.lst (dI l1)), .d (.int v), .un, .un, .un]) (ev_asg t1 (st_d rfl rfl)) (ev_seq2 s2 ?_)
  refine ev_seq2 (env1 := [.own true (.lst (dI l2)), .d (.int v), .own false (.lst (sL N)), .own false (.lst []), .un]) (by repeat' (first | exact Nat.zero_le _ | with_reducible exact Dw.ty_str | with_reducible exact Dw.ty_lst | with_reducible exact Dw.lst_eq | with_reducible exact Dw.set_z | with_reducible exact Dw.ret_d | with_reducible exact Dw.ret_own | with_reducible exact Dw.mapd_nn | with_reducible exact Dw.ev_const | with_reducible exact Dw.ev_nil | with_reducible exact Dw.pk_d | with_reducible exact Dw.pk_own | with_reducible exact Dw.pks_nil | with_reducible exact Dw.frz_d | with_reducible exact Dw.frz_own | with_reducible exact Dw.frzs_nil | with_reducible exact Dw.tru_bl | with_reducible exact Dw.ev_skip | with_reducible exact Dw.len_lst | with_reducible exact Dw.len_tup | with_reducible exact Dw.eq_int | with_reducible exact Dw.ne_int | with_reducible exact Dw.eq_str | with_reducible exact Dw.ne_str | with_reducible exact Dw.eq_bl | with_reducible exact Dw.ne_bl | with_reducible exact Dw.lt_int' | with_reducible exact Dw.lt_str' | with_reducible exact Dw.le_int' | with_reducible exact Dw.gt_int' | with_reducible exact Dw.ge_int' | with_reducible exact Dw.add_int' | with_reducible exact Dw.sub_int' | with_reducible exact Dw.neg_int' | with_reducible exact Dw.ord_str | with_reducible exact Dw.int_int | with_reducible exact Dw.int_bl | with_reducible exact Dw.list_lst | with_reducible exact Dw.list_tup | with_reducible exact Dw.tup_lst | with_reducible exact Dw.tup_tup | with_reducible exact Dw.it_lst | with_reducible exact Dw.it_tup | with_reducible exact Dw.it_str | ((with_reducible apply Dw.ev_var); exact rfl) | ((with_reducible apply Dw.ev_varO); exact rfl) | ((with_reducible apply Dw.pk_cv); exact rfl) | ((with_reducible apply Dw.fs_ok); exact rfl) | ((with_reducible apply Dw.gE); exact rfl) | with_reducible apply Dw.ev_two | with_reducible apply Dw.ev_one | with_reducible apply Dw.ev_cons | with_reducible apply Dw.pks_cons | with_reducible apply Dw.ev_callE | with_reducible apply Dw.ev_isi | with_reducible apply Dw.frzs_cons | with_reducible apply Dw.ev_tup | with_reducible apply Dw.ev_lst | with_reducible apply Dw.ev_not | with_reducible apply Dw.ev_met | with_reducible apply Dw.ev_mut | with_reducible apply Dw.ev_ret | with_reducible apply Dw.ev_expr | with_reducible apply Dw.ev_asg | with_reducible apply Dw.ev_args | with_reducible apply Dw.ev_src | with_reducible apply Dw.ev_callD | with_reducible apply Dw.mapd_c | with_reducible apply Dw.mapd_d | with_reducible apply Dw.set_s | with_reducible apply Dw.st_d | with_reducible apply Dw.st_own | with_reducible apply Dw.st_cv | with_reducible apply Dw.frz_cv | ((with_reducible apply Dw.len_str); assumption) | ((with_reducible apply Dw.get_str) <;> assumption) | with_reducible assumption)) ?_
  refine ev_seq2 (env1 := [.own true (.lst (dI l3)), .d (.int v), .d (.lst (sL N)), .own false (.lst (K.map kD)), w4]) ?_ (ev_ret (ev_varO rfl))
  rw [ev_for (xs := sL N) (env1 := [.own true (.lst (dI l2)), .d (.int v), .d (.lst (sL N)), .own false (.lst []), .un]) (ev_src (x := .lst (sL N)) (ev_varO rfl) (frz_cv rfl rfl) rfl)]
  exact r1
/-! ### a request -/
theorem kind_at {K : List Kd} (hK : okK K) {n : Nat} (h : n < K.length) : 1 ≤ (K.getD n []).length ∧ (K.getD n []).length ≤ 4 := by
  have hm : K.getD n [] ∈ K := by rw [List.getD_eq_getElem?_getD, List.getElem?_eq_getElem h]; exact List.getElem_mem h
  exact ⟨hK.l0 _ hm, hK.l1 _ hm⟩
theorem ev_request {K : List Kd} (hK : okK K) (ls : List Int) : ∃ ls' : List Int, ∃ q, okR K 36 q ∧ m_ulawurequest [.d (ksD K), .own true (.lst (dI ls))] = some (.ok (.d (rqD K q)) [.d (ksD K), .own true (.lst (dI ls'))]) := by
  have hlK : lenD [ksD K] = some (.d (.int K.length)) := by
    show some (RV.d (.int ((K.map kD).length : Nat))) = _
    rw [List.length_map]
  obtain ⟨l1, n, n1, t1⟩ := take_at (env := [.d (ksD K), .own true (.lst (dI ls)), .un, .un, .un]) (env' := []) (i := 1) (n := K.length) (fb := callE lenD (consA (varE 0) nilA)) hK.n0 rfl (by repeat' (first | with_reducible exact hlK | with_reducible exact Dw.ty_str | with_reducible exact Dw.ty_lst | with_reducible exact Dw.lst_eq | with_reducible exact Dw.set_z | with_reducible exact Dw.ret_d | with_reducible exact Dw.ret_own | with_reducible exact Dw.mapd_nn | with_reducible exact Dw.ev_const | with_reducible exact Dw.ev_nil | with_reducible exact Dw.pk_d | with_reducible exact Dw.pk_own | with_reducible exact Dw.pks_nil | with_reducible exact Dw.frz_d | with_reducible exact Dw.frz_own | with_reducible exact Dw.frzs_nil | with_reducible exact Dw.tru_bl | with_reducible exact Dw.ev_skip | with_reducible exact Dw.len_lst | with_reducible exact Dw.len_tup | with_reducible exact Dw.eq_int | with_reducible exact Dw.ne_int | with_reducible exact Dw.eq_str | with_reducible exact Dw.ne_str | with_reducible exact Dw.eq_bl | with_reducible exact Dw.ne_bl | with_reducible exact Dw.lt_int' | with_reducible exact Dw.lt_str' | with_reducible exact Dw.le_int' | with_reducible exact Dw.gt_int' | with_reducible exact Dw.ge_int' | with_reducible exact Dw.add_int' | with_reducible exact Dw.sub_int' | with_reducible exact Dw.neg_int' | with_reducible exact Dw.ord_str | with_reducible exact Dw.int_int | with_reducible exact Dw.int_bl | with_reducible exact Dw.list_lst | with_reducible exact Dw.list_tup | with_reducible exact Dw.tup_lst | with_reducible exact Dw.tup_tup | with_reducible exact Dw.it_lst | with_reducible exact Dw.it_tup | with_reducible exact Dw.it_str | ((with_reducible apply Dw.ev_var); exact rfl) | ((with_reducible apply Dw.ev_varO); exact rfl) | ((with_reducible apply Dw.pk_cv); exact rfl) | ((with_reducible apply Dw.fs_ok); exact rfl) | ((with_reducible apply Dw.gE); exact rfl) | with_reducible apply Dw.ev_two | with_reducible apply Dw.ev_one | with_reducible apply Dw.ev_cons | with_reducible apply Dw.pks_cons | with_reducible apply Dw.ev_callE | with_reducible apply Dw.ev_isi | with_reducible apply Dw.frzs_cons | with_reducible apply Dw.ev_tup | with_reducible apply Dw.ev_lst | with_reducible apply Dw.ev_not | with_reducible apply Dw.ev_met | with_reducible apply Dw.ev_mut | with_reducible apply Dw.ev_ret | with_reducible apply Dw.ev_expr | with_reducible apply Dw.ev_asg | with_reducible apply Dw.ev_args | with_reducible apply Dw.ev_src | with_reducible apply Dw.ev_callD | with_reducible apply Dw.mapd_c | with_reducible apply Dw.mapd_d | with_reducible apply Dw.set_s | with_reducible apply Dw.st_d | with_reducible apply Dw.st_own | with_reducible apply Dw.st_cv | with_reducible apply Dw.frz_cv | ((with_reducible apply Dw.len_str); assumption) | ((with_reducible apply Dw.get_str) <;> assumption) | with_reducible assumption))
  have gk := get_kind n1
  obtain ⟨k1, k2⟩ := kind_at hK n1
  have hlk : lenD [kD (K.getD n [])] = some (.d (.int (K.getD n []).length)) := by
    show some (RV.d (.int (((K.getD n []).map D.str).length : Nat))) = _
    rw [List.length_map]
  have sb : subD (.int ((K.getD n []).length : Nat)) (.int 1) = some (.d (.int (((K.getD n []).length - 1 : Nat) : Int))) := by
    rw [Dw.sub_int']
    congr 3
    omega
  have gh := get_head hK n1
  generalize hm : (K.getD n []).length - 1 = m at sb
  obtain ⟨vs, env', c1, ⟨l2, q2, rfl⟩, c3⟩ := comp_inv (vs := [4]) (tg := .nm 4) (fe := e_ulawurequest_1) ((List.range m).map fun i => .int (i : Nat)) []
    (fun acc env => ∃ ls : List Int, (∀ v ∈ acc, isVal 36 v) ∧ env = [.d (ksD K), .own true (.lst (dI ls)), .d (.int n), .un, .un]) [.d (ksD K), .own true (.lst (dI l1)), .d (.int n), .un, .un] ⟨l1, by simp, rfl⟩ (by
      rintro x acc env hx ⟨l0, q1, rfl⟩
      obtain ⟨l3, y, y1, y2⟩ := call_at (P := isVal 36) ev_value (env := [.d (ksD K), .own true (.lst (dI l0)), .d (.int n), .un, .d x]) (i := 1) rfl
      refine ⟨[.d (ksD K), .own true (.lst (dI l0)), .d (.int n), .un, .d x], .d y, [.d (ksD K), .own true (.lst (dI l3)), .d (.int n), .un, .d x], y, [.d (ksD K), .own true (.lst (dI l3)), .d (.int n), .un, .d x], putT_nm rfl rfl, y2, rfl, l3, ?_, rfl⟩
      intro v hv
      rcases List.mem_append.mp hv with hv | hv
      · exact q1 v hv
      · rw [List.mem_singleton] at hv; subst hv; exact y1) (by simp; omega)
  have vl : vs.length = m := by simpa using c3
  have e1 : compE [4] (argsI rng1 (consA (two (op2 subD) (callE lenD (consA (two (op2 getD) (varE 0) (varE 2)) nilA)) (constE (.int 1))) nilA)) (.nm 4) none e_ulawurequest_1 [.d (ksD K), .own true (.lst (dI l1)), .d (.int n), .un, .un] = some (.ok (.own (.lst vs)) [.d (ksD K), .own true (.lst (dI l2)), .d (.int n), .un, .un]) :=
    ev_comp (env1 := [.d (ksD K), .own true (.lst (dI l1)), .d (.int n), .un, .un]) (ev_args (as := [.d (.int m)]) (by repeat' (first | with_reducible exact gk | with_reducible exact hlk | with_reducible exact sb | with_reducible exact Dw.ty_str | with_reducible exact Dw.ty_lst | with_reducible exact Dw.lst_eq | with_reducible exact Dw.set_z | with_reducible exact Dw.ret_d | with_reducible exact Dw.ret_own | with_reducible exact Dw.mapd_nn | with_reducible exact Dw.ev_const | with_reducible exact Dw.ev_nil | with_reducible exact Dw.pk_d | with_reducible exact Dw.pk_own | with_reducible exact Dw.pks_nil | with_reducible exact Dw.frz_d | with_reducible exact Dw.frz_own | with_reducible exact Dw.frzs_nil | with_reducible exact Dw.tru_bl | with_reducible exact Dw.ev_skip | with_reducible exact Dw.len_lst | with_reducible exact Dw.len_tup | with_reducible exact Dw.eq_int | with_reducible exact Dw.ne_int | with_reducible exact Dw.eq_str | with_reducible exact Dw.ne_str | with_reducible exact Dw.eq_bl | with_reducible exact Dw.ne_bl | with_reducible exact Dw.lt_int' | with_reducible exact Dw.lt_str' | with_reducible exact Dw.le_int' | with_reducible exact Dw.gt_int' | with_reducible exact Dw.ge_int' | with_reducible exact Dw.add_int' | with_reducible exact Dw.sub_int' | with_reducible exact Dw.neg_int' | with_reducible exact Dw.ord_str | with_reducible exact Dw.int_int | with_reducible exact Dw.int_bl | with_reducible exact Dw.list_lst | with_reducible exact Dw.list_tup | with_reducible exact Dw.tup_lst | with_reducible exact Dw.tup_tup | with_reducible exact Dw.it_lst | with_reducible exact Dw.it_tup | with_reducible exact Dw.it_str | ((with_reducible apply Dw.ev_var); exact rfl) | ((with_reducible apply Dw.ev_varO); exact rfl) | ((with_reducible apply Dw.pk_cv); exact rfl) | ((with_reducible apply Dw.fs_ok); exact rfl) | ((with_reducible apply Dw.gE); exact rfl) | with_reducible apply Dw.ev_two | with_reducible apply Dw.ev_one | with_reducible apply Dw.ev_cons | with_reducible apply Dw.pks_cons | with_reducible apply Dw.ev_callE | with_reducible apply Dw.ev_isi | with_reducible apply Dw.frzs_cons | with_reducible apply Dw.ev_tup | with_reducible apply Dw.ev_lst | with_reducible apply Dw.ev_not | with_reducible apply Dw.ev_met | with_reducible apply Dw.ev_mut | with_reducible apply Dw.ev_ret | with_reducible apply Dw.ev_expr | with_reducible apply Dw.ev_asg | with_reducible apply Dw.ev_args | with_reducible apply Dw.ev_src | with_reducible apply Dw.ev_callD | with_reducible apply Dw.mapd_c | with_reducible apply Dw.mapd_d | with_reducible apply Dw.set_s | with_reducible apply Dw.st_d | with_reducible apply Dw.st_own | with_reducible apply Dw.st_cv | with_reducible apply Dw.frz_cv | ((with_reducible apply Dw.len_str); assumption) | ((with_reducible apply Dw.get_str) <;> assumption) | with_reducible assumption)) rfl (rng1_nat (by omega))) c1 rfl
  have b2 : asgS 2 (callM 0 m_ulawutake [] (consA (varE 1) (consA (callE lenD (consA (varE 0) nilA)) nilA))) [.d (ksD K), .own true (.lst (dI ls)), .un, .un, .un] = some (.nx [.d (ksD K), .own true (.lst (dI l1)), .d (.int n), .un, .un]) := ev_asg t1 (st_d rfl rfl)
  have b3 := ev_asg (i := 3) e1 (st_own (env2 := [.d (ksD K), .own true (.lst (dI l2)), .d (.int n), .own false (.lst vs), .un]) rfl rfl)
  have c4 : two (op2 eqD) (varE 2) (constE (.int 0)) [.d (ksD K), .own true (.lst (dI l2)), .d (.int n), .own false (.lst vs), .un] = some (.ok (.d (.bl ((n : Int) == 0))) [.d (ksD K), .own true (.lst (dI l2)), .d (.int n), .own false (.lst vs), .un]) := by repeat' (first  | with_reducible exact Dw.ty_str | with_reducible exact Dw.ty_lst | with_reducible exact Dw.lst_eq | with_reducible exact Dw.set_z | with_reducible exact Dw.ret_d | with_reducible exact Dw.ret_own | with_reducible exact Dw.mapd_nn | with_reducible exact Dw.ev_const | with_reducible exact Dw.ev_nil | with_reducible exact Dw.pk_d | with_reducible exact Dw.pk_own | with_reducible exact Dw.pks_nil | with_reducible exact Dw.frz_d | with_reducible exact Dw.frz_own | with_reducible exact Dw.frzs_nil | with_reducible exact Dw.tru_bl | with_reducible exact Dw.ev_skip | with_reducible exact Dw.len_lst | with_reducible exact Dw.len_tup | with_reducible exact Dw.eq_int | with_reducible exact Dw.ne_int | with_reducible exact Dw.eq_str | with_reducible exact Dw.ne_str | with_reducible exact Dw.eq_bl | with_reducible exact Dw.ne_bl | with_reducible exact Dw.lt_int' | with_reducible exact Dw.lt_str' | with_reducible exact Dw.le_int' | with_reducible exact Dw.gt_int' | with_reducible exact Dw.ge_int' | with_reducible exact Dw.add_int' | with_reducible exact Dw.sub_int' | with_reducible exact Dw.neg_int' | with_reducible exact Dw.ord_str | with_reducible exact Dw.int_int | with_reducible exact Dw.int_bl | with_reducible exact Dw.list_lst | with_reducible exact Dw.list_tup | with_reducible exact Dw.tup_lst | with_reducible exact Dw.tup_tup | with_reducible exact Dw.it_lst | with_reducible exact Dw.it_tup | with_reducible exact Dw.it_str | ((with_reducible apply Dw.ev_var); exact rfl) | ((with_reducible apply Dw.ev_varO); exact rfl) | ((with_reducible apply Dw.pk_cv); exact rfl) | ((with_reducible apply Dw.fs_ok); exact rfl) | ((with_reducible apply Dw.gE); exact rfl) | with_reducible apply Dw.ev_two | with_reducible apply Dw.ev_one | with_reducible apply Dw.ev_cons | with_reducible apply Dw.pks_cons | with_reducible apply Dw.ev_callE | with_reducible apply Dw.ev_isi | with_reducible apply Dw.frzs_cons | with_reducible apply Dw.ev_tup | with_reducible apply Dw.ev_lst | with_reducible apply Dw.ev_not | with_reducible apply Dw.ev_met | with_reducible apply Dw.ev_mut | with_reducible apply Dw.ev_ret | with_reducible apply Dw.ev_expr | with_reducible apply Dw.ev_asg | with_reducible apply Dw.ev_args | with_reducible apply Dw.ev_src | with_reducible apply Dw.ev_callD | with_reducible apply Dw.mapd_c | with_reducible apply Dw.mapd_d | with_reducible apply Dw.set_s | with_reducible apply Dw.st_d | with_reducible apply Dw.st_own | with_reducible apply Dw.st_cv | with_reducible apply Dw.frz_cv | ((with_reducible apply Dw.len_str); assumption) | ((with_reducible apply Dw.get_str) <;> assumption) | with_reducible assumption)
  by_cases h0 : n = 0
  · have : ((n : Int) == 0) = true := by rw [h0]; rfl
    rw [this] at c4
    have ad : addD (.lst [.str kNew]) (.lst vs) = some (.own (.lst (.str kNew :: vs))) := add_lst (by rw [List.length_singleton]; omega)
    have e4 : two (op2 addD) (lstE (consA (constE (.str [110, 101, 119])) nilA)) (varE 3) [.d (ksD K), .own true (.lst (dI l2)), .d (.int n), .own false (.lst vs), .un] = some (.ok (.own (.lst (.str kNew :: vs))) [.d (ksD K), .own true (.lst (dI l2)), .d (.int n), .own false (.lst vs), .un]) :=
      ev_two (a := .own (.lst [.str kNew])) (ev_lst (ev_cons ev_const ev_nil) (frzs_cons frz_d frzs_nil) (show 1 ≤ 100000 by decide)) (ev_varO rfl) pk_own (pk_cv rfl) ad
    refine ⟨l2, ⟨n, 0, vs⟩, ⟨n1, by show vs.length + 1 = (K.getD n []).length; omega, q2⟩, ?_⟩
    have er : rqD K ⟨n, 0, vs⟩ = .tup (.str kNew :: vs) := if_pos h0
    rw [er]
    refine defM_rt (a := .d (.tup (.str kNew :: vs))) (env := [.d (ksD K), .own true (.lst (dI l2)), .d (.int n), .own false (.lst vs), .un]) [.d (ksD K), .own true (.lst (dI ls)), .un, .un, .un] rfl rfl ?_ rfl rfl
    unfold b_ulawurequest
    exact ev_seq2 b2 (ev_seq2 b3 (ev_seq_rt (ev_iteT c4 rfl (by repeat' (first | with_reducible exact e4 | with_reducible exact Dw.ty_str | with_reducible exact Dw.ty_lst | with_reducible exact Dw.lst_eq | with_reducible exact Dw.set_z | with_reducible exact Dw.ret_d | with_reducible exact Dw.ret_own | with_reducible exact Dw.mapd_nn | with_reducible exact Dw.ev_const | with_reducible exact Dw.ev_nil | with_reducible exact Dw.pk_d | with_reducible exact Dw.pk_own | with_reducible exact Dw.pks_nil | with_reducible exact Dw.frz_d | with_reducible exact Dw.frz_own | with_reducible exact Dw.frzs_nil | with_reducible exact Dw.tru_bl | with_reducible exact Dw.ev_skip | with_reducible exact Dw.len_lst | with_reducible exact Dw.len_tup | with_reducible exact Dw.eq_int | with_reducible exact Dw.ne_int | with_reducible exact Dw.eq_str | with_reducible exact Dw.ne_str | with_reducible exact Dw.eq_bl | with_reducible exact Dw.ne_bl | with_reducible exact Dw.lt_int' | with_reducible exact Dw.lt_str' | with_reducible exact Dw.le_int' | with_reducible exact Dw.gt_int' | with_reducible exact Dw.ge_int' | with_reducible exact Dw.add_int' | with_reducible exact Dw.sub_int' | with_reducible exact Dw.neg_int' | with_reducible exact Dw.ord_str | with_reducible exact Dw.int_int | with_reducible exact Dw.int_bl | with_reducible exact Dw.list_lst | with_reducible exact Dw.list_tup | with_reducible exact Dw.tup_lst | with_reducible exact Dw.tup_tup | with_reducible exact Dw.it_lst | with_reducible exact Dw.it_tup | with_reducible exact Dw.it_str | ((with_reducible apply Dw.ev_var); exact rfl) | ((with_reducible apply Dw.ev_varO); exact rfl) | ((with_reducible apply Dw.pk_cv); exact rfl) | ((with_reducible apply Dw.fs_ok); exact rfl) | ((with_reducible apply Dw.gE); exact rfl) | with_reducible apply Dw.ev_two | with_reducible apply Dw.ev_one | with_reducible apply Dw.ev_cons | with_reducible apply Dw.pks_cons | with_reducible apply Dw.ev_callE | with_reducible apply Dw.ev_isi | with_reducible apply Dw.frzs_cons | with_reducible apply Dw.ev_tup | with_reducible apply Dw.ev_lst | with_reducible apply Dw.ev_not | with_reducible apply Dw.ev_met | with_reducible apply Dw.ev_mut | with_reducible apply Dw.ev_ret | with_reducible apply Dw.ev_expr | with_reducible apply Dw.ev_asg | with_reducible apply Dw.ev_args | with_reducible apply Dw.ev_src | with_reducible apply Dw.ev_callD | with_reducible apply Dw.mapd_c | with_reducible apply Dw.mapd_d | with_reducible apply Dw.set_s | with_reducible apply Dw.st_d | with_reducible apply Dw.st_own | with_reducible apply Dw.st_cv | with_reducible apply Dw.frz_cv | ((with_reducible apply Dw.len_str); assumption) | ((with_reducible apply Dw.get_str) <;> assumption) | with_reducible assumption)))))
  · have : ((n : Int) == 0) = false := by rw [beq_eq_false_iff_ne]; omega
    rw [this] at c4
    obtain ⟨l3, i, ⟨z, rfl⟩, i2⟩ := call_at (P := isInt) ev_id (env := [.d (ksD K), .own true (.lst (dI l2)), .d (.int n), .own false (.lst vs), .un]) (i := 1) rfl
    have ad : addD (.lst [.int z, .str (hdn K n)]) (.lst vs) = some (.own (.lst (.int z :: .str (hdn K n) :: vs))) := add_lst (by rw [List.length_cons, List.length_singleton]; omega)
    have g2 : two (op2 getD) (two (op2 getD) (varE 0) (varE 2)) (constE (.int 0)) [.d (ksD K), .own true (.lst (dI l3)), .d (.int n), .own false (.lst vs), .un] = some (.ok (.d (.str (hdn K n))) [.d (ksD K), .own true (.lst (dI l3)), .d (.int n), .own false (.lst vs), .un]) := ev_two (ev_two (ev_var rfl) (ev_var rfl) pk_d pk_d gk) ev_const pk_d pk_d gh
    have e4 : two (op2 addD) (lstE (consA (callM 0 m_ulawuid [] (consA (varE 1) nilA)) (consA (two (op2 getD) (two (op2 getD) (varE 0) (varE 2)) (constE (.int 0))) nilA))) (varE 3) [.d (ksD K), .own true (.lst (dI l2)), .d (.int n), .own false (.lst vs), .un] = some (.ok (.own (.lst (.int z :: .str (hdn K n) :: vs))) [.d (ksD K), .own true (.lst (dI l3)), .d (.int n), .own false (.lst vs), .un]) :=
      ev_two (a := .own (.lst [.int z, .str (hdn K n)])) (ev_lst (ev_cons i2 (ev_cons g2 ev_nil)) (frzs_cons frz_d (frzs_cons frz_d frzs_nil)) (show 2 ≤ 100000 by decide)) (ev_varO rfl) pk_own (pk_cv rfl) ad
    refine ⟨l3, ⟨n, z, vs⟩, ⟨n1, by show vs.length + 1 = (K.getD n []).length; omega, q2⟩, ?_⟩
    have er : rqD K ⟨n, z, vs⟩ = .tup (.int z :: .str (hdn K n) :: vs) := if_neg h0
    rw [er]
    refine defM_rt (a := .d (.tup (.int z :: .str (hdn K n) :: vs))) (env := [.d (ksD K), .own true (.lst (dI l3)), .d (.int n), .own false (.lst vs), .un]) [.d (ksD K), .own true (.lst (dI ls)), .un, .un, .un] rfl rfl ?_ rfl rfl
    unfold b_ulawurequest
    exact ev_seq2 b2 (ev_seq2 b3 (ev_seq2 (ev_iteF c4 rfl ev_skip) (by repeat' (first | with_reducible exact e4 | with_reducible exact Dw.ty_str | with_reducible exact Dw.ty_lst | with_reducible exact Dw.lst_eq | with_reducible exact Dw.set_z | with_reducible exact Dw.ret_d | with_reducible exact Dw.ret_own | with_reducible exact Dw.mapd_nn | with_reducible exact Dw.ev_const | with_reducible exact Dw.ev_nil | with_reducible exact Dw.pk_d | with_reducible exact Dw.pk_own | with_reducible exact Dw.pks_nil | with_reducible exact Dw.frz_d | with_reducible exact Dw.frz_own | with_reducible exact Dw.frzs_nil | with_reducible exact Dw.tru_bl | with_reducible exact Dw.ev_skip | with_reducible exact Dw.len_lst | with_reducible exact Dw.len_tup | with_reducible exact Dw.eq_int | with_reducible exact Dw.ne_int | with_reducible exact Dw.eq_str | with_reducible exact Dw.ne_str | with_reducible exact Dw.eq_bl | with_reducible exact Dw.ne_bl | with_reducible exact Dw.lt_int' | with_reducible exact Dw.lt_str' | with_reducible exact Dw.le_int' | with_reducible exact Dw.gt_int' | with_reducible exact Dw.ge_int' | with_reducible exact Dw.add_int' | with_reducible exact Dw.sub_int' | with_reducible exact Dw.neg_int' | with_reducible exact Dw.ord_str | with_reducible exact Dw.int_int | with_reducible exact Dw.int_bl | with_reducible exact Dw.list_lst | with_reducible exact Dw.list_tup | with_reducible exact Dw.tup_lst | with_reducible exact Dw.tup_tup | with_reducible exact Dw.it_lst | with_reducible exact Dw.it_tup | with_reducible exact Dw.it_str | ((with_reducible apply Dw.ev_var); exact rfl) | ((with_reducible apply Dw.ev_varO); exact rfl) | ((with_reducible apply Dw.pk_cv); exact rfl) | ((with_reducible apply Dw.fs_ok); exact rfl) | ((with_reducible apply Dw.gE); exact rfl) | with_reducible apply Dw.ev_two | with_reducible apply Dw.ev_one | with_reducible apply Dw.ev_cons | with_reducible apply Dw.pks_cons | with_reducible apply Dw.ev_callE | with_reducible apply Dw.ev_isi | with_reducible apply Dw.frzs_cons | with_reducible apply Dw.ev_tup | with_reducible apply Dw.ev_lst | with_reducible apply Dw.ev_not | with_reducible apply Dw.ev_met | with_reducible apply Dw.ev_mut | with_reducible apply Dw.ev_ret | with_reducible apply Dw.ev_expr | with_reducible apply Dw.ev_asg | with_reducible apply Dw.ev_args | with_reducible apply Dw.ev_src | with_reducible apply Dw.ev_callD | with_reducible apply Dw.mapd_c | with_reducible apply Dw.mapd_d | with_reducible apply Dw.set_s | with_reducible apply Dw.st_d | with_reducible apply Dw.st_own | with_reducible apply Dw.st_cv | with_reducible apply Dw.frz_cv | ((with_reducible apply Dw.len_str); assumption) | ((with_reducible apply Dw.get_str) <;> assumption) | with_reducible assumption))))
end
end P_talkalike_k19_order_of_talks
namespace P_talkalike_k19_order_of_talks
noncomputable section
open PySem PySem.Spec PyProof.Rows L2 Dw
theorem ix_nat {n j : Nat} (h : j < n) : ixN n (j : Int) = some j := by
  unfold ixN
  rw [if_pos (Int.natCast_nonneg j), if_pos (by omega)]
  rfl
/-- a request is drawn, called from outside -/
theorem call_rq {K : List Kd} (hK : okK K) {env env1 : Sl} {i j : Nat} {a : RV} {t t0 : Bool} {c0 : C} {ls : List Int} (h0 : varE i env = some (.ok a env)) (hf : frz a env = some (ksD K, env1)) (hj0 : env[j]? = some (.own t0 c0)) (hj : env1[j]? = some (.own t (.lst (dI ls)))) :
    ∃ ls' : List Int, ∃ q, okR K 36 q ∧ callM 1 m_ulawurequest [] (consA (varE i) (consA (varE j) nilA)) env = some (.ok (.d (rqD K q)) (env1.set j (.own t (.lst (dI ls'))))) := by
  obtain ⟨l1, q, h1, h2⟩ := ev_request hK ls
  exact ⟨l1, q, h1, ev_callM (as := [a, .cv j]) (ev_cons h0 (ev_cons (ev_varO hj0) ev_nil)) rfl (xs := [ksD K, .non]) (frzs_cons hf (frzs_cons frz_d frzs_nil)) hj rfl h2 rfl rfl rfl⟩
theorem okR_up {K : List Kd} {q : Rq} (h : okR K 36 q) : okR K 80 q := ⟨h.n, h.l, fun v hv => val_up (h.v v hv)⟩
theorem set_ok {K : List Kd} {q : Rq} (h : okR K 36 q) {y : D} (hy : isVal 80 y) (p : Nat) : okR K 80 ⟨q.n, q.o, q.vs.set p y⟩ := by
  refine ⟨h.n, by show (q.vs.set p y).length + 1 = _; rw [List.length_set]; exact h.l, fun v hv => ?_⟩
  rcases List.mem_or_eq_of_mem_set hv with hv | rfl
  · exact val_up (h.v v hv)
  · exact hy
def Pok (L : Nat) (op : Bool) (P : List D) : Prop := ∀ x ∈ P, ∃ p : Nat, x = .int p ∧ p < L ∧ (op = true → 0 < p) ∧ (op = false → p ≠ 1)
theorem near_places {K : List Kd} {q : Rq} {op : Bool} {Its : List D} (hL : Its.length ≤ 10) {ls : List Int} : ∃ P : List D, P.length ≤ 10 ∧ Pok Its.length op P ∧
    seqS (asgS 5 (compE [7] (argsI rng1 (consA (callE lenD (consA (varE 3) nilA)) nilA)) (.nm 7) (some (orE (two (op2 gtD) (varE 7) (constE (.int 0))) (notE (varE 4)))) e_ulawunearurequest_1)) (iteS (notE (varE 4)) (asgS 5 (compE [7] (srcE (varE 5)) (.nm 7) (some (two (op2 neD) (varE 7) (constE (.int 1)))) e_ulawunearurequest_2)) skipS)
      [.d (ksD K), .d (rqD K q), .own true (.lst (dI ls)), .own false (.lst Its), .d (.bl op), .un, .un, .un] = some (.nx [.d (ksD K), .d (rqD K q), .own true (.lst (dI ls)), .own false (.lst Its), .d (.bl op), .own false (.lst P), .un, .un]) := by
  have lenP : ∀ c : D → Bool, (((List.range Its.length).map fun i => D.int (i : Nat)).filter c).length ≤ 10 := fun c => by
    have := List.length_filter_le c ((List.range Its.length).map fun i => D.int (i : Nat))
    rw [List.length_map, List.length_range] at this
    omega
  have c1 : compD [7] (.nm 7) (some (orE (two (op2 gtD) (varE 7) (constE (.int 0))) (notE (varE 4)))) e_ulawunearurequest_1 ((List.range Its.length).map fun i => .int (i : Nat)) [] [.d (ksD K), .d (rqD K q), .own true (.lst (dI ls)), .own false (.lst Its), .d (.bl op), .un, .un, .un] = some ([] ++ ((((List.range Its.length).map fun i => D.int (i : Nat)).filter fun x => match x with | .int k => decide (0 < k) || !op | _ => false).map id), [.d (ksD K), .d (rqD K q), .own true (.lst (dI ls)), .own false (.lst Its), .d (.bl op), .un, .un, .un]) :=
    comp_if _ id _ [] (fun x hx => by
      obtain ⟨i, hi, rfl⟩ := List.mem_map.mp hx
      refine ⟨[.d (ksD K), .d (rqD K q), .own true (.lst (dI ls)), .own false (.lst Its), .d (.bl op), .un, .un, .d (.int i)], .d (.bl (decide ((0 : Int) < i) || !op)), [.d (ksD K), .d (rqD K q), .own true (.lst (dI ls)), .own false (.lst Its), .d (.bl op), .un, .un, .d (.int i)], putT_nm rfl rfl, ev_orB (by repeat' (first  | with_reducible exact Dw.ty_str | with_reducible exact Dw.ty_lst | with_reducible exact Dw.lst_eq | with_reducible exact Dw.set_z | with_reducible exact Dw.ret_d | with_reducible exact Dw.ret_own | with_reducible exact Dw.mapd_nn | with_reducible exact Dw.ev_const | with_reducible exact Dw.ev_nil | with_reducible exact Dw.pk_d | with_reducible exact Dw.pk_own | with_reducible exact Dw.pks_nil | with_reducible exact Dw.frz_d | with_reducible exact Dw.frz_own | with_reducible exact Dw.frzs_nil | with_reducible exact Dw.tru_bl | with_reducible exact Dw.ev_skip | with_reducible exact Dw.len_lst | with_reducible exact Dw.len_tup | with_reducible exact Dw.eq_int | with_reducible exact Dw.ne_int | with_reducible exact Dw.eq_str | with_reducible exact Dw.ne_str | with_reducible exact Dw.eq_bl | with_reducible exact Dw.ne_bl | with_reducible exact Dw.lt_int' | with_reducible exact Dw.lt_str' | with_reducible exact Dw.le_int' | with_reducible exact Dw.gt_int' | with_reducible exact Dw.ge_int' | with_reducible exact Dw.add_int' | with_reducible exact Dw.sub_int' | with_reducible exact Dw.neg_int' | with_reducible exact Dw.ord_str | with_reducible exact Dw.int_int | with_reducible exact Dw.int_bl | with_reducible exact Dw.list_lst | with_reducible exact Dw.list_tup | with_reducible exact Dw.tup_lst | with_reducible exact Dw.tup_tup | with_reducible exact Dw.it_lst | with_reducible exact Dw.it_tup | with_reducible exact Dw.it_str | ((with_reducible apply Dw.ev_var); exact rfl) | ((with_reducible apply Dw.ev_varO); exact rfl) | ((with_reducible apply Dw.pk_cv); exact rfl) | ((with_reducible apply Dw.fs_ok); exact rfl) | ((with_reducible apply Dw.gE); exact rfl) | with_reducible apply Dw.ev_two | with_reducible apply Dw.ev_one | with_reducible apply Dw.ev_cons | with_reducible apply Dw.pks_cons | with_reducible apply Dw.ev_callE | with_reducible apply Dw.ev_isi | with_reducible apply Dw.frzs_cons | with_reducible apply Dw.ev_tup | with_reducible apply Dw.ev_lst | with_reducible apply Dw.ev_not | with_reducible apply Dw.ev_met | with_reducible apply Dw.ev_mut | with_reducible apply Dw.ev_ret | with_reducible apply Dw.ev_expr | with_reducible apply Dw.ev_asg | with_reducible apply Dw.ev_args | with_reducible apply Dw.ev_src | with_reducible apply Dw.ev_callD | with_reducible apply Dw.mapd_c | with_reducible apply Dw.mapd_d | with_reducible apply Dw.set_s | with_reducible apply Dw.st_d | with_reducible apply Dw.st_own | with_reducible apply Dw.st_cv | with_reducible apply Dw.frz_cv | ((with_reducible apply Dw.len_str); assumption) | ((with_reducible apply Dw.get_str) <;> assumption) | with_reducible assumption)) (by repeat' (first  | with_reducible exact Dw.ty_str | with_reducible exact Dw.ty_lst | with_reducible exact Dw.lst_eq | with_reducible exact Dw.set_z | with_reducible exact Dw.ret_d | with_reducible exact Dw.ret_own | with_reducible exact Dw.mapd_nn | with_reducible exact Dw.ev_const | with_reducible exact Dw.ev_nil | with_reducible exact Dw.pk_d | with_reducible exact Dw.pk_own | with_reducible exact Dw.pks_nil | with_reducible exact Dw.frz_d | with_reducible exact Dw.frz_own | with_reducible exact Dw.frzs_nil | with_reducible exact Dw.tru_bl | with_reducible exact Dw.ev_skip | with_reducible exact Dw.len_lst | with_reducible exact Dw.len_tup | with_reducible exact Dw.eq_int | with_reducible exact Dw.ne_int | with_reducible exact Dw.eq_str | with_reducible exact Dw.ne_str | with_reducible exact Dw.eq_bl | with_reducible exact Dw.ne_bl | with_reducible exact Dw.lt_int' | with_reducible exact Dw.lt_str' | with_reducible exact Dw.le_int' | with_reducible exact Dw.gt_int' | with_reducible exact Dw.ge_int' | with_reducible exact Dw.add_int' | with_reducible exact Dw.sub_int' | with_reducible exact Dw.neg_int' | with_reducible exact Dw.ord_str | with_reducible exact Dw.int_int | with_reducible exact Dw.int_bl | with_reducible exact Dw.list_lst | with_reducible exact Dw.list_tup | with_reducible exact Dw.tup_lst | with_reducible exact Dw.tup_tup | with_reducible exact Dw.it_lst | with_reducible exact Dw.it_tup | with_reducible exact Dw.it_str | ((with_reducible apply Dw.ev_var); exact rfl) | ((with_reducible apply Dw.ev_varO); exact rfl) | ((with_reducible apply Dw.pk_cv); exact rfl) | ((with_reducible apply Dw.fs_ok); exact rfl) | ((with_reducible apply Dw.gE); exact rfl) | with_reducible apply Dw.ev_two | with_reducible apply Dw.ev_one | with_reducible apply Dw.ev_cons | with_reducible apply Dw.pks_cons | with_reducible apply Dw.ev_callE | with_reducible apply Dw.ev_isi | with_reducible apply Dw.frzs_cons | with_reducible apply Dw.ev_tup | with_reducible apply Dw.ev_lst | with_reducible apply Dw.ev_not | with_reducible apply Dw.ev_met | with_reducible apply Dw.ev_mut | with_reducible apply Dw.ev_ret | with_reducible apply Dw.ev_expr | with_reducible apply Dw.ev_asg | with_reducible apply Dw.ev_args | with_reducible apply Dw.ev_src | with_reducible apply Dw.ev_callD | with_reducible apply Dw.mapd_c | with_reducible apply Dw.mapd_d | with_reducible apply Dw.set_s | with_reducible apply Dw.st_d | with_reducible apply Dw.st_own | with_reducible apply Dw.st_cv | with_reducible apply Dw.frz_cv | ((with_reducible apply Dw.len_str); assumption) | ((with_reducible apply Dw.get_str) <;> assumption) | with_reducible assumption)), rfl, fun _ => ⟨.d (.int i), _, _, ev_var rfl, rfl, rfl⟩, fun _ => rfl⟩) (by simp; omega)
  rw [List.nil_append, List.map_id] at c1
  have P1 : ∀ x ∈ (((List.range Its.length).map fun i => D.int (i : Nat)).filter fun x => match x with | .int k => decide (0 < k) || !op | _ => false), ∃ p : Nat, x = .int p ∧ p < Its.length ∧ (op = true → 0 < p) := by
    intro x hx
    obtain ⟨h1, h2⟩ := List.mem_filter.mp hx
    obtain ⟨i, hi, rfl⟩ := List.mem_map.mp h1
    refine ⟨i, rfl, List.mem_range.mp hi, fun ho => ?_⟩
    subst ho
    have h2 : (decide ((0 : Int) < (i : Int)) || false) = true := h2
    rw [Bool.or_false, decide_eq_true_eq] at h2
    omega
  have lP1 := lenP fun x => match x with | .int k => decide (0 < k) || !op | _ => false
  generalize hP : (((List.range Its.length).map fun i => D.int (i : Nat)).filter fun x => match x with | .int k => decide (0 < k) || !op | _ => false) = P at c1 P1 lP1
  have s1 : asgS 5 (compE [7] (argsI rng1 (consA (callE lenD (consA (varE 3) nilA)) nilA)) (.nm 7) (some (orE (two (op2 gtD) (varE 7) (constE (.int 0))) (notE (varE 4)))) e_ulawunearurequest_1) [.d (ksD K), .d (rqD K q), .own true (.lst (dI ls)), .own false (.lst Its), .d (.bl op), .un, .un, .un] = some (.nx [.d (ksD K), .d (rqD K q), .own true (.lst (dI ls)), .own false (.lst Its), .d (.bl op), .own false (.lst P), .un, .un]) :=
    ev_asg (ev_comp (env1 := [.d (ksD K), .d (rqD K q), .own true (.lst (dI ls)), .own false (.lst Its), .d (.bl op), .un, .un, .un]) (ev_args (as := [.d (.int Its.length)]) (by repeat' (first  | with_reducible exact Dw.ty_str | with_reducible exact Dw.ty_lst | with_reducible exact Dw.lst_eq | with_reducible exact Dw.set_z | with_reducible exact Dw.ret_d | with_reducible exact Dw.ret_own | with_reducible exact Dw.mapd_nn | with_reducible exact Dw.ev_const | with_reducible exact Dw.ev_nil | with_reducible exact Dw.pk_d | with_reducible exact Dw.pk_own | with_reducible exact Dw.pks_nil | with_reducible exact Dw.frz_d | with_reducible exact Dw.frz_own | with_reducible exact Dw.frzs_nil | with_reducible exact Dw.tru_bl | with_reducible exact Dw.ev_skip | with_reducible exact Dw.len_lst | with_reducible exact Dw.len_tup | with_reducible exact Dw.eq_int | with_reducible exact Dw.ne_int | with_reducible exact Dw.eq_str | with_reducible exact Dw.ne_str | with_reducible exact Dw.eq_bl | with_reducible exact Dw.ne_bl | with_reducible exact Dw.lt_int' | with_reducible exact Dw.lt_str' | with_reducible exact Dw.le_int' | with_reducible exact Dw.gt_int' | with_reducible exact Dw.ge_int' | with_reducible exact Dw.add_int' | with_reducible exact Dw.sub_int' | with_reducible exact Dw.neg_int' | with_reducible exact Dw.ord_str | with_reducible exact Dw.int_int | with_reducible exact Dw.int_bl | with_reducible exact Dw.list_lst | with_reducible exact Dw.list_tup | with_reducible exact Dw.tup_lst | with_reducible exact Dw.tup_tup | with_reducible exact Dw.it_lst | with_reducible exact Dw.it_tup | with_reducible exact Dw.it_str | ((with_reducible apply Dw.ev_var); exact rfl) | ((with_reducible apply Dw.ev_varO); exact rfl) | ((with_reducible apply Dw.pk_cv); exact rfl) | ((with_reducible apply Dw.fs_ok); exact rfl) | ((with_reducible apply Dw.gE); exact rfl) | with_reducible apply Dw.ev_two | with_reducible apply Dw.ev_one | with_reducible apply Dw.ev_cons | with_reducible apply Dw.pks_cons | with_reducible apply Dw.ev_callE | with_reducible apply Dw.ev_isi | with_reducible apply Dw.frzs_cons | with_reducible apply Dw.ev_tup | with_reducible apply Dw.ev_lst | with_reducible apply Dw.ev_not | with_reducible apply Dw.ev_met | with_reducible apply Dw.ev_mut | with_reducible apply Dw.ev_ret | with_reducible apply Dw.ev_expr | with_reducible apply Dw.ev_asg | with_reducible apply Dw.ev_args | with_reducible apply Dw.ev_src | with_reducible apply Dw.ev_callD | with_reducible apply Dw.mapd_c | with_reducible apply Dw.mapd_d | with_reducible apply Dw.set_s | with_reducible apply Dw.st_d | with_reducible apply Dw.st_own | with_reducible apply Dw.st_cv | with_reducible apply Dw.frz_cv | ((with_reducible apply Dw.len_str); assumption) | ((with_reducible apply Dw.get_str) <;> assumption) | with_reducible assumption)) rfl (rng1_nat (by omega))) c1 rfl) (st_own rfl rfl)
  cases op with
  | true =>
    refine ⟨P, lP1, fun x hx => ?_, ev_seq2 s1 (ev_iteF (a := .d (.bl (!true))) (ev_not (ev_var rfl) rfl) rfl ev_skip)⟩
    obtain ⟨p, e, h1, h2⟩ := P1 x hx
    exact ⟨p, e, h1, h2, fun h => by cases h⟩
  | false =>
    have c2 : compD [7] (.nm 7) (some (two (op2 neD) (varE 7) (constE (.int 1)))) e_ulawunearurequest_2 P [] [.d (ksD K), .d (rqD K q), .own true (.lst (dI ls)), .own false (.lst Its), .d (.bl false), .d (.lst P), .un, .un] = some ([] ++ ((P.filter fun x => match x with | .int k => !(k == 1) | _ => false).map id), [.d (ksD K), .d (rqD K q), .own true (.lst (dI ls)), .own false (.lst Its), .d (.bl false), .d (.lst P), .un, .un]) :=
      comp_if _ id _ [] (fun x hx => by
        obtain ⟨i, rfl, _, _⟩ := P1 x hx
        refine ⟨[.d (ksD K), .d (rqD K q), .own true (.lst (dI ls)), .own false (.lst Its), .d (.bl false), .d (.lst P), .un, .d (.int i)], .d (.bl (!((i : Int) == 1))), [.d (ksD K), .d (rqD K q), .own true (.lst (dI ls)), .own false (.lst Its), .d (.bl false), .d (.lst P), .un, .d (.int i)], putT_nm rfl rfl, by repeat' (first  | with_reducible exact Dw.ty_str | with_reducible exact Dw.ty_lst | with_reducible exact Dw.lst_eq | with_reducible exact Dw.set_z | with_reducible exact Dw.ret_d | with_reducible exact Dw.ret_own | with_reducible exact Dw.mapd_nn | with_reducible exact Dw.ev_const | with_reducible exact Dw.ev_nil | with_reducible exact Dw.pk_d | with_reducible exact Dw.pk_own | with_reducible exact Dw.pks_nil | with_reducible exact Dw.frz_d | with_reducible exact Dw.frz_own | with_reducible exact Dw.frzs_nil | with_reducible exact Dw.tru_bl | with_reducible exact Dw.ev_skip | with_reducible exact Dw.len_lst | with_reducible exact Dw.len_tup | with_reducible exact Dw.eq_int | with_reducible exact Dw.ne_int | with_reducible exact Dw.eq_str | with_reducible exact Dw.ne_str | with_reducible exact Dw.eq_bl | with_reducible exact Dw.ne_bl | with_reducible exact Dw.lt_int' | with_reducible exact Dw.lt_str' | with_reducible exact Dw.le_int' | with_reducible exact Dw.gt_int' | with_reducible exact Dw.ge_int' | with_reducible exact Dw.add_int' | with_reducible exact Dw.sub_int' | with_reducible exact Dw.neg_int' | with_reducible exact Dw.ord_str | with_reducible exact Dw.int_int | with_reducible exact Dw.int_bl | with_reducible exact Dw.list_lst | with_reducible exact Dw.list_tup | with_reducible exact Dw.tup_lst | with_reducible exact Dw.tup_tup | with_reducible exact Dw.it_lst | with_reducible exact Dw.it_tup | with_reducible exact Dw.it_str | ((with_reducible apply Dw.ev_var); exact rfl) | ((with_reducible apply Dw.ev_varO); exact rfl) | ((with_reducible apply Dw.pk_cv); exact rfl) | ((with_reducible apply Dw.fs_ok); exact rfl) | ((with_reducible apply Dw.gE); exact rfl) | with_reducible apply Dw.ev_two | with_reducible apply Dw.ev_one | with_reducible apply Dw.ev_cons | with_reducible apply Dw.pks_cons | with_reducible apply Dw.ev_callE | with_reducible apply Dw.ev_isi | with_reducible apply Dw.frzs_cons | with_reducible apply Dw.ev_tup | with_reducible apply Dw.ev_lst | with_reducible apply Dw.ev_not | with_reducible apply Dw.ev_met | with_reducible apply Dw.ev_mut | with_reducible apply Dw.ev_ret | with_reducible apply Dw.ev_expr | with_reducible apply Dw.ev_asg | with_reducible apply Dw.ev_args | with_reducible apply Dw.ev_src | with_reducible apply Dw.ev_callD | with_reducible apply Dw.mapd_c | with_reducible apply Dw.mapd_d | with_reducible apply Dw.set_s | with_reducible apply Dw.st_d | with_reducible apply Dw.st_own | with_reducible apply Dw.st_cv | with_reducible apply Dw.frz_cv | ((with_reducible apply Dw.len_str); assumption) | ((with_reducible apply Dw.get_str) <;> assumption) | with_reducible assumption), rfl, fun _ => ⟨.d (.int i), _, _, ev_var rfl, rfl, rfl⟩, fun _ => rfl⟩) (by simp; omega)
    rw [List.nil_append, List.map_id] at c2
    have lP2 := List.length_filter_le (fun x => match x with | .int k => !(k == 1) | _ => false) P
    refine ⟨_, Nat.le_trans lP2 lP1, fun x hx => ?_, ev_seq2 s1 (ev_iteT (a := .d (.bl (!false))) (ev_not (ev_var rfl) rfl) rfl (ev_asg (ev_comp (ev_src (x := .lst P) (ev_varO rfl) (frz_cv rfl rfl) rfl) c2 rfl) (st_own rfl rfl)))⟩
    obtain ⟨h1, h2⟩ := List.mem_filter.mp hx
    obtain ⟨p, rfl, h3, h4⟩ := P1 x h1
    refine ⟨p, rfl, h3, h4, fun _ z => ?_⟩
    subst z
    cases h2
theorem ev_seqA {f g h : SS} : seqS (seqS f g) h = seqS f (seqS g h) := by
  funext env
  unfold seqS
  cases f env with
  | none => rfl
  | some o => cases o <;> rfl
theorem ev_near_request {K : List Kd} (hK : okK K) {q : Rq} (hq : okR K 36 q) (ls : List Int) : ∃ ls' : List Int, ∃ q', okR K 80 q' ∧ m_ulawunearurequest [.d (ksD K), .d (rqD K q), .own true (.lst (dI ls))] = some (.ok (.d (rqD K q')) [.d (ksD K), .d (rqD K q), .own true (.lst (dI ls'))]) := by
  obtain ⟨k1, k2⟩ := kind_at hK hq.n
  have hl := hq.l
  have lI : (fstD q :: tlD K q).length ≤ 10 := by
    unfold tlD
    by_cases h : q.n = 0
    · rw [if_pos h, List.length_cons]; omega
    · rw [if_neg h, List.length_cons, List.length_cons]; omega
  have s3 : asgS 3 (callE listC (consA (varE 1) nilA)) [.d (ksD K), .d (rqD K q), .own true (.lst (dI ls)), .un, .un, .un, .un, .un] = some (.nx [.d (ksD K), .d (rqD K q), .own true (.lst (dI ls)), .own false (.lst (fstD q :: tlD K q)), .un, .un, .un, .un]) := by
    have lc : listC [rqD K q] = some (.own (.lst (fstD q :: tlD K q))) := by rw [rq_eq]; rfl
    repeat' (first | with_reducible exact lc | with_reducible exact Dw.ty_str | with_reducible exact Dw.ty_lst | with_reducible exact Dw.lst_eq | with_reducible exact Dw.set_z | with_reducible exact Dw.ret_d | with_reducible exact Dw.ret_own | with_reducible exact Dw.mapd_nn | with_reducible exact Dw.ev_const | with_reducible exact Dw.ev_nil | with_reducible exact Dw.pk_d | with_reducible exact Dw.pk_own | with_reducible exact Dw.pks_nil | with_reducible exact Dw.frz_d | with_reducible exact Dw.frz_own | with_reducible exact Dw.frzs_nil | with_reducible exact Dw.tru_bl | with_reducible exact Dw.ev_skip | with_reducible exact Dw.len_lst | with_reducible exact Dw.len_tup | with_reducible exact Dw.eq_int | with_reducible exact Dw.ne_int | with_reducible exact Dw.eq_str | with_reducible exact Dw.ne_str | with_reducible exact Dw.eq_bl | with_reducible exact Dw.ne_bl | with_reducible exact Dw.lt_int' | with_reducible exact Dw.lt_str' | with_reducible exact Dw.le_int' | with_reducible exact Dw.gt_int' | with_reducible exact Dw.ge_int' | with_reducible exact Dw.add_int' | with_reducible exact Dw.sub_int' | with_reducible exact Dw.neg_int' | with_reducible exact Dw.ord_str | with_reducible exact Dw.int_int | with_reducible exact Dw.int_bl | with_reducible exact Dw.list_lst | with_reducible exact Dw.list_tup | with_reducible exact Dw.tup_lst | with_reducible exact Dw.tup_tup | with_reducible exact Dw.it_lst | with_reducible exact Dw.it_tup | with_reducible exact Dw.it_str | ((with_reducible apply Dw.ev_var); exact rfl) | ((with_reducible apply Dw.ev_varO); exact rfl) | ((with_reducible apply Dw.pk_cv); exact rfl) | ((with_reducible apply Dw.fs_ok); exact rfl) | ((with_reducible apply Dw.gE); exact rfl) | with_reducible apply Dw.ev_two | with_reducible apply Dw.ev_one | with_reducible apply Dw.ev_cons | with_reducible apply Dw.pks_cons | with_reducible apply Dw.ev_callE | with_reducible apply Dw.ev_isi | with_reducible apply Dw.frzs_cons | with_reducible apply Dw.ev_tup | with_reducible apply Dw.ev_lst | with_reducible apply Dw.ev_not | with_reducible apply Dw.ev_met | with_reducible apply Dw.ev_mut | with_reducible apply Dw.ev_ret | with_reducible apply Dw.ev_expr | with_reducible apply Dw.ev_asg | with_reducible apply Dw.ev_args | with_reducible apply Dw.ev_src | with_reducible apply Dw.ev_callD | with_reducible apply Dw.mapd_c | with_reducible apply Dw.mapd_d | with_reducible apply Dw.set_s | with_reducible apply Dw.st_d | with_reducible apply Dw.st_own | with_reducible apply Dw.st_cv | with_reducible apply Dw.frz_cv | ((with_reducible apply Dw.len_str); assumption) | ((with_reducible apply Dw.get_str) <;> assumption) | with_reducible assumption)
  have s4 : asgS 4 (two (op2 eqD) (two (op2 getD) (varE 3) (constE (.int 0))) (constE (.str [110, 101, 119]))) [.d (ksD K), .d (rqD K q), .own true (.lst (dI ls)), .own false (.lst (fstD q :: tlD K q)), .un, .un, .un, .un] = some (.nx [.d (ksD K), .d (rqD K q), .own true (.lst (dI ls)), .own false (.lst (fstD q :: tlD K q)), .d (.bl (q.n == 0)), .un, .un, .un]) := by
    have g : getD (.lst (fstD q :: tlD K q)) (.int 0) = some (.d (fstD q)) := Dw.get_lst (L2.atI_nat (j := 0) rfl)
    have e : eqD (fstD q) (.str [110, 101, 119]) = some (.d (.bl (q.n == 0))) := by
      unfold fstD
      by_cases h : q.n = 0
      · rw [if_pos h, h]; rfl
      · rw [if_neg h, beq_eq_false_iff_ne.mpr h]; rfl
    repeat' (first | with_reducible exact g | with_reducible exact e | with_reducible exact Dw.ty_str | with_reducible exact Dw.ty_lst | with_reducible exact Dw.lst_eq | with_reducible exact Dw.set_z | with_reducible exact Dw.ret_d | with_reducible exact Dw.ret_own | with_reducible exact Dw.mapd_nn | with_reducible exact Dw.ev_const | with_reducible exact Dw.ev_nil | with_reducible exact Dw.pk_d | with_reducible exact Dw.pk_own | with_reducible exact Dw.pks_nil | with_reducible exact Dw.frz_d | with_reducible exact Dw.frz_own | with_reducible exact Dw.frzs_nil | with_reducible exact Dw.tru_bl | with_reducible exact Dw.ev_skip | with_reducible exact Dw.len_lst | with_reducible exact Dw.len_tup | with_reducible exact Dw.eq_int | with_reducible exact Dw.ne_int | with_reducible exact Dw.eq_str | with_reducible exact Dw.ne_str | with_reducible exact Dw.eq_bl | with_reducible exact Dw.ne_bl | with_reducible exact Dw.lt_int' | with_reducible exact Dw.lt_str' | with_reducible exact Dw.le_int' | with_reducible exact Dw.gt_int' | with_reducible exact Dw.ge_int' | with_reducible exact Dw.add_int' | with_reducible exact Dw.sub_int' | with_reducible exact Dw.neg_int' | with_reducible exact Dw.ord_str | with_reducible exact Dw.int_int | with_reducible exact Dw.int_bl | with_reducible exact Dw.list_lst | with_reducible exact Dw.list_tup | with_reducible exact Dw.tup_lst | with_reducible exact Dw.tup_tup | with_reducible exact Dw.it_lst | with_reducible exact Dw.it_tup | with_reducible exact Dw.it_str | ((with_reducible apply Dw.ev_var); exact rfl) | ((with_reducible apply Dw.ev_varO); exact rfl) | ((with_reducible apply Dw.pk_cv); exact rfl) | ((with_reducible apply Dw.fs_ok); exact rfl) | ((with_reducible apply Dw.gE); exact rfl) | with_reducible apply Dw.ev_two | with_reducible apply Dw.ev_one | with_reducible apply Dw.ev_cons | with_reducible apply Dw.pks_cons | with_reducible apply Dw.ev_callE | with_reducible apply Dw.ev_isi | with_reducible apply Dw.frzs_cons | with_reducible apply Dw.ev_tup | with_reducible apply Dw.ev_lst | with_reducible apply Dw.ev_not | with_reducible apply Dw.ev_met | with_reducible apply Dw.ev_mut | with_reducible apply Dw.ev_ret | with_reducible apply Dw.ev_expr | with_reducible apply Dw.ev_asg | with_reducible apply Dw.ev_args | with_reducible apply Dw.ev_src | with_reducible apply Dw.ev_callD | with_reducible apply Dw.mapd_c | with_reducible apply Dw.mapd_d | with_reducible apply Dw.set_s | with_reducible apply Dw.st_d | with_reducible apply Dw.st_own | with_reducible apply Dw.st_cv | with_reducible apply Dw.frz_cv | ((with_reducible apply Dw.len_str); assumption) | ((with_reducible apply Dw.get_str) <;> assumption) | with_reducible assumption)
  obtain ⟨P, P1, P2, s5⟩ := near_places (K := K) (q := q) (op := q.n == 0) lI (ls := ls)
  have fin : ∀ {b : SS} {x : RV} {env : Sl}, b [.d (ksD K), .d (rqD K q), .own true (.lst (dI ls)), .own false (.lst (fstD q :: tlD K q)), .d (.bl (q.n == 0)), .own false (.lst P), .un, .un] = some (.rt x env) →
      seqS (asgS 3 (callE listC (consA (varE 1) nilA))) (seqS (asgS 4 (two (op2 eqD) (two (op2 getD) (varE 3) (constE (.int 0))) (constE (.str [110, 101, 119])))) (seqS (asgS 5 (compE [7] (argsI rng1 (consA (callE lenD (consA (varE 3) nilA)) nilA)) (.nm 7) (some (orE (two (op2 gtD) (varE 7) (constE (.int 0))) (notE (varE 4)))) e_ulawunearurequest_1)) (seqS (iteS (notE (varE 4)) (asgS 5 (compE [7] (srcE (varE 5)) (.nm 7) (some (two (op2 neD) (varE 7) (constE (.int 1)))) e_ulawunearurequest_2)) skipS) b)))
        [.d (ksD K), .d (rqD K q), .own true (.lst (dI ls)), .un, .un, .un, .un, .un] = some (.rt x env) := fun {b x env} h => by
    refine ev_seq2 s3 (ev_seq2 s4 ?_)
    rw [← ev_seqA]
    exact ev_seq2 s5 h
  have c6 : two (op2 eqD) (callE lenD (consA (varE 5) nilA)) (constE (.int 0)) [.d (ksD K), .d (rqD K q), .own true (.lst (dI ls)), .own false (.lst (fstD q :: tlD K q)), .d (.bl (q.n == 0)), .own false (.lst P), .un, .un] = some (.ok (.d (.bl ((P.length : Int) == 0))) [.d (ksD K), .d (rqD K q), .own true (.lst (dI ls)), .own false (.lst (fstD q :: tlD K q)), .d (.bl (q.n == 0)), .own false (.lst P), .un, .un]) := by repeat' (first  | with_reducible exact Dw.ty_str | with_reducible exact Dw.ty_lst | with_reducible exact Dw.lst_eq | with_reducible exact Dw.set_z | with_reducible exact Dw.ret_d | with_reducible exact Dw.ret_own | with_reducible exact Dw.mapd_nn | with_reducible exact Dw.ev_const | with_reducible exact Dw.ev_nil | with_reducible exact Dw.pk_d | with_reducible exact Dw.pk_own | with_reducible exact Dw.pks_nil | with_reducible exact Dw.frz_d | with_reducible exact Dw.frz_own | with_reducible exact Dw.frzs_nil | with_reducible exact Dw.tru_bl | with_reducible exact Dw.ev_skip | with_reducible exact Dw.len_lst | with_reducible exact Dw.len_tup | with_reducible exact Dw.eq_int | with_reducible exact Dw.ne_int | with_reducible exact Dw.eq_str | with_reducible exact Dw.ne_str | with_reducible exact Dw.eq_bl | with_reducible exact Dw.ne_bl | with_reducible exact Dw.lt_int' | with_reducible exact Dw.lt_str' | with_reducible exact Dw.le_int' | with_reducible exact Dw.gt_int' | with_reducible exact Dw.ge_int' | with_reducible exact Dw.add_int' | with_reducible exact Dw.sub_int' | with_reducible exact Dw.neg_int' | with_reducible exact Dw.ord_str | with_reducible exact Dw.int_int | with_reducible exact Dw.int_bl | with_reducible exact Dw.list_lst | with_reducible exact Dw.list_tup | with_reducible exact Dw.tup_lst | with_reducible exact Dw.tup_tup | with_reducible exact Dw.it_lst | with_reducible exact Dw.it_tup | with_reducible exact Dw.it_str | ((with_reducible apply Dw.ev_var); exact rfl) | ((with_reducible apply Dw.ev_varO); exact rfl) | ((with_reducible apply Dw.pk_cv); exact rfl) | ((with_reducible apply Dw.fs_ok); exact rfl) | ((with_reducible apply Dw.gE); exact rfl) | with_reducible apply Dw.ev_two | with_reducible apply Dw.ev_one | with_reducible apply Dw.ev_cons | with_reducible apply Dw.pks_cons | with_reducible apply Dw.ev_callE | with_reducible apply Dw.ev_isi | with_reducible apply Dw.frzs_cons | with_reducible apply Dw.ev_tup | with_reducible apply Dw.ev_lst | with_reducible apply Dw.ev_not | with_reducible apply Dw.ev_met | with_reducible apply Dw.ev_mut | with_reducible apply Dw.ev_ret | with_reducible apply Dw.ev_expr | with_reducible apply Dw.ev_asg | with_reducible apply Dw.ev_args | with_reducible apply Dw.ev_src | with_reducible apply Dw.ev_callD | with_reducible apply Dw.mapd_c | with_reducible apply Dw.mapd_d | with_reducible apply Dw.set_s | with_reducible apply Dw.st_d | with_reducible apply Dw.st_own | with_reducible apply Dw.st_cv | with_reducible apply Dw.frz_cv | ((with_reducible apply Dw.len_str); assumption) | ((with_reducible apply Dw.get_str) <;> assumption) | with_reducible assumption)
  by_cases hP : P.length = 0
  · have : ((P.length : Int) == 0) = true := by rw [hP]; rfl
    rw [this] at c6
    obtain ⟨l1, q', r1, r2⟩ := call_rq hK (env := [.d (ksD K), .d (rqD K q), .own true (.lst (dI ls)), .own false (.lst (fstD q :: tlD K q)), .d (.bl (q.n == 0)), .own false (.lst P), .un, .un]) (i := 0) (j := 2) (ev_var rfl) rfl rfl rfl
    refine ⟨l1, q', okR_up r1, defM_rt (a := .d (rqD K q')) (env := [.d (ksD K), .d (rqD K q), .own true (.lst (dI l1)), .own false (.lst (fstD q :: tlD K q)), .d (.bl (q.n == 0)), .own false (.lst P), .un, .un]) [.d (ksD K), .d (rqD K q), .own true (.lst (dI ls)), .un, .un, .un, .un, .un] rfl rfl ?_ rfl rfl⟩
    unfold b_ulawunearurequest
    exact fin (ev_seq_rt (ev_iteT c6 rfl (ev_ret r2)))
  · have : ((P.length : Int) == 0) = false := by rw [beq_eq_false_iff_ne]; omega
    rw [this] at c6
    obtain ⟨l1, v, v1, t1⟩ := take_at (env := [.d (ksD K), .d (rqD K q), .own true (.lst (dI ls)), .own false (.lst (fstD q :: tlD K q)), .d (.bl (q.n == 0)), .own false (.lst P), .un, .un]) (env' := []) (i := 2) (n := P.length) (fb := callE lenD (consA (varE 5) nilA)) (by omega) rfl (by repeat' (first  | with_reducible exact Dw.ty_str | with_reducible exact Dw.ty_lst | with_reducible exact Dw.lst_eq | with_reducible exact Dw.set_z | with_reducible exact Dw.ret_d | with_reducible exact Dw.ret_own | with_reducible exact Dw.mapd_nn | with_reducible exact Dw.ev_const | with_reducible exact Dw.ev_nil | with_reducible exact Dw.pk_d | with_reducible exact Dw.pk_own | with_reducible exact Dw.pks_nil | with_reducible exact Dw.frz_d | with_reducible exact Dw.frz_own | with_reducible exact Dw.frzs_nil | with_reducible exact Dw.tru_bl | with_reducible exact Dw.ev_skip | with_reducible exact Dw.len_lst | with_reducible exact Dw.len_tup | with_reducible exact Dw.eq_int | with_reducible exact Dw.ne_int | with_reducible exact Dw.eq_str | with_reducible exact Dw.ne_str | with_reducible exact Dw.eq_bl | with_reducible exact Dw.ne_bl | with_reducible exact Dw.lt_int' | with_reducible exact Dw.lt_str' | with_reducible exact Dw.le_int' | with_reducible exact Dw.gt_int' | with_reducible exact Dw.ge_int' | with_reducible exact Dw.add_int' | with_reducible exact Dw.sub_int' | with_reducible exact Dw.neg_int' | with_reducible exact Dw.ord_str | with_reducible exact Dw.int_int | with_reducible exact Dw.int_bl | with_reducible exact Dw.list_lst | with_reducible exact Dw.list_tup | with_reducible exact Dw.tup_lst | with_reducible exact Dw.tup_tup | with_reducible exact Dw.it_lst | with_reducible exact Dw.it_tup | with_reducible exact Dw.it_str | ((with_reducible apply Dw.ev_var); exact rfl) | ((with_reducible apply Dw.ev_varO); exact rfl) | ((with_reducible apply Dw.pk_cv); exact rfl) | ((with_reducible apply Dw.fs_ok); exact rfl) | ((with_reducible apply Dw.gE); exact rfl) | with_reducible apply Dw.ev_two | with_reducible apply Dw.ev_one | with_reducible apply Dw.ev_cons | with_reducible apply Dw.pks_cons | with_reducible apply Dw.ev_callE | with_reducible apply Dw.ev_isi | with_reducible apply Dw.frzs_cons | with_reducible apply Dw.ev_tup | with_reducible apply Dw.ev_lst | with_reducible apply Dw.ev_not | with_reducible apply Dw.ev_met | with_reducible apply Dw.ev_mut | with_reducible apply Dw.ev_ret | with_reducible apply Dw.ev_expr | with_reducible apply Dw.ev_asg | with_reducible apply Dw.ev_args | with_reducible apply Dw.ev_src | with_reducible apply Dw.ev_callD | with_reducible apply Dw.mapd_c | with_reducible apply Dw.mapd_d | with_reducible apply Dw.set_s | with_reducible apply Dw.st_d | with_reducible apply Dw.st_own | with_reducible apply Dw.st_cv | with_reducible apply Dw.frz_cv | ((with_reducible apply Dw.len_str); assumption) | ((with_reducible apply Dw.get_str) <;> assumption) | with_reducible assumption))
    obtain ⟨p, hp, p1, p2, p3⟩ := P2 P[v] (List.getElem_mem v1)
    have gp : getD (.lst P) (.int v) = some (.d (.int p)) := by
      refine Dw.get_lst (L2.atI_nat ?_)
      rw [List.getElem?_eq_getElem v1, hp]
    have s7 : asgS 6 (two (op2 getD) (varE 5) (callM 0 m_ulawutake [] (consA (varE 2) (consA (callE lenD (consA (varE 5) nilA)) nilA)))) [.d (ksD K), .d (rqD K q), .own true (.lst (dI ls)), .own false (.lst (fstD q :: tlD K q)), .d (.bl (q.n == 0)), .own false (.lst P), .un, .un] = some (.nx [.d (ksD K), .d (rqD K q), .own true (.lst (dI l1)), .own false (.lst (fstD q :: tlD K q)), .d (.bl (q.n == 0)), .own false (.lst P), .d (.int p), .un]) :=
      ev_asg (ev_two (ev_varO rfl) t1 (pk_cv rfl) pk_d gp) (st_d rfl rfl)
    have c8 : andE (notE (varE 4)) (two (op2 eqD) (varE 6) (constE (.int 0))) [.d (ksD K), .d (rqD K q), .own true (.lst (dI l1)), .own false (.lst (fstD q :: tlD K q)), .d (.bl (q.n == 0)), .own false (.lst P), .d (.int p), .un] = some (.ok (.d (.bl (!(q.n == 0) && ((p : Int) == 0)))) [.d (ksD K), .d (rqD K q), .own true (.lst (dI l1)), .own false (.lst (fstD q :: tlD K q)), .d (.bl (q.n == 0)), .own false (.lst P), .d (.int p), .un]) := ev_andB (by repeat' (first  | with_reducible exact Dw.ty_str | with_reducible exact Dw.ty_lst | with_reducible exact Dw.lst_eq | with_reducible exact Dw.set_z | with_reducible exact Dw.ret_d | with_reducible exact Dw.ret_own | with_reducible exact Dw.mapd_nn | with_reducible exact Dw.ev_const | with_reducible exact Dw.ev_nil | with_reducible exact Dw.pk_d | with_reducible exact Dw.pk_own | with_reducible exact Dw.pks_nil | with_reducible exact Dw.frz_d | with_reducible exact Dw.frz_own | with_reducible exact Dw.frzs_nil | with_reducible exact Dw.tru_bl | with_reducible exact Dw.ev_skip | with_reducible exact Dw.len_lst | with_reducible exact Dw.len_tup | with_reducible exact Dw.eq_int | with_reducible exact Dw.ne_int | with_reducible exact Dw.eq_str | with_reducible exact Dw.ne_str | with_reducible exact Dw.eq_bl | with_reducible exact Dw.ne_bl | with_reducible exact Dw.lt_int' | with_reducible exact Dw.lt_str' | with_reducible exact Dw.le_int' | with_reducible exact Dw.gt_int' | with_reducible exact Dw.ge_int' | with_reducible exact Dw.add_int' | with_reducible exact Dw.sub_int' | with_reducible exact Dw.neg_int' | with_reducible exact Dw.ord_str | with_reducible exact Dw.int_int | with_reducible exact Dw.int_bl | with_reducible exact Dw.list_lst | with_reducible exact Dw.list_tup | with_reducible exact Dw.tup_lst | with_reducible exact Dw.tup_tup | with_reducible exact Dw.it_lst | with_reducible exact Dw.it_tup | with_reducible exact Dw.it_str | ((with_reducible apply Dw.ev_var); exact rfl) | ((with_reducible apply Dw.ev_varO); exact rfl) | ((with_reducible apply Dw.pk_cv); exact rfl) | ((with_reducible apply Dw.fs_ok); exact rfl) | ((with_reducible apply Dw.gE); exact rfl) | with_reducible apply Dw.ev_two | with_reducible apply Dw.ev_one | with_reducible apply Dw.ev_cons | with_reducible apply Dw.pks_cons | with_reducible apply Dw.ev_callE | with_reducible apply Dw.ev_isi | with_reducible apply Dw.frzs_cons | with_reducible apply Dw.ev_tup | with_reducible apply Dw.ev_lst | with_reducible apply Dw.ev_not | with_reducible apply Dw.ev_met | with_reducible apply Dw.ev_mut | with_reducible apply Dw.ev_ret | with_reducible apply Dw.ev_expr | with_reducible apply Dw.ev_asg | with_reducible apply Dw.ev_args | with_reducible apply Dw.ev_src | with_reducible apply Dw.ev_callD | with_reducible apply Dw.mapd_c | with_reducible apply Dw.mapd_d | with_reducible apply Dw.set_s | with_reducible apply Dw.st_d | with_reducible apply Dw.st_own | with_reducible apply Dw.st_cv | with_reducible apply Dw.frz_cv | ((with_reducible apply Dw.len_str); assumption) | ((with_reducible apply Dw.get_str) <;> assumption) | with_reducible assumption)) (by repeat' (first  | with_reducible exact Dw.ty_str | with_reducible exact Dw.ty_lst | with_reducible exact Dw.lst_eq | with_reducible exact Dw.set_z | with_reducible exact Dw.ret_d | with_reducible exact Dw.ret_own | with_reducible exact Dw.mapd_nn | with_reducible exact Dw.ev_const | with_reducible exact Dw.ev_nil | with_reducible exact Dw.pk_d | with_reducible exact Dw.pk_own | with_reducible exact Dw.pks_nil | with_reducible exact Dw.frz_d | with_reducible exact Dw.frz_own | with_reducible exact Dw.frzs_nil | with_reducible exact Dw.tru_bl | with_reducible exact Dw.ev_skip | with_reducible exact Dw.len_lst | with_reducible exact Dw.len_tup | with_reducible exact Dw.eq_int | with_reducible exact Dw.ne_int | with_reducible exact Dw.eq_str | with_reducible exact Dw.ne_str | with_reducible exact Dw.eq_bl | with_reducible exact Dw.ne_bl | with_reducible exact Dw.lt_int' | with_reducible exact Dw.lt_str' | with_reducible exact Dw.le_int' | with_reducible exact Dw.gt_int' | with_reducible exact Dw.ge_int' | with_reducible exact Dw.add_int' | with_reducible exact Dw.sub_int' | with_reducible exact Dw.neg_int' | with_reducible exact Dw.ord_str | with_reducible exact Dw.int_int | with_reducible exact Dw.int_bl | with_reducible exact Dw.list_lst | with_reducible exact Dw.list_tup | with_reducible exact Dw.tup_lst | with_reducible exact Dw.tup_tup | with_reducible exact Dw.it_lst | with_reducible exact Dw.it_tup | with_reducible exact Dw.it_str | ((with_reducible apply Dw.ev_var); exact rfl) | ((with_reducible apply Dw.ev_varO); exact rfl) | ((with_reducible apply Dw.pk_cv); exact rfl) | ((with_reducible apply Dw.fs_ok); exact rfl) | ((with_reducible apply Dw.gE); exact rfl) | with_reducible apply Dw.ev_two | with_reducible apply Dw.ev_one | with_reducible apply Dw.ev_cons | with_reducible apply Dw.pks_cons | with_reducible apply Dw.ev_callE | with_reducible apply Dw.ev_isi | with_reducible apply Dw.frzs_cons | with_reducible apply Dw.ev_tup | with_reducible apply Dw.ev_lst | with_reducible apply Dw.ev_not | with_reducible apply Dw.ev_met | with_reducible apply Dw.ev_mut | with_reducible apply Dw.ev_ret | with_reducible apply Dw.ev_expr | with_reducible apply Dw.ev_asg | with_reducible apply Dw.ev_args | with_reducible apply Dw.ev_src | with_reducible apply Dw.ev_callD | with_reducible apply Dw.mapd_c | with_reducible apply Dw.mapd_d | with_reducible apply Dw.set_s | with_reducible apply Dw.st_d | with_reducible apply Dw.st_own | with_reducible apply Dw.st_cv | with_reducible apply Dw.frz_cv | ((with_reducible apply Dw.len_str); assumption) | ((with_reducible apply Dw.get_str) <;> assumption) | with_reducible assumption))
    have s8 : ∃ l2 : List Int, ∃ q', okR K 80 q' ∧ ∃ Its, Its = fstD q' :: tlD K q' ∧ iteS (andE (notE (varE 4)) (two (op2 eqD) (varE 6) (constE (.int 0)))) (setL 3 (constE (.int 0)) (callM 0 m_ulawuid [] (consA (varE 2) nilA))) (setL 3 (varE 6) (callM 1 m_ulawunear [] (consA (two (op2 getD) (varE 3) (varE 6)) (consA (varE 2) nilA)))) [.d (ksD K), .d (rqD K q), .own true (.lst (dI l1)), .own false (.lst (fstD q :: tlD K q)), .d (.bl (q.n == 0)), .own false (.lst P), .d (.int p), .un] = some (.nx [.d (ksD K), .d (rqD K q), .own true (.lst (dI l2)), .own false (.lst Its), .d (.bl (q.n == 0)), .own false (.lst P), .d (.int p), .un]) := by
      have hx : ∀ x, (fstD q :: tlD K q)[p]? = some x → isVal 36 x → (!(q.n == 0) && ((p : Int) == 0)) = false → ∃ l2 : List Int, ∃ y, isVal 80 y ∧ iteS (andE (notE (varE 4)) (two (op2 eqD) (varE 6) (constE (.int 0)))) (setL 3 (constE (.int 0)) (callM 0 m_ulawuid [] (consA (varE 2) nilA))) (setL 3 (varE 6) (callM 1 m_ulawunear [] (consA (two (op2 getD) (varE 3) (varE 6)) (consA (varE 2) nilA)))) [.d (ksD K), .d (rqD K q), .own true (.lst (dI l1)), .own false (.lst (fstD q :: tlD K q)), .d (.bl (q.n == 0)), .own false (.lst P), .d (.int p), .un] = some (.nx [.d (ksD K), .d (rqD K q), .own true (.lst (dI l2)), .own false (.lst ((fstD q :: tlD K q).set p y)), .d (.bl (q.n == 0)), .own false (.lst P), .d (.int p), .un]) := by
        intro x h1 h2 h3
        rw [h3] at c8
        obtain ⟨l2, y, y1, y2⟩ := ev_near h2 l1
        have gx : getD (.lst (fstD q :: tlD K q)) (.int p) = some (.d x) := Dw.get_lst (L2.atI_nat h1)
        have e : callM 1 m_ulawunear [] (consA (two (op2 getD) (varE 3) (varE 6)) (consA (varE 2) nilA)) [.d (ksD K), .d (rqD K q), .own true (.lst (dI l1)), .own false (.lst (fstD q :: tlD K q)), .d (.bl (q.n == 0)), .own false (.lst P), .d (.int p), .un] = some (.ok (.d y) [.d (ksD K), .d (rqD K q), .own true (.lst (dI l2)), .own false (.lst (fstD q :: tlD K q)), .d (.bl (q.n == 0)), .own false (.lst P), .d (.int p), .un]) :=
          ev_callM (as := [.d x, .cv 2]) (ev_cons (ev_two (ev_varO rfl) (ev_var rfl) (pk_cv rfl) pk_d gx) (ev_cons (ev_varO rfl) ev_nil)) rfl (xs := [x, .non]) (frzs_cons frz_d (frzs_cons frz_d frzs_nil)) rfl rfl y2 rfl rfl rfl
        exact ⟨l2, y, y1, ev_iteF c8 rfl (ev_setL e rfl rfl (ev_var rfl) pk_d rfl (ix_nat p1) rfl)⟩
      cases ho : (q.n == 0) with
      | true =>
        rw [ho] at hx p2
        have hn : q.n = 0 := eq_of_beq ho
        have e1 : fstD q = .str kNew := if_pos hn
        have e2 : tlD K q = q.vs := if_pos hn
        have hp0 := p2 rfl
        obtain ⟨r, rfl⟩ : ∃ r, p = r + 1 := ⟨p - 1, by omega⟩
        rw [List.length_cons] at p1
        have hr : r < (tlD K q).length := by omega
        have hg : (fstD q :: tlD K q)[r + 1]? = some (tlD K q)[r] := by rw [List.getElem?_cons_succ, List.getElem?_eq_getElem hr]
        have hm : (tlD K q)[r] ∈ q.vs := (show ∀ l : List D, l = q.vs → ∀ h : r < l.length, l[r] ∈ q.vs from fun l e h => by subst e; exact List.getElem_mem h) _ e2 hr
        obtain ⟨l2, y, y1, y2⟩ := hx _ hg (hq.v _ hm) rfl
        refine ⟨l2, ⟨q.n, q.o, q.vs.set r y⟩, set_ok hq y1 r, _, ?_, y2⟩
        rw [List.set_cons_succ, e1, e2]
        show _ = (if q.n = 0 then _ else _) :: (if q.n = 0 then _ else _)
        rw [if_pos hn, if_pos hn]
      | false =>
        rw [ho] at hx p3 c8
        have hn : ¬ q.n = 0 := fun z => by rw [z] at ho; cases ho
        have e1 : fstD q = .int q.o := if_neg hn
        have e2 : tlD K q = .str (hdn K q.n) :: q.vs := if_neg hn
        have hp1 := p3 rfl
        by_cases hp0 : p = 0
        · subst hp0
          obtain ⟨l2, i, ⟨z, rfl⟩, i2⟩ := call_at (P := isInt) ev_id (env := [.d (ksD K), .d (rqD K q), .own true (.lst (dI l1)), .own false (.lst (fstD q :: tlD K q)), .d (.bl false), .own false (.lst P), .d (.int (0 : Nat)), .un]) (i := 2) rfl
          refine ⟨l2, ⟨q.n, z, q.vs⟩, ⟨hq.n, hq.l, fun v hv => val_up (hq.v v hv)⟩, (fstD q :: tlD K q).set 0 (.int z), ?_, ev_iteT c8 rfl (ev_setL i2 rfl rfl ev_const pk_d rfl (show ixN _ ((0 : Nat) : Int) = some 0 from ix_nat (by rw [List.length_cons]; omega)) rfl)⟩
          show .int z :: tlD K q = (if q.n = 0 then _ else _) :: (if q.n = 0 then _ else _)
          rw [if_neg hn, if_neg hn, e2]
        · obtain ⟨r, rfl⟩ : ∃ r, p = r + 2 := ⟨p - 2, by omega⟩
          rw [e2, List.length_cons, List.length_cons] at p1
          have hr : r < q.vs.length := by omega
          have hg : (fstD q :: tlD K q)[r + 2]? = some q.vs[r] := by rw [e2, List.getElem?_cons_succ, List.getElem?_cons_succ, List.getElem?_eq_getElem hr]
          have hb : ((((r + 2 : Nat) : Int)) == 0) = false := by rw [beq_eq_false_iff_ne]; omega
          obtain ⟨l2, y, y1, y2⟩ := hx _ hg (hq.v _ (List.getElem_mem hr)) (by rw [hb]; rfl)
          refine ⟨l2, ⟨q.n, q.o, q.vs.set r y⟩, set_ok hq y1 r, _, ?_, y2⟩
          rw [e1, e2, List.set_cons_succ, List.set_cons_succ]
          show _ = (if q.n = 0 then _ else _) :: (if q.n = 0 then _ else _)
          rw [if_neg hn, if_neg hn]
    obtain ⟨l2, q', r1, Its, rfl, s8⟩ := s8
    have tc : tupleC [.lst (fstD q' :: tlD K q')] = some (.d (rqD K q')) := by rw [rq_eq]; rfl
    refine ⟨l2, q', r1, defM_rt (a := .d (rqD K q')) (env := [.d (ksD K), .d (rqD K q), .own true (.lst (dI l2)), .own false (.lst (fstD q' :: tlD K q')), .d (.bl (q.n == 0)), .own false (.lst P), .d (.int p), .un]) [.d (ksD K), .d (rqD K q), .own true (.lst (dI ls)), .un, .un, .un, .un, .un] rfl rfl ?_ rfl rfl⟩
    unfold b_ulawunearurequest
    exact fin (ev_seq2 (ev_iteF c6 rfl ev_skip) (ev_seq2 s7 (ev_seq2 s8 (by repeat' (first | with_reducible exact tc | with_reducible exact Dw.ty_str | with_reducible exact Dw.ty_lst | with_reducible exact Dw.lst_eq | with_reducible exact Dw.set_z | with_reducible exact Dw.ret_d | with_reducible exact Dw.ret_own | with_reducible exact Dw.mapd_nn | with_reducible exact Dw.ev_const | with_reducible exact Dw.ev_nil | with_reducible exact Dw.pk_d | with_reducible exact Dw.pk_own | with_reducible exact Dw.pks_nil | with_reducible exact Dw.frz_d | with_reducible exact Dw.frz_own | with_reducible exact Dw.frzs_nil | with_reducible exact Dw.tru_bl | with_reducible exact Dw.ev_skip | with_reducible exact Dw.len_lst | with_reducible exact Dw.len_tup | with_reducible exact Dw.eq_int | with_reducible exact Dw.ne_int | with_reducible exact Dw.eq_str | with_reducible exact Dw.ne_str | with_reducible exact Dw.eq_bl | with_reducible exact Dw.ne_bl | with_reducible exact Dw.lt_int' | with_reducible exact Dw.lt_str' | with_reducible exact Dw.le_int' | with_reducible exact Dw.gt_int' | with_reducible exact Dw.ge_int' | with_reducible exact Dw.add_int' | with_reducible exact Dw.sub_int' | with_reducible exact Dw.neg_int' | with_reducible exact Dw.ord_str | with_reducible exact Dw.int_int | with_reducible exact Dw.int_bl | with_reducible exact Dw.list_lst | with_reducible exact Dw.list_tup | with_reducible exact Dw.tup_lst | with_reducible exact Dw.tup_tup | with_reducible exact Dw.it_lst | with_reducible exact Dw.it_tup | with_reducible exact Dw.it_str | ((with_reducible apply Dw.ev_var); exact rfl) | ((with_reducible apply Dw.ev_varO); exact rfl) | ((with_reducible apply Dw.pk_cv); exact rfl) | ((with_reducible apply Dw.fs_ok); exact rfl) | ((with_reducible apply Dw.gE); exact rfl) | with_reducible apply Dw.ev_two | with_reducible apply Dw.ev_one | with_reducible apply Dw.ev_cons | with_reducible apply Dw.pks_cons | with_reducible apply Dw.ev_callE | with_reducible apply Dw.ev_isi | with_reducible apply Dw.frzs_cons | with_reducible apply Dw.ev_tup | with_reducible apply Dw.ev_lst | with_reducible apply Dw.ev_not | with_reducible apply Dw.ev_met | with_reducible apply Dw.ev_mut | with_reducible apply Dw.ev_ret | with_reducible apply Dw.ev_expr | with_reducible apply Dw.ev_asg | with_reducible apply Dw.ev_args | with_reducible apply Dw.ev_src | with_reducible apply Dw.ev_callD | with_reducible apply Dw.mapd_c | with_reducible apply Dw.mapd_d | with_reducible apply Dw.set_s | with_reducible apply Dw.st_d | with_reducible apply Dw.st_own | with_reducible apply Dw.st_cv | with_reducible apply Dw.frz_cv | ((with_reducible apply Dw.len_str); assumption) | ((with_reducible apply Dw.get_str) <;> assumption) | with_reducible assumption)))))
end
end P_talkalike_k19_order_of_talks
namespace P_talkalike_k19_order_of_talks
noncomputable section
open PySem PySem.Spec PyProof.Rows L2 Dw
/-! ### a talk near the first -/
theorem okT_up {K : List Kd} {t : Tk} (h : ∀ q ∈ t, okR K 36 q) : okT K t := fun q hq => okR_up (h q hq)
theorem cutTo {n : Nat} {xs : List D} : cutL xs none (some (n : Int)) = xs.take n := by
  unfold cutL
  rw [HT.sIx_none, HT.sIx_nat]
  simp only [Option.getD_none, List.drop_zero]
  by_cases h : n ≤ xs.length
  · rw [Nat.min_eq_left h]; simp
  · rw [Nat.min_eq_right (by omega), List.take_of_length_le (by omega : xs.length ≤ n)]
    simp
theorem cutFr {n : Nat} {xs : List D} : cutL xs (some (n : Int)) none = xs.drop n := by
  by_cases h : n ≤ xs.length
  · exact cutFrom h
  · unfold cutL
    rw [HT.sIx_none, HT.sIx_nat, Nat.min_eq_right (by omega), List.drop_eq_nil_of_le (by omega : xs.length ≤ n)]
    simp
theorem seq4 {f g h k r : SS} : seqS (seqS f (seqS g (seqS h k))) r = seqS f (seqS g (seqS h (seqS k r))) := by rw [ev_seqA, ev_seqA, ev_seqA]
theorem ev_seq_rt2 {f g : SS} {env env1 : Sl} {o : Out} (h1 : f env = some (.nx env1)) (h2 : g env1 = some o) : seqS f g env = some o := ev_seq2 h1 h2
theorem ev_near_talk {K : List Kd} (hK : okK K) {t : Tk} (ht : ∀ q ∈ t, okR K 36 q) (hl : t.length ≤ 60) (ls : List Int) : ∃ ls' : List Int, ∃ s : Tk, okT K s ∧ s.length ≤ t.length + 1 ∧ m_ulawunearutalk [.d (ksD K), .d (tkD K t), .own true (.lst (dI ls))] = some (.ok (.own (.lst (s.map (rqD K)))) [.d (ksD K), .d (tkD K t), .own true (.lst (dI ls'))]) := by
  have hz : (100000 : Nat) ≤ sizeLine := by decide
  obtain ⟨l1, v, v1, t1⟩ := take_at (env := [.d (ksD K), .d (tkD K t), .own true (.lst (dI ls)), .un, .un, .un]) (env' := []) (i := 2) (n := 6) (fb := constE (.int 6)) (by decide) rfl ev_const
  have lt := len_tk (K := K) (t := t)
  obtain ⟨l2, p, p1, t2⟩ := take_at (env := [.d (ksD K), .d (tkD K t), .own true (.lst (dI l1)), .d (.int v), .un, .un]) (env' := []) (i := 2) (n := t.length + 1) (fb := two (op2 addD) (callE lenD (consA (varE 1) nilA)) (constE (.int 1))) (by omega) rfl (by
    rw [show ((t.length + 1 : Nat) : Int) = (t.length : Int) + 1 by omega]
    repeat' (first | with_reducible exact lt | with_reducible exact Dw.ty_str | with_reducible exact Dw.ty_lst | with_reducible exact Dw.lst_eq | with_reducible exact Dw.set_z | with_reducible exact Dw.ret_d | with_reducible exact Dw.ret_own | with_reducible exact Dw.mapd_nn | with_reducible exact Dw.ev_const | with_reducible exact Dw.ev_nil | with_reducible exact Dw.pk_d | with_reducible exact Dw.pk_own | with_reducible exact Dw.pks_nil | with_reducible exact Dw.frz_d | with_reducible exact Dw.frz_own | with_reducible exact Dw.frzs_nil | with_reducible exact Dw.tru_bl | with_reducible exact Dw.ev_skip | with_reducible exact Dw.len_lst | with_reducible exact Dw.len_tup | with_reducible exact Dw.eq_int | with_reducible exact Dw.ne_int | with_reducible exact Dw.eq_str | with_reducible exact Dw.ne_str | with_reducible exact Dw.eq_bl | with_reducible exact Dw.ne_bl | with_reducible exact Dw.lt_int' | with_reducible exact Dw.lt_str' | with_reducible exact Dw.le_int' | with_reducible exact Dw.gt_int' | with_reducible exact Dw.ge_int' | with_reducible exact Dw.add_int' | with_reducible exact Dw.sub_int' | with_reducible exact Dw.neg_int' | with_reducible exact Dw.ord_str | with_reducible exact Dw.int_int | with_reducible exact Dw.int_bl | with_reducible exact Dw.list_lst | with_reducible exact Dw.list_tup | with_reducible exact Dw.tup_lst | with_reducible exact Dw.tup_tup | with_reducible exact Dw.it_lst | with_reducible exact Dw.it_tup | with_reducible exact Dw.it_str | ((with_reducible apply Dw.ev_var); exact rfl) | ((with_reducible apply Dw.ev_varO); exact rfl) | ((with_reducible apply Dw.pk_cv); exact rfl) | ((with_reducible apply Dw.fs_ok); exact rfl) | ((with_reducible apply Dw.gE); exact rfl) | with_reducible apply Dw.ev_two | with_reducible apply Dw.ev_one | with_reducible apply Dw.ev_cons | with_reducible apply Dw.pks_cons | with_reducible apply Dw.ev_callE | with_reducible apply Dw.ev_isi | with_reducible apply Dw.frzs_cons | with_reducible apply Dw.ev_tup | with_reducible apply Dw.ev_lst | with_reducible apply Dw.ev_not | with_reducible apply Dw.ev_met | with_reducible apply Dw.ev_mut | with_reducible apply Dw.ev_ret | with_reducible apply Dw.ev_expr | with_reducible apply Dw.ev_asg | with_reducible apply Dw.ev_args | with_reducible apply Dw.ev_src | with_reducible apply Dw.ev_callD | with_reducible apply Dw.mapd_c | with_reducible apply Dw.mapd_d | with_reducible apply Dw.set_s | with_reducible apply Dw.st_d | with_reducible apply Dw.st_own | with_reducible apply Dw.st_cv | with_reducible apply Dw.frz_cv | ((with_reducible apply Dw.len_str); assumption) | ((with_reducible apply Dw.get_str) <;> assumption) | with_reducible assumption))
  have lc : listC [tkD K t] = some (.own (.lst (t.map (rqD K)))) := rfl
  have s5 : asgS 5 (callE listC (consA (varE 1) nilA)) [.d (ksD K), .d (tkD K t), .own true (.lst (dI l2)), .d (.int v), .d (.int p), .un] = some (.nx [.d (ksD K), .d (tkD K t), .own true (.lst (dI l2)), .d (.int v), .d (.int p), .own false (.lst (t.map (rqD K)))]) := by
    repeat' (first | with_reducible exact lc | with_reducible exact Dw.ty_str | with_reducible exact Dw.ty_lst | with_reducible exact Dw.lst_eq | with_reducible exact Dw.set_z | with_reducible exact Dw.ret_d | with_reducible exact Dw.ret_own | with_reducible exact Dw.mapd_nn | with_reducible exact Dw.ev_const | with_reducible exact Dw.ev_nil | with_reducible exact Dw.pk_d | with_reducible exact Dw.pk_own | with_reducible exact Dw.pks_nil | with_reducible exact Dw.frz_d | with_reducible exact Dw.frz_own | with_reducible exact Dw.frzs_nil | with_reducible exact Dw.tru_bl | with_reducible exact Dw.ev_skip | with_reducible exact Dw.len_lst | with_reducible exact Dw.len_tup | with_reducible exact Dw.eq_int | with_reducible exact Dw.ne_int | with_reducible exact Dw.eq_str | with_reducible exact Dw.ne_str | with_reducible exact Dw.eq_bl | with_reducible exact Dw.ne_bl | with_reducible exact Dw.lt_int' | with_reducible exact Dw.lt_str' | with_reducible exact Dw.le_int' | with_reducible exact Dw.gt_int' | with_reducible exact Dw.ge_int' | with_reducible exact Dw.add_int' | with_reducible exact Dw.sub_int' | with_reducible exact Dw.neg_int' | with_reducible exact Dw.ord_str | with_reducible exact Dw.int_int | with_reducible exact Dw.int_bl | with_reducible exact Dw.list_lst | with_reducible exact Dw.list_tup | with_reducible exact Dw.tup_lst | with_reducible exact Dw.tup_tup | with_reducible exact Dw.it_lst | with_reducible exact Dw.it_tup | with_reducible exact Dw.it_str | ((with_reducible apply Dw.ev_var); exact rfl) | ((with_reducible apply Dw.ev_varO); exact rfl) | ((with_reducible apply Dw.pk_cv); exact rfl) | ((with_reducible apply Dw.fs_ok); exact rfl) | ((with_reducible apply Dw.gE); exact rfl) | with_reducible apply Dw.ev_two | with_reducible apply Dw.ev_one | with_reducible apply Dw.ev_cons | with_reducible apply Dw.pks_cons | with_reducible apply Dw.ev_callE | with_reducible apply Dw.ev_isi | with_reducible apply Dw.frzs_cons | with_reducible apply Dw.ev_tup | with_reducible apply Dw.ev_lst | with_reducible apply Dw.ev_not | with_reducible apply Dw.ev_met | with_reducible apply Dw.ev_mut | with_reducible apply Dw.ev_ret | with_reducible apply Dw.ev_expr | with_reducible apply Dw.ev_asg | with_reducible apply Dw.ev_args | with_reducible apply Dw.ev_src | with_reducible apply Dw.ev_callD | with_reducible apply Dw.mapd_c | with_reducible apply Dw.mapd_d | with_reducible apply Dw.set_s | with_reducible apply Dw.st_d | with_reducible apply Dw.st_own | with_reducible apply Dw.st_cv | with_reducible apply Dw.frz_cv | ((with_reducible apply Dw.len_str); assumption) | ((with_reducible apply Dw.get_str) <;> assumption) | with_reducible assumption)
  have cv : ∀ (ls : List Int) (w : List D) (k : Int), two (op2 eqD) (varE 3) (constE (.int k)) [.d (ksD K), .d (tkD K t), .own true (.lst (dI ls)), .d (.int v), .d (.int p), .own false (.lst w)] = some (.ok (.d (.bl ((v : Int) == k))) [.d (ksD K), .d (tkD K t), .own true (.lst (dI ls)), .d (.int v), .d (.int p), .own false (.lst w)]) := fun ls w k => by repeat' (first  | with_reducible exact Dw.ty_str | with_reducible exact Dw.ty_lst | with_reducible exact Dw.lst_eq | with_reducible exact Dw.set_z | with_reducible exact Dw.ret_d | with_reducible exact Dw.ret_own | with_reducible exact Dw.mapd_nn | with_reducible exact Dw.ev_const | with_reducible exact Dw.ev_nil | with_reducible exact Dw.pk_d | with_reducible exact Dw.pk_own | with_reducible exact Dw.pks_nil | with_reducible exact Dw.frz_d | with_reducible exact Dw.frz_own | with_reducible exact Dw.frzs_nil | with_reducible exact Dw.tru_bl | with_reducible exact Dw.ev_skip | with_reducible exact Dw.len_lst | with_reducible exact Dw.len_tup | with_reducible exact Dw.eq_int | with_reducible exact Dw.ne_int | with_reducible exact Dw.eq_str | with_reducible exact Dw.ne_str | with_reducible exact Dw.eq_bl | with_reducible exact Dw.ne_bl | with_reducible exact Dw.lt_int' | with_reducible exact Dw.lt_str' | with_reducible exact Dw.le_int' | with_reducible exact Dw.gt_int' | with_reducible exact Dw.ge_int' | with_reducible exact Dw.add_int' | with_reducible exact Dw.sub_int' | with_reducible exact Dw.neg_int' | with_reducible exact Dw.ord_str | with_reducible exact Dw.int_int | with_reducible exact Dw.int_bl | with_reducible exact Dw.list_lst | with_reducible exact Dw.list_tup | with_reducible exact Dw.tup_lst | with_reducible exact Dw.tup_tup | with_reducible exact Dw.it_lst | with_reducible exact Dw.it_tup | with_reducible exact Dw.it_str | ((with_reducible apply Dw.ev_var); exact rfl) | ((with_reducible apply Dw.ev_varO); exact rfl) | ((with_reducible apply Dw.pk_cv); exact rfl) | ((with_reducible apply Dw.fs_ok); exact rfl) | ((with_reducible apply Dw.gE); exact rfl) | with_reducible apply Dw.ev_two | with_reducible apply Dw.ev_one | with_reducible apply Dw.ev_cons | with_reducible apply Dw.pks_cons | with_reducible apply Dw.ev_callE | with_reducible apply Dw.ev_isi | with_reducible apply Dw.frzs_cons | with_reducible apply Dw.ev_tup | with_reducible apply Dw.ev_lst | with_reducible apply Dw.ev_not | with_reducible apply Dw.ev_met | with_reducible apply Dw.ev_mut | with_reducible apply Dw.ev_ret | with_reducible apply Dw.ev_expr | with_reducible apply Dw.ev_asg | with_reducible apply Dw.ev_args | with_reducible apply Dw.ev_src | with_reducible apply Dw.ev_callD | with_reducible apply Dw.mapd_c | with_reducible apply Dw.mapd_d | with_reducible apply Dw.set_s | with_reducible apply Dw.st_d | with_reducible apply Dw.st_own | with_reducible apply Dw.st_cv | with_reducible apply Dw.frz_cv | ((with_reducible apply Dw.len_str); assumption) | ((with_reducible apply Dw.get_str) <;> assumption) | with_reducible assumption)
  have gv : ∀ (ls : List Int) (w : List D), two (op2 gtD) (varE 3) (constE (.int 2)) [.d (ksD K), .d (tkD K t), .own true (.lst (dI ls)), .d (.int v), .d (.int p), .own false (.lst w)] = some (.ok (.d (.bl (decide ((2 : Int) < v)))) [.d (ksD K), .d (tkD K t), .own true (.lst (dI ls)), .d (.int v), .d (.int p), .own false (.lst w)]) := fun ls w => by repeat' (first  | with_reducible exact Dw.ty_str | with_reducible exact Dw.ty_lst | with_reducible exact Dw.lst_eq | with_reducible exact Dw.set_z | with_reducible exact Dw.ret_d | with_reducible exact Dw.ret_own | with_reducible exact Dw.mapd_nn | with_reducible exact Dw.ev_const | with_reducible exact Dw.ev_nil | with_reducible exact Dw.pk_d | with_reducible exact Dw.pk_own | with_reducible exact Dw.pks_nil | with_reducible exact Dw.frz_d | with_reducible exact Dw.frz_own | with_reducible exact Dw.frzs_nil | with_reducible exact Dw.tru_bl | with_reducible exact Dw.ev_skip | with_reducible exact Dw.len_lst | with_reducible exact Dw.len_tup | with_reducible exact Dw.eq_int | with_reducible exact Dw.ne_int | with_reducible exact Dw.eq_str | with_reducible exact Dw.ne_str | with_reducible exact Dw.eq_bl | with_reducible exact Dw.ne_bl | with_reducible exact Dw.lt_int' | with_reducible exact Dw.lt_str' | with_reducible exact Dw.le_int' | with_reducible exact Dw.gt_int' | with_reducible exact Dw.ge_int' | with_reducible exact Dw.add_int' | with_reducible exact Dw.sub_int' | with_reducible exact Dw.neg_int' | with_reducible exact Dw.ord_str | with_reducible exact Dw.int_int | with_reducible exact Dw.int_bl | with_reducible exact Dw.list_lst | with_reducible exact Dw.list_tup | with_reducible exact Dw.tup_lst | with_reducible exact Dw.tup_tup | with_reducible exact Dw.it_lst | with_reducible exact Dw.it_tup | with_reducible exact Dw.it_str | ((with_reducible apply Dw.ev_var); exact rfl) | ((with_reducible apply Dw.ev_varO); exact rfl) | ((with_reducible apply Dw.pk_cv); exact rfl) | ((with_reducible apply Dw.fs_ok); exact rfl) | ((with_reducible apply Dw.gE); exact rfl) | with_reducible apply Dw.ev_two | with_reducible apply Dw.ev_one | with_reducible apply Dw.ev_cons | with_reducible apply Dw.pks_cons | with_reducible apply Dw.ev_callE | with_reducible apply Dw.ev_isi | with_reducible apply Dw.frzs_cons | with_reducible apply Dw.ev_tup | with_reducible apply Dw.ev_lst | with_reducible apply Dw.ev_not | with_reducible apply Dw.ev_met | with_reducible apply Dw.ev_mut | with_reducible apply Dw.ev_ret | with_reducible apply Dw.ev_expr | with_reducible apply Dw.ev_asg | with_reducible apply Dw.ev_args | with_reducible apply Dw.ev_src | with_reducible apply Dw.ev_callD | with_reducible apply Dw.mapd_c | with_reducible apply Dw.mapd_d | with_reducible apply Dw.set_s | with_reducible apply Dw.st_d | with_reducible apply Dw.st_own | with_reducible apply Dw.st_cv | with_reducible apply Dw.frz_cv | ((with_reducible apply Dw.len_str); assumption) | ((with_reducible apply Dw.get_str) <;> assumption) | with_reducible assumption)
  have lp : ∀ (ls : List Int) (w : List D), two (op2 ltG) (varE 4) (callE lenD (consA (varE 1) nilA)) [.d (ksD K), .d (tkD K t), .own true (.lst (dI ls)), .d (.int v), .d (.int p), .own false (.lst w)] = some (.ok (.d (.bl (decide ((p : Int) < t.length)))) [.d (ksD K), .d (tkD K t), .own true (.lst (dI ls)), .d (.int v), .d (.int p), .own false (.lst w)]) := fun ls w => by repeat' (first | with_reducible exact lt | with_reducible exact Dw.ty_str | with_reducible exact Dw.ty_lst | with_reducible exact Dw.lst_eq | with_reducible exact Dw.set_z | with_reducible exact Dw.ret_d | with_reducible exact Dw.ret_own | with_reducible exact Dw.mapd_nn | with_reducible exact Dw.ev_const | with_reducible exact Dw.ev_nil | with_reducible exact Dw.pk_d | with_reducible exact Dw.pk_own | with_reducible exact Dw.pks_nil | with_reducible exact Dw.frz_d | with_reducible exact Dw.frz_own | with_reducible exact Dw.frzs_nil | with_reducible exact Dw.tru_bl | with_reducible exact Dw.ev_skip | with_reducible exact Dw.len_lst | with_reducible exact Dw.len_tup | with_reducible exact Dw.eq_int | with_reducible exact Dw.ne_int | with_reducible exact Dw.eq_str | with_reducible exact Dw.ne_str | with_reducible exact Dw.eq_bl | with_reducible exact Dw.ne_bl | with_reducible exact Dw.lt_int' | with_reducible exact Dw.lt_str' | with_reducible exact Dw.le_int' | with_reducible exact Dw.gt_int' | with_reducible exact Dw.ge_int' | with_reducible exact Dw.add_int' | with_reducible exact Dw.sub_int' | with_reducible exact Dw.neg_int' | with_reducible exact Dw.ord_str | with_reducible exact Dw.int_int | with_reducible exact Dw.int_bl | with_reducible exact Dw.list_lst | with_reducible exact Dw.list_tup | with_reducible exact Dw.tup_lst | with_reducible exact Dw.tup_tup | with_reducible exact Dw.it_lst | with_reducible exact Dw.it_tup | with_reducible exact Dw.it_str | ((with_reducible apply Dw.ev_var); exact rfl) | ((with_reducible apply Dw.ev_varO); exact rfl) | ((with_reducible apply Dw.pk_cv); exact rfl) | ((with_reducible apply Dw.fs_ok); exact rfl) | ((with_reducible apply Dw.gE); exact rfl) | with_reducible apply Dw.ev_two | with_reducible apply Dw.ev_one | with_reducible apply Dw.ev_cons | with_reducible apply Dw.pks_cons | with_reducible apply Dw.ev_callE | with_reducible apply Dw.ev_isi | with_reducible apply Dw.frzs_cons | with_reducible apply Dw.ev_tup | with_reducible apply Dw.ev_lst | with_reducible apply Dw.ev_not | with_reducible apply Dw.ev_met | with_reducible apply Dw.ev_mut | with_reducible apply Dw.ev_ret | with_reducible apply Dw.ev_expr | with_reducible apply Dw.ev_asg | with_reducible apply Dw.ev_args | with_reducible apply Dw.ev_src | with_reducible apply Dw.ev_callD | with_reducible apply Dw.mapd_c | with_reducible apply Dw.mapd_d | with_reducible apply Dw.set_s | with_reducible apply Dw.st_d | with_reducible apply Dw.st_own | with_reducible apply Dw.st_cv | with_reducible apply Dw.frz_cv | ((with_reducible apply Dw.len_str); assumption) | ((with_reducible apply Dw.get_str) <;> assumption) | with_reducible assumption)
  -- each of the four, where it does nothing
  have n0 : v ≠ 0 → ∀ ls w, iteS (two (op2 eqD) (varE 3) (constE (.int 0))) (exprS (mutE appU (varE 5) (consA (callM 1 m_ulawurequest [] (consA (varE 0) (consA (varE 2) nilA))) nilA))) skipS [.d (ksD K), .d (tkD K t), .own true (.lst (dI ls)), .d (.int v), .d (.int p), .own false (.lst w)] = some (.nx [.d (ksD K), .d (tkD K t), .own true (.lst (dI ls)), .d (.int v), .d (.int p), .own false (.lst w)]) := fun h ls w => by
    have c := cv ls w 0
    rw [show ((v : Int) == 0) = false from by rw [beq_eq_false_iff_ne]; omega] at c
    exact ev_iteF c rfl ev_skip
  have n1 : v ≠ 1 → ∀ ls w, iteS (two (op2 eqD) (varE 3) (constE (.int 1))) (asgS 5 (two (op2 addD) (sliceE (varE 1) none (some (varE 4))) (sliceE (varE 1) (some (two (op2 addD) (varE 4) (constE (.int 1)))) none))) skipS [.d (ksD K), .d (tkD K t), .own true (.lst (dI ls)), .d (.int v), .d (.int p), .own false (.lst w)] = some (.nx [.d (ksD K), .d (tkD K t), .own true (.lst (dI ls)), .d (.int v), .d (.int p), .own false (.lst w)]) := fun h ls w => by
    have c := cv ls w 1
    rw [show ((v : Int) == 1) = false from by rw [beq_eq_false_iff_ne]; omega] at c
    exact ev_iteF c rfl ev_skip
  have n2 : ¬ (v = 2 ∧ p < t.length) → ∀ ls w, iteS (andE (two (op2 eqD) (varE 3) (constE (.int 2))) (two (op2 ltG) (varE 4) (callE lenD (consA (varE 1) nilA)))) (setL 5 (varE 4) (callM 1 m_ulawurequest [] (consA (varE 0) (consA (varE 2) nilA)))) skipS [.d (ksD K), .d (tkD K t), .own true (.lst (dI ls)), .d (.int v), .d (.int p), .own false (.lst w)] = some (.nx [.d (ksD K), .d (tkD K t), .own true (.lst (dI ls)), .d (.int v), .d (.int p), .own false (.lst w)]) := fun h ls w => by
    have c := ev_andB (cv ls w 2) (lp ls w)
    rw [show (((v : Int) == 2) && decide ((p : Int) < t.length)) = false from by
      rw [Bool.and_eq_false_iff, beq_eq_false_iff_ne, decide_eq_false_iff_not]
      omega] at c
    exact ev_iteF c rfl ev_skip
  have n3 : ¬ (2 < v ∧ p < t.length) → ∀ ls w, iteS (andE (two (op2 gtD) (varE 3) (constE (.int 2))) (two (op2 ltG) (varE 4) (callE lenD (consA (varE 1) nilA)))) (setL 5 (varE 4) (callM 2 m_ulawunearurequest [] (consA (varE 0) (consA (two (op2 getD) (varE 1) (varE 4)) (consA (varE 2) nilA))))) skipS [.d (ksD K), .d (tkD K t), .own true (.lst (dI ls)), .d (.int v), .d (.int p), .own false (.lst w)] = some (.nx [.d (ksD K), .d (tkD K t), .own true (.lst (dI ls)), .d (.int v), .d (.int p), .own false (.lst w)]) := fun h ls w => by
    have c := ev_andB (gv ls w) (lp ls w)
    rw [show (decide ((2 : Int) < v) && decide ((p : Int) < t.length)) = false from by
      rw [Bool.and_eq_false_iff, decide_eq_false_iff_not, decide_eq_false_iff_not]
      omega] at c
    exact ev_iteF c rfl ev_skip
  have fin : ∀ (l3 : List Int) (s : Tk), okT K s → s.length ≤ t.length + 1 →
      (seqS (iteS (two (op2 eqD) (varE 3) (constE (.int 0))) (exprS (mutE appU (varE 5) (consA (callM 1 m_ulawurequest [] (consA (varE 0) (consA (varE 2) nilA))) nilA))) skipS)
      (seqS (iteS (two (op2 eqD) (varE 3) (constE (.int 1))) (asgS 5 (two (op2 addD) (sliceE (varE 1) none (some (varE 4))) (sliceE (varE 1) (some (two (op2 addD) (varE 4) (constE (.int 1)))) none))) skipS)
      (seqS (iteS (andE (two (op2 eqD) (varE 3) (constE (.int 2))) (two (op2 ltG) (varE 4) (callE lenD (consA (varE 1) nilA)))) (setL 5 (varE 4) (callM 1 m_ulawurequest [] (consA (varE 0) (consA (varE 2) nilA)))) skipS)
      (iteS (andE (two (op2 gtD) (varE 3) (constE (.int 2))) (two (op2 ltG) (varE 4) (callE lenD (consA (varE 1) nilA)))) (setL 5 (varE 4) (callM 2 m_ulawunearurequest [] (consA (varE 0) (consA (two (op2 getD) (varE 1) (varE 4)) (consA (varE 2) nilA))))) skipS)))) [.d (ksD K), .d (tkD K t), .own true (.lst (dI l2)), .d (.int v), .d (.int p), .own false (.lst (t.map (rqD K)))] = some (.nx [.d (ksD K), .d (tkD K t), .own true (.lst (dI l3)), .d (.int v), .d (.int p), .own false (.lst (s.map (rqD K)))]) →
      ∃ ls' : List Int, ∃ s : Tk, okT K s ∧ s.length ≤ t.length + 1 ∧ m_ulawunearutalk [.d (ksD K), .d (tkD K t), .own true (.lst (dI ls))] = some (.ok (.own (.lst (s.map (rqD K)))) [.d (ksD K), .d (tkD K t), .own true (.lst (dI ls'))]) := fun l3 s h1 h2 h3 => by
    refine ⟨l3, s, h1, h2, defM_rt (a := .cv 5) (env := [.d (ksD K), .d (tkD K t), .own true (.lst (dI l3)), .d (.int v), .d (.int p), .own false (.lst (s.map (rqD K)))]) [.d (ksD K), .d (tkD K t), .own true (.lst (dI ls)), .un, .un, .un] rfl rfl ?_ rfl rfl⟩
    unfold b_ulawunearutalk
    refine ev_seq2 (env1 := [.d (ksD K), .d (tkD K t), .own true (.lst (dI l1)), .d (.int v), .un, .un]) (ev_asg t1 (st_d rfl rfl)) ?_
    refine ev_seq2 (env1 := [.d (ksD K), .d (tkD K t), .own true (.lst (dI l2)), .d (.int v), .d (.int p), .un]) (ev_asg t2 (st_d rfl rfl)) (ev_seq2 s5 ?_)
    have h4 := ev_seq_rt2 h3 (ev_ret (fe := varE 5) (ev_varO rfl))
    rw [seq4] at h4
    exact h4
  have okt := okT_up ht
  by_cases h0 : v = 0
  · have c := cv l2 (t.map (rqD K)) 0
    rw [show ((v : Int) == 0) = true from by rw [beq_iff_eq]; omega] at c
    obtain ⟨l3, q, q1, q2⟩ := call_rq hK (env := [.d (ksD K), .d (tkD K t), .own true (.lst (dI l2)), .d (.int v), .d (.int p), .own false (.lst (t.map (rqD K)))]) (i := 0) (j := 2) (ev_var rfl) rfl rfl rfl
    have a1 : appU (t.map (rqD K)) [rqD K q] = some (.non, (t ++ [q]).map (rqD K)) := by rw [Dw.app_ok (by rw [List.length_map]; omega), List.map_append]; rfl
    refine fin l3 (t ++ [q]) (fun x hx => ?_) (by rw [List.length_append, List.length_singleton]; omega) (ev_seq2 (ev_iteT c rfl (ev_expr (ev_mut (ev_varO rfl) rfl rfl (ev_cons q2 ev_nil) (frzs_cons frz_d frzs_nil) rfl a1 rfl))) (ev_seq2 (n1 (by omega) _ _) (ev_seq2 (n2 (by omega) _ _) (n3 (by omega) _ _))))
    rcases List.mem_append.mp hx with hx | hx
    · exact okt x hx
    · rw [List.mem_singleton] at hx; subst hx; exact okR_up q1
  · by_cases h1 : v = 1
    · have c := cv l2 (t.map (rqD K)) 1
      rw [show ((v : Int) == 1) = true from by rw [beq_iff_eq]; omega] at c
      have sl1 : sliceE (varE 1) none (some (varE 4)) [.d (ksD K), .d (tkD K t), .own true (.lst (dI l2)), .d (.int v), .d (.int p), .own false (.lst (t.map (rqD K)))] = some (.ok (.own (.lst ((t.take p).map (rqD K)))) [.d (ksD K), .d (tkD K t), .own true (.lst (dI l2)), .d (.int v), .d (.int p), .own false (.lst (t.map (rqD K)))]) := by
        refine ev_sl (a := .d (tkD K t)) (ev_var rfl) (fun k => bo_none) (fun k => bo_some (a := .d (.int p)) (ev_var rfl) rfl) pk_d ?_
        show some (RV.own (.lst (cutL (t.map (rqD K)) none (some (p : Int))))) = _
        rw [cutTo, List.map_take]
      have sl2 : sliceE (varE 1) (some (two (op2 addD) (varE 4) (constE (.int 1)))) none [.d (ksD K), .d (tkD K t), .own true (.lst (dI l2)), .d (.int v), .d (.int p), .own false (.lst (t.map (rqD K)))] = some (.ok (.own (.lst ((t.drop (p + 1)).map (rqD K)))) [.d (ksD K), .d (tkD K t), .own true (.lst (dI l2)), .d (.int v), .d (.int p), .own false (.lst (t.map (rqD K)))]) := by
        refine ev_sl (a := .d (tkD K t)) (ev_var rfl) (fun k => bo_some (a := .d (.int ((p + 1 : Nat) : Int))) (ev_two (ev_var rfl) ev_const pk_d pk_d Dw.add_int') rfl) (fun k => bo_none) pk_d ?_
        show some (RV.own (.lst (cutL (t.map (rqD K)) (some ((p + 1 : Nat) : Int)) none))) = _
        rw [cutFr, List.map_drop]
      have ad : addD (.lst ((t.take p).map (rqD K))) (.lst ((t.drop (p + 1)).map (rqD K))) = some (.own (.lst ((t.take p ++ t.drop (p + 1)).map (rqD K)))) := by
        rw [add_lst (by rw [List.length_map, List.length_map, List.length_take, List.length_drop]; omega), List.map_append]
      refine fin l2 (t.take p ++ t.drop (p + 1)) (fun x hx => ?_) (by rw [List.length_append, List.length_take, List.length_drop]; omega) (ev_seq2 (n0 h0 _ _) (ev_seq2 (ev_iteT c rfl (ev_asg (ev_two sl1 sl2 pk_own pk_own ad) (st_own rfl rfl))) (ev_seq2 (n2 (by omega) _ _) (n3 (by omega) _ _))))
      rcases List.mem_append.mp hx with hx | hx
      · exact okt x (List.mem_of_mem_take hx)
      · exact okt x (List.mem_of_mem_drop hx)
    · by_cases hp : p < t.length
      · have setok : ∀ q, okR K 80 q → okT K (t.set p q) := fun q hq x hx => by
          rcases List.mem_or_eq_of_mem_set hx with hx | rfl
          · exact okt x hx
          · exact hq
        have ix := ix_nat (n := (t.map (rqD K)).length) (j := p) (by rw [List.length_map]; exact hp)
        have hpb : decide ((p : Int) < t.length) = true := by rw [decide_eq_true_eq]; omega
        by_cases h2 : v = 2
        · have c := ev_andB (cv l2 (t.map (rqD K)) 2) (lp l2 (t.map (rqD K)))
          rw [show ((v : Int) == 2) = true from by rw [beq_iff_eq]; omega, hpb] at c
          obtain ⟨l3, q, q1, q2⟩ := call_rq hK (env := [.d (ksD K), .d (tkD K t), .own true (.lst (dI l2)), .d (.int v), .d (.int p), .own false (.lst (t.map (rqD K)))]) (i := 0) (j := 2) (ev_var rfl) rfl rfl rfl
          refine fin l3 (t.set p q) (setok q (okR_up q1)) (by rw [List.length_set]; omega) (ev_seq2 (n0 h0 _ _) (ev_seq2 (n1 h1 _ _) (ev_seq2 (ev_iteT c rfl (ev_setL q2 rfl rfl (ev_var rfl) pk_d rfl ix rfl)) ?_)))
          rw [← List.map_set]
          exact n3 (by omega) _ _
        · have c := ev_andB (gv l2 (t.map (rqD K))) (lp l2 (t.map (rqD K)))
          rw [show decide ((2 : Int) < v) = true from by rw [decide_eq_true_eq]; omega, hpb] at c
          have gt := get_rq (K := K) (List.getElem?_eq_getElem hp)
          obtain ⟨l3, q, q1, q2⟩ := ev_near_request hK (ht _ (List.getElem_mem hp)) l2
          have e : callM 2 m_ulawunearurequest [] (consA (varE 0) (consA (two (op2 getD) (varE 1) (varE 4)) (consA (varE 2) nilA))) [.d (ksD K), .d (tkD K t), .own true (.lst (dI l2)), .d (.int v), .d (.int p), .own false (.lst (t.map (rqD K)))] = some (.ok (.d (rqD K q)) [.d (ksD K), .d (tkD K t), .own true (.lst (dI l3)), .d (.int v), .d (.int p), .own false (.lst (t.map (rqD K)))]) :=
            ev_callM (as := [.d (ksD K), .d (rqD K t[p]), .cv 2]) (ev_cons (ev_var rfl) (ev_cons (ev_two (ev_var rfl) (ev_var rfl) pk_d pk_d gt) (ev_cons (ev_varO rfl) ev_nil))) rfl (xs := [ksD K, rqD K t[p], .non]) (frzs_cons frz_d (frzs_cons frz_d (frzs_cons frz_d frzs_nil))) rfl rfl q2 rfl rfl rfl
          refine fin l3 (t.set p q) (setok q q1) (by rw [List.length_set]; omega) (ev_seq2 (n0 h0 _ _) (ev_seq2 (n1 h1 _ _) (ev_seq2 (n2 (by omega) _ _) ?_)))
          rw [List.map_set]
          exact ev_iteT c rfl (ev_setL e rfl rfl (ev_var rfl) pk_d rfl ix rfl)
      · exact fin l2 t okt (by omega) (ev_seq2 (n0 h0 _ _) (ev_seq2 (n1 h1 _ _) (ev_seq2 (n2 (by omega) _ _) (n3 (by omega) _ _))))
end
end P_talkalike_k19_order_of_talks
namespace P_talkalike_k19_order_of_talks
noncomputable section
open PySem PySem.Spec PyProof.Rows L2 Dw
/-! ### the law -/
def Hw (xs : List D) (w : SV) : Prop := w = .own false (.lst xs) ∨ w = .d (.lst xs)
theorem Hw.free {xs : List D} {w : SV} (h : Hw xs w) : freeSlot (some w) = true := by rcases h with rfl | rfl <;> rfl
theorem draw_talk {K : List Kd} (hK : okK K) {s0 s3 s4 s5 s6 s8 s9 w2 : SV} (h2 : Hw (K.map kD) w2) {n : Nat} (hn : n ≤ 60) (ls : List Int) : ∃ (ls' : List Int) (w2' : SV) (t : Tk), Hw (K.map kD) w2' ∧ t.length = n ∧ (∀ q ∈ t, okR K 36 q) ∧
    compD [7] (.nm 7) none (callM 1 m_ulawurequest [] (consA (varE 2) (consA (varE 1) nilA))) ((List.range n).map fun i => .int (i : Nat)) [] [s0, .own false (.lst (dI ls)), w2, s3, s4, s5, s6, .un, s8, s9] = some (t.map (rqD K), [s0, .own false (.lst (dI ls')), w2', s3, s4, s5, s6, .un, s8, s9]) := by
  obtain ⟨ys, env', c1, ⟨l2, w, t, q1, rfl, q3, rfl⟩, c3⟩ := comp_inv (vs := [7]) (tg := .nm 7) (fe := callM 1 m_ulawurequest [] (consA (varE 2) (consA (varE 1) nilA))) ((List.range n).map fun i => .int (i : Nat)) []
    (fun acc env => ∃ (ls : List Int) (w : SV) (t : Tk), Hw (K.map kD) w ∧ acc = t.map (rqD K) ∧ (∀ q ∈ t, okR K 36 q) ∧ env = [s0, .own false (.lst (dI ls)), w, s3, s4, s5, s6, .un, s8, s9]) [s0, .own false (.lst (dI ls)), w2, s3, s4, s5, s6, .un, s8, s9] ⟨ls, w2, [], h2, rfl, by simp, rfl⟩ (by
      rintro x acc env hx ⟨l0, w, t, q1, rfl, q3, rfl⟩
      have h : ∃ (l1 : List Int) (q : Rq), okR K 36 q ∧ callM 1 m_ulawurequest [] (consA (varE 2) (consA (varE 1) nilA)) [s0, .own false (.lst (dI l0)), w, s3, s4, s5, s6, .d x, s8, s9] = some (.ok (.d (rqD K q)) [s0, .own false (.lst (dI l1)), .d (ksD K), s3, s4, s5, s6, .d x, s8, s9]) := by
        rcases q1 with rfl | rfl
        · exact call_rq hK (env1 := [s0, .own false (.lst (dI l0)), .d (ksD K), s3, s4, s5, s6, .d x, s8, s9]) (i := 2) (j := 1) (ev_varO rfl) (frz_cv rfl rfl) rfl rfl
        · exact call_rq hK (env1 := [s0, .own false (.lst (dI l0)), .d (ksD K), s3, s4, s5, s6, .d x, s8, s9]) (i := 2) (j := 1) (ev_var rfl) rfl rfl rfl
      obtain ⟨l1, q, r1, r2⟩ := h
      refine ⟨[s0, .own false (.lst (dI l0)), w, s3, s4, s5, s6, .d x, s8, s9], .d (rqD K q), [s0, .own false (.lst (dI l1)), .d (ksD K), s3, s4, s5, s6, .d x, s8, s9], rqD K q, [s0, .own false (.lst (dI l1)), .d (ksD K), s3, s4, s5, s6, .d x, s8, s9], putT_nm rfl rfl, r2, rfl, l1, .d (ksD K), t ++ [q], .inr rfl, by rw [List.map_append]; rfl, fun y hy => ?_, rfl⟩
      rcases List.mem_append.mp hy with hy | hy
      · exact q3 y hy
      · rw [List.mem_singleton] at hy; subst hy; exact r1) (by simp; omega)
  exact ⟨l2, w, t, q1, by simpa using c3, q3, c1⟩
theorem min_nat {a b : Nat} : minC [.int (a : Nat), .int (b : Nat)] = some (.d (.int ((min a b : Nat) : Int))) := by
  show some (RV.d (.int (if (b : Int) < a then (b : Int) else (a : Int)))) = _
  by_cases h : b < a
  · rw [if_pos (by omega), Nat.min_eq_right (by omega)]
  · rw [if_neg (by omega), Nat.min_eq_left (by omega)]
theorem law_loop {K : List Kd} (hK : okK K) {s t : Tk} (hs : okT K s) (ht : okT K t) {s0 s1 s3 s6 : SV} : ∃ w7 w8 w9, loopD (.nm 7) l_law_3 ((List.range (min t.length s.length)).map fun i => .int (i : Nat)) [s0, s1, .d (ksD K), s3, .d (tkD K t), .d (tkD K s), s6, .un, .un, .un] = some (.nx [s0, s1, .d (ksD K), s3, .d (tkD K t), .d (tkD K s), s6, w7, w8, w9]) := by
  obtain ⟨env', h1, w7, w8, w9, _, rfl⟩ := loop_run (tg := .nm 7) (body := l_law_3) ((List.range (min t.length s.length)).map fun i => .int (i : Nat))
    (fun k env => ∃ w7 w8 w9 : SV, (freeSlot (some w7) = true ∧ freeSlot (some w8) = true ∧ freeSlot (some w9) = true) ∧ env = [s0, s1, .d (ksD K), s3, .d (tkD K t), .d (tkD K s), s6, w7, w8, w9])
    [s0, s1, .d (ksD K), s3, .d (tkD K t), .d (tkD K s), s6, .un, .un, .un] ⟨.un, .un, .un, ⟨rfl, rfl, rfl⟩, rfl⟩ (by
      rintro k z env hz ⟨w7, w8, w9, ⟨f7, f8, f9⟩, rfl⟩
      rw [List.getElem?_map] at hz
      obtain ⟨i, hi, rfl⟩ := Option.map_eq_some_iff.mp hz
      have hk : k < min t.length s.length := by
        have := (List.getElem?_eq_some_iff.mp hi).1
        rwa [List.length_range] at this
      rw [List.getElem?_range hk] at hi
      cases hi
      have hk1 : k < t.length := by omega
      have hk2 : k < s.length := by omega
      have gt := get_rq (K := K) (List.getElem?_eq_getElem hk1)
      have gs := get_rq (K := K) (List.getElem?_eq_getElem hk2)
      have ot := ht _ (List.getElem_mem hk1)
      have os := hs _ (List.getElem_mem hk2)
      generalize t[k] = a at gt ot
      generalize s[k] = b at gs os
      obtain ⟨o1, e1⟩ := ev_rq_before hK ot os
      obtain ⟨o2, e2⟩ := ev_rq_before hK os ot
      obtain ⟨o3, e3⟩ := ev_cmp_r hK ot os
      have e4 := ev_sign (befR a b) (befR b a)
      have e5 := ev_isint (i := signV (befR a b) (befR b a))
      have a8 : asgS 8 (callD m_ulawurequestubefore [] (consA (varE 2) (consA (two (op2 getD) (varE 4) (varE 7)) (consA (two (op2 getD) (varE 5) (varE 7)) nilA)))) [s0, s1, .d (ksD K), s3, .d (tkD K t), .d (tkD K s), s6, .d (.int k), w8, w9] = some (.nx [s0, s1, .d (ksD K), s3, .d (tkD K t), .d (tkD K s), s6, .d (.int k), .d (.bl (befR a b)), w9]) := by repeat' (first | with_reducible exact gt | with_reducible exact gs | with_reducible exact e1 | exact f8 | with_reducible exact Dw.ty_str | with_reducible exact Dw.ty_lst | with_reducible exact Dw.lst_eq | with_reducible exact Dw.set_z | with_reducible exact Dw.ret_d | with_reducible exact Dw.ret_own | with_reducible exact Dw.mapd_nn | with_reducible exact Dw.ev_const | with_reducible exact Dw.ev_nil | with_reducible exact Dw.pk_d | with_reducible exact Dw.pk_own | with_reducible exact Dw.pks_nil | with_reducible exact Dw.frz_d | with_reducible exact Dw.frz_own | with_reducible exact Dw.frzs_nil | with_reducible exact Dw.tru_bl | with_reducible exact Dw.ev_skip | with_reducible exact Dw.len_lst | with_reducible exact Dw.len_tup | with_reducible exact Dw.eq_int | with_reducible exact Dw.ne_int | with_reducible exact Dw.eq_str | with_reducible exact Dw.ne_str | with_reducible exact Dw.eq_bl | with_reducible exact Dw.ne_bl | with_reducible exact Dw.lt_int' | with_reducible exact Dw.lt_str' | with_reducible exact Dw.le_int' | with_reducible exact Dw.gt_int' | with_reducible exact Dw.ge_int' | with_reducible exact Dw.add_int' | with_reducible exact Dw.sub_int' | with_reducible exact Dw.neg_int' | with_reducible exact Dw.ord_str | with_reducible exact Dw.int_int | with_reducible exact Dw.int_bl | with_reducible exact Dw.list_lst | with_reducible exact Dw.list_tup | with_reducible exact Dw.tup_lst | with_reducible exact Dw.tup_tup | with_reducible exact Dw.it_lst | with_reducible exact Dw.it_tup | with_reducible exact Dw.it_str | ((with_reducible apply Dw.ev_var); exact rfl) | ((with_reducible apply Dw.ev_varO); exact rfl) | ((with_reducible apply Dw.pk_cv); exact rfl) | ((with_reducible apply Dw.fs_ok); exact rfl) | ((with_reducible apply Dw.gE); exact rfl) | with_reducible apply Dw.ev_two | with_reducible apply Dw.ev_one | with_reducible apply Dw.ev_cons | with_reducible apply Dw.pks_cons | with_reducible apply Dw.ev_callE | with_reducible apply Dw.ev_isi | with_reducible apply Dw.frzs_cons | with_reducible apply Dw.ev_tup | with_reducible apply Dw.ev_lst | with_reducible apply Dw.ev_not | with_reducible apply Dw.ev_met | with_reducible apply Dw.ev_mut | with_reducible apply Dw.ev_ret | with_reducible apply Dw.ev_expr | with_reducible apply Dw.ev_asg | with_reducible apply Dw.ev_args | with_reducible apply Dw.ev_src | with_reducible apply Dw.ev_callD | with_reducible apply Dw.mapd_c | with_reducible apply Dw.mapd_d | with_reducible apply Dw.set_s | with_reducible apply Dw.st_d | with_reducible apply Dw.st_own | with_reducible apply Dw.st_cv | with_reducible apply Dw.frz_cv | ((with_reducible apply Dw.len_str); assumption) | ((with_reducible apply Dw.get_str) <;> assumption) | with_reducible assumption)
      have a9 : asgS 9 (callD m_ulawurequestubefore [] (consA (varE 2) (consA (two (op2 getD) (varE 5) (varE 7)) (consA (two (op2 getD) (varE 4) (varE 7)) nilA)))) [s0, s1, .d (ksD K), s3, .d (tkD K t), .d (tkD K s), s6, .d (.int k), .d (.bl (befR a b)), w9] = some (.nx [s0, s1, .d (ksD K), s3, .d (tkD K t), .d (tkD K s), s6, .d (.int k), .d (.bl (befR a b)), .d (.bl (befR b a))]) := by repeat' (first | with_reducible exact gt | with_reducible exact gs | with_reducible exact e2 | exact f9 | with_reducible exact Dw.ty_str | with_reducible exact Dw.ty_lst | with_reducible exact Dw.lst_eq | with_reducible exact Dw.set_z | with_reducible exact Dw.ret_d | with_reducible exact Dw.ret_own | with_reducible exact Dw.mapd_nn | with_reducible exact Dw.ev_const | with_reducible exact Dw.ev_nil | with_reducible exact Dw.pk_d | with_reducible exact Dw.pk_own | with_reducible exact Dw.pks_nil | with_reducible exact Dw.frz_d | with_reducible exact Dw.frz_own | with_reducible exact Dw.frzs_nil | with_reducible exact Dw.tru_bl | with_reducible exact Dw.ev_skip | with_reducible exact Dw.len_lst | with_reducible exact Dw.len_tup | with_reducible exact Dw.eq_int | with_reducible exact Dw.ne_int | with_reducible exact Dw.eq_str | with_reducible exact Dw.ne_str | with_reducible exact Dw.eq_bl | with_reducible exact Dw.ne_bl | with_reducible exact Dw.lt_int' | with_reducible exact Dw.lt_str' | with_reducible exact Dw.le_int' | with_reducible exact Dw.gt_int' | with_reducible exact Dw.ge_int' | with_reducible exact Dw.add_int' | with_reducible exact Dw.sub_int' | with_reducible exact Dw.neg_int' | with_reducible exact Dw.ord_str | with_reducible exact Dw.int_int | with_reducible exact Dw.int_bl | with_reducible exact Dw.list_lst | with_reducible exact Dw.list_tup | with_reducible exact Dw.tup_lst | with_reducible exact Dw.tup_tup | with_reducible exact Dw.it_lst | with_reducible exact Dw.it_tup | with_reducible exact Dw.it_str | ((with_reducible apply Dw.ev_var); exact rfl) | ((with_reducible apply Dw.ev_varO); exact rfl) | ((with_reducible apply Dw.pk_cv); exact rfl) | ((with_reducible apply Dw.fs_ok); exact rfl) | ((with_reducible apply Dw.gE); exact rfl) | with_reducible apply Dw.ev_two | with_reducible apply Dw.ev_one | with_reducible apply Dw.ev_cons | with_reducible apply Dw.pks_cons | with_reducible apply Dw.ev_callE | with_reducible apply Dw.ev_isi | with_reducible apply Dw.frzs_cons | with_reducible apply Dw.ev_tup | with_reducible apply Dw.ev_lst | with_reducible apply Dw.ev_not | with_reducible apply Dw.ev_met | with_reducible apply Dw.ev_mut | with_reducible apply Dw.ev_ret | with_reducible apply Dw.ev_expr | with_reducible apply Dw.ev_asg | with_reducible apply Dw.ev_args | with_reducible apply Dw.ev_src | with_reducible apply Dw.ev_callD | with_reducible apply Dw.mapd_c | with_reducible apply Dw.mapd_d | with_reducible apply Dw.set_s | with_reducible apply Dw.st_d | with_reducible apply Dw.st_own | with_reducible apply Dw.st_cv | with_reducible apply Dw.frz_cv | ((with_reducible apply Dw.len_str); assumption) | ((with_reducible apply Dw.get_str) <;> assumption) | with_reducible assumption)
      have c : notE (callD m_ulawuisuinteger [] (consA (callD m_compare_requests [] (consA (varE 2) (consA (two (op2 getD) (varE 4) (varE 7)) (consA (two (op2 getD) (varE 5) (varE 7)) nilA)))) (consA (callD m_ulawusign [] (consA (varE 8) (consA (varE 9) nilA))) nilA))) [s0, s1, .d (ksD K), s3, .d (tkD K t), .d (tkD K s), s6, .d (.int k), .d (.bl (befR a b)), .d (.bl (befR b a))] = some (.ok (.d (.bl (!true))) [s0, s1, .d (ksD K), s3, .d (tkD K t), .d (tkD K s), s6, .d (.int k), .d (.bl (befR a b)), .d (.bl (befR b a))]) := by repeat' (first | with_reducible exact gt | with_reducible exact gs | with_reducible exact e3 | with_reducible exact e4 | with_reducible exact e5 | with_reducible exact Dw.ty_str | with_reducible exact Dw.ty_lst | with_reducible exact Dw.lst_eq | with_reducible exact Dw.set_z | with_reducible exact Dw.ret_d | with_reducible exact Dw.ret_own | with_reducible exact Dw.mapd_nn | with_reducible exact Dw.ev_const | with_reducible exact Dw.ev_nil | with_reducible exact Dw.pk_d | with_reducible exact Dw.pk_own | with_reducible exact Dw.pks_nil | with_reducible exact Dw.frz_d | with_reducible exact Dw.frz_own | with_reducible exact Dw.frzs_nil | with_reducible exact Dw.tru_bl | with_reducible exact Dw.ev_skip | with_reducible exact Dw.len_lst | with_reducible exact Dw.len_tup | with_reducible exact Dw.eq_int | with_reducible exact Dw.ne_int | with_reducible exact Dw.eq_str | with_reducible exact Dw.ne_str | with_reducible exact Dw.eq_bl | with_reducible exact Dw.ne_bl | with_reducible exact Dw.lt_int' | with_reducible exact Dw.lt_str' | with_reducible exact Dw.le_int' | with_reducible exact Dw.gt_int' | with_reducible exact Dw.ge_int' | with_reducible exact Dw.add_int' | with_reducible exact Dw.sub_int' | with_reducible exact Dw.neg_int' | with_reducible exact Dw.ord_str | with_reducible exact Dw.int_int | with_reducible exact Dw.int_bl | with_reducible exact Dw.list_lst | with_reducible exact Dw.list_tup | with_reducible exact Dw.tup_lst | with_reducible exact Dw.tup_tup | with_reducible exact Dw.it_lst | with_reducible exact Dw.it_tup | with_reducible exact Dw.it_str | ((with_reducible apply Dw.ev_var); exact rfl) | ((with_reducible apply Dw.ev_varO); exact rfl) | ((with_reducible apply Dw.pk_cv); exact rfl) | ((with_reducible apply Dw.fs_ok); exact rfl) | ((with_reducible apply Dw.gE); exact rfl) | with_reducible apply Dw.ev_two | with_reducible apply Dw.ev_one | with_reducible apply Dw.ev_cons | with_reducible apply Dw.pks_cons | with_reducible apply Dw.ev_callE | with_reducible apply Dw.ev_isi | with_reducible apply Dw.frzs_cons | with_reducible apply Dw.ev_tup | with_reducible apply Dw.ev_lst | with_reducible apply Dw.ev_not | with_reducible apply Dw.ev_met | with_reducible apply Dw.ev_mut | with_reducible apply Dw.ev_ret | with_reducible apply Dw.ev_expr | with_reducible apply Dw.ev_asg | with_reducible apply Dw.ev_args | with_reducible apply Dw.ev_src | with_reducible apply Dw.ev_callD | with_reducible apply Dw.mapd_c | with_reducible apply Dw.mapd_d | with_reducible apply Dw.set_s | with_reducible apply Dw.st_d | with_reducible apply Dw.st_own | with_reducible apply Dw.st_cv | with_reducible apply Dw.frz_cv | ((with_reducible apply Dw.len_str); assumption) | ((with_reducible apply Dw.get_str) <;> assumption) | with_reducible assumption)
      refine ⟨[s0, s1, .d (ksD K), s3, .d (tkD K t), .d (tkD K s), s6, .d (.int k), w8, w9], _, putT_nm f7 rfl, .inl ?_, .d (.int k), .d (.bl (befR a b)), .d (.bl (befR b a)), ⟨rfl, rfl, rfl⟩, rfl⟩
      unfold l_law_3
      exact ev_seq2 a8 (ev_seq2 a9 (ev_iteF c rfl ev_skip)))
  exact ⟨w7, w8, w9, h1⟩
theorem main (ns : List Int) (hn : ns.length ≤ 63) : ∃ o, m_law [.d (.lst (ns.map .int))] = some (.ok (.d (.bl true)) o) := by
  obtain ⟨l0, o0, st⟩ := ev_stream ns hn
  have b1 : asgS 1 (callD m_ulawustream [] (consA (varE 0) (consA (constE (.int 300)) nilA))) [.d (.lst (dI ns)), .un, .un, .un, .un, .un, .un, .un, .un, .un] = some (.nx [.d (.lst (dI ns)), .own false (.lst (dI l0)), .un, .un, .un, .un, .un, .un, .un, .un]) :=
    ev_asg (ev_callD (as := [.d (.lst (dI ns)), .d (.int 300)]) (xs := [.lst (dI ns), .int 300]) (ev_cons (ev_var rfl) (ev_cons ev_const ev_nil)) (frzs_cons frz_d (frzs_cons frz_d frzs_nil)) rfl st rfl) (st_own rfl rfl)
  obtain ⟨l1, K, hK, kk⟩ := ev_kinds l0
  have b2 : asgS 2 (callM 0 m_ulawukinds [] (consA (varE 1) nilA)) [.d (.lst (dI ns)), .own false (.lst (dI l0)), .un, .un, .un, .un, .un, .un, .un, .un] = some (.nx [.d (.lst (dI ns)), .own false (.lst (dI l1)), .own false (.lst (K.map kD)), .un, .un, .un, .un, .un, .un, .un]) :=
    ev_asg (ev_callM (as := [.cv 1]) (ev_cons (ev_varO rfl) ev_nil) rfl (xs := [.non]) (frzs_cons frz_d frzs_nil) rfl rfl kk rfl rfl rfl) (st_own rfl rfl)
  obtain ⟨l2, v, v1, t3⟩ := take_at (env := [.d (.lst (dI ns)), .own false (.lst (dI l1)), .own false (.lst (K.map kD)), .un, .un, .un, .un, .un, .un, .un]) (env' := []) (i := 1) (n := 8) (fb := constE (.int 8)) (by decide) rfl ev_const
  obtain ⟨l3, u, u1, t4⟩ := take_at (env := [.d (.lst (dI ns)), .own false (.lst (dI l2)), .own false (.lst (K.map kD)), .d (.int v), .un, .un, .un, .un, .un, .un]) (env' := []) (i := 1) (n := 8) (fb := constE (.int 8)) (by decide) rfl ev_const
  have c4 : two (op2 eqD) (callM 0 m_ulawutake [] (consA (varE 1) (consA (constE (.int 8)) nilA))) (constE (.int 3)) [.d (.lst (dI ns)), .own false (.lst (dI l2)), .own false (.lst (K.map kD)), .d (.int v), .un, .un, .un, .un, .un, .un] = some (.ok (.d (.bl ((u : Int) == 3))) [.d (.lst (dI ns)), .own false (.lst (dI l3)), .own false (.lst (K.map kD)), .d (.int v), .un, .un, .un, .un, .un, .un]) := ev_two t4 ev_const pk_d pk_d Dw.eq_int
  have b4 : ∃ n : Nat, n ≤ 47 ∧ iteS (two (op2 eqD) (callM 0 m_ulawutake [] (consA (varE 1) (consA (constE (.int 8)) nilA))) (constE (.int 3))) (asgS 3 (two (op2 addD) (varE 3) (constE (.int 40)))) skipS [.d (.lst (dI ns)), .own false (.lst (dI l2)), .own false (.lst (K.map kD)), .d (.int v), .un, .un, .un, .un, .un, .un] = some (.nx [.d (.lst (dI ns)), .own false (.lst (dI l3)), .own false (.lst (K.map kD)), .d (.int n), .un, .un, .un, .un, .un, .un]) := by
    cases hb : (u : Int) == 3 with
    | true =>
      rw [hb] at c4
      refine ⟨v + 40, by omega, ev_iteT c4 rfl ?_⟩
      rw [show ((v + 40 : Nat) : Int) = (v : Int) + 40 by omega]
      repeat' (first  | with_reducible exact Dw.ty_str | with_reducible exact Dw.ty_lst | with_reducible exact Dw.lst_eq | with_reducible exact Dw.set_z | with_reducible exact Dw.ret_d | with_reducible exact Dw.ret_own | with_reducible exact Dw.mapd_nn | with_reducible exact Dw.ev_const | with_reducible exact Dw.ev_nil | with_reducible exact Dw.pk_d | with_reducible exact Dw.pk_own | with_reducible exact Dw.pks_nil | with_reducible exact Dw.frz_d | with_reducible exact Dw.frz_own | with_reducible exact Dw.frzs_nil | with_reducible exact Dw.tru_bl | with_reducible exact Dw.ev_skip | with_reducible exact Dw.len_lst | with_reducible exact Dw.len_tup | with_reducible exact Dw.eq_int | with_reducible exact Dw.ne_int | with_reducible exact Dw.eq_str | with_reducible exact Dw.ne_str | with_reducible exact Dw.eq_bl | with_reducible exact Dw.ne_bl | with_reducible exact Dw.lt_int' | with_reducible exact Dw.lt_str' | with_reducible exact Dw.le_int' | with_reducible exact Dw.gt_int' | with_reducible exact Dw.ge_int' | with_reducible exact Dw.add_int' | with_reducible exact Dw.sub_int' | with_reducible exact Dw.neg_int' | with_reducible exact Dw.ord_str | with_reducible exact Dw.int_int | with_reducible exact Dw.int_bl | with_reducible exact Dw.list_lst | with_reducible exact Dw.list_tup | with_reducible exact Dw.tup_lst | with_reducible exact Dw.tup_tup | with_reducible exact Dw.it_lst | with_reducible exact Dw.it_tup | with_reducible exact Dw.it_str | ((with_reducible apply Dw.ev_var); exact rfl) | ((with_reducible apply Dw.ev_varO); exact rfl) | ((with_reducible apply Dw.pk_cv); exact rfl) | ((with_reducible apply Dw.fs_ok); exact rfl) | ((with_reducible apply Dw.gE); exact rfl) | with_reducible apply Dw.ev_two | with_reducible apply Dw.ev_one | with_reducible apply Dw.ev_cons | with_reducible apply Dw.pks_cons | with_reducible apply Dw.ev_callE | with_reducible apply Dw.ev_isi | with_reducible apply Dw.frzs_cons | with_reducible apply Dw.ev_tup | with_reducible apply Dw.ev_lst | with_reducible apply Dw.ev_not | with_reducible apply Dw.ev_met | with_reducible apply Dw.ev_mut | with_reducible apply Dw.ev_ret | with_reducible apply Dw.ev_expr | with_reducible apply Dw.ev_asg | with_reducible apply Dw.ev_args | with_reducible apply Dw.ev_src | with_reducible apply Dw.ev_callD | with_reducible apply Dw.mapd_c | with_reducible apply Dw.mapd_d | with_reducible apply Dw.set_s | with_reducible apply Dw.st_d | with_reducible apply Dw.st_own | with_reducible apply Dw.st_cv | with_reducible apply Dw.frz_cv | ((with_reducible apply Dw.len_str); assumption) | ((with_reducible apply Dw.get_str) <;> assumption) | with_reducible assumption)
    | false => rw [hb] at c4; exact ⟨v, by omega, ev_iteF c4 rfl ev_skip⟩
  obtain ⟨n, n1, b4⟩ := b4
  obtain ⟨l4, w2, t, h2, tl, ht, c5⟩ := draw_talk hK (s0 := .d (.lst (dI ns))) (s3 := .d (.int n)) (s4 := .un) (s5 := .un) (s6 := .un) (s8 := .un) (s9 := .un) (w2 := .own false (.lst (K.map kD))) (.inl rfl) (n := n) (by omega) l3
  have b5 : asgS 4 (compE [7] (argsI rng1 (consA (varE 3) nilA)) (.nm 7) none e_law_1) [.d (.lst (dI ns)), .own false (.lst (dI l3)), .own false (.lst (K.map kD)), .d (.int n), .un, .un, .un, .un, .un, .un] = some (.nx [.d (.lst (dI ns)), .own false (.lst (dI l4)), w2, .d (.int n), .own false (.lst (t.map (rqD K))), .un, .un, .un, .un, .un]) :=
    ev_asg (ev_comp (env1 := [.d (.lst (dI ns)), .own false (.lst (dI l3)), .own false (.lst (K.map kD)), .d (.int n), .un, .un, .un, .un, .un, .un]) (ev_args (as := [.d (.int n)]) (by repeat' (first  | with_reducible exact Dw.ty_str | with_reducible exact Dw.ty_lst | with_reducible exact Dw.lst_eq | with_reducible exact Dw.set_z | with_reducible exact Dw.ret_d | with_reducible exact Dw.ret_own | with_reducible exact Dw.mapd_nn | with_reducible exact Dw.ev_const | with_reducible exact Dw.ev_nil | with_reducible exact Dw.pk_d | with_reducible exact Dw.pk_own | with_reducible exact Dw.pks_nil | with_reducible exact Dw.frz_d | with_reducible exact Dw.frz_own | with_reducible exact Dw.frzs_nil | with_reducible exact Dw.tru_bl | with_reducible exact Dw.ev_skip | with_reducible exact Dw.len_lst | with_reducible exact Dw.len_tup | with_reducible exact Dw.eq_int | with_reducible exact Dw.ne_int | with_reducible exact Dw.eq_str | with_reducible exact Dw.ne_str | with_reducible exact Dw.eq_bl | with_reducible exact Dw.ne_bl | with_reducible exact Dw.lt_int' | with_reducible exact Dw.lt_str' | with_reducible exact Dw.le_int' | with_reducible exact Dw.gt_int' | with_reducible exact Dw.ge_int' | with_reducible exact Dw.add_int' | with_reducible exact Dw.sub_int' | with_reducible exact Dw.neg_int' | with_reducible exact Dw.ord_str | with_reducible exact Dw.int_int | with_reducible exact Dw.int_bl | with_reducible exact Dw.list_lst | with_reducible exact Dw.list_tup | with_reducible exact Dw.tup_lst | with_reducible exact Dw.tup_tup | with_reducible exact Dw.it_lst | with_reducible exact Dw.it_tup | with_reducible exact Dw.it_str | ((with_reducible apply Dw.ev_var); exact rfl) | ((with_reducible apply Dw.ev_varO); exact rfl) | ((with_reducible apply Dw.pk_cv); exact rfl) | ((with_reducible apply Dw.fs_ok); exact rfl) | ((with_reducible apply Dw.gE); exact rfl) | with_reducible apply Dw.ev_two | with_reducible apply Dw.ev_one | with_reducible apply Dw.ev_cons | with_reducible apply Dw.pks_cons | with_reducible apply Dw.ev_callE | with_reducible apply Dw.ev_isi | with_reducible apply Dw.frzs_cons | with_reducible apply Dw.ev_tup | with_reducible apply Dw.ev_lst | with_reducible apply Dw.ev_not | with_reducible apply Dw.ev_met | with_reducible apply Dw.ev_mut | with_reducible apply Dw.ev_ret | with_reducible apply Dw.ev_expr | with_reducible apply Dw.ev_asg | with_reducible apply Dw.ev_args | with_reducible apply Dw.ev_src | with_reducible apply Dw.ev_callD | with_reducible apply Dw.mapd_c | with_reducible apply Dw.mapd_d | with_reducible apply Dw.set_s | with_reducible apply Dw.st_d | with_reducible apply Dw.st_own | with_reducible apply Dw.st_cv | with_reducible apply Dw.frz_cv | ((with_reducible apply Dw.len_str); assumption) | ((with_reducible apply Dw.get_str) <;> assumption) | with_reducible assumption)) rfl (rng1_nat (by omega))) c5 rfl) (st_own rfl rfl)
  obtain ⟨l5, x, x1, t6⟩ := take_at (env := [.d (.lst (dI ns)), .own false (.lst (dI l4)), w2, .d (.int n), .own false (.lst (t.map (rqD K))), .un, .un, .un, .un, .un]) (env' := []) (i := 1) (n := 8) (fb := constE (.int 8)) (by decide) rfl ev_const
  obtain ⟨l6, w2', s0, h2', sl, hs0, c6⟩ := draw_talk hK (s0 := .d (.lst (dI ns))) (s3 := .d (.int n)) (s4 := .own false (.lst (t.map (rqD K)))) (s5 := .un) (s6 := .un) (s8 := .un) (s9 := .un) (w2 := w2) h2 (n := x) (by omega) l5
  have b6 : asgS 5 (compE [7] (argsI rng1 (consA (callM 0 m_ulawutake [] (consA (varE 1) (consA (constE (.int 8)) nilA))) nilA)) (.nm 7) none e_law_2) [.d (.lst (dI ns)), .own false (.lst (dI l4)), w2, .d (.int n), .own false (.lst (t.map (rqD K))), .un, .un, .un, .un, .un] = some (.nx [.d (.lst (dI ns)), .own false (.lst (dI l6)), w2', .d (.int n), .own false (.lst (t.map (rqD K))), .own false (.lst (s0.map (rqD K))), .un, .un, .un, .un]) :=
    ev_asg (ev_comp (env1 := [.d (.lst (dI ns)), .own false (.lst (dI l5)), w2, .d (.int n), .own false (.lst (t.map (rqD K))), .un, .un, .un, .un, .un]) (ev_args (as := [.d (.int x)]) (ev_cons t6 ev_nil) rfl (rng1_nat (by omega))) c6 rfl) (st_own rfl rfl)
  obtain ⟨l7, y, y1, t7⟩ := take_at (env := [.d (.lst (dI ns)), .own false (.lst (dI l6)), w2', .d (.int n), .own false (.lst (t.map (rqD K))), .own false (.lst (s0.map (rqD K))), .un, .un, .un, .un]) (env' := []) (i := 1) (n := 4) (fb := constE (.int 4)) (by decide) rfl ev_const
  have c7 : two (op2 gtD) (callM 0 m_ulawutake [] (consA (varE 1) (consA (constE (.int 4)) nilA))) (constE (.int 0)) [.d (.lst (dI ns)), .own false (.lst (dI l6)), w2', .d (.int n), .own false (.lst (t.map (rqD K))), .own false (.lst (s0.map (rqD K))), .un, .un, .un, .un] = some (.ok (.d (.bl (decide ((0 : Int) < y)))) [.d (.lst (dI ns)), .own false (.lst (dI l7)), w2', .d (.int n), .own false (.lst (t.map (rqD K))), .own false (.lst (s0.map (rqD K))), .un, .un, .un, .un]) := ev_two t7 ev_const pk_d pk_d Dw.gt_int'
  have b7 : ∃ (l8 : List Int) (w2 w4 : SV) (s : Tk), Hw (K.map kD) w2 ∧ Hw (t.map (rqD K)) w4 ∧ okT K s ∧ s.length ≤ 48 ∧ iteS (two (op2 gtD) (callM 0 m_ulawutake [] (consA (varE 1) (consA (constE (.int 4)) nilA))) (constE (.int 0))) (asgS 5 (callM 2 m_ulawunearutalk [] (consA (varE 2) (consA (varE 4) (consA (varE 1) nilA))))) skipS [.d (.lst (dI ns)), .own false (.lst (dI l6)), w2', .d (.int n), .own false (.lst (t.map (rqD K))), .own false (.lst (s0.map (rqD K))), .un, .un, .un, .un] = some (.nx [.d (.lst (dI ns)), .own false (.lst (dI l8)), w2, .d (.int n), w4, .own false (.lst (s.map (rqD K))), .un, .un, .un, .un]) := by
    cases hb : decide ((0 : Int) < y) with
    | false =>
      rw [hb] at c7
      exact ⟨l7, w2', _, s0, h2', .inl rfl, okT_up hs0, by omega, ev_iteF c7 rfl ev_skip⟩
    | true =>
      rw [hb] at c7
      obtain ⟨l8, s, z1, z2, z3⟩ := ev_near_talk hK ht (by omega) l7
      refine ⟨l8, .d (ksD K), .d (tkD K t), s, .inr rfl, .inr rfl, z1, by omega, ev_iteT c7 rfl (ev_asg (a := .own (.lst (s.map (rqD K)))) (env1 := [.d (.lst (dI ns)), .own false (.lst (dI l8)), .d (ksD K), .d (.int n), .d (tkD K t), .own false (.lst (s0.map (rqD K))), .un, .un, .un, .un]) ?_ (st_own rfl rfl))⟩
      rcases h2' with rfl | rfl
      · exact ev_callM (as := [.cv 2, .cv 4, .cv 1]) (ev_cons (ev_varO rfl) (ev_cons (ev_varO rfl) (ev_cons (ev_varO rfl) ev_nil))) rfl (xs := [ksD K, tkD K t, .non]) (frzs_cons (frz_cv rfl rfl) (frzs_cons (frz_cv rfl rfl) (frzs_cons frz_d frzs_nil))) rfl rfl z3 rfl rfl rfl
      · exact ev_callM (as := [.d (ksD K), .cv 4, .cv 1]) (ev_cons (ev_var rfl) (ev_cons (ev_varO rfl) (ev_cons (ev_varO rfl) ev_nil))) rfl (xs := [ksD K, tkD K t, .non]) (frzs_cons frz_d (frzs_cons (frz_cv rfl rfl) (frzs_cons frz_d frzs_nil))) rfl rfl z3 rfl rfl rfl
  obtain ⟨l8, w2a, w4, s, h2a, h4, hs, ls, b7⟩ := b7
  have okt := okT_up ht
  have lt : t.length ≤ 47 := by omega
  obtain ⟨o1, e1⟩ := ev_tk_before hK okt hs (by omega)
  obtain ⟨o2, e2⟩ := ev_tk_before hK hs okt (by omega)
  have e3 := ev_sign (befT t s) (befT s t)
  obtain ⟨o4, e4⟩ := ev_cmp_t hK okt hs (by omega) (by omega)
  obtain ⟨o5, e5⟩ := ev_cmp_t hK hs okt (by omega) (by omega)
  obtain ⟨o6, e6⟩ := ev_cmp_t hK okt okt (by omega) (by omega)
  rw [(ord_T K).cmp okt hs] at e4
  rw [(ord_T K).cmp hs okt, (ord_T K).neg okt hs] at e5
  rw [(ord_T K).self okt] at e6
  generalize signV (befT t s) (befT s t) = E at e3 e4 e5
  have b8 : asgS 6 (callD m_ulawusign [] (consA (callD m_ulawutalkubefore [] (consA (varE 2) (consA (varE 4) (consA (varE 5) nilA)))) (consA (callD m_ulawutalkubefore [] (consA (varE 2) (consA (varE 5) (consA (varE 4) nilA)))) nilA))) [.d (.lst (dI ns)), .own false (.lst (dI l8)), w2a, .d (.int n), w4, .own false (.lst (s.map (rqD K))), .un, .un, .un, .un] = some (.nx [.d (.lst (dI ns)), .own false (.lst (dI l8)), .d (ksD K), .d (.int n), .d (tkD K t), .d (tkD K s), .d (.int E), .un, .un, .un]) := by
    have p1 : callD m_ulawutalkubefore [] (consA (varE 2) (consA (varE 4) (consA (varE 5) nilA))) [.d (.lst (dI ns)), .own false (.lst (dI l8)), w2a, .d (.int n), w4, .own false (.lst (s.map (rqD K))), .un, .un, .un, .un] = some (.ok (.d (.bl (befT t s))) [.d (.lst (dI ns)), .own false (.lst (dI l8)), .d (ksD K), .d (.int n), .d (tkD K t), .d (tkD K s), .un, .un, .un, .un]) := by
      rcases h2a with rfl | rfl <;> rcases h4 with rfl | rfl
      · exact ev_callD (as := [.cv 2, .cv 4, .cv 5]) (xs := [ksD K, tkD K t, tkD K s]) (ev_cons (ev_varO rfl) (ev_cons (ev_varO rfl) (ev_cons (ev_varO rfl) ev_nil))) (frzs_cons (frz_cv rfl rfl) (frzs_cons (frz_cv rfl rfl) (frzs_cons (frz_cv rfl rfl) frzs_nil))) rfl e1 rfl
      · exact ev_callD (as := [.cv 2, .d (tkD K t), .cv 5]) (xs := [ksD K, tkD K t, tkD K s]) (ev_cons (ev_varO rfl) (ev_cons (ev_var rfl) (ev_cons (ev_varO rfl) ev_nil))) (frzs_cons (frz_cv rfl rfl) (frzs_cons frz_d (frzs_cons (frz_cv rfl rfl) frzs_nil))) rfl e1 rfl
      · exact ev_callD (as := [.d (ksD K), .cv 4, .cv 5]) (xs := [ksD K, tkD K t, tkD K s]) (ev_cons (ev_var rfl) (ev_cons (ev_varO rfl) (ev_cons (ev_varO rfl) ev_nil))) (frzs_cons frz_d (frzs_cons (frz_cv rfl rfl) (frzs_cons (frz_cv rfl rfl) frzs_nil))) rfl e1 rfl
      · exact ev_callD (as := [.d (ksD K), .d (tkD K t), .cv 5]) (xs := [ksD K, tkD K t, tkD K s]) (ev_cons (ev_var rfl) (ev_cons (ev_var rfl) (ev_cons (ev_varO rfl) ev_nil))) (frzs_cons frz_d (frzs_cons frz_d (frzs_cons (frz_cv rfl rfl) frzs_nil))) rfl e1 rfl
    repeat' (first | with_reducible exact p1 | with_reducible exact e2 | with_reducible exact e3 | with_reducible exact Dw.ty_str | with_reducible exact Dw.ty_lst | with_reducible exact Dw.lst_eq | with_reducible exact Dw.set_z | with_reducible exact Dw.ret_d | with_reducible exact Dw.ret_own | with_reducible exact Dw.mapd_nn | with_reducible exact Dw.ev_const | with_reducible exact Dw.ev_nil | with_reducible exact Dw.pk_d | with_reducible exact Dw.pk_own | with_reducible exact Dw.pks_nil | with_reducible exact Dw.frz_d | with_reducible exact Dw.frz_own | with_reducible exact Dw.frzs_nil | with_reducible exact Dw.tru_bl | with_reducible exact Dw.ev_skip | with_reducible exact Dw.len_lst | with_reducible exact Dw.len_tup | with_reducible exact Dw.eq_int | with_reducible exact Dw.ne_int | with_reducible exact Dw.eq_str | with_reducible exact Dw.ne_str | with_reducible exact Dw.eq_bl | with_reducible exact Dw.ne_bl | with_reducible exact Dw.lt_int' | with_reducible exact Dw.lt_str' | with_reducible exact Dw.le_int' | with_reducible exact Dw.gt_int' | with_reducible exact Dw.ge_int' | with_reducible exact Dw.add_int' | with_reducible exact Dw.sub_int' | with_reducible exact Dw.neg_int' | with_reducible exact Dw.ord_str | with_reducible exact Dw.int_int | with_reducible exact Dw.int_bl | with_reducible exact Dw.list_lst | with_reducible exact Dw.list_tup | with_reducible exact Dw.tup_lst | with_reducible exact Dw.tup_tup | with_reducible exact Dw.it_lst | with_reducible exact Dw.it_tup | with_reducible exact Dw.it_str | ((with_reducible apply Dw.ev_var); exact rfl) | ((with_reducible apply Dw.ev_varO); exact rfl) | ((with_reducible apply Dw.pk_cv); exact rfl) | ((with_reducible apply Dw.fs_ok); exact rfl) | ((with_reducible apply Dw.gE); exact rfl) | with_reducible apply Dw.ev_two | with_reducible apply Dw.ev_one | with_reducible apply Dw.ev_cons | with_reducible apply Dw.pks_cons | with_reducible apply Dw.ev_callE | with_reducible apply Dw.ev_isi | with_reducible apply Dw.frzs_cons | with_reducible apply Dw.ev_tup | with_reducible apply Dw.ev_lst | with_reducible apply Dw.ev_not | with_reducible apply Dw.ev_met | with_reducible apply Dw.ev_mut | with_reducible apply Dw.ev_ret | with_reducible apply Dw.ev_expr | with_reducible apply Dw.ev_asg | with_reducible apply Dw.ev_args | with_reducible apply Dw.ev_src | with_reducible apply Dw.ev_callD | with_reducible apply Dw.mapd_c | with_reducible apply Dw.mapd_d | with_reducible apply Dw.set_s | with_reducible apply Dw.st_d | with_reducible apply Dw.st_own | with_reducible apply Dw.st_cv | with_reducible apply Dw.frz_cv | ((with_reducible apply Dw.len_str); assumption) | ((with_reducible apply Dw.get_str) <;> assumption) | with_reducible assumption)
  obtain ⟨w7, w8, w9, lp⟩ := law_loop hK hs okt (s0 := .d (.lst (dI ns))) (s1 := .own false (.lst (dI l8))) (s3 := .d (.int n)) (s6 := .d (.int E))
  have i1 := ev_isint (i := E)
  have i2 := ev_isint (i := -E)
  have i3 := ev_isint (i := 0)
  have lnt := len_tk (K := K) (t := t)
  have lns := len_tk (K := K) (t := s)
  have mn := min_nat (a := t.length) (b := s.length)
  have g1 : notE (callD m_ulawuisuinteger [] (consA (callD m_compare_talks [] (consA (varE 2) (consA (varE 4) (consA (varE 5) nilA)))) (consA (varE 6) nilA))) [.d (.lst (dI ns)), .own false (.lst (dI l8)), .d (ksD K), .d (.int n), .d (tkD K t), .d (tkD K s), .d (.int E), .un, .un, .un] = some (.ok (.d (.bl (!true))) [.d (.lst (dI ns)), .own false (.lst (dI l8)), .d (ksD K), .d (.int n), .d (tkD K t), .d (tkD K s), .d (.int E), .un, .un, .un]) := by repeat' (first | with_reducible exact e4 | with_reducible exact i1 | with_reducible exact Dw.ty_str | with_reducible exact Dw.ty_lst | with_reducible exact Dw.lst_eq | with_reducible exact Dw.set_z | with_reducible exact Dw.ret_d | with_reducible exact Dw.ret_own | with_reducible exact Dw.mapd_nn | with_reducible exact Dw.ev_const | with_reducible exact Dw.ev_nil | with_reducible exact Dw.pk_d | with_reducible exact Dw.pk_own | with_reducible exact Dw.pks_nil | with_reducible exact Dw.frz_d | with_reducible exact Dw.frz_own | with_reducible exact Dw.frzs_nil | with_reducible exact Dw.tru_bl | with_reducible exact Dw.ev_skip | with_reducible exact Dw.len_lst | with_reducible exact Dw.len_tup | with_reducible exact Dw.eq_int | with_reducible exact Dw.ne_int | with_reducible exact Dw.eq_str | with_reducible exact Dw.ne_str | with_reducible exact Dw.eq_bl | with_reducible exact Dw.ne_bl | with_reducible exact Dw.lt_int' | with_reducible exact Dw.lt_str' | with_reducible exact Dw.le_int' | with_reducible exact Dw.gt_int' | with_reducible exact Dw.ge_int' | with_reducible exact Dw.add_int' | with_reducible exact Dw.sub_int' | with_reducible exact Dw.neg_int' | with_reducible exact Dw.ord_str | with_reducible exact Dw.int_int | with_reducible exact Dw.int_bl | with_reducible exact Dw.list_lst | with_reducible exact Dw.list_tup | with_reducible exact Dw.tup_lst | with_reducible exact Dw.tup_tup | with_reducible exact Dw.it_lst | with_reducible exact Dw.it_tup | with_reducible exact Dw.it_str | ((with_reducible apply Dw.ev_var); exact rfl) | ((with_reducible apply Dw.ev_varO); exact rfl) | ((with_reducible apply Dw.pk_cv); exact rfl) | ((with_reducible apply Dw.fs_ok); exact rfl) | ((with_reducible apply Dw.gE); exact rfl) | with_reducible apply Dw.ev_two | with_reducible apply Dw.ev_one | with_reducible apply Dw.ev_cons | with_reducible apply Dw.pks_cons | with_reducible apply Dw.ev_callE | with_reducible apply Dw.ev_isi | with_reducible apply Dw.frzs_cons | with_reducible apply Dw.ev_tup | with_reducible apply Dw.ev_lst | with_reducible apply Dw.ev_not | with_reducible apply Dw.ev_met | with_reducible apply Dw.ev_mut | with_reducible apply Dw.ev_ret | with_reducible apply Dw.ev_expr | with_reducible apply Dw.ev_asg | with_reducible apply Dw.ev_args | with_reducible apply Dw.ev_src | with_reducible apply Dw.ev_callD | with_reducible apply Dw.mapd_c | with_reducible apply Dw.mapd_d | with_reducible apply Dw.set_s | with_reducible apply Dw.st_d | with_reducible apply Dw.st_own | with_reducible apply Dw.st_cv | with_reducible apply Dw.frz_cv | ((with_reducible apply Dw.len_str); assumption) | ((with_reducible apply Dw.get_str) <;> assumption) | with_reducible assumption)
  have g2 : notE (callD m_ulawuisuinteger [] (consA (callD m_compare_talks [] (consA (varE 2) (consA (varE 5) (consA (varE 4) nilA)))) (consA (oneE negD (varE 6)) nilA))) [.d (.lst (dI ns)), .own false (.lst (dI l8)), .d (ksD K), .d (.int n), .d (tkD K t), .d (tkD K s), .d (.int E), .un, .un, .un] = some (.ok (.d (.bl (!true))) [.d (.lst (dI ns)), .own false (.lst (dI l8)), .d (ksD K), .d (.int n), .d (tkD K t), .d (tkD K s), .d (.int E), .un, .un, .un]) := by repeat' (first | with_reducible exact e5 | with_reducible exact i2 | with_reducible exact Dw.ty_str | with_reducible exact Dw.ty_lst | with_reducible exact Dw.lst_eq | with_reducible exact Dw.set_z | with_reducible exact Dw.ret_d | with_reducible exact Dw.ret_own | with_reducible exact Dw.mapd_nn | with_reducible exact Dw.ev_const | with_reducible exact Dw.ev_nil | with_reducible exact Dw.pk_d | with_reducible exact Dw.pk_own | with_reducible exact Dw.pks_nil | with_reducible exact Dw.frz_d | with_reducible exact Dw.frz_own | with_reducible exact Dw.frzs_nil | with_reducible exact Dw.tru_bl | with_reducible exact Dw.ev_skip | with_reducible exact Dw.len_lst | with_reducible exact Dw.len_tup | with_reducible exact Dw.eq_int | with_reducible exact Dw.ne_int | with_reducible exact Dw.eq_str | with_reducible exact Dw.ne_str | with_reducible exact Dw.eq_bl | with_reducible exact Dw.ne_bl | with_reducible exact Dw.lt_int' | with_reducible exact Dw.lt_str' | with_reducible exact Dw.le_int' | with_reducible exact Dw.gt_int' | with_reducible exact Dw.ge_int' | with_reducible exact Dw.add_int' | with_reducible exact Dw.sub_int' | with_reducible exact Dw.neg_int' | with_reducible exact Dw.ord_str | with_reducible exact Dw.int_int | with_reducible exact Dw.int_bl | with_reducible exact Dw.list_lst | with_reducible exact Dw.list_tup | with_reducible exact Dw.tup_lst | with_reducible exact Dw.tup_tup | with_reducible exact Dw.it_lst | with_reducible exact Dw.it_tup | with_reducible exact Dw.it_str | ((with_reducible apply Dw.ev_var); exact rfl) | ((with_reducible apply Dw.ev_varO); exact rfl) | ((with_reducible apply Dw.pk_cv); exact rfl) | ((with_reducible apply Dw.fs_ok); exact rfl) | ((with_reducible apply Dw.gE); exact rfl) | with_reducible apply Dw.ev_two | with_reducible apply Dw.ev_one | with_reducible apply Dw.ev_cons | with_reducible apply Dw.pks_cons | with_reducible apply Dw.ev_callE | with_reducible apply Dw.ev_isi | with_reducible apply Dw.frzs_cons | with_reducible apply Dw.ev_tup | with_reducible apply Dw.ev_lst | with_reducible apply Dw.ev_not | with_reducible apply Dw.ev_met | with_reducible apply Dw.ev_mut | with_reducible apply Dw.ev_ret | with_reducible apply Dw.ev_expr | with_reducible apply Dw.ev_asg | with_reducible apply Dw.ev_args | with_reducible apply Dw.ev_src | with_reducible apply Dw.ev_callD | with_reducible apply Dw.mapd_c | with_reducible apply Dw.mapd_d | with_reducible apply Dw.set_s | with_reducible apply Dw.st_d | with_reducible apply Dw.st_own | with_reducible apply Dw.st_cv | with_reducible apply Dw.frz_cv | ((with_reducible apply Dw.len_str); assumption) | ((with_reducible apply Dw.get_str) <;> assumption) | with_reducible assumption)
  have g3 : notE (callD m_ulawuisuinteger [] (consA (callD m_compare_talks [] (consA (varE 2) (consA (varE 4) (consA (varE 4) nilA)))) (consA (constE (.int 0)) nilA))) [.d (.lst (dI ns)), .own false (.lst (dI l8)), .d (ksD K), .d (.int n), .d (tkD K t), .d (tkD K s), .d (.int E), .un, .un, .un] = some (.ok (.d (.bl (!true))) [.d (.lst (dI ns)), .own false (.lst (dI l8)), .d (ksD K), .d (.int n), .d (tkD K t), .d (tkD K s), .d (.int E), .un, .un, .un]) := by repeat' (first | with_reducible exact e6 | with_reducible exact i3 | with_reducible exact Dw.ty_str | with_reducible exact Dw.ty_lst | with_reducible exact Dw.lst_eq | with_reducible exact Dw.set_z | with_reducible exact Dw.ret_d | with_reducible exact Dw.ret_own | with_reducible exact Dw.mapd_nn | with_reducible exact Dw.ev_const | with_reducible exact Dw.ev_nil | with_reducible exact Dw.pk_d | with_reducible exact Dw.pk_own | with_reducible exact Dw.pks_nil | with_reducible exact Dw.frz_d | with_reducible exact Dw.frz_own | with_reducible exact Dw.frzs_nil | with_reducible exact Dw.tru_bl | with_reducible exact Dw.ev_skip | with_reducible exact Dw.len_lst | with_reducible exact Dw.len_tup | with_reducible exact Dw.eq_int | with_reducible exact Dw.ne_int | with_reducible exact Dw.eq_str | with_reducible exact Dw.ne_str | with_reducible exact Dw.eq_bl | with_reducible exact Dw.ne_bl | with_reducible exact Dw.lt_int' | with_reducible exact Dw.lt_str' | with_reducible exact Dw.le_int' | with_reducible exact Dw.gt_int' | with_reducible exact Dw.ge_int' | with_reducible exact Dw.add_int' | with_reducible exact Dw.sub_int' | with_reducible exact Dw.neg_int' | with_reducible exact Dw.ord_str | with_reducible exact Dw.int_int | with_reducible exact Dw.int_bl | with_reducible exact Dw.list_lst | with_reducible exact Dw.list_tup | with_reducible exact Dw.tup_lst | with_reducible exact Dw.tup_tup | with_reducible exact Dw.it_lst | with_reducible exact Dw.it_tup | with_reducible exact Dw.it_str | ((with_reducible apply Dw.ev_var); exact rfl) | ((with_reducible apply Dw.ev_varO); exact rfl) | ((with_reducible apply Dw.pk_cv); exact rfl) | ((with_reducible apply Dw.fs_ok); exact rfl) | ((with_reducible apply Dw.gE); exact rfl) | with_reducible apply Dw.ev_two | with_reducible apply Dw.ev_one | with_reducible apply Dw.ev_cons | with_reducible apply Dw.pks_cons | with_reducible apply Dw.ev_callE | with_reducible apply Dw.ev_isi | with_reducible apply Dw.frzs_cons | with_reducible apply Dw.ev_tup | with_reducible apply Dw.ev_lst | with_reducible apply Dw.ev_not | with_reducible apply Dw.ev_met | with_reducible apply Dw.ev_mut | with_reducible apply Dw.ev_ret | with_reducible apply Dw.ev_expr | with_reducible apply Dw.ev_asg | with_reducible apply Dw.ev_args | with_reducible apply Dw.ev_src | with_reducible apply Dw.ev_callD | with_reducible apply Dw.mapd_c | with_reducible apply Dw.mapd_d | with_reducible apply Dw.set_s | with_reducible apply Dw.st_d | with_reducible apply Dw.st_own | with_reducible apply Dw.st_cv | with_reducible apply Dw.frz_cv | ((with_reducible apply Dw.len_str); assumption) | ((with_reducible apply Dw.get_str) <;> assumption) | with_reducible assumption)
  refine ⟨[.d (.lst (ns.map .int))], defM_rt (a := .d (.bl true)) (env := [.d (.lst (dI ns)), .own false (.lst (dI l8)), .d (ksD K), .d (.int n), .d (tkD K t), .d (tkD K s), .d (.int E), w7, w8, w9]) [.d (.lst (dI ns)), .un, .un, .un, .un, .un, .un, .un, .un, .un] rfl rfl ?_ rfl rfl⟩
  unfold b_law
  refine ev_seq2 b1 (ev_seq2 b2 (ev_seq2 (ev_asg t3 (st_d rfl rfl)) (ev_seq2 b4 (ev_seq2 b5 (ev_seq2 b6 (ev_seq2 b7 (ev_seq2 b8 (ev_seq2 (ev_iteF g1 rfl ev_skip) (ev_seq2 (ev_iteF g2 rfl ev_skip) (ev_seq2 (ev_iteF g3 rfl ev_skip) (ev_seq2 ?_ (ev_ret ev_const))))))))))))
  rw [ev_for (ev_args (as := [.d (.int ((min t.length s.length : Nat) : Int))]) (env1 := [.d (.lst (dI ns)), .own false (.lst (dI l8)), .d (ksD K), .d (.int n), .d (tkD K t), .d (tkD K s), .d (.int E), .un, .un, .un]) (by repeat' (first | with_reducible exact lnt | with_reducible exact lns | with_reducible exact mn | with_reducible exact Dw.ty_str | with_reducible exact Dw.ty_lst | with_reducible exact Dw.lst_eq | with_reducible exact Dw.set_z | with_reducible exact Dw.ret_d | with_reducible exact Dw.ret_own | with_reducible exact Dw.mapd_nn | with_reducible exact Dw.ev_const | with_reducible exact Dw.ev_nil | with_reducible exact Dw.pk_d | with_reducible exact Dw.pk_own | with_reducible exact Dw.pks_nil | with_reducible exact Dw.frz_d | with_reducible exact Dw.frz_own | with_reducible exact Dw.frzs_nil | with_reducible exact Dw.tru_bl | with_reducible exact Dw.ev_skip | with_reducible exact Dw.len_lst | with_reducible exact Dw.len_tup | with_reducible exact Dw.eq_int | with_reducible exact Dw.ne_int | with_reducible exact Dw.eq_str | with_reducible exact Dw.ne_str | with_reducible exact Dw.eq_bl | with_reducible exact Dw.ne_bl | with_reducible exact Dw.lt_int' | with_reducible exact Dw.lt_str' | with_reducible exact Dw.le_int' | with_reducible exact Dw.gt_int' | with_reducible exact Dw.ge_int' | with_reducible exact Dw.add_int' | with_reducible exact Dw.sub_int' | with_reducible exact Dw.neg_int' | with_reducible exact Dw.ord_str | with_reducible exact Dw.int_int | with_reducible exact Dw.int_bl | with_reducible exact Dw.list_lst | with_reducible exact Dw.list_tup | with_reducible exact Dw.tup_lst | with_reducible exact Dw.tup_tup | with_reducible exact Dw.it_lst | with_reducible exact Dw.it_tup | with_reducible exact Dw.it_str | ((with_reducible apply Dw.ev_var); exact rfl) | ((with_reducible apply Dw.ev_varO); exact rfl) | ((with_reducible apply Dw.pk_cv); exact rfl) | ((with_reducible apply Dw.fs_ok); exact rfl) | ((with_reducible apply Dw.gE); exact rfl) | with_reducible apply Dw.ev_two | with_reducible apply Dw.ev_one | with_reducible apply Dw.ev_cons | with_reducible apply Dw.pks_cons | with_reducible apply Dw.ev_callE | with_reducible apply Dw.ev_isi | with_reducible apply Dw.frzs_cons | with_reducible apply Dw.ev_tup | with_reducible apply Dw.ev_lst | with_reducible apply Dw.ev_not | with_reducible apply Dw.ev_met | with_reducible apply Dw.ev_mut | with_reducible apply Dw.ev_ret | with_reducible apply Dw.ev_expr | with_reducible apply Dw.ev_asg | with_reducible apply Dw.ev_args | with_reducible apply Dw.ev_src | with_reducible apply Dw.ev_callD | with_reducible apply Dw.mapd_c | with_reducible apply Dw.mapd_d | with_reducible apply Dw.set_s | with_reducible apply Dw.st_d | with_reducible apply Dw.st_own | with_reducible apply Dw.st_cv | with_reducible apply Dw.frz_cv | ((with_reducible apply Dw.len_str); assumption) | ((with_reducible apply Dw.get_str) <;> assumption) | with_reducible assumption)) rfl (rng1_nat (by omega)))]
  exact lp
end
end P_talkalike_k19_order_of_talks
namespace P_talkalike_k19_order_of_talks
noncomputable section
open PySem PySem.Spec PyProof.Rows L2 Dw
theorem all_mk {l : PySem.W.OpenLaw} {w : World} {K : PySem.W.Frag} {h : Heap} {mg : Str → Option Value} {fa f1 f2 f3 f4 f5 f6 f7 f8 f9 f10 f11 f12 f13 f14 f15 f16 f17 f18 f19 f20 f21 f22 f23 f24 f25 f26 f27 f28 f29 f30 f31 : Addr} (X : K.In h) (G : h.Ns mainGlobals mg) (hfa : mg "law" = some (.ref fa))
    {od1 an1 od2 an2 od3 an3 od4 an4 od5 an5 od6 an6 od7 an7 od8 an8 od9 an9 od10 an10 od11 an11 od12 an12 od13 an13 od14 an14 od15 an15 od16 an16 od17 an17 od18 an18 od19 an19 od20 an20 od21 an21 od22 an22 od23 an23 od24 an24 od25 an25 od26 an26 od27 an27 od28 an28 od29 an29 od30 an30 od31 an31 : Option Addr} {sl1 sl2 sl3 sl4 sl5 sl6 sl7 sl8 sl9 sl10 sl11 sl12 sl13 sl14 sl15 sl16 sl17 sl18 sl19 sl20 sl21 sl22 sl23 sl24 sl25 sl26 sl27 sl28 sl29 sl30 sl31 : Array (Option Value)} {oc1 kV1 dc1 pm1 cd1 ct1 oc2 kV2 dc2 pm2 cd2 ct2 oc3 kV3 dc3 pm3 cd3 ct3 oc4 kV4 dc4 pm4 cd4 ct4 oc5 kV5 dc5 pm5 cd5 ct5 oc6 kV6 dc6 pm6 cd6 ct6 oc7 kV7 dc7 pm7 cd7 ct7 oc8 kV8 dc8 pm8 cd8 ct8 oc9 kV9 dc9 pm9 cd9 ct9 oc10 kV10 dc10 pm10 cd10 ct10 oc11 kV11 dc11 pm11 cd11 ct11 oc12 kV12 dc12 pm12 cd12 ct12 oc13 kV13 dc13 pm13 cd13 ct13 oc14 kV14 dc14 pm14 cd14 ct14 oc15 kV15 dc15 pm15 cd15 ct15 oc16 kV16 dc16 pm16 cd16 ct16 oc17 kV17 dc17 pm17 cd17 ct17 oc18 kV18 dc18 pm18 cd18 ct18 oc19 kV19 dc19 pm19 cd19 ct19 oc20 kV20 dc20 pm20 cd20 ct20 oc21 kV21 dc21 pm21 cd21 ct21 oc22 kV22 dc22 pm22 cd22 ct22 oc23 kV23 dc23 pm23 cd23 ct23 oc24 kV24 dc24 pm24 cd24 ct24 oc25 kV25 dc25 pm25 cd25 ct25 oc26 kV26 dc26 pm26 cd26 ct26 oc27 kV27 dc27 pm27 cd27 ct27 oc28 kV28 dc28 pm28 cd28 ct28 oc29 kV29 dc29 pm29 cd29 ct29 oc30 kV30 dc30 pm30 cd30 ct30 oc31 kV31 dc31 pm31 cd31 ct31 : Value}
    (a1 : PySem.W.nsIn K mainGlobals "compare_keys" = some (some (.ref f1))) (l1 : K.lookup f1 = some ⟨oc1, od1, .func (PySem.W.fnOf "compare_keys" "compare_keys" (defArgs s_compare_keys) (defBody s_compare_keys) (defScope s_compare_keys) .none kV1 dc1 pm1 an1 cd1 ct1), sl1⟩) (c1 : PySem.W.codeIn K cd1 "compare_keys" = true) (k1 : PySem.W.keepIn K (.ref f1) = true)
    (a2 : PySem.W.nsIn K mainGlobals "text_key" = some (some (.ref f2))) (l2 : K.lookup f2 = some ⟨oc2, od2, .func (PySem.W.fnOf "text_key" "text_key" (defArgs s_text_key) (defBody s_text_key) (defScope s_text_key) .none kV2 dc2 pm2 an2 cd2 ct2), sl2⟩) (c2 : PySem.W.codeIn K cd2 "text_key" = true) (k2 : PySem.W.keepIn K (.ref f2) = true)
    (a3 : PySem.W.nsIn K mainGlobals "value_key" = some (some (.ref f3))) (l3 : K.lookup f3 = some ⟨oc3, od3, .func (PySem.W.fnOf "value_key" "value_key" (defArgs s_value_key) (defBody s_value_key) (defScope s_value_key) .none kV3 dc3 pm3 an3 cd3 ct3), sl3⟩) (c3 : PySem.W.codeIn K cd3 "value_key" = true) (k3 : PySem.W.keepIn K (.ref f3) = true)
    (a4 : PySem.W.nsIn K mainGlobals "kind_number" = some (some (.ref f4))) (l4 : K.lookup f4 = some ⟨oc4, od4, .func (PySem.W.fnOf "kind_number" "kind_number" (defArgs s_kind_number) (defBody s_kind_number) (defScope s_kind_number) .none kV4 dc4 pm4 an4 cd4 ct4), sl4⟩) (c4 : PySem.W.codeIn K cd4 "kind_number" = true) (k4 : PySem.W.keepIn K (.ref f4) = true)
    (a5 : PySem.W.nsIn K mainGlobals "is_opening" = some (some (.ref f5))) (l5 : K.lookup f5 = some ⟨oc5, od5, .func (PySem.W.fnOf "is_opening" "is_opening" (defArgs s_is_opening) (defBody s_is_opening) (defScope s_is_opening) .none kV5 dc5 pm5 an5 cd5 ct5), sl5⟩) (c5 : PySem.W.codeIn K cd5 "is_opening" = true) (k5 : PySem.W.keepIn K (.ref f5) = true)
    (a6 : PySem.W.nsIn K mainGlobals "name_of" = some (some (.ref f6))) (l6 : K.lookup f6 = some ⟨oc6, od6, .func (PySem.W.fnOf "name_of" "name_of" (defArgs s_name_of) (defBody s_name_of) (defScope s_name_of) .none kV6 dc6 pm6 an6 cd6 ct6), sl6⟩) (c6 : PySem.W.codeIn K cd6 "name_of" = true) (k6 : PySem.W.keepIn K (.ref f6) = true)
    (a7 : PySem.W.nsIn K mainGlobals "values_of" = some (some (.ref f7))) (l7 : K.lookup f7 = some ⟨oc7, od7, .func (PySem.W.fnOf "values_of" "values_of" (defArgs s_values_of) (defBody s_values_of) (defScope s_values_of) .none kV7 dc7 pm7 an7 cd7 ct7), sl7⟩) (c7 : PySem.W.codeIn K cd7 "values_of" = true) (k7 : PySem.W.keepIn K (.ref f7) = true)
    (a8 : PySem.W.nsIn K mainGlobals "request_key" = some (some (.ref f8))) (l8 : K.lookup f8 = some ⟨oc8, od8, .func (PySem.W.fnOf "request_key" "request_key" (defArgs s_request_key) (defBody s_request_key) (defScope s_request_key) .none kV8 dc8 pm8 an8 cd8 ct8), sl8⟩) (c8 : PySem.W.codeIn K cd8 "request_key" = true) (k8 : PySem.W.keepIn K (.ref f8) = true)
    (a9 : PySem.W.nsIn K mainGlobals "talk_key" = some (some (.ref f9))) (l9 : K.lookup f9 = some ⟨oc9, od9, .func (PySem.W.fnOf "talk_key" "talk_key" (defArgs s_talk_key) (defBody s_talk_key) (defScope s_talk_key) .none kV9 dc9 pm9 an9 cd9 ct9), sl9⟩) (c9 : PySem.W.codeIn K cd9 "talk_key" = true) (k9 : PySem.W.keepIn K (.ref f9) = true)
    (a10 : PySem.W.nsIn K mainGlobals "compare_requests" = some (some (.ref f10))) (l10 : K.lookup f10 = some ⟨oc10, od10, .func (PySem.W.fnOf "compare_requests" "compare_requests" (defArgs s_compare_requests) (defBody s_compare_requests) (defScope s_compare_requests) .none kV10 dc10 pm10 an10 cd10 ct10), sl10⟩) (c10 : PySem.W.codeIn K cd10 "compare_requests" = true) (k10 : PySem.W.keepIn K (.ref f10) = true)
    (a11 : PySem.W.nsIn K mainGlobals "compare_talks" = some (some (.ref f11))) (l11 : K.lookup f11 = some ⟨oc11, od11, .func (PySem.W.fnOf "compare_talks" "compare_talks" (defArgs s_compare_talks) (defBody s_compare_talks) (defScope s_compare_talks) .none kV11 dc11 pm11 an11 cd11 ct11), sl11⟩) (c11 : PySem.W.codeIn K cd11 "compare_talks" = true) (k11 : PySem.W.keepIn K (.ref f11) = true)
    (a12 : PySem.W.nsIn K mainGlobals "_law_mixed" = some (some (.ref f12))) (l12 : K.lookup f12 = some ⟨oc12, od12, .func (PySem.W.fnOf "_law_mixed" "_law_mixed" (defArgs s_ulawumixed) (defBody s_ulawumixed) (defScope s_ulawumixed) .none kV12 dc12 pm12 an12 cd12 ct12), sl12⟩) (c12 : PySem.W.codeIn K cd12 "_law_mixed" = true) (k12 : PySem.W.keepIn K (.ref f12) = true)
    (a13 : PySem.W.nsIn K mainGlobals "_law_stream" = some (some (.ref f13))) (l13 : K.lookup f13 = some ⟨oc13, od13, .func (PySem.W.fnOf "_law_stream" "_law_stream" (defArgs s_ulawustream) (defBody s_ulawustream) (defScope s_ulawustream) .none kV13 dc13 pm13 an13 cd13 ct13), sl13⟩) (c13 : PySem.W.codeIn K cd13 "_law_stream" = true) (k13 : PySem.W.keepIn K (.ref f13) = true)
    (a14 : PySem.W.nsIn K mainGlobals "_law_take" = some (some (.ref f14))) (l14 : K.lookup f14 = some ⟨oc14, od14, .func (PySem.W.fnOf "_law_take" "_law_take" (defArgs s_ulawutake) (defBody s_ulawutake) (defScope s_ulawutake) .none kV14 dc14 pm14 an14 cd14 ct14), sl14⟩) (c14 : PySem.W.codeIn K cd14 "_law_take" = true) (k14 : PySem.W.keepIn K (.ref f14) = true)
    (a15 : PySem.W.nsIn K mainGlobals "_law_letter" = some (some (.ref f15))) (l15 : K.lookup f15 = some ⟨oc15, od15, .func (PySem.W.fnOf "_law_letter" "_law_letter" (defArgs s_ulawuletter) (defBody s_ulawuletter) (defScope s_ulawuletter) .none kV15 dc15 pm15 an15 cd15 ct15), sl15⟩) (c15 : PySem.W.codeIn K cd15 "_law_letter" = true) (k15 : PySem.W.keepIn K (.ref f15) = true)
    (a16 : PySem.W.nsIn K mainGlobals "_law_text" = some (some (.ref f16))) (l16 : K.lookup f16 = some ⟨oc16, od16, .func (PySem.W.fnOf "_law_text" "_law_text" (defArgs s_ulawutext) (defBody s_ulawutext) (defScope s_ulawutext) .none kV16 dc16 pm16 an16 cd16 ct16), sl16⟩) (c16 : PySem.W.codeIn K cd16 "_law_text" = true) (k16 : PySem.W.keepIn K (.ref f16) = true)
    (a17 : PySem.W.nsIn K mainGlobals "_law_id" = some (some (.ref f17))) (l17 : K.lookup f17 = some ⟨oc17, od17, .func (PySem.W.fnOf "_law_id" "_law_id" (defArgs s_ulawuid) (defBody s_ulawuid) (defScope s_ulawuid) .none kV17 dc17 pm17 an17 cd17 ct17), sl17⟩) (c17 : PySem.W.codeIn K cd17 "_law_id" = true) (k17 : PySem.W.keepIn K (.ref f17) = true)
    (a18 : PySem.W.nsIn K mainGlobals "_law_value" = some (some (.ref f18))) (l18 : K.lookup f18 = some ⟨oc18, od18, .func (PySem.W.fnOf "_law_value" "_law_value" (defArgs s_ulawuvalue) (defBody s_ulawuvalue) (defScope s_ulawuvalue) .none kV18 dc18 pm18 an18 cd18 ct18), sl18⟩) (c18 : PySem.W.codeIn K cd18 "_law_value" = true) (k18 : PySem.W.keepIn K (.ref f18) = true)
    (a19 : PySem.W.nsIn K mainGlobals "_law_near" = some (some (.ref f19))) (l19 : K.lookup f19 = some ⟨oc19, od19, .func (PySem.W.fnOf "_law_near" "_law_near" (defArgs s_ulawunear) (defBody s_ulawunear) (defScope s_ulawunear) .none kV19 dc19 pm19 an19 cd19 ct19), sl19⟩) (c19 : PySem.W.codeIn K cd19 "_law_near" = true) (k19 : PySem.W.keepIn K (.ref f19) = true)
    (a20 : PySem.W.nsIn K mainGlobals "_law_names" = some (some (.ref f20))) (l20 : K.lookup f20 = some ⟨oc20, od20, .func (PySem.W.fnOf "_law_names" "_law_names" (defArgs s_ulawunames) (defBody s_ulawunames) (defScope s_ulawunames) .none kV20 dc20 pm20 an20 cd20 ct20), sl20⟩) (c20 : PySem.W.codeIn K cd20 "_law_names" = true) (k20 : PySem.W.keepIn K (.ref f20) = true)
    (a21 : PySem.W.nsIn K mainGlobals "_law_kinds" = some (some (.ref f21))) (l21 : K.lookup f21 = some ⟨oc21, od21, .func (PySem.W.fnOf "_law_kinds" "_law_kinds" (defArgs s_ulawukinds) (defBody s_ulawukinds) (defScope s_ulawukinds) .none kV21 dc21 pm21 an21 cd21 ct21), sl21⟩) (c21 : PySem.W.codeIn K cd21 "_law_kinds" = true) (k21 : PySem.W.keepIn K (.ref f21) = true)
    (a22 : PySem.W.nsIn K mainGlobals "_law_request" = some (some (.ref f22))) (l22 : K.lookup f22 = some ⟨oc22, od22, .func (PySem.W.fnOf "_law_request" "_law_request" (defArgs s_ulawurequest) (defBody s_ulawurequest) (defScope s_ulawurequest) .none kV22 dc22 pm22 an22 cd22 ct22), sl22⟩) (c22 : PySem.W.codeIn K cd22 "_law_request" = true) (k22 : PySem.W.keepIn K (.ref f22) = true)
    (a23 : PySem.W.nsIn K mainGlobals "_law_near_request" = some (some (.ref f23))) (l23 : K.lookup f23 = some ⟨oc23, od23, .func (PySem.W.fnOf "_law_near_request" "_law_near_request" (defArgs s_ulawunearurequest) (defBody s_ulawunearurequest) (defScope s_ulawunearurequest) .none kV23 dc23 pm23 an23 cd23 ct23), sl23⟩) (c23 : PySem.W.codeIn K cd23 "_law_near_request" = true) (k23 : PySem.W.keepIn K (.ref f23) = true)
    (a24 : PySem.W.nsIn K mainGlobals "_law_near_talk" = some (some (.ref f24))) (l24 : K.lookup f24 = some ⟨oc24, od24, .func (PySem.W.fnOf "_law_near_talk" "_law_near_talk" (defArgs s_ulawunearutalk) (defBody s_ulawunearutalk) (defScope s_ulawunearutalk) .none kV24 dc24 pm24 an24 cd24 ct24), sl24⟩) (c24 : PySem.W.codeIn K cd24 "_law_near_talk" = true) (k24 : PySem.W.keepIn K (.ref f24) = true)
    (a25 : PySem.W.nsIn K mainGlobals "_law_before" = some (some (.ref f25))) (l25 : K.lookup f25 = some ⟨oc25, od25, .func (PySem.W.fnOf "_law_before" "_law_before" (defArgs s_ulawubefore) (defBody s_ulawubefore) (defScope s_ulawubefore) .none kV25 dc25 pm25 an25 cd25 ct25), sl25⟩) (c25 : PySem.W.codeIn K cd25 "_law_before" = true) (k25 : PySem.W.keepIn K (.ref f25) = true)
    (a26 : PySem.W.nsIn K mainGlobals "_law_sign" = some (some (.ref f26))) (l26 : K.lookup f26 = some ⟨oc26, od26, .func (PySem.W.fnOf "_law_sign" "_law_sign" (defArgs s_ulawusign) (defBody s_ulawusign) (defScope s_ulawusign) .none kV26 dc26 pm26 an26 cd26 ct26), sl26⟩) (c26 : PySem.W.codeIn K cd26 "_law_sign" = true) (k26 : PySem.W.keepIn K (.ref f26) = true)
    (a27 : PySem.W.nsIn K mainGlobals "_law_is_integer" = some (some (.ref f27))) (l27 : K.lookup f27 = some ⟨oc27, od27, .func (PySem.W.fnOf "_law_is_integer" "_law_is_integer" (defArgs s_ulawuisuinteger) (defBody s_ulawuisuinteger) (defScope s_ulawuisuinteger) .none kV27 dc27 pm27 an27 cd27 ct27), sl27⟩) (c27 : PySem.W.codeIn K cd27 "_law_is_integer" = true) (k27 : PySem.W.keepIn K (.ref f27) = true)
    (a28 : PySem.W.nsIn K mainGlobals "_law_number" = some (some (.ref f28))) (l28 : K.lookup f28 = some ⟨oc28, od28, .func (PySem.W.fnOf "_law_number" "_law_number" (defArgs s_ulawunumber) (defBody s_ulawunumber) (defScope s_ulawunumber) .none kV28 dc28 pm28 an28 cd28 ct28), sl28⟩) (c28 : PySem.W.codeIn K cd28 "_law_number" = true) (k28 : PySem.W.keepIn K (.ref f28) = true)
    (a29 : PySem.W.nsIn K mainGlobals "_law_request_before" = some (some (.ref f29))) (l29 : K.lookup f29 = some ⟨oc29, od29, .func (PySem.W.fnOf "_law_request_before" "_law_request_before" (defArgs s_ulawurequestubefore) (defBody s_ulawurequestubefore) (defScope s_ulawurequestubefore) .none kV29 dc29 pm29 an29 cd29 ct29), sl29⟩) (c29 : PySem.W.codeIn K cd29 "_law_request_before" = true) (k29 : PySem.W.keepIn K (.ref f29) = true)
    (a30 : PySem.W.nsIn K mainGlobals "_law_talk_before" = some (some (.ref f30))) (l30 : K.lookup f30 = some ⟨oc30, od30, .func (PySem.W.fnOf "_law_talk_before" "_law_talk_before" (defArgs s_ulawutalkubefore) (defBody s_ulawutalkubefore) (defScope s_ulawutalkubefore) .none kV30 dc30 pm30 an30 cd30 ct30), sl30⟩) (c30 : PySem.W.codeIn K cd30 "_law_talk_before" = true) (k30 : PySem.W.keepIn K (.ref f30) = true)
    (a31 : PySem.W.nsIn K mainGlobals "law" = some (some (.ref f31))) (l31 : K.lookup f31 = some ⟨oc31, od31, .func (PySem.W.fnOf "law" "law" (defArgs s_law) (defBody s_law) (defScope s_law) .none kV31 dc31 pm31 an31 cd31 ct31), sl31⟩) (c31 : PySem.W.codeIn K cd31 "law" = true) (k31 : PySem.W.keepIn K (.ref f31) = true)
    (z_abs : PySem.W.nsIn K mainGlobals "abs" = some none) (z_bool : PySem.W.nsIn K mainGlobals "bool" = some none) (z_enumerate : PySem.W.nsIn K mainGlobals "enumerate" = some none) (z_int : PySem.W.nsIn K mainGlobals "int" = some none) (z_isinstance : PySem.W.nsIn K mainGlobals "isinstance" = some none) (z_len : PySem.W.nsIn K mainGlobals "len" = some none) (z_list : PySem.W.nsIn K mainGlobals "list" = some none) (z_min : PySem.W.nsIn K mainGlobals "min" = some none) (z_range : PySem.W.nsIn K mainGlobals "range" = some none) (z_str : PySem.W.nsIn K mainGlobals "str" = some none) (z_tuple : PySem.W.nsIn K mainGlobals "tuple" = some none) :
    ∃ fd : FuncData, (∀ (s : Shared) (v : Value), BindsTo s fd ⟨[v], []⟩ [("script", v)]) ∧ ∀ base : Heap, K.In base → base.Ns mainGlobals mg → FnOk l.prog w K mg base CX0 8 fa fd ["script"] (spD K 1 m_law) := by
  have e := hfa.symm.trans (PySem.W.mg_of X G a31)
  cases e
  have y_abs := PySem.W.mg_none_of X G z_abs
  have y_bool := PySem.W.mg_none_of X G z_bool
  have y_enumerate := PySem.W.mg_none_of X G z_enumerate
  have y_int := PySem.W.mg_none_of X G z_int
  have y_isinstance := PySem.W.mg_none_of X G z_isinstance
  have y_len := PySem.W.mg_none_of X G z_len
  have y_list := PySem.W.mg_none_of X G z_list
  have y_min := PySem.W.mg_none_of X G z_min
  have y_range := PySem.W.mg_none_of X G z_range
  have y_str := PySem.W.mg_none_of X G z_str
  have y_tuple := PySem.W.mg_none_of X G z_tuple
  have F1 := fun_mk (st := s_compare_keys) l1 c1 k1
  have b1 := F1.binds (ps := ["first", "second"]) fun _ _ _ _ _ _ us hl => match us, hl with | [_, _], _ => rfl
  have D1 : ∀ base : Heap, Def l.prog w K mg base 1 "compare_keys" 2 m_compare_keys [] := fun base => Def.mk0 (ok_compare_keys F1 ) (PySem.W.mg_of X G a1) F1.kp b1
  have F2 := fun_mk (st := s_text_key) l2 c2 k2
  have b2 := F2.binds (ps := ["text"]) fun _ _ _ _ _ _ us hl => match us, hl with | [_], _ => rfl
  have D2 : ∀ base : Heap, Def l.prog w K mg base 1 "text_key" 1 m_text_key [] := fun base => Def.mk0 (ok_text_key F2 y_len) (PySem.W.mg_of X G a2) F2.kp b2
  have F3 := fun_mk (st := s_value_key) l3 c3 k3
  have b3 := F3.binds (ps := ["value"]) fun _ _ _ _ _ _ us hl => match us, hl with | [_], _ => rfl
  have D3 : ∀ base : Heap, Def l.prog w K mg base 2 "value_key" 1 m_value_key [] := fun base => Def.mk0 (ok_value_key F3 y_isinstance y_str (D2 base)) (PySem.W.mg_of X G a3) F3.kp b3
  have F4 := fun_mk (st := s_kind_number) l4 c4 k4
  have b4 := F4.binds (ps := ["kinds", "name"]) fun _ _ _ _ _ _ us hl => match us, hl with | [_, _], _ => rfl
  have D4 : ∀ base : Heap, Def l.prog w K mg base 1 "kind_number" 2 m_kind_number [] := fun base => Def.mk0 (ok_kind_number F4 y_enumerate) (PySem.W.mg_of X G a4) F4.kp b4
  have F5 := fun_mk (st := s_is_opening) l5 c5 k5
  have b5 := F5.binds (ps := ["request"]) fun _ _ _ _ _ _ us hl => match us, hl with | [_], _ => rfl
  have D5 : ∀ base : Heap, Def l.prog w K mg base 1 "is_opening" 1 m_is_opening [] := fun base => Def.mk0 (ok_is_opening F5 ) (PySem.W.mg_of X G a5) F5.kp b5
  have F6 := fun_mk (st := s_name_of) l6 c6 k6
  have b6 := F6.binds (ps := ["request"]) fun _ _ _ _ _ _ us hl => match us, hl with | [_], _ => rfl
  have D6 : ∀ base : Heap, Def l.prog w K mg base 2 "name_of" 1 m_name_of [] := fun base => Def.mk0 (ok_name_of F6 (D5 base)) (PySem.W.mg_of X G a6) F6.kp b6
  have F7 := fun_mk (st := s_values_of) l7 c7 k7
  have b7 := F7.binds (ps := ["request"]) fun _ _ _ _ _ _ us hl => match us, hl with | [_], _ => rfl
  have D7 : ∀ base : Heap, Def l.prog w K mg base 2 "values_of" 1 m_values_of [] := fun base => Def.mk0 (ok_values_of F7 (D5 base)) (PySem.W.mg_of X G a7) F7.kp b7
  have F8 := fun_mk (st := s_request_key) l8 c8 k8
  have b8 := F8.binds (ps := ["kinds", "request"]) fun _ _ _ _ _ _ us hl => match us, hl with | [_, _], _ => rfl
  have D8 : ∀ base : Heap, Def l.prog w K mg base 3 "request_key" 2 m_request_key [] := fun base => Def.mk0 (ok_request_key F8 (D7 base) (D3 base) (D6 base) (D4 base)) (PySem.W.mg_of X G a8) F8.kp b8
  have F9 := fun_mk (st := s_talk_key) l9 c9 k9
  have b9 := F9.binds (ps := ["kinds", "talk"]) fun _ _ _ _ _ _ us hl => match us, hl with | [_, _], _ => rfl
  have D9 : ∀ base : Heap, Def l.prog w K mg base 4 "talk_key" 2 m_talk_key [] := fun base => Def.mk0 (ok_talk_key F9 y_len (D8 base)) (PySem.W.mg_of X G a9) F9.kp b9
  have F10 := fun_mk (st := s_compare_requests) l10 c10 k10
  have b10 := F10.binds (ps := ["kinds", "first", "second"]) fun _ _ _ _ _ _ us hl => match us, hl with | [_, _, _], _ => rfl
  have D10 : ∀ base : Heap, Def l.prog w K mg base 4 "compare_requests" 3 m_compare_requests [] := fun base => Def.mk0 (ok_compare_requests F10 (D8 base) (D1 base)) (PySem.W.mg_of X G a10) F10.kp b10
  have F11 := fun_mk (st := s_compare_talks) l11 c11 k11
  have b11 := F11.binds (ps := ["kinds", "first", "second"]) fun _ _ _ _ _ _ us hl => match us, hl with | [_, _, _], _ => rfl
  have D11 : ∀ base : Heap, Def l.prog w K mg base 5 "compare_talks" 3 m_compare_talks [] := fun base => Def.mk0 (ok_compare_talks F11 (D9 base) (D1 base)) (PySem.W.mg_of X G a11) F11.kp b11
  have F12 := fun_mk (st := s_ulawumixed) l12 c12 k12
  have b12 := F12.binds (ps := ["cell", "k"]) fun _ _ _ _ _ _ us hl => match us, hl with | [_, _], _ => rfl
  have D12 : ∀ base : Heap, Def l.prog w K mg base 1 "_law_mixed" 2 m_ulawumixed [] := fun base => Def.mk0 (ok_ulawumixed F12 y_int) (PySem.W.mg_of X G a12) F12.kp b12
  have F13 := fun_mk (st := s_ulawustream) l13 c13 k13
  have b13 := F13.binds (ps := ["script", "count"]) fun _ _ _ _ _ _ us hl => match us, hl with | [_, _], _ => rfl
  have D13 : ∀ base : Heap, Def l.prog w K mg base 2 "_law_stream" 2 m_ulawustream [] := fun base => Def.mk0 (ok_ulawustream F13 y_abs y_int y_len y_range (D12 base)) (PySem.W.mg_of X G a13) F13.kp b13
  have F14 := fun_mk (st := s_ulawutake) l14 c14 k14
  have b14 := F14.binds (ps := ["stream", "bound"]) fun _ _ _ _ _ _ us hl => match us, hl with | [_, _], _ => rfl
  have D14 : ∀ base : Heap, Def l.prog w K mg base 1 "_law_take" 2 m_ulawutake [] := fun base => Def.mk0 (ok_ulawutake F14 y_int y_len) (PySem.W.mg_of X G a14) F14.kp b14
  have F15 := fun_mk (st := s_ulawuletter) l15 c15 k15
  have b15 := F15.binds (ps := ["stream"]) fun _ _ _ _ _ _ us hl => match us, hl with | [_], _ => rfl
  have D15 : ∀ base : Heap, Def l.prog w K mg base 2 "_law_letter" 1 m_ulawuletter [] := fun base => Def.mk0 (ok_ulawuletter F15 (D14 base)) (PySem.W.mg_of X G a15) F15.kp b15
  have F16 := fun_mk (st := s_ulawutext) l16 c16 k16
  have b16 := F16.binds (ps := ["stream"]) fun _ _ _ _ _ _ us hl => match us, hl with | [_], _ => rfl
  have D16 : ∀ base : Heap, Def l.prog w K mg base 3 "_law_text" 1 m_ulawutext [] := fun base => Def.mk0 (ok_ulawutext F16 y_range (D14 base) (D15 base)) (PySem.W.mg_of X G a16) F16.kp b16
  have F17 := fun_mk (st := s_ulawuid) l17 c17 k17
  have b17 := F17.binds (ps := ["stream"]) fun _ _ _ _ _ _ us hl => match us, hl with | [_], _ => rfl
  have D17 : ∀ base : Heap, Def l.prog w K mg base 2 "_law_id" 1 m_ulawuid [] := fun base => Def.mk0 (ok_ulawuid F17 (D14 base)) (PySem.W.mg_of X G a17) F17.kp b17
  have F18 := fun_mk (st := s_ulawuvalue) l18 c18 k18
  have b18 := F18.binds (ps := ["stream"]) fun _ _ _ _ _ _ us hl => match us, hl with | [_], _ => rfl
  have D18 : ∀ base : Heap, Def l.prog w K mg base 4 "_law_value" 1 m_ulawuvalue [] := fun base => Def.mk0 (ok_ulawuvalue F18 (D14 base) (D16 base) (D17 base)) (PySem.W.mg_of X G a18) F18.kp b18
  have F19 := fun_mk (st := s_ulawunear) l19 c19 k19
  have b19 := F19.binds (ps := ["value", "stream"]) fun _ _ _ _ _ _ us hl => match us, hl with | [_, _], _ => rfl
  have D19 : ∀ base : Heap, Def l.prog w K mg base 3 "_law_near" 2 m_ulawunear [] := fun base => Def.mk0 (ok_ulawunear F19 y_isinstance y_len y_str (D14 base) (D15 base)) (PySem.W.mg_of X G a19) F19.kp b19
  have F20 := fun_mk (st := s_ulawunames) l20 c20 k20
  have b20 := F20.binds (ps := ["stream", "count"]) fun _ _ _ _ _ _ us hl => match us, hl with | [_, _], _ => rfl
  have D20 : ∀ base : Heap, Def l.prog w K mg base 2 "_law_names" 2 m_ulawunames [] := fun base => Def.mk0 (ok_ulawunames F20 y_range (D14 base)) (PySem.W.mg_of X G a20) F20.kp b20
  have F21 := fun_mk (st := s_ulawukinds) l21 c21 k21
  have b21 := F21.binds (ps := ["stream"]) fun _ _ _ _ _ _ us hl => match us, hl with | [_], _ => rfl
  have D21 : ∀ base : Heap, Def l.prog w K mg base 3 "_law_kinds" 1 m_ulawukinds [] := fun base => Def.mk0 (ok_ulawukinds F21 y_tuple (D14 base) (D20 base)) (PySem.W.mg_of X G a21) F21.kp b21
  have F22 := fun_mk (st := s_ulawurequest) l22 c22 k22
  have b22 := F22.binds (ps := ["kinds", "stream"]) fun _ _ _ _ _ _ us hl => match us, hl with | [_, _], _ => rfl
  have D22 : ∀ base : Heap, Def l.prog w K mg base 5 "_law_request" 2 m_ulawurequest [] := fun base => Def.mk0 (ok_ulawurequest F22 y_len y_range y_tuple (D14 base) (D18 base) (D17 base)) (PySem.W.mg_of X G a22) F22.kp b22
  have F23 := fun_mk (st := s_ulawunearurequest) l23 c23 k23
  have b23 := F23.binds (ps := ["kinds", "request", "stream"]) fun _ _ _ _ _ _ us hl => match us, hl with | [_, _, _], _ => rfl
  have D23 : ∀ base : Heap, Def l.prog w K mg base 6 "_law_near_request" 3 m_ulawunearurequest [] := fun base => Def.mk0 (ok_ulawunearurequest F23 y_len y_list y_range y_tuple (D22 base) (D14 base) (D17 base) (D19 base)) (PySem.W.mg_of X G a23) F23.kp b23
  have F24 := fun_mk (st := s_ulawunearutalk) l24 c24 k24
  have b24 := F24.binds (ps := ["kinds", "talk", "stream"]) fun _ _ _ _ _ _ us hl => match us, hl with | [_, _, _], _ => rfl
  have D24 : ∀ base : Heap, Def l.prog w K mg base 7 "_law_near_talk" 3 m_ulawunearutalk [] := fun base => Def.mk0 (ok_ulawunearutalk F24 y_len y_list (D14 base) (D22 base) (D23 base)) (PySem.W.mg_of X G a24) F24.kp b24
  have F25 := fun_mk (st := s_ulawubefore) l25 c25 k25
  have b25 := F25.binds (ps := ["one", "other"]) fun _ _ _ _ _ _ us hl => match us, hl with | [_, _], _ => rfl
  have D25 : ∀ base : Heap, Def l.prog w K mg base 1 "_law_before" 2 m_ulawubefore [] := fun base => Def.mk0 (ok_ulawubefore F25 y_isinstance y_len y_range y_str) (PySem.W.mg_of X G a25) F25.kp b25
  have F26 := fun_mk (st := s_ulawusign) l26 c26 k26
  have b26 := F26.binds (ps := ["before", "after"]) fun _ _ _ _ _ _ us hl => match us, hl with | [_, _], _ => rfl
  have D26 : ∀ base : Heap, Def l.prog w K mg base 1 "_law_sign" 2 m_ulawusign [] := fun base => Def.mk0 (ok_ulawusign F26 ) (PySem.W.mg_of X G a26) F26.kp b26
  have F27 := fun_mk (st := s_ulawuisuinteger) l27 c27 k27
  have b27 := F27.binds (ps := ["actual", "expected"]) fun _ _ _ _ _ _ us hl => match us, hl with | [_, _], _ => rfl
  have D27 : ∀ base : Heap, Def l.prog w K mg base 1 "_law_is_integer" 2 m_ulawuisuinteger [] := fun base => Def.mk0 (ok_ulawuisuinteger F27 y_bool y_int y_isinstance) (PySem.W.mg_of X G a27) F27.kp b27
  have F28 := fun_mk (st := s_ulawunumber) l28 c28 k28
  have b28 := F28.binds (ps := ["kinds", "request"]) fun _ _ _ _ _ _ us hl => match us, hl with | [_, _], _ => rfl
  have D28 : ∀ base : Heap, Def l.prog w K mg base 1 "_law_number" 2 m_ulawunumber [] := fun base => Def.mk0 (ok_ulawunumber F28 y_len y_range) (PySem.W.mg_of X G a28) F28.kp b28
  have F29 := fun_mk (st := s_ulawurequestubefore) l29 c29 k29
  have b29 := F29.binds (ps := ["kinds", "one", "other"]) fun _ _ _ _ _ _ us hl => match us, hl with | [_, _, _], _ => rfl
  have D29 : ∀ base : Heap, Def l.prog w K mg base 2 "_law_request_before" 3 m_ulawurequestubefore [] := fun base => Def.mk0 (ok_ulawurequestubefore F29 y_len y_range (D28 base) (D25 base)) (PySem.W.mg_of X G a29) F29.kp b29
  have F30 := fun_mk (st := s_ulawutalkubefore) l30 c30 k30
  have b30 := F30.binds (ps := ["kinds", "one", "other"]) fun _ _ _ _ _ _ us hl => match us, hl with | [_, _, _], _ => rfl
  have D30 : ∀ base : Heap, Def l.prog w K mg base 3 "_law_talk_before" 3 m_ulawutalkubefore [] := fun base => Def.mk0 (ok_ulawutalkubefore F30 y_len y_range (D29 base)) (PySem.W.mg_of X G a30) F30.kp b30
  have F31 := fun_mk (st := s_law) l31 c31 k31
  exact ⟨PySem.W.fnOf "law" "law" (defArgs s_law) (defBody s_law) (defScope s_law) .none kV31 dc31 pm31 an31 cd31 ct31, fun s v => .of_eq rfl, fun base _ _ => ok_law F31 y_len y_min y_range (D13 base) (D21 base) (D14 base) (D22 base) (D24 base) (D30 base) (D26 base) (D11 base) (D27 base) (D29 base) (D10 base)⟩
end
end P_talkalike_k19_order_of_talks
open PySem PySem.W PyProof.Rows
set_option maxHeartbeats 0 in
theorem PySem.Challenge.cw_talkalike_k19_order_of_talks_holds : PySem.Challenge.rw_talkalike_k19_order_of_talks.Holds := by
  w_on; o_law; k_head; (case hw => w_witness2)
  k_fill
  refine L2.walk_of (l := PySem.Challenge.rw_talkalike_k19_order_of_talks) (n := 63) (k := 8) (x := "script") (CX := fun _ => L2.CX0) (sp := fun w => Dw.spD _ 1 P_talkalike_k19_order_of_talks.m_law) rfl (by decide) rfl ⟨rfl, by decide, by decide⟩ (fun w h Y => PySem.W.kIn_of Y) ?F (fun _ _ a ns hl _ hS => (P_talkalike_k19_order_of_talks.main ns hl).elim fun o ho => Dw.law_sp hS ho) (fun _ _ _ _ _ h => h)
  case F =>
    intro w mg fa h KX G hmg
    refine' P_talkalike_k19_order_of_talks.all_mk KX G hmg ?a1 ?l1 ?c1 ?k1 ?a2 ?l2 ?c2 ?k2 ?a3 ?l3 ?c3 ?k3 ?a4 ?l4 ?c4 ?k4 ?a5 ?l5 ?c5 ?k5 ?a6 ?l6 ?c6 ?k6 ?a7 ?l7 ?c7 ?k7 ?a8 ?l8 ?c8 ?k8 ?a9 ?l9 ?c9 ?k9 ?a10 ?l10 ?c10 ?k10 ?a11 ?l11 ?c11 ?k11 ?a12 ?l12 ?c12 ?k12 ?a13 ?l13 ?c13 ?k13 ?a14 ?l14 ?c14 ?k14 ?a15 ?l15 ?c15 ?k15 ?a16 ?l16 ?c16 ?k16 ?a17 ?l17 ?c17 ?k17 ?a18 ?l18 ?c18 ?k18 ?a19 ?l19 ?c19 ?k19 ?a20 ?l20 ?c20 ?k20 ?a21 ?l21 ?c21 ?k21 ?a22 ?l22 ?c22 ?k22 ?a23 ?l23 ?c23 ?k23 ?a24 ?l24 ?c24 ?k24 ?a25 ?l25 ?c25 ?k25 ?a26 ?l26 ?c26 ?k26 ?a27 ?l27 ?c27 ?k27 ?a28 ?l28 ?c28 ?k28 ?a29 ?l29 ?c29 ?k29 ?a30 ?l30 ?c30 ?k30 ?a31 ?l31 ?c31 ?k31 ?z_abs ?z_bool ?z_enumerate ?z_int ?z_isinstance ?z_len ?z_list ?z_min ?z_range ?z_str ?z_tuple
    (case a1 => k_is); (case l1 => k_is); (case c1 => k_is); (case k1 => k_is); (case a2 => k_is); (case l2 => k_is); (case c2 => k_is); (case k2 => k_is); (case a3 => k_is); (case l3 => k_is); (case c3 => k_is); (case k3 => k_is); (case a4 => k_is); (case l4 => k_is); (case c4 => k_is); (case k4 => k_is); (case a5 => k_is); (case l5 => k_is); (case c5 => k_is); (case k5 => k_is); (case a6 => k_is); (case l6 => k_is); (case c6 => k_is); (case k6 => k_is); (case a7 => k_is); (case l7 => k_is); (case c7 => k_is); (case k7 => k_is); (case a8 => k_is); (case l8 => k_is); (case c8 => k_is); (case k8 => k_is); (case a9 => k_is); (case l9 => k_is); (case c9 => k_is); (case k9 => k_is); (case a10 => k_is); (case l10 => k_is); (case c10 => k_is); (case k10 => k_is); (case a11 => k_is); (case l11 => k_is); (case c11 => k_is); (case k11 => k_is); (case a12 => k_is); (case l12 => k_is); (case c12 => k_is); (case k12 => k_is); (case a13 => k_is); (case l13 => k_is); (case c13 => k_is); (case k13 => k_is); (case a14 => k_is); (case l14 => k_is); (case c14 => k_is); (case k14 => k_is); (case a15 => k_is); (case l15 => k_is); (case c15 => k_is); (case k15 => k_is); (case a16 => k_is); (case l16 => k_is); (case c16 => k_is); (case k16 => k_is); (case a17 => k_is); (case l17 => k_is); (case c17 => k_is); (case k17 => k_is); (case a18 => k_is); (case l18 => k_is); (case c18 => k_is); (case k18 => k_is); (case a19 => k_is); (case l19 => k_is); (case c19 => k_is); (case k19 => k_is); (case a20 => k_is); (case l20 => k_is); (case c20 => k_is); (case k20 => k_is); (case a21 => k_is); (case l21 => k_is); (case c21 => k_is); (case k21 => k_is); (case a22 => k_is); (case l22 => k_is); (case c22 => k_is); (case k22 => k_is); (case a23 => k_is); (case l23 => k_is); (case c23 => k_is); (case k23 => k_is); (case a24 => k_is); (case l24 => k_is); (case c24 => k_is); (case k24 => k_is); (case a25 => k_is); (case l25 => k_is); (case c25 => k_is); (case k25 => k_is); (case a26 => k_is); (case l26 => k_is); (case c26 => k_is); (case k26 => k_is); (case a27 => k_is); (case l27 => k_is); (case c27 => k_is); (case k27 => k_is); (case a28 => k_is); (case l28 => k_is); (case c28 => k_is); (case k28 => k_is); (case a29 => k_is); (case l29 => k_is); (case c29 => k_is); (case k29 => k_is); (case a30 => k_is); (case l30 => k_is); (case c30 => k_is); (case k30 => k_is); (case a31 => k_is); (case l31 => k_is); (case c31 => k_is); (case k31 => k_is); (case z_abs => k_is); (case z_bool => k_is); (case z_enumerate => k_is); (case z_int => k_is); (case z_isinstance => k_is); (case z_len => k_is); (case z_list => k_is); (case z_min => k_is); (case z_range => k_is); (case z_str => k_is); (case z_tuple => k_is)
