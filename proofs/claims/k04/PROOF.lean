import PyProof.Rows.All
import Wide.All
import OpenK.AllK
import Wide.FinOn
import HandS.ForMost
import HandS.ForExc
import HandS.Flow
import HandS.TupAny
import HandS.Deep
import HandS.IsInst
import HandS.Walk
import HandS.Steps
import HandS.StrMore
import HandS.Style
import HandS.AnyAll
import KE.KeyNested
import KE.KDictKeyed
import KE.KDictWalk
import HandS.ExcInit
import HandS.ExcField
import HandS.TryMany
import HandS.CallSlots
import KE.LtData
import HandS.Replace
import PyProof.Draws
import HandS.Conv
import HandS.RevTup
import HandS.Rev
import PyProof.JoinWalk
import HandS.Zip
import HandS.More
import HandS.EndTab
import HandS.WordsExc
import HandS.Defaults
import KE.KExcIs
import HandS.ExcIs
import HandS.Strs
import HandS.Star
import KE.KIntText
import KE.SortKeyHeap
import HandS.SortKw
import HandS.DictComp
import PySem.Challenge.RW_talkalike_k04_forms
set_option Elab.async false
set_option linter.all false
set_option maxRecDepth 100000
set_option maxHeartbeats 4000000
namespace Dw
noncomputable section
open PySem PySem.Spec PyProof.Rows L2

/-- a test that is not to be reckoned out -/
noncomputable def okP (p : Prop) : Bool := @decide p (Classical.propDecidable p)
theorem okP_iff {p : Prop} : okP p = true ↔ p := @decide_eq_true_iff p (Classical.propDecidable p)

/-- where the classes of one's own stand; the world -/
class Glo where
  C : Str → Addr → Prop
  w : World
variable [Glo]
/-! ### data -/
inductive D where
  | non | bl (b : Bool) | int (i : Int) | str (x : List Nat) | lst (xs : List D) | tup (xs : List D)
  /-- a dict, its keys and values in order | an instance of the class c, its attributes -/
  | dct (ks vs : List D) | ins (c : Str) (ns : List Str) (xs : List D)
  deriving Inhabited
def mk (x : List Nat) : Str := ⟨x.toArray⟩
theorem mk_len (x : List Nat) : (mk x).length = x.length := by simp [mk, Str.length]
theorem mk_tl (x : List Nat) : (mk x).cps.toList = x := rfl
theorem mk_of (s : Str) : mk s.cps.toList = s := by cases s; simp [mk]
theorem mk_app (x y : List Nat) : mk x ++ mk y = mk (x ++ y) := by
  show Str.append _ _ = _
  simp [Str.append, mk]
theorem mk_inj {x y : List Nat} (h : mk x = mk y) : x = y := by
  have := congrArg (fun s : Str => s.cps.toList) h
  simpa [mk] using this
/-! ### dicts -/
/-- a key of a dict, as data -/
def kD : Key → D
  | .inl i => .int i
  | .inr x => .str x.cps.toList
theorem kD_inj : ∀ {a b : Key}, kD a = kD b → a = b
  | .inl i, .inl j, h => by
    have : i = j := D.int.inj h
    rw [this]
  | .inl _, .inr _, h => by cases h
  | .inr _, .inl _, h => by cases h
  | .inr x, .inr y, h => by
    have h : x.cps.toList = y.cps.toList := D.str.inj h
    have : x = y := by rw [← mk_of x, ← mk_of y, h]
    rw [this]
mutual
inductive Rel (K : PySem.W.Frag) (F : Hp) : V → D → Prop
  | non : Rel K F .non .non
  | bl (b : Bool) : Rel K F (.bl b) (.bl b)
  | int (i : Int) : Rel K F (.int i) (.int i)
  | str (x : List Nat) : Rel K F (.str (mk x)) (.str x)
  | lst {a : Addr} {xs : List V} {ds : List D} : SqL K F a xs → RelAll K F xs ds → Rel K F (.ref a) (.lst ds)
  | tup {a : Addr} {xs : List V} {ds : List D} : SqT K F a xs → RelAll K F xs ds → Rel K F (.ref a) (.tup ds)
  | dct {a : Addr} {kvs : List (Key × V)} {ks vs : List D} : F a = some (.dK kvs) → kvs.map (fun e => kD e.1) = ks → RelAll K F (kvs.map (·.2)) vs → Rel K F (.ref a) (.dct ks vs)
  | ins {a C dx : Addr} {c : Str} {fs : List (Str × V)} {ns : List Str} {xs : List D} : F a = some (.ins C dx fs) → Glo.C c C → fs.map (·.1) = ns → RelAll K F (fs.map (·.2)) xs → Rel K F (.ref a) (.ins c ns xs)
inductive RelAll (K : PySem.W.Frag) (F : Hp) : List V → List D → Prop
  | nil : RelAll K F [] []
  | cons {v : V} {vs : List V} {d : D} {ds : List D} : Rel K F v d → RelAll K F vs ds → RelAll K F (v :: vs) (d :: ds)
end
/-- heaps that grow -/
def Ex (H H' : Hp) : Prop := ∀ a o, H a = some o → H' a = some o
theorem Ex.refl (H : Hp) : Ex H H := fun _ _ h => h
theorem Ex.trans {H H1 H2 : Hp} (a : Ex H H1) (b : Ex H1 H2) : Ex H H2 := fun x o h => b x o (a x o h)
theorem Ex.new {H : Hp} {p : Addr} {o : HO} (h : H p = none) : Ex H (upd H p o) := fun a u e => by
  rw [upd_ne (ne_of_none e h)]
  exact e
theorem ex_rd {H H' : Hp} {a : Addr} {u : HO} (e : Ex H H') (h : Rd H a u) : Rd H' a u := by
  rcases h with h | ⟨o, h⟩
  · exact Or.inl (e a _ h)
  · exact Or.inr ⟨o, e a _ h⟩
theorem ex_l {K : PySem.W.Frag} {H H' : Hp} {a : Addr} {xs : List V} (e : Ex H H') (h : SqL K H a xs) : SqL K H' a xs := by
  rcases h with h | h
  · exact Or.inl (ex_rd e h)
  · exact Or.inr h
theorem ex_t {K : PySem.W.Frag} {H H' : Hp} {a : Addr} {xs : List V} (e : Ex H H') (h : SqT K H a xs) : SqT K H' a xs := by
  rcases h with h | h
  · exact Or.inl (ex_rd e h)
  · exact Or.inr h
section
variable {K : PySem.W.Frag} {F F' : Hp}
mutual
theorem Rel.mono (e : Ex F F') : ∀ (d : D) (v : V), Rel K F v d → Rel K F' v d
  | .non, _, h => by cases h; exact .non
  | .bl _, _, h => by cases h; exact .bl _
  | .int _, _, h => by cases h; exact .int _
  | .str _, _, h => by cases h; exact .str _
  | .lst ds, _, h => by
    cases h with
    | lst s r => exact .lst (ex_l e s) (RelAll.mono e ds _ r)
  | .tup ds, _, h => by
    cases h with
    | tup s r => exact .tup (ex_t e s) (RelAll.mono e ds _ r)
  | .dct ks vs, _, h => by
    cases h with
    | dct s k q => exact .dct (e _ _ s) k (RelAll.mono e vs _ q)
  | .ins c ns xs, _, h => by
    cases h with
    | ins s c n r => exact .ins (e _ _ s) c n (RelAll.mono e xs _ r)
theorem RelAll.mono (e : Ex F F') : ∀ (ds : List D) (vs : List V), RelAll K F vs ds → RelAll K F' vs ds
  | [], _, h => by cases h; exact .nil
  | d :: ds, _, h => by
    cases h with
    | cons a b => exact .cons (Rel.mono e d _ a) (RelAll.mono e ds _ b)
end
theorem Rel.up (e : Ex F F') {d : D} {v : V} (h : Rel K F v d) : Rel K F' v d := Rel.mono e d v h
theorem RelAll.up (e : Ex F F') {ds : List D} {vs : List V} (h : RelAll K F vs ds) : RelAll K F' vs ds := RelAll.mono e ds vs h
theorem RelAll.len : ∀ {vs : List V} {ds : List D}, RelAll K F vs ds → vs.length = ds.length
  | _, [], h => by cases h; rfl
  | _, d :: ds, h => by
    cases h with
    | cons a b => simp [RelAll.len b]
theorem RelAll.app : ∀ {vs ws : List V} {ds es : List D}, RelAll K F vs ds → RelAll K F ws es → RelAll K F (vs ++ ws) (ds ++ es)
  | _, _, [], _, h, g => by cases h; exact g
  | _, _, d :: ds, _, h, g => by
    cases h with
    | cons a b => exact .cons a (RelAll.app b g)
theorem RelAll.get : ∀ {vs : List V} {ds : List D} {i : Nat} {v : V}, RelAll K F vs ds → vs[i]? = some v → ∃ d, ds[i]? = some d ∧ Rel K F v d
  | _, [], _, _, h, e => by cases h; simp at e
  | _, d :: ds, i, v, h, e => by
    cases h with
    | cons a b =>
      cases i with
      | zero =>
        simp at e
        subst e
        exact ⟨d, rfl, a⟩
      | succ i =>
        obtain ⟨d', e', r⟩ := RelAll.get (i := i) b (by simpa using e)
        exact ⟨d', by simpa using e', r⟩
theorem RelAll.getD : ∀ {vs : List V} {ds : List D} {i : Nat} {d : D}, RelAll K F vs ds → ds[i]? = some d → ∃ v, vs[i]? = some v ∧ Rel K F v d
  | _, [], _, _, h, e => by simp at e
  | _, d :: ds, i, x, h, e => by
    cases h with
    | cons a b =>
      cases i with
      | zero =>
        simp at e
        subst e
        exact ⟨_, rfl, a⟩
      | succ i =>
        obtain ⟨d', e', r⟩ := RelAll.getD (i := i) b (by simpa using e)
        exact ⟨d', by simpa using e', r⟩
theorem RelAll.take : ∀ {vs : List V} {ds : List D} (n : Nat), RelAll K F vs ds → RelAll K F (vs.take n) (ds.take n)
  | _, _, 0, _ => by simp; exact .nil
  | _, [], n + 1, h => by cases h; simp; exact .nil
  | _, d :: ds, n + 1, h => by
    cases h with
    | cons a b => exact .cons a (RelAll.take n b)
theorem RelAll.drop : ∀ {vs : List V} {ds : List D} (n : Nat), RelAll K F vs ds → RelAll K F (vs.drop n) (ds.drop n)
  | _, _, 0, h => by simpa using h
  | _, [], n + 1, h => by cases h; simp; exact .nil
  | _, d :: ds, n + 1, h => by
    cases h with
    | cons a b => simpa using RelAll.drop n b
theorem RelAll.rev : ∀ {vs : List V} {ds : List D}, RelAll K F vs ds → RelAll K F vs.reverse ds.reverse
  | _, [], h => by cases h; exact .nil
  | _, d :: ds, h => by
    cases h with
    | cons a b =>
      rw [List.reverse_cons, List.reverse_cons]
      exact RelAll.app (RelAll.rev b) (.cons a .nil)
theorem RelAll.set : ∀ {vs : List V} {ds : List D} (i : Nat) {v : V} {d : D}, RelAll K F vs ds → Rel K F v d → RelAll K F (vs.set i v) (ds.set i d)
  | _, [], _, _, _, h, _ => by cases h; exact .nil
  | _, d :: ds, 0, _, _, h, r => by
    cases h with
    | cons a b => exact .cons r b
  | _, d :: ds, i + 1, _, _, h, r => by
    cases h with
    | cons a b => exact .cons a (RelAll.set i b r)
theorem RelAll.ints : ∀ (ns : List Int), RelAll K F (ns.map V.int) (ns.map D.int)
  | [] => .nil
  | n :: r => .cons (.int n) (RelAll.ints r)
end

/-! ### what a slot holds -/
/-- the content of a thing that is one's own -/
inductive C where
  | lst (xs : List D)
  | dct (ks vs : List D)
  | ins (c : Str) (ns : List Str) (xs : List D)
def CellOk (K : PySem.W.Frag) (F : Hp) (p : Addr) (o : HO) : C → Prop
  | .lst ds => ∃ vs, o = .lst vs ∧ RelAll K F vs ds
  | .dct ks vs => ∃ kvs : List (Key × V), o = .dK kvs ∧ kvs.map (fun e => kD e.1) = ks ∧ RelAll K F (kvs.map (·.2)) vs
  | .ins c ns xs => ∃ (C dx : Addr) (fs : List (Str × V)), o = .ins C dx fs ∧ Glo.C c C ∧ fs.map (·.1) = ns ∧ RelAll K F (fs.map (·.2)) xs
theorem CellOk.up {K : PySem.W.Frag} {F F' : Hp} {p : Addr} {o : HO} (e : Ex F F') : ∀ {c : C}, CellOk K F p o c → CellOk K F' p o c
  | .lst _, ⟨vs, h, r⟩ => ⟨vs, h, r.up e⟩
  | .dct _ _, ⟨kvs, h, k, q⟩ => ⟨kvs, h, k, q.up e⟩
  | .ins _ _ _, ⟨C, dx, fs, h, c, n, r⟩ => ⟨C, dx, fs, h, c, n, r.up e⟩
theorem CellOk.noT {K : PySem.W.Frag} {F : Hp} {p : Addr} {o : HO} : ∀ {c : C}, CellOk K F p o c → ∀ ps, o ≠ .tbl ps
  | .lst _, ⟨vs, h, _⟩, ps, z => by rw [h] at z; cases z
  | .dct _ _, ⟨_, h, _⟩, ps, z => by rw [h] at z; cases z
  | .ins _ _ _, ⟨_, _, _, h, _⟩, ps, z => by rw [h] at z; cases z
/-- a thing of one's own, as data -/
def cD : C → D
  | .lst xs => .lst xs
  | .dct ks vs => .dct ks vs
  | .ins c ns xs => .ins c ns xs
theorem CellOk.rel {K : PySem.W.Frag} {F : Hp} {p : Addr} {o : HO} (e : F p = some o) : ∀ {c : C}, CellOk K F p o c → Rel K F (.ref p) (cD c)
  | .lst _, ⟨vs, h, r⟩ => .lst (.inl (Rd.of (by rw [e, h]))) r
  | .dct _ _, ⟨kvs, h, k, q⟩ => .dct (by rw [e, h]) k q
  | .ins _ _ _, ⟨C, dx, fs, h, c, n, r⟩ => .ins (by rw [e, h]) c n r
/-- an exception: the name of its class, its attributes -/
structure Xn where
  cls : Str
  fs : List (Str × D)
/-- own true: a thing that was handed in, and goes back to the caller -/
inductive SV where
  | un | d (x : D) | own (b : Bool) (c : C)
  /-- the exception that is handled -/
  | xn (e : Xn)
/-- which tables of code stand apart; the exception that is handled -/
class Tabs where
  T : Addr → Prop
  X : Option (Addr × Value × Option Addr)
/-- how an exception's own dict lies in the heap -/
def XnAt (K : PySem.W.Frag) (F : Hp) (e : Xn) (cls : Value) (d : Option Addr) : Prop :=
  ∃ (C : Addr), Glo.C e.cls C ∧ cls = .ref C ∧ ∃ dd vfs, d = some dd ∧ F dd = some (.xd vfs) ∧ vfs.map (·.1) = e.fs.map (·.1) ∧ RelAll K F (vfs.map (·.2)) (e.fs.map (·.2))
theorem XnAt.up {K : PySem.W.Frag} {F F' : Hp} {e : Xn} {cls : Value} {d : Option Addr} (x : Ex F F') : XnAt K F e cls d → XnAt K F' e cls d :=
  fun ⟨C, h1, h2, dd, vfs, h3, h4, h5, h6⟩ => ⟨C, h1, h2, dd, vfs, h3, x _ _ h4, h5, h6.up x⟩
variable [Tabs]
/-- what the caller keeps: things that stand as they are; where the things that were handed in stand -/
structure Fm where
  r : Hp
  t : Nat → Addr
  T : Addr → Prop
def FEx (R R' : Fm) : Prop := Ex R.r R'.r ∧ (R.t, R.T) = (R'.t, R'.T)
theorem FEx.t {R R' : Fm} (e : FEx R R') : R.t = R'.t := congrArg Prod.fst e.2
theorem FEx.T {R R' : Fm} (e : FEx R R') : R.T = R'.T := congrArg Prod.snd e.2
theorem FEx.refl (R : Fm) : FEx R R := ⟨Ex.refl _, rfl⟩
abbrev Sl := List SV
/-- a value in passing -/
inductive RV where
  | d (x : D) | own (c : C) | cv (i : Nat)

structure Sta (K : PySem.W.Frag) (F : Hp) (R : Fm) (σ : L2.St) (H : Hp) (env : Sl) : Prop where
  sub : Ex F H
  fr : Ex R.r H
  dis : ∀ b o, R.r b = some o → F b = none
  len : σ.length = env.length
  dat : ∀ (i : Nat) x, env[i]? = some (SV.d x) → ∃ v, σ[i]? = some (some v) ∧ Rel K F v x
  own : ∀ (i : Nat) b c, env[i]? = some (SV.own b c) → ∃ p o, σ[i]? = some (some (V.ref p)) ∧ F p = none ∧ R.r p = none ∧ H p = some o ∧ CellOk K F p o c
  tag : ∀ (i : Nat) c, env[i]? = some (SV.own true c) → σ[i]? = some (some (V.ref (R.t i)))
  inj : ∀ (i j : Nat) bi ci bj cj p, env[i]? = some (SV.own bi ci) → env[j]? = some (SV.own bj cj) → σ[i]? = some (some (V.ref p)) → σ[j]? = some (some (V.ref p)) → i = j
  xn : ∀ (i : Nat) e, env[i]? = some (SV.xn e) → ∃ a cls d, Tabs.X = some (a, cls, d) ∧ σ[i]? = some (some (V.ref a)) ∧ XnAt K F e cls d
  tab : ∀ P, Tabs.T P → GxR.TabG H P ∧ F P = none ∧ R.r P = none
def RvOk (K : PySem.W.Frag) (F : Hp) (R : Fm) (σ : L2.St) (H : Hp) (env : Sl) (v : V) : RV → Prop
  | .d x => Rel K F v x
  | .own c => ∃ p o, v = .ref p ∧ F p = none ∧ R.r p = none ∧ H p = some o ∧ CellOk K F p o c ∧ ∀ (i : Nat) b c', env[i]? = some (SV.own b c') → σ[i]? ≠ some (some (V.ref p))
  | .cv i => σ[i]? = some (some v)

inductive Re where
  | ok (a : RV) (env : Sl) | ex (e : Xn) (env : Sl)
abbrev SE := Sl → Option Re
def bindE (x : Option Re) (k : RV → SE) : Option Re :=
  match x with
  | some (.ok a env) => k a env
  | some (.ex e env) => some (.ex e env)
  | none => none
@[simp] theorem bindE_ok {a : RV} {env : Sl} {k : RV → SE} : bindE (some (.ok a env)) k = k a env := rfl
@[simp] theorem bindE_ex {e : Xn} {env : Sl} {k : RV → SE} : bindE (some (.ex e env)) k = some (.ex e env) := rfl
@[simp] theorem bindE_none {k : RV → SE} : bindE none k = none := rfl

section
variable (K : PySem.W.Frag) (W : WX)
def PostE (F : Hp) (R : Fm) (σ : L2.St) (r : Re) (Q : VK) : Prop :=
  match r with
  | .ok a env' => ∀ v F' H', Ex F F' → Sta K F' R σ H' env' → RvOk K F' R σ H' env' v a → Q v H'
  | .ex e env' => ∀ cls d F' H', Ex F F' → Sta K F' R σ H' env' → XnAt K F' e cls d → W cls d σ H'
/-- what an expression asks: its meaning is f -/
def dE (f : SE) : TE := fun σ H Q => ∃ env F R r, Sta K F R σ H env ∧ f env = some r ∧ PostE K W F R σ r Q
end
section
variable {K : PySem.W.Frag} {W : WX} {F F' : Hp} {R : Fm} {σ : L2.St} {H : Hp} {Q : VK}
theorem PostE.up (e : Ex F F') : ∀ {r : Re}, PostE K W F R σ r Q → PostE K W F' R σ r Q
  | .ok _ _, h => fun v F2 H2 e2 s q => h v F2 H2 (e.trans e2) s q
  | .ex _ _, h => fun c d F2 H2 e2 s q => h c d F2 H2 (e.trans e2) s q
theorem dE.mono {f g : SE} (h : ∀ env r, g env = some r → f env = some r) (q : dE K W g σ H Q) : dE K W f σ H Q := by
  obtain ⟨env, F, R, r, s, e, p⟩ := q
  exact ⟨env, F, R, r, s, h env r e, p⟩
/-- the rule behind all others: first f, then k -/
theorem dE_bind {f : SE} {k : RV → SE} {Q1 : VK} (h : dE K W (fun env => bindE (f env) k) σ H Q)
    (hk : ∀ a env F R v H', Sta K F R σ H' env → RvOk K F R σ H' env v a → (∃ r, k a env = some r ∧ PostE K W F R σ r Q) → Q1 v H') : dE K W f σ H Q1 := by
  obtain ⟨env, F, R, r, s, e, p⟩ := h
  cases hf : f env with
  | none =>
    rw [show (fun env => bindE (f env) k) env = none by simp only [hf, bindE_none]] at e
    cases e
  | some r1 =>
    cases r1 with
    | ok a env1 =>
      rw [show (fun env => bindE (f env) k) env = k a env1 by simp only [hf, bindE_ok]] at e
      exact ⟨env, F, R, _, s, hf, fun v F1 H1 e1 s1 rv => hk a env1 F1 R v H1 s1 rv ⟨r, e, p.up e1⟩⟩
    | ex x env1 =>
      rw [show (fun env => bindE (f env) k) env = some (.ex x env1) by simp only [hf, bindE_ex]] at e
      cases e
      exact ⟨env, F, R, _, s, hf, p⟩
end
/-- a weaker reading -/
theorem _root_.L2.PE.wk {X : Cx} {e : Expr} {t u : TE} (h : PE X e t) (w : ∀ σ H Q, u σ H Q → t σ H Q) : PE X e u := ⟨fun pins s σ H Q I q => h.run pins s σ H Q I (w σ H Q q)⟩

/-! ### states -/
section
variable {K : PySem.W.Frag} {F F' F2 : Hp} {R R' : Fm} {σ : L2.St} {H H' : Hp} {env : Sl}
theorem ex_none {R R' : Hp} {q : Addr} (e : Ex R R') (h : R' q = none) : R q = none := by
  cases z : R q with
  | none => rfl
  | some u => rw [e q u z] at h; cases h
theorem Sta.xnUp (S : Sta K F R σ H env) (e : Ex F F') : ∀ (i : Nat) x, env[i]? = some (SV.xn x) → ∃ a cls d, Tabs.X = some (a, cls, d) ∧ σ[i]? = some (some (V.ref a)) ∧ XnAt K F' x cls d := fun i x q =>
  let ⟨a, cls, d, h1, h2, h3⟩ := S.xn i x q
  ⟨a, cls, d, h1, h2, h3.up e⟩
theorem Sta.xnNe (S : Sta K F R σ H env) (e : Ex F F') {i : Nat} {s : SV} (hs : ∀ x, s ≠ .xn x) : ∀ (j : Nat) x, (env.set i s)[j]? = some (SV.xn x) → j ≠ i ∧ ∃ a cls d, Tabs.X = some (a, cls, d) ∧ σ[j]? = some (some (V.ref a)) ∧ XnAt K F' x cls d := fun j x q => by
  by_cases hj : j = i
  · subst hj
    by_cases hl : j < env.length
    · rw [List.getElem?_set_self hl] at q
      exact absurd (Option.some.inj q) (hs x)
    · rw [List.getElem?_eq_none (by rw [List.length_set]; omega)] at q
      cases q
  · rw [List.getElem?_set_ne (Ne.symm hj)] at q
    exact ⟨hj, S.xnUp e j x q⟩
theorem Sta.xnSet (S : Sta K F R σ H env) (e : Ex F F') {i : Nat} {s : SV} (v : Option V) (hs : ∀ x, s ≠ .xn x) : ∀ (j : Nat) x, (env.set i s)[j]? = some (SV.xn x) → ∃ a cls d, Tabs.X = some (a, cls, d) ∧ (σ.set i v)[j]? = some (some (V.ref a)) ∧ XnAt K F' x cls d := fun j x q => by
  obtain ⟨hj, h⟩ := S.xnNe e hs j x q
  rw [List.getElem?_set_ne (Ne.symm hj)]
  exact h
/-- a new object, frozen at once -/
theorem Sta.freshF (S : Sta K F R σ H env) {p : Addr} {o : HO} (hp : H p = none) : Sta K (upd F p o) R σ (upd H p o) env := by
  have hF : F p = none := ex_none S.sub hp
  have hR : R.r p = none := ex_none S.fr hp
  refine ⟨fun a u e => ?_, fun a u e => ?_, fun b u e => ?_, S.len, fun i x e => ?_, fun i b c e => ?_, S.tag, S.inj, S.xnUp (Ex.new hF), fun P h => ?_⟩
  rotate_right
  · obtain ⟨⟨ps, h1, h2⟩, h3, h4⟩ := S.tab P h
    have n : P ≠ p := fun z => by rw [z, hp] at h1; cases h1
    exact ⟨⟨ps, by rw [upd_ne n]; exact h1, h2⟩, by rw [upd_ne n]; exact h3, h4⟩
  · by_cases h : a = p
    · subst h; rw [upd_same] at e ⊢; exact e
    · rw [upd_ne h] at e ⊢; exact S.sub a u e
  · exact Ex.new hp a u (S.fr a u e)
  · have h : b ≠ p := fun h => by rw [h, hR] at e; cases e
    rw [upd_ne h]
    exact S.dis b u e
  · obtain ⟨v, e1, r⟩ := S.dat i x e
    exact ⟨v, e1, r.up (Ex.new hF)⟩
  · obtain ⟨q, u, e1, e2, e3, e4, e5⟩ := S.own i b c e
    have h : q ≠ p := fun h => by rw [h, hp] at e4; cases e4
    exact ⟨q, u, e1, by rw [upd_ne h]; exact e2, e3, by rw [upd_ne h]; exact e4, e5.up (Ex.new hF)⟩
theorem Sta.freeF (S : Sta K F R σ H env) {p : Addr} (hp : H p = none) : F p = none := ex_none S.sub hp
theorem Sta.freeR (S : Sta K F R σ H env) {p : Addr} (hp : H p = none) : R.r p = none := ex_none S.fr hp
/-- a new object, not frozen -/
theorem Sta.freshH (S : Sta K F R σ H env) {p : Addr} {o : HO} (hp : H p = none) : Sta K F R σ (upd H p o) env := by
  refine ⟨S.sub.trans (Ex.new hp), S.fr.trans (Ex.new hp), S.dis, S.len, S.dat, fun i b c e => ?_, S.tag, S.inj, S.xn, fun P h => let ⟨⟨ps, h1, h2⟩, h3⟩ := S.tab P h; ⟨⟨ps, Ex.new hp P _ h1, h2⟩, h3⟩⟩
  obtain ⟨q, u, e1, e2, e3, e4, e5⟩ := S.own i b c e
  exact ⟨q, u, e1, e2, e3, Ex.new hp q u e4, e5⟩
/-- a temporary thing p is put aside: it stands in the rest -/
theorem Sta.hold (S : Sta K F R σ H env) {p : Addr} {o : HO} (hF : F p = none) (hp : H p = some o) (ht : ∀ ps, o ≠ .tbl ps) (hs : ∀ (i : Nat) b c', env[i]? = some (SV.own b c') → σ[i]? ≠ some (some (V.ref p))) : Sta K F ⟨upd R.r p o, R.t, R.T⟩ σ H env := by
  refine ⟨S.sub, fun a u e => ?_, fun b u e => ?_, S.len, S.dat, fun i b c e => ?_, S.tag, S.inj, S.xn, fun P h => ?_⟩
  rotate_right
  · obtain ⟨⟨ps, h1, h2⟩, h3, h4⟩ := S.tab P h
    have n : P ≠ p := fun z => by rw [z, hp] at h1; exact ht ps (Option.some.inj h1)
    exact ⟨⟨ps, h1, h2⟩, h3, by show upd R.r p o P = none; rw [upd_ne n]; exact h4⟩
  · by_cases h : a = p
    · subst h
      have e : upd R.r a o a = some u := e
      rw [upd_same] at e; cases e; exact hp
    · have e : upd R.r p o a = some u := e
      rw [upd_ne h] at e; exact S.fr a u e
  · by_cases h : b = p
    · subst h; exact hF
    · have e : upd R.r p o b = some u := e
      rw [upd_ne h] at e; exact S.dis b u e
  · obtain ⟨q, u, e1, e2, e3, e4, e5⟩ := S.own i b c e
    have h : q ≠ p := fun h => hs i b c e (by rw [← h]; exact e1)
    exact ⟨q, u, e1, e2, by show upd R.r p o q = none; rw [upd_ne h]; exact e3, e4, e5⟩
theorem Sta.unhold (S : Sta K F R' σ H env) (e : FEx R R') : Sta K F R σ H env := by
  refine ⟨S.sub, e.1.trans S.fr, fun b u q => S.dis b u (e.1 b u q), S.len, S.dat, fun i b c h => ?_, fun i c h => by rw [e.t]; exact S.tag i c h, S.inj, S.xn, fun P h => let ⟨h1, h2, h3⟩ := S.tab P h; ⟨h1, h2, ex_none e.1 h3⟩⟩
  obtain ⟨q, u, e1, e2, e3, e4, e5⟩ := S.own i b c h
  exact ⟨q, u, e1, e2, ex_none e.1 e3, e4, e5⟩
/-- what holds of a value when it was put aside -/
def Held (K : PySem.W.Frag) (F : Hp) (R R' : Fm) (σ : L2.St) (v : V) : RV → Prop
  | .d x => Rel K F v x
  | .own c => ∃ p o, v = .ref p ∧ R.r p = none ∧ R'.r p = some o ∧ CellOk K F p o c
  | .cv i => σ[i]? = some (some v)
theorem hold {a : RV} {v : V} (S : Sta K F R σ H env) (h : RvOk K F R σ H env v a) : ∃ R', FEx R R' ∧ Sta K F R' σ H env ∧ Held K F R R' σ v a := by
  cases a with
  | d x => exact ⟨R, FEx.refl R, S, h⟩
  | cv i => exact ⟨R, FEx.refl R, S, h⟩
  | own c =>
    obtain ⟨p, o, e1, e2, e3, e4, e5, e6⟩ := h
    exact ⟨⟨upd R.r p o, R.t, R.T⟩, ⟨Ex.new e3, rfl⟩, S.hold e2 e4 e5.noT e6, p, o, e1, e3, upd_same, e5⟩
theorem unheld {a : RV} {v : V} (e : Ex F F') (eR : FEx R R') (S : Sta K F' R' σ H' env) (h : Held K F R R' σ v a) : RvOk K F' R σ H' env v a := by
  cases a with
  | d x => exact Rel.up e h
  | cv i => exact h
  | own c =>
    obtain ⟨p, o, e1, e3, e4, e5⟩ := h
    refine ⟨p, o, e1, S.dis p o e4, e3, S.fr p o e4, e5.up e, fun i b c' q z => ?_⟩
    obtain ⟨q1, u, z1, _, z3, _⟩ := S.own i b c' q
    rw [z] at z1
    cases z1
    rw [e4] at z3
    cases z3
theorem RvOk.unhold {a : RV} {v : V} (e : FEx R R') (h : RvOk K F R' σ H env v a) : RvOk K F R σ H env v a := by
  cases a with
  | d x => exact h
  | cv i => exact h
  | own c =>
    obtain ⟨p, o, e1, e2, e3, e4, e5, e6⟩ := h
    exact ⟨p, o, e1, e2, ex_none e.1 e3, e4, e5, e6⟩
/-- two temporary things stand apart -/
theorem held_ne {c c' : C} {v v' : V} (h : Held K F R R' σ v (.own c)) (h' : RvOk K F' R' σ H env v' (.own c')) : v ≠ v' := by
  obtain ⟨p, o, rfl, _, e4, _⟩ := h
  obtain ⟨q, u, rfl, _, e3, _⟩ := h'
  intro z
  cases z
  rw [e4] at e3
  cases e3
end
end
end Dw
namespace Dw
noncomputable section
open PySem PySem.Spec PyProof.Rows L2
variable [Glo] [Tabs]
section
variable (K : PySem.W.Frag) (W : WX)
def atE (f : SE) (F : Hp) (R : Fm) (σ : L2.St) (env : Sl) (Q : VK) : Prop := ∃ r, f env = some r ∧ PostE K W F R σ r Q
end
section
variable {K : PySem.W.Frag} {W : WX} {F F' : Hp} {R R' : Fm} {σ : L2.St} {H H' : Hp} {env : Sl} {Q Q1 : VK}
theorem dE_of {f : SE} (S : Sta K F R σ H env) (h : atE K W f F R σ env Q) : dE K W f σ H Q := let ⟨r, e, p⟩ := h; ⟨env, F, R, r, S, e, p⟩
theorem of_dE {f : SE} (h : dE K W f σ H Q) : ∃ env F R, Sta K F R σ H env ∧ atE K W f F R σ env Q := let ⟨env, F, R, r, S, e, p⟩ := h; ⟨env, F, R, S, r, e, p⟩
theorem atE.up {f : SE} (e : Ex F F') (h : atE K W f F R σ env Q) : atE K W f F' R σ env Q := let ⟨r, q, p⟩ := h; ⟨r, q, p.up e⟩
theorem PostE.un (e : FEx R R') : ∀ {r : Re}, PostE K W F R σ r Q → PostE K W F R' σ r Q
  | .ok _ _, h => fun v F2 H2 e2 s q => h v F2 H2 e2 (s.unhold e) (q.unhold e)
  | .ex _ _, h => fun c d F2 H2 e2 s q => h c d F2 H2 e2 (s.unhold e) q
theorem atE.un {f : SE} (e : FEx R R') (h : atE K W f F R σ env Q) : atE K W f F R' σ env Q := let ⟨r, q, p⟩ := h; ⟨r, q, p.un e⟩
theorem atE_bindR {f : SE} {k : RV → SE} (eR : FEx R R') (h : atE K W (fun env => bindE (f env) k) F R σ env Q)
    (hk : ∀ a env1 F1 v H1, Ex F F1 → Sta K F1 R' σ H1 env1 → RvOk K F1 R' σ H1 env1 v a → atE K W (k a) F1 R σ env1 Q → Q1 v H1) : atE K W f F R' σ env Q1 := by
  obtain ⟨r, e, p⟩ := h
  cases hf : f env with
  | none =>
    rw [show (fun env => bindE (f env) k) env = none by simp only [hf, bindE_none]] at e
    cases e
  | some r1 =>
    cases r1 with
    | ok a env1 =>
      rw [show (fun env => bindE (f env) k) env = k a env1 by simp only [hf, bindE_ok]] at e
      exact ⟨_, hf, fun v F1 H1 e1 s1 rv => hk a env1 F1 v H1 e1 s1 rv ⟨r, e, p.up e1⟩⟩
    | ex x env1 =>
      rw [show (fun env => bindE (f env) k) env = some (.ex x env1) by simp only [hf, bindE_ex]] at e
      cases e
      exact ⟨_, hf, PostE.un (Q := Q1) eR (show PostE K W F R σ (.ex x env1) Q1 from p)⟩
theorem atE_bind {f : SE} {k : RV → SE} (h : atE K W (fun env => bindE (f env) k) F R σ env Q)
    (hk : ∀ a env1 F1 v H1, Ex F F1 → Sta K F1 R σ H1 env1 → RvOk K F1 R σ H1 env1 v a → atE K W (k a) F1 R σ env1 Q → Q1 v H1) : atE K W f F R σ env Q1 := atE_bindR (FEx.refl R) h hk
/-- two operands -/
def two (op : RV → RV → SE) (fa fb : SE) : SE := fun env => bindE (fa env) fun a env1 => bindE (fb env1) fun b env2 => op a b env2
theorem dE_two {fa fb : SE} {op : RV → RV → SE} {r : V → V → Hp → Prop} (h : dE K W (two op fa fb) σ H Q)
    (hk : ∀ a b env F R v w H', Sta K F R σ H' env → RvOk K F R σ H' env v a → RvOk K F R σ H' env w b → atE K W (op a b) F R σ env Q → r v w H') :
    dE K W fa σ H fun x H1 => dE K W fb σ H1 fun y H2 => r x y H2 := by
  obtain ⟨env, F, R, S, q⟩ := of_dE h
  refine dE_of S (atE_bind q fun a env1 F1 v H1 e1 S1 rv q1 => ?_)
  obtain ⟨R', eR, S1', hd⟩ := hold S1 rv
  exact dE_of S1' (atE_bindR eR q1 fun b env2 F2 w H2 e2 S2 rw' q2 => hk a b env2 F2 R v w H2 (S2.unhold eR) (unheld e2 eR S2 hd) (rw'.unhold eR) q2)
theorem dE_one {fa : SE} {op : RV → SE} {r : V → Hp → Prop} (h : dE K W (fun env => bindE (fa env) op) σ H Q)
    (hk : ∀ a env F R v H', Sta K F R σ H' env → RvOk K F R σ H' env v a → atE K W (op a) F R σ env Q → r v H') : dE K W fa σ H r := by
  obtain ⟨env, F, R, S, q⟩ := of_dE h
  exact dE_of S (atE_bind q fun a env1 F1 v H1 e1 S1 rv q1 => hk a env1 F1 R v H1 S1 rv q1)

/-! ### what is seen of a value -/
def pkS : Option SV → Option D
  | some (.d x) => some x
  | some (.own _ c) => some (cD c)
  | _ => none
def pk (a : RV) (env : Sl) : Option D :=
  match a with
  | .d x => some x
  | .own c => some (cD c)
  | .cv i => pkS env[i]?
/-- a value as it is read now: a list's items are frozen, the list itself need not be -/
def Vw (K : PySem.W.Frag) (F H : Hp) (v : V) : D → Prop
  | .lst xs => ∃ p vs, v = .ref p ∧ SqL K H p vs ∧ RelAll K F vs xs
  | .dct ks vs => ∃ (p : Addr) (kvs : List (Key × V)), v = .ref p ∧ H p = some (.dK kvs) ∧ kvs.map (fun e => kD e.1) = ks ∧ RelAll K F (kvs.map (·.2)) vs
  | .ins c ns xs => ∃ (p C dx : Addr) (fs : List (Str × V)), v = .ref p ∧ H p = some (.ins C dx fs) ∧ Glo.C c C ∧ fs.map (·.1) = ns ∧ RelAll K F (fs.map (·.2)) xs
  | x => Rel K F v x
theorem Vw.of (e : Ex F H) {v : V} {x : D} (h : Rel K F v x) : Vw K F H v x := by
  cases h with
  | lst s r => exact ⟨_, _, rfl, ex_l e s, r⟩
  | non => exact .non
  | bl b => exact .bl b
  | int i => exact .int i
  | str x => exact .str x
  | tup s r => exact .tup s r
  | dct s k q => exact ⟨_, _, rfl, e _ _ s, k, q⟩
  | ins s c n r => exact ⟨_, _, _, _, rfl, e _ _ s, c, n, r⟩
theorem Vw.rel (e : Ex F H) {v : V} : ∀ {x : D}, Vw K F H v x → Rel K H v x
  | .lst _, ⟨p, vs, e1, s, r⟩ => by subst e1; exact .lst s (r.up e)
  | .dct _ _, ⟨p, kvs, e1, s, k, q⟩ => by subst e1; exact .dct s k (q.up e)
  | .ins _ _ _, ⟨p, C, dx, fs, e1, s, c, n, r⟩ => by subst e1; exact .ins s c n (r.up e)
  | .non, h => Rel.up e h
  | .bl _, h => Rel.up e h
  | .int _, h => Rel.up e h
  | .str _, h => Rel.up e h
  | .tup _, h => Rel.up e h
theorem Vw.ofCell {p : Addr} {o : HO} {c : C} (hp : H p = some o) (h : CellOk K F p o c) : Vw K F H (.ref p) (cD c) := by
  cases c with
  | lst xs =>
    obtain ⟨vs, rfl, r⟩ := h
    exact ⟨p, vs, rfl, .inl (Rd.of hp), r⟩
  | dct ks vs =>
    obtain ⟨kvs, rfl, k, q⟩ := h
    exact ⟨p, kvs, rfl, hp, k, q⟩
  | ins c ns xs =>
    obtain ⟨C, dx, fs, rfl, c, n, r⟩ := h
    exact ⟨p, C, dx, fs, rfl, hp, c, n, r⟩
theorem pk_vw {a : RV} {v : V} {x : D} (S : Sta K F R σ H env) (h : RvOk K F R σ H env v a) (e : pk a env = some x) : Vw K F H v x := by
  cases a with
  | d y => cases e; exact Vw.of S.sub h
  | own c =>
    cases e
    obtain ⟨p, o, rfl, _, _, hp, ho, _⟩ := h
    exact Vw.ofCell hp ho
  | cv i =>
    have h : σ[i]? = some (some v) := h
    have e : pkS env[i]? = some x := e
    cases hi : env[i]? with
    | none => rw [hi] at e; cases e
    | some s =>
      rw [hi] at e
      cases s with
      | un => cases e
      | xn _ => cases e
      | d y =>
        cases e
        obtain ⟨v', e', r⟩ := S.dat i x hi
        rw [h] at e'
        cases e'
        exact Vw.of S.sub r
      | own b c =>
        cases e
        obtain ⟨p, o, e', _, _, hp, ho⟩ := S.own i _ _ hi
        rw [h] at e'
        cases e'
        exact Vw.ofCell hp ho
/-- a value that is put into another thing: a thing of one's own is frozen -/
def frzS (i : Nat) (env : Sl) : Option SV → Option (D × Sl)
  | some (.d x) => some (x, env)
  | some (.own false c) => some (cD c, env.set i (.d (cD c)))
  | _ => none
def frz (a : RV) (env : Sl) : Option (D × Sl) :=
  match a with
  | .d x => some (x, env)
  | .own c => some (cD c, env)
  | .cv i => frzS i env env[i]?
theorem Sta.freeze (S : Sta K F R σ H env) {p : Addr} {o : HO} (hF : F p = none) (hR : R.r p = none) (hp : H p = some o) (ht : ∀ ps, o ≠ .tbl ps) (hs : ∀ (i : Nat) b c', env[i]? = some (SV.own b c') → σ[i]? ≠ some (some (V.ref p))) : Sta K (upd F p o) R σ H env := by
  have eF : Ex F (upd F p o) := Ex.new hF
  refine ⟨fun a u e => ?_, S.fr, fun b u e => ?_, S.len, fun i x e => ?_, fun i b c e => ?_, S.tag, S.inj, S.xnUp eF, fun P h => ?_⟩
  rotate_right
  · obtain ⟨⟨ps, h1, h2⟩, h3, h4⟩ := S.tab P h
    have n : P ≠ p := fun z => by rw [z, hp] at h1; exact ht ps (Option.some.inj h1)
    exact ⟨⟨ps, h1, h2⟩, by rw [upd_ne n]; exact h3, h4⟩
  · by_cases h : a = p
    · subst h; rw [upd_same] at e; cases e; exact hp
    · rw [upd_ne h] at e; exact S.sub a u e
  · have h : b ≠ p := fun h => by rw [h, hR] at e; cases e
    rw [upd_ne h]; exact S.dis b u e
  · obtain ⟨v, e1, r⟩ := S.dat i x e
    exact ⟨v, e1, r.up eF⟩
  · obtain ⟨q, u, e1, e2, e3, e4, e5⟩ := S.own i b c e
    have h : q ≠ p := fun h => hs i b c e (by rw [← h]; exact e1)
    exact ⟨q, u, e1, by rw [upd_ne h]; exact e2, e3, e4, e5.up eF⟩
theorem Sta.freezeSlot (S : Sta K F R σ H env) {i : Nat} {c0 : C} {p : Addr} {o : HO} {b0 : Bool} (hi : env[i]? = some (SV.own b0 c0)) (e1 : σ[i]? = some (some (V.ref p))) (hF : F p = none) (hR : R.r p = none) (hp : H p = some o) (ho : CellOk K F p o c0) :
    Sta K (upd F p o) R σ H (env.set i (.d (cD c0))) ∧ Rel K (upd F p o) (.ref p) (cD c0) := by
  have eF : Ex F (upd F p o) := Ex.new hF
  have rr : Rel K (upd F p o) (.ref p) (cD c0) := CellOk.rel upd_same (ho.up eF)
  have hl : i < env.length := (List.getElem?_eq_some_iff.mp hi).1
  have other : ∀ {j : Nat} {s : SV}, (env.set i (.d (cD c0)))[j]? = some s → (∀ x, s ≠ .d x) → j ≠ i ∧ env[j]? = some s := fun {j s} h hd => by
    by_cases hj : j = i
    · subst hj
      rw [List.getElem?_set_self hl] at h
      exact absurd (Option.some.inj h).symm (hd _)
    · rw [List.getElem?_set_ne (Ne.symm hj)] at h
      exact ⟨hj, h⟩
  have od : ∀ {b : Bool} {c : C} (x : D), SV.own b c ≠ .d x := fun x z => by cases z
  refine ⟨⟨fun a u e => ?_, S.fr, fun b u e => ?_, by rw [List.length_set]; exact S.len, fun j x e => ?_, fun j b c e => ?_, fun j c e => S.tag j c (other e od).2, fun j k bj cj bk ck q h1 h2 h3 h4 => ?_, fun j x e => S.xnUp eF j x (other e fun y z => by cases z).2, fun P h => ?_⟩, rr⟩
  rotate_right
  · obtain ⟨⟨ps, h1, h2⟩, h3, h4⟩ := S.tab P h
    have n : P ≠ p := fun z => by rw [z, hp] at h1; exact ho.noT ps (Option.some.inj h1)
    exact ⟨⟨ps, h1, h2⟩, by rw [upd_ne n]; exact h3, h4⟩
  · by_cases h : a = p
    · subst h; rw [upd_same] at e; cases e; exact hp
    · rw [upd_ne h] at e; exact S.sub a u e
  · have h : b ≠ p := fun h => by rw [h, hR] at e; cases e
    rw [upd_ne h]; exact S.dis b u e
  · by_cases hj : j = i
    · subst hj
      rw [List.getElem?_set_self hl] at e
      cases e
      exact ⟨_, e1, rr⟩
    · rw [List.getElem?_set_ne (Ne.symm hj)] at e
      obtain ⟨v, e1, r⟩ := S.dat j x e
      exact ⟨v, e1, r.up eF⟩
  · obtain ⟨hj, e⟩ := other e od
    obtain ⟨q, u, e2, e3, e4, e5, e6⟩ := S.own j b c e
    have h : q ≠ p := fun h => hj (S.inj j i b c b0 _ p e hi (by rw [← h]; exact e2) e1)
    exact ⟨q, u, e2, by rw [upd_ne h]; exact e3, e4, e5, e6.up eF⟩
  · exact S.inj j k bj cj bk ck q (other h1 od).2 (other h2 od).2 h3 h4
theorem frz_ok {a : RV} {v : V} {x : D} {env' : Sl} (S : Sta K F R σ H env) (h : RvOk K F R σ H env v a) (e : frz a env = some (x, env')) : ∃ F', Ex F F' ∧ Sta K F' R σ H env' ∧ Rel K F' v x := by
  cases a with
  | d y => cases e; exact ⟨F, Ex.refl F, S, h⟩
  | own c =>
    cases e
    obtain ⟨p, o, rfl, hF, hR, hp, ho, hs⟩ := h
    exact ⟨upd F p o, Ex.new hF, S.freeze hF hR hp ho.noT hs, CellOk.rel upd_same (ho.up (Ex.new hF))⟩
  | cv i =>
    have h : σ[i]? = some (some v) := h
    have e : frzS i env env[i]? = some (x, env') := e
    cases hi : env[i]? with
    | none => rw [hi] at e; cases e
    | some s =>
      rw [hi] at e
      cases s with
      | un => cases e
      | xn _ => cases e
      | d y =>
        cases e
        obtain ⟨v', e', r⟩ := S.dat i x hi
        rw [h] at e'
        cases e'
        exact ⟨F, Ex.refl F, S, r⟩
      | own b c =>
        cases b <;> cases e
        obtain ⟨p, o, e', hF, hR, hp, ho⟩ := S.own i _ _ hi
        rw [h] at e'
        cases e'
        obtain ⟨S', r⟩ := S.freezeSlot hi h hF hR hp ho
        exact ⟨_, Ex.new hF, S', r⟩
/-- behind a rule: a value that is data | a new list -/
theorem post_d {x : D} {v : V} (S : Sta K F R σ H env) (p : PostE K W F R σ (.ok (.d x) env) Q) (h : Rel K F v x) : Q v H := p v F H (Ex.refl F) S h
theorem post_new {xs : List D} {vs : List V} {p : Addr} (S : Sta K F R σ H env) (q : PostE K W F R σ (.ok (.own (.lst xs)) env) Q) (hp : H p = none) (h : RelAll K F vs xs) : Q (.ref p) (upd H p (.lst vs)) :=
  q _ F _ (Ex.refl F) (S.freshH hp) ⟨p, _, rfl, S.freeF hp, S.freeR hp, upd_same, ⟨vs, rfl, h⟩, fun i b c' e z => by
    obtain ⟨p', o, e1, _, _, e4, _⟩ := S.own i b c' e
    rw [z] at e1
    cases e1
    rw [hp] at e4
    cases e4⟩
theorem post_tup {xs : List D} {vs : List V} {p : Addr} (S : Sta K F R σ H env) (q : PostE K W F R σ (.ok (.d (.tup xs)) env) Q) (hp : H p = none) (h : RelAll K F vs xs) : Q (.ref p) (upd H p (.tup vs)) :=
  q _ (upd F p (.tup vs)) _ (Ex.new (S.freeF hp)) (S.freshF hp) (.tup (SqT.of upd_same) (h.up (Ex.new (S.freeF hp))))
end
end
end Dw
namespace Dw
noncomputable section
open PySem PySem.Spec PyProof.Rows L2
variable [Glo] [Tabs]

/-! ### names, constants -/
def constE (x : D) : SE := fun env => some (.ok (.d x) env)
def varS (i : Nat) : Option SV → Option RV
  | some (.d x) => some (.d x)
  | some (.own _ _) => some (.cv i)
  | _ => none
def varE (i : Nat) : SE := fun env => (varS i env[i]?).map (Re.ok · env)
section
variable {X : Cx} {W : WX}
theorem pd_var {i : Nat} {e : Expr} (h : PE X e (tVar i)) : PE X e (dE X.K W (varE i)) := by
  refine h.wk fun σ H Q q => ?_
  obtain ⟨env, F, R, S, r, e, p⟩ := of_dE q
  unfold varE at e
  cases hi : env[i]? with
  | none => rw [hi] at e; cases e
  | some s =>
    rw [hi] at e
    cases s with
    | un => cases e
    | xn _ => cases e
    | d x =>
      cases e
      obtain ⟨v, e1, r⟩ := S.dat i x hi
      exact ⟨v, e1, p v F H (Ex.refl F) S r⟩
    | own b c =>
      cases e
      obtain ⟨a, o, e1, _⟩ := S.own i b c hi
      exact ⟨_, e1, p _ F H (Ex.refl F) S e1⟩
theorem pd_c {e : Expr} {v : V} {x : D} (h : PE X e (tC v)) (r : ∀ F, Rel X.K F v x) : PE X e (dE X.K W (constE x)) := by
  refine h.wk fun σ H Q q => ?_
  obtain ⟨env, F, R, S, r', e, p⟩ := of_dE q
  cases e
  exact p v F H (Ex.refl F) S (r F)
theorem pd_int {i j pos} : PE X (.Constant (.int i) j pos) (dE X.K W (constE (.int i))) := pd_c pe_int fun _ => .int i
theorem pd_bl {b j pos} : PE X (.Constant (.bool b) j pos) (dE X.K W (constE (.bl b))) := pd_c pe_bl fun _ => .bl b
theorem pd_non {j pos} : PE X (.Constant .none j pos) (dE X.K W (constE .non)) := pd_c pe_non fun _ => .non
theorem pd_str {x : Str} {j pos} (l : List Nat) (h : x.cps.toList = l) : PE X (.Constant (.str x) j pos) (dE X.K W (constE (.str l))) := by
  refine pd_c pe_str fun F => ?_
  have e : x = mk l := by rw [← h, mk_of]
  rw [e]
  exact .str l
/-- a module's constant -/
theorem pd_glob {x : Str} {v : V} {u : Value} {d : D} {pos : Pos} (hm : X.mg x = some u) (r : RelV v u) (rd : ∀ F, Rel X.K F v d) (hg : Gl X x := by rfl) (hd : (x == ("__debug__" : Str)) = false := by decide) : PE X (.Name x pos) (dE X.K W (constE d)) := pd_c (pe_glob hg hm r hd) rd
end

/-! ### operators of two values -/
def op2 (f : D → D → Option RV) (a b : RV) : SE := fun env => (pk a env).bind fun x => (pk b env).bind fun y => (f x y).map (Re.ok · env)
theorem op2_inv {f : D → D → Option RV} {a b : RV} {env : Sl} {r : Re} (h : op2 f a b env = some r) : ∃ x y z, pk a env = some x ∧ pk b env = some y ∧ f x y = some z ∧ r = .ok z env := by
  unfold op2 at h
  rw [Option.bind_eq_some_iff] at h
  obtain ⟨x, h1, h⟩ := h
  rw [Option.bind_eq_some_iff] at h
  obtain ⟨y, h2, h⟩ := h
  rw [Option.map_eq_some_iff] at h
  obtain ⟨z, h3, h⟩ := h
  exact ⟨x, y, z, h1, h2, h3, h.symm⟩
theorem bindE_inv {x : Option Re} {k : RV → SE} {r : Re} (h : bindE x k = some r) : (∃ a env1, x = some (.ok a env1) ∧ k a env1 = some r) ∨ ∃ e env1, x = some (.ex e env1) ∧ r = .ex e env1 := by
  cases x with
  | none => cases h
  | some q =>
    cases q with
    | ok a env1 => exact .inl ⟨a, env1, rfl, h⟩
    | ex e env1 => exact .inr ⟨e, env1, rfl, (Option.some.inj h).symm⟩
def Snd2 (K : PySem.W.Frag) (f : D → D → Option RV) (r : R2) : Prop := ∀ {W : WX} {F : Hp} {R : Fm} {σ : L2.St} {H : Hp} {env : Sl} {Q : VK} {x y : D} {v w : V} {z : RV},
  Sta K F R σ H env → Vw K F H v x → Vw K F H w y → f x y = some z → PostE K W F R σ (.ok z env) Q → r v w H Q
theorem op2_snd {K : PySem.W.Frag} {W : WX} {f : D → D → Option RV} {r : R2} (hs : Snd2 K f r) {a b : RV} {env : Sl} {F : Hp} {R : Fm} {σ : L2.St} {v w : V} {H : Hp} {Q : VK} (S : Sta K F R σ H env) (h1 : RvOk K F R σ H env v a) (h2 : RvOk K F R σ H env w b)
    (h : atE K W (op2 f a b) F R σ env Q) : r v w H Q := by
  obtain ⟨r', e, p⟩ := h
  obtain ⟨x, y, z, ha, hb, hf, rfl⟩ := op2_inv e
  exact hs S (pk_vw S h1 ha) (pk_vw S h2 hb) hf p
section
variable {X : Cx} {W : WX} {a b : Expr} {fa fb : SE} {pos : Pos}
theorem pd_op {op : Operator} {r : R2} {f : D → D → Option RV} (ho : OpR X (binaryOp op) r) (hs : Snd2 X.K f r) (ha : PE X a (dE X.K W fa)) (hb : PE X b (dE X.K W fb)) : PE X (.BinOp a op b pos) (dE X.K W (two (op2 f) fa fb)) :=
  (pe_op ho ha hb).wk fun σ H Q q => dE_two q fun _ _ _ _ _ _ _ _ S h1 h2 h => op2_snd hs S h1 h2 h
theorem pd_cmp {op : CmpOp} {r : R2} {f : D → D → Option RV} (ho : OpR X (compareOp op) r) (hs : Snd2 X.K f r) (hm : behindInMarks op b = false) (ha : PE X a (dE X.K W fa)) (hb : PE X b (dE X.K W fb)) : PE X (.Compare a [op] [b] pos) (dE X.K W (two (op2 f) fa fb)) :=
  (pe_cmpR ho ha hb hm).wk fun σ H Q q => dE_two q fun _ _ _ _ _ _ _ _ S h1 h2 h => op2_snd hs S h1 h2 h
end

def rOr (r r' : R2) : R2 := fun x y H Q => r x y H Q ∨ r' x y H Q
/-- a list that stands in H or in the written part -/
def rCatR (K : PySem.W.Frag) : R2 := fun x y H Q => ∃ l b xs zs, x = .ref l ∧ y = .ref b ∧ SqL K H l xs ∧ SqL K H b zs ∧ xs.length + zs.length ≤ sizeLine ∧ ∀ p, H p = none → Q (.ref p) (upd H p (.lst (xs ++ zs)))
theorem op_catR {X : Cx} : OpR X (binaryOp .Add) (rCatR X.K) := by
  intro pins s σ H x y v u Q I rx ry h
  obtain ⟨l, b, xs, zs, rfl, rfl, hH, hB, hz, q⟩ := h
  cases rx
  cases ry
  obtain ⟨its, r, p1, z1⟩ := I.list hH
  obtain ⟨its2, r2, p2, z2⟩ := I.list hB
  obtain ⟨⟨cls, dd, data, sl⟩, ho, hc, n, hd⟩ := id p1.isList
  obtain ⟨⟨cls2, dd2, data2, sl2⟩, ho2, hc2, n2, hd2⟩ := id p2.isList
  simp only at hc hd hc2 hd2
  subst hc hd hc2 hd2
  have e1 := r.length
  have e2 := r2.length
  refine concat_meets ⟨_, ho, rfl⟩ ⟨_, ho2, rfl⟩ PySem.noFill_list_add PySem.seq_list_add PySem.F.slot_list_add PySem.F.entry_list_add (PySem.F.args_list_add_2 _ _) (PyProof.Rows.list_addW l b its.toArray its2.toArray n n2 dd dd2 sl sl2 (by rw [List.size_toArray, List.size_toArray]; omega)) ⟨ho, ho2, ?_⟩
  have ea : its.toArray ++ its2.toArray = (its ++ its2).toArray := by simp
  rw [ea]
  exact ⟨.ref _, _, I.lnew (t' := s.toks) (r.append r2) (by rw [List.length_append]; omega), rfl, q _ I.fresh⟩

/-! ### + -/
def addD : D → D → Option RV
  | .int i, .int j => some (.d (.int (i + j)))
  | .str x, .str y => if x.length + y.length ≤ sizeLine then some (.d (.str (x ++ y))) else none
  | .lst xs, .lst ys => if xs.length + ys.length ≤ sizeLine then some (.own (.lst (xs ++ ys))) else none
  | .tup xs, .tup ys => if xs.length + ys.length ≤ sizeLine then some (.d (.tup (xs ++ ys))) else none
  | _, _ => none
def rAddI : R2 := rI0 fun i j => .int (i + j)
def rAddT : R2 := fun x y H Q => ∃ i j, x = .str i ∧ y = .str j ∧ i.length + j.length ≤ sizeLine ∧ Q (.str (i ++ j)) H
def rAddAny (K : PySem.W.Frag) : R2 := rOr rAddI (rOr rAddT (rOr (rCatR K) (rCatA K)))
theorem op_addAny {X : Cx} : OpR X (binaryOp .Add) (rAddAny X.K) := OpR.or op_add (OpR.or op_add_str (OpR.or op_catR op_catA))
theorem some_if {α : Type} {c : Prop} [Decidable c] {x y : α} (h : (if c then some x else none) = some y) : c ∧ x = y := by
  by_cases hc : c
  · rw [if_pos hc] at h
    exact ⟨hc, Option.some.inj h⟩
  · rw [if_neg hc] at h
    cases h
theorem snd_add {K : PySem.W.Frag} : Snd2 K addD (rAddAny K) := by
  intro W F R σ H env Q x y v w z S hx hy e p
  cases x <;> cases y <;> first | (cases e; done) | skip
  · cases hx; cases hy; cases e
    exact .inl ⟨_, _, rfl, rfl, post_d S p (.int _)⟩
  · rename_i x y
    cases hx; cases hy
    obtain ⟨c, rfl⟩ := some_if e
    refine .inr (.inl ⟨_, _, rfl, rfl, by rw [mk_len, mk_len]; exact c, ?_⟩)
    rw [mk_app]
    exact post_d S p (.str _)
  · rename_i xs ys
    obtain ⟨a, vs, rfl, ha, ra⟩ := hx
    obtain ⟨b, ws, rfl, hb, rb⟩ := hy
    obtain ⟨c, rfl⟩ := some_if e
    exact .inr (.inr (.inl ⟨_, _, _, _, rfl, rfl, ha, hb, by rw [ra.len, rb.len]; exact c, fun q hq => post_new S p hq (ra.app rb)⟩))
  · rename_i xs ys
    cases hx with
    | tup sx rx =>
      cases hy with
      | tup sy ry =>
        obtain ⟨c, rfl⟩ := some_if e
        refine .inr (.inr (.inr ⟨_, _, _, _, rfl, rfl, ex_t S.sub sx, ex_t S.sub sy, by rw [rx.len, ry.len]; exact c, fun h0 => ?_, fun h0 h1 => ?_, fun h0 h1 q hq => post_tup S p hq (rx.app ry)⟩))
        · subst h0
          have e0 : xs = [] := List.eq_nil_of_length_eq_zero (by rw [← rx.len]; rfl)
          subst e0
          exact post_d S p (.tup sy ry)
        · subst h1
          have e0 : ys = [] := List.eq_nil_of_length_eq_zero (by rw [← ry.len]; rfl)
          subst e0
          rw [List.append_nil] at p
          exact post_d S p (.tup sx rx)

/-! ### -, *, //, %, ** -/
def intD (g : Int → Int → Option Int) : D → D → Option RV
  | .int i, .int j => (g i j).map fun k => .d (.int k)
  | _, _ => none
theorem snd_int {K : PySem.W.Frag} {c : Int → Int → Prop} {g : Int → Int → Int} {f : Int → Int → Option Int} (h : ∀ i j k, f i j = some k → c i j ∧ k = g i j) : Snd2 K (intD f) (rI c fun i j => .int (g i j)) := by
  intro W F R σ H env Q x y v w z S hx hy e p
  cases x <;> cases y <;> first | (cases e; done) | skip
  rename_i i j
  cases hx; cases hy
  cases hf : f i j with
  | none => simp [intD, hf] at e
  | some k =>
    simp only [intD, hf, Option.map_some, Option.some.injEq] at e
    subst e
    obtain ⟨h1, rfl⟩ := h i j k hf
    exact ⟨i, j, rfl, rfl, h1, post_d S p (.int _)⟩
def subD : D → D → Option RV := intD fun i j => some (i - j)
theorem snd_sub {K : PySem.W.Frag} : Snd2 K subD (rI0 fun i j => .int (i - j)) := by
  intro W F R σ H env Q x y v w z S hx hy e p
  obtain ⟨i, j, a, b, _, q⟩ := snd_int (K := K) (c := fun _ _ => True) (g := fun i j => i - j) (f := fun i j => some (i - j)) (fun i j k h => ⟨trivial, (Option.some.inj h).symm⟩) S hx hy e p
  exact ⟨i, j, a, b, q⟩
def big64 (i : Int) : Bool := okP (-(2 ^ 64) < i ∧ i < 2 ^ 64)
def mulI (i j : Int) : Option Int := if big64 i || big64 j then some (i * j) else none
def fdivI (i j : Int) : Option Int := if okP (0 < j ∧ j < 1073741824) then some (i / j) else none
def modI (i j : Int) : Option Int := if okP (0 < j) then some (i % j) else none
def powI (i j : Int) : Option Int := if okP ((0 ≤ j ∧ j ≤ 1000) ∧ i.natAbs < 1000) then some (i ^ j.toNat) else none
/-- a text times a number -/
def mulD : D → D → Option RV
  | .int i, .int j => (mulI i j).map fun k => .d (.int k)
  | .str x, .int n => if x.length ≤ 1000 ∧ n ≤ 1000 ∧ -1000 ≤ n then some (.d (.str (List.replicate n.toNat x).flatten)) else none
  | _, _ => none
def fdivD : D → D → Option RV := intD fdivI
def modD : D → D → Option RV := intD modI
def powD : D → D → Option RV := intD powI
def rMulS : R2 := fun x y H Q => ∃ l n, x = .str (mk l) ∧ y = .int n ∧ (l.length ≤ 1000 ∧ n ≤ 1000 ∧ -1000 ≤ n) ∧ Q (.str (mk (List.replicate n.toNat l).flatten)) H
theorem mul_mk {l : List Nat} {n : Int} : Txt.mul (mk l) n = mk (List.replicate n.toNat l).flatten := by
  have fold : ∀ (k : Nat) (acc : List Nat), (List.replicate k l.toArray).foldl (· ++ ·) acc.toArray = (acc ++ (List.replicate k l).flatten).toArray := by
    intro k
    induction k with
    | zero => intro acc; simp
    | succ k ih =>
      intro acc
      rw [List.replicate_succ, List.foldl_cons, List.replicate_succ, List.flatten_cons]
      rw [show acc.toArray ++ l.toArray = (acc ++ l).toArray by simp, ih, List.append_assoc]
  unfold Txt.mul
  by_cases h : n < 1
  · rw [if_pos h]
    have : n.toNat = 0 := by omega
    rw [this]
    rfl
  · rw [if_neg h]
    by_cases h2 : (n == 1 || (mk l).length == 0) = true
    · rw [if_pos h2]
      rw [Bool.or_eq_true] at h2
      rcases h2 with h2 | h2
      · have : n = 1 := by simpa using h2
        subst this
        simp [mk]
      · have : l = [] := by
          rw [mk_len] at h2
          exact List.eq_nil_of_length_eq_zero (by simpa using h2)
        subst this
        have : (List.replicate n.toNat ([] : List Nat)).flatten = [] := by simp
        rw [this]
    · rw [if_neg h2]
      have := fold n.toNat []
      simp only [mk]
      rw [show (#[] : Array Nat) = ([] : List Nat).toArray from rfl, this, List.nil_append]
theorem op_mulS {X : Cx} : OpR X (binaryOp .Mult) rMulS := by
  intro pins s σ H x y v u Q I rx ry h
  obtain ⟨l, n, rfl, rfl, ⟨h1, h2, h3⟩, q⟩ := h
  obtain ⟨t, rfl⟩ := rx
  obtain ⟨t', rfl⟩ := ry
  refine SB.mul ⟨?_, fun _ _ => ?_, fun _ _ => ?_⟩ fun t2 k => ⟨.str (Txt.mul (mk l) n), H, I.tok _, ⟨_, rfl⟩, by rw [mul_mk]; exact q⟩
  · have a : ¬ n < -(2 ^ 63 : Int) := by omega
    have b : ¬ n ≥ (2 ^ 63 : Int) := by omega
    rw [decide_eq_false a, decide_eq_false b]; rfl
  · rw [mk_len]
    have hn : 1 ≤ n := by omega
    have : (1000 : Int) ≤ (2 ^ 63 - 1) / n := by
      rw [Int.le_ediv_iff_mul_le (by omega)]
      omega
    omega
  · rw [mk_len]
    have z : l.length * n.toNat ≤ 1000 * 1000 := Nat.mul_le_mul h1 (by omega)
    unfold Builtin.Str.tooLong
    refine decide_eq_false ?_
    have : (1000 * 1000 : Nat) ≤ sizeLine := by decide
    omega
def rMulAny : R2 := rOr (rI CMul fun i j => .int (i * j)) rMulS
theorem op_mulAny {X : Cx} : OpR X (binaryOp .Mult) rMulAny := OpR.or op_mul op_mulS
theorem snd_mul {K : PySem.W.Frag} : Snd2 K mulD rMulAny := by
  intro W F R σ H env Q x y v w z S hx hy e p
  cases x <;> cases y <;> first | (cases e; done) | skip
  · rename_i i j
    refine .inl (snd_int (f := mulI) (fun i j k h => ?_) S hx hy (show intD mulI (.int i) (.int j) = some z from e) p)
    unfold mulI at h
    obtain ⟨c, e⟩ := some_if h
    refine ⟨?_, e.symm⟩
    rw [Bool.or_eq_true] at c
    unfold big64 at c
    rcases c with c | c
    · exact .inl (by simpa using okP_iff.mp c)
    · exact .inr (by simpa using okP_iff.mp c)
  · rename_i l n
    cases hx; cases hy
    obtain ⟨c, rfl⟩ := some_if e
    exact .inr ⟨l, n, rfl, rfl, c, post_d S p (.str _)⟩
theorem snd_fdiv {K : PySem.W.Frag} : Snd2 K fdivD (rI CDiv fun i j => .int (i / j)) := snd_int (f := fdivI) fun i j k h => by
  unfold fdivI at h
  obtain ⟨c, e⟩ := some_if h
  exact ⟨by simpa [CDiv] using okP_iff.mp c, e.symm⟩
theorem snd_mod {K : PySem.W.Frag} : Snd2 K modD (rI (fun _ j => 0 < j) fun i j => .int (i % j)) := snd_int (f := modI) fun i j k h => by
  unfold modI at h
  obtain ⟨c, e⟩ := some_if h
  exact ⟨okP_iff.mp c, e.symm⟩
theorem snd_pow {K : PySem.W.Frag} : Snd2 K powD (rI CPow fun i j => .int (i ^ j.toNat)) := snd_int (f := powI) fun i j k h => by
  unfold powI at h
  obtain ⟨c, e⟩ := some_if h
  refine ⟨?_, e.symm⟩
  rw [okP_iff] at c
  exact ⟨c.1.1, by omega, by have := c.2; omega⟩
section
variable {X : Cx} {W : WX} {a b : Expr} {fa fb : SE} {pos : Pos}
theorem pd_add (ha : PE X a (dE X.K W fa)) (hb : PE X b (dE X.K W fb)) : PE X (.BinOp a .Add b pos) (dE X.K W (two (op2 addD) fa fb)) := pd_op op_addAny snd_add ha hb
theorem pd_sub (ha : PE X a (dE X.K W fa)) (hb : PE X b (dE X.K W fb)) : PE X (.BinOp a .Sub b pos) (dE X.K W (two (op2 subD) fa fb)) := pd_op op_sub snd_sub ha hb
theorem pd_mul (ha : PE X a (dE X.K W fa)) (hb : PE X b (dE X.K W fb)) : PE X (.BinOp a .Mult b pos) (dE X.K W (two (op2 mulD) fa fb)) := pd_op op_mulAny snd_mul ha hb
theorem pd_fdiv (ha : PE X a (dE X.K W fa)) (hb : PE X b (dE X.K W fb)) : PE X (.BinOp a .FloorDiv b pos) (dE X.K W (two (op2 fdivD) fa fb)) := pd_op op_fdiv snd_fdiv ha hb
theorem pd_mod (ha : PE X a (dE X.K W fa)) (hb : PE X b (dE X.K W fb)) : PE X (.BinOp a .Mod b pos) (dE X.K W (two (op2 modD) fa fb)) := pd_op op_mod snd_mod ha hb
theorem pd_pow (ha : PE X a (dE X.K W fa)) (hb : PE X b (dE X.K W fb)) : PE X (.BinOp a .Pow b pos) (dE X.K W (two (op2 powD) fa fb)) := pd_op op_pow snd_pow ha hb
end
end
end Dw
namespace Dw
noncomputable section
open PySem PySem.Spec PyProof.Rows L2
variable [Glo] [Tabs]

/-! ### == -/
mutual
def py : D → PyData
  | .non => .none
  | .bl b => .bool b
  | .int i => .int i
  | .str x => .str (mk x)
  | .lst xs => .list (pys xs)
  | .tup xs => .tuple (pys xs)
  | .dct _ _ => .dict []
  | .ins _ _ _ => .dict []
def pys : List D → List PyData
  | [] => []
  | x :: xs => py x :: pys xs
end
mutual
def eqB : D → D → Bool
  | .non, .non => true
  | .bl a, .bl b => a == b
  | .bl a, .int j => (if a then 1 else 0) == j
  | .int i, .bl b => i == (if b then 1 else 0)
  | .int i, .int j => i == j
  | .str x, .str y => x == y
  | .lst xs, .lst ys => eqBs xs ys
  | .tup xs, .tup ys => eqBs xs ys
  | _, _ => false
def eqBs : List D → List D → Bool
  | [], [] => true
  | x :: xs, y :: ys => eqB x y && eqBs xs ys
  | _, _ => false
end
theorem mk_beq (x y : List Nat) : (mk x == mk y) = (x == y) := by
  by_cases h : x = y
  · subst h
    rw [beq_self_eq_true, beq_self_eq_true]
  · have : mk x ≠ mk y := fun z => h (mk_inj z)
    rw [beq_eq_false_iff_ne.mpr this, beq_eq_false_iff_ne.mpr h]
mutual
theorem eqv_py : ∀ x y : D, PyData.eqv (py x) (py y) = eqB x y
  | .non, y => by cases y <;> rfl
  | .bl a, y => by cases y <;> rfl
  | .int a, y => by cases y <;> rfl
  | .str a, y => by
    cases y with
    | str b => exact mk_beq a b
    | _ => rfl
  | .lst xs, y => by
    cases y with
    | lst ys => exact eqv_pys xs ys
    | _ => rfl
  | .tup xs, y => by
    cases y with
    | tup ys => exact eqv_pys xs ys
    | _ => rfl
  | .dct _ _, y => by cases y <;> rfl
  | .ins _ _ _, y => by cases y <;> rfl
theorem eqv_pys : ∀ xs ys : List D, PyData.eqvAll (pys xs) (pys ys) = eqBs xs ys
  | [], [] => rfl
  | [], _ :: _ => rfl
  | _ :: _, [] => rfl
  | x :: xs, y :: ys => by
    show (PyData.eqv (py x) (py y) && PyData.eqvAll (pys xs) (pys ys)) = (eqB x y && eqBs xs ys)
    rw [eqv_py x y, eqv_pys xs ys]
end

mutual
def dpl : D → Bool
  | .non => true
  | .bl _ => true
  | .int _ => true
  | .str _ => true
  | .lst xs => dpls xs
  | .tup xs => dpls xs
  | .dct _ _ => false
  | .ins _ _ _ => false
def dpls : List D → Bool
  | [] => true
  | x :: xs => dpl x && dpls xs
end
mutual
theorem dpl_of : ∀ x : D, (py x).canLay0 = true → dpl x = true
  | .non, _ => rfl
  | .bl _, _ => rfl
  | .int _, _ => rfl
  | .str _, _ => rfl
  | .lst xs, h => dpls_of xs (by simpa [py, PyData.canLay0] using h)
  | .tup xs, h => dpls_of xs (by simpa [py, PyData.canLay0] using h)
  | .dct _ _, h => by simp [py, PyData.canLay0] at h
  | .ins _ _ _, h => by simp [py, PyData.canLay0] at h
theorem dpls_of : ∀ xs : List D, PyData.canLayAll0 (pys xs) = true → dpls xs = true
  | [], _ => rfl
  | x :: xs, h => by
    have h : (py x).canLay0 = true ∧ PyData.canLayAll0 (pys xs) = true := by simpa [pys, PyData.canLayAll0] using h
    show (dpl x && dpls xs) = true
    rw [dpl_of x h.1, dpls_of xs h.2]
    rfl
end
section
variable {K : PySem.W.Frag} {H : Hp}
mutual
theorem Rel.dp : ∀ {v : V} (x : D), dpl x = true → Rel K H v x → Dp K H v (py x)
  | _, .non, _, h => by cases h; exact .non
  | _, .bl _, _, h => by cases h; exact .bl _
  | _, .int _, _, h => by cases h; exact .int _
  | _, .str _, _, h => by cases h; exact .str _
  | _, .lst xs, p, h => by
    cases h with
    | lst s r => exact .lst s (RelAll.dp xs p r)
  | _, .tup xs, p, h => by
    cases h with
    | tup s r => exact .tup s (RelAll.dp xs p r)
  | _, .dct _ _, p, _ => by cases p
  | _, .ins _ _ _, p, _ => by cases p
theorem RelAll.dp : ∀ {vs : List V} (xs : List D), dpls xs = true → RelAll K H vs xs → DpAll K H vs (pys xs)
  | _, [], _, h => by cases h; exact .nil
  | _, x :: xs, p, h => by
    have p : (dpl x && dpls xs) = true := p
    rw [Bool.and_eq_true] at p
    cases h with
    | cons a b => exact .cons (Rel.dp x p.1 a) (RelAll.dp xs p.2 b)
end
end
/-- data that == may look at: signs below 0x110000, at most 64 deep -/
def shp (x : D) : Bool := SeqAt.shaped (py x)
theorem shp_pl {x : D} (h : shp x = true) : dpl x = true := dpl_of x (SeqAt.canLay_of_shaped h)
/-- flat things need no look -/
def flatD : D → Bool
  | .lst _ => false
  | .tup _ => false
  | .dct _ _ => false
  | .ins _ _ _ => false
  | _ => true
/-- the pairs that == tells apart at once -/
def scalD : D → D → Bool
  | .non, .non => true | .non, .int _ => true | .int _, .non => true | .non, .bl _ => true | .bl _, .non => true | .non, .str _ => true | .str _, .non => true
  | .int _, .int _ => true | .bl _, .bl _ => true | .str _, .str _ => true
  | .int _, .str _ => true | .str _, .int _ => true | .bl _, .str _ => true | .str _, .bl _ => true
  | _, _ => false
def eqD (x y : D) : Option RV := if scalD x y || (shp x && shp y) then some (.d (.bl (eqB x y))) else none
def neD (x y : D) : Option RV := if scalD x y || (shp x && shp y) then some (.d (.bl (!eqB x y))) else none
def rEqAny (K : PySem.W.Frag) : R2 := rOr rEq (rEqD K)
def rNeAny (K : PySem.W.Frag) : R2 := rOr rNe (rNeD K)
theorem scal_of {K : PySem.W.Frag} {F H : Hp} {v w : V} {x y : D} (hx : Vw K F H v x) (hy : Vw K F H w y) (h : scalD x y = true) : scal v w = true ∧ decide (v = w) = eqB x y := by
  have dstr : ∀ a b : List Nat, decide (V.str (mk a) = V.str (mk b)) = (a == b) := fun a b => by rw [dec_str, mk_beq]
  cases x <;> cases y <;> first | (cases h; done) | skip
  all_goals (cases hx; cases hy; refine ⟨rfl, ?_⟩)
  all_goals first | rfl | (exact dec_int) | (exact dec_bl) | (exact dstr _ _) | (simp [eqB]; done)
theorem snd_eq {K : PySem.W.Frag} : Snd2 K eqD (rEqAny K) := by
  intro W F R σ H env Q x y v w z S hx hy e p
  obtain ⟨c, rfl⟩ := some_if e
  by_cases h : scalD x y = true
  · obtain ⟨a, b⟩ := scal_of hx hy h
    refine .inl ⟨a, ?_⟩
    rw [b]
    exact post_d S p (.bl _)
  · rw [Bool.or_eq_true, Bool.and_eq_true] at c
    rcases c with c | c
    · exact absurd c h
    · refine .inr ⟨py x, py y, (hx.rel S.sub).dp _ (shp_pl c.1), (hy.rel S.sub).dp _ (shp_pl c.2), c.1, c.2, ?_⟩
      rw [eqv_py]
      exact post_d S p (.bl _)
theorem snd_ne {K : PySem.W.Frag} : Snd2 K neD (rNeAny K) := by
  intro W F R σ H env Q x y v w z S hx hy e p
  obtain ⟨c, rfl⟩ := some_if e
  by_cases h : scalD x y = true
  · obtain ⟨a, b⟩ := scal_of hx hy h
    refine .inl ⟨a, ?_⟩
    rw [b]
    exact post_d S p (.bl _)
  · rw [Bool.or_eq_true, Bool.and_eq_true] at c
    rcases c with c | c
    · exact absurd c h
    · refine .inr ⟨py x, py y, (hx.rel S.sub).dp _ (shp_pl c.1), (hy.rel S.sub).dp _ (shp_pl c.2), c.1, c.2, ?_⟩
      rw [eqv_py]
      exact post_d S p (.bl _)

/-! ### <, <=, >, >= -/
def ltD : D → D → Option RV
  | .int i, .int j => some (.d (.bl (decide (i < j))))
  | .str x, .str y => some (.d (.bl (decide (x < y))))
  | _, _ => none
def leD : D → D → Option RV
  | .int i, .int j => some (.d (.bl (decide (i ≤ j))))
  | .str x, .str y => some (.d (.bl (!decide (y < x))))
  | _, _ => none
def gtD : D → D → Option RV
  | .int i, .int j => some (.d (.bl (decide (j < i))))
  | _, _ => none
def geD : D → D → Option RV
  | .int i, .int j => some (.d (.bl (decide (j ≤ i))))
  | _, _ => none
theorem snd_cmpI {K : PySem.W.Frag} {g : Int → Int → Bool} {f : D → D → Option RV} (h : ∀ x y z, f x y = some z → ∃ i j, x = .int i ∧ y = .int j ∧ z = .d (.bl (g i j))) : Snd2 K f (rI0 fun i j => .bl (g i j)) := by
  intro W F R σ H env Q x y v w z S hx hy e p
  obtain ⟨i, j, rfl, rfl, rfl⟩ := h x y z e
  cases hx; cases hy
  exact ⟨i, j, rfl, rfl, post_d S p (.bl _)⟩
def rLtS : R2 := fun x y H Q => ∃ i j, x = .str i ∧ y = .str j ∧ Q (.bl (decide (i.cps.toList < j.cps.toList))) H
def rLeS : R2 := fun x y H Q => ∃ i j, x = .str i ∧ y = .str j ∧ Q (.bl (!decide (j.cps.toList < i.cps.toList))) H
theorem snd_gt {K : PySem.W.Frag} : Snd2 K gtD (rI0 fun i j => .bl (decide (j < i))) := snd_cmpI fun x y z h => by
  cases x <;> cases y <;> first | (cases h; done) | skip
  cases h
  exact ⟨_, _, rfl, rfl, rfl⟩
theorem snd_ge {K : PySem.W.Frag} : Snd2 K geD (rI0 fun i j => .bl (decide (j ≤ i))) := snd_cmpI fun x y z h => by
  cases x <;> cases y <;> first | (cases h; done) | skip
  cases h
  exact ⟨_, _, rfl, rfl, rfl⟩
def rLtAny : R2 := rOr (rI0 fun i j => .bl (decide (i < j))) rLtS
def rLeAny : R2 := rOr (rI0 fun i j => .bl (decide (i ≤ j))) rLeS
theorem snd_lt {K : PySem.W.Frag} : Snd2 K ltD rLtAny := by
  intro W F R σ H env Q x y v w z S hx hy e p
  cases x <;> cases y <;> first | (cases e; done) | skip
  · cases hx; cases hy; cases e
    exact .inl ⟨_, _, rfl, rfl, post_d S p (.bl _)⟩
  · cases hx; cases hy; cases e
    exact .inr ⟨_, _, rfl, rfl, post_d S p (.bl _)⟩
theorem snd_le {K : PySem.W.Frag} : Snd2 K leD rLeAny := by
  intro W F R σ H env Q x y v w z S hx hy e p
  cases x <;> cases y <;> first | (cases e; done) | skip
  · cases hx; cases hy; cases e
    exact .inl ⟨_, _, rfl, rfl, post_d S p (.bl _)⟩
  · cases hx; cases hy; cases e
    exact .inr ⟨_, _, rfl, rfl, post_d S p (.bl _)⟩

/-! ### is -/
def isNon : D → Bool
  | .non => true
  | _ => false
def isD : D → D → Option RV
  | x, .non => some (.d (.bl (isNon x)))
  | .bl a, .bl b => some (.d (.bl (a == b)))
  | _, _ => none
def isNotD (x y : D) : Option RV := match isD x y with
  | some (.d (.bl b)) => some (.d (.bl (!b)))
  | _ => none
def rIsAny : R2 := rOr rIsN rIsB
def rIsNotAny : R2 := rOr rNotN rNotB
theorem isN_of {K : PySem.W.Frag} {F H : Hp} {v : V} {x : D} (h : Vw K F H v x) : decide (v = .non) = (isNon x) := by
  cases x with
  | lst xs => obtain ⟨p, vs, rfl, _⟩ := h; rfl
  | dct ks vs => obtain ⟨p, es, rfl, _⟩ := h; rfl
  | ins c ns xs => obtain ⟨p, C, dx, fs, rfl, _⟩ := h; rfl
  | _ => cases h; rfl
theorem snd_is {K : PySem.W.Frag} : Snd2 K isD rIsAny := by
  intro W F R σ H env Q x y v w z S hx hy e p
  cases y with
  | non =>
    cases hy
    have e' : z = .d (.bl (isNon x)) := by cases x <;> exact (Option.some.inj e).symm
    subst e'
    refine .inl ⟨rfl, ?_⟩
    rw [isN_of hx]
    exact post_d S p (.bl _)
  | bl b =>
    cases x with
    | bl a =>
      cases hx; cases hy; cases e
      refine .inr ⟨a, b, rfl, rfl, ?_⟩
      rw [show decide (a = b) = (a == b) by cases a <;> cases b <;> rfl]
      exact post_d S p (.bl _)
    | _ => cases e
  | _ => cases x <;> cases e
theorem snd_isNot {K : PySem.W.Frag} : Snd2 K isNotD rIsNotAny := by
  intro W F R σ H env Q x y v w z S hx hy e p
  cases y with
  | non =>
    cases hy
    have e' : z = .d (.bl (!(isNon x))) := by cases x <;> exact (Option.some.inj e).symm
    subst e'
    refine .inl ⟨rfl, ?_⟩
    rw [isN_of hx]
    exact post_d S p (.bl _)
  | bl b =>
    cases x with
    | bl a =>
      cases hx; cases hy; cases e
      refine .inr ⟨a, b, rfl, rfl, ?_⟩
      rw [show (!decide (a = b)) = (!(a == b)) by cases a <;> cases b <;> rfl]
      exact post_d S p (.bl _)
    | _ => cases e
  | _ => cases x <;> cases e

/-! ### in -/
def toV : D → V
  | .non => .non
  | .bl b => .bl b
  | .int i => .int i
  | .str x => .str (mk x)
  | _ => .non
def items? : D → Option (List D)
  | .lst xs => some xs
  | .tup xs => some xs
  | _ => none
def inB (x : D) (ys : List D) : Bool := ys.any fun y => eqB y x
def inD (x y : D) : Option RV := match y with
  | .str s => match x with
    | .str [c] => some (.d (.bl (decide (c ∈ s))))
    | _ => none
  | .tup ys => if flatD x && ys.all flatD then some (.d (.bl (inB x ys))) else none
  | .lst ys => if (flatD x && ys.all flatD) || (shp x && shp (.lst ys)) then some (.d (.bl (inB x ys))) else none
  | _ => none
def notInD (x y : D) : Option RV := match inD x y with
  | some (.d (.bl b)) => some (.d (.bl (!b)))
  | _ => none
theorem flat_toV {K : PySem.W.Frag} {F : Hp} {v : V} {x : D} (h : Rel K F v x) (f : flatD x = true) : v = toV x ∧ flatV v = true := by
  cases x with
  | lst xs => cases f
  | tup xs => cases f
  | dct ks vs => cases f
  | ins c ns xs => cases f
  | _ => cases h; exact ⟨rfl, rfl⟩
theorem flat_all {K : PySem.W.Frag} {F : Hp} : ∀ {vs : List V} {xs : List D}, RelAll K F vs xs → xs.all flatD = true → vs = xs.map toV ∧ vs.all flatV = true
  | _, [], h, _ => by cases h; exact ⟨rfl, rfl⟩
  | _, x :: xs, h, f => by
    cases h with
    | cons a b =>
      rw [List.all_cons, Bool.and_eq_true] at f
      obtain ⟨e1, e2⟩ := flat_toV a f.1
      obtain ⟨e3, e4⟩ := flat_all b f.2
      exact ⟨by rw [List.map_cons, ← e1, ← e3], by rw [List.all_cons, e2, e4]; rfl⟩
theorem eqV_toV {x y : D} (fx : flatD x = true) (fy : flatD y = true) : eqV (toV x) (toV y) = eqB x y := by
  cases x <;> cases y <;> first | (cases fx; done) | (cases fy; done) | rfl | skip
  exact mk_beq _ _
theorem inV_toV {x : D} (fx : flatD x = true) : ∀ (ys : List D), ys.all flatD = true → inV (toV x) (ys.map toV) = inB x ys
  | [], _ => rfl
  | y :: ys, f => by
    rw [List.all_cons, Bool.and_eq_true] at f
    have := inV_toV fx ys f.2
    unfold inV inB at this ⊢
    rw [List.map_cons, List.any_cons, List.any_cons, eqV_toV f.1 fx, this]
theorem any_py (x : D) : ∀ ys : List D, ((pys ys).any fun z => PyData.eqv z (py x)) = inB x ys
  | [] => rfl
  | y :: ys => by
    have := any_py x ys
    unfold inB at this ⊢
    show ((PyData.eqv (py y) (py x)) || (pys ys).any fun z => PyData.eqv z (py x)) = _
    rw [this, eqv_py, List.any_cons]
theorem Vw.flat {K : PySem.W.Frag} {F H : Hp} {v : V} {x : D} (h : Vw K F H v x) (f : flatD x = true) : v = toV x ∧ flatV v = true := by
  cases x with
  | lst xs => cases f
  | tup xs => cases f
  | dct ks vs => cases f
  | ins c ns xs => cases f
  | _ => cases h; exact ⟨rfl, rfl⟩
def rInSgn : R2 := fun x y H Q => ∃ (c : Nat) (z : Str), x = .str ⟨#[c]⟩ ∧ y = .str z ∧ Q (.bl (decide (c ∈ z.cps.toList))) H
def rNiSgn : R2 := fun x y H Q => ∃ (c : Nat) (z : Str), x = .str ⟨#[c]⟩ ∧ y = .str z ∧ Q (.bl (!decide (c ∈ z.cps.toList))) H
def rInAny (K : PySem.W.Frag) : R2 := rOr rInSgn (rOr (rIn K false) (rInD K))
def rNiAny (K : PySem.W.Frag) : R2 := rOr rNiSgn (rOr (rIn K true) (rNotInD K))
theorem in_cases {K : PySem.W.Frag} {F H : Hp} {x y : D} {v w : V} {b : Bool} (e : Ex F H) (hx : Vw K F H v x) (hy : Vw K F H w y) (h : inD x y = some (.d (.bl b))) :
    (∃ (c : Nat) (z : Str), v = .str ⟨#[c]⟩ ∧ w = .str z ∧ b = decide (c ∈ z.cps.toList)) ∨ (∃ p xs, w = .ref p ∧ (SqL K H p xs ∨ SqT K H p xs) ∧ flatV v = true ∧ xs.all flatV = true ∧ b = inV v xs) ∨
    ∃ d ds, Dp K H v d ∧ Dp K H w (.list ds) ∧ SeqAt.shaped d = true ∧ SeqAt.shaped (.list ds) = true ∧ b = ds.any fun z => PyData.eqv z d := by
  cases y with
  | str s =>
    cases x with
    | str t =>
      match t, h, hx with
      | [c], h, hx =>
        cases hx; cases hy; cases h
        exact .inl ⟨c, mk s, rfl, rfl, rfl⟩
      | [], h, _ => cases h
      | _ :: _ :: _, h, _ => cases h
    | _ => cases h
  | tup ys =>
    obtain ⟨c, e1⟩ := some_if (show (if flatD x && ys.all flatD then some (RV.d (.bl (inB x ys))) else none) = _ from h)
    rw [Bool.and_eq_true] at c
    cases hy with
    | tup s r =>
      obtain ⟨a1, a2⟩ := hx.flat c.1
      obtain ⟨b1, b2⟩ := flat_all r c.2
      cases e1
      exact .inr (.inl ⟨_, _, rfl, .inr (ex_t e s), a2, b2, by rw [a1, b1, inV_toV c.1 ys c.2]⟩)
  | lst ys =>
    obtain ⟨c, e1⟩ := some_if (show (if (flatD x && ys.all flatD) || (shp x && shp (.lst ys)) then some (RV.d (.bl (inB x ys))) else none) = _ from h)
    cases e1
    rw [Bool.or_eq_true, Bool.and_eq_true, Bool.and_eq_true] at c
    rcases c with c | c
    · obtain ⟨p, vs, rfl, s, r⟩ := hy
      obtain ⟨a1, a2⟩ := hx.flat c.1
      obtain ⟨b1, b2⟩ := flat_all r c.2
      exact .inr (.inl ⟨_, _, rfl, .inl s, a2, b2, by rw [a1, b1, inV_toV c.1 ys c.2]⟩)
    · exact .inr (.inr ⟨py x, pys ys, (hx.rel e).dp _ (shp_pl c.1), (hy.rel e).dp _ (shp_pl c.2), c.1, c.2, (any_py x ys).symm⟩)
  | _ => cases h
theorem inD_bl {x y : D} {z : RV} (h : inD x y = some z) : ∃ b, z = .d (.bl b) := by
  cases y with
  | str s =>
    cases x with
    | str t =>
      match t, h with
      | [c], h => cases h; exact ⟨_, rfl⟩
      | [], h => cases h
      | _ :: _ :: _, h => cases h
    | _ => cases h
  | tup ys => exact ⟨_, (some_if (show (if flatD x && ys.all flatD then some (RV.d (.bl (inB x ys))) else none) = _ from h)).2.symm⟩
  | lst ys => exact ⟨_, (some_if (show (if (flatD x && ys.all flatD) || (shp x && shp (.lst ys)) then some (RV.d (.bl (inB x ys))) else none) = _ from h)).2.symm⟩
  | _ => cases h
theorem snd_in {K : PySem.W.Frag} : Snd2 K inD (rInAny K) := by
  intro W F R σ H env Q x y v w z S hx hy e p
  obtain ⟨b, rfl⟩ := inD_bl e
  have q := post_d S p (.bl b)
  rcases in_cases S.sub hx hy e with ⟨c, z, e1, e2, rfl⟩ | ⟨a, xs, e1, e2, e3, e4, rfl⟩ | ⟨d, ds, e1, e2, e3, e4, rfl⟩
  · exact .inl ⟨c, z, e1, e2, q⟩
  · exact .inr (.inl ⟨a, xs, e1, e2, e3, e4, q⟩)
  · exact .inr (.inr ⟨d, ds, e1, e2, e3, e4, q⟩)
theorem snd_ni {K : PySem.W.Frag} : Snd2 K notInD (rNiAny K) := by
  intro W F R σ H env Q x y v w z S hx hy e p
  unfold notInD at e
  cases hi : inD x y with
  | none => rw [hi] at e; cases e
  | some z' =>
    obtain ⟨b, rfl⟩ := inD_bl hi
    rw [hi] at e
    cases e
    have q := post_d S p (.bl (!b))
    rcases in_cases S.sub hx hy hi with ⟨c, z, e1, e2, rfl⟩ | ⟨a, xs, e1, e2, e3, e4, rfl⟩ | ⟨d, ds, e1, e2, e3, e4, rfl⟩
    · exact .inl ⟨c, z, e1, e2, q⟩
    · exact .inr (.inl ⟨a, xs, e1, e2, e3, e4, q⟩)
    · exact .inr (.inr ⟨d, ds, e1, e2, e3, e4, q⟩)
section
variable {X : Cx} {W : WX} {a b : Expr} {fa fb : SE} {pos : Pos}
theorem pd_eq (hu : X.A.units + 64 < cLine) (ha : PE X a (dE X.K W fa)) (hb : PE X b (dE X.K W fb)) : PE X (.Compare a [.Eq] [b] pos) (dE X.K W (two (op2 eqD) fa fb)) := pd_cmp (OpR.or op_eq (op_eqD hu)) snd_eq (nomark _) ha hb
theorem pd_ne (hu : X.A.units + 64 < cLine) (ha : PE X a (dE X.K W fa)) (hb : PE X b (dE X.K W fb)) : PE X (.Compare a [.NotEq] [b] pos) (dE X.K W (two (op2 neD) fa fb)) := pd_cmp (OpR.or op_ne (op_neD hu)) snd_ne (nomark _) ha hb
theorem pd_lt (ha : PE X a (dE X.K W fa)) (hb : PE X b (dE X.K W fb)) : PE X (.Compare a [.Lt] [b] pos) (dE X.K W (two (op2 ltD) fa fb)) := pd_cmp (OpR.or op_lt op_lt_str) snd_lt (nomark _) ha hb
theorem pd_le (ha : PE X a (dE X.K W fa)) (hb : PE X b (dE X.K W fb)) : PE X (.Compare a [.LtE] [b] pos) (dE X.K W (two (op2 leD) fa fb)) := pd_cmp (OpR.or op_le op_le_str) snd_le (nomark _) ha hb
theorem pd_gt (ha : PE X a (dE X.K W fa)) (hb : PE X b (dE X.K W fb)) : PE X (.Compare a [.Gt] [b] pos) (dE X.K W (two (op2 gtD) fa fb)) := pd_cmp op_gt snd_gt (nomark _) ha hb
theorem pd_ge (ha : PE X a (dE X.K W fa)) (hb : PE X b (dE X.K W fb)) : PE X (.Compare a [.GtE] [b] pos) (dE X.K W (two (op2 geD) fa fb)) := pd_cmp op_ge snd_ge (nomark _) ha hb
theorem pd_is (ha : PE X a (dE X.K W fa)) (hb : PE X b (dE X.K W fb)) : PE X (.Compare a [.Is] [b] pos) (dE X.K W (two (op2 isD) fa fb)) := pd_cmp (OpR.or op_isN op_isBl) snd_is (nomark _) ha hb
theorem pd_isNot (ha : PE X a (dE X.K W fa)) (hb : PE X b (dE X.K W fb)) : PE X (.Compare a [.IsNot] [b] pos) (dE X.K W (two (op2 isNotD) fa fb)) := pd_cmp (OpR.or op_notN op_notBl) snd_isNot (nomark _) ha hb
theorem pd_in (hu : X.A.units + 65 < cLine) (ha : PE X a (dE X.K W fa)) (hb : PE X b (dE X.K W fb)) (hm : behindInMarks .In b = false := by rfl) : PE X (.Compare a [.In] [b] pos) (dE X.K W (two (op2 inD) fa fb)) := pd_cmp (OpR.or op_in_sign (OpR.or op_in_seq (op_inD hu))) snd_in hm ha hb
theorem pd_notIn (hu : X.A.units + 65 < cLine) (ha : PE X a (dE X.K W fa)) (hb : PE X b (dE X.K W fb)) (hm : behindInMarks .NotIn b = false := by rfl) : PE X (.Compare a [.NotIn] [b] pos) (dE X.K W (two (op2 notInD) fa fb)) := pd_cmp (OpR.or op_notIn_sign (OpR.or op_notIn_seq (op_notInD hu))) snd_ni hm ha hb
end
end
end Dw
namespace Dw
noncomputable section
open PySem PySem.Spec PyProof.Rows L2
variable [Glo] [Tabs]

theorem _root_.L2.PT.wk {X : Cx} {e : Expr} {t u : TT} (h : PT X e t) (w : ∀ σ H Q, u σ H Q → t σ H Q) : PT X e u := ⟨fun pins s σ H Q I q => h.run pins s σ H Q I (w σ H Q q)⟩
theorem _root_.L2.PW.wk {X : Cx} {e : Expr} {t u : TT} (h : PW X e t) (w : ∀ σ H Q, u σ H Q → t σ H Q) : PW X e u := ⟨fun wh pins s σ H Q I q => h.run wh pins s σ H Q I (w σ H Q q)⟩
theorem _root_.L2.PA.wk {X : Cx} {e : List Expr} {t u : TA} (h : PA X e t) (w : ∀ σ H Q, u σ H Q → t σ H Q) : PA X e u := ⟨fun pos pins s σ H Q I q => h.run pos pins s σ H Q I (w σ H Q q)⟩

/-! ### truth, tests -/
def truD : D → Option Bool
  | .non => some false
  | .bl b => some b
  | .int i => some (i != 0)
  | .str x => if x.length ≤ sizeLine then some (!x.isEmpty) else none
  | .lst xs => some (!xs.isEmpty)
  | .tup xs => some (!xs.isEmpty)
  | .dct _ _ => none
  | .ins _ _ _ => none
def tru (a : RV) (env : Sl) : Option Bool := match pk a env with
  | some x => truD x
  | none => none
theorem isEmpty_rel {K : PySem.W.Frag} {F : Hp} {vs : List V} {xs : List D} (r : RelAll K F vs xs) : vs.isEmpty = xs.isEmpty := by
  cases r <;> rfl
theorem truD_ok {K : PySem.W.Frag} {F H : Hp} {v : V} {x : D} {k : Bool} (e : Ex F H) (h : Vw K F H v x) (t : truD x = some k) : TruV K v H k := by
  cases x with
  | non => cases h; cases t; rfl
  | bl b => cases h; cases t; rfl
  | int i => cases h; cases t; rfl
  | str x =>
    cases h
    obtain ⟨c, rfl⟩ := some_if t
    refine ⟨by rw [mk_len]; exact c, ?_⟩
    rw [mk_len]
    cases x with
    | nil => rfl
    | cons a l =>
      rw [List.length_cons]
      have : ((l.length + 1 : Nat) : Int) ≠ 0 := by omega
      simp [this]
      omega
  | lst xs =>
    obtain ⟨p, vs, rfl, s, r⟩ := h
    cases t
    exact .inl ⟨vs, s, by rw [isEmpty_rel r]⟩
  | tup xs =>
    cases h with
    | tup s r =>
      cases t
      exact .inr (.inl ⟨_, ex_t e s, by rw [isEmpty_rel r]⟩)
  | dct _ _ => cases t
  | ins _ _ _ => cases t
section
variable (K : PySem.W.Frag) (W : WX)
def PostT (F : Hp) (R : Fm) (σ : L2.St) (r : Re) (Q : Bool → Hp → Prop) : Prop :=
  match r with
  | .ok a env' => ∃ b, tru a env' = some b ∧ ∀ F' H', Ex F F' → Sta K F' R σ H' env' → Q b H'
  | .ex e env' => ∀ cls d F' H', Ex F F' → Sta K F' R σ H' env' → XnAt K F' e cls d → W cls d σ H'
def dT (f : SE) : TT := fun σ H Q => ∃ env F R r, Sta K F R σ H env ∧ f env = some r ∧ PostT K W F R σ r Q
end
section
variable {K : PySem.W.Frag} {W : WX} {F F' : Hp} {R : Fm} {σ : L2.St} {H H' : Hp} {env : Sl} {Q : Bool → Hp → Prop}
/-- a test by the value's truth -/
theorem dT_tru {f : SE} (h : dT K W f σ H Q) : dE K W f σ H fun x H' => ∃ k, TruV K x H' k ∧ Q k H' := by
  obtain ⟨env, F, R, r, S, e, p⟩ := h
  refine ⟨env, F, R, r, S, e, ?_⟩
  cases r with
  | ok a env' =>
    obtain ⟨b, hb, p⟩ := p
    intro v F' H' e1 S1 rv
    unfold tru at hb
    cases hx : pk a env' with
    | none => rw [hx] at hb; cases hb
    | some x =>
      rw [hx] at hb
      exact ⟨b, truD_ok S1.sub (pk_vw S1 rv hx) hb, p F' H' e1 S1⟩
  | ex x env' => exact p
end
section
variable {X : Cx} {W : WX} {a b : Expr} {fa fb fc : SE} {pos : Pos} {rest : List Expr}
theorem pt_d {e : Expr} {f : SE} (h : PE X e (dE X.K W f)) (he : ∀ whole, isTrue e X.env whole = (do let v ← whole; standAt e.pos; holding [v] (truthy v)) := by intro _; rfl) : PT X e (dT X.K W f) :=
  (pt_truth h he).wk fun _ _ _ q => dT_tru q
/-- a comparison as a test: what it gives is True or False -/
theorem pt_dcmp {op : CmpOp} {r : R2} {f : D → D → Option RV} (ho : OpR X (compareOp op) r) (hs : Snd2 X.K f r) (hf : ∀ x y z, f x y = some z → ∃ b, z = .d (.bl b)) (hm : behindInMarks op b = false) (ha : PE X a (dE X.K W fa)) (hb : PE X b (dE X.K W fb)) :
    PT X (.Compare a [op] [b] pos) (dT X.K W (two (op2 f) fa fb)) := by
  refine (pt_cmpR ho ha hb hm).wk fun σ H Q q => ?_
  have key : dE X.K W (two (op2 f) fa fb) σ H fun x H' => ∃ k, x = .bl k ∧ Q k H' := by
    obtain ⟨env, F, R, r, S, e, p⟩ := q
    refine ⟨env, F, R, r, S, e, ?_⟩
    cases r with
    | ok a' env' =>
      obtain ⟨k, hk, p⟩ := p
      -- the value is a bool
      have hb : ∃ c, a' = .d (.bl c) := by
        rcases bindE_inv e with ⟨a1, e1, _, h1⟩ | ⟨x, e1, _, h1⟩
        · rcases bindE_inv h1 with ⟨a2, e2, _, h2⟩ | ⟨x, e1, _, h2⟩
          · obtain ⟨x, y, z, _, _, h3, h4⟩ := op2_inv h2
            obtain ⟨c, rfl⟩ := hf x y z h3
            cases h4
            exact ⟨c, rfl⟩
          · cases h2
        · cases h1
      obtain ⟨c, rfl⟩ := hb
      have hc : c = k := Option.some.inj hk
      subst hc
      intro v F' H' e1 S1 rv
      cases (show Rel X.K F' v (.bl c) from rv)
      exact ⟨c, rfl, p F' H' e1 S1⟩
    | ex x env' => exact p
  exact dE_two key fun _ _ _ _ _ _ _ _ S h1 h2 h => op2_snd hs S h1 h2 h
def andE (fa fb : SE) : SE := fun env => bindE (fa env) fun a env1 => match tru a env1 with
  | some true => fb env1
  | some false => some (.ok a env1)
  | none => none
def orE (fa fb : SE) : SE := fun env => bindE (fa env) fun a env1 => match tru a env1 with
  | some true => some (.ok a env1)
  | some false => fb env1
  | none => none
def notE (fa : SE) : SE := fun env => bindE (fa env) fun a env1 => (tru a env1).map fun b => .ok (.d (.bl (!b))) env1
def ifE (fc fa fb : SE) : SE := fun env => bindE (fc env) fun c env1 => match tru c env1 with
  | some true => fa env1
  | some false => fb env1
  | none => none
end
section
variable {K : PySem.W.Frag} {W : WX} {F F' : Hp} {R : Fm} {σ : L2.St} {H : Hp}
theorem PostT.up {Q : Bool → Hp → Prop} (e : Ex F F') : ∀ {r : Re}, PostT K W F R σ r Q → PostT K W F' R σ r Q
  | .ok _ _, ⟨b, hb, h⟩ => ⟨b, hb, fun F2 H2 e2 s => h F2 H2 (e.trans e2) s⟩
  | .ex _ _, h => fun c d F2 H2 e2 s q => h c d F2 H2 (e.trans e2) s q
theorem dT_and {fa fb : SE} {Q : Bool → Hp → Prop} (h : dT K W (andE fa fb) σ H Q) : tAnd (dT K W fa) (dT K W fb) σ H Q := by
  obtain ⟨env, F, R, r, S, e, p⟩ := h
  rcases bindE_inv e with ⟨a, env1, h1, h2⟩ | ⟨x, env1, h1, rfl⟩
  · refine ⟨env, F, R, _, S, h1, ?_⟩
    cases ht : tru a env1 with
    | none => rw [ht] at h2; cases h2
    | some b =>
      rw [ht] at h2
      refine ⟨b, ht, fun F1 H1 e1 S1 => ?_⟩
      cases b with
      | true => exact iteT ⟨env1, F1, R, r, S1, h2, p.up e1⟩
      | false =>
        refine iteF ?_
        cases h2
        obtain ⟨b, hb, q⟩ := p
        rw [ht] at hb
        cases hb
        exact q F1 H1 e1 S1
  · exact ⟨env, F, R, _, S, h1, p⟩
theorem dT_or {fa fb : SE} {Q : Bool → Hp → Prop} (h : dT K W (orE fa fb) σ H Q) : tOr (dT K W fa) (dT K W fb) σ H Q := by
  obtain ⟨env, F, R, r, S, e, p⟩ := h
  rcases bindE_inv e with ⟨a, env1, h1, h2⟩ | ⟨x, env1, h1, rfl⟩
  · refine ⟨env, F, R, _, S, h1, ?_⟩
    cases ht : tru a env1 with
    | none => rw [ht] at h2; cases h2
    | some b =>
      rw [ht] at h2
      refine ⟨b, ht, fun F1 H1 e1 S1 => ?_⟩
      cases b with
      | false => exact iteF ⟨env1, F1, R, r, S1, h2, p.up e1⟩
      | true =>
        refine iteT ?_
        cases h2
        obtain ⟨b, hb, q⟩ := p
        rw [ht] at hb
        cases hb
        exact q F1 H1 e1 S1
  · exact ⟨env, F, R, _, S, h1, p⟩
theorem dT_not {fa : SE} {Q : Bool → Hp → Prop} (h : dT K W (notE fa) σ H Q) : tNot (dT K W fa) σ H Q := by
  obtain ⟨env, F, R, r, S, e, p⟩ := h
  rcases bindE_inv e with ⟨a, env1, h1, h2⟩ | ⟨x, env1, h1, rfl⟩
  · refine ⟨env, F, R, _, S, h1, ?_⟩
    cases ht : tru a env1 with
    | none => rw [ht] at h2; cases h2
    | some b =>
      rw [ht] at h2
      cases h2
      obtain ⟨c, hc, q⟩ := p
      cases hc
      exact ⟨b, ht, fun F1 H1 e1 S1 => q F1 H1 e1 S1⟩
  · exact ⟨env, F, R, _, S, h1, p⟩
theorem tru_of {F : Hp} {R : Fm} {env : Sl} {a : RV} {v : V} {k : Bool} (S : Sta K F R σ H env) (h : RvOk K F R σ H env v a) (t : tru a env = some k) : TruV K v H k := by
  unfold tru at t
  cases hx : pk a env with
  | none => rw [hx] at t; cases t
  | some x =>
    rw [hx] at t
    exact truD_ok S.sub (pk_vw S h hx) t
theorem dE_and {fa fb : SE} {Q : VK} (h : dE K W (andE fa fb) σ H Q) : tAndT K (dE K W fa) (dE K W fb) σ H Q := by
  refine dE_one (op := fun a env1 => match tru a env1 with | some true => fb env1 | some false => some (.ok a env1) | none => none) h fun a env F R v H1 S rv q => ?_
  obtain ⟨r, e, p⟩ := q
  dsimp only at e
  cases ht : tru a env with
  | none => rw [ht] at e; cases e
  | some b =>
    rw [ht] at e
    refine ⟨b, tru_of S rv ht, ?_⟩
    cases b with
    | true => exact iteT ⟨env, F, R, r, S, e, p⟩
    | false =>
      cases e
      exact iteF (p v F H1 (Ex.refl F) S rv)
theorem dE_or {fa fb : SE} {Q : VK} (h : dE K W (orE fa fb) σ H Q) : tOrT K (dE K W fa) (dE K W fb) σ H Q := by
  refine dE_one (op := fun a env1 => match tru a env1 with | some true => some (.ok a env1) | some false => fb env1 | none => none) h fun a env F R v H1 S rv q => ?_
  obtain ⟨r, e, p⟩ := q
  dsimp only at e
  cases ht : tru a env with
  | none => rw [ht] at e; cases e
  | some b =>
    rw [ht] at e
    refine ⟨b, tru_of S rv ht, ?_⟩
    cases b with
    | false => exact iteF ⟨env, F, R, r, S, e, p⟩
    | true =>
      cases e
      exact iteT (p v F H1 (Ex.refl F) S rv)
theorem dE_not {fa : SE} {Q : VK} (h : dE K W (notE fa) σ H Q) : tNotT K (dE K W fa) σ H Q := by
  refine dE_one (op := fun a env1 => (tru a env1).map fun b => .ok (.d (.bl (!b))) env1) h fun a env F R v H1 S rv q => ?_
  obtain ⟨r, e, p⟩ := q
  dsimp only at e
  cases ht : tru a env with
  | none => rw [ht] at e; cases e
  | some b =>
    rw [ht] at e
    cases e
    exact ⟨b, tru_of S rv ht, p _ F H1 (Ex.refl F) S (.bl _)⟩
theorem dE_if {fc fa fb : SE} {Q : VK} (h : dE K W (ifE fc fa fb) σ H Q) : tIf (dT K W fc) (dE K W fa) (dE K W fb) σ H Q := by
  obtain ⟨env, F, R, r, S, e, p⟩ := h
  rcases bindE_inv e with ⟨a, env1, h1, h2⟩ | ⟨x, env1, h1, rfl⟩
  · refine ⟨env, F, R, _, S, h1, ?_⟩
    cases ht : tru a env1 with
    | none => rw [ht] at h2; cases h2
    | some b =>
      rw [ht] at h2
      refine ⟨b, ht, fun F1 H1 e1 S1 => ?_⟩
      cases b with
      | true => exact iteT ⟨env1, F1, R, r, S1, h2, p.up e1⟩
      | false => exact iteF ⟨env1, F1, R, r, S1, h2, p.up e1⟩
  · exact ⟨env, F, R, _, S, h1, p⟩
end
section
variable {X : Cx} {W : WX} {a b c : Expr} {fa fb fc : SE} {pos : Pos} {rest : List Expr}
theorem pw_dand1 (ha : PT X a (dT X.K W fa)) : PW X (.BoolOp .And [a] pos) (dT X.K W fa) := pw_and1 ha
theorem pw_dor1 (ha : PT X a (dT X.K W fa)) : PW X (.BoolOp .Or [a] pos) (dT X.K W fa) := pw_or1 ha
theorem pw_dand (ha : PT X a (dT X.K W fa)) (hb : PW X (.BoolOp .And (b :: rest) pos) (dT X.K W fb)) : PW X (.BoolOp .And (a :: b :: rest) pos) (dT X.K W (andE fa fb)) := (pw_and ha hb).wk fun _ _ _ q => dT_and q
theorem pw_dor (ha : PT X a (dT X.K W fa)) (hb : PW X (.BoolOp .Or (b :: rest) pos) (dT X.K W fb)) : PW X (.BoolOp .Or (a :: b :: rest) pos) (dT X.K W (orE fa fb)) := (pw_or ha hb).wk fun _ _ _ q => dT_or q
theorem pt_dnot (ha : PT X a (dT X.K W fa)) : PT X (.UnaryOp .Not a pos) (dT X.K W (notE fa)) := (pt_not ha).wk fun _ _ _ q => dT_not q
theorem pd_one {op} (h : PE X a (dE X.K W fa)) : PE X (.BoolOp op [a] pos) (dE X.K W fa) := pe_one h
theorem pd_and (ha : PE X a (dE X.K W fa)) (hb : PE X (.BoolOp .And (b :: rest) pos) (dE X.K W fb)) : PE X (.BoolOp .And (a :: b :: rest) pos) (dE X.K W (andE fa fb)) := (pe_andT ha hb).wk fun _ _ _ q => dE_and q
theorem pd_or (ha : PE X a (dE X.K W fa)) (hb : PE X (.BoolOp .Or (b :: rest) pos) (dE X.K W fb)) : PE X (.BoolOp .Or (a :: b :: rest) pos) (dE X.K W (orE fa fb)) := (pe_orT ha hb).wk fun _ _ _ q => dE_or q
theorem pd_not (ha : PE X a (dE X.K W fa)) : PE X (.UnaryOp .Not a pos) (dE X.K W (notE fa)) := (pe_notT ha).wk fun _ _ _ q => dE_not q
theorem pd_if (hc : PT X c (dT X.K W fc)) (ha : PE X a (dE X.K W fa)) (hb : PE X b (dE X.K W fb)) : PE X (.IfExp c a b pos) (dE X.K W (ifE fc fa fb)) := (pe_ifExp hc ha hb).wk fun _ _ _ q => dE_if q
/-! comparisons as tests -/
theorem bl_eq {x y : D} {z : RV} (h : eqD x y = some z) : ∃ b, z = .d (.bl b) := ⟨_, (some_if h).2.symm⟩
theorem bl_ne {x y : D} {z : RV} (h : neD x y = some z) : ∃ b, z = .d (.bl b) := ⟨_, (some_if h).2.symm⟩
theorem bl_lt {x y : D} {z : RV} (h : ltD x y = some z) : ∃ b, z = .d (.bl b) := by cases x <;> cases y <;> first | (cases h; done) | (cases h; exact ⟨_, rfl⟩)
theorem bl_le {x y : D} {z : RV} (h : leD x y = some z) : ∃ b, z = .d (.bl b) := by cases x <;> cases y <;> first | (cases h; done) | (cases h; exact ⟨_, rfl⟩)
theorem bl_gt {x y : D} {z : RV} (h : gtD x y = some z) : ∃ b, z = .d (.bl b) := by cases x <;> cases y <;> first | (cases h; done) | (cases h; exact ⟨_, rfl⟩)
theorem bl_ge {x y : D} {z : RV} (h : geD x y = some z) : ∃ b, z = .d (.bl b) := by cases x <;> cases y <;> first | (cases h; done) | (cases h; exact ⟨_, rfl⟩)
theorem bl_is {x y : D} {z : RV} (h : isD x y = some z) : ∃ b, z = .d (.bl b) := by cases x <;> cases y <;> first | (cases h; done) | (cases h; exact ⟨_, rfl⟩)
theorem bl_isNot {x y : D} {z : RV} (h : isNotD x y = some z) : ∃ b, z = .d (.bl b) := by cases x <;> cases y <;> first | (cases h; done) | (cases h; exact ⟨_, rfl⟩)
theorem bl_ni {x y : D} {z : RV} (h : notInD x y = some z) : ∃ b, z = .d (.bl b) := by
  unfold notInD at h
  cases hi : inD x y with
  | none => rw [hi] at h; cases h
  | some q =>
    obtain ⟨b, rfl⟩ := inD_bl hi
    rw [hi] at h
    cases h
    exact ⟨_, rfl⟩
theorem pt_eqd (hu : X.A.units + 64 < cLine) (ha : PE X a (dE X.K W fa)) (hb : PE X b (dE X.K W fb)) : PT X (.Compare a [.Eq] [b] pos) (dT X.K W (two (op2 eqD) fa fb)) := pt_dcmp (OpR.or op_eq (op_eqD hu)) snd_eq (fun _ _ _ => bl_eq) (nomark _) ha hb
theorem pt_ned (hu : X.A.units + 64 < cLine) (ha : PE X a (dE X.K W fa)) (hb : PE X b (dE X.K W fb)) : PT X (.Compare a [.NotEq] [b] pos) (dT X.K W (two (op2 neD) fa fb)) := pt_dcmp (OpR.or op_ne (op_neD hu)) snd_ne (fun _ _ _ => bl_ne) (nomark _) ha hb
theorem pt_ltd (ha : PE X a (dE X.K W fa)) (hb : PE X b (dE X.K W fb)) : PT X (.Compare a [.Lt] [b] pos) (dT X.K W (two (op2 ltD) fa fb)) := pt_dcmp (OpR.or op_lt op_lt_str) snd_lt (fun _ _ _ => bl_lt) (nomark _) ha hb
theorem pt_led (ha : PE X a (dE X.K W fa)) (hb : PE X b (dE X.K W fb)) : PT X (.Compare a [.LtE] [b] pos) (dT X.K W (two (op2 leD) fa fb)) := pt_dcmp (OpR.or op_le op_le_str) snd_le (fun _ _ _ => bl_le) (nomark _) ha hb
theorem pt_gtd (ha : PE X a (dE X.K W fa)) (hb : PE X b (dE X.K W fb)) : PT X (.Compare a [.Gt] [b] pos) (dT X.K W (two (op2 gtD) fa fb)) := pt_dcmp op_gt snd_gt (fun _ _ _ => bl_gt) (nomark _) ha hb
theorem pt_ged (ha : PE X a (dE X.K W fa)) (hb : PE X b (dE X.K W fb)) : PT X (.Compare a [.GtE] [b] pos) (dT X.K W (two (op2 geD) fa fb)) := pt_dcmp op_ge snd_ge (fun _ _ _ => bl_ge) (nomark _) ha hb
theorem pt_isd (ha : PE X a (dE X.K W fa)) (hb : PE X b (dE X.K W fb)) : PT X (.Compare a [.Is] [b] pos) (dT X.K W (two (op2 isD) fa fb)) := pt_dcmp (OpR.or op_isN op_isBl) snd_is (fun _ _ _ => bl_is) (nomark _) ha hb
theorem pt_isNotd (ha : PE X a (dE X.K W fa)) (hb : PE X b (dE X.K W fb)) : PT X (.Compare a [.IsNot] [b] pos) (dT X.K W (two (op2 isNotD) fa fb)) := pt_dcmp (OpR.or op_notN op_notBl) snd_isNot (fun _ _ _ => bl_isNot) (nomark _) ha hb
theorem pt_ind (hu : X.A.units + 65 < cLine) (ha : PE X a (dE X.K W fa)) (hb : PE X b (dE X.K W fb)) (hm : behindInMarks .In b = false := by rfl) : PT X (.Compare a [.In] [b] pos) (dT X.K W (two (op2 inD) fa fb)) := pt_dcmp (OpR.or op_in_sign (OpR.or op_in_seq (op_inD hu))) snd_in (fun _ _ _ => inD_bl) hm ha hb
theorem pt_notInd (hu : X.A.units + 65 < cLine) (ha : PE X a (dE X.K W fa)) (hb : PE X b (dE X.K W fb)) (hm : behindInMarks .NotIn b = false := by rfl) : PT X (.Compare a [.NotIn] [b] pos) (dT X.K W (two (op2 notInD) fa fb)) := pt_dcmp (OpR.or op_notIn_sign (OpR.or op_notIn_seq (op_notInD hu))) snd_ni (fun _ _ _ => bl_ni) hm ha hb
end
end
end Dw
namespace Dw
noncomputable section
open PySem PySem.Spec PyProof.Rows L2
variable [Glo] [Tabs]

/-! ### argument lists -/
inductive ReA where
  | ok (as : List RV) (env : Sl) | ex (e : Xn) (env : Sl)
abbrev SA := Sl → Option ReA
def bindEA (x : Option Re) (k : RV → SA) : Option ReA :=
  match x with
  | some (.ok a env) => k a env
  | some (.ex e env) => some (.ex e env)
  | none => none
def bindA (x : Option ReA) (k : List RV → SE) : Option Re :=
  match x with
  | some (.ok as env) => k as env
  | some (.ex e env) => some (.ex e env)
  | none => none
@[simp] theorem bindEA_ok {a : RV} {env : Sl} {k : RV → SA} : bindEA (some (.ok a env)) k = k a env := rfl
@[simp] theorem bindEA_ex {e : Xn} {env : Sl} {k : RV → SA} : bindEA (some (.ex e env)) k = some (.ex e env) := rfl
@[simp] theorem bindEA_none {k : RV → SA} : bindEA none k = none := rfl
@[simp] theorem bindA_ok {a : List RV} {env : Sl} {k : List RV → SE} : bindA (some (.ok a env)) k = k a env := rfl
@[simp] theorem bindA_ex {e : Xn} {env : Sl} {k : List RV → SE} : bindA (some (.ex e env)) k = some (.ex e env) := rfl
@[simp] theorem bindA_none {k : List RV → SE} : bindA none k = none := rfl
def nilA : SA := fun env => some (.ok [] env)
def mapA (x : Option ReA) (g : List RV → List RV) : Option ReA :=
  match x with
  | some (.ok as env) => some (.ok (g as) env)
  | some (.ex e env) => some (.ex e env)
  | none => none
@[simp] theorem mapA_ok {a : List RV} {env : Sl} {g : List RV → List RV} : mapA (some (.ok a env)) g = some (.ok (g a) env) := rfl
@[simp] theorem mapA_ex {e : Xn} {env : Sl} {g : List RV → List RV} : mapA (some (.ex e env)) g = some (.ex e env) := rfl
@[simp] theorem mapA_none {g : List RV → List RV} : mapA none g = none := rfl
def consA (fa : SE) (fr : SA) : SA := fun env => bindEA (fa env) fun a env1 => mapA (fr env1) (a :: ·)
def HeldAll (K : PySem.W.Frag) (F : Hp) (R R' : Fm) (σ : L2.St) : List V → List RV → Prop
  | [], [] => True
  | v :: vs, a :: as => Held K F R R' σ v a ∧ (∀ c, a = .own c → ∀ w b, (w, b) ∈ vs.zip as → ∀ c', b = .own c' → w ≠ v) ∧ HeldAll K F R R' σ vs as
  | _, _ => False
section
variable (K : PySem.W.Frag) (W : WX)
def PostA (F : Hp) (R : Fm) (σ : L2.St) (r : ReA) (Q : List V → Hp → Prop) : Prop :=
  match r with
  | .ok as env' => ∀ vs F' H' R', Ex F F' → FEx R R' → Sta K F' R' σ H' env' → HeldAll K F' R R' σ vs as → Q vs H'
  | .ex e env' => ∀ cls d F' H', Ex F F' → Sta K F' R σ H' env' → XnAt K F' e cls d → W cls d σ H'
def dA (f : SA) : TA := fun σ H Q => ∃ env F R r, Sta K F R σ H env ∧ f env = some r ∧ PostA K W F R σ r Q
end
section
variable {K : PySem.W.Frag} {W : WX} {F F' : Hp} {R R' R2 : Fm} {σ : L2.St} {H H' : Hp} {env : Sl}
theorem FEx.trans {R R' R2 : Fm} (a : FEx R R') (b : FEx R' R2) : FEx R R2 := ⟨a.1.trans b.1, a.2.trans b.2⟩
theorem Held.low {v : V} {a : RV} (e : FEx R R') (h : Held K F R' R2 σ v a) : Held K F R R2 σ v a := by
  cases a with
  | d x => exact h
  | cv i => exact h
  | own c =>
    obtain ⟨p, o, e1, e2, e3, e4⟩ := h
    exact ⟨p, o, e1, ex_none e.1 e2, e3, e4⟩
theorem Held.high {v : V} {a : RV} (e : FEx R' R2) (h : Held K F R R' σ v a) : Held K F R R2 σ v a := by
  cases a with
  | d x => exact h
  | cv i => exact h
  | own c =>
    obtain ⟨p, o, e1, e2, e3, e4⟩ := h
    exact ⟨p, o, e1, e2, e.1 p o e3, e4⟩
theorem Held.up {v : V} {a : RV} (e : Ex F F') (h : Held K F R R' σ v a) : Held K F' R R' σ v a := by
  cases a with
  | d x => exact Rel.up e h
  | cv i => exact h
  | own c =>
    obtain ⟨p, o, e1, e2, e3, e4⟩ := h
    exact ⟨p, o, e1, e2, e3, e4.up e⟩
theorem HeldAll.low (e : FEx R R') : ∀ {vs : List V} {as : List RV}, HeldAll K F R' R2 σ vs as → HeldAll K F R R2 σ vs as
  | [], [], _ => trivial
  | v :: vs, a :: as, h => ⟨h.1.low e, h.2.1, HeldAll.low e h.2.2⟩
  | [], _ :: _, h => h.elim
  | _ :: _, [], h => h.elim
theorem heldAll_none : ∀ {vs : List V} {as : List RV}, HeldAll K F R R' σ vs as → ∀ w b, (w, b) ∈ vs.zip as → ∀ c', b = .own c' → ∃ q, w = .ref q ∧ R.r q = none
  | [], [], _, w, b, h, _, _ => by simp at h
  | v :: vs, a :: as, h, w, b, hm, c', hb => by
    rw [List.zip_cons_cons, List.mem_cons] at hm
    rcases hm with hm | hm
    · cases hm
      subst hb
      obtain ⟨p, o, e1, e2, _⟩ := h.1
      exact ⟨p, e1, e2⟩
    · exact heldAll_none h.2.2 w b hm c' hb
  | [], _ :: _, h, _, _, _, _, _ => h.elim
  | _ :: _, [], h, _, _, _, _, _ => h.elim
theorem dA_cons {fa : SE} {fr : SA} {Q : List V → Hp → Prop} (h : dA K W (consA fa fr) σ H Q) : tCons (dE K W fa) (dA K W fr) σ H Q := by
  obtain ⟨env, F, R, r, S, e, p⟩ := h
  have e : bindEA (fa env) (fun a env1 => mapA (fr env1) (a :: ·)) = some r := e
  cases h1 : fa env with
  | none => rw [h1] at e; cases e
  | some q =>
    rw [h1] at e
    cases q with
    | ex x env1 =>
      cases e
      exact ⟨env, F, R, _, S, h1, p⟩
    | ok a env1 =>
      rw [bindEA_ok] at e
      refine ⟨env, F, R, _, S, h1, fun v F1 H1 e1 S1 rv => ?_⟩
      obtain ⟨R1, eR, S1', hd⟩ := hold S1 rv
      cases h2 : fr env1 with
      | none => rw [h2] at e; cases e
      | some q2 =>
        rw [h2] at e
        cases q2 with
        | ex x env2 =>
          cases e
          exact ⟨env1, F1, R1, _, S1', h2, fun cls d F2 H2 e2 S2 hx => p cls d F2 H2 (e1.trans e2) (S2.unhold eR) hx⟩
        | ok as env2 =>
          cases e
          refine ⟨env1, F1, R1, _, S1', h2, fun vs F2 H2 R2 e2 eR2 S2 hvs => ?_⟩
          refine p (v :: vs) F2 H2 R2 (e1.trans e2) (eR.trans eR2) S2 ⟨(hd.up e2).high eR2, fun c ec w b hm c' hb => ?_, hvs.low eR⟩
          subst ec
          obtain ⟨q, e3, e4⟩ := heldAll_none hvs w b hm c' hb
          obtain ⟨q', o, e5, _, e6, _⟩ := hd
          subst e3
          subst e5
          intro z
          cases z
          rw [e4] at e6
          cases e6
end
section
variable {X : Cx} {W : WX} {e : Expr} {es : List Expr} {fa : SE} {fr : SA}
theorem pa_dnil : PA X [] (dA X.K W nilA) := pa_nil.wk fun σ H Q q => by
  obtain ⟨env, F, R, r, S, e, p⟩ := q
  cases e
  exact p [] F H R (Ex.refl F) (FEx.refl R) S trivial
theorem pa_dcons (ha : PE X e (dE X.K W fa)) (hr : PA X es (dA X.K W fr)) (hs : starEach (e :: es) X.env = (false, eval e X.env) :: starEach es X.env := by rfl) : PA X (e :: es) (dA X.K W (consA fa fr)) := (pa_cons ha hr hs).wk fun _ _ _ q => dA_cons q
end

/-! ### values that are seen -/
def pks : List RV → Sl → Option (List D)
  | [], _ => some []
  | a :: as, env => (pk a env).bind fun x => (pks as env).map (x :: ·)
def VwAll (K : PySem.W.Frag) (F H : Hp) : List V → List D → Prop
  | [], [] => True
  | v :: vs, x :: xs => Vw K F H v x ∧ VwAll K F H vs xs
  | _, _ => False
section
variable {K : PySem.W.Frag} {W : WX} {F F' : Hp} {R R' : Fm} {σ : L2.St} {H H' : Hp} {env : Sl} {Q : VK}
theorem pks_vw (eR : FEx R R') (S : Sta K F R' σ H env) : ∀ {vs : List V} {as : List RV} {xs : List D}, HeldAll K F R R' σ vs as → pks as env = some xs → VwAll K F H vs xs
  | [], [], xs, _, e => by cases e; trivial
  | v :: vs, a :: as, xs, h, e => by
    have e : ((pk a env).bind fun x => (pks as env).map (x :: ·)) = some xs := e
    rw [Option.bind_eq_some_iff] at e
    obtain ⟨x, h1, e⟩ := e
    rw [Option.map_eq_some_iff] at e
    obtain ⟨ys, h2, rfl⟩ := e
    exact ⟨pk_vw (S.unhold eR) (unheld (Ex.refl F) eR S h.1) h1, pks_vw eR S h.2.2 h2⟩
  | [], _ :: _, _, h, _ => h.elim
  | _ :: _, [], _, h, _ => h.elim
/-- what a call of a built-in makes of what it sees -/
def callE (f : List D → Option RV) (fa : SA) : SE := fun env => bindA (fa env) fun as env1 => (pks as env1).bind fun xs => (f xs).map (Re.ok · env1)
def SndC (K : PySem.W.Frag) (f : List D → Option RV) (r : List V → Hp → VK → Prop) : Prop := ∀ {W : WX} {F : Hp} {R : Fm} {σ : L2.St} {H : Hp} {env : Sl} {Q : VK} {xs : List D} {vs : List V} {z : RV},
  Sta K F R σ H env → VwAll K F H vs xs → f xs = some z → PostE K W F R σ (.ok z env) Q → r vs H Q
theorem dE_callB {f : List D → Option RV} {r : List V → Hp → VK → Prop} {fa : SA} (hs : SndC K f r) (h : dE K W (callE f fa) σ H Q) : tCB r (dA K W fa) σ H Q := by
  obtain ⟨env, F, R, r', S, e, p⟩ := h
  have e : bindA (fa env) (fun as env1 => (pks as env1).bind fun xs => (f xs).map (Re.ok · env1)) = some r' := e
  cases h1 : fa env with
  | none => rw [h1] at e; cases e
  | some q =>
    rw [h1] at e
    cases q with
    | ex x env1 =>
      cases e
      exact ⟨env, F, R, _, S, h1, p⟩
    | ok as env1 =>
      rw [bindA_ok, Option.bind_eq_some_iff] at e
      obtain ⟨xs, h2, e⟩ := e
      rw [Option.map_eq_some_iff] at e
      obtain ⟨z, h3, rfl⟩ := e
      exact ⟨env, F, R, _, S, h1, fun vs F1 H1 R1 e1 eR S1 hv => hs (S1.unhold eR) (pks_vw eR S1 hv h2) h3 (p.up e1)⟩
end
section
variable {X : Cx} {W : WX} {x : Str} {p pos : Pos} {e : Expr} {es : List Expr} {fa : SA} {id T : String} {f : List D → Option RV} {r : List V → Hp → VK → Prop}
theorem pd_callB (hc : CallR X (.builtin id) r) (hs : SndC X.K f r) (hm : X.mg x = none) (hv : bootBuiltins x = some (.builtin id)) (ha : PA X (e :: es) (dA X.K W fa)) (hg : Gl X x := by rfl) (hn : x ≠ "__name__" := by decide) (hdb : (x == ("__debug__" : Str)) = false := by decide)
    (he : starEach (e :: es) X.env = (false, eval e X.env) :: starEach es X.env := by rfl) (hpl : (backTo pos (starEach es X.env)).any (·.1) = false := by rfl) : PE X (.Call (.Name x p) (e :: es) [] pos) (dE X.K W (callE f fa)) :=
  (pe_callB hc hg hm hv ha hn hdb he hpl).wk fun _ _ _ q => dE_callB hs q
theorem pd_callTy (hc : CallR X (.type T) r) (hs : SndC X.K f r) (hm : X.mg x = none) (hv : bootBuiltins x = some (.type T)) (ha : PA X (e :: es) (dA X.K W fa)) (hg : Gl X x := by rfl) (hn : x ≠ "__name__" := by decide) (hdb : (x == ("__debug__" : Str)) = false := by decide)
    (he : starEach (e :: es) X.env = (false, eval e X.env) :: starEach es X.env := by rfl) (hpl : (backTo pos (starEach es X.env)).any (·.1) = false := by rfl) : PE X (.Call (.Name x p) (e :: es) [] pos) (dE X.K W (callE f fa)) :=
  (pe_callTy hc hg hm hv ha hn hdb he hpl).wk fun _ _ _ q => dE_callB hs q
end
theorem CallR.or {X : Cx} {f : Value} {r r' : List V → Hp → VK → Prop} (h : CallR X f r) (h' : CallR X f r') : CallR X f (fun xs H Q => r xs H Q ∨ r' xs H Q) := by
  intro pins s σ H xs us Q I rr q
  rcases q with q | q
  · exact h pins s σ H xs us Q I rr q
  · exact h' pins s σ H xs us Q I rr q

/-! ### a[i] -/
def getD : D → D → Option RV
  | .lst xs, .int i => (atI xs i).map .d
  | .tup xs, .int i => (atI xs i).map .d
  | .str x, .int i => if x.length ≤ sizeLine then (atI x i).map fun c => .d (.str [c]) else none
  | _, _ => none
theorem RelAll.atI {K : PySem.W.Frag} {F : Hp} {vs : List V} {xs : List D} {i : Int} {x : D} (r : RelAll K F vs xs) (h : L2.atI xs i = some x) : ∃ v, L2.atI vs i = some v ∧ Rel K F v x := by
  unfold L2.atI at h ⊢
  rw [Option.bind_eq_some_iff] at h
  obtain ⟨j, h1, h2⟩ := h
  rw [r.len, h1]
  obtain ⟨v, e, rv⟩ := r.getD h2
  exact ⟨v, e, rv⟩
theorem snd_get {K : PySem.W.Frag} : Snd2 K getD (rIx K) := by
  intro W F R σ H env Q x y v w z S hx hy e p
  cases y with
  | int i =>
    cases hy
    cases x with
    | lst xs =>
      obtain ⟨a, vs, rfl, s, r⟩ := hx
      have e : (L2.atI xs i).map RV.d = some z := e
      rw [Option.map_eq_some_iff] at e
      obtain ⟨d, h1, rfl⟩ := e
      obtain ⟨u, h2, ru⟩ := r.atI h1
      exact .inl ⟨a, vs, i, u, rfl, rfl, s, h2, post_d S p ru⟩
    | tup xs =>
      cases hx with
      | tup s r =>
        have e : (L2.atI xs i).map RV.d = some z := e
        rw [Option.map_eq_some_iff] at e
        obtain ⟨d, h1, rfl⟩ := e
        obtain ⟨u, h2, ru⟩ := r.atI h1
        exact .inr (.inl ⟨_, _, i, u, rfl, rfl, ex_t S.sub s, h2, post_d S p ru⟩)
    | str x =>
      cases hx
      have e : (if x.length ≤ sizeLine then (L2.atI x i).map fun c => RV.d (.str [c]) else none) = some z := e
      by_cases hl : x.length ≤ sizeLine
      · rw [if_pos hl, Option.map_eq_some_iff] at e
        obtain ⟨c, h1, rfl⟩ := e
        exact .inr (.inr ⟨mk x, i, c, rfl, rfl, by rw [mk_len]; exact hl, h1, post_d S p (.str [c])⟩)
      · rw [if_neg hl] at e
        cases e
    | _ => cases e
  | _ => cases x <;> cases e
section
variable {X : Cx} {W : WX} {a b : Expr} {fa fb : SE} {pos : Pos}
theorem pd_get (ha : PE X a (dE X.K W fa)) (hb : PE X b (dE X.K W fb)) (hs : PlainIx b := by exact fun _ _ => rfl) : PE X (.Subscript a b pos) (dE X.K W (two (op2 getD) fa fb)) :=
  (pe_ix ix_seq ha hb hs).wk fun σ H Q q => dE_two q fun _ _ _ _ _ _ _ _ S h1 h2 h => op2_snd snd_get S h1 h2 h
end

/-! ### a[lo:hi] -/
def cutL {α : Type} (xs : List α) (lo hi : Option Int) : List α := (xs.drop (HT.sIx xs.length 0 lo)).take (HT.sIx xs.length xs.length hi - HT.sIx xs.length 0 lo)
theorem cutV_L (xs : List V) (lo hi : Option Int) : cutV xs lo hi = cutL xs lo hi := rfl
theorem cutS_L (x : List Nat) (lo hi : Option Int) : cutS (mk x) lo hi = mk (cutL x lo hi) := by
  unfold cutS cutL mk
  simp [Str.length]
def bindO (fo : Option SE) (env : Sl) (k : Option Int → SE) : Option Re :=
  match fo with
  | none => k none env
  | some f => bindE (f env) fun b env1 => match pk b env1 with
    | some (.int i) => k (some i) env1
    | _ => none
def cutD (x : D) (lo hi : Option Int) : Option RV := match x with
  | .lst xs => some (.own (.lst (cutL xs lo hi)))
  | .tup xs => some (.d (.tup (cutL xs lo hi)))
  | .str x => if x.length ≤ sizeLine then some (.d (.str (cutL x lo hi))) else none
  | _ => none
def sliceE (fe : SE) (fl fh : Option SE) : SE := fun env => bindE (fe env) fun a env1 => bindO fl env1 fun lo env2 => bindO fh env2 fun hi env3 => (pk a env3).bind fun x => (cutD x lo hi).map (Re.ok · env3)
def tO (K : PySem.W.Frag) (W : WX) : Option SE → TO
  | none => tNoPart
  | some f => tPart (dE K W f)
theorem RelAll.cut {K : PySem.W.Frag} {F : Hp} {vs : List V} {xs : List D} (r : RelAll K F vs xs) (lo hi : Option Int) : RelAll K F (cutL vs lo hi) (cutL xs lo hi) := by
  unfold cutL
  rw [r.len]
  exact (r.drop _).take _
theorem cut_whole {α : Type} {xs : List α} {lo hi : Option Int} (h : HT.sIx xs.length 0 lo = 0 ∧ HT.sIx xs.length xs.length hi = xs.length) : cutL xs lo hi = xs := by
  unfold cutL
  rw [h.1, h.2, List.drop_zero, Nat.sub_zero, List.take_length]
def rSlAny (K : PySem.W.Frag) : V → Option Int → Option Int → Hp → VK → Prop := fun x lo hi H Q => rSlL K x lo hi H Q ∨ rSlA K x lo hi H Q ∨ rSlS x lo hi H Q
theorem sl_any {X : Cx} : SlR X (rSlAny X.K) := SlR.or sl_list (SlR.or sl_tupA sl_str)
section
variable {K : PySem.W.Frag} {W : WX} {F F' : Hp} {R R' : Fm} {σ : L2.St} {H H' : Hp} {env : Sl} {Q : VK}
theorem snd_cut {x : D} {v : V} {lo hi : Option Int} {z : RV} (S : Sta K F R σ H env) (hx : Vw K F H v x) (e : cutD x lo hi = some z) (p : PostE K W F R σ (.ok z env) Q) : rSlAny K v lo hi H Q := by
  cases x with
  | lst xs =>
    obtain ⟨a, vs, rfl, s, r⟩ := hx
    cases e
    exact .inl ⟨a, vs, rfl, s, fun q hq => post_new S p hq (r.cut lo hi)⟩
  | tup xs =>
    cases hx with
    | tup s r =>
      cases e
      refine .inr (.inl ⟨_, _, rfl, ex_t S.sub s, fun hw => ?_, fun _ q hq => post_tup S p hq (r.cut lo hi)⟩)
      rw [r.len] at hw
      rw [cut_whole hw] at p
      exact post_d S p (.tup s r)
  | str x =>
    cases hx
    obtain ⟨c, rfl⟩ := some_if e
    refine .inr (.inr ⟨mk x, rfl, by rw [mk_len]; exact c, ?_⟩)
    rw [cutS_L]
    exact post_d S p (.str _)
  | _ => cases e
/-- one part, something held meanwhile -/
theorem tO_ok {fo : Option SE} {k : Option Int → SE} {Q1 : Option Int → Hp → Prop} (eR : FEx R R') (S : Sta K F R' σ H env) (h : atE K W (fun env => bindO fo env k) F R σ env Q)
    (hk : ∀ i env1 F1 H1, Ex F F1 → Sta K F1 R' σ H1 env1 → atE K W (k i) F1 R σ env1 Q → Q1 i H1) : tO K W fo σ H Q1 := by
  cases fo with
  | none => exact hk none env F H (Ex.refl F) S h
  | some f =>
    refine dE_of S (atE_bindR (k := fun b env1 => match pk b env1 with | some (.int i) => k (some i) env1 | _ => none) eR h fun b env1 F1 w H1 e1 S1 rw' q => ?_)
    obtain ⟨r, e, p⟩ := q
    dsimp only at e
    cases hx : pk b env1 with
    | none => rw [hx] at e; cases e
    | some x =>
      rw [hx] at e
      cases x with
      | int i =>
        cases (show Rel K F1 w (.int i) from pk_vw S1 rw' hx)
        exact ⟨i, rfl, hk (some i) env1 F1 H1 e1 S1 ⟨r, e, p⟩⟩
      | _ => cases e
theorem dE_slice {fe : SE} {fl fh : Option SE} (h : dE K W (sliceE fe fl fh) σ H Q) : tSl (rSlAny K) (dE K W fe) (tO K W fl) (tO K W fh) σ H Q := by
  obtain ⟨env, F, R, S, q⟩ := of_dE h
  refine dE_of S (atE_bind q fun a env1 F1 v H1 e1 S1 rv q1 => ?_)
  obtain ⟨R', eR, S1', hd⟩ := hold S1 rv
  refine tO_ok eR S1' q1 fun lo env2 F2 H2 e2 S2 q2 => tO_ok eR S2 q2 fun hi env3 F3 H3 e3 S3 q3 => ?_
  obtain ⟨r, e, p⟩ := q3
  dsimp only at e
  rw [Option.bind_eq_some_iff] at e
  obtain ⟨x, h1, e⟩ := e
  rw [Option.map_eq_some_iff] at e
  obtain ⟨z, h2, rfl⟩ := e
  exact snd_cut (S3.unhold eR) (pk_vw (S3.unhold eR) (unheld (e2.trans e3) eR S3 hd) h1) h2 p
end
section
variable {X : Cx} {W : WX} {e : Expr} {lo hi : Option Expr} {fe f : SE} {fl fh : Option SE} {pos p2 : Pos}
theorem po_dnone : PO X none (tO X.K W none) := po_none
theorem po_dsome {e : Expr} (h : PE X e (dE X.K W f)) : PO X (some e) (tO X.K W (some f)) := po_some h
theorem pd_slice (he : PE X e (dE X.K W fe)) (hl : PO X lo (tO X.K W fl)) (hu : PO X hi (tO X.K W fh)) : PE X (.Subscript e (.Slice lo hi none p2) pos) (dE X.K W (sliceE fe fl fh)) :=
  (pe_slice sl_any he hl hu).wk fun _ _ _ q => dE_slice q
end
end
end Dw
namespace Dw
noncomputable section
open PySem PySem.Spec PyProof.Rows L2
variable [Glo] [Tabs]

/-! ### displays -/
def frzs : List RV → Sl → Option (List D × Sl)
  | [], env => some ([], env)
  | a :: as, env => (frz a env).bind fun p => (frzs as p.2).map fun q => (p.1 :: q.1, q.2)
section
variable {K : PySem.W.Frag} {W : WX} {F F' : Hp} {R R' R2 : Fm} {σ : L2.St} {H H' : Hp} {env env' : Sl} {Q : VK}
/-- one held value is frozen: the others stay held -/
theorem frz_held {a : RV} {v : V} {x : D} (eR : FEx R R') (S : Sta K F R' σ H env) (h : Held K F R R' σ v a) (e : frz a env = some (x, env')) :
    ∃ F' R2, Ex F F' ∧ FEx R R2 ∧ Sta K F' R2 σ H env' ∧ Rel K F' v x ∧ ∀ w b, (∀ c c', a = .own c → b = .own c' → w ≠ v) → Held K F R R' σ w b → Held K F' R R2 σ w b := by
  cases a with
  | d y => cases e; exact ⟨F, R', Ex.refl F, eR, S, h, fun _ _ _ q => q⟩
  | cv i =>
    obtain ⟨F', e1, S', r⟩ := frz_ok (a := .cv i) S (show RvOk K F R' σ H env v (.cv i) from h) e
    exact ⟨F', R', e1, eR, S', r, fun w b _ q => q.up e1⟩
  | own c =>
    cases e
    obtain ⟨p, o, rfl, hR, hp, ho⟩ := h
    have hF : F p = none := S.dis p _ hp
    have eF : Ex F (upd F p o) := Ex.new hF
    refine ⟨upd F p o, ⟨fun b => if b = p then none else R'.r b, R'.t, R'.T⟩, eF, ⟨fun b u q => ?_, eR.2⟩, ⟨fun b u q => ?_, fun b u q => ?_, fun b u q => ?_, S.len, fun i x q => ?_, fun i b c q => ?_, S.tag, S.inj, S.xnUp eF, fun P h => (by
      obtain ⟨h1, h2, h3⟩ := S.tab P h
      have n : P ≠ p := fun z => by rw [z, hp] at h3; cases h3
      exact ⟨h1, by rw [upd_ne n]; exact h2, by show (if P = p then none else R'.r P) = none; rw [if_neg n]; exact h3⟩)⟩, CellOk.rel upd_same (ho.up eF), fun w b hne q => ?_⟩
    · show (if b = p then none else R'.r b) = some u
      rw [if_neg (fun z => by rw [z, hR] at q; cases q)]
      exact eR.1 b u q
    · by_cases hb : b = p
      · subst hb; rw [upd_same] at q; cases q; exact S.fr b _ hp
      · rw [upd_ne hb] at q; exact S.sub b u q
    · have q : (if b = p then none else R'.r b) = some u := q
      by_cases hb : b = p
      · rw [if_pos hb] at q; cases q
      · rw [if_neg hb] at q; exact S.fr b u q
    · have q : (if b = p then none else R'.r b) = some u := q
      by_cases hb : b = p
      · rw [if_pos hb] at q; cases q
      · rw [if_neg hb] at q
        rw [upd_ne hb]; exact S.dis b u q
    · obtain ⟨v, e1, r⟩ := S.dat i x q
      exact ⟨v, e1, r.up eF⟩
    · obtain ⟨q1, u, e2, e3, e4, e5, e6⟩ := S.own i b c q
      have hb : q1 ≠ p := fun z => by rw [z, hp] at e4; cases e4
      exact ⟨q1, u, e2, by rw [upd_ne hb]; exact e3, by show (if q1 = p then none else R'.r q1) = none; rw [if_neg hb]; exact e4, e5, e6.up eF⟩
    · cases b with
      | d y => exact Rel.up eF q
      | cv i => exact q
      | own c' =>
        obtain ⟨p', o', rfl, h1, h2, h3⟩ := q
        have hb : p' ≠ p := fun z => hne _ _ rfl rfl (by rw [z])
        exact ⟨p', o', rfl, h1, by show (if p' = p then none else R'.r p') = some o'; rw [if_neg hb]; exact h2, h3.up eF⟩
theorem frzs_held : ∀ {as : List RV} {vs : List V} {xs : List D} {env env' : Sl} {F : Hp} {R' : Fm}, FEx R R' → Sta K F R' σ H env → HeldAll K F R R' σ vs as → frzs as env = some (xs, env') →
    ∃ F' R2, Ex F F' ∧ FEx R R2 ∧ Sta K F' R2 σ H env' ∧ RelAll K F' vs xs
  | [], [], xs, env, env', F, R', eR, S, _, e => by
    cases e
    exact ⟨F, R', Ex.refl F, eR, S, .nil⟩
  | a :: as, v :: vs, xs, env, env', F, R', eR, S, h, e => by
    have e : ((frz a env).bind fun p => (frzs as p.2).map fun q => (p.1 :: q.1, q.2)) = some (xs, env') := e
    rw [Option.bind_eq_some_iff] at e
    obtain ⟨⟨x, env1⟩, h1, e⟩ := e
    rw [Option.map_eq_some_iff] at e
    obtain ⟨⟨ys, env2⟩, h2, e⟩ := e
    cases e
    obtain ⟨F1, R1, e1, eR1, S1, r1, keep⟩ := frz_held eR S h.1 h1
    have all : ∀ {vs : List V} {as : List RV}, (∀ c, a = .own c → ∀ w b, (w, b) ∈ vs.zip as → ∀ c', b = .own c' → w ≠ v) → HeldAll K F R R' σ vs as → HeldAll K F1 R R1 σ vs as := by
      intro vs
      induction vs with
      | nil => intro as _ h; cases as with
        | nil => trivial
        | cons _ _ => exact h.elim
      | cons w ws ih =>
        intro as hne h
        cases as with
        | nil => exact h.elim
        | cons b bs =>
          exact ⟨keep w b (fun c c' e1 e2 => hne c e1 w b (by simp) c' e2) h.1, h.2.1, ih (fun c e1 w b hm c' e2 => hne c e1 w b (by rw [List.zip_cons_cons]; exact List.mem_cons_of_mem _ hm) c' e2) h.2.2⟩
    obtain ⟨F2, R2, e2, eR2, S2, r2⟩ := frzs_held eR1 S1 (all h.2.1 h.2.2) h2
    exact ⟨F2, R2, e1.trans e2, eR2, S2, .cons (r1.up e2) r2⟩
  | [], _ :: _, _, _, _, _, _, _, _, h, _ => h.elim
  | _ :: _, [], _, _, _, _, _, _, _, h, _ => h.elim
def tupE (fa : SA) : SE := fun env => bindA (fa env) fun as env1 => (frzs as env1).bind fun p => if p.1.length ≤ 100000 then some (.ok (.d (.tup p.1)) p.2) else none
def lstE (fa : SA) : SE := fun env => bindA (fa env) fun as env1 => (frzs as env1).bind fun p => if p.1.length ≤ 100000 then some (.ok (.own (.lst p.1)) p.2) else none
theorem bindA_inv {x : Option ReA} {k : List RV → SE} {r : Re} (h : bindA x k = some r) : (∃ as env1, x = some (.ok as env1) ∧ k as env1 = some r) ∨ ∃ e env1, x = some (.ex e env1) ∧ r = .ex e env1 := by
  cases x with
  | none => cases h
  | some q =>
    cases q with
    | ok a env1 => exact .inl ⟨a, env1, rfl, h⟩
    | ex e env1 => exact .inr ⟨e, env1, rfl, (Option.some.inj h).symm⟩
theorem sz_of {n : Nat} (h : n ≤ 100000) : n ≤ sizeLine := Nat.le_trans h (by decide)
theorem dE_tup {fa : SA} (h : dE K W (tupE fa) σ H Q) : tTup (dA K W fa) σ H Q := by
  obtain ⟨env, F, R, r, S, e, p⟩ := h
  rcases bindA_inv e with ⟨as, env1, h1, h2⟩ | ⟨x, env1, h1, rfl⟩
  · rw [Option.bind_eq_some_iff] at h2
    obtain ⟨⟨xs, env2⟩, h3, h4⟩ := h2
    obtain ⟨c, rfl⟩ := some_if h4
    refine ⟨env, F, R, _, S, h1, fun vs F1 H1 R1 e1 eR S1 hv => ?_⟩
    obtain ⟨F2, R2, e2, eR2, S2, rr⟩ := frzs_held eR S1 hv h3
    exact ⟨sz_of (by rw [rr.len]; exact c), fun q hq => post_tup (S2.unhold eR2) (p.up (e1.trans e2)) hq rr⟩
  · exact ⟨env, F, R, _, S, h1, p⟩
theorem dE_lst {fa : SA} (h : dE K W (lstE fa) σ H Q) : tLst (dA K W fa) σ H Q := by
  obtain ⟨env, F, R, r, S, e, p⟩ := h
  rcases bindA_inv e with ⟨as, env1, h1, h2⟩ | ⟨x, env1, h1, rfl⟩
  · rw [Option.bind_eq_some_iff] at h2
    obtain ⟨⟨xs, env2⟩, h3, h4⟩ := h2
    obtain ⟨c, rfl⟩ := some_if h4
    refine ⟨env, F, R, _, S, h1, fun vs F1 H1 R1 e1 eR S1 hv => ?_⟩
    obtain ⟨F2, R2, e2, eR2, S2, rr⟩ := frzs_held eR S1 hv h3
    exact ⟨sz_of (by rw [rr.len]; exact c), fun q hq => post_new (S2.unhold eR2) (p.up (e1.trans e2)) hq rr⟩
  · exact ⟨env, F, R, _, S, h1, p⟩
end
section
variable {X : Cx} {W : WX} {es : List Expr} {fa : SA} {pos : Pos}
theorem pd_tup {x1} (h : PA X es (dA X.K W fa)) : PE X (.Tuple es x1 pos) (dE X.K W (tupE fa)) := (pe_tup h).wk fun _ _ _ q => dE_tup q
theorem pd_lst (h : PA X es (dA X.K W fa)) : PE X (.List es pos) (dE X.K W (lstE fa)) := (pe_lst h).wk fun _ _ _ q => dE_lst q
end

/-! ### built-in functions -/
theorem vw1 {K : PySem.W.Frag} {F H : Hp} {vs : List V} {x : D} (h : VwAll K F H vs [x]) : ∃ v, vs = [v] ∧ Vw K F H v x := by
  match vs, h with
  | [v], h => exact ⟨v, rfl, h.1⟩
  | [], h => exact h.elim
  | _ :: _ :: _, h => exact h.2.elim
theorem vw2 {K : PySem.W.Frag} {F H : Hp} {vs : List V} {x y : D} (h : VwAll K F H vs [x, y]) : ∃ v w, vs = [v, w] ∧ Vw K F H v x ∧ Vw K F H w y := by
  match vs, h with
  | [v, w], h => exact ⟨v, w, rfl, h.1, h.2.1⟩
  | [], h => exact h.elim
  | [_], h => exact h.2.elim
  | _ :: _ :: _ :: _, h => exact h.2.2.elim
def lenD : List D → Option RV
  | [.lst xs] => some (.d (.int xs.length))
  | [.tup xs] => some (.d (.int xs.length))
  | [.str x] => if x.length ≤ sizeLine then some (.d (.int x.length)) else none
  | _ => none
def rLenAny (K : PySem.W.Frag) : List V → Hp → VK → Prop := fun xs H Q => (∃ p ys, xs = [.ref p] ∧ (SqL K H p ys ∨ SqT K H p ys) ∧ Q (.int ys.length) H) ∨ ∃ z, xs = [.str z] ∧ z.length ≤ sizeLine ∧ Q (.int z.length) H
theorem cr_len {X : Cx} : CallR X (.builtin "len") (rLenAny X.K) := CallR.or call_len_seq call_len_str
theorem snd_len {K : PySem.W.Frag} : SndC K lenD (rLenAny K) := by
  intro W F R σ H env Q xs vs z S h e p
  match xs, h, e with
  | [.lst ys], h, e =>
    cases e
    obtain ⟨v, rfl, a, us, rfl, s, r⟩ := vw1 h
    refine .inl ⟨a, us, rfl, .inl s, ?_⟩
    rw [r.len]
    exact post_d S p (.int _)
  | [.tup ys], h, e =>
    cases e
    obtain ⟨v, rfl, hv⟩ := vw1 h
    cases hv with
    | tup s r =>
      refine .inl ⟨_, _, rfl, .inr (ex_t S.sub s), ?_⟩
      rw [r.len]
      exact post_d S p (.int _)
  | [.str x], h, e =>
    obtain ⟨c, rfl⟩ := some_if e
    obtain ⟨v, rfl, hv⟩ := vw1 h
    cases hv
    refine .inr ⟨mk x, rfl, by rw [mk_len]; exact c, ?_⟩
    rw [mk_len]
    exact post_d S p (.int _)
def intC : List D → Option RV
  | [.int i] => some (.d (.int i))
  | [.bl b] => some (.d (.int (b2i b)))
  | _ => none
def listC : List D → Option RV
  | [.lst xs] => some (.own (.lst xs))
  | [.tup xs] => some (.own (.lst xs))
  | _ => none
def rListC (K : PySem.W.Frag) : List V → Hp → VK → Prop := fun xs H Q => ∃ p ys, xs = [.ref p] ∧ (SqL K H p ys ∨ SqT K H p ys) ∧ ∀ l, H l = none → Q (.ref l) (upd H l (.lst ys))
theorem snd_list {K : PySem.W.Frag} : SndC K listC (rListC K) := by
  intro W F R σ H env Q xs vs z S h e p
  match xs, h, e with
  | [.lst ys], h, e =>
    cases e
    obtain ⟨v, rfl, a, us, rfl, s, r⟩ := vw1 h
    exact ⟨a, us, rfl, .inl s, fun q hq => post_new S p hq r⟩
  | [.tup ys], h, e =>
    cases e
    obtain ⟨v, rfl, hv⟩ := vw1 h
    cases hv with
    | tup s r => exact ⟨_, _, rfl, .inr (ex_t S.sub s), fun q hq => post_new S p hq r⟩
def tupleC : List D → Option RV
  | [.lst xs] => some (.d (.tup xs))
  | [.tup xs] => some (.d (.tup xs))
  | _ => none
def rTupleC (K : PySem.W.Frag) : List V → Hp → VK → Prop := fun xs H Q => ∃ p ys, xs = [.ref p] ∧ ((SqL K H p ys ∧ ∀ l, H l = none → Q (.ref l) (upd H l (.tup ys))) ∨ (SqT K H p ys ∧ Q (.ref p) H))
theorem snd_tuple {K : PySem.W.Frag} : SndC K tupleC (rTupleC K) := by
  intro W F R σ H env Q xs vs z S h e p
  match xs, h, e with
  | [.lst ys], h, e =>
    cases e
    obtain ⟨v, rfl, a, us, rfl, s, r⟩ := vw1 h
    exact ⟨a, us, rfl, .inl ⟨s, fun q hq => post_tup S p hq r⟩⟩
  | [.tup ys], h, e =>
    cases e
    obtain ⟨v, rfl, hv⟩ := vw1 h
    cases hv with
    | tup s r => exact ⟨_, _, rfl, .inr ⟨ex_t S.sub s, post_d S p (.tup s r)⟩⟩
def ordC : List D → Option RV
  | [.str [c]] => some (.d (.int c))
  | _ => none
def absC : List D → Option RV
  | [.int i] => some (.d (.int (if i < 0 then -i else i)))
  | _ => none
def minC : List D → Option RV
  | [.int i, .int j] => some (.d (.int (if j < i then j else i)))
  | _ => none
def maxC : List D → Option RV
  | [.int i, .int j] => some (.d (.int (if j > i then j else i)))
  | _ => none
end
end Dw
namespace Dw
noncomputable section
open PySem PySem.Spec PyProof.Rows L2
variable [Glo] [Tabs]

theorem _root_.L2.PS.wk {X : Cx} {e : Stmt} {t u : TS} (h : PS X e t) (w : ∀ En σ H, u En σ H → t En σ H) : PS X e u := ⟨fun pins s σ H En I q => h.run pins s σ H En I (w En σ H q)⟩
theorem _root_.L2.PSs.wk {X : Cx} {e : List Stmt} {t u : TS} (h : PSs X e t) (w : ∀ En σ H, u En σ H → t En σ H) : PSs X e u := ⟨fun pins s σ H En I q => h.run pins s σ H En I (w En σ H q)⟩

/-! ### statements -/
inductive Out where
  | nx (env : Sl) | rt (a : RV) (env : Sl) | bk (env : Sl) | ct (env : Sl) | ex (e : Xn) (env : Sl)
abbrev SS := Sl → Option Out
section
variable (K : PySem.W.Frag) (W : WX)
def PostS (En : Ends) (F : Hp) (R : Fm) (r : Out) : Prop :=
  match r with
  | .nx env' => ∀ σ' F' H', Ex F F' → Sta K F' R σ' H' env' → En.nx σ' H'
  | .rt a env' => ∀ v σ' F' H', Ex F F' → Sta K F' R σ' H' env' → RvOk K F' R σ' H' env' v a → En.rt v H'
  | .bk env' => ∀ σ' F' H', Ex F F' → Sta K F' R σ' H' env' → En.bk σ' H'
  | .ct env' => ∀ σ' F' H', Ex F F' → Sta K F' R σ' H' env' → En.ct σ' H'
  | .ex e env' => ∀ cls d σ' F' H', Ex F F' → Sta K F' R σ' H' env' → XnAt K F' e cls d → W cls d σ' H'
def dS (f : SS) : TS := fun En σ H => ∃ env F R r, Sta K F R σ H env ∧ f env = some r ∧ PostS K W En F R r
end
def bindS (x : Option Re) (k : RV → SS) : Option Out :=
  match x with
  | some (.ok a env) => k a env
  | some (.ex e env) => some (.ex e env)
  | none => none
@[simp] theorem bindS_ok {a : RV} {env : Sl} {k : RV → SS} : bindS (some (.ok a env)) k = k a env := rfl
@[simp] theorem bindS_ex {e : Xn} {env : Sl} {k : RV → SS} : bindS (some (.ex e env)) k = some (.ex e env) := rfl
@[simp] theorem bindS_none {k : RV → SS} : bindS none k = none := rfl
theorem bindS_inv {x : Option Re} {k : RV → SS} {r : Out} (h : bindS x k = some r) : (∃ a env1, x = some (.ok a env1) ∧ k a env1 = some r) ∨ ∃ e env1, x = some (.ex e env1) ∧ r = .ex e env1 := by
  cases x with
  | none => cases h
  | some q =>
    cases q with
    | ok a env1 => exact .inl ⟨a, env1, rfl, h⟩
    | ex e env1 => exact .inr ⟨e, env1, rfl, (Option.some.inj h).symm⟩
def skipS : SS := fun env => some (.nx env)
def seqS (f g : SS) : SS := fun env => match f env with
  | some (.nx env1) => g env1
  | o => o
/-- a free slot: it may be written -/
def freeSlot : Option SV → Bool
  | some (.own true _) => false
  | some _ => true
  | none => false
def setSlot (i : Nat) (s : SV) (env : Sl) : Option Sl := if freeSlot env[i]? then some (env.set i s) else none
/-- what a name holds behind a store -/
def storeR (i : Nat) (a : RV) : Sl → Option Sl := fun env => match a with
  | .d x => setSlot i (.d x) env
  | .own c => setSlot i (.own false c) env
  | .cv j => (frz (.cv j) env).bind fun p => setSlot i (.d p.1) p.2
def asgS (i : Nat) (fe : SE) : SS := fun env => bindS (fe env) fun a env1 => (storeR i a env1).map .nx
def exprS (fe : SE) : SS := fun env => bindS (fe env) fun _ env1 => some (.nx env1)
def retS (fe : SE) : SS := fun env => bindS (fe env) fun a env1 => some (.rt a env1)
def retNS : SS := fun env => some (.rt (.d .non) env)
def iteS (fc : SE) (f g : SS) : SS := fun env => bindS (fc env) fun c env1 => match tru c env1 with
  | some true => f env1
  | some false => g env1
  | none => none
def breakS : SS := fun env => some (.bk env)
def contS : SS := fun env => some (.ct env)
def neverS : SS := fun _ => none
section
variable {K : PySem.W.Frag} {W : WX} {F F' : Hp} {R R' : Fm} {σ : L2.St} {H H' : Hp} {env env' : Sl} {En : Ends}
theorem PostS.up (e : Ex F F') : ∀ {r : Out}, PostS K W En F R r → PostS K W En F' R r
  | .nx _, h => fun σ F2 H2 e2 s => h σ F2 H2 (e.trans e2) s
  | .rt _ _, h => fun v σ F2 H2 e2 s q => h v σ F2 H2 (e.trans e2) s q
  | .bk _, h => fun σ F2 H2 e2 s => h σ F2 H2 (e.trans e2) s
  | .ct _, h => fun σ F2 H2 e2 s => h σ F2 H2 (e.trans e2) s
  | .ex _ _, h => fun c d σ F2 H2 e2 s q => h c d σ F2 H2 (e.trans e2) s q
theorem dS_seq {f g : SS} (h : dS K W (seqS f g) En σ H) : tSeq (dS K W f) (dS K W g) En σ H := by
  obtain ⟨env, F, R, r, S, e, p⟩ := h
  have e : (match f env with | some (.nx env1) => g env1 | o => o) = some r := e
  cases h1 : f env with
  | none => rw [h1] at e; cases e
  | some o =>
    rw [h1] at e
    cases o with
    | nx env1 => exact ⟨env, F, R, _, S, h1, fun σ1 F1 H1 e1 S1 => ⟨env1, F1, R, r, S1, e, p.up e1⟩⟩
    | _ => cases e; exact ⟨env, F, R, _, S, h1, p⟩
/-- a slot is written with data -/
theorem Sta.setD {i : Nat} {x : D} {v : V} (S : Sta K F R σ H env) (hf : freeSlot env[i]? = true) (r : Rel K F v x) : Sta K F R (σ.set i (some v)) H (env.set i (.d x)) := by
  have hl : i < env.length := by
    cases h : env[i]? with
    | none => rw [h] at hf; cases hf
    | some s => exact (List.getElem?_eq_some_iff.mp h).1
  have hl' : i < σ.length := by rw [S.len]; exact hl
  have other : ∀ {j : Nat} {b : Bool} {c : C}, (env.set i (.d x))[j]? = some (SV.own b c) → j ≠ i ∧ env[j]? = some (SV.own b c) := fun {j b c} h => by
    by_cases hj : j = i
    · subst hj; rw [List.getElem?_set_self hl] at h; cases h
    · rw [List.getElem?_set_ne (Ne.symm hj)] at h; exact ⟨hj, h⟩
  refine ⟨S.sub, S.fr, S.dis, by rw [List.length_set, List.length_set]; exact S.len, fun j y e => ?_, fun j b c e => ?_, fun j c e => ?_, fun j k bj cj bk ck q h1 h2 h3 h4 => ?_, S.xnSet (Ex.refl F) _ (fun y z => by cases z), S.tab⟩
  · by_cases hj : j = i
    · subst hj
      rw [List.getElem?_set_self hl] at e
      cases e
      exact ⟨v, by rw [List.getElem?_set_self hl'], r⟩
    · rw [List.getElem?_set_ne (Ne.symm hj)] at e ⊢
      exact S.dat j y e
  · obtain ⟨hj, e⟩ := other e
    rw [List.getElem?_set_ne (Ne.symm hj)]
    exact S.own j b c e
  · obtain ⟨hj, e⟩ := other e
    rw [List.getElem?_set_ne (Ne.symm hj)]
    exact S.tag j c e
  · obtain ⟨hj, h1⟩ := other h1
    obtain ⟨hk, h2⟩ := other h2
    rw [List.getElem?_set_ne (Ne.symm hj)] at h3
    rw [List.getElem?_set_ne (Ne.symm hk)] at h4
    exact S.inj j k bj cj bk ck q h1 h2 h3 h4
/-- .. with a thing of one's own -/
theorem Sta.setO {i : Nat} {c : C} {p : Addr} {o : HO} (S : Sta K F R σ H env) (hf : freeSlot env[i]? = true) (hF : F p = none) (hR : R.r p = none) (hp : H p = some o) (hc : CellOk K F p o c) (hs : ∀ (j : Nat) b c', env[j]? = some (SV.own b c') → σ[j]? ≠ some (some (V.ref p))) :
    Sta K F R (σ.set i (some (.ref p))) H (env.set i (.own false c)) := by
  have hl : i < env.length := by
    cases h : env[i]? with
    | none => rw [h] at hf; cases hf
    | some s => exact (List.getElem?_eq_some_iff.mp h).1
  have hl' : i < σ.length := by rw [S.len]; exact hl
  refine ⟨S.sub, S.fr, S.dis, by rw [List.length_set, List.length_set]; exact S.len, fun j y e => ?_, fun j b c' e => ?_, fun j c' e => ?_, fun j k bj cj bk ck q h1 h2 h3 h4 => ?_, S.xnSet (Ex.refl F) _ (fun y z => by cases z), S.tab⟩
  · by_cases hj : j = i
    · subst hj
      rw [List.getElem?_set_self hl] at e
      cases e
    · rw [List.getElem?_set_ne (Ne.symm hj)] at e ⊢
      exact S.dat j y e
  · by_cases hj : j = i
    · subst hj
      rw [List.getElem?_set_self hl] at e
      cases e
      exact ⟨p, o, by rw [List.getElem?_set_self hl'], hF, hR, hp, hc⟩
    · rw [List.getElem?_set_ne (Ne.symm hj)] at e ⊢
      exact S.own j b c' e
  · by_cases hj : j = i
    · subst hj
      rw [List.getElem?_set_self hl] at e
      cases e
    · rw [List.getElem?_set_ne (Ne.symm hj)] at e ⊢
      exact S.tag j c' e
  · by_cases hj : j = i
    · by_cases hk : k = i
      · rw [hj, hk]
      · subst hj
        rw [List.getElem?_set_self hl'] at h3
        cases h3
        rw [List.getElem?_set_ne (Ne.symm hk)] at h2 h4
        exact absurd h4 (hs k bk ck h2)
    · by_cases hk : k = i
      · subst hk
        rw [List.getElem?_set_self hl'] at h4
        cases h4
        rw [List.getElem?_set_ne (Ne.symm hj)] at h1 h3
        exact absurd h3 (hs j bj cj h1)
      · rw [List.getElem?_set_ne (Ne.symm hj)] at h1 h3
        rw [List.getElem?_set_ne (Ne.symm hk)] at h2 h4
        exact S.inj j k bj cj bk ck q h1 h2 h3 h4
theorem setSlot_inv {i : Nat} {s : SV} (h : setSlot i s env = some env') : freeSlot env[i]? = true ∧ env' = env.set i s := by
  obtain ⟨c, e⟩ := some_if h
  exact ⟨c, e.symm⟩
theorem storeR_ok {i : Nat} {a : RV} {v : V} (S : Sta K F R σ H env) (h : RvOk K F R σ H env v a) (e : storeR i a env = some env') : ∃ F', Ex F F' ∧ Sta K F' R (σ.set i (some v)) H env' := by
  cases a with
  | d x =>
    obtain ⟨c, rfl⟩ := setSlot_inv e
    exact ⟨F, Ex.refl F, S.setD c h⟩
  | own c =>
    obtain ⟨cf, rfl⟩ := setSlot_inv e
    obtain ⟨p, o, rfl, hF, hR, hp, hc, hs⟩ := h
    exact ⟨F, Ex.refl F, S.setO cf hF hR hp hc hs⟩
  | cv j =>
    have e : ((frz (.cv j) env).bind fun p => setSlot i (.d p.1) p.2) = some env' := e
    rw [Option.bind_eq_some_iff] at e
    obtain ⟨⟨x, env1⟩, h1, e⟩ := e
    obtain ⟨F', e1, S', r⟩ := frz_ok S h h1
    obtain ⟨c, rfl⟩ := setSlot_inv e
    exact ⟨F', e1, S'.setD c r⟩
theorem dS_bind {f : SE} {k : RV → SS} {Q1 : VK} (h : dS K W (fun env => bindS (f env) k) En σ H)
    (hk : ∀ a env F R v H', Sta K F R σ H' env → RvOk K F R σ H' env v a → (∃ r, k a env = some r ∧ PostS K W En F R r) → Q1 v H') : dE K W f σ H Q1 := by
  obtain ⟨env, F, R, r, S, e, p⟩ := h
  rcases bindS_inv e with ⟨a, env1, h1, h2⟩ | ⟨x, env1, h1, rfl⟩
  · exact ⟨env, F, R, _, S, h1, fun v F1 H1 e1 S1 rv => hk a env1 F1 R v H1 S1 rv ⟨r, h2, p.up e1⟩⟩
  · exact ⟨env, F, R, _, S, h1, fun cls d F' H' e1 S1 hx => p cls d σ F' H' e1 S1 hx⟩
theorem dS_asg {i : Nat} {fe : SE} (h : dS K W (asgS i fe) En σ H) : tAsg (dE K W fe) (gName i) En σ H :=
  dS_bind (k := fun a env1 => (storeR i a env1).map .nx) h fun a env F R v H' S rv q => by
    obtain ⟨r, e, p⟩ := q
    have e : (storeR i a env).map Out.nx = some r := e
    rw [Option.map_eq_some_iff] at e
    obtain ⟨env', h1, rfl⟩ := e
    obtain ⟨F', e1, S'⟩ := storeR_ok S rv h1
    exact p _ F' H' e1 S'
theorem dS_expr {fe : SE} (h : dS K W (exprS fe) En σ H) : tDrop (dE K W fe) En σ H :=
  dS_bind (k := fun _ env1 => some (.nx env1)) h fun a env F R v H' S rv q => by
    obtain ⟨r, e, p⟩ := q
    cases e
    exact p σ F H' (Ex.refl F) S
theorem dS_ret {fe : SE} (h : dS K W (retS fe) En σ H) : tRet (dE K W fe) En σ H :=
  dS_bind (k := fun a env1 => some (.rt a env1)) h fun a env F R v H' S rv q => by
    obtain ⟨r, e, p⟩ := q
    cases e
    exact p v σ F H' (Ex.refl F) S rv
theorem dS_if {fc : SE} {f g : SS} (h : dS K W (iteS fc f g) En σ H) : tIfS (dT K W fc) (dS K W f) (dS K W g) En σ H := by
  obtain ⟨env, F, R, r, S, e, p⟩ := h
  rcases bindS_inv e with ⟨a, env1, h1, h2⟩ | ⟨x, env1, h1, rfl⟩
  · refine ⟨env, F, R, _, S, h1, ?_⟩
    cases ht : tru a env1 with
    | none => rw [ht] at h2; cases h2
    | some b =>
      rw [ht] at h2
      refine ⟨b, ht, fun F1 H1 e1 S1 => ?_⟩
      cases b with
      | true => exact iteT ⟨env1, F1, R, r, S1, h2, p.up e1⟩
      | false => exact iteF ⟨env1, F1, R, r, S1, h2, p.up e1⟩
  · exact ⟨env, F, R, _, S, h1, fun cls d F' H' e1 S1 hx => p cls d σ F' H' e1 S1 hx⟩
end
section
variable {X : Cx} {W : WX} {e : Expr} {st : Stmt} {rest : List Stmt} {fe fc : SE} {f g : SS} {pos : Pos}
theorem pss_dnil : PSs X [] (dS X.K W skipS) := pss_nil.wk fun En σ H q => by
  obtain ⟨env, F, R, r, S, e, p⟩ := q
  cases e
  exact p σ F H (Ex.refl F) S
theorem pss_dcons (h1 : PS X st (dS X.K W f)) (h2 : PSs X rest (dS X.K W g)) : PSs X (st :: rest) (dS X.K W (seqS f g)) := (pss_cons h1 h2).wk fun _ _ _ q => dS_seq q
theorem pss_done (h1 : PS X st (dS X.K W f)) : PSs X [st] (dS X.K W f) := pss_one h1
theorem ps_dset {i : Nat} {x : Str} {pos' : Pos} (hN : X.N.Nodup) (hi : X.N[i]? = some x) (hx : Loc X.env.scope x) (he : PE X e (dE X.K W fe)) (hs : swapsWith e (some (.Name x pos')) pos.line X.env = pure false := by rfl) (hf : X.fn x = true ∨ X.env.scope.names.lookup x = some .local := by first | exact .inl rfl | exact .inr rfl | assumption) :
    PS X (.Assign [.Name x pos'] e pos) (dS X.K W (asgS i fe)) := (ps_set hN hi hx he hs hf).wk fun _ _ _ q => dS_asg q
theorem ps_dexpr (he : PE X e (dE X.K W fe)) (hs : swapsWith e none pos.line X.env = pure false := by rfl) : PS X (.Expr e pos) (dS X.K W (exprS fe)) := (ps_expr he hs).wk fun _ _ _ q => dS_expr q
theorem ps_dret (he : PE X e (dE X.K W fe)) : PS X (.Return (some e) pos) (dS X.K W (retS fe)) := (ps_ret he).wk fun _ _ _ q => dS_ret q
theorem ps_dretN : PS X (.Return none pos) (dS X.K W retNS) := ps_retN.wk fun En σ H q => by
  obtain ⟨env, F, R, r, S, e, p⟩ := q
  cases e
  exact p .non σ F H (Ex.refl F) S .non
theorem ps_dif {c : Expr} {a b : List Stmt} (hc : PT X c (dT X.K W fc)) (ha : PSs X a (dS X.K W f)) (hb : PSs X b (dS X.K W g)) : PS X (.If c a b pos) (dS X.K W (iteS fc f g)) := (ps_if hc ha hb).wk fun _ _ _ q => dS_if q
theorem ps_dpass : PS X (.Pass pos) (dS X.K W skipS) := ps_pass.wk fun En σ H q => by
  obtain ⟨env, F, R, r, S, e, p⟩ := q
  cases e
  exact p σ F H (Ex.refl F) S
theorem ps_dbreak : PS X (.Break pos) (dS X.K W breakS) := ps_break.wk fun En σ H q => by
  obtain ⟨env, F, R, r, S, e, p⟩ := q
  cases e
  exact p σ F H (Ex.refl F) S
theorem ps_dcont : PS X (.Continue pos) (dS X.K W contS) := ps_continue.wk fun En σ H q => by
  obtain ⟨env, F, R, r, S, e, p⟩ := q
  cases e
  exact p σ F H (Ex.refl F) S
theorem ps_dnever : PS X st (dS X.K W neverS) := ps_never.wk fun En σ H q => by
  obtain ⟨env, F, R, r, S, e, p⟩ := q
  cases e
end

/-! ### what is walked -/
inductive ReI where
  | ok (xs : List D) (env : Sl) | ex (e : Xn) (env : Sl)
abbrev SI := Sl → Option ReI
/-- it walks xs while the frozen things stand -/
structure Wk (K : PySem.W.Frag) (F : Hp) (J : It) (xs : List D) : Prop where
  goes : ∀ i H, i < xs.length → Ex F H → J.go i H
  stops : ∀ H, Ex F H → J.stop xs.length H
  yields : ∀ {F' : Hp} {R : Fm} {σ : L2.St} {env : Sl} i H v H' x, xs[i]? = some x → Ex F F' → Sta K F' R σ H env → J.yld i H v H' → ∃ F2, Ex F' F2 ∧ Sta K F2 R σ H' env ∧ Rel K F2 v x ∧ Ex H H'
section
variable (K : PySem.W.Frag) (W : WX)
def PostI (F : Hp) (R : Fm) (σ : L2.St) (r : ReI) (Q : It → Hp → Prop) : Prop :=
  match r with
  | .ok xs env' => ∀ J F' H', Ex F F' → Sta K F' R σ H' env' → Wk K F' J xs → Q J H'
  | .ex e env' => ∀ cls d F' H', Ex F F' → Sta K F' R σ H' env' → XnAt K F' e cls d → W cls d σ H'
def dI (f : SI) : TI := fun σ H Q => ∃ env F R r, Sta K F R σ H env ∧ f env = some r ∧ PostI K W F R σ r Q
end
/-- where an item goes: a name, or two names -/
inductive Tg where
  | nm (i : Nat) | two (i j : Nat)
def putT : Tg → D → Sl → Option Sl
  | .nm i, x, env => setSlot i (.d x) env
  | .two i j, .tup [x, y], env => (setSlot i (.d x) env).bind (setSlot j (.d y))
  | _, _, _ => none
def gT (K : PySem.W.Frag) : Tg → TG
  | .nm i => gName i
  | .two i j => gTup K 2 (gCons (gName i) (gCons (gName j) gNil))
def loopD (tg : Tg) (body : SS) : List D → SS
  | [], env => some (.nx env)
  | x :: xs, env => (putT tg x env).bind fun env1 => match body env1 with
    | some (.nx e2) => loopD tg body xs e2
    | some (.ct e2) => loopD tg body xs e2
    | some (.bk e2) => some (.nx e2)
    | o => o
def forS (fi : SI) (tg : Tg) (body : SS) : SS := fun env => match fi env with
  | some (.ok xs env1) => loopD tg body xs env1
  | some (.ex e env1) => some (.ex e env1)
  | none => none
section
variable {K : PySem.W.Frag} {W : WX} {F F' : Hp} {R R' : Fm} {σ : L2.St} {H H' : Hp} {env env' : Sl} {En : Ends}
theorem putT_ok {tg : Tg} {x : D} {v : V} {Q : L2.St → Hp → Prop} (S : Sta K F R σ H env) (r : Rel K F v x) (e : putT tg x env = some env') (q : ∀ σ', Sta K F R σ' H env' → Q σ' H) : gT K tg v σ H Q := by
  cases tg with
  | nm i =>
    obtain ⟨c, rfl⟩ := setSlot_inv e
    exact q _ (S.setD c r)
  | two i j =>
    match x, e, r with
    | .tup [x, y], e, r =>
      have e : ((setSlot i (.d x) env).bind (setSlot j (.d y))) = some env' := e
      rw [Option.bind_eq_some_iff] at e
      obtain ⟨env1, h1, h2⟩ := e
      obtain ⟨c1, rfl⟩ := setSlot_inv h1
      obtain ⟨c2, rfl⟩ := setSlot_inv h2
      cases r with
      | tup s rr =>
        cases rr with
        | cons r1 rr =>
          cases rr with
          | cons r2 rr =>
            cases rr
            exact ⟨_, _, rfl, ex_t S.sub s, rfl, _, _, rfl, _, _, rfl, rfl, q _ ((S.setD c1 r1).setD c2 r2)⟩
theorem dS_for {fi : SI} {tg : Tg} {body : SS} (h : dS K W (forS fi tg body) En σ H) : tFor (dI K W fi) (gT K tg) (dS K W body) En σ H := by
  obtain ⟨env, F, R, r, S, e, p⟩ := h
  have e : (match fi env with | some (.ok xs env1) => loopD tg body xs env1 | some (.ex e env1) => some (.ex e env1) | none => none) = some r := e
  cases h1 : fi env with
  | none => rw [h1] at e; cases e
  | some q =>
    rw [h1] at e
    cases q with
    | ex x env1 =>
      cases e
      exact ⟨env, F, R, _, S, h1, fun cls d F' H' e1 S1 hx => p cls d σ F' H' e1 S1 hx⟩
    | ok xs env1 =>
      refine ⟨env, F, R, _, S, h1, fun J F1 H1 e1 S1 wk => ?_⟩
      refine ⟨fun i m σ' H' => m = xs.length - i ∧ i ≤ xs.length ∧ ∃ env' F', Ex F1 F' ∧ Sta K F' R σ' H' env' ∧ loopD tg body (xs.drop i) env' = some r, ⟨xs.length, by simp, Nat.zero_le _, env1, F1, Ex.refl _, S1, e⟩, ?_⟩
      rintro i m σ' H' ⟨rfl, hi, env', F', e2, S2, e3⟩
      by_cases hlt : i < xs.length
      · have hx : xs[i]? = some xs[i] := List.getElem?_eq_getElem hlt
        rw [List.drop_eq_getElem_cons hlt] at e3
        have e3 : ((putT tg xs[i] env').bind fun env1 => match body env1 with
          | some (.nx e2) => loopD tg body (xs.drop (i + 1)) e2
          | some (.ct e2) => loopD tg body (xs.drop (i + 1)) e2
          | some (.bk e2) => some (.nx e2)
          | o => o) = some r := e3
        rw [Option.bind_eq_some_iff] at e3
        obtain ⟨env2, h2, e3⟩ := e3
        refine .inr ⟨wk.goes i H' hlt (e2.trans S2.sub), fun σ2 H2 => ∃ env2 F2, Ex F1 F2 ∧ Sta K F2 R σ2 H2 env2 ∧ loopD tg body (xs.drop (i + 1)) env2 = some r, fun σ2 H2 ⟨env2, F2, e4, S4, e5⟩ => ⟨xs.length - (i + 1), by omega, rfl, hlt, env2, F2, e4, S4, e5⟩, fun v H3 hy => ?_⟩
        obtain ⟨F3, e4, S3, rv, _⟩ := wk.yields i H' v H3 xs[i] hx e2 S2 hy
        refine putT_ok S3 rv h2 fun σ3 S4 => ?_
        cases hb : body env2 with
        | none => rw [hb] at e3; cases e3
        | some o =>
          rw [hb] at e3
          have e5 : Ex F1 F3 := e2.trans e4
          refine ⟨env2, F3, R, o, S4, hb, ?_⟩
          cases o with
          | nx env3 => exact fun σ4 F4 H4 e6 S5 => ⟨env3, F4, e5.trans e6, S5, e3⟩
          | ct env3 => exact fun σ4 F4 H4 e6 S5 => ⟨env3, F4, e5.trans e6, S5, e3⟩
          | bk env3 => cases e3; exact fun σ4 F4 H4 e6 S5 => p σ4 F4 H4 ((e1.trans e5).trans e6) S5
          | rt a env3 => cases e3; exact fun v σ4 F4 H4 e6 S5 rv => p v σ4 F4 H4 ((e1.trans e5).trans e6) S5 rv
          | ex x env3 => cases e3; exact fun cls d σ4 F4 H4 e6 S5 hx => p cls d σ4 F4 H4 ((e1.trans e5).trans e6) S5 hx
      · have hi' : i = xs.length := by omega
        subst hi'
        rw [List.drop_length] at e3
        cases e3
        exact .inl ⟨wk.stops H' (e2.trans S2.sub), p σ' F' H' (e1.trans e2) S2⟩
end
end
end Dw
namespace Dw
noncomputable section
open PySem PySem.Spec PyProof.Rows L2
variable [Glo] [Tabs]

theorem _root_.L2.PI.wk {X : Cx} {tg e : Expr} {t u : TI} (h : PI X tg e t) (w : ∀ σ H Q, u σ H Q → t σ H Q) : PI X tg e u := ⟨fun pins s σ H Q I q => h.run pins s σ H Q I (w σ H Q q)⟩
theorem _root_.L2.PI.or {X : Cx} {tg e : Expr} {t u : TI} (h : PI X tg e t) (h' : PI X tg e u) : PI X tg e (fun σ H R => t σ H R ∨ u σ H R) := ⟨fun pins s σ H Q I q => by
  rcases q with q | q
  · exact h.run pins s σ H Q I q
  · exact h'.run pins s σ H Q I q⟩
def bindI (x : Option Re) (k : RV → SI) : Option ReI :=
  match x with
  | some (.ok a env) => k a env
  | some (.ex e env) => some (.ex e env)
  | none => none
@[simp] theorem bindI_ok {a : RV} {env : Sl} {k : RV → SI} : bindI (some (.ok a env)) k = k a env := rfl
@[simp] theorem bindI_ex {e : Xn} {env : Sl} {k : RV → SI} : bindI (some (.ex e env)) k = some (.ex e env) := rfl
@[simp] theorem bindI_none {k : RV → SI} : bindI none k = none := rfl
theorem bindI_inv {x : Option Re} {k : RV → SI} {r : ReI} (h : bindI x k = some r) : (∃ a env1, x = some (.ok a env1) ∧ k a env1 = some r) ∨ ∃ e env1, x = some (.ex e env1) ∧ r = .ex e env1 := by
  cases x with
  | none => cases h
  | some q =>
    cases q with
    | ok a env1 => exact .inl ⟨a, env1, rfl, h⟩
    | ex e env1 => exact .inr ⟨e, env1, rfl, (Option.some.inj h).symm⟩
def itemsD : D → Option (List D)
  | .lst xs => some xs
  | .tup xs => some xs
  | .str x => some (x.map fun c => .str [c])
  | _ => none
def srcE (fe : SE) : SI := fun env => bindI (fe env) fun a env1 => (frz a env1).bind fun p => (itemsD p.1).map fun xs => .ok xs p.2
section
variable {K : PySem.W.Frag} {W : WX} {F F' : Hp} {R R' : Fm} {σ : L2.St} {H H' : Hp} {env env' : Sl}
theorem wk_list {a : Addr} {vs : List V} {xs : List D} (s : SqL K F a vs) (r : RelAll K F vs xs) : Wk K F (Itl K a) xs := by
  have w : Walk (Itl K a) vs.length (fun H => SqL K H a vs) (YAt vs) := walk_list
  refine ⟨fun i H hi e => w.goes i H (by rw [r.len]; exact hi) (ex_l e s), fun H e => by rw [← r.len]; exact w.stops H (ex_l e s), fun {F' R σ env} i H v H' x hx e S y => ?_⟩
  have hi : i < vs.length := by rw [r.len]; exact (List.getElem?_eq_some_iff.mp hx).1
  obtain ⟨e1, e2⟩ := w.yields i H v H' hi (ex_l (e.trans S.sub) s) y
  subst e1
  obtain ⟨d, e3, rv⟩ := r.get e2
  rw [hx] at e3
  cases e3
  exact ⟨F', Ex.refl F', S, rv.up e, Ex.refl _⟩
theorem wk_tup {a : Addr} {vs : List V} {xs : List D} (s : SqT K F a vs) (r : RelAll K F vs xs) : Wk K F (Itt K a) xs := by
  have w : Walk (Itt K a) vs.length (fun H => SqT K H a vs) (YAt vs) := walk_tup
  refine ⟨fun i H hi e => w.goes i H (by rw [r.len]; exact hi) (ex_t e s), fun H e => by rw [← r.len]; exact w.stops H (ex_t e s), fun {F' R σ env} i H v H' x hx e S y => ?_⟩
  have hi : i < vs.length := by rw [r.len]; exact (List.getElem?_eq_some_iff.mp hx).1
  obtain ⟨e1, e2⟩ := w.yields i H v H' hi (ex_t (e.trans S.sub) s) y
  subst e1
  obtain ⟨d, e3, rv⟩ := r.get e2
  rw [hx] at e3
  cases e3
  exact ⟨F', Ex.refl F', S, rv.up e, Ex.refl _⟩
theorem wk_str {x : List Nat} : Wk K F (Its (mk x)) (x.map fun c => .str [c]) := by
  have w : Walk (Its (mk x)) (mk x).cps.size (fun _ => True) (fun i H v H' => H' = H ∧ ∃ c, (mk x).cps[i]? = some c ∧ v = .str ⟨#[c]⟩) := walk_str
  have hs : (mk x).cps.size = x.length := mk_len x
  refine ⟨fun i H hi e => w.goes i H (by rw [hs]; simpa using hi) trivial, fun H e => by rw [List.length_map, ← hs]; exact w.stops H trivial, fun {F' R σ env} i H v H' y hx e S yl => ?_⟩
  have hi : i < x.length := by simpa using (List.getElem?_eq_some_iff.mp hx).1
  obtain ⟨e1, c, e2, e3⟩ := w.yields i H v H' (by rw [hs]; exact hi) trivial yl
  subst e1
  subst e3
  have e4 : x[i]? = some c := by simpa [mk] using e2
  rw [List.getElem?_map, e4] at hx
  cases hx
  exact ⟨F', Ex.refl F', S, .str [c], Ex.refl _⟩
theorem dI_src {fe : SE} {Q : It → Hp → Prop} (h : dI K W (srcE fe) σ H Q) : iList K (dE K W fe) σ H Q ∨ iTup K (dE K W fe) σ H Q ∨ iStr (dE K W fe) σ H Q := by
  obtain ⟨env, F, R, r, S, e, p⟩ := h
  rcases bindI_inv e with ⟨a, env1, h1, h2⟩ | ⟨x, env1, h1, rfl⟩
  · rw [Option.bind_eq_some_iff] at h2
    obtain ⟨⟨x, env2⟩, h3, h4⟩ := h2
    rw [Option.map_eq_some_iff] at h4
    obtain ⟨xs, h5, rfl⟩ := h4
    have key : ∀ {Q1 : VK}, (∀ v F2 H1, Ex F F2 → Sta K F2 R σ H1 env2 → Rel K F2 v x → Q1 v H1) → dE K W fe σ H Q1 := fun {Q1} k =>
      ⟨env, F, R, _, S, h1, fun v F1 H1 e1 S1 rv => by
        obtain ⟨F2, e2, S2, r2⟩ := frz_ok S1 rv h3
        exact k v F2 H1 (e1.trans e2) S2 r2⟩
    cases x with
    | lst ys =>
      cases h5
      exact .inl (key fun v F2 H1 e2 S2 r2 => by
        cases r2 with
        | lst s rr => exact ⟨_, rfl, ⟨_, ex_l S2.sub s⟩, p _ F2 H1 e2 S2 (wk_list s rr)⟩)
    | tup ys =>
      cases h5
      exact .inr (.inl (key fun v F2 H1 e2 S2 r2 => by
        cases r2 with
        | tup s rr => exact ⟨_, rfl, ⟨_, ex_t S2.sub s⟩, p _ F2 H1 e2 S2 (wk_tup s rr)⟩))
    | str y =>
      cases h5
      exact .inr (.inr (key fun v F2 H1 e2 S2 r2 => by
        cases r2
        exact ⟨mk y, rfl, p _ F2 H1 e2 S2 wk_str⟩))
    | _ => cases h5
  · exact .inl ⟨env, F, R, _, S, h1, p⟩
/-! range -/
def bindAI (x : Option ReA) (k : List RV → SI) : Option ReI :=
  match x with
  | some (.ok as env) => k as env
  | some (.ex e env) => some (.ex e env)
  | none => none
@[simp] theorem bindAI_ok {a : List RV} {env : Sl} {k : List RV → SI} : bindAI (some (.ok a env)) k = k a env := rfl
@[simp] theorem bindAI_ex {e : Xn} {env : Sl} {k : List RV → SI} : bindAI (some (.ex e env)) k = some (.ex e env) := rfl
@[simp] theorem bindAI_none {k : List RV → SI} : bindAI none k = none := rfl
theorem bindAI_inv {x : Option ReA} {k : List RV → SI} {r : ReI} (h : bindAI x k = some r) : (∃ a env1, x = some (.ok a env1) ∧ k a env1 = some r) ∨ ∃ e env1, x = some (.ex e env1) ∧ r = .ex e env1 := by
  cases x with
  | none => cases h
  | some q =>
    cases q with
    | ok a env1 => exact .inl ⟨a, env1, rfl, h⟩
    | ex e env1 => exact .inr ⟨e, env1, rfl, (Option.some.inj h).symm⟩
def rng1 : List D → Option (List D)
  | [.int n] => if okP (-(2 ^ 62) ≤ n ∧ n < 2 ^ 62) then some ((List.range n.toNat).map fun i => .int (i : Nat)) else none
  | _ => none
def rng2 : List D → Option (List D)
  | [.int m, .int n] => if okP (((-(2 ^ 62) ≤ m ∧ m < 2 ^ 62) ∧ -(2 ^ 62) ≤ n) ∧ n < 2 ^ 62) then some ((List.range (n - m).toNat).map fun i => .int (m + (i : Nat))) else none
  | _ => none
def argsI (g : List D → Option (List D)) (fa : SA) : SI := fun env => bindAI (fa env) fun as env1 => (pks as env1).bind fun xs => (g xs).map fun ys => .ok ys env1
theorem wk_range {lo : Int} {n : Nat} : Wk K F (Itr lo n) ((List.range n).map fun i => .int (lo + (i : Nat))) := by
  have w : Walk (Itr lo n) n (fun _ => True) (YFn fun i => .int (lo + i)) := walk_range
  refine ⟨fun i H hi e => w.goes i H (by simpa using hi) trivial, fun H e => by simpa using w.stops H trivial, fun {F' R σ env} i H v H' y hx e S yl => ?_⟩
  have hi : i < n := by simpa using (List.getElem?_eq_some_iff.mp hx).1
  obtain ⟨e1, e2⟩ := w.yields i H v H' hi trivial yl
  subst e1
  subst e2
  rw [List.getElem?_map, List.getElem?_range hi] at hx
  cases hx
  exact ⟨F', Ex.refl F', S, .int _, Ex.refl _⟩
theorem dI_range1 {fa : SA} {Q : It → Hp → Prop} (h : dI K W (argsI rng1 fa) σ H Q) : iRng1 (dA K W fa) σ H Q := by
  obtain ⟨env, F, R, r, S, e, p⟩ := h
  rcases bindAI_inv e with ⟨as, env1, h1, h2⟩ | ⟨x, env1, h1, rfl⟩
  · rw [Option.bind_eq_some_iff] at h2
    obtain ⟨xs, h3, h4⟩ := h2
    rw [Option.map_eq_some_iff] at h4
    obtain ⟨ys, h5, rfl⟩ := h4
    match xs, h3, h5 with
    | [.int n], h3, h5 =>
      obtain ⟨c, rfl⟩ := some_if h5
      rw [okP_iff] at c
      refine ⟨env, F, R, _, S, h1, fun vs F1 H1 R1 e1 eR S1 hv => ?_⟩
      obtain ⟨v, rfl, hv'⟩ := vw1 (pks_vw eR S1 hv h3)
      cases hv'
      refine ⟨n, rfl, c.1, c.2, p _ F1 H1 e1 (S1.unhold eR) ?_⟩
      have := wk_range (K := K) (F := F1) (lo := 0) (n := n.toNat)
      simpa using this
  · exact ⟨env, F, R, _, S, h1, p⟩
theorem dI_range2 {fa : SA} {Q : It → Hp → Prop} (h : dI K W (argsI rng2 fa) σ H Q) : iRng2 (dA K W fa) σ H Q := by
  obtain ⟨env, F, R, r, S, e, p⟩ := h
  rcases bindAI_inv e with ⟨as, env1, h1, h2⟩ | ⟨x, env1, h1, rfl⟩
  · rw [Option.bind_eq_some_iff] at h2
    obtain ⟨xs, h3, h4⟩ := h2
    rw [Option.map_eq_some_iff] at h4
    obtain ⟨ys, h5, rfl⟩ := h4
    match xs, h3, h5 with
    | [.int m, .int n], h3, h5 =>
      obtain ⟨c, rfl⟩ := some_if h5
      rw [okP_iff] at c
      refine ⟨env, F, R, _, S, h1, fun vs F1 H1 R1 e1 eR S1 hv => ?_⟩
      obtain ⟨v, w, rfl, hv', hw'⟩ := vw2 (pks_vw eR S1 hv h3)
      cases hv'
      cases hw'
      exact ⟨m, n, rfl, ⟨c.1.1.1, c.1.1.2, c.1.2, c.2⟩, p _ F1 H1 e1 (S1.unhold eR) wk_range⟩
  · exact ⟨env, F, R, _, S, h1, p⟩
end
section
variable {X : Cx} {W : WX} {tg e : Expr} {fe : SE} {fa : SA} {body : List Stmt} {f : SS} {pos : Pos}
theorem pi_dsrc (h : PE X e (dE X.K W fe)) : PI X tg e (dI X.K W (srcE fe)) := ((pi_list h).or ((pi_tup h).or (pi_str h))).wk fun _ _ _ q => dI_src q
theorem pi_drange1 {a : Expr} {p : Pos} (hm : X.mg "range" = none) (ha : PA X [a] (dA X.K W fa)) (hg : Gl X "range" := by rfl) (hs : starEach [a] X.env = [(false, eval a X.env)] := by rfl) : PI X tg (.Call (.Name "range" p) [a] [] pos) (dI X.K W (argsI rng1 fa)) :=
  (pi_range1 hg hm ha hs).wk fun _ _ _ q => dI_range1 q
theorem pi_drange2 {a b : Expr} {p : Pos} (hm : X.mg "range" = none) (ha : PA X [a, b] (dA X.K W fa)) (hg : Gl X "range" := by rfl) (hs : starEach [a, b] X.env = [(false, eval a X.env), (false, eval b X.env)] := by rfl) (hs2 : starEach [b] X.env = [(false, eval b X.env)] := by rfl) :
    PI X tg (.Call (.Name "range" p) [a, b] [] pos) (dI X.K W (argsI rng2 fa)) := (pi_range2 hg hm ha hs hs2).wk fun _ _ _ q => dI_range2 q
/-! for -/
theorem ps_dfor {t : Tg} {iter : Expr} {fi : SI} (hp : PassesOwn (model X.prog X.w) X.A X.env X.xe) (hc : X.calm = true) (hi : PI X tg iter (dI X.K W fi)) (hg : PG X tg (gT X.K t)) (hb : PSs X body (dS X.K W f))
    (hs : ∀ x, foldedSetIterable iter X.env x = pure x := by intro _; rfl) : PS X (.For tg iter body [] pos) (dS X.K W (forS fi t f)) := (ps_for hp hc hi hg hb hs).wk fun _ _ _ q => dS_for q
theorem pg_dnm {i : Nat} {x : Str} {p : Pos} (hN : X.N.Nodup) (hi : X.N[i]? = some x) (hx : Loc X.env.scope x) (hf : X.fn x = true ∨ X.env.scope.names.lookup x = some .local := by first | exact .inl rfl | exact .inr rfl | assumption) : PG X (.Name x p) (gT X.K (.nm i)) := pg_name hN hi hx hf
theorem pg_dtwo {i j : Nat} {x y : Str} {p1 p2 p3 : Pos} {k : Nat} (hN : X.N.Nodup) (hc : X.calm = true) (hi : X.N[i]? = some x) (hx : Loc X.env.scope x) (hj : X.N[j]? = some y) (hy : Loc X.env.scope y)
    (hf : X.fn x = true ∨ X.env.scope.names.lookup x = some .local := by first | exact .inl rfl | exact .inr rfl | assumption) (hf2 : X.fn y = true ∨ X.env.scope.names.lookup y = some .local := by first | exact .inl rfl | exact .inr rfl | assumption)
    (hs1 : (assignEach [.Name x p1, .Name y p2] X.env).map (·.2) = assign (.Name x p1) X.env :: (assignEach [.Name y p2] X.env).map (·.2) := by rfl)
    (hs2 : (assignEach [.Name y p2] X.env).map (·.2) = assign (.Name y p2) X.env :: (assignEach [] X.env).map (·.2) := by rfl)
    (hn : (assignEach [.Name x p1, .Name y p2] X.env).length = 2 := by rfl) (hst : (assignEach [.Name x p1, .Name y p2] X.env).findIdx? (·.1) = none := by rfl) : PG X (.Tuple [.Name x p1, .Name y p2] k p3) (gT X.K (.two i j)) :=
  pg_tup hc (pgs_cons (pg_name hN hi hx hf) (pgs_cons (pg_name hN hj hy hf2) pgs_nil hs2) hs1) hn hst
end

/-! ### comprehensions -/
abbrev W0 : WX := fun _ _ _ _ => False
/-- the block's own names are empty ahead of each turn -/
def clr : List Nat → Sl → Sl
  | [], env => env
  | i :: is, env => (clr is env).set i .un
def keepD : Option SV → SV
  | some (.d x) => .d x
  | _ => .un
/-- .. and behind it what stood there before -/
def rst : List Nat → Sl → Sl → Sl
  | [], _, env' => env'
  | i :: is, env, env' => (rst is env env').set i (keepD env[i]?)
def bindTD (ft : Option SE) (env : Sl) (k : Bool → Sl → Option (List D × Sl)) : Option (List D × Sl) :=
  match ft with
  | none => k true env
  | some f => match f env with
    | some (.ok a env2) => (tru a env2).bind fun b => k b env2
    | _ => none
def eltD (fe : SE) (env : Sl) : Option (D × Sl) := match fe env with
  | some (.ok a env3) => frz a env3
  | _ => none
def compD (vs : List Nat) (tg : Tg) (ft : Option SE) (fe : SE) : List D → List D → Sl → Option (List D × Sl)
  | [], acc, env => some (acc, env)
  | x :: xs, acc, env => (putT tg x env).bind fun env1 => bindTD ft env1 fun b env2 => match b with
    | true => (eltD fe env2).bind fun p => if acc.length < 100000 then compD vs tg ft fe xs (acc ++ [p.1]) (clr vs p.2) else none
    | false => compD vs tg ft fe xs acc (clr vs env2)
def compE (vs : List Nat) (fi : SI) (tg : Tg) (ft : Option SE) (fe : SE) : SE := fun env => match fi env with
  | some (.ok xs env1) => (compD vs tg ft fe xs [] (clr vs env1)).map fun p => .ok (.own (.lst p.1)) (rst vs env1 p.2)
  | some (.ex e env1) => some (.ex e env1)
  | none => none
def Tg.sub (vs : List Nat) : Tg → Bool
  | .nm i => vs.contains i
  | .two i j => vs.contains i && vs.contains j
section
theorem clr_get : ∀ (vs : List Nat) (env : Sl) (k : Nat), k ∉ vs → (clr vs env)[k]? = env[k]?
  | [], _, _, _ => rfl
  | i :: is, env, k, h => by
    rw [List.mem_cons, not_or] at h
    unfold clr
    rw [List.getElem?_set_ne (Ne.symm h.1)]
    exact clr_get is env k h.2
theorem clr_len : ∀ (vs : List Nat) (env : Sl), (clr vs env).length = env.length
  | [], _ => rfl
  | i :: is, env => by unfold clr; rw [List.length_set, clr_len is env]
theorem clr_in : ∀ (vs : List Nat) (env : Sl) (k : Nat) (s : SV), k ∈ vs → (clr vs env)[k]? = some s → s = .un
  | i :: is, env, k, s, h, e => by
    unfold clr at e
    by_cases hk : k = i
    · subst hk
      by_cases hl : k < (clr is env).length
      · rw [List.getElem?_set_self hl] at e
        cases e
        rfl
      · rw [List.getElem?_eq_none (by rw [List.length_set]; omega)] at e
        cases e
    · rw [List.getElem?_set_ne (Ne.symm hk)] at e
      rcases List.mem_cons.mp h with h | h
      · exact absurd h hk
      · exact clr_in is env k s h e
theorem rst_get : ∀ (vs : List Nat) (env env' : Sl) (k : Nat), k ∉ vs → (rst vs env env')[k]? = env'[k]?
  | [], _, _, _, _ => rfl
  | i :: is, env, env', k, h => by
    rw [List.mem_cons, not_or] at h
    unfold rst
    rw [List.getElem?_set_ne (Ne.symm h.1)]
    exact rst_get is env env' k h.2
theorem rst_len : ∀ (vs : List Nat) (env env' : Sl), (rst vs env env').length = env'.length
  | [], _, _ => rfl
  | i :: is, env, env' => by unfold rst; rw [List.length_set, rst_len is env env']
theorem rst_in : ∀ (vs : List Nat) (env env' : Sl) (k : Nat) (s : SV), k ∈ vs → (rst vs env env')[k]? = some s → s = keepD env[k]?
  | i :: is, env, env', k, s, h, e => by
    unfold rst at e
    by_cases hk : k = i
    · subst hk
      by_cases hl : k < (rst is env env').length
      · rw [List.getElem?_set_self hl] at e
        cases e
        rfl
      · rw [List.getElem?_eq_none (by rw [List.length_set]; omega)] at e
        cases e
    · rw [List.getElem?_set_ne (Ne.symm hk)] at e
      rcases List.mem_cons.mp h with h | h
      · exact absurd h hk
      · exact rst_in is env env' k s h e
theorem wipe_get : ∀ (vs : List Nat) (σ : L2.St) (k : Nat), k ∉ vs → (wipe σ vs)[k]? = σ[k]?
  | [], _, _, _ => rfl
  | i :: is, σ, k, h => by
    rw [List.mem_cons, not_or] at h
    unfold wipe
    rw [List.getElem?_set_ne (Ne.symm h.1)]
    exact wipe_get is σ k h.2
theorem wipe_in : ∀ (vs : List Nat) (σ : L2.St) (k : Nat), k ∈ vs → k < σ.length → (wipe σ vs)[k]? = some none
  | i :: is, σ, k, h, hl => by
    unfold wipe
    by_cases hk : k = i
    · subst hk
      rw [List.getElem?_set_self (by rw [wipe_length]; exact hl)]
    · rw [List.getElem?_set_ne (Ne.symm hk)]
      rcases List.mem_cons.mp h with h | h
      · exact absurd h hk
      · exact wipe_in is σ k h hl
theorem wipe_eq {vs : List Nat} {σ σ' : L2.St} (hl : σ'.length = σ.length) (h : ∀ k, k ∉ vs → σ'[k]? = σ[k]?) : wipe σ' vs = wipe σ vs := by
  apply List.ext_getElem?
  intro k
  by_cases hk : k ∈ vs
  · by_cases hk2 : k < σ.length
    · rw [wipe_in vs σ k hk hk2, wipe_in vs σ' k hk (by omega)]
    · rw [List.getElem?_eq_none (by rw [wipe_length]; omega), List.getElem?_eq_none (by rw [wipe_length]; omega)]
  · rw [wipe_get vs σ' k hk, wipe_get vs σ k hk, h k hk]
variable {K : PySem.W.Frag} {W : WX} {F F' : Hp} {R R' : Fm} {σ : L2.St} {H H' : Hp} {env env' : Sl}
theorem Sta.wipe (vs : List Nat) (S : Sta K F R σ H env) : Sta K F R (L2.wipe σ vs) H (clr vs env) := by
  have un : ∀ {i : Nat} {s : SV}, (clr vs env)[i]? = some s → s ≠ .un → i ∉ vs ∧ env[i]? = some s := fun {i s} h hs => by
    by_cases hi : i ∈ vs
    · exact absurd (clr_in vs env i s hi h) hs
    · rw [clr_get vs env i hi] at h
      exact ⟨hi, h⟩
  refine ⟨S.sub, S.fr, S.dis, by rw [wipe_length, clr_len]; exact S.len, fun i x e => ?_, fun i b c e => ?_, fun i c e => ?_, fun i j bi ci bj cj p h1 h2 h3 h4 => ?_, fun i x q => (by
    obtain ⟨hi, q⟩ := un q (by simp)
    rw [wipe_get vs σ i hi]
    exact S.xn i x q), S.tab⟩
  · obtain ⟨hi, e⟩ := un e (by simp)
    rw [wipe_get vs σ i hi]
    exact S.dat i x e
  · obtain ⟨hi, e⟩ := un e (by simp)
    rw [wipe_get vs σ i hi]
    exact S.own i b c e
  · obtain ⟨hi, e⟩ := un e (by simp)
    rw [wipe_get vs σ i hi]
    exact S.tag i c e
  · obtain ⟨hi, h1⟩ := un h1 (by simp)
    obtain ⟨hj, h2⟩ := un h2 (by simp)
    rw [wipe_get vs σ i hi] at h3
    rw [wipe_get vs σ j hj] at h4
    exact S.inj i j bi ci bj cj p h1 h2 h3 h4
/-- the block's names cleared once more: any slots that agree outside them -/
theorem Sta.rewipe {σ2 : L2.St} (vs : List Nat) (S : Sta K F R σ2 H env) (h : L2.wipe σ2 vs = L2.wipe σ vs) : Sta K F R (L2.wipe σ vs) H (clr vs env) := by
  rw [← h]
  exact S.wipe vs
theorem Sta.unwipe {vs : List Nat} {F0 : Hp} {R0 : Fm} {H0 : Hp} (S0 : Sta K F0 R0 σ H0 env) (e : Ex F0 F) (S : Sta K F R (L2.wipe σ vs) H env') : Sta K F R σ H (rst vs env env') := by
  have un : ∀ {i : Nat} {s : SV}, (rst vs env env')[i]? = some s → (i ∉ vs ∧ env'[i]? = some s) ∨ (i ∈ vs ∧ s = keepD env[i]?) := fun {i s} h => by
    by_cases hi : i ∈ vs
    · exact .inr ⟨hi, rst_in vs env env' i s hi h⟩
    · rw [rst_get vs env env' i hi] at h
      exact .inl ⟨hi, h⟩
  have kd : ∀ {o : Option SV} {x : D}, keepD o = .d x → o = some (.d x) := fun {o x} h => by
    unfold keepD at h
    split at h
    · cases h; rfl
    · cases h
  have ko : ∀ {o : Option SV} {b : Bool} {c : C}, keepD o ≠ .own b c := fun {o b c} h => by
    unfold keepD at h
    split at h <;> cases h
  refine ⟨S.sub, S.fr, S.dis, by rw [rst_len, ← S.len, wipe_length], fun i x q => ?_, fun i b c q => ?_, fun i c q => ?_, fun i j bi ci bj cj p h1 h2 h3 h4 => ?_, fun i x q => (by
    rcases un q with ⟨hi, q⟩ | ⟨hi, q⟩
    · have := S.xn i x q
      rw [wipe_get vs σ i hi] at this
      exact this
    · unfold keepD at q
      split at q <;> cases q), S.tab⟩
  · rcases un q with ⟨hi, q⟩ | ⟨hi, q⟩
    · have := S.dat i x q
      rw [wipe_get vs σ i hi] at this
      exact this
    · obtain ⟨v, e1, r⟩ := S0.dat i x (kd q.symm)
      exact ⟨v, e1, r.up e⟩
  · rcases un q with ⟨hi, q⟩ | ⟨hi, q⟩
    · have := S.own i b c q
      rw [wipe_get vs σ i hi] at this
      exact this
    · exact absurd q.symm ko
  · rcases un q with ⟨hi, q⟩ | ⟨hi, q⟩
    · have := S.tag i c q
      rw [wipe_get vs σ i hi] at this
      exact this
    · exact absurd q.symm ko
  · rcases un h1 with ⟨hi, h1⟩ | ⟨hi, q⟩
    · rcases un h2 with ⟨hj, h2⟩ | ⟨hj, q⟩
      · exact S.inj i j bi ci bj cj p h1 h2 (by rw [wipe_get vs σ i hi]; exact h3) (by rw [wipe_get vs σ j hj]; exact h4)
      · exact absurd q.symm ko
    · exact absurd q.symm ko
/-- the target is stored within the block's own names -/
theorem putT_in {tg : Tg} {vs : List Nat} {x : D} {v : V} {Q : L2.St → Hp → Prop} (hv : tg.sub vs = true) (S : Sta K F R (L2.wipe σ vs) H env) (r : Rel K F v x) (e : putT tg x env = some env') (q : ∀ σ', Sta K F R σ' H env' → L2.wipe σ' vs = L2.wipe σ vs → Q σ' H) : gT K tg v (L2.wipe σ vs) H Q := by
  have ww : ∀ {i : Nat} {w : Option V} {σ2 : L2.St}, i ∈ vs → L2.wipe σ2 vs = L2.wipe σ vs → L2.wipe (σ2.set i w) vs = L2.wipe σ vs := fun {i w σ2} hi h => by
    rw [← h]
    exact wipe_eq (by rw [List.length_set]) fun k hk => by rw [List.getElem?_set_ne (fun z => hk (by subst z; exact hi))]
  have w0 : L2.wipe (L2.wipe σ vs) vs = L2.wipe σ vs := wipe_eq (wipe_length σ vs) fun k hk => wipe_get vs σ k hk
  cases tg with
  | nm i =>
    obtain ⟨c, rfl⟩ := setSlot_inv e
    exact q _ (S.setD c r) (ww (by simpa [Tg.sub] using hv) w0)
  | two i j =>
    simp only [Tg.sub, Bool.and_eq_true, List.contains_iff_mem] at hv
    match x, e, r with
    | .tup [x, y], e, r =>
      have e : ((setSlot i (.d x) env).bind (setSlot j (.d y))) = some env' := e
      rw [Option.bind_eq_some_iff] at e
      obtain ⟨env1, h1, h2⟩ := e
      obtain ⟨c1, rfl⟩ := setSlot_inv h1
      obtain ⟨c2, rfl⟩ := setSlot_inv h2
      cases r with
      | tup s rr =>
        cases rr with
        | cons r1 rr =>
          cases rr with
          | cons r2 rr =>
            cases rr
            exact ⟨_, _, rfl, ex_t S.sub s, rfl, _, _, rfl, _, _, rfl, rfl, q _ ((S.setD c1 r1).setD c2 r2) (ww hv.2 (ww hv.1 w0))⟩
def tTD (K : PySem.W.Frag) : Option SE → TT
  | none => tYes
  | some f => dT K W0 f
theorem dE_comp {vs : List Nat} {fi : SI} {tg : Tg} {ft : Option SE} {fe : SE} {Q : VK} (hv : tg.sub vs = true) (h : dE K W (compE vs fi tg ft fe) σ H Q) : tLc (dI K W fi) (gT K tg) (tTD K ft) (dE K W0 fe) vs σ H Q := by
  obtain ⟨env, F, R, r, S, e, p⟩ := h
  have e : (match fi env with
    | some (.ok xs env1) => (compD vs tg ft fe xs [] (clr vs env1)).map fun p => Re.ok (.own (.lst p.1)) (rst vs env1 p.2)
    | some (.ex e env1) => some (.ex e env1)
    | none => none) = some r := e
  cases h1 : fi env with
  | none => rw [h1] at e; cases e
  | some q =>
    rw [h1] at e
    cases q with
    | ex x env1 => cases e; exact ⟨env, F, R, _, S, h1, p⟩
    | ok xs env1 =>
      dsimp only at e
      rw [Option.map_eq_some_iff] at e
      obtain ⟨⟨ys, env9⟩, h2, rfl⟩ := e
      refine ⟨env, F, R, _, S, h1, fun J F1 H1 e1 S1 wk L hL => ?_⟩
      -- between the turns: the list at L holds acc
      refine ⟨fun i m H' => m = xs.length - i ∧ i ≤ xs.length ∧ ∃ env' F' acc avs, Ex F1 F' ∧ Sta K F' R (L2.wipe σ vs) H' env' ∧ H' L = some (.lst avs) ∧ F' L = none ∧ R.r L = none ∧ (∀ (j : Nat) b c', env'[j]? = some (SV.own b c') → (L2.wipe σ vs)[j]? ≠ some (some (V.ref L))) ∧ RelAll K F' avs acc ∧ compD vs tg ft fe (xs.drop i) acc env' = some (ys, env9),
        ⟨xs.length, by simp, Nat.zero_le _, clr vs env1, F1, [], [], Ex.refl _, (S1.wipe vs).freshH hL, upd_same, S1.freeF hL, S1.freeR hL, fun j b c' q z => ?_, .nil, h2⟩, ?_⟩
      · obtain ⟨p', o, z1, _, _, z4, _⟩ := (S1.wipe vs).own j b c' q
        rw [z] at z1
        cases z1
        rw [hL] at z4
        cases z4
      · rintro i m H' ⟨rfl, hi, env', F', acc, avs, e2, S2, hL2, hF2, hR2, hs2, ra, e3⟩
        by_cases hlt : i < xs.length
        · have hx : xs[i]? = some xs[i] := List.getElem?_eq_getElem hlt
          rw [List.drop_eq_getElem_cons hlt] at e3
          have e3 : ((putT tg xs[i] env').bind fun env1 => bindTD ft env1 fun b env2 => match b with
            | true => (eltD fe env2).bind fun p => if acc.length < 100000 then compD vs tg ft fe (xs.drop (i + 1)) (acc ++ [p.1]) (clr vs p.2) else none
            | false => compD vs tg ft fe (xs.drop (i + 1)) acc (clr vs env2)) = some (ys, env9) := e3
          rw [Option.bind_eq_some_iff] at e3
          obtain ⟨env2, h3, e3⟩ := e3
          have S2' := S2.hold hF2 hL2 (fun _ z => by cases z) hs2
          have eR : FEx R ⟨upd R.r L (.lst avs), R.t, R.T⟩ := ⟨Ex.new hR2, rfl⟩
          refine .inr ⟨wk.goes i H' hlt (e2.trans S2.sub), fun H2 => ∃ env' F' acc avs, Ex F1 F' ∧ Sta K F' R (L2.wipe σ vs) H2 env' ∧ H2 L = some (.lst avs) ∧ F' L = none ∧ R.r L = none ∧ (∀ (j : Nat) b c', env'[j]? = some (SV.own b c') → (L2.wipe σ vs)[j]? ≠ some (some (V.ref L))) ∧ RelAll K F' avs acc ∧ compD vs tg ft fe (xs.drop (i + 1)) acc env' = some (ys, env9),
            fun H2 ⟨env', F', acc, avs, q⟩ => ⟨xs.length - (i + 1), by omega, rfl, hlt, env', F', acc, avs, q⟩, fun v H3 hy => ?_⟩
          obtain ⟨F3, e4, S3, rv, eH⟩ := wk.yields i H' v H3 xs[i] hx e2 S2' hy
          refine putT_in hv S3 rv h3 fun σ3 S4 hw => ⟨hw, ?_⟩
          -- what holds of the list through the turn
          have stay : ∀ {F5 H5 : Hp} {env5 : Sl}, Sta K F5 ⟨upd R.r L (.lst avs), R.t, R.T⟩ σ3 H5 env5 → H5 L = some (.lst avs) ∧ F5 L = none ∧ Sta K F5 ⟨upd R.r L (.lst avs), R.t, R.T⟩ (L2.wipe σ vs) H5 (clr vs env5) := fun {F5 H5 env5} S5 =>
            ⟨S5.fr L _ upd_same, S5.dis L _ upd_same, S5.rewipe vs hw⟩
          have apart : ∀ {F5 H5 : Hp} {env5 : Sl}, Sta K F5 ⟨upd R.r L (.lst avs), R.t, R.T⟩ (L2.wipe σ vs) H5 env5 → ∀ (j : Nat) b c', env5[j]? = some (SV.own b c') → (L2.wipe σ vs)[j]? ≠ some (some (V.ref L)) := fun {F5 H5 env5} S5 j b c' q z => by
            obtain ⟨p', o, z1, _, z3, _⟩ := S5.own j b c' q
            rw [z] at z1
            cases z1
            have z3 : upd R.r L (.lst avs) L = none := z3
            rw [upd_same] at z3
            cases z3
          have elt : ∀ (env3 : Sl) (F5 H5 : Hp), Ex F3 F5 → Sta K F5 ⟨upd R.r L (.lst avs), R.t, R.T⟩ σ3 H5 env3 → ((eltD fe env3).bind fun p => if acc.length < 100000 then compD vs tg ft fe (xs.drop (i + 1)) (acc ++ [p.1]) (clr vs p.2) else none) = some (ys, env9) →
              dE K W0 fe σ3 H5 fun y H4 => ∃ acc, H4 L = some (.lst acc) ∧ acc.length < sizeLine ∧ ∃ env' F' acc' avs, Ex F1 F' ∧ Sta K F' R (L2.wipe σ vs) (upd H4 L (.lst (acc ++ [y]))) env' ∧ (upd H4 L (.lst (acc ++ [y]))) L = some (.lst avs) ∧ F' L = none ∧ R.r L = none ∧ (∀ (j : Nat) b c', env'[j]? = some (SV.own b c') → (L2.wipe σ vs)[j]? ≠ some (some (V.ref L))) ∧ RelAll K F' avs acc' ∧ compD vs tg ft fe (xs.drop (i + 1)) acc' env' = some (ys, env9) := fun env3 F5 H5 e5 S5 e6 => by
            rw [Option.bind_eq_some_iff] at e6
            obtain ⟨⟨y, env4⟩, h4, e6⟩ := e6
            have hle : acc.length < 100000 := by
              by_cases c : acc.length < 100000
              · exact c
              · rw [if_neg c] at e6; cases e6
            rw [if_pos hle] at e6
            unfold eltD at h4
            cases h5 : fe env3 with
            | none => rw [h5] at h4; cases h4
            | some r5 =>
              rw [h5] at h4
              cases r5 with
              | ex _ _ => cases h4
              | ok a env5 =>
                refine ⟨env3, F5, ⟨upd R.r L (.lst avs), R.t, R.T⟩, _, S5, h5, fun w F6 H6 e7 S6 rw' => ?_⟩
                obtain ⟨F7, e8, S7, r7⟩ := frz_ok S6 rw' h4
                obtain ⟨k1, k2, k3⟩ := stay S7
                have eF : Ex F' F7 := ((e4.trans e5).trans e7).trans e8
                refine ⟨avs, k1, Nat.lt_of_lt_of_le (by rw [ra.len]; exact hle) (by decide : 100000 ≤ sizeLine), clr vs env4, F7, acc ++ [y], avs ++ [w], e2.trans eF, ?_, upd_same, k2, hR2, fun j b c' q => apart k3 j b c' q, (ra.up eF).app (.cons r7 .nil), e6⟩
                have S8 := k3.unhold eR
                have ap := apart k3
                refine ⟨fun b u q => ?_, fun b u q => ?_, S8.dis, S8.len, S8.dat, fun j b c q => ?_, S8.tag, S8.inj, S8.xn, fun P h => ?_⟩
                rotate_right
                · obtain ⟨⟨ps, h1, h2⟩, h3⟩ := S8.tab P h
                  have hb : P ≠ L := fun z => by rw [z, k1] at h1; cases h1
                  exact ⟨⟨ps, by rw [upd_ne hb]; exact h1, h2⟩, h3⟩
                · have hb : b ≠ L := fun z => by rw [z, k2] at q; cases q
                  rw [upd_ne hb]; exact S8.sub b u q
                · have hb : b ≠ L := fun z => by rw [z, hR2] at q; cases q
                  rw [upd_ne hb]; exact S8.fr b u q
                · obtain ⟨p', o, z1, z2, z3, z4, z5⟩ := S8.own j b c q
                  have hb : p' ≠ L := fun z => ap j b c q (by rw [z1, z])
                  exact ⟨p', o, z1, z2, z3, by rw [upd_ne hb]; exact z4, z5⟩
          cases ft with
          | none =>
            exact elt env2 F3 H3 (Ex.refl _) S4 e3
          | some f =>
            have e3 : (match f env2 with
              | some (.ok a env2) => (tru a env2).bind fun b => match b with
                | true => (eltD fe env2).bind fun p => if acc.length < 100000 then compD vs tg (some f) fe (xs.drop (i + 1)) (acc ++ [p.1]) (clr vs p.2) else none
                | false => compD vs tg (some f) fe (xs.drop (i + 1)) acc (clr vs env2)
              | _ => none) = some (ys, env9) := e3
            cases h6 : f env2 with
            | none => rw [h6] at e3; cases e3
            | some r6 =>
              rw [h6] at e3
              cases r6 with
              | ex _ _ => cases e3
              | ok a env3 =>
                dsimp only at e3
                rw [Option.bind_eq_some_iff] at e3
                obtain ⟨b, h7, e3⟩ := e3
                refine ⟨env2, F3, ⟨upd R.r L (.lst avs), R.t, R.T⟩, _, S4, h6, b, h7, fun F5 H5 e5 S5 => ?_⟩
                cases b with
                | true => exact iteT (elt env3 F5 H5 e5 S5 e3)
                | false =>
                  refine iteF ?_
                  obtain ⟨k1, k2, k3⟩ := stay S5
                  have eF : Ex F' F5 := e4.trans e5
                  exact ⟨clr vs env3, F5, acc, avs, e2.trans eF, k3.unhold eR, k1, k2, hR2, apart k3, ra.up eF, e3⟩
        · have hi' : i = xs.length := by omega
          subst hi'
          rw [List.drop_length] at e3
          cases e3
          refine .inl ⟨wk.stops H' (e2.trans S2.sub), p _ F' H' (e1.trans e2) (Sta.unwipe S1 e2 S2) ⟨L, _, rfl, hF2, hR2, hL2, ⟨avs, rfl, ra⟩, fun j b c' q z => ?_⟩⟩
          by_cases hj : j ∈ vs
          · have := rst_in vs env1 env9 j _ hj q
            unfold keepD at this
            split at this <;> cases this
          · rw [rst_get vs env1 env9 j hj] at q
            exact hs2 j b c' q (by rw [wipe_get vs σ j hj]; exact z)
end
end
end Dw
namespace Dw
noncomputable section
open PySem PySem.Spec PyProof.Rows L2
variable [Glo] [Tabs]

section
variable {X : Cx} {W : WX} {f : SE}
theorem pts_dnil : PTs X [] (tTD X.K none) := pts_nil
theorem pts_done {c : Expr} (h : PT X c (dT X.K W0 f)) : PTs X [c] (tTD X.K (some f)) := pts_one h
theorem pd_comp {elt tg iter : Expr} {ifs : List Expr} {scope : Scope} {own : List (Str × Nat)} {pos : Pos} {fi : SI} {t : Tg} {ft : Option SE} {fe : SE} (hc : X.calm = true) (hN : X.N.Nodup) (ok : BlkOk X.N X.env.scope scope own) (hv : t.sub (own.map (·.2)) = true) (hi : PI X tg iter (dI X.K W fi))
    (hg : ∀ (s : Shared) (H : Hp) (C : Addr) (cl : List (Str × Addr)) (fp : List Addr), PG (X.blk s H scope (compEnvC scope cl C X.env) fp) tg (gT X.K t)) (ht : ∀ (s : Shared) (H : Hp) (C : Addr) (cl : List (Str × Addr)) (fp : List Addr), PTs (X.blk s H scope (compEnvC scope cl C X.env) fp) ifs (tTD X.K ft))
    (he : ∀ (s : Shared) (H : Hp) (C : Addr) (cl : List (Str × Addr)) (fp : List Addr), PE (X.blk s H scope (compEnvC scope cl C X.env) fp) elt (dE X.K W0 fe)) (hs : ∀ x, foldedSetIterable iter X.env x = pure x := by intro _; rfl) :
    PE X (.ListComp elt [⟨tg, iter, ifs, 0⟩] scope pos) (dE X.K W (compE (own.map (·.2)) fi t ft fe)) := (pe_lc hc hN hi ok hg ht he hs).wk fun _ _ _ q => dE_comp hv q
theorem ps_dsetComp {i : Nat} {y : Str} {py : Pos} {elt tg iter : Expr} {ifs : List Expr} {scope : Scope} {own : List (Str × Nat)} {pos spos : Pos} {fi : SI} {t : Tg} {ft : Option SE} {fe : SE} (hc : X.calm = true) (hN : X.N.Nodup) (hy : X.N[i]? = some y) (hyl : X.env.scope.names.lookup y = some .local)
    (hsw : swapsWith (.ListComp elt [⟨tg, iter, ifs, 0⟩] scope pos) (some (.Name y py)) spos.line X.env = pure true) (ok : BlkOk X.N X.env.scope scope own) (hv : t.sub (own.map (·.2)) = true) (hi : PI X tg iter (dI X.K W fi))
    (hg : ∀ (s : Shared) (H : Hp) (C : Addr) (cl : List (Str × Addr)) (fp : List Addr), PG (X.blk s H scope (compEnvC scope cl C X.env) fp) tg (gT X.K t)) (ht : ∀ (s : Shared) (H : Hp) (C : Addr) (cl : List (Str × Addr)) (fp : List Addr), PTs (X.blk s H scope (compEnvC scope cl C X.env) fp) ifs (tTD X.K ft))
    (he : ∀ (s : Shared) (H : Hp) (C : Addr) (cl : List (Str × Addr)) (fp : List Addr), PE (X.blk s H scope (compEnvC scope cl C X.env) fp) elt (dE X.K W0 fe)) (hs : ∀ x, foldedSetIterable iter X.env x = pure x := by intro _; rfl) :
    PS X (.Assign [.Name y py] (.ListComp elt [⟨tg, iter, ifs, 0⟩] scope pos) spos) (dS X.K W (asgS i (compE (own.map (·.2)) fi t ft fe))) := (ps_setLc hc hN hy hyl hsw hi ok hg ht he hs).wk fun _ _ _ q => dE_comp hv (dS_asg q)
end

/-! ### what a def means -/
inductive FR where
  | ok (a : RV) (outs : List SV) | ex (e : Xn) (outs : List SV)
def resS : Option SV → Option RV
  | some (.own false c) => some (.own c)
  | some (.d x) => some (.d x)
  | _ => none
def resV (a : RV) (env : Sl) : Option RV := match a with
  | .d x => some (.d x)
  | .own c => some (.own c)
  | .cv i => resS env[i]?
def backs : List SV → Sl → Option (List SV)
  | [], _ => some []
  | .own true _ :: as, .own true c :: es => (backs as es).map (.own true c :: ·)
  | .d x :: as, _ :: es => (backs as es).map (.d x :: ·)
  | _, _ => none
def runF (n : Nat) (body : SS) (args : List SV) : Option FR := match body (args ++ List.replicate n .un) with
  | some (.rt a env) => (resV a env).bind fun a' => (backs args env).map (FR.ok a')
  | some (.nx env) => (backs args env).map (FR.ok (.d .non))
  | some (.ex e env) => (backs args env).map (FR.ex e)
  | _ => none
section
variable (K : PySem.W.Frag)
def PostF (F : Hp) (R : Fm) (vs : List V) (r : FR) (Q : VK) (E : XK) : Prop :=
  match r with
  | .ok a outs => ∀ v F' H', Ex F F' → Sta K F' R (vs.map some) H' outs → RvOk K F' R (vs.map some) H' outs v a → Q v H'
  | .ex e outs => ∀ cls d F' H', Ex F F' → Sta K F' R (vs.map some) H' outs → XnAt K F' e cls d → E cls d H'
def spD (np : Nat) (m : List SV → Option FR) : Sp := fun vs H Q E => ∃ F R args r, args.length = np ∧ Sta K F R (vs.map some) H args ∧ m args = some r ∧ PostF K F R vs r Q E
end
section
variable {K : PySem.W.Frag} {W : WX} {F F' : Hp} {R R' : Fm} {σ : L2.St} {H H' : Hp} {env env' : Sl} {vs : List V} {args : List SV}
theorem backs_len : ∀ {as : List SV} {es : Sl} {outs : List SV}, backs as es = some outs → outs.length = as.length
  | [], _, _, h => by cases h; rfl
  | .un :: _, _, _, h => by cases h
  | .own false _ :: _, _, _, h => by cases h
  | .own true _ :: as, [], _, h => by cases h
  | .own true _ :: as, e :: es, _, h => by
    cases e with
    | own b c =>
      cases b with
      | false => cases h
      | true =>
        have h : (backs as es).map (SV.own true c :: ·) = some _ := h
        rw [Option.map_eq_some_iff] at h
        obtain ⟨o, h1, rfl⟩ := h
        simp [backs_len h1]
    | _ => cases h
  | .d x :: as, [], _, h => by cases h
  | .d x :: as, e :: es, outs, h => by
    have h : (backs as es).map (SV.d x :: ·) = some outs := by cases e <;> exact h
    rw [Option.map_eq_some_iff] at h
    obtain ⟨o, h1, rfl⟩ := h
    simp [backs_len h1]
theorem backs_at : ∀ {as : List SV} {es : Sl} {outs : List SV} {i : Nat} {s : SV}, backs as es = some outs → outs[i]? = some s → (∃ x, s = .d x ∧ as[i]? = some (.d x)) ∨ ∃ c c', s = .own true c' ∧ as[i]? = some (.own true c) ∧ es[i]? = some (.own true c')
  | [], _, _, _, _, h, e => by cases h; simp at e
  | .un :: _, _, _, _, _, h, _ => by cases h
  | .own false _ :: _, _, _, _, _, h, _ => by cases h
  | .own true _ :: as, [], _, _, _, h, _ => by cases h
  | .own true c0 :: as, e :: es, _, i, s, h, q => by
    cases e with
    | own b c =>
      cases b with
      | false => cases h
      | true =>
        have h : (backs as es).map (SV.own true c :: ·) = some _ := h
        rw [Option.map_eq_some_iff] at h
        obtain ⟨o, h1, rfl⟩ := h
        cases i with
        | zero =>
          simp at q
          subst q
          exact .inr ⟨c0, c, rfl, rfl, rfl⟩
        | succ i => simpa using backs_at (i := i) h1 (by simpa using q)
    | _ => cases h
  | .d x :: as, [], _, _, _, h, _ => by cases h
  | .d x :: as, e :: es, outs, i, s, h, q => by
    have h : (backs as es).map (SV.d x :: ·) = some outs := by cases e <;> exact h
    rw [Option.map_eq_some_iff] at h
    obtain ⟨o, h1, rfl⟩ := h
    cases i with
    | zero =>
      simp at q
      subst q
      exact .inl ⟨x, rfl, rfl⟩
    | succ i => simpa using backs_at (i := i) h1 (by simpa using q)
/-- the def's slots at its entry -/
theorem Sta.start {N : List Str} {n : Nat} (S : Sta K F R (vs.map some) H args) (hN : N.length = vs.length + n) : Sta K F R (L2.start N vs) H (args ++ List.replicate n .un) := by
  have hl : vs.length = args.length := by simpa using S.len
  have hs : L2.start N vs = vs.map some ++ List.replicate n none := by unfold L2.start; rw [hN, Nat.add_sub_cancel_left]
  rw [hs]
  have low : ∀ {i : Nat} {s : SV}, (args ++ List.replicate n SV.un)[i]? = some s → s ≠ .un → i < args.length ∧ args[i]? = some s := fun {i s} h hu => by
    by_cases hi : i < args.length
    · rw [List.getElem?_append_left hi] at h
      exact ⟨hi, h⟩
    · rw [List.getElem?_append_right (by omega), List.getElem?_replicate] at h
      split at h
      · cases h; exact absurd rfl hu
      · cases h
  have lowσ : ∀ {i : Nat}, i < args.length → (vs.map some ++ List.replicate n none)[i]? = (vs.map some)[i]? := fun {i} h => List.getElem?_append_left (by simpa [hl] using h)
  refine ⟨S.sub, S.fr, S.dis, by simp [hl], fun i x e => ?_, fun i b c e => ?_, fun i c e => ?_, fun i j bi ci bj cj p h1 h2 h3 h4 => ?_, fun i x q => (by
    obtain ⟨hi, q⟩ := low q (by simp)
    rw [lowσ hi]
    exact S.xn i x q), S.tab⟩
  · obtain ⟨hi, e⟩ := low e (by simp)
    rw [lowσ hi]
    exact S.dat i x e
  · obtain ⟨hi, e⟩ := low e (by simp)
    rw [lowσ hi]
    exact S.own i b c e
  · obtain ⟨hi, e⟩ := low e (by simp)
    rw [lowσ hi]
    exact S.tag i c e
  · obtain ⟨hi, h1⟩ := low h1 (by simp)
    obtain ⟨hj, h2⟩ := low h2 (by simp)
    rw [lowσ hi] at h3
    rw [lowσ hj] at h4
    exact S.inj i j bi ci bj cj p h1 h2 h3 h4
/-- .. and at its end, as the caller sees them -/
theorem Sta.backs {outs : List SV} (S0 : Sta K F R (vs.map some) H args) (e : Ex F F') (S : Sta K F' R σ H' env) (h : backs args env = some outs) : Sta K F' R (vs.map some) H' outs := by
  have hl := backs_len h
  have tag : ∀ {i : Nat} {c c' : C}, args[i]? = some (.own true c) → env[i]? = some (.own true c') → (vs.map some)[i]? = some (some (V.ref (R.t i))) ∧ σ[i]? = some (some (V.ref (R.t i))) := fun {i c c'} h1 h2 => ⟨S0.tag i c h1, S.tag i c' h2⟩
  refine ⟨S.sub, S.fr, S.dis, by rw [hl]; exact S0.len, fun i x q => ?_, fun i b c q => ?_, fun i c q => ?_, fun i j bi ci bj cj p h1 h2 h3 h4 => ?_, fun i x q => (by
    rcases backs_at h q with ⟨y, q1, _⟩ | ⟨c, c', q1, _⟩ <;> cases q1), S.tab⟩
  · rcases backs_at h q with ⟨y, q1, q2⟩ | ⟨c, c', q1, _⟩
    · cases q1
      obtain ⟨v, e1, r⟩ := S0.dat i x q2
      exact ⟨v, e1, r.up e⟩
    · cases q1
  · rcases backs_at h q with ⟨y, q1, q2⟩ | ⟨c1, c', q1, q2, q3⟩
    · cases q1
    · cases q1
      obtain ⟨t1, t2⟩ := tag q2 q3
      obtain ⟨p, o, z1, z2⟩ := S.own i _ _ q3
      rw [t2] at z1
      cases z1
      exact ⟨_, o, t1, z2⟩
  · rcases backs_at h q with ⟨y, q1, q2⟩ | ⟨c1, c', q1, q2, q3⟩
    · cases q1
    · exact (tag q2 q3).1
  · rcases backs_at h h1 with ⟨y, q1, q2⟩ | ⟨c1, c', q1, q2, q3⟩
    · cases q1
    · rcases backs_at h h2 with ⟨y, r1, r2⟩ | ⟨d1, d', r1, r2, r3⟩
      · cases r1
      · obtain ⟨t1, t2⟩ := tag q2 q3
        obtain ⟨u1, u2⟩ := tag r2 r3
        rw [t1] at h3
        rw [u1] at h4
        exact S.inj i j _ _ _ _ p q3 r3 (by rw [t2]; exact h3) (by rw [u2]; exact h4)
theorem RvOk.backs {outs : List SV} {a a' : RV} {v : V} (S0 : Sta K F R (vs.map some) H args) (S : Sta K F' R σ H' env) (h : Dw.backs args env = some outs) (rv : RvOk K F' R σ H' env v a) (ha : resV a env = some a') : RvOk K F' R (vs.map some) H' outs v a' := by
  have own : ∀ {c : C} {p : Addr} {o : HO}, v = .ref p → F' p = none → R.r p = none → H' p = some o → CellOk K F' p o c → (∀ (i : Nat) c', env[i]? = some (SV.own true c') → σ[i]? ≠ some (some (V.ref p))) → RvOk K F' R (vs.map some) H' outs v (.own c) := fun {c p o} e1 e2 e3 e4 e5 e6 =>
    ⟨p, o, e1, e2, e3, e4, e5, fun i b c' q z => by
      rcases backs_at h q with ⟨y, q1, q2⟩ | ⟨c1, c2, q1, q2, q3⟩
      · cases q1
      · rw [S0.tag i c1 q2] at z
        exact e6 i c2 q3 (by rw [S.tag i c2 q3]; exact z)⟩
  cases a with
  | d x => cases ha; exact rv
  | own c =>
    cases ha
    obtain ⟨p, o, e1, e2, e3, e4, e5, e6⟩ := rv
    exact own e1 e2 e3 e4 e5 fun i c' q => e6 i true c' q
  | cv i =>
    have rv : σ[i]? = some (some v) := rv
    have ha : resS env[i]? = some a' := ha
    cases hi : env[i]? with
    | none => rw [hi] at ha; cases ha
    | some s =>
      rw [hi] at ha
      cases s with
      | un => cases ha
      | xn _ => cases ha
      | d x =>
        cases ha
        obtain ⟨w, e1, r⟩ := S.dat i x hi
        rw [rv] at e1
        cases e1
        exact r
      | own b c =>
        cases b with
        | true => cases ha
        | false =>
          cases ha
          obtain ⟨p, o, e1, e2, e3, e4, e5⟩ := S.own i _ _ hi
          rw [rv] at e1
          cases e1
          refine own rfl e2 e3 e4 e5 fun j c' q z => ?_
          have := S.inj i j _ _ _ _ p hi q rv z
          subst this
          rw [hi] at q
          cases q
end
section
variable {P : Program} {w : World} {K : PySem.W.Frag} {mg : Str → Option Value} {base : Heap}
/-- a def by its body; the body is run with the def's own code -/
theorem fun_okC {x qual : Str} {st : Stmt} {f : Addr} {fd : FuncData} {N ps : List Str} {k : Nat} {sp : Sp} (F : Fun K x qual st f fd) (S : FnScope N ps (defScope st)) (len : ∀ vs H Q E, sp vs H Q E → vs.length = ps.length)
    (hb : ∀ (cdv : Value), fd.code = cdv → ∀ (A : Around) (outer : List Env) (s : Shared) (H : Hp) (vs : List V) (Q : VK) (E : XK), Room k (A.deeper (envOfC qual (defScope st) s.heap.objs.size f cdv)) → sp vs H Q E →
      ∃ t, PSs (cxOf CX0 P w K mg base N qual (defScope st) f cdv A outer s H E).nox (defBody st) t ∧ t { nx := fun _ H' => Q .non H', rt := Q } (start N vs) H) : FnOk P w K mg base CX0 (k + 1) f fd ps sp := by
  obtain ⟨_, _, _, _, _, _, cdv, _, _, rfl, lk, hcd⟩ := F.ex
  exact fn_of lk hcd S len fun A outer s H vs Q E hr hsp => (hb cdv rfl A outer s H vs Q E hr hsp).imp fun t h => ⟨h.1.nox, h.2⟩
/-- a def that raises nothing keeps the promise «it means what its body means» -/
theorem fnd_ok {x qual : Str} {st : Stmt} {f : Addr} {fd : FuncData} {N ps : List Str} {k n : Nat} {body : SS} (F : Fun K x qual st f fd) (S : FnScope N ps (defScope st)) (hn : N.length = ps.length + n)
    (hb : ∀ (cdv : Value), fd.code = cdv → ∀ (A : Around) (outer : List Env) (s : Shared) (H : Hp) (E : XK), Room k (A.deeper (envOfC qual (defScope st) s.heap.objs.size f cdv)) → PSs (cxOf CX0 P w K mg base N qual (defScope st) f cdv A outer s H E).nox (defBody st) (dS K W0 body)) :
    FnOk P w K mg base CX0 (k + 1) f fd ps (spD K ps.length fun args => match runF n body args with | some (.ok a o) => some (.ok a o) | _ => none) := by
  refine fun_okC F S (fun vs H Q E h => ?_) (fun cdv hcd A outer s H vs Q E hr h => ⟨_, hb cdv hcd A outer s H E hr, ?_⟩)
  · obtain ⟨F, R, args, r, h1, h2, _⟩ := h
    have := h2.len
    rw [List.length_map] at this
    omega
  · obtain ⟨F1, R, args, r, h1, S1, e, p⟩ := h
    have hv : vs.length = ps.length := by
      have := S1.len
      rw [List.length_map] at this
      omega
    have S2 := S1.start (N := N) (n := n) (by omega)
    dsimp only at e
    cases hr : runF n body args with
    | none => rw [hr] at e; cases e
    | some q =>
      rw [hr] at e
      cases q with
      | ex _ _ => cases e
      | ok a outs =>
        cases e
        unfold runF at hr
        cases hbd : body (args ++ List.replicate n .un) with
        | none => rw [hbd] at hr; cases hr
        | some o =>
          rw [hbd] at hr
          refine ⟨_, F1, R, o, S2, hbd, ?_⟩
          cases o with
          | rt a0 env =>
            dsimp only at hr
            rw [Option.bind_eq_some_iff] at hr
            obtain ⟨a', h3, hr⟩ := hr
            rw [Option.map_eq_some_iff] at hr
            obtain ⟨o', h4, hr⟩ := hr
            cases hr
            exact fun v σ' F' H' e1 S3 rv => p v F' H' e1 (S1.backs e1 S3 h4) (RvOk.backs S1 S3 h4 rv h3)
          | nx env =>
            dsimp only at hr
            rw [Option.map_eq_some_iff] at hr
            obtain ⟨o', h4, hr⟩ := hr
            cases hr
            exact fun σ' F' H' e1 S3 => p .non F' H' e1 (S1.backs e1 S3 h4) .non
          | bk env => cases hr
          | ct env => cases hr
          | ex x env =>
            dsimp only at hr
            rw [Option.map_eq_some_iff] at hr
            obtain ⟨o', h4, hr⟩ := hr
            cases hr
end
end
end Dw
namespace Dw
noncomputable section
open PySem PySem.Spec PyProof.Rows L2
variable [Glo] [Tabs]

/-! ### the callee's frame: the caller's own things stand, all but slot i -/
open Classical
noncomputable def calF (R : Fm) (σ : L2.St) (H : Hp) (env : Sl) (i : Nat) (p0 : Addr) : Fm :=
  ⟨fun a => if ∃ j b c, j ≠ i ∧ env[j]? = some (SV.own b c) ∧ σ[j]? = some (some (V.ref a)) then H a else R.r a, fun _ => p0, R.T⟩
section
variable {K : PySem.W.Frag} {W : WX} {F F' : Hp} {R R' : Fm} {σ : L2.St} {H H' : Hp} {env : Sl} {Q : VK} {i : Nat} {p0 : Addr}
theorem calF_own (S : Sta K F R σ H env) {j : Nat} {b : Bool} {c : C} {p : Addr} (hj : j ≠ i) (h : env[j]? = some (.own b c)) (e : σ[j]? = some (some (V.ref p))) : (calF R σ H env i p0).r p = H p := by
  show (if _ then _ else _) = _
  rw [if_pos ⟨j, b, c, hj, h, e⟩]
theorem calF_none (S : Sta K F R σ H env) {p : Addr} (h : (calF R σ H env i p0).r p = none) : R.r p = none ∧ ∀ (j : Nat) (b : Bool) (c : C), j ≠ i → env[j]? = some (SV.own b c) → σ[j]? ≠ some (some (V.ref p)) := by
  have h : (if ∃ j b c, j ≠ i ∧ env[j]? = some (SV.own b c) ∧ σ[j]? = some (some (V.ref p)) then H p else R.r p) = none := h
  by_cases hc : ∃ j b c, j ≠ i ∧ env[j]? = some (SV.own b c) ∧ σ[j]? = some (some (V.ref p))
  · rw [if_pos hc] at h
    exact ⟨S.freeR h, fun j b c hj e1 e2 => by
      obtain ⟨q, o, e3, _, _, e4, _⟩ := S.own j b c e1
      rw [e2] at e3
      cases e3
      rw [h] at e4
      cases e4⟩
  · rw [if_neg hc] at h
    exact ⟨h, fun j b c hj e1 e2 => hc ⟨j, b, c, hj, e1, e2⟩⟩
theorem calF_ex (S : Sta K F R σ H env) : Ex R.r (calF R σ H env i p0).r := fun a u e => by
  show (if ∃ j b c, j ≠ i ∧ env[j]? = some (SV.own b c) ∧ σ[j]? = some (some (V.ref a)) then H a else R.r a) = some u
  split
  · exact S.fr a u e
  · exact e
theorem calF_sub (S : Sta K F R σ H env) : Ex (calF R σ H env i p0).r H := fun a u e => by
  have e : (if ∃ j b c, j ≠ i ∧ env[j]? = some (SV.own b c) ∧ σ[j]? = some (some (V.ref a)) then H a else R.r a) = some u := e
  split at e
  · exact e
  · exact S.fr a u e
theorem calF_dis (S : Sta K F R σ H env) : ∀ b o, (calF R σ H env i p0).r b = some o → F b = none := fun a u e => by
  have e : (if ∃ j b c, j ≠ i ∧ env[j]? = some (SV.own b c) ∧ σ[j]? = some (some (V.ref a)) then H a else R.r a) = some u := e
  split at e
  · next h =>
    obtain ⟨j, b, c, _, h1, h2⟩ := h
    obtain ⟨q, o, e3, e4, _⟩ := S.own j b c h1
    rw [h2] at e3
    cases e3
    exact e4
  · exact S.dis a u e
theorem calF_free (S : Sta K F R σ H env) {b : Bool} {c : C} {p : Addr} (h : env[i]? = some (.own b c)) (e : σ[i]? = some (some (V.ref p))) : (calF R σ H env i p0).r p = none := by
  show (if ∃ j b c, j ≠ i ∧ env[j]? = some (SV.own b c) ∧ σ[j]? = some (some (V.ref p)) then H p else R.r p) = none
  rw [if_neg]
  · obtain ⟨q, o, e3, _, e4, _⟩ := S.own i b c h
    rw [e] at e3
    cases e3
    exact e4
  · intro ⟨j, b', c', hj, h1, h2⟩
    exact hj (S.inj j i _ _ _ _ p h1 h h2 e)
theorem calF_tab (S : Sta K F R σ H env) : ∀ P, Tabs.T P → (calF R σ H env i p0).r P = none := fun P h => by
  obtain ⟨⟨ps, h1, _⟩, _, h3⟩ := S.tab P h
  show (if _ then _ else _) = none
  rw [if_neg]
  · exact h3
  · intro ⟨j, b, c, _, e1, e2⟩
    obtain ⟨q, o, e3, _, _, e4, e5⟩ := S.own j b c e1
    rw [e2] at e3
    cases e3
    rw [h1] at e4
    exact e5.noT ps (Option.some.inj e4).symm
theorem dGet {xs : List D} {vs : List V} {k : Nat} {s : SV} (r : RelAll K F vs xs) (h : (xs.map SV.d)[k]? = some s) : ∃ x v, s = .d x ∧ (vs.map some)[k]? = some (some v) ∧ Rel K F v x := by
  rw [List.getElem?_map, Option.map_eq_some_iff] at h
  obtain ⟨x, h1, rfl⟩ := h
  obtain ⟨v, h2, rv⟩ := r.getD h1
  exact ⟨x, v, rfl, by rw [List.getElem?_map, h2]; rfl, rv⟩
/-- in: data only -/
theorem Sta.callD (S : Sta K F R σ H env) {xs : List D} {vs : List V} (r : RelAll K F vs xs) : Sta K F (calF R σ H env i p0) (vs.map some) H (xs.map .d) := by
  refine ⟨S.sub, calF_sub S, calF_dis S, by simp [r.len], fun k x e => ?_, fun k b c e => ?_, fun k c e => ?_, fun k l bk ck bl cl p h1 h2 _ _ => ?_, fun k x q => (by
    obtain ⟨y, v, h1, _⟩ := dGet r q
    cases h1), fun P h => let ⟨h1, h2, _⟩ := S.tab P h; ⟨h1, h2, calF_tab S P h⟩⟩
  · obtain ⟨y, v, h1, h2, h3⟩ := dGet r e
    cases h1
    exact ⟨v, h2, h3⟩
  · obtain ⟨y, v, h1, _⟩ := dGet r e
    cases h1
  · obtain ⟨y, v, h1, _⟩ := dGet r e
    cases h1
  · obtain ⟨y, v, h1, _⟩ := dGet r h1
    cases h1
/-- out: the caller's slots stand as they did -/
theorem Sta.retD {σc : L2.St} {envc : Sl} (S : Sta K F R σ H env) (e : Ex F F') (S' : Sta K F' (calF R σ H env env.length p0) σc H' envc) : Sta K F' R σ H' env := by
  refine ⟨S'.sub, (calF_ex S).trans S'.fr, fun b u q => S'.dis b u (calF_ex S b u q), S.len, fun i x q => ?_, fun j b c q => ?_, S.tag, S.inj, S.xnUp e, fun P h => let ⟨h1, h2, _⟩ := S'.tab P h; ⟨h1, h2, (S.tab P h).2.2⟩⟩
  · obtain ⟨v, e1, r⟩ := S.dat i x q
    exact ⟨v, e1, r.up e⟩
  · obtain ⟨p, o, e1, e2, e3, e4, e5⟩ := S.own j b c q
    have hj : j ≠ env.length := fun z => by subst z; simp at q
    have hr := calF_own (p0 := p0) S hj q e1
    rw [e4] at hr
    exact ⟨p, o, e1, S'.dis p o hr, e3, S'.fr p o hr, e5.up e⟩
theorem RvOk.ret {σc : L2.St} {envc : Sl} {a : RV} {v : V} (S : Sta K F R σ H env) (h : RvOk K F' (calF R σ H env i p0) σc H' envc v a) (hcv : ∀ i, a ≠ .cv i) (hi : ∀ (b : Bool) c, env[i]? = some (SV.own b c) → ∀ p, a ≠ .d .non → σ[i]? = some (some (V.ref p)) → v ≠ .ref p ∨ ∃ x, a = .d x) : RvOk K F' R σ H' env v a := by
  cases a with
  | d x => exact h
  | cv i => exact absurd rfl (hcv i)
  | own c =>
    obtain ⟨p, o, e1, e2, e3, e4, e5, e6⟩ := h
    obtain ⟨h1, h2⟩ := calF_none S e3
    refine ⟨p, o, e1, e2, h1, e4, e5, fun j b c' q z => ?_⟩
    by_cases hj : j = i
    · subst hj
      rcases hi b c' q p (by simp) z with h | ⟨x, h⟩
      · exact h e1
      · cases h
    · exact h2 j b c' hj q z
end

/-! ### a call of a def: data in -/
def retV : RV → Option RV
  | .d x => some (.d x)
  | .own c => some (.own c)
  | .cv _ => none
def outD (env : Sl) : FR → Option Re
  | .ok a _ => (retV a).map (Re.ok · env)
  | .ex e _ => some (.ex e env)
def callD (m : List SV → Option FR) (dfs : List D) (fa : SA) : SE := fun env => bindA (fa env) fun as env1 => (frzs as env1).bind fun p => (m ((p.1 ++ dfs).map .d)).bind (outD p.2)
section
variable {K : PySem.W.Frag} {W : WX} {F F' : Hp} {R R' : Fm} {σ : L2.St} {H H' : Hp} {env : Sl} {Q : VK}
theorem post_out {vs : List V} {xs : List D} {fr : FR} {r : Re} (S : Sta K F R σ H env) (rv : RelAll K F vs xs) (e : outD env fr = some r) (p : PostE K W F R σ r Q) : PostF K F (calF R σ H env env.length 0) vs fr Q (WE W σ) := by
  cases fr with
  | ex x outs =>
    cases e
    exact fun cls d F' H' e1 S1 hx => p cls d F' H' e1 (S.retD e1 S1) hx
  | ok a outs =>
    have e : (retV a).map (Re.ok · env) = some r := e
    rw [Option.map_eq_some_iff] at e
    obtain ⟨a', h, rfl⟩ := e
    have ha : a' = a ∧ ∀ i, a ≠ .cv i := by
      cases a with
      | d x => cases h; exact ⟨rfl, by simp⟩
      | own c => cases h; exact ⟨rfl, by simp⟩
      | cv i => cases h
    obtain ⟨rfl, hcv⟩ := ha
    exact fun v F' H' e1 S1 rv' => p v F' H' e1 (S.retD e1 S1) (RvOk.ret S rv' hcv fun b c q => by simp at q)
theorem dE_callD {np : Nat} {m : List SV → Option FR} {dfs : List D} {dvs : List V} {fa : SA} (hd : ∀ F : Hp, RelAll K F dvs dfs) (hn : ∀ as fr, m as = some fr → as.length = np) (h : dE K W (callD m dfs fa) σ H Q) : tCallSD (spD K np m) dvs (WE W) (dA K W fa) σ H Q := by
  obtain ⟨env, F, R, r, S, e, p⟩ := h
  rcases bindA_inv e with ⟨as, env1, h1, h2⟩ | ⟨x, env1, h1, rfl⟩
  · rw [Option.bind_eq_some_iff] at h2
    obtain ⟨⟨xs, env2⟩, h3, h4⟩ := h2
    rw [Option.bind_eq_some_iff] at h4
    obtain ⟨fr, h4, h5⟩ := h4
    refine ⟨env, F, R, _, S, h1, fun vs F1 H1 R1 e1 eR S1 hv => ?_⟩
    obtain ⟨F2, R2, e2, eR2, S2, rr⟩ := frzs_held eR S1 hv h3
    have S3 := S2.unhold eR2
    have rr2 : RelAll K F2 (vs ++ dvs) (xs ++ dfs) := rr.app (hd F2)
    exact ⟨F2, calF R σ H1 env2 env2.length 0, _, fr, hn _ _ h4, S3.callD rr2, h4, post_out S3 rr2 h5 (p.up (e1.trans e2))⟩
  · exact ⟨env, F, R, _, S, h1, p⟩
end
section
variable {X : Cx} {W : WX} {CX : CXT} {k : Nat} {f : Addr} {fd : FuncData} {ps : List Str} {np : Nat} {m : List SV → Option FR} {dfs : List D} {dvs : List V} {ds : List Value} {fa : SA} {x : Str} {p pos : Pos} {e : Expr} {es : List Expr}
theorem pd_call (F : FnOk X.prog X.w X.K X.mg X.base CX k f fd ps (spD X.K np m)) (hr : Room k X.A) (hm : X.mg x = some (.ref f)) (hk : PySem.W.keepIn X.K (.ref f) = true) (hb : Binds X.K fd ps ds) (hd : Vals dvs ds) (hx : ∀ σ, PassesAt CX X σ (WE W σ)) (hD : ∀ F : Hp, RelAll X.K F dvs dfs) (hn : ∀ as fr, m as = some fr → as.length = np)
    (ha : PA X (e :: es) (dA X.K W fa)) (hg : Gl X x := by rfl) (hdb : (x == ("__debug__" : Str)) = false := by decide) (he : starEach (e :: es) X.env = (false, eval e X.env) :: starEach es X.env := by rfl) (hpl : (backTo pos (starEach es X.env)).any (·.1) = false := by rfl) :
    PE X (.Call (.Name x p) (e :: es) [] pos) (dE X.K W (callD m dfs fa)) := (pe_callSD F hr hg hm hk hb hd hx ha hdb he hpl).wk fun _ _ _ q => dE_callD hD hn q
end
end
end Dw
namespace Dw
noncomputable section
open PySem PySem.Spec PyProof.Rows L2
variable [Glo] [Tabs]

/-! ### small built-ins -/
def rInt1 : List V → Hp → VK → Prop := fun xs H Q => (∃ i, xs = [.int i] ∧ Q (.int i) H) ∨ ∃ k, xs = [.bl k] ∧ Q (.int (if k then 1 else 0)) H
theorem cr_int {X : Cx} : CallR X (.type "int") rInt1 := call_int1
theorem snd_intC {K : PySem.W.Frag} : SndC K intC rInt1 := by
  intro W F R σ H env Q xs vs z S h e p
  match xs, h, e with
  | [.int i], h, e =>
    cases e
    obtain ⟨v, rfl, hv⟩ := vw1 h
    cases hv
    exact .inl ⟨i, rfl, post_d S p (.int _)⟩
  | [.bl b], h, e =>
    cases e
    obtain ⟨v, rfl, hv⟩ := vw1 h
    cases hv
    refine .inr ⟨b, rfl, post_d S p ?_⟩
    cases b <;> exact .int _
def rOrd : List V → Hp → VK → Prop := fun xs H Q => ∃ x, xs = [.str x] ∧ x.length = 1 ∧ Q (.int (x.cps.getD 0 0 : Nat)) H
theorem cr_ord {X : Cx} : CallR X (.builtin "ord") rOrd := call_ord
theorem snd_ord {K : PySem.W.Frag} : SndC K ordC rOrd := by
  intro W F R σ H env Q xs vs z S h e p
  match xs, h, e with
  | [.str [c]], h, e =>
    cases e
    obtain ⟨v, rfl, hv⟩ := vw1 h
    cases hv
    exact ⟨mk [c], rfl, rfl, post_d S p (.int _)⟩
def rAbs : List V → Hp → VK → Prop := fun xs H Q => ∃ i, xs = [.int i] ∧ Q (.int (if i < 0 then -i else i)) H
theorem cr_abs {X : Cx} : CallR X (.builtin "abs") rAbs := call_abs
theorem snd_abs {K : PySem.W.Frag} : SndC K absC rAbs := by
  intro W F R σ H env Q xs vs z S h e p
  match xs, h, e with
  | [.int i], h, e =>
    cases e
    obtain ⟨v, rfl, hv⟩ := vw1 h
    cases hv
    exact ⟨i, rfl, post_d S p (.int _)⟩
def rMin2 : List V → Hp → VK → Prop := fun xs H Q => ∃ i j, xs = [.int i, .int j] ∧ Q (.int (if j < i then j else i)) H
theorem cr_min {X : Cx} (hc : X.calm = true) : CallR X (.builtin "min") rMin2 := call_min2 hc
theorem snd_min {K : PySem.W.Frag} : SndC K minC rMin2 := by
  intro W F R σ H env Q xs vs z S h e p
  match xs, h, e with
  | [.int i, .int j], h, e =>
    cases e
    obtain ⟨v, w, rfl, hv, hw⟩ := vw2 h
    cases hv
    cases hw
    exact ⟨i, j, rfl, post_d S p (.int _)⟩
def rMax2 : List V → Hp → VK → Prop := fun xs H Q => ∃ i j, xs = [.int i, .int j] ∧ Q (.int (if j > i then j else i)) H
theorem cr_max {X : Cx} (hc : X.calm = true) : CallR X (.builtin "max") rMax2 := call_max2 hc
theorem snd_max {K : PySem.W.Frag} : SndC K maxC rMax2 := by
  intro W F R σ H env Q xs vs z S h e p
  match xs, h, e with
  | [.int i, .int j], h, e =>
    cases e
    obtain ⟨v, w, rfl, hv, hw⟩ := vw2 h
    cases hv
    cases hw
    exact ⟨i, j, rfl, post_d S p (.int _)⟩

/-! ### isinstance, one built-in class -/
def tyD : D → String
  | .non => "NoneType"
  | .bl _ => "bool"
  | .int _ => "int"
  | .str _ => "str"
  | .lst _ => "list"
  | .tup _ => "tuple"
  | .dct _ _ => "dict"
  | .ins _ _ _ => "object"
/-- what isinstance may look at here -/
def okI : D → Bool
  | .dct _ _ => false
  | .ins _ _ _ => false
  | _ => true
def isiD (n : String) (x : D) : Bool := match x with
  | .bl _ => n == "bool" || n == "int"
  | x => n == tyD x
theorem tupTy {K : PySem.W.Frag} {H : Hp} {a : Addr} {xs : List V} (h : SqT K H a xs) : TyX K H (.ref a) (.type "tuple") := by
  rcases h with h | h
  · rcases h with h | ⟨o, h⟩
    · exact .base (.tup h)
    · exact .fTuple h
  · obtain ⟨o, its, n, hk, hc, _⟩ := h
    exact .kTuple hk hc
theorem tyD_ok {K : PySem.W.Frag} {F H : Hp} {v : V} {x : D} (e : Ex F H) (h : Vw K F H v x) (o : okI x = true) : TyX K H v (.type (tyD x)) := by
  cases x with
  | dct _ _ => cases o
  | ins _ _ _ => cases o
  | non => cases h; exact .base .non
  | bl b => cases h; exact .base (.bl b)
  | int i => cases h; exact .base (.int i)
  | str s => cases h; exact .base (.str _)
  | lst xs =>
    obtain ⟨a, vs, rfl, s, r⟩ := h
    rcases s with s | ⟨o, _, _, hk, hc, _⟩
    · rcases s with s | ⟨o, s⟩
      · exact .base (.lst s)
      · exact .base (.frz s)
    · exact .kList hk hc
  | tup xs =>
    cases h with
    | tup s r => exact tupTy (ex_t e s)
theorem kit_all : ∀ a ∈ ["NoneType", "bool", "int", "str", "list", "tuple"], ∀ n ∈ ["bool", "int", "str", "list", "tuple"], kitB a n = some (n == a || (a == "bool" && n == "int")) := by decide +kernel
theorem kit_ok {n : String} (hn : n ∈ ["bool", "int", "str", "list", "tuple"]) (x : D) (o : okI x = true) : kitB (tyD x) n = some (isiD n x) := by
  have h := fun a ha => kit_all a ha n hn
  cases x with
  | dct _ _ => cases o
  | ins _ _ _ => cases o
  | bl b =>
    rw [show tyD (.bl b) = "bool" from rfl, h "bool" (by decide)]
    simp [isiD]
  | non => rw [show tyD .non = "NoneType" from rfl, h "NoneType" (by decide)]; simp [isiD, tyD]
  | int b => rw [show tyD (.int b) = "int" from rfl, h "int" (by decide)]; simp [isiD, tyD]
  | str b => rw [show tyD (.str b) = "str" from rfl, h "str" (by decide)]; simp [isiD, tyD]
  | lst b => rw [show tyD (.lst b) = "list" from rfl, h "list" (by decide)]; simp [isiD, tyD]
  | tup b => rw [show tyD (.tup b) = "tuple" from rfl, h "tuple" (by decide)]; simp [isiD, tyD]
def isiE (n : String) (fa : SE) : SE := fun env => bindE (fa env) fun a env1 => (pk a env1).bind fun x => if okI x then some (Re.ok (.d (.bl (isiD n x))) env1) else none
section
variable {X : Cx} {W : WX} {e : Expr} {fa : SE} {T : Str} {n : String} {p p2 pos : Pos}
theorem pd_isi (hn : n ∈ ["bool", "int", "str", "list", "tuple"]) (hm : X.mg "isinstance" = none) (hT : X.mg T = none) (hb : bootBuiltins T = some (.type n)) (ha : PE X e (dE X.K W fa)) (hgT : Gl X T := by rfl) (hTn : T ≠ "__name__" := by decide) (hTd : (T == ("__debug__" : Str)) = false := by decide) (hg : Gl X "isinstance" := by rfl)
    (he : starEach [e, .Name T p2] X.env = (false, eval e X.env) :: starEach [.Name T p2] X.env := by rfl) (he2 : starEach [.Name T p2] X.env = (false, eval (.Name T p2) X.env) :: starEach [] X.env := by rfl) (hpl : (backTo pos (starEach [.Name T p2] X.env)).any (·.1) = false := by rfl) :
    PE X (.Call (.Name "isinstance" p) [e, .Name T p2] [] pos) (dE X.K W (isiE n fa)) :=
  (pe_callB call_isi hg hm (show bootBuiltins "isinstance" = some (.builtin "isinstance") by rfl) (pa_cons ha (pa_cons (pe_bltn (v := .ty n) hgT hT hb rfl hTn hTd) pa_nil he2) he) (by decide) (by decide) he hpl).wk fun σ H Q q =>
    dE_one q fun a env F R v H1 S rv q => by
      obtain ⟨r, e1, p1⟩ := q
      rw [Option.bind_eq_some_iff] at e1
      obtain ⟨x, hx, e1⟩ := e1
      obtain ⟨o, rfl⟩ := some_if e1
      exact ⟨v, .ty n, .type (tyD x), .type n, isiD n x, rfl, .ty n, tyD_ok S.sub (pk_vw S rv hx) o, kit_ty (kit_ok hn x o), post_d S p1 (.bl _)⟩
end

/-! ### methods that change nothing -/
def SndM (K : PySem.W.Frag) (f : D → List D → Option RV) (r : V → List V → Hp → VK → Prop) : Prop := ∀ {W : WX} {F : Hp} {R : Fm} {σ : L2.St} {H : Hp} {env : Sl} {Q : VK} {x : D} {v : V} {xs : List D} {vs : List V} {z : RV},
  Sta K F R σ H env → Vw K F H v x → VwAll K F H vs xs → f x xs = some z → PostE K W F R σ (.ok z env) Q → r v vs H Q
def metE (T : String) (f : D → List D → Option RV) (fo : SE) (fa : SA) : SE := fun env => bindE (fo env) fun a env1 => (pk a env1).bind fun x0 => if tyD x0 = T then bindA (fa env1) fun as env2 => (pk a env2).bind fun x => (pks as env2).bind fun xs => (f x xs).map (Re.ok · env2) else none
theorem tyV_d {K : PySem.W.Frag} {F H : Hp} {v : V} {x : D} {T : String} (h : Vw K F H v x) (e : tyD x = T) (hT : T = "str" ∨ T = "list") : tyV K T v H := by
  cases x with
  | str s => cases h; exact e.symm
  | lst xs =>
    obtain ⟨a, vs, rfl, s, r⟩ := h
    exact .inl ⟨e.symm, vs, s⟩
  | dct _ _ => subst e; rcases hT with h | h <;> simp [tyD] at h
  | ins _ _ _ => subst e; rcases hT with h | h <;> simp [tyD] at h
  | _ => subst e; rcases hT with h | h <;> simp [tyD] at h
section
variable {K : PySem.W.Frag} {W : WX} {F F' : Hp} {R R' : Fm} {σ : L2.St} {H H' : Hp} {env : Sl} {Q : VK}
theorem PostA.un {QA : List V → Hp → Prop} (e : FEx R R') : ∀ {r : ReA}, PostA K W F R σ r QA → PostA K W F R' σ r QA
  | .ok _ _, h => fun vs F2 H2 R2 e2 eR s q => h vs F2 H2 R2 e2 (e.trans eR) s (q.low e)
  | .ex _ _, h => fun c d F2 H2 e2 s q => h c d F2 H2 e2 (s.unhold e) q
theorem dE_met {T : String} {f : D → List D → Option RV} {r : V → List V → Hp → VK → Prop} {fo : SE} {fa : SA} (hT : T = "str" ∨ T = "list") (hs : SndM K f r) (h : dE K W (metE T f fo fa) σ H Q) : tBM K T r (dE K W fo) (dA K W fa) σ H Q := by
  obtain ⟨env, F, R, S, q⟩ := of_dE h
  refine dE_of S (atE_bind q fun a env1 F1 v H1 e1 S1 rv q1 => ?_)
  obtain ⟨r', e, p⟩ := q1
  rw [Option.bind_eq_some_iff] at e
  obtain ⟨x0, h1, e⟩ := e
  obtain ⟨hty, e⟩ := (show tyD x0 = T ∧ _ = some r' by
    by_cases hc : tyD x0 = T
    · rw [if_pos hc] at e; exact ⟨hc, e⟩
    · rw [if_neg hc] at e; cases e)
  refine ⟨tyV_d (pk_vw S1 rv h1) hty hT, ?_⟩
  obtain ⟨R', eR, S1', hd⟩ := hold S1 rv
  rcases bindA_inv e with ⟨as, env2, h2, h3⟩ | ⟨x, env2, h2, rfl⟩
  · rw [Option.bind_eq_some_iff] at h3
    obtain ⟨x, h4, h3⟩ := h3
    rw [Option.bind_eq_some_iff] at h3
    obtain ⟨xs, h5, h3⟩ := h3
    rw [Option.map_eq_some_iff] at h3
    obtain ⟨z, h6, rfl⟩ := h3
    refine ⟨env1, F1, R', _, S1', h2, fun vs F2 H2 R2 e2 eR2 S2 hv => ?_⟩
    have S3 := S2.unhold eR2
    exact hs (S3.unhold eR) (pk_vw (S3.unhold eR) (unheld e2 eR S3 hd) h4) (pks_vw eR2 S2 hv h5) h6 (p.up e2)
  · exact ⟨env1, F1, R', _, S1', h2, fun cls d F2 H2 e2 S2 hx => p cls d F2 H2 e2 (S2.unhold eR) hx⟩
end
section
variable {X : Cx} {W : WX} {o e : Expr} {es : List Expr} {fo : SE} {fa : SA} {apos pos : Pos} {T id : String} {name : Str} {f : D → List D → Option RV} {r : V → List V → Hp → VK → Prop}
theorem pd_met (hT : T = "str" ∨ T = "list") (pa : PlainAttrs T) (slot : Slot T name id) (hty : typeOf (.builtin id) = pure (.type "method_descriptor")) (hm : MtR X id r) (hs : SndM X.K f r) (ho : PE X o (dE X.K W fo)) (ha : PA X (e :: es) (dA X.K W fa))
    (hbase : attributeBase o name X.env (eval o X.env) = eval o X.env := by rfl)
    (hfew : ((backTo pos (starEach (e :: es) X.env)).all (fun x => !x.1) && (backToKw pos (keywordEach [] X.env)).all (fun x => x.1.isSome)
      && decide ((e :: es).length + ([] : List Keyword).length + (if ([] : List Keyword).isEmpty then 0 else 1) < 30)) = true := by rfl)
    (hline : (apos.endLine == pos.line) = true := by rfl) (hs' : starEach (e :: es) X.env = (false, eval e X.env) :: starEach es X.env := by rfl) (hplain : (backTo pos (starEach es X.env)).any (·.1) = false := by rfl) :
    PE X (.Call (.Attribute o name apos) (e :: es) [] pos) (dE X.K W (metE T f fo fa)) := (pe_bm pa slot hty hm ho ha hbase hfew hline hs' hplain).wk fun _ _ _ q => dE_met hT hs q
end

/-! ### join -/
def txts : List D → Option (List (List Nat))
  | [] => some []
  | .str x :: r => (txts r).map (x :: ·)
  | _ => none
def joinD : D → List D → Option RV
  | .str a, [.lst xs] => (txts xs).bind fun ys => if (ys.map (·.length)).sum + ys.length * a.length ≤ 100000 then some (.d (.str (TL.joinL a ys))) else none
  | .str a, [.tup xs] => (txts xs).bind fun ys => if (ys.map (·.length)).sum + ys.length * a.length ≤ 100000 then some (.d (.str (TL.joinL a ys))) else none
  | _, _ => none
def rJoin (K : PySem.W.Frag) : V → List V → Hp → VK → Prop := fun x xs H Q => ∃ a p, ∃ ys : List Str, x = .str a ∧ xs = [.ref p] ∧ (SqL K H p (ys.map V.str) ∨ SqT K H p (ys.map V.str)) ∧
    (ys.map (·.length)).sum + ys.length * a.length ≤ 16777216 ∧ Q (.str (Txt.join a ys)) H
theorem txts_rel {K : PySem.W.Frag} {F : Hp} : ∀ {xs : List D} {vs : List V} {ys : List (List Nat)}, RelAll K F vs xs → txts xs = some ys → vs = (ys.map mk).map V.str
  | [], _, ys, r, e => by cases r; cases e; rfl
  | .str x :: xs, _, ys, r, e => by
    have e : (txts xs).map (x :: ·) = some ys := e
    rw [Option.map_eq_some_iff] at e
    obtain ⟨zs, h, rfl⟩ := e
    cases r with
    | cons a b =>
      cases a
      rw [txts_rel b h]
      rfl
  | .non :: _, _, _, _, e => by cases e
  | .bl _ :: _, _, _, _, e => by cases e
  | .int _ :: _, _, _, _, e => by cases e
  | .lst _ :: _, _, _, _, e => by cases e
  | .tup _ :: _, _, _, _, e => by cases e
theorem join_mk (a : List Nat) (ys : List (List Nat)) : Txt.join (mk a) (ys.map mk) = mk (TL.joinL a ys) := by
  rw [TL.join_eq]
  have h := TL.tl_join (mk a) (ys.map mk)
  rw [List.map_map, show (TL.tl ∘ mk) = id from funext fun x => rfl, List.map_id] at h
  rw [← mk_of (Str.join (mk a) (ys.map mk))]
  exact congrArg mk h
theorem lens_mk (ys : List (List Nat)) : (ys.map mk).map (·.length) = ys.map (·.length) := by
  rw [List.map_map]
  exact List.map_congr_left fun x _ => mk_len x
theorem snd_join {K : PySem.W.Frag} : SndM K joinD (rJoin K) := by
  intro W F R σ H env Q x v xs vs z S hx h e p
  have go : ∀ {a : List Nat} {ds : List D} {us : List V} {q : Addr}, v = .str (mk a) → vs = [.ref q] → (SqL K H q us ∨ SqT K H q us) → RelAll K F us ds → ((txts ds).bind fun ys => if (ys.map (·.length)).sum + ys.length * a.length ≤ 100000 then some (RV.d (.str (TL.joinL a ys))) else none) = some z → rJoin K v vs H Q := by
    intro a ds us q e1 e2 hq r e
    subst e1 e2
    rw [Option.bind_eq_some_iff] at e
    obtain ⟨ys, h1, e⟩ := e
    obtain ⟨c, rfl⟩ := some_if e
    have := txts_rel r h1
    subst this
    refine ⟨mk a, q, ys.map mk, rfl, rfl, hq, ?_, ?_⟩
    · rw [lens_mk, List.length_map, mk_len]
      omega
    · rw [join_mk]
      exact post_d S p (.str _)
  cases x with
  | str a =>
    cases hx
    match xs, h, e with
    | [.lst ds], h, e =>
      obtain ⟨w, rfl, q, us, rfl, s, r⟩ := vw1 h
      exact go rfl rfl (.inl s) r e
    | [.tup ds], h, e =>
      obtain ⟨w, rfl, hw⟩ := vw1 h
      cases hw with
      | tup s r => exact go rfl rfl (.inr (ex_t S.sub s)) r e
  | _ => cases e
section
variable {X : Cx} {W : WX} {o e : Expr} {fo : SE} {fa : SA} {apos pos : Pos}
theorem pd_join (ho : PE X o (dE X.K W fo)) (ha : PA X [e] (dA X.K W fa)) (hbase : attributeBase o "join" X.env (eval o X.env) = eval o X.env := by rfl)
    (hfew : ((backTo pos (starEach [e] X.env)).all (fun x => !x.1) && (backToKw pos (keywordEach [] X.env)).all (fun x => x.1.isSome)
      && decide ([e].length + ([] : List Keyword).length + (if ([] : List Keyword).isEmpty then 0 else 1) < 30)) = true := by rfl)
    (hline : (apos.endLine == pos.line) = true := by rfl) (hs' : starEach [e] X.env = (false, eval e X.env) :: starEach [] X.env := by rfl) (hplain : (backTo pos (starEach [] X.env)).any (·.1) = false := by rfl) :
    PE X (.Call (.Attribute o "join" apos) [e] [] pos) (dE X.K W (metE "str" joinD fo fa)) := pd_met (.inl rfl) F.plainAttrs_str F.slot_str_join F.type_str_join mt_join snd_join ho ha hbase hfew hline hs' hplain
end
end
end Dw
namespace Dw
noncomputable section
open PySem PySem.Spec PyProof.Rows L2
variable [Glo] [Tabs]

/-! ### methods that change a list of one's own -/
section
variable {K : PySem.W.Frag} {W : WX} {F F' : Hp} {R R' : Fm} {σ : L2.St} {H H' : Hp} {env : Sl} {Q : VK}
theorem Sta.mut (S : Sta K F R σ H env) {i : Nat} {b : Bool} {c c' : C} {p : Addr} {o' : HO} (hi : env[i]? = some (.own b c)) (e : σ[i]? = some (some (V.ref p))) (h : CellOk K F p o' c') : Sta K F R σ (upd H p o') (env.set i (.own b c')) := by
  obtain ⟨q, o, e1, hF, hR, hp, hcell⟩ := S.own i b c hi
  rw [e] at e1
  cases e1
  have hl : i < env.length := (List.getElem?_eq_some_iff.mp hi).1
  have other : ∀ {j : Nat} {b1 : Bool} {c1 : C}, (env.set i (.own b c'))[j]? = some (SV.own b1 c1) → (j = i ∧ b1 = b ∧ c1 = c') ∨ (j ≠ i ∧ env[j]? = some (SV.own b1 c1)) := fun {j b1 c1} h => by
    by_cases hj : j = i
    · subst hj
      rw [List.getElem?_set_self hl] at h
      cases h
      exact .inl ⟨rfl, rfl, rfl⟩
    · rw [List.getElem?_set_ne (Ne.symm hj)] at h
      exact .inr ⟨hj, h⟩
  have keep : ∀ {a : Addr} {u : HO}, a ≠ p → H a = some u → upd H p o' a = some u := fun ha q => by rw [upd_ne ha]; exact q
  refine ⟨fun a u q => keep (fun z => by rw [z, hF] at q; cases q) (S.sub a u q), fun a u q => keep (fun z => by rw [z, hR] at q; cases q) (S.fr a u q), S.dis, by rw [List.length_set]; exact S.len, fun j x q => ?_, fun j b1 c1 q => ?_, fun j c1 q => ?_, fun j k bj cj bk ck a h1 h2 h3 h4 => ?_, fun j x q => (S.xnNe (Ex.refl F) (fun y z => by cases z) j x q).2, fun P h => let ⟨⟨ps, h1, h2⟩, h3⟩ := S.tab P h; ⟨⟨ps, keep (fun z => by rw [z, hp] at h1; exact hcell.noT ps (Option.some.inj h1)) h1, h2⟩, h3⟩⟩
  · by_cases hj : j = i
    · subst hj
      rw [List.getElem?_set_self hl] at q
      cases q
    · rw [List.getElem?_set_ne (Ne.symm hj)] at q
      exact S.dat j x q
  · rcases other q with ⟨rfl, rfl, rfl⟩ | ⟨hj, q⟩
    · exact ⟨p, o', e, hF, hR, upd_same, h⟩
    · obtain ⟨a, o1, z1, z2, z3, z4, z5⟩ := S.own j b1 c1 q
      exact ⟨a, o1, z1, z2, z3, keep (fun z => hj (S.inj j i _ _ _ _ p q hi (by rw [← z]; exact z1) e)) z4, z5⟩
  · rcases other q with ⟨rfl, h1, h2⟩ | ⟨hj, q⟩
    · subst h1; exact S.tag j c hi
    · exact S.tag j c1 q
  · have get : ∀ {j : Nat} {b1 : Bool} {c1 : C}, (env.set i (.own b c'))[j]? = some (SV.own b1 c1) → ∃ b2 c2, env[j]? = some (SV.own b2 c2) := fun q => by
      rcases other q with ⟨rfl, _, _⟩ | ⟨_, q⟩
      · exact ⟨_, _, hi⟩
      · exact ⟨_, _, q⟩
    obtain ⟨_, _, g1⟩ := get h1
    obtain ⟨_, _, g2⟩ := get h2
    exact S.inj j k _ _ _ _ a g1 g2 h3 h4
def SndU (K : PySem.W.Frag) (f : List D → List D → Option (D × List D)) (r : V → List V → Hp → VK → Prop) : Prop := ∀ {F H : Hp} {Q : VK} {l : Addr} {ws vs : List V} {ys xs : List D} {z : D × List D},
  Ex F H → H l = some (.lst ws) → RelAll K F ws ys → RelAll K F vs xs → f ys xs = some z → (∀ v ws', Rel K F v z.1 → RelAll K F ws' z.2 → Q v (upd H l (.lst ws'))) → r (.ref l) vs H Q
def ownL : Option SV → Option (Bool × List D)
  | some (.own b (.lst ys)) => some (b, ys)
  | _ => none
def mutE (f : List D → List D → Option (D × List D)) (fo : SE) (fa : SA) : SE := fun env => bindE (fo env) fun a env1 => match a with
  | .cv i => (ownL env1[i]?).bind fun _ => bindA (fa env1) fun as env2 => (frzs as env2).bind fun p => (ownL p.2[i]?).bind fun o => (f o.2 p.1).map fun q => Re.ok (.d q.1) (p.2.set i (.own o.1 (.lst q.2)))
  | _ => none
theorem ownL_some {s : Option SV} {b : Bool} {ys : List D} (h : ownL s = some (b, ys)) : s = some (.own b (.lst ys)) := by
  cases s with
  | none => cases h
  | some s =>
    cases s with
    | own b c =>
      cases c with
      | lst _ => cases h; rfl
      | dct _ _ => cases h
      | ins _ _ _ => cases h
    | un => cases h
    | xn _ => cases h
    | d x => cases h
theorem dE_mut {f : List D → List D → Option (D × List D)} {r : V → List V → Hp → VK → Prop} {fo : SE} {fa : SA} (hs : SndU K f r) (h : dE K W (mutE f fo fa) σ H Q) : tBM K "list" r (dE K W fo) (dA K W fa) σ H Q := by
  obtain ⟨env, F, R, S, q⟩ := of_dE h
  refine dE_of S (atE_bind q fun a env1 F1 v H1 e1 S1 rv q1 => ?_)
  obtain ⟨r', e, p⟩ := q1
  cases a with
  | d x => cases e
  | own c => cases e
  | cv i =>
    have rv : σ[i]? = some (some v) := rv
    have e : ((ownL env1[i]?).bind fun _ => bindA (fa env1) fun as env2 => (frzs as env2).bind fun p => (ownL p.2[i]?).bind fun o => (f o.2 p.1).map fun q => Re.ok (.d q.1) (p.2.set i (.own o.1 (.lst q.2)))) = some r' := e
    rw [Option.bind_eq_some_iff] at e
    obtain ⟨⟨b0, y0⟩, h1, e⟩ := e
    obtain ⟨p0, o0, z1, _, _, z4, ws0, rfl, _⟩ := S1.own i _ _ (ownL_some h1)
    rw [rv] at z1
    cases z1
    refine ⟨.inl ⟨rfl, ws0, .inl (Rd.of z4)⟩, ?_⟩
    rcases bindA_inv e with ⟨as, env2, h2, h3⟩ | ⟨x, env2, h2, rfl⟩
    · rw [Option.bind_eq_some_iff] at h3
      obtain ⟨⟨xs, env3⟩, h4, h3⟩ := h3
      rw [Option.bind_eq_some_iff] at h3
      obtain ⟨⟨b, ys⟩, h5, h3⟩ := h3
      rw [Option.map_eq_some_iff] at h3
      obtain ⟨⟨d, zs⟩, h6, rfl⟩ := h3
      refine ⟨env1, F1, R, _, S1, h2, fun vs F2 H2 R2 e2 eR2 S2 hv => ?_⟩
      obtain ⟨F3, R3, e3, eR3, S3, rr⟩ := frzs_held eR2 S2 hv h4
      have S4 := S3.unhold eR3
      have h5 := ownL_some h5
      obtain ⟨p1, o1, z1, z2, z3, z4, ws, rfl, z5⟩ := S4.own i _ _ h5
      rw [rv] at z1
      cases z1
      exact hs S4.sub z4 z5 rr h6 fun v ws' r1 r2 => p v F3 _ (e2.trans e3) (S4.mut h5 rv ⟨ws', rfl, r2⟩) r1
    · exact ⟨env1, F1, R, _, S1, h2, p⟩
end
def appU : List D → List D → Option (D × List D)
  | ys, [x] => if ys.length < 100000 then some (.non, ys ++ [x]) else none
  | _, _ => none
theorem rel1 {K : PySem.W.Frag} {F : Hp} {vs : List V} {x : D} (h : RelAll K F vs [x]) : ∃ v, vs = [v] ∧ Rel K F v x := by
  cases h with
  | cons a b => cases b; exact ⟨_, rfl, a⟩
theorem snd_app {K : PySem.W.Frag} : SndU K appU rAppend := by
  intro F H Q l ws vs ys xs z eF hl rw' rv e q
  match xs, rv, e with
  | [x], rv, e =>
    obtain ⟨c, rfl⟩ := some_if e
    obtain ⟨v, rfl, r⟩ := rel1 rv
    refine ⟨l, ws, v, rfl, rfl, hl, ?_, q .non _ .non (rw'.app (.cons r .nil))⟩
    rw [rw'.len]
    exact Nat.lt_of_lt_of_le c (by decide)
/-- pop(k) -/
def popAtU : List D → List D → Option (D × List D)
  | ys, [.int i] => if okP (-(2 ^ 63) ≤ i ∧ i < 2 ^ 63) then (seqIndex? i ys.length).bind fun k => (ys[k]?).map fun d => (d, ys.eraseIdx k) else none
  | _, _ => none
theorem RelAll.erase {K : PySem.W.Frag} {F : Hp} : ∀ {vs : List V} {ds : List D} (k : Nat), RelAll K F vs ds → RelAll K F (vs.eraseIdx k) (ds.eraseIdx k)
  | _, [], _, h => by cases h; exact .nil
  | _, d :: ds, 0, h => by
    cases h with
    | cons a b => exact b
  | _, d :: ds, k + 1, h => by
    cases h with
    | cons a b => exact .cons a (RelAll.erase k b)
theorem snd_popAt {K : PySem.W.Frag} : SndU K popAtU rPopAt := by
  intro F H Q l ws vs ys xs z eF hl rw' rv e q
  match xs, rv, e with
  | [.int i], rv, e =>
    obtain ⟨v, rfl, r⟩ := rel1 rv
    cases r
    have e : (if okP (-(2 ^ 63) ≤ i ∧ i < 2 ^ 63) then (seqIndex? i ys.length).bind fun k => (ys[k]?).map fun d => (d, ys.eraseIdx k) else none) = some z := e
    by_cases hc : okP (-(2 ^ 63) ≤ i ∧ i < 2 ^ 63) = true
    · rw [if_pos hc, Option.bind_eq_some_iff] at e
      obtain ⟨k, h1, e⟩ := e
      rw [Option.map_eq_some_iff] at e
      obtain ⟨d, h2, rfl⟩ := e
      obtain ⟨w, h3, r⟩ := rw'.getD h2
      rw [okP_iff] at hc
      exact ⟨l, ws, i, k, w, rfl, rfl, hl, hc.1, hc.2, by rw [rw'.len]; exact h1, h3, q w _ r (rw'.erase k)⟩
    · rw [if_neg hc] at e
      cases e
section
variable {X : Cx} {W : WX} {o e : Expr} {es : List Expr} {fo : SE} {fa : SA} {apos pos : Pos} {id : String} {name : Str} {f : List D → List D → Option (D × List D)} {r : V → List V → Hp → VK → Prop}
theorem pd_mut (slot : Slot "list" name id) (hty : typeOf (.builtin id) = pure (.type "method_descriptor")) (hm : MtR X id r) (hs : SndU X.K f r) (ho : PE X o (dE X.K W fo)) (ha : PA X (e :: es) (dA X.K W fa))
    (hbase : attributeBase o name X.env (eval o X.env) = eval o X.env := by rfl)
    (hfew : ((backTo pos (starEach (e :: es) X.env)).all (fun x => !x.1) && (backToKw pos (keywordEach [] X.env)).all (fun x => x.1.isSome)
      && decide ((e :: es).length + ([] : List Keyword).length + (if ([] : List Keyword).isEmpty then 0 else 1) < 30)) = true := by rfl)
    (hline : (apos.endLine == pos.line) = true := by rfl) (hs' : starEach (e :: es) X.env = (false, eval e X.env) :: starEach es X.env := by rfl) (hplain : (backTo pos (starEach es X.env)).any (·.1) = false := by rfl) :
    PE X (.Call (.Attribute o name apos) (e :: es) [] pos) (dE X.K W (mutE f fo fa)) := (pe_bm F.plainAttrs_list slot hty hm ho ha hbase hfew hline hs' hplain).wk fun _ _ _ q => dE_mut hs q
theorem pd_append (ho : PE X o (dE X.K W fo)) (ha : PA X [e] (dA X.K W fa)) (hbase : attributeBase o "append" X.env (eval o X.env) = eval o X.env := by rfl)
    (hfew : ((backTo pos (starEach [e] X.env)).all (fun x => !x.1) && (backToKw pos (keywordEach [] X.env)).all (fun x => x.1.isSome)
      && decide ([e].length + ([] : List Keyword).length + (if ([] : List Keyword).isEmpty then 0 else 1) < 30)) = true := by rfl)
    (hline : (apos.endLine == pos.line) = true := by rfl) (hs' : starEach [e] X.env = (false, eval e X.env) :: starEach [] X.env := by rfl) (hplain : (backTo pos (starEach [] X.env)).any (·.1) = false := by rfl) :
    PE X (.Call (.Attribute o "append" apos) [e] [] pos) (dE X.K W (mutE appU fo fa)) := pd_mut F.slot_list_append F.type_list_append mt_append snd_app ho ha hbase hfew hline hs' hplain
theorem pd_popAt (ho : PE X o (dE X.K W fo)) (ha : PA X [e] (dA X.K W fa)) (hbase : attributeBase o "pop" X.env (eval o X.env) = eval o X.env := by rfl)
    (hfew : ((backTo pos (starEach [e] X.env)).all (fun x => !x.1) && (backToKw pos (keywordEach [] X.env)).all (fun x => x.1.isSome)
      && decide ([e].length + ([] : List Keyword).length + (if ([] : List Keyword).isEmpty then 0 else 1) < 30)) = true := by rfl)
    (hline : (apos.endLine == pos.line) = true := by rfl) (hs' : starEach [e] X.env = (false, eval e X.env) :: starEach [] X.env := by rfl) (hplain : (backTo pos (starEach [] X.env)).any (·.1) = false := by rfl) :
    PE X (.Call (.Attribute o "pop" apos) [e] [] pos) (dE X.K W (mutE popAtU fo fa)) := pd_mut F.slot_list_pop F.type_list_pop mt_popAt snd_popAt ho ha hbase hfew hline hs' hplain
end
end
end Dw
namespace Dw
noncomputable section
open PySem PySem.Spec PyProof.Rows L2
variable [Glo] [Tabs]

/-! ### < of tuples and lists -/
def rLtD (K : PySem.W.Frag) : R2 := fun x y H Q => ∃ d e, Dp K H x d ∧ Dp K H y e ∧ PySem.W.alike d e = true ∧ d ≠ .none ∧ d.depth ≤ 64 ∧ Q (.bl (PySem.W.dataLt d e)) H
theorem op_ltD {X : Cx} (hu : X.A.units + 64 < cLine) : OpR X (compareOp .Lt) (rLtD X.K) := by
  intro pins s σ H x y v u Q I rx ry h
  obtain ⟨d, e, hd, he, ha, hn, hz, q⟩ := h
  obtain ⟨as, r1⟩ := Dp.reads I d x v hd rx
  obtain ⟨bs, r2⟩ := Dp.reads I e y u he ry
  exact PySem.W.rcLt_alike d e X.A s v u as bs r1 r2 ha hn (by omega) X.prog X.w _ _ ⟨.bl _, H, I, rfl, q⟩
mutual
def ltB : D → D → Bool
  | .bl a, .bl b => decide (b2i a < b2i b)
  | .int a, .int b => decide (a < b)
  | .str a, .str b => decide (a < b)
  | .lst a, .lst b => ltBs a b
  | .tup a, .tup b => ltBs a b
  | _, _ => false
def ltBs : List D → List D → Bool
  | x :: xs, y :: ys => if eqB x y then ltBs xs ys else ltB x y
  | [], _ :: _ => true
  | _, [] => false
end
mutual
def alk : D → D → Bool
  | .non, .non => true
  | .bl _, .bl _ => true
  | .int _, .int _ => true
  | .str _, .str _ => true
  | .lst a, .lst b => alks a b
  | .tup a, .tup b => alks a b
  | _, _ => false
def alks : List D → List D → Bool
  | x :: xs, y :: ys => alk x y && alks xs ys
  | _, _ => true
end
mutual
theorem alk_py : ∀ x y : D, PySem.W.alike (py x) (py y) = alk x y
  | .non, y => by cases y <;> simp [py, PySem.W.alike, alk]
  | .bl _, y => by cases y <;> simp [py, PySem.W.alike, alk]
  | .int _, y => by cases y <;> simp [py, PySem.W.alike, alk]
  | .str _, y => by cases y <;> simp [py, PySem.W.alike, alk]
  | .lst xs, y => by
    cases y with
    | lst ys => simp [py, PySem.W.alike, alk, alks_py xs ys]
    | _ => simp [py, PySem.W.alike, alk]
  | .tup xs, y => by
    cases y with
    | tup ys => simp [py, PySem.W.alike, alk, alks_py xs ys]
    | _ => simp [py, PySem.W.alike, alk]
  | .dct _ _, y => by cases y <;> simp [py, PySem.W.alike, alk]
  | .ins _ _ _, y => by cases y <;> simp [py, PySem.W.alike, alk]
theorem alks_py : ∀ xs ys : List D, PySem.W.alikeAll (pys xs) (pys ys) = alks xs ys
  | [], ys => by cases ys <;> simp [pys, PySem.W.alikeAll, alks]
  | _ :: _, [] => by simp [pys, PySem.W.alikeAll, alks]
  | x :: xs, y :: ys => by simp [pys, PySem.W.alikeAll, alks, alk_py x y, alks_py xs ys]
end
mutual
theorem ltB_py : ∀ x y : D, alk x y = true → x ≠ .non → PySem.W.dataLt (py x) (py y) = ltB x y
  | .non, y, _, h => absurd rfl h
  | .bl a, y, h, _ => by
    cases y <;> first | (simp [alk] at h; done) | skip
    exact PySem.W.dataLt_bool _ _
  | .int a, y, h, _ => by
    cases y <;> first | (simp [alk] at h; done) | skip
    exact PySem.W.dataLt_int _ _
  | .str a, y, h, _ => by
    cases y <;> first | (simp [alk] at h; done) | skip
    exact PySem.W.dataLt_str _ _
  | .lst xs, y, h, _ => by
    cases y <;> first | (simp [alk] at h; done) | skip
    rename_i ys
    rw [alk] at h
    rw [py, py, PySem.W.dataLt_list, ltB, ltBs_py xs ys h]
  | .tup xs, y, h, _ => by
    cases y <;> first | (simp [alk] at h; done) | skip
    rename_i ys
    rw [alk] at h
    rw [py, py, PySem.W.dataLt_tuple, ltB, ltBs_py xs ys h]
theorem ltBs_py : ∀ xs ys : List D, alks xs ys = true → PyProof.Rows.lexLt PyProof.Rows.itemOrd (PySem.W.keyToksAll (pys xs)) (PySem.W.keyToksAll (pys ys)) = ltBs xs ys
  | [], [], _ => by simp [pys, PySem.W.keyToksAll, ltBs, PyProof.Rows.lex_irrefl]
  | [], y :: ys, _ => by
    rw [pys, pys, PySem.W.toks_all_cons]
    simp only [PySem.W.keyToksAll]
    rw [PyProof.Rows.lex_diff (O := PyProof.Rows.itemOrd) (by simp)]
    simp [PyProof.Rows.itemLt, ltBs]
  | x :: xs, [], _ => by
    rw [pys, pys, PySem.W.toks_all_cons]
    simp only [PySem.W.keyToksAll]
    rw [PyProof.Rows.lex_diff (O := PyProof.Rows.itemOrd) (by simp)]
    simp [PyProof.Rows.itemLt, ltBs]
  | x :: xs, y :: ys, h => by
    rw [alks, Bool.and_eq_true] at h
    rw [pys, pys, ltBs]
    have ha : PySem.W.alike (py x) (py y) = true := by rw [alk_py]; exact h.1
    cases e : eqB x y with
    | true => rw [if_pos rfl, PySem.W.dataLt_all_yes ha (by rw [eqv_py]; exact e), ltBs_py xs ys h.2]
    | false =>
      rw [if_neg Bool.false_ne_true, PySem.W.dataLt_all_no ha (by rw [eqv_py]; exact e)]
      exact ltB_py x y h.1 fun z => by
        subst z
        cases y <;> first | (simp [alk] at h; done) | skip
        simp [eqB] at e
end
def seqD : D → Bool
  | .lst _ => true
  | .tup _ => true
  | _ => false
def ltG (x y : D) : Option RV := match x, y with
  | .int i, .int j => some (.d (.bl (decide (i < j))))
  | .str x, .str y => some (.d (.bl (decide (x < y))))
  | x, y => if ((seqD x && alk x y) && (dpl x && dpl y)) && decide ((py x).depth ≤ 64) then some (.d (.bl (ltB x y))) else none
def rLtG (K : PySem.W.Frag) : R2 := rOr rLtAny (rLtD K)
theorem snd_ltG {K : PySem.W.Frag} : Snd2 K ltG (rLtG K) := by
  intro W F R σ H env Q x y v w z S hx hy e p
  have go : (if ((seqD x && alk x y) && (dpl x && dpl y)) && decide ((py x).depth ≤ 64) then some (RV.d (.bl (ltB x y))) else none) = some z → rLtG K v w H Q := fun e => by
    obtain ⟨c, rfl⟩ := some_if e
    rw [Bool.and_eq_true, Bool.and_eq_true, Bool.and_eq_true, Bool.and_eq_true, decide_eq_true_eq] at c
    have hn : x ≠ .non := fun z => by subst z; simp [seqD] at c
    refine .inr ⟨py x, py y, (hx.rel S.sub).dp _ c.1.2.1, (hy.rel S.sub).dp _ c.1.2.2, by rw [alk_py]; exact c.1.1.2, fun z => ?_, c.2, ?_⟩
    · cases x <;> first | exact hn rfl | (simp [py] at z)
    · rw [ltB_py x y c.1.1.2 hn]
      exact post_d S p (.bl _)
  cases x with
  | int i =>
    cases y with
    | int j => exact .inl (snd_lt S hx hy e p)
    | _ => exact go e
  | str i =>
    cases y with
    | str j => exact .inl (snd_lt S hx hy e p)
    | _ => exact go e
  | _ => exact go e
theorem bl_ltG {x y : D} {z : RV} (h : ltG x y = some z) : ∃ b, z = .d (.bl b) := by
  have go : (if ((seqD x && alk x y) && (dpl x && dpl y)) && decide ((py x).depth ≤ 64) then some (RV.d (.bl (ltB x y))) else none) = some z → ∃ b, z = .d (.bl b) := fun e => by
    obtain ⟨c, rfl⟩ := some_if e
    exact ⟨_, rfl⟩
  cases x with
  | int i =>
    cases y with
    | int j => cases h; exact ⟨_, rfl⟩
    | _ => exact go h
  | str i =>
    cases y with
    | str j => cases h; exact ⟨_, rfl⟩
    | _ => exact go h
  | _ => exact go h
section
variable {X : Cx} {W : WX} {a b : Expr} {fa fb : SE} {pos : Pos}
theorem pd_ltg (hu : X.A.units + 64 < cLine) (ha : PE X a (dE X.K W fa)) (hb : PE X b (dE X.K W fb)) : PE X (.Compare a [.Lt] [b] pos) (dE X.K W (two (op2 ltG) fa fb)) := pd_cmp (OpR.or (OpR.or op_lt op_lt_str) (op_ltD hu)) snd_ltG (nomark _) ha hb
theorem pt_ltg (hu : X.A.units + 64 < cLine) (ha : PE X a (dE X.K W fa)) (hb : PE X b (dE X.K W fb)) : PT X (.Compare a [.Lt] [b] pos) (dT X.K W (two (op2 ltG) fa fb)) := pt_dcmp (OpR.or (OpR.or op_lt op_lt_str) (op_ltD hu)) snd_ltG (fun _ _ _ => bl_ltG) (nomark _) ha hb
end

/-! ### unary minus -/
def negD : D → Option RV
  | .int i => some (.d (.int (-i)))
  | _ => none
def oneE (f : D → Option RV) (fa : SE) : SE := fun env => bindE (fa env) fun a env1 => (pk a env1).bind fun x => (f x).map (Re.ok · env1)

/-! ### what a def means -/
def noX : Option FR → Option FR
  | some (.ok a o) => some (.ok a o)
  | _ => none
def defM (np n : Nat) (body : SS) (args : List SV) : Option FR := if args.length = np then noX (runF n body args) else none
theorem defM_len {np n : Nat} {body : SS} : ∀ as fr, defM np n body as = some fr → as.length = np := fun as fr h => by
  unfold defM at h
  by_cases c : as.length = np
  · exact c
  · rw [if_neg c] at h; cases h
section
variable {P : Program} {w : World} {K : PySem.W.Frag} {mg : Str → Option Value} {base : Heap}
theorem fnd {x qual : Str} {st : Stmt} {f : Addr} {fd : FuncData} {N ps : List Str} {k n : Nat} {body : SS} (F : Fun K x qual st f fd) (S : FnScope N ps (defScope st)) (hn : N.length = ps.length + n)
    (hb : ∀ (cdv : Value) (A : Around) (outer : List Env) (s : Shared) (H : Hp) (E : XK), Room k (A.deeper (envOfC qual (defScope st) s.heap.objs.size f cdv)) → PSs (cxOf CX0 P w K mg base N qual (defScope st) f cdv A outer s H E).nox (defBody st) (dS K W0 body)) :
    FnOk P w K mg base CX0 (k + 1) f fd ps (spD K ps.length (defM ps.length n body)) := (fnd_ok (n := n) F S hn fun cdv _ => hb cdv).imp fun vs H Q E h => by
  obtain ⟨F, R, args, r, h1, h2, h3, h4⟩ := h
  refine ⟨F, R, args, r, h1, h2, ?_, h4⟩
  unfold defM at h3
  rw [if_pos h1] at h3
  exact h3
/-- .. whose code is known -/
theorem fndC {c : Addr} {x qual : Str} {st : Stmt} {f : Addr} {fd : FuncData} {N ps : List Str} {k n : Nat} {body : SS} (F : Fun K x qual st f fd) (S : FnScope N ps (defScope st)) (hn : N.length = ps.length + n) (hc : fd.code = .ref c)
    (hb : ∀ (A : Around) (outer : List Env) (s : Shared) (H : Hp) (E : XK), Room k (A.deeper (envOfC qual (defScope st) s.heap.objs.size f (.ref c))) → PSs (cxOf CX0 P w K mg base N qual (defScope st) f (.ref c) A outer s H E).nox (defBody st) (dS K W0 body)) :
    FnOk P w K mg base CX0 (k + 1) f fd ps (spD K ps.length (defM ps.length n body)) := (fnd_ok (n := n) F S hn fun cdv h => by rw [hc] at h; subst h; exact hb).imp fun vs H Q E h => by
  obtain ⟨F, R, args, r, h1, h2, h3, h4⟩ := h
  refine ⟨F, R, args, r, h1, h2, ?_, h4⟩
  unfold defM at h3
  rw [if_pos h1] at h3
  exact h3
end
end
end Dw
namespace Dw
noncomputable section
open PySem PySem.Spec PyProof.Rows L2
variable [Glo] [Tabs]

section
variable {X : Cx} {W : WX} {a : Expr} {fa : SE} {pos : Pos}
theorem snd_neg {K : PySem.W.Frag} {F : Hp} {R : Fm} {σ : L2.St} {H : Hp} {env : Sl} {Q : VK} {x : D} {v : V} {z : RV} (S : Sta K F R σ H env) (hx : Vw K F H v x) (e : negD x = some z) (p : PostE K W F R σ (.ok z env) Q) : rU (fun i => .int (-i)) v H Q := by
  cases x with
  | int i =>
    cases hx
    cases e
    exact ⟨i, rfl, post_d S p (.int _)⟩
  | _ => cases e
theorem pd_neg (ha : PE X a (dE X.K W fa)) : PE X (.UnaryOp .USub a pos) (dE X.K W (oneE negD fa)) := (pe_un un_neg ha).wk fun σ H Q q =>
  dE_one q fun a env F R v H1 S rv q => by
    obtain ⟨r, e1, p1⟩ := q
    rw [Option.bind_eq_some_iff] at e1
    obtain ⟨x, hx, e1⟩ := e1
    rw [Option.map_eq_some_iff] at e1
    obtain ⟨z, hz, rfl⟩ := e1
    exact snd_neg S (pk_vw S rv hx) hz p1
end

/-! ### a comprehension's block -/
def blkB (N : List Str) (sc scope : Scope) (own : List (Str × Nat)) : Bool :=
  decide (scope.kind = .function) && scope.names.all (fun y => decide (scope.names.lookup y.1 = some y.2)) && own.all (fun p => decide (N[p.2]? = some p.1)) &&
  scope.names.all (fun y => !decide (y.2 = .free) || decide (sc.names.lookup y.1 = some .cell) || decide (sc.names.lookup y.1 = some .free)) &&
  scope.names.all (fun y => !(decide (y.2 = .local) || decide (y.2 = .cell)) || decide (y.1 ∈ own.map (·.1)) || decide (y.1 ∉ N))
theorem blk_of {N : List Str} {sc scope : Scope} {own : List (Str × Nat)} (h : blkB N sc scope own = true) : BlkOk N sc scope own := by
  unfold blkB at h
  simp only [Bool.and_eq_true, decide_eq_true_eq, List.all_eq_true, Bool.or_eq_true, Bool.not_eq_true', decide_eq_false_iff_not, Bool.or_eq_false_iff] at h
  obtain ⟨⟨⟨⟨h1, h2⟩, h3⟩, h4⟩, h5⟩ := h
  refine ⟨h1, h2, h3, fun y hy hf => ?_, fun y hy hf => ?_⟩
  · rcases h4 y hy with (h | h) | h
    · exact absurd hf h
    · exact .inl h
    · exact .inr h
  · rcases h5 y hy with (h | h) | h
    · rcases hf with hf | hf
      · exact absurd hf h.1
      · exact absurd hf h.2
    · exact .inl h
    · exact .inr h

/-! ### a def, bundled -/
structure Def (P : Program) (w : World) (K : PySem.W.Frag) (mg : Str → Option Value) (base : Heap) (k : Nat) (x : Str) (np : Nat) (m : List SV → Option FR) (dfs : List D) : Prop where
  ex : ∃ (f : Addr) (fd : FuncData) (ps : List Str) (ds : List Value) (dvs : List V), FnOk P w K mg base CX0 k f fd ps (spD K np m) ∧ mg x = some (.ref f) ∧ PySem.W.keepIn K (.ref f) = true ∧ Binds K fd ps ds ∧ Vals dvs ds ∧ (∀ F : Hp, RelAll K F dvs dfs) ∧ ∀ as fr, m as = some fr → as.length = np
theorem Def.mk0 {P : Program} {w : World} {K : PySem.W.Frag} {mg : Str → Option Value} {base : Heap} {k : Nat} {x : Str} {np n : Nat} {body : SS} {f : Addr} {fd : FuncData} {ps : List Str} (F : FnOk P w K mg base CX0 k f fd ps (spD K np (defM np n body))) (hm : mg x = some (.ref f)) (hk : PySem.W.keepIn K (.ref f) = true) (hb : Binds K fd ps []) : Def P w K mg base k x np (defM np n body) [] :=
  ⟨f, fd, ps, [], [], F, hm, hk, hb, .nil, fun _ => .nil, defM_len⟩
theorem r65 {k : Nat} {A : Around} (hr : Room k A) : A.units + 65 < cLine := by have := hr.un; omega
theorem pd_callN {X : Cx} {W : WX} {k j : Nat} {x : Str} {np : Nat} {m : List SV → Option FR} {dfs : List D} {fa : SA} {p pos : Pos} {e : Expr} {es : List Expr} (C : Def X.prog X.w X.K X.mg X.base k x np m dfs) (hr : Room j X.A) (hj : k ≤ j) (ha : PA X (e :: es) (dA X.K W fa)) (hg : Gl X x := by rfl)
    (hdb : (x == ("__debug__" : Str)) = false := by decide) (he : starEach (e :: es) X.env = (false, eval e X.env) :: starEach es X.env := by rfl) (hpl : (backTo pos (starEach es X.env)).any (·.1) = false := by rfl) :
    PE X (.Call (.Name x p) (e :: es) [] pos) (dE X.K W (callD m dfs fa)) := by
  obtain ⟨f, fd, ps, ds, dvs, h1, h2, h3, h4, h5, h6, h7⟩ := C.ex
  exact pd_call h1 (hr.mono hj) h2 h3 h4 h5 (fun σ pins H s e s' I c => c.elim) h6 h7 ha hg hdb he hpl

/-! ### the law -/
def Fm0 : Fm := ⟨fun _ => none, fun _ => 0, fun _ => False⟩
theorem fm0 {b : Addr} {u : HO} {p : Prop} (q : Fm0.r b = some u) : p := by
  have q : (none : Option HO) = some u := q
  cases q
theorem law_sp {K : PySem.W.Frag} {H : Hp} {a : Addr} {ns : List Int} {m : List SV → Option FR} {o : List SV} {E : XK} (hT : ∀ P, Tabs.T P → GxR.TabG H P) (hS : SqL K H a (ns.map V.int)) (h : m [.d (.lst (ns.map .int))] = some (.ok (.d (.bl true)) o)) : spD K 1 m [.ref a] H (fun v _ => v = .bl true) E := by
  classical
  have hF : ∀ b, Tabs.T b → (fun b => if Tabs.T b then none else H b : Hp) b = none := fun b q => if_pos q
  have hG : ∀ b u, (fun b => if Tabs.T b then none else H b : Hp) b = some u → H b = some u := fun b u q => by
    by_cases z : Tabs.T b
    · rw [hF b z] at q; cases q
    · have q : (if Tabs.T b then none else H b) = some u := q
      rwa [if_neg z] at q
  have hS2 : SqL K (fun b => if Tabs.T b then none else H b : Hp) a (ns.map V.int) := by
    have nt : (∀ ps, H a ≠ some (.tbl ps)) → (fun b => if Tabs.T b then none else H b : Hp) a = H a := fun q => if_neg fun z => by
      obtain ⟨ps, e, _⟩ := hT a z
      exact q ps e
    rcases hS with hS | hS
    · refine .inl ?_
      rcases hS with e | ⟨ob, e⟩
      · exact .inl ((nt fun ps z => by rw [e] at z; cases z).trans e)
      · exact .inr ⟨ob, (nt fun ps z => by rw [e] at z; cases z).trans e⟩
    · exact .inr hS
  refine ⟨_, Fm0, [.d (.lst (ns.map .int))], _, rfl, ⟨hG, fun b u q => fm0 q, fun b u q => fm0 q, rfl, fun i x e => ?_, fun i b c e => ?_, fun i c e => ?_, fun i j bi ci bj cj p h1 _ _ _ => ?_, fun i x e => (by rcases i with _ | i <;> simp at e), fun P h => ⟨hT P h, hF P h, rfl⟩⟩, h, fun v F' H' _ _ rv => ?_⟩
  · match i, e with
    | 0, e =>
      cases e
      exact ⟨_, rfl, .lst hS2 (RelAll.ints ns)⟩
  · match i, e with
    | 0, e => cases e
  · match i, e with
    | 0, e => cases e
  · match i, h1 with
    | 0, e => cases e
  · have rv : Rel K F' v (.bl true) := rv
    cases rv
    rfl
end
end Dw
namespace Dw
noncomputable section
open PySem PySem.Spec PyProof.Rows L2
variable [Glo] [Tabs]

/-! ### reckoning with meanings -/
section
variable {env env1 env2 env3 : Sl} {a b : RV} {x y : D} {z : RV} {i : Nat} {f : D → D → Option RV} {fa fb fc fo : SE} {as : List RV} {fr fs : SA} {xs ys : List D} {r : Re}
@[simp] theorem ev_const : constE x env = some (.ok (.d x) env) := rfl
theorem ev_var (h : env[i]? = some (.d x)) : varE i env = some (.ok (.d x) env) := by unfold varE; rw [h]; rfl
theorem ev_varO {c : C} {t : Bool} (h : env[i]? = some (.own t c)) : varE i env = some (.ok (.cv i) env) := by unfold varE; rw [h]; rfl
theorem ev_two (h1 : fa env = some (.ok a env1)) (h2 : fb env1 = some (.ok b env2)) (h3 : pk a env2 = some x) (h4 : pk b env2 = some y) (h5 : f x y = some z) : two (op2 f) fa fb env = some (.ok z env2) := by
  unfold two; rw [h1, bindE_ok, h2, bindE_ok]; unfold op2; rw [h3, h4]; show (f x y).map _ = _; rw [h5]; rfl
theorem ev_one {g : D → Option RV} (h1 : fa env = some (.ok a env1)) (h3 : pk a env1 = some x) (h5 : g x = some z) : oneE g fa env = some (.ok z env1) := by
  unfold oneE; rw [h1, bindE_ok, h3, Option.bind_some, h5]; rfl
theorem pk_d : pk (.d x) env = some x := rfl
theorem pk_own : pk (.own (.lst xs)) env = some (.lst xs) := rfl
theorem pk_cv {t : Bool} (h : env[i]? = some (.own t (.lst xs))) : pk (.cv i) env = some (.lst xs) := by unfold pk; dsimp only; rw [h]; rfl
theorem ev_nil : nilA env = some (.ok [] env) := rfl
theorem ev_cons (h1 : fa env = some (.ok a env1)) (h2 : fs env1 = some (.ok as env2)) : consA fa fs env = some (.ok (a :: as) env2) := by
  unfold consA; rw [h1, bindEA_ok, h2]; rfl
theorem pks_nil : pks [] env = some [] := rfl
theorem pks_cons (h1 : pk a env = some x) (h2 : pks as env = some xs) : pks (a :: as) env = some (x :: xs) := by
  unfold pks; rw [h1, Option.bind_some, h2]; rfl
theorem ev_callE {g : List D → Option RV} (h1 : fs env = some (.ok as env1)) (h2 : pks as env1 = some xs) (h3 : g xs = some z) : callE g fs env = some (.ok z env1) := by
  unfold callE; rw [h1, bindA_ok, h2, Option.bind_some, h3]; rfl
theorem ev_isi {n : String} (h1 : fa env = some (.ok a env1)) (h2 : pk a env1 = some x) (o : okI x = true := by rfl) : isiE n fa env = some (.ok (.d (.bl (isiD n x))) env1) := by
  unfold isiE; rw [h1, bindE_ok, h2, Option.bind_some]; exact if_pos o
theorem frz_d : frz (.d x) env = some (x, env) := rfl
theorem frz_own : frz (.own (.lst xs)) env = some (.lst xs, env) := rfl
theorem frz_cv (h : env[i]? = some (.own false (.lst xs))) (h2 : env.set i (.d (.lst xs)) = env1) : frz (.cv i) env = some (.lst xs, env1) := by subst h2; unfold frz; dsimp only; rw [h]; rfl
theorem frzs_nil : frzs [] env = some ([], env) := rfl
theorem frzs_cons (h1 : frz a env = some (x, env1)) (h2 : frzs as env1 = some (xs, env2)) : frzs (a :: as) env = some (x :: xs, env2) := by
  unfold frzs; rw [h1, Option.bind_some, h2]; rfl
theorem ev_tup (h1 : fs env = some (.ok as env1)) (h2 : frzs as env1 = some (xs, env2)) (h3 : xs.length ≤ 100000) : tupE fs env = some (.ok (.d (.tup xs)) env2) := by
  unfold tupE; rw [h1, bindA_ok, h2, Option.bind_some]; exact if_pos h3
theorem ev_lst (h1 : fs env = some (.ok as env1)) (h2 : frzs as env1 = some (xs, env2)) (h3 : xs.length ≤ 100000) : lstE fs env = some (.ok (.own (.lst xs)) env2) := by
  unfold lstE; rw [h1, bindA_ok, h2, Option.bind_some]; exact if_pos h3
/-- a call of a def -/
theorem ev_callD {m : List SV → Option FR} {ds : List D} {o vs : List SV} {a' : RV} (h1 : fs env = some (.ok as env1)) (h2 : frzs as env1 = some (xs, env2)) (he : (xs ++ ds).map SV.d = vs) (h3 : m vs = some (.ok a' o)) (h4 : retV a' = some b) : callD m ds fs env = some (.ok b env2) := by
  subst he
  unfold callD; rw [h1, bindA_ok, h2, Option.bind_some, h3]; show (retV a').map _ = _; rw [h4]; rfl
theorem ret_d : retV (.d x) = some (.d x) := rfl
theorem ret_own {c : C} : retV (.own c) = some (.own c) := rfl
theorem mapd_nn : (([] : List D) ++ []).map SV.d = [] := rfl
theorem mapd_c {ds : List D} {vs : List SV} (h : (xs ++ ds).map SV.d = vs) : ((x :: xs) ++ ds).map SV.d = .d x :: vs := by subst h; rfl
theorem mapd_d {ds : List D} {vs : List SV} (h : (([] : List D) ++ ds).map SV.d = vs) : (([] : List D) ++ (x :: ds)).map SV.d = .d x :: vs := by subst h; rfl
theorem tru_bl {t : Bool} : tru (.d (.bl t)) env = some t := rfl
theorem tru_of_pk {t : Bool} (h : pk a env = some x) (h2 : truD x = some t) : tru a env = some t := by unfold tru; rw [h]; exact h2
theorem ev_not {t : Bool} (h1 : fa env = some (.ok a env1)) (h2 : tru a env1 = some t) : notE fa env = some (.ok (.d (.bl (!t))) env1) := by
  unfold notE; rw [h1, bindE_ok, h2]; rfl
theorem ev_andT (h1 : fa env = some (.ok a env1)) (h2 : tru a env1 = some true) (h3 : fb env1 = some r) : andE fa fb env = some r := by
  unfold andE; rw [h1, bindE_ok, h2]; exact h3
theorem ev_andF (h1 : fa env = some (.ok a env1)) (h2 : tru a env1 = some false) : andE fa fb env = some (.ok a env1) := by
  unfold andE; rw [h1, bindE_ok, h2]
theorem ev_orF (h1 : fa env = some (.ok a env1)) (h2 : tru a env1 = some false) (h3 : fb env1 = some r) : orE fa fb env = some r := by
  unfold orE; rw [h1, bindE_ok, h2]; exact h3
theorem ev_orT (h1 : fa env = some (.ok a env1)) (h2 : tru a env1 = some true) : orE fa fb env = some (.ok a env1) := by
  unfold orE; rw [h1, bindE_ok, h2]
/-- and, or of two truth values -/
theorem ev_andB {t u : Bool} (h1 : fa env = some (.ok (.d (.bl t)) env)) (h3 : fb env = some (.ok (.d (.bl u)) env)) : andE fa fb env = some (.ok (.d (.bl (t && u))) env) := by
  cases t with
  | true => exact ev_andT h1 rfl h3
  | false => exact ev_andF h1 rfl
theorem ev_orB {t u : Bool} (h1 : fa env = some (.ok (.d (.bl t)) env)) (h3 : fb env = some (.ok (.d (.bl u)) env)) : orE fa fb env = some (.ok (.d (.bl (t || u))) env) := by
  cases t with
  | true => exact ev_orT h1 rfl
  | false => exact ev_orF h1 rfl h3
theorem ev_ifT (h1 : fc env = some (.ok a env1)) (h2 : tru a env1 = some true) (h3 : fa env1 = some r) : ifE fc fa fb env = some r := by
  unfold ifE; rw [h1, bindE_ok, h2]; exact h3
theorem ev_ifF (h1 : fc env = some (.ok a env1)) (h2 : tru a env1 = some false) (h3 : fb env1 = some r) : ifE fc fa fb env = some r := by
  unfold ifE; rw [h1, bindE_ok, h2]; exact h3
theorem ev_met {T : String} {g : D → List D → Option RV} (h1 : fo env = some (.ok a env1)) (h2 : pk a env1 = some x) (h3 : tyD x = T) (h4 : fs env1 = some (.ok as env2)) (h5 : pk a env2 = some y) (h6 : pks as env2 = some xs) (h7 : g y xs = some z) : metE T g fo fs env = some (.ok z env2) := by
  unfold metE; rw [h1, bindE_ok, h2, Option.bind_some, if_pos h3, h4, bindA_ok, h5, Option.bind_some, h6, Option.bind_some, h7]; rfl
theorem ev_mut {g : List D → List D → Option (D × List D)} {t t2 : Bool} {ys0 : C} {ys2 zs : List D} {env4 : Sl} (h1 : fo env = some (.ok (.cv i) env1)) (h2 : env1[i]? = some (.own t ys0)) (h2' : ys0 = .lst ys) (h4 : fs env1 = some (.ok as env2)) (h5 : frzs as env2 = some (xs, env3)) (h6 : env3[i]? = some (.own t2 (.lst ys2))) (h7 : g ys2 xs = some (x, zs)) (h8 : env3.set i (.own t2 (.lst zs)) = env4) :
    mutE g fo fs env = some (.ok (.d x) env4) := by
  subst h2' h8
  unfold mutE; rw [h1, bindE_ok]; dsimp only; rw [h2]; show (some (t, ys)).bind _ = _; rw [Option.bind_some, h4, bindA_ok, h5, Option.bind_some]; dsimp only; rw [h6]; show (some (t2, ys2)).bind _ = _; rw [Option.bind_some]; dsimp only; rw [h7]; rfl
/-- slices -/
def oI : Option Int → Option Int := id
theorem bo_none {k : Option Int → SE} : bindO none env k = k none env := rfl
theorem bo_some {k : Option Int → SE} {n : Int} (h1 : fa env = some (.ok a env1)) (h2 : pk a env1 = some (.int n)) : bindO (some fa) env k = k (some n) env1 := by
  unfold bindO; dsimp only; rw [h1, bindE_ok, h2]
theorem ev_sl {fl fh : Option SE} {lo hi : Option Int} (h1 : fo env = some (.ok a env1)) (h2 : ∀ k, bindO fl env1 k = k lo env2) (h3 : ∀ k, bindO fh env2 k = k hi env3) (h4 : pk a env3 = some x) (h5 : cutD x lo hi = some z) : sliceE fo fl fh env = some (.ok z env3) := by
  unfold sliceE; rw [h1, bindE_ok, h2, h3, h4, Option.bind_some, h5]; rfl
end
section
variable {env env1 env2 : Sl} {f g : SS} {fe fc : SE} {a : RV} {x : D} {i : Nat} {o : Out} {tg : Tg} {body : SS} {fi : SI} {xs ys : List D} {fa : SA} {as : List RV}
theorem ev_seq (h : f env = some (.nx env1)) : seqS f g env = g env1 := by unfold seqS; rw [h]
theorem ev_seq2 (h : f env = some (.nx env1)) (h2 : g env1 = some o) : seqS f g env = some o := by unfold seqS; rw [h]; exact h2
theorem ev_seq_rt (h : f env = some (.rt a env1)) : seqS f g env = some (.rt a env1) := by unfold seqS; rw [h]
theorem ev_iteT (h : fc env = some (.ok a env1)) (ht : tru a env1 = some true) (h2 : f env1 = some o) : iteS fc f g env = some o := by
  unfold iteS bindS; rw [h]; dsimp only; rw [ht]; exact h2
theorem ev_iteF (h : fc env = some (.ok a env1)) (ht : tru a env1 = some false) (h2 : g env1 = some o) : iteS fc f g env = some o := by
  unfold iteS bindS; rw [h]; dsimp only; rw [ht]; exact h2
theorem ev_ret (h : fe env = some (.ok a env1)) : retS fe env = some (.rt a env1) := by unfold retS bindS; rw [h]
theorem ev_skip : skipS env = some (.nx env) := rfl
theorem ev_expr (h : fe env = some (.ok a env1)) : exprS fe env = some (.nx env1) := by unfold exprS bindS; rw [h]
theorem ev_asg (h : fe env = some (.ok a env1)) (h2 : storeR i a env1 = some env2) : asgS i fe env = some (.nx env2) := by unfold asgS bindS; rw [h]; dsimp only; rw [h2]; rfl
theorem st_d (h : freeSlot env[i]? = true) (h2 : env.set i (.d x) = env2) : storeR i (.d x) env = some env2 := by subst h2; unfold storeR setSlot; dsimp only; rw [if_pos h]
theorem st_own {c : C} (h : freeSlot env[i]? = true) (h2 : env.set i (.own false c) = env2) : storeR i (.own c) env = some env2 := by subst h2; unfold storeR setSlot; dsimp only; rw [if_pos h]
theorem ty_str {x : List Nat} : tyD (.str x) = "str" := rfl
theorem ty_lst {x : List D} : tyD (.lst x) = "list" := rfl
theorem st_cv {j : Nat} (h : frz (.cv j) env = some (x, env1)) (h2 : freeSlot env1[i]? = true) (h3 : env1.set i (.d x) = env2) : storeR i (.cv j) env = some env2 := by subst h3; unfold storeR; dsimp only; rw [h, Option.bind_some]; unfold setSlot; rw [if_pos h2]
theorem fs_ok {s : Option SV} (h : freeSlot s = true) : freeSlot s = true := h
theorem gE {env : Sl} {i : Nat} {s : SV} (h : env[i]? = some s) : env[i]? = some s := h
theorem lst_eq {ys : List D} : C.lst ys = C.lst ys := rfl
theorem set_z {s t : SV} {l : Sl} : (s :: l).set 0 t = t :: l := rfl
theorem set_s {s t : SV} {l l' : Sl} {n : Nat} (h : l.set n t = l') : (s :: l).set (n + 1) t = s :: l' := by subst h; rfl
theorem ev_for (h : fi env = some (.ok xs env1)) : forS fi tg body env = loopD tg body xs env1 := by unfold forS; rw [h]
theorem ev_src (h : fe env = some (.ok a env1)) (h2 : frz a env1 = some (x, env2)) (h3 : itemsD x = some xs) : srcE fe env = some (.ok xs env2) := by
  unfold srcE; rw [h]; show (frz a env1).bind _ = _; rw [h2, Option.bind_some, h3]; rfl
theorem ev_args {g : List D → Option (List D)} (h : fa env = some (.ok as env1)) (h2 : pks as env1 = some xs) (h3 : g xs = some ys) : argsI g fa env = some (.ok ys env1) := by
  unfold argsI bindAI
  rw [h]
  dsimp only
  rw [h2, Option.bind_some, h3]
  rfl
end
theorem modI_ok {i j : Int} (h : 0 < j) : modI i j = some (i % j) := by unfold modI; rw [if_pos (okP_iff.mpr h)]
theorem fdivI_ok {i j : Int} (h : 0 < j) (h2 : j < 1073741824) : fdivI i j = some (i / j) := by unfold fdivI; rw [if_pos (okP_iff.mpr ⟨h, h2⟩)]
theorem big64_iff {i : Int} : big64 i = true ↔ -(2 ^ 64) < i ∧ i < 2 ^ 64 := okP_iff
theorem mulI_l {i j : Int} (h : big64 i = true) : mulI i j = some (i * j) := by unfold mulI; rw [h]; rfl
theorem mulI_r {i j : Int} (h : big64 j = true) : mulI i j = some (i * j) := by unfold mulI; rw [h, Bool.or_true]; rfl
theorem powI_18 : powI 10 18 = some 1000000000000000000 := by
  unfold powI
  rw [if_pos (okP_iff.mpr ⟨⟨by decide, by decide⟩, by decide⟩)]
  rfl
theorem mod_ok {i j : Int} (h : 0 < j) : modD (.int i) (.int j) = some (.d (.int (i % j))) := by show (modI i j).map _ = _; rw [modI_ok h]; rfl
theorem fdiv_ok {i j : Int} (h : 0 < j) (h2 : j < 1073741824) : fdivD (.int i) (.int j) = some (.d (.int (i / j))) := by show (fdivI i j).map _ = _; rw [fdivI_ok h h2]; rfl
theorem mul_l {i j : Int} (h : big64 i = true) : mulD (.int i) (.int j) = some (.d (.int (i * j))) := by show (mulI i j).map _ = _; rw [mulI_l h]; rfl
theorem mul_r {i j : Int} (h : big64 j = true) : mulD (.int i) (.int j) = some (.d (.int (i * j))) := by show (mulI i j).map _ = _; rw [mulI_r h]; rfl
theorem pow_18 : powD (.int 10) (.int 18) = some (.d (.int 1000000000000000000)) := by show (powI 10 18).map _ = _; rw [powI_18]; rfl
theorem len_str {x : List Nat} (h : x.length ≤ sizeLine) : lenD [.str x] = some (.d (.int x.length)) := if_pos h
theorem len_lst {x : List D} : lenD [.lst x] = some (.d (.int x.length)) := rfl
theorem len_tup {x : List D} : lenD [.tup x] = some (.d (.int x.length)) := rfl
theorem get_str {x : List Nat} {i : Int} {c : Nat} (h : x.length ≤ sizeLine) (h2 : L2.atI x i = some c) : getD (.str x) (.int i) = some (.d (.str [c])) := by
  show (if x.length ≤ sizeLine then _ else none) = _; rw [if_pos h, h2]; rfl
theorem get_lst {x : List D} {i : Int} {c : D} (h2 : L2.atI x i = some c) : getD (.lst x) (.int i) = some (.d c) := by show (L2.atI x i).map _ = _; rw [h2]; rfl
theorem get_tup {x : List D} {i : Int} {c : D} (h2 : L2.atI x i = some c) : getD (.tup x) (.int i) = some (.d c) := by show (L2.atI x i).map _ = _; rw [h2]; rfl
theorem app_ok {xs : List D} {x : D} (h : xs.length < 100000) : appU xs [x] = some (.non, xs ++ [x]) := if_pos h
theorem add_str {x y : List Nat} (h : x.length + y.length ≤ sizeLine) : addD (.str x) (.str y) = some (.d (.str (x ++ y))) := if_pos h
theorem cut_str {x : List Nat} {lo hi : Option Int} (h : x.length ≤ sizeLine) : cutD (.str x) lo hi = some (.d (.str (cutL x lo hi))) := if_pos h
theorem rng1_nat {n : Nat} (h : n ≤ 1000000) : rng1 [.int n] = some ((List.range n).map fun i => .int (i : Nat)) := by
  have q : okP (-(2 ^ 62) ≤ (n : Int) ∧ (n : Int) < 2 ^ 62) = true := okP_iff.mpr (by omega)
  unfold rng1
  dsimp only
  rw [if_pos q]
  rfl
section
variable {i j : Int} {a b : Bool} {x y : List Nat} {c : Nat} {ds es : List D}
theorem eq_int : eqD (.int i) (.int j) = some (.d (.bl (i == j))) := rfl
theorem ne_int : neD (.int i) (.int j) = some (.d (.bl (!(i == j)))) := rfl
theorem eq_str : eqD (.str x) (.str y) = some (.d (.bl (x == y))) := rfl
theorem ne_str : neD (.str x) (.str y) = some (.d (.bl (!(x == y)))) := rfl
theorem eq_bl : eqD (.bl a) (.bl b) = some (.d (.bl (a == b))) := rfl
theorem ne_bl : neD (.bl a) (.bl b) = some (.d (.bl (!(a == b)))) := rfl
theorem lt_int' : ltG (.int i) (.int j) = some (.d (.bl (decide (i < j)))) := rfl
theorem lt_str' : ltG (.str x) (.str y) = some (.d (.bl (decide (x < y)))) := rfl
theorem le_int' : leD (.int i) (.int j) = some (.d (.bl (decide (i ≤ j)))) := rfl
theorem gt_int' : gtD (.int i) (.int j) = some (.d (.bl (decide (j < i)))) := rfl
theorem ge_int' : geD (.int i) (.int j) = some (.d (.bl (decide (j ≤ i)))) := rfl
theorem add_int' : addD (.int i) (.int j) = some (.d (.int (i + j))) := rfl
theorem sub_int' : subD (.int i) (.int j) = some (.d (.int (i - j))) := rfl
theorem neg_int' : negD (.int i) = some (.d (.int (-i))) := rfl
theorem ord_str : ordC [.str [c]] = some (.d (.int c)) := rfl
theorem int_int : intC [.int i] = some (.d (.int i)) := rfl
theorem int_bl : intC [.bl a] = some (.d (.int (b2i a))) := rfl
theorem list_lst : listC [.lst ds] = some (.own (.lst ds)) := rfl
theorem list_tup : listC [.tup ds] = some (.own (.lst ds)) := rfl
theorem tup_lst : tupleC [.lst ds] = some (.d (.tup ds)) := rfl
theorem tup_tup : tupleC [.tup ds] = some (.d (.tup ds)) := rfl
theorem it_lst : itemsD (.lst ds) = some ds := rfl
theorem it_tup : itemsD (.tup ds) = some ds := rfl
theorem it_str : itemsD (.str x) = some (x.map fun c => .str [c]) := rfl
end
/-- a def's meaning, from its body's -/
theorem defM_rt {np n : Nat} {body : SS} {as : List SV} {a : RV} {b : RV} (e0 : Sl) {env : Sl} {o : List SV} (hl : as.length = np) (he : as ++ List.replicate n .un = e0) (h : body e0 = some (.rt a env)) (h2 : resV a env = some b) (h3 : backs as env = some o) : defM np n body as = some (.ok b o) := by
  unfold defM runF; rw [if_pos hl, he, h]; dsimp only; rw [h2, Option.bind_some, h3]; rfl
theorem defM_nx {np n : Nat} {body : SS} {as : List SV} (e0 : Sl) {env : Sl} {o : List SV} (hl : as.length = np) (he : as ++ List.replicate n .un = e0) (h : body e0 = some (.nx env)) (h3 : backs as env = some o) : defM np n body as = some (.ok (.d .non) o) := by
  unfold defM runF; rw [if_pos hl, he, h]; dsimp only; rw [h3]; rfl
end
end Dw
namespace Dw
noncomputable section
open PySem PySem.Spec PyProof.Rows L2
variable [Glo] [Tabs]

/-! ### methods of texts, with a text -/
def textM (g : List Nat → List Nat → Option RV) : D → List D → Option RV
  | .str a, [.str b] => g a b
  | _, _ => none
theorem snd_textM {K : PySem.W.Frag} {g : List Nat → List Nat → Option RV} {r : V → List V → Hp → VK → Prop}
    (h : ∀ {W : WX} {F : Hp} {R : Fm} {σ : L2.St} {H : Hp} {env : Sl} {Q : VK} {a b : List Nat} {z : RV}, Sta K F R σ H env → g a b = some z → PostE K W F R σ (.ok z env) Q → r (.str (mk a)) [.str (mk b)] H Q) : SndM K (textM g) r := by
  intro W F R σ H env Q x v xs vs z S hx hv e p
  cases x with
  | str a =>
    cases hx
    match xs, hv, e with
    | [.str b], hv, e =>
      obtain ⟨w, rfl, hw⟩ := vw1 hv
      cases hw
      exact h S e p
  | _ => cases e
def indexL (a b : List Nat) : Option RV := match Builtin.Str.occurrences (mk a) (mk b) 0 a.length 1 with
  | i :: _ => some (.d (.int (i : Nat)))
  | [] => none
def rIndexS : V → List V → Hp → VK → Prop := fun x xs H Q => ∃ a b i rest, x = .str a ∧ xs = [.str b] ∧ Builtin.Str.occurrences a b 0 a.length 1 = i :: rest ∧ Q (.int (i : Nat)) H
theorem snd_index {K : PySem.W.Frag} : SndM K (textM indexL) rIndexS := snd_textM fun {W F R σ H env Q a b z} S e p => by
  unfold indexL at e
  cases ho : Builtin.Str.occurrences (mk a) (mk b) 0 a.length 1 with
  | nil => rw [ho] at e; cases e
  | cons i rest =>
    rw [ho] at e
    cases e
    exact ⟨mk a, mk b, i, rest, rfl, rfl, by rw [mk_len]; exact ho, post_d S p (.int _)⟩
def countL (a b : List Nat) : Option RV := some (.d (.int (Txt.count (mk a) (mk b))))
def rCountS : V → List V → Hp → VK → Prop := fun x xs H Q => ∃ a b, x = .str a ∧ xs = [.str b] ∧ Q (.int (Txt.count a b)) H
theorem snd_count {K : PySem.W.Frag} : SndM K (textM countL) rCountS := snd_textM fun S e p => by
  cases e
  exact ⟨_, _, rfl, rfl, post_d S p (.int _)⟩
def startsL (a b : List Nat) : Option RV := some (.d (.bl (Txt.startswith (mk a) (mk b))))
def rStartsS : V → List V → Hp → VK → Prop := fun x xs H Q => ∃ a b, x = .str a ∧ xs = [.str b] ∧ Q (.bl (Txt.startswith a b)) H
theorem snd_starts {K : PySem.W.Frag} : SndM K (textM startsL) rStartsS := snd_textM fun S e p => by
  cases e
  exact ⟨_, _, rfl, rfl, post_d S p (.bl _)⟩
def cutEnd (a b : List Nat) : List Nat := a.take (a.length - (a.reverse.takeWhile b.contains).length)
def cutTop (a b : List Nat) : List Nat := a.drop (a.takeWhile b.contains).length
theorem conts (b : List Nat) : (mk b).cps.contains = b.contains := by
  funext c
  simp [mk]
theorem rstrip_mk (a b : List Nat) : Txt.rstripChars (mk a) (mk b) = mk (cutEnd a b) := by
  unfold Txt.rstripChars
  rw [stripBy_eq, conts]
  unfold cutEnd Builtin.Str.strSub stripLo stripHi
  simp [mk, Str.length]
theorem lstrip_mk (a b : List Nat) : Txt.lstripChars (mk a) (mk b) = mk (cutTop a b) := by
  unfold Txt.lstripChars
  rw [stripBy_eq, conts]
  unfold cutTop Builtin.Str.strSub stripLo stripHi
  simp [mk, Str.length]
  exact List.take_of_length_le (by rw [List.length_drop]; omega)
def rstripL (a b : List Nat) : Option RV := if a.length ≤ sizeLine then some (.d (.str (cutEnd a b))) else none
def lstripL (a b : List Nat) : Option RV := if a.length ≤ sizeLine then some (.d (.str (cutTop a b))) else none
def rStripS (f : Str → Str → Str) : V → List V → Hp → VK → Prop := fun x xs H Q => ∃ a b, x = .str a ∧ xs = [.str b] ∧ a.length ≤ sizeLine ∧ Q (.str (f a b)) H
theorem snd_rstrip {K : PySem.W.Frag} : SndM K (textM rstripL) (rStripS Txt.rstripChars) := snd_textM fun {W F R σ H env Q a b z} S e p => by
  obtain ⟨c, rfl⟩ := some_if e
  refine ⟨_, _, rfl, rfl, by rw [mk_len]; exact c, ?_⟩
  rw [rstrip_mk]
  exact post_d S p (.str _)
theorem snd_lstrip {K : PySem.W.Frag} : SndM K (textM lstripL) (rStripS Txt.lstripChars) := snd_textM fun {W F R σ H env Q a b z} S e p => by
  obtain ⟨c, rfl⟩ := some_if e
  refine ⟨_, _, rfl, rfl, by rw [mk_len]; exact c, ?_⟩
  rw [lstrip_mk]
  exact post_d S p (.str _)

/-! ### constants of the module -/
section
variable {X : Cx} {W : WX} {x : Str} {pos : Pos}
theorem pd_cstr {l : List Nat} (h : ∃ t, X.mg x = some (.str (mk l) t)) (hg : Gl X x := by rfl) (hd : (x == ("__debug__" : Str)) = false := by decide) : PE X (.Name x pos) (dE X.K W (constE (.str l))) := by
  obtain ⟨t, h⟩ := h
  exact pd_glob h (v := .str (mk l)) ⟨t, rfl⟩ (fun _ => .str l) hg hd
theorem pd_cint {n : Int} (h : ∃ t, X.mg x = some (.int n t)) (hg : Gl X x := by rfl) (hd : (x == ("__debug__" : Str)) = false := by decide) : PE X (.Name x pos) (dE X.K W (constE (.int n))) := by
  obtain ⟨t, h⟩ := h
  exact pd_glob h (v := .int n) ⟨t, rfl⟩ (fun _ => .int n) hg hd
end
end
end Dw
namespace Dw
noncomputable section
open PySem PySem.Spec PyProof.Rows L2
variable [Glo] [Tabs]

/-! ### enumerate(a text) -/
def ItEs (x : Str) : It :=
  ⟨fun i _ => i < x.cps.size, fun i H v H' => ∃ T c, v = .ref T ∧ H T = none ∧ H' = upd H T (.tup [.int (i : Nat), .str ⟨#[c]⟩]) ∧ x.cps[i]? = some c, fun i _ => x.cps.size ≤ i⟩
theorem draws_str {P : Program} {w : World} {A : Around} (hh : A.handled = none) (it : Addr) (x : Str) (t : Tok) : Draws P w A it [it] x.cps.size (fun i v => ∃ c u, x.cps[i]? = some c ∧ v = .str ⟨#[c]⟩ u) (fun i h => h.IsStrIter it (strIterType x) x t i) := by
  unfold strIterType
  split
  · exact Draws.strAscii hh it x t
  · exact Draws.strWide hh it x t
theorem turn_enumS {P : Program} {w : World} {K : PySem.W.Frag} {elts : List Expr} {kk : Nat} {tpos : Pos} (x : Str) (t : Tok) (e it : Addr) :
    Turn P w K (.Tuple elts kk tpos) (ItEs x) [e, it] e (fun i h => (∃ old, IsEnum h e it i old) ∧ h.IsStrIter it (strIterType x) x t i ∧ e ≠ it ∧ i ≤ x.cps.size) where
  mem := by simp
  obj := fun i h st b hb => by
    obtain ⟨⟨old, he⟩, ⟨o, ho, hc, hd⟩, _⟩ := st
    have e' : b = e ∨ b = it := by simpa using hb
    rcases e' with z | z
    · rw [z]; exact ⟨_, he, fun v q => nomatch q⟩
    · rw [z]; exact ⟨o, ho, fun v q => by rw [hd] at q; cases q⟩
  keep := fun i h h' st k => by
    obtain ⟨⟨old, he⟩, ⟨o, ho, r⟩, hne, hi⟩ := st
    exact ⟨⟨old, k e (by simp) _ he⟩, ⟨o, k it (by simp) _ ho, r⟩, hne, hi⟩
  item := by
    intro X hP hw hK hc i pins s σ H E I hf st hg
    subst hP hw hK
    obtain ⟨⟨old, he⟩, hit, hne, hi⟩ := st
    have hlt : i < x.cps.size := hg
    have hel : e < s.heap.objs.size := Heap.lt_size he
    have hil : it < s.heap.objs.size := by obtain ⟨_, q, _⟩ := hit; exact Heap.lt_size q
    have hh : X.A.in1.handled = none := I.ok.hd hc
    refine wpAny_pyNext_enum_itemD (draws_str (A := X.A.in1) hh it x t) he hit hlt hne (by simpa using hne) fun u h' tk hu ho hit' hT hsz hk => ?_
    obtain ⟨c, tu, hc1, rfl⟩ := hu
    refine ⟨_, rfl, wpAny_letOwnedTupleGo_enum (s := { s with heap := h', toks := tk + 1 }) ho fun h'' he' sb => ?_⟩
    have hT2 : h''.get? s.heap.objs.size = some { cls := .type "tuple", data := .seq #[.int i tk, .str ⟨#[c]⟩ tu] } := (sb.2 _ (Nat.ne_of_gt hel)).trans hT
    have new : ObjOk X.prog X.w (upd H s.heap.objs.size (.tup [.int (i : Nat), .str ⟨#[c]⟩])) h'' s.heap.objs.size (.tup [.int (i : Nat), .str ⟨#[c]⟩]) :=
      ⟨by show 2 ≤ sizeLine; decide, [.int i tk, .str ⟨#[c]⟩ tu], .cons ⟨_, rfl⟩ (.cons ⟨_, rfl⟩ .nil), ⟨_, hT2, rfl, _, rfl⟩⟩
    have I1 : Inv X pins σ (upd H s.heap.objs.size (.tup [.int (i : Nat), .str ⟨#[c]⟩])) { s with heap := h'', toks := tk + 1 } :=
      I.turnedNew (ch := [e, it]) (fun b ob hb q => (sb.2 b (fun z => hb (by simp [z]))).trans (hk b ob (fun z => hb (by simp [z])) (fun z => hb (by simp [z])) q)) hf (Nat.le_refl _) new
    refine ⟨.ref s.heap.objs.size, _, I1, rfl, ⟨_, c, rfl, I.hok.fresh (Nat.le_refl _), rfl, hc1⟩, ⟨⟨.str ⟨#[c]⟩ tu, ?_⟩, ?_, hne, hlt⟩, fun b hb => ?_⟩
    · have e1 : ((i + 1 : Nat) : Int) = (i : Int) + 1 := by omega
      rw [e1]; exact he'
    · obtain ⟨o, ho2, r⟩ := hit'
      exact ⟨o, (sb.2 it (Ne.symm hne)).trans ho2, r⟩
    · have hb' : b < s.heap.objs.size := by
        have e' : b = e ∨ b = it := by simpa using hb
        rcases e' with z | z
        · rw [z]; exact hel
        · rw [z]; exact hil
      rw [upd_ne (Nat.ne_of_lt hb')]
      exact (hf b hb).1
  done := by
    intro X hP hw hK hc i pins s σ H E I hf st hg
    subst hP hw hK
    obtain ⟨⟨old, he⟩, hit, hne, hi⟩ := st
    have hle : x.cps.size ≤ i := hg
    have ei : i = x.cps.size := by omega
    subst ei
    obtain ⟨f0, f1, f2, f3, f4, f5⟩ := hf it (by simp)
    have hh : X.A.in1.handled = none := I.ok.hd hc
    exact wpAny_pyNext_enum_endD (draws_str (A := X.A.in1) hh it x t) he hit fun h' eb => ⟨rfl, I.turned (t' := s.toks) (fun b o hb q => eb b o hb q) f0 f1 f3 f4 f5⟩
  self := fun A i s Q E st h => let ⟨⟨_, he⟩, _⟩ := st; wpAny_pyIter_enum he h
def iEnumS (te : TA) : TI := fun σ H R => te σ H fun vs H1 => ∃ x, vs = [.str x] ∧ R (ItEs x) H1
theorem pi_enumS {X : Cx} {e : Expr} {ta : TA} {p pos tpos : Pos} {elts : List Expr} {kk : Nat} (hg : Gl X "enumerate") (hm : X.mg "enumerate" = none) (ha : PA X [e] ta) (hs : starEach [e] X.env = [(false, eval e X.env)] := by rfl) :
    PI X (.Tuple elts kk tpos) (.Call (.Name "enumerate" p) [e] [] pos) (iEnumS ta) := by
  refine ⟨fun pins s σ H R I h => ?_⟩
  refine Call_ (ld_blt I hg hm boot_enumerate (PyProof.Rows.callWith_type1 (thn (ha.run pos pins s σ H _ I h) fun us s1 ⟨vs, H1, I1, r1, q1⟩ => ?_) hs rfl))
  obtain ⟨x, ex, q⟩ := q1
  subst ex
  cases r1 with
  | cons r rr =>
    cases rr
    obtain ⟨t, rfl⟩ := r
    refine call_enumerate_str fun h' he hit hsz hk => wpAny_pyIter_enum he ?_
    have I2 : Inv X pins σ H1 { s1 with heap := h' } := I1.kept (t' := s1.toks) hk
    refine ⟨s1.heap.objs.size + 1, [s1.heap.objs.size + 1, s1.heap.objs.size], _, _, H1, rfl, I2, turn_enumS x t (s1.heap.objs.size + 1) s1.heap.objs.size, ⟨⟨.none, he⟩, hit, Nat.succ_ne_self _, Nat.zero_le _⟩, fun b hb => ?_, q⟩
    have e' : b = s1.heap.objs.size + 1 ∨ b = s1.heap.objs.size := by simpa using hb
    have hle : s1.heap.objs.size ≤ b := by
      rcases e' with z | z
      · rw [z]; exact Nat.le_add_right _ _
      · rw [z]; exact Nat.le_refl _
    exact I1.fpOk hle (I1.hok.fresh hle)
theorem _root_.L2.PI.or2 {X : Cx} {tg e : Expr} {t u : TI} (h : PI X tg e t) (h' : PI X tg e u) : PI X tg e (fun σ H R => t σ H R ∨ u σ H R) := ⟨fun pins s σ H R I q => by
  rcases q with q | q
  · exact h.run pins s σ H R I q
  · exact h'.run pins s σ H R I q⟩

/-! ### enumerate: the meaning -/
def enumL : Nat → List D → List D
  | _, [] => []
  | i, x :: xs => .tup [.int (i : Nat), x] :: enumL (i + 1) xs
theorem enumL_len : ∀ (i : Nat) (xs : List D), (enumL i xs).length = xs.length
  | _, [] => rfl
  | i, x :: xs => by rw [enumL, List.length_cons, List.length_cons, enumL_len]
theorem enumL_get : ∀ (i k : Nat) (xs : List D) (x : D), (enumL i xs)[k]? = some x → ∃ y, xs[k]? = some y ∧ x = .tup [.int ((i + k : Nat) : Int), y]
  | i, k, [], x, h => by simp [enumL] at h
  | i, 0, y :: xs, x, h => by
    simp [enumL] at h
    exact ⟨y, rfl, h.symm⟩
  | i, k + 1, y :: xs, x, h => by
    obtain ⟨z, h1, h2⟩ := enumL_get (i + 1) k xs x (by simpa [enumL] using h)
    exact ⟨z, by simpa using h1, by rw [h2, show i + 1 + k = i + (k + 1) by omega]⟩
def enumE (fa : SA) : SI := fun env => bindAI (fa env) fun as env1 => match as with
  | [a] => (frz a env1).bind fun p => (match p.1 with | .lst xs => some (enumL 0 xs) | .str x => some (enumL 0 (x.map fun c => .str [c])) | _ => none).map fun ys => .ok ys p.2
  | _ => none
section
variable {K : PySem.W.Frag} {W : WX} {F F' : Hp} {R R' : Fm} {σ : L2.St} {H H' : Hp} {env env' : Sl}
theorem wk_enumS {x : List Nat} : Wk K F (ItEs (mk x)) (enumL 0 (x.map fun c => .str [c])) := by
  have hs : (mk x).cps.size = x.length := mk_len x
  refine ⟨fun i H hi e => ?_, fun H e => ?_, fun {F' R σ env} i H v H' y hx e S yl => ?_⟩
  · rw [enumL_len, List.length_map] at hi
    show i < (mk x).cps.size
    rw [hs]; exact hi
  · show (mk x).cps.size ≤ _
    rw [enumL_len, List.length_map, hs]
    exact Nat.le_refl _
  · obtain ⟨T, c, rfl, hT, rfl, hc⟩ := yl
    obtain ⟨z, h1, rfl⟩ := enumL_get 0 i _ _ hx
    have e4 : x[i]? = some c := by simpa [mk] using hc
    rw [List.getElem?_map, e4] at h1
    cases h1
    refine ⟨upd F' T (.tup [.int (i : Nat), .str ⟨#[c]⟩]), Ex.new (S.freeF hT), S.freshF hT, .tup (SqT.of upd_same) ?_, Ex.new hT⟩
    rw [Nat.zero_add]
    exact .cons (.int _) (.cons (.str [c]) .nil)
theorem wk_enumL {a : Addr} {vs : List V} {xs : List D} (s : SqL K F a vs) (r : RelAll K F vs xs) : Wk K F (Ite K a) (enumL 0 xs) := by
  refine ⟨fun i H hi e => ?_, fun H e => ?_, fun {F' R σ env} i H v H' y hx e S yl => ?_⟩
  · rw [enumL_len] at hi
    obtain ⟨v, hv, _⟩ := r.getD (List.getElem?_eq_getElem hi)
    exact ⟨vs, v, ex_l e s, hv⟩
  · exact ⟨vs, ex_l e s, by rw [enumL_len, r.len]; exact Nat.le_refl _⟩
  · obtain ⟨T, u, rfl, hT, rfl, hc⟩ := yl
    obtain ⟨z, h1, rfl⟩ := enumL_get 0 i _ _ hx
    have hu := hc vs (ex_l (e.trans S.sub) s)
    obtain ⟨d, h2, rv⟩ := r.get hu
    rw [h1] at h2
    cases h2
    have eF : Ex F' (upd F' T (.tup [.int (i : Nat), u])) := Ex.new (S.freeF hT)
    refine ⟨upd F' T (.tup [.int (i : Nat), u]), eF, S.freshF hT, .tup (SqT.of upd_same) ?_, Ex.new hT⟩
    rw [Nat.zero_add]
    exact .cons (.int _) (.cons ((rv.up e).up eF) .nil)
theorem dI_enum {fa : SA} {Q : It → Hp → Prop} (h : dI K W (enumE fa) σ H Q) : iEnum K (dA K W fa) σ H Q ∨ iEnumS (dA K W fa) σ H Q := by
  obtain ⟨env, F, R, r, S, e, p⟩ := h
  rcases bindAI_inv e with ⟨as, env1, h1, h2⟩ | ⟨x, env1, h1, rfl⟩
  · match as, h1, h2 with
    | [a], h1, h2 =>
      dsimp only at h2
      rw [Option.bind_eq_some_iff] at h2
      obtain ⟨⟨x, env2⟩, h3, h4⟩ := h2
      rw [Option.map_eq_some_iff] at h4
      obtain ⟨ys, h5, rfl⟩ := h4
      have key : ∀ {Q1 : List V → Hp → Prop}, (∀ v F2 H1, Ex F F2 → Sta K F2 R σ H1 env2 → Rel K F2 v x → Q1 [v] H1) → dA K W fa σ H Q1 := fun {Q1} k =>
        ⟨env, F, R, _, S, h1, fun vs F1 H1 R1 e1 eR S1 hv => by
          match vs, hv with
          | [v], hv =>
            obtain ⟨F2, e2, S2, r2⟩ := frz_ok (S1.unhold eR) (unheld (Ex.refl _) eR S1 hv.1) h3
            exact k v F2 H1 (e1.trans e2) S2 r2
          | [], hv => exact hv.elim
          | _ :: _ :: _, hv => exact hv.2.2.elim⟩
      cases x with
      | lst xs =>
        cases h5
        exact .inl (key fun v F2 H1 e2 S2 r2 => by
          cases r2 with
          | lst s rr => exact ⟨_, _, rfl, ex_l S2.sub s, p _ F2 H1 e2 S2 (wk_enumL s rr)⟩)
      | str y =>
        cases h5
        exact .inr (key fun v F2 H1 e2 S2 r2 => by
          cases r2
          exact ⟨mk y, rfl, p _ F2 H1 e2 S2 wk_enumS⟩)
      | _ => cases h5
  · exact .inl ⟨env, F, R, _, S, h1, p⟩
end
section
variable {X : Cx} {W : WX} {e : Expr} {fa : SA} {p pos tpos : Pos} {elts : List Expr} {kk : Nat}
theorem pi_denum (hm : X.mg "enumerate" = none) (ha : PA X [e] (dA X.K W fa)) (hg : Gl X "enumerate" := by rfl) (hs : starEach [e] X.env = [(false, eval e X.env)] := by rfl) : PI X (.Tuple elts kk tpos) (.Call (.Name "enumerate" p) [e] [] pos) (dI X.K W (enumE fa)) :=
  ((pi_enum hg hm ha hs).or2 (pi_enumS hg hm ha hs)).wk fun _ _ _ q => dI_enum q
end
end
end Dw
namespace Dw
noncomputable section
open PySem PySem.Spec PyProof.Rows L2
variable [Glo] [Tabs]

theorem cr_list {X : Cx} : CallR X (.type "list") (rListC X.K) := call_list_of
theorem cr_tuple {X : Cx} : CallR X (.type "tuple") (rTupleC X.K) := call_tuple_of
/-! ### tuple(range(n)), list(range(n)) -/
def rgD (g : List D → RV) (fa : SE) : SE := fun env => bindE (fa env) fun a env1 => match pk a env1 with
  | some (.int n) => if okP (-(2 ^ 62) ≤ n ∧ n < 2 ^ 62 ∧ n.toNat ≤ 100000) then some (.ok (g ((List.range n.toNat).map fun i => .int (i : Nat))) env1) else none
  | _ => none
def tupRV (xs : List D) : RV := .d (.tup xs)
def lstRV (xs : List D) : RV := .own (.lst xs)
theorem rgV_rel {K : PySem.W.Frag} {F : Hp} (n : Int) : RelAll K F (rgV 0 n) ((List.range n.toNat).map fun i => .int (i : Nat)) := by
  unfold rgV
  rw [Int.sub_zero]
  have h := RelAll.ints (K := K) (F := F) ((List.range n.toNat).map fun i : Nat => (i : Int))
  rw [List.map_map, List.map_map] at h
  have e : (fun i : Nat => V.int (0 + (i : Int))) = V.int ∘ fun i : Nat => (i : Int) := by funext i; simp
  rw [e]
  exact h
section
variable {K : PySem.W.Frag} {W : WX} {σ : L2.St} {H : Hp} {Q : VK}
theorem dE_rg {g : List D → RV} {fa : SE} {R0 : Int → Hp → VK → Prop} (h : dE K W (rgD g fa) σ H Q)
    (hk : ∀ {F R env n H1}, Sta K F R σ H1 env → RgOk 0 n → PostE K W F R σ (.ok (g ((List.range n.toNat).map fun i => .int (i : Nat))) env) Q → R0 n H1 Q) : dE K W fa σ H fun x H1 => ∃ n, x = .int n ∧ R0 n H1 Q := by
  refine dE_one (op := fun a env1 => match pk a env1 with | some (.int n) => if okP (-(2 ^ 62) ≤ n ∧ n < 2 ^ 62 ∧ n.toNat ≤ 100000) then some (.ok (g ((List.range n.toNat).map fun i => .int (i : Nat))) env1) else none | _ => none) h fun a env F R v H1 S rv q => ?_
  obtain ⟨r, e, p⟩ := q
  dsimp only at e
  cases hx : pk a env with
  | none => rw [hx] at e; cases e
  | some x =>
    rw [hx] at e
    cases x with
    | int n =>
      cases (show Rel K F v (.int n) from pk_vw S rv hx)
      obtain ⟨c, rfl⟩ := some_if e
      rw [okP_iff] at c
      exact ⟨n, rfl, hk S ⟨by omega, by omega, c.1, c.2.1, by rw [Int.sub_zero]; omega⟩ p⟩
    | _ => cases e
end
section
variable {X : Cx} {W : WX} {a : Expr} {fa : SE} {p p2 pos pos2 : Pos}
theorem pd_tupRg (hc : X.calm = true) (hm : X.mg "tuple" = none) (hm2 : X.mg "range" = none) (ha : PE X a (dE X.K W fa)) (hg : Gl X "tuple" := by rfl) (hg2 : Gl X "range" := by rfl) (na2 : starEach [a] X.env = (false, eval a X.env) :: starEach [] X.env := by rfl)
    (na : starEach [.Call (.Name "range" p2) [a] [] pos2] X.env = (false, eval (.Call (.Name "range" p2) [a] [] pos2) X.env) :: starEach [] X.env := by rfl) :
    PE X (.Call (.Name "tuple" p) [.Call (.Name "range" p2) [a] [] pos2] [] pos) (dE X.K W (rgD tupRV fa)) :=
  (pe_tupRg hc hg hm (prg_1 hg2 hm2 ha na2) na).wk fun σ H Q q => by
    have := dE_rg (R0 := fun n H1 Q => RgOk 0 n ∧ ∀ q, H1 q = none → Q (.ref q) (upd H1 q (.tup (rgV 0 n)))) q fun {F R env n H1} S ok p => ⟨ok, fun q hq => post_tup S p hq (rgV_rel n)⟩
    exact this
end
end
end Dw
namespace Dw
noncomputable section
open PySem PySem.Spec PyProof.Rows L2
variable [Glo] [Tabs]

/-! ### a call of a def that changes one of its arguments, a list of the caller's own -/
section
variable {K : PySem.W.Frag} {W : WX} {F F' : Hp} {R R' : Fm} {σ : L2.St} {H H' : Hp} {env : Sl} {Q : VK}
theorem heldAll_set : ∀ {vs : List V} {as : List RV} (j : Nat), HeldAll K F R R' σ vs as → HeldAll K F R R' σ (vs.set j .non) (as.set j (.d .non))
  | [], [], _, _ => trivial
  | v :: vs, a :: as, 0, h => ⟨.non, ⟨fun c e => (by cases e), h.2.2⟩⟩
  | v :: vs, a :: as, j + 1, h => by
    refine ⟨h.1, fun c e w b hm c' hb => ?_, heldAll_set j h.2.2⟩
    have mem : ∀ (vs : List V) (as : List RV) (j : Nat), (w, b) ∈ (vs.set j .non).zip (as.set j (.d .non)) → (w, b) ∈ vs.zip as ∨ b = .d .non := by
      intro vs
      induction vs with
      | nil => intro as j hm; simp at hm
      | cons x xs ih =>
        intro as j hm
        cases as with
        | nil => simp at hm
        | cons y ys =>
          cases j with
          | zero =>
            simp only [List.set_cons_zero, List.zip_cons_cons, List.mem_cons] at hm ⊢
            rcases hm with hm | hm
            · cases hm; exact .inr rfl
            · exact .inl (.inr hm)
          | succ j =>
            simp only [List.set_cons_succ, List.zip_cons_cons, List.mem_cons] at hm ⊢
            rcases hm with hm | hm
            · exact .inl (.inl hm)
            · rcases ih ys j hm with h | h
              · exact .inl (.inr h)
              · exact .inr h
    rcases mem vs as j hm with h1 | h1
    · exact h.2.1 c e w b h1 c' hb
    · rw [h1] at hb; cases hb
  | [], _ :: _, _, h => h.elim
  | _ :: _, [], _, h => h.elim
theorem heldAll_at : ∀ {vs : List V} {as : List RV} {j i : Nat}, HeldAll K F R R' σ vs as → as[j]? = some (.cv i) → ∃ v, vs[j]? = some v ∧ σ[i]? = some (some v)
  | [], [], _, _, _, h => by simp at h
  | v :: vs, a :: as, 0, i, h, e => by
    simp at e
    subst e
    exact ⟨v, rfl, h.1⟩
  | v :: vs, a :: as, j + 1, i, h, e => by
    obtain ⟨w, h1, h2⟩ := heldAll_at (j := j) h.2.2 (by simpa using e)
    exact ⟨w, by simpa using h1, h2⟩
  | [], _ :: _, _, _, h, _ => h.elim
  | _ :: _, [], _, _, h, _ => h.elim
theorem Sta.callM (S : Sta K F R σ H env) {xs : List D} {vs : List V} {i j : Nat} {b : Bool} {c : C} {p : Addr} (hi : env[i]? = some (.own b c)) (hp : σ[i]? = some (some (V.ref p))) (hj : vs[j]? = some (.ref p)) (r : RelAll K F (vs.set j .non) xs) :
    Sta K F (calF R σ H env i p) (vs.map some) H ((xs.map .d).set j (.own true c)) := by
  have hl : xs.length = vs.length := by rw [← r.len, List.length_set]
  have hjl : j < vs.length := (List.getElem?_eq_some_iff.mp hj).1
  have hjx : j < (xs.map SV.d).length := by rw [List.length_map, hl]; exact hjl
  have at' : ∀ {k : Nat} {s : SV}, ((xs.map SV.d).set j (.own true c))[k]? = some s → (k = j ∧ s = .own true c) ∨ (k ≠ j ∧ ∃ x v, s = .d x ∧ (vs.map some)[k]? = some (some v) ∧ Rel K F v x) := fun {k s} h => by
    by_cases hk : k = j
    · subst hk
      rw [List.getElem?_set_self hjx] at h
      cases h
      exact .inl ⟨rfl, rfl⟩
    · rw [List.getElem?_set_ne (Ne.symm hk)] at h
      obtain ⟨x, v, h1, h2, h3⟩ := dGet r h
      rw [List.getElem?_map, List.getElem?_set_ne (Ne.symm hk), ← List.getElem?_map] at h2
      exact .inr ⟨hk, x, v, h1, h2, h3⟩
  have hjs : (vs.map some)[j]? = some (some (V.ref p)) := by rw [List.getElem?_map, hj]; rfl
  obtain ⟨q, o, e1, e2, e3, e4, e5⟩ := S.own i b c hi
  rw [hp] at e1
  cases e1
  refine ⟨S.sub, calF_sub S, calF_dis S, by rw [List.length_map, List.length_set, List.length_map, hl], fun k x e => ?_, fun k b' c' e => ?_, fun k c' e => ?_, fun k l bk ck bl cl q h1 h2 _ _ => ?_, fun k x q => (by
    rcases at' q with ⟨_, h⟩ | ⟨_, y, v, h1, _⟩
    · cases h
    · cases h1), fun P h => let ⟨h1, h2, _⟩ := S.tab P h; ⟨h1, h2, calF_tab S P h⟩⟩
  · rcases at' e with ⟨_, h⟩ | ⟨_, y, v, h1, h2, h3⟩
    · cases h
    · cases h1; exact ⟨v, h2, h3⟩
  · rcases at' e with ⟨rfl, h⟩ | ⟨_, y, v, h1, _⟩
    · cases h
      exact ⟨p, o, hjs, e2, calF_free S hi hp, e4, e5⟩
    · cases h1
  · rcases at' e with ⟨rfl, h⟩ | ⟨_, y, v, h1, _⟩
    · exact hjs
    · cases h1
  · rcases at' h1 with ⟨a1, _⟩ | ⟨_, y, v, a1, _⟩
    · rcases at' h2 with ⟨a2, _⟩ | ⟨_, y, v, a2, _⟩
      · rw [a1, a2]
      · cases a2
    · cases a1
theorem Sta.retM {σc : L2.St} {envc : Sl} {i j : Nat} {b : Bool} {c c' : C} {p : Addr} (S : Sta K F R σ H env) (e : Ex F F') (S' : Sta K F' (calF R σ H env i p) σc H' envc) (hi : env[i]? = some (.own b c)) (hp : σ[i]? = some (some (V.ref p))) (hj : envc[j]? = some (.own true c')) : Sta K F' R σ H' (env.set i (.own b c')) := by
  have hl : i < env.length := (List.getElem?_eq_some_iff.mp hi).1
  have at' : ∀ {k : Nat} {s : SV}, (env.set i (.own b c'))[k]? = some s → (k = i ∧ s = .own b c') ∨ (k ≠ i ∧ env[k]? = some s) := fun {k s} h => by
    by_cases hk : k = i
    · subst hk
      rw [List.getElem?_set_self hl] at h
      cases h
      exact .inl ⟨rfl, rfl⟩
    · rw [List.getElem?_set_ne (Ne.symm hk)] at h
      exact .inr ⟨hk, h⟩
  have tg : σc[j]? = some (some (V.ref p)) := S'.tag j c' hj
  refine ⟨S'.sub, (calF_ex S).trans S'.fr, fun a u q => S'.dis a u (calF_ex S a u q), by rw [List.length_set]; exact S.len, fun k x q => ?_, fun k b1 c1 q => ?_, fun k c1 q => ?_, fun k l bk ck bl cl a h1 h2 h3 h4 => ?_, fun k x q => (S.xnNe e (fun y z => by cases z) k x q).2, fun P h => let ⟨h1, h2, _⟩ := S'.tab P h; ⟨h1, h2, (S.tab P h).2.2⟩⟩
  · rcases at' q with ⟨_, h⟩ | ⟨_, q⟩
    · cases h
    · obtain ⟨v, e1, r⟩ := S.dat k x q
      exact ⟨v, e1, r.up e⟩
  · rcases at' q with ⟨rfl, h⟩ | ⟨hk, q⟩
    · cases h
      obtain ⟨p', o', z1, z2, _, z4, z5⟩ := S'.own j true c' hj
      rw [tg] at z1
      cases z1
      obtain ⟨p2, o2, y1, _, y3, _⟩ := S.own k _ _ hi
      rw [hp] at y1
      cases y1
      exact ⟨p, o', hp, z2, y3, z4, z5⟩
    · obtain ⟨p2, o2, y1, y2, y3, y4, y5⟩ := S.own k b1 c1 q
      have hr := calF_own (p0 := p) S hk q y1
      rw [y4] at hr
      exact ⟨p2, o2, y1, S'.dis p2 o2 hr, y3, S'.fr p2 o2 hr, y5.up e⟩
  · rcases at' q with ⟨rfl, h⟩ | ⟨hk, q⟩
    · cases h
      exact S.tag k c hi
    · exact S.tag k c1 q
  · have get : ∀ {k : Nat} {b1 : Bool} {c1 : C}, (env.set i (.own b c'))[k]? = some (SV.own b1 c1) → ∃ b2 c2, env[k]? = some (SV.own b2 c2) := fun q => by
      rcases at' q with ⟨rfl, _⟩ | ⟨_, q⟩
      · exact ⟨_, _, hi⟩
      · exact ⟨_, _, q⟩
    obtain ⟨_, _, g1⟩ := get h1
    obtain ⟨_, _, g2⟩ := get h2
    exact S.inj k l _ _ _ _ a g1 g2 h3 h4
def outM (i j : Nat) (b : Bool) (env : Sl) : FR → Option Re
  | .ok a outs => match outs[j]? with
    | some (.own true c) => (retV a).map (Re.ok · (env.set i (.own b c)))
    | _ => none
  | .ex e outs => match outs[j]? with
    | some (.own true c) => some (.ex e (env.set i (.own b c)))
    | _ => none
def callM (j : Nat) (m : List SV → Option FR) (dfs : List D) (fa : SA) : SE := fun env => bindA (fa env) fun as env1 => match as[j]? with
  | some (.cv i) => (frzs (as.set j (.d .non)) env1).bind fun p => match p.2[i]? with
    | some (.own b c) => (m (((p.1 ++ dfs).map .d).set j (.own true c))).bind (outM i j b p.2)
    | _ => none
  | _ => none
theorem outs_own {s : Option SV} {α : Type} {k : C → Option α} {r : α} (h : (match s with | some (.own true c) => k c | _ => none) = some r) : ∃ c, s = some (.own true c) ∧ k c = some r := by
  cases s with
  | none => cases h
  | some s =>
    cases s with
    | own b c =>
      cases b with
      | true => exact ⟨c, rfl, h⟩
      | false => cases h
    | un => cases h
    | xn _ => cases h
    | d x => cases h
theorem post_outM {vs : List V} {fr : FR} {r : Re} {i j : Nat} {b : Bool} {c : C} {p : Addr} (S : Sta K F R σ H env) (hi : env[i]? = some (.own b c)) (hp : σ[i]? = some (some (V.ref p))) (e : outM i j b env fr = some r) (q : PostE K W F R σ r Q) : PostF K F (calF R σ H env i p) vs fr Q (WE W σ) := by
  cases fr with
  | ex x outs =>
    obtain ⟨c', h1, h2⟩ := outs_own e
    cases h2
    exact fun cls d F' H' e1 S1 hx => q cls d F' H' e1 (S.retM e1 S1 hi hp h1) hx
  | ok a outs =>
    obtain ⟨c', h1, h2⟩ := outs_own e
    rw [Option.map_eq_some_iff] at h2
    obtain ⟨a', h, rfl⟩ := h2
    have ha : a' = a ∧ ∀ i, a ≠ .cv i := by
      cases a with
      | d x => cases h; exact ⟨rfl, by simp⟩
      | own c => cases h; exact ⟨rfl, by simp⟩
      | cv i => cases h
    obtain ⟨rfl, hcv⟩ := ha
    intro v F' H' e1 S1 rv'
    refine q v F' H' e1 (S.retM e1 S1 hi hp h1) ?_
    cases a' with
    | d x => exact rv'
    | cv i => exact absurd rfl (hcv i)
    | own c1 =>
      obtain ⟨p1, o1, z1, z2, z3, z4, z5, z6⟩ := rv'
      obtain ⟨y1, y2⟩ := calF_none S z3
      have tg := S1.tag j c' h1
      have hne : p1 ≠ p := fun z => z6 j true c' h1 (by rw [z]; exact tg)
      refine ⟨p1, o1, z1, z2, y1, z4, z5, fun k b2 c2 hk hz => ?_⟩
      by_cases hki : k = i
      · subst hki
        rw [hp] at hz
        cases hz
        exact hne rfl
      · rw [List.getElem?_set_ne (Ne.symm hki)] at hk
        exact y2 k b2 c2 hki hk hz
theorem ownC {s : Option SV} {α : Type} {k : Bool → C → Option α} {r : α} (h : (match s with | some (.own b c) => k b c | _ => none) = some r) : ∃ b c, s = some (.own b c) ∧ k b c = some r := by
  cases s with
  | none => cases h
  | some s =>
    cases s with
    | own b c => exact ⟨b, c, rfl, h⟩
    | un => cases h
    | xn _ => cases h
    | d x => cases h
theorem asC {s : Option RV} {α : Type} {k : Nat → Option α} {r : α} (h : (match s with | some (.cv i) => k i | _ => none) = some r) : ∃ i, s = some (.cv i) ∧ k i = some r := by
  cases s with
  | none => cases h
  | some s =>
    cases s with
    | cv i => exact ⟨i, rfl, h⟩
    | d x => cases h
    | own c => cases h
theorem dE_callM {np j : Nat} {m : List SV → Option FR} {dfs : List D} {dvs : List V} {fa : SA} (hd : ∀ F : Hp, RelAll K F dvs dfs) (hn : ∀ as fr, m as = some fr → as.length = np) (h : dE K W (callM j m dfs fa) σ H Q) : tCallSD (spD K np m) dvs (WE W) (dA K W fa) σ H Q := by
  obtain ⟨env, F, R, r, S, e, p⟩ := h
  rcases bindA_inv e with ⟨as, env1, h1, h2⟩ | ⟨x, env1, h1, rfl⟩
  · obtain ⟨i, ha, h2⟩ := asC h2
    rw [Option.bind_eq_some_iff] at h2
    obtain ⟨⟨xs, env2⟩, h3, h4⟩ := h2
    obtain ⟨b, c, hi, h4⟩ := ownC h4
    rw [Option.bind_eq_some_iff] at h4
    obtain ⟨fr, h4, h5⟩ := h4
    refine ⟨env, F, R, _, S, h1, fun vs F1 H1 R1 e1 eR S1 hv => ?_⟩
    obtain ⟨v, hvj, hvs⟩ := heldAll_at hv ha
    obtain ⟨F2, R2, e2, eR2, S2, rr⟩ := frzs_held eR S1 (heldAll_set j hv) h3
    have S3 := S2.unhold eR2
    obtain ⟨p0, o0, y1, _⟩ := S3.own i b c hi
    rw [hvs] at y1
    cases y1
    have hjl : j < vs.length := (List.getElem?_eq_some_iff.mp hvj).1
    have rr2 : RelAll K F2 ((vs ++ dvs).set j .non) (xs ++ dfs) := by
      rw [List.set_append_left _ _ hjl]
      exact rr.app (hd F2)
    have hj2 : (vs ++ dvs)[j]? = some (.ref p0) := by rw [List.getElem?_append_left hjl]; exact hvj
    exact ⟨F2, calF R σ H1 env2 i p0, _, fr, hn _ _ h4, S3.callM hi hvs hj2 rr2, h4, post_outM S3 hi hvs h5 (p.up (e1.trans e2))⟩
  · exact ⟨env, F, R, _, S, h1, p⟩
end
theorem pd_callMN {X : Cx} {W : WX} {k l : Nat} {x : Str} {np : Nat} {m : List SV → Option FR} {dfs : List D} {fa : SA} {p pos : Pos} {e : Expr} {es : List Expr} (j : Nat) (C : Def X.prog X.w X.K X.mg X.base k x np m dfs) (hr : Room l X.A) (hj : k ≤ l) (ha : PA X (e :: es) (dA X.K W fa)) (hg : Gl X x := by rfl)
    (hdb : (x == ("__debug__" : Str)) = false := by decide) (he : starEach (e :: es) X.env = (false, eval e X.env) :: starEach es X.env := by rfl) (hpl : (backTo pos (starEach es X.env)).any (·.1) = false := by rfl) :
    PE X (.Call (.Name x p) (e :: es) [] pos) (dE X.K W (callM j m dfs fa)) := by
  obtain ⟨f, fd, ps, ds, dvs, h1, h2, h3, h4, h5, h6, h7⟩ := C.ex
  exact (pe_callSD h1 (hr.mono hj) hg h2 h3 h4 h5 (fun σ pins H s e s' I c => c.elim) ha hdb he hpl).wk fun _ _ _ q => dE_callM h6 h7 q
end
end Dw
namespace Dw
noncomputable section
open PySem PySem.Spec PyProof.Rows L2
variable [Glo] [Tabs]

/-! ### while -/
def whileN (fc : SE) (f : SS) : Nat → SS
  | 0 => fun _ => none
  | n + 1 => fun env => bindS (fc env) fun c env1 => match tru c env1 with
    | some true => match f env1 with
      | some (.nx e2) => whileN fc f n e2
      | some (.ct e2) => whileN fc f n e2
      | some (.bk e2) => some (.nx e2)
      | o => o
    | some false => some (.nx env1)
    | none => none
/-- with turns enough for what is reckoned here -/
def whileS (fc : SE) (f : SS) : SS := whileN fc f 100000
section
variable {K : PySem.W.Frag} {W : WX} {F F' : Hp} {R R' : Fm} {σ : L2.St} {H H' : Hp} {env env' : Sl} {En : Ends}
theorem dS_while {fc : SE} {f : SS} {n0 : Nat} (h : dS K W (whileN fc f n0) En σ H) : tWhile (dT K W fc) (dS K W f) En σ H := by
  obtain ⟨env, F, R, r, S, e, p⟩ := h
  refine ⟨fun n σ' H' => ∃ env' F', Ex F F' ∧ Sta K F' R σ' H' env' ∧ whileN fc f n env' = some r, ⟨n0, env, F, Ex.refl F, S, e⟩, ?_⟩
  rintro n σ1 H1 ⟨env1, F1, e1, S1, h1⟩
  cases n with
  | zero => cases h1
  | succ n =>
    rcases bindS_inv h1 with ⟨a, env2, h2, h3⟩ | ⟨x, env2, h2, rfl⟩
    · refine ⟨env1, F1, R, _, S1, h2, ?_⟩
      cases ht : tru a env2 with
      | none => rw [ht] at h3; cases h3
      | some b =>
        rw [ht] at h3
        refine ⟨b, ht, fun F2 H2 e2 S2 => ?_⟩
        cases b with
        | false =>
          refine iteF ?_
          cases h3
          exact p σ1 F2 H2 (e1.trans e2) S2
        | true =>
          refine iteT ⟨fun σ3 H3 => ∃ env3 F3, Ex F F3 ∧ Sta K F3 R σ3 H3 env3 ∧ whileN fc f n env3 = some r, fun σ3 H3 q => ⟨n, Nat.lt_succ_self n, q⟩, ?_⟩
          dsimp only at h3
          cases hb : f env2 with
          | none => rw [hb] at h3; cases h3
          | some o =>
            rw [hb] at h3
            have e5 : Ex F F2 := e1.trans e2
            refine ⟨env2, F2, R, o, S2, hb, ?_⟩
            cases o with
            | nx env3 => exact fun σ4 F4 H4 e6 S5 => ⟨env3, F4, e5.trans e6, S5, h3⟩
            | ct env3 => exact fun σ4 F4 H4 e6 S5 => ⟨env3, F4, e5.trans e6, S5, h3⟩
            | bk env3 => cases h3; exact fun σ4 F4 H4 e6 S5 => p σ4 F4 H4 (e5.trans e6) S5
            | rt a env3 => cases h3; exact fun v σ4 F4 H4 e6 S5 rv => p v σ4 F4 H4 (e5.trans e6) S5 rv
            | ex x env3 => cases h3; exact fun cls d σ4 F4 H4 e6 S5 hx => p cls d σ4 F4 H4 (e5.trans e6) S5 hx
    · exact ⟨env1, F1, R, _, S1, h2, fun cls d F' H' e2 S2 hx => p cls d σ1 F' H' (e1.trans e2) S2 hx⟩
end
section
variable {X : Cx} {W : WX} {c : Expr} {body : List Stmt} {fc : SE} {f : SS} {pos : Pos}
theorem ps_dwhile (hp : PassesOwn (model X.prog X.w) X.A X.env X.xe) (hc : PT X c (dT X.K W fc)) (hb : PSs X body (dS X.K W f)) : PS X (.While c body [] pos) (dS X.K W (whileS fc f)) := (ps_while hp hc hb).wk fun _ _ _ q => dS_while q
end
section
variable {fc : SE} {f : SS} {env env1 env2 : Sl} {a : RV} {n : Nat}
theorem while_T (h : fc env = some (.ok a env1)) (ht : tru a env1 = some true) (hb : f env1 = some (.nx env2)) : whileN fc f (n + 1) env = whileN fc f n env2 := by
  show bindS (fc env) _ = _
  unfold bindS
  rw [h]
  dsimp only
  rw [ht]
  dsimp only
  rw [hb]
theorem while_F (h : fc env = some (.ok a env1)) (ht : tru a env1 = some false) : whileN fc f (n + 1) env = some (.nx env1) := by
  show bindS (fc env) _ = _
  unfold bindS
  rw [h]
  dsimp only
  rw [ht]
end
end
end Dw
namespace Dw
noncomputable section
open PySem PySem.Spec PyProof.Rows L2
variable [Glo] [Tabs]

/-! ### a, b = .. -/
def asgT (tg : Tg) (fe : SE) : SS := fun env => bindS (fe env) fun a env1 => (frz a env1).bind fun p => (putT tg p.1 p.2).map .nx
section
variable {K : PySem.W.Frag} {W : WX} {σ : L2.St} {H : Hp} {En : Ends}
theorem dS_asgT {tg : Tg} {fe : SE} (h : dS K W (asgT tg fe) En σ H) : tAsg (dE K W fe) (gT K tg) En σ H := by
  obtain ⟨env, F, R, r, S, e, p⟩ := h
  rcases bindS_inv e with ⟨a, env1, h1, h2⟩ | ⟨x, env1, h1, rfl⟩
  · rw [Option.bind_eq_some_iff] at h2
    obtain ⟨⟨x, env2⟩, h3, h4⟩ := h2
    rw [Option.map_eq_some_iff] at h4
    obtain ⟨env3, h5, rfl⟩ := h4
    refine ⟨env, F, R, _, S, h1, fun v F1 H1 e1 S1 rv => ?_⟩
    obtain ⟨F2, e2, S2, r2⟩ := frz_ok S1 rv h3
    exact putT_ok S2 r2 h5 fun σ' S3 => p σ' F2 H1 (e1.trans e2) S3
  · exact ⟨env, F, R, _, S, h1, fun cls d F' H' e1 S1 hx => p cls d σ F' H' e1 S1 hx⟩
end
section
variable {X : Cx} {W : WX} {tg e : Expr} {t : Tg} {fe : SE} {pos : Pos}
theorem ps_dasgT (he : PE X e (dE X.K W fe)) (hg : PG X tg (gT X.K t)) (hs : swapsWithSole [tg] e pos.line X.env = pure false := by rfl) (hw : swappedStores [tg] e X.env = pure none := by rfl)
    (h1 : (assignEach [tg] X.env).map (·.2) = [assign tg X.env] := by rfl) : PS X (.Assign [tg] e pos) (dS X.K W (asgT t fe)) := (ps_asg he hg hs hw h1).wk fun _ _ _ q => dS_asgT q
end
/-! ### divmod -/
def divmodC : List D → Option RV
  | [.int i, .int j] => if okP (0 < j ∧ j < 1073741824) then some (.d (.tup [.int (i / j), .int (i % j)])) else none
  | _ => none
def rDivmod : List V → Hp → VK → Prop := fun xs H Q => ∃ i j, xs = [.int i, .int j] ∧ CDiv i j ∧ ∀ p, H p = none → Q (.ref p) (upd H p (.tup [.int (i / j), .int (i % j)]))
theorem cr_divmod {X : Cx} : CallR X (.builtin "divmod") rDivmod := call_divmod
theorem snd_divmod {K : PySem.W.Frag} : SndC K divmodC rDivmod := by
  intro W F R σ H env Q xs vs z S h e p
  match xs, h, e with
  | [.int i, .int j], h, e =>
    obtain ⟨c, rfl⟩ := some_if e
    rw [okP_iff] at c
    obtain ⟨v, w, rfl, hv, hw⟩ := vw2 h
    cases hv
    cases hw
    exact ⟨i, j, rfl, by simpa [CDiv] using c, fun q hq => post_tup S p hq (.cons (.int _) (.cons (.int _) .nil))⟩
end
end Dw
namespace Dw
noncomputable section
open PySem PySem.Spec PyProof.Rows L2 RT
variable [Glo] [Tabs]
section
variable {prog : Program} {w : World} {A : Around} {E : Value → Shared → Prop} {s : Shared} {x : Str} {t : Tok} {Q : Value → Shared → Prop}
theorem join_rev {it l : Addr} {items : Array Value} (hh : A.handled = none) (hit : s.heap.IsRevIter it l ((items.size : Int) - 1)) (hl : s.heap.IsList l items) (hne : l ≠ it) (hn : items.size ≤ sizeLine)
    (hstr : ∀ v ∈ items.toList, ∃ y u, v = Value.str y u)
    (hq : ∀ (h' : Heap) (tk : Nat) (ls : List (Str × Tok)), (∀ b o, b ≠ it → s.heap.get? b = some o → h'.get? b = some o) → ItemsOf (fun i v => items[items.size - 1 - i]? = some v) (strValues ls).toArray items.size → JoinOk x (ls.map (·.1)) = true ∧ ∀ t' k, Q (.str (Txt.join x (ls.map (·.1))) t') { s with heap := h', toks := k }) :
    wpAny (model prog w) A (call (.builtin "str.join") [.str x t, .ref it]) Q E s := by
  refine wpAny_call (codeAny_call_builtin F.slot_str_join.plain F.entry_str_join (F.slot_str_join.check _ _ _ _ _ _ _ _ (typeIs_str _ _ _) (F.args_str_join_2 _ _) ?_))
  rw [join_tree_other]
  have hT : s.TypeIs (.ref it) "list_reverseiterator" := hit.typeIs
  refine wpAny_bind (wpAny_typeOf hT ?_)
  show wpAny _ A.in1 ((pyIter (.ref it)).tryCatch _ >>= fun it => collect it >>= fun items => joinTail x items) _ _ s
  refine wpAny_bind (wpAny_tryCatch (wpAny_pyIter_revIter hit ?_))
  have hh1 : A.in1.handled = none := hh
  refine wpAny_bind (collect_rev (A := A.in1) hh1 hit hl hne hn fun h' tk acc hk hacc => ?_)
  obtain ⟨ls, hls⟩ := exists_strValues acc.toList fun v hv => by
    obtain ⟨j, hj, rfl⟩ := Array.mem_iff_getElem.mp (Array.mem_toList_iff.mp hv)
    have := hacc.2 j _ (Array.getElem?_eq_getElem hj)
    obtain ⟨hk2, e2⟩ := Array.getElem?_eq_some_iff.mp this
    exact hstr _ (by rw [← e2]; exact Array.getElem_mem_toList hk2)
  rw [← hls]
  have hacc' : ItemsOf (fun i v => items[items.size - 1 - i]? = some v) (strValues ls).toArray items.size := by rw [hls]; simpa using hacc
  obtain ⟨hok, hpost⟩ := hq h' tk ls hk hacc'
  unfold JoinOk at hok
  rw [Bool.not_eq_true'] at hok
  have g : Gives (joinTail x (strValues ls)) (joinMade x ls) := by
    have g0 := gives_joinTail x ls hok
    cases ls with
    | nil => exact g0
    | cons p r => cases r with
      | nil => exact g0
      | cons q r' => exact g0
  exact g prog w A (wants Q E) { s with heap := h', toks := tk } (post_join ls ⟨joinFit_length hok, fun t' k => hpost t' k⟩)
end
def tJoinRev (K : PySem.W.Frag) (to te : TE) : TE := fun σ H Q => to σ H fun x H1 => ∃ a, x = .str a ∧ te σ H1 fun y H2 => ∃ q, ∃ ys : List Str, y = .ref q ∧ SqL K H2 q (ys.map V.str) ∧ (ys.map (·.length)).sum + ys.length * a.length ≤ 16777216 ∧ Q (.str (Txt.join a ys.reverse)) H2
theorem pe_joinRev {X : Cx} {o e : Expr} {to te : TE} {apos pos p pos2 : Pos} (hc : X.calm = true) (ho : PE X o to) (hg : Gl X "reversed") (hm : X.mg "reversed" = none) (he : PE X e te)
    (hs1 : starEach [.Call (.Name "reversed" p) [e] [] pos2] X.env = [(false, eval (.Call (.Name "reversed" p) [e] [] pos2) X.env)] := by rfl) (hs : starEach [e] X.env = (false, eval e X.env) :: starEach [] X.env := by rfl)
    (hbase : attributeBase o "join" X.env (eval o X.env) = eval o X.env := by rfl) (hline : (apos.endLine == pos.line) = true := by rfl) :
    PE X (.Call (.Attribute o "join" apos) [.Call (.Name "reversed" p) [e] [] pos2] [] pos) (tJoinRev X.K to te) := by
  refine ⟨fun pins s σ H Q I h => ?_⟩
  refine PySem.Call_method1 hbase hs1 hline (thn (ho.run pins s σ H _ I h) fun v s1 ⟨x, H1, I1, r1, q1⟩ => ?_)
  obtain ⟨a, rfl, q1⟩ := q1
  obtain ⟨t, rfl⟩ := _root_.id r1
  refine ⟨"str", _, F.plainAttrs_str, F.slot_str_join, F.type_str_join, typeIs_str _ _ _, (fun _ e => nomatch e), Calls.callWith_builtin rfl (Calls.evalArgs_plain (Calls.spliced_cons ?_))⟩
  refine Call_ (ld_blt I1 hg hm PyProof.Rows.boot_reversed (PyProof.Rows.callWith_type1 (args_cons (thn (he.run pins s1 σ H1 _ I1 q1) fun u s2 ⟨y, H2, I2, r2, q2⟩ => args_nil ?_) hs) hs rfl))
  obtain ⟨q, ys, rfl, hq, hz, q2⟩ := q2
  obtain rfl : u = Value.ref q := r2
  obtain ⟨its, rv, p', hsz⟩ := I2.list hq
  refine call_reversed_list p'.isList (Calls.spliced_nil ?_)
  have k0 : ∀ b o, s2.heap.get? b = some o → (s2.heap.push (revObj q ((its.toArray.size : Int) - 1))).get? b = some o := fun b o e => Heap.get?_push_of_some _ e
  have I3 : Inv X pins σ H2 { s2 with heap := s2.heap.push (revObj q ((its.toArray.size : Int) - 1)) } := I2.kept (t' := s2.toks) k0
  obtain ⟨f0, f1, f2, f3, f4, f5⟩ := I2.fpOk (H' := H2) (b := s2.heap.objs.size) (Nat.le_refl _) (I2.hok.fresh (Nat.le_refl _))
  have hl := p'.isList
  obtain ⟨ol, hol, _⟩ := id hl
  have hne : q ≠ s2.heap.objs.size := Nat.ne_of_lt (Heap.lt_size hol)
  have hn : its.toArray.size ≤ sizeLine := by rw [List.size_toArray, ← rv.length]; exact hsz
  refine join_rev (s := { s2 with heap := s2.heap.push (revObj q ((its.toArray.size : Int) - 1)) }) (I2.ok.hd hc) ⟨_, Heap.get?_push_size _ rfl, rfl, rfl⟩ (hl.push _) hne hn (fun v hv => ?_) fun h' tk ls hk hi => ?_
  · have : StrsAre its ys := strs_of_vals rv
    rw [List.toList_toArray] at hv
    obtain ⟨l2, e2, _⟩ := strsAre_values this
    rw [e2] at hv
    unfold strValues at hv
    obtain ⟨z, _, rfl⟩ := List.mem_map.mp hv
    exact ⟨z.1, z.2, rfl⟩
  · have rr : Vals (ys.map V.str).reverse (strValues ls).toArray.toList := vals_rev rv hi
    rw [List.toList_toArray, ← List.map_reverse] at rr
    have e1 : ls.map (·.1) = ys.reverse := by
      have h1 : StrsAre (strValues ls) ys.reverse := strs_of_vals rr
      obtain ⟨l2, e2, e3⟩ := strsAre_values h1
      have : l2 = ls := by
        have inj : ∀ (a b : List (Str × Tok)), strValues a = strValues b → a = b := by
          intro a
          induction a with
          | nil => intro b h; cases b with
            | nil => rfl
            | cons _ _ => simp [strValues] at h
          | cons p a ih =>
            intro b h
            cases b with
            | nil => simp [strValues] at h
            | cons r b =>
              simp only [strValues, List.map_cons, List.cons.injEq, Value.str.injEq] at h
              obtain ⟨⟨h1, h2⟩, h3⟩ := h
              rw [ih b h3]
              cases p
              cases r
              simp only at h1 h2
              rw [h1, h2]
        exact inj _ _ e2.symm
      rw [← this, e3]
    rw [e1]
    refine ⟨joinOk_of (by rw [List.map_reverse, List.sum_reverse, List.length_reverse]; exact hz), fun t' k => ?_⟩
    have I4 : Inv X pins σ H2 { s2 with heap := h', toks := k } := I3.turned (t' := k) (fun b o hb e => hk b o hb e) f0 f1 f3 f4 f5
    exact ⟨.str _, H2, I4, ⟨t', rfl⟩, q2⟩
/-! ### join of reversed: the meaning -/
def joinRevE (fo fe : SE) : SE := fun env => bindE (fo env) fun a env1 => match a with
  | .d (.str x) => bindE (fe env1) fun b env2 => match pk b env2 with
    | some (.lst xs) => (txts xs).bind fun ys => if (ys.map (·.length)).sum + ys.length * x.length ≤ 100000 then some (.ok (.d (.str (TL.joinL x ys.reverse))) env2) else none
    | _ => none
  | _ => none
section
variable {K : PySem.W.Frag} {W : WX} {F F' : Hp} {R R' : Fm} {σ : L2.St} {H H' : Hp} {env env' : Sl} {Q : VK}
theorem dE_joinRev {fo fe : SE} (h : dE K W (joinRevE fo fe) σ H Q) : tJoinRev K (dE K W fo) (dE K W fe) σ H Q := by
  obtain ⟨env, F, R, S, q⟩ := of_dE h
  refine dE_of S (atE_bind q fun a env1 F1 v H1 e1 S1 rv q1 => ?_)
  cases a with
  | d x =>
    cases x with
    | str x =>
      cases rv
      refine ⟨mk x, rfl, dE_of S1 (atE_bind (k := fun b env2 => match pk b env2 with | some (.lst xs) => (txts xs).bind fun ys => if (ys.map (·.length)).sum + ys.length * x.length ≤ 100000 then some (.ok (.d (.str (TL.joinL x ys.reverse))) env2) else none | _ => none) q1 fun b env2 F2 w H2 e2 S2 rw' q2 => ?_)⟩
      obtain ⟨r, e, p⟩ := q2
      dsimp only at e
      cases hx : pk b env2 with
      | none => rw [hx] at e; cases e
      | some y =>
        rw [hx] at e
        cases y with
        | lst xs =>
          dsimp only at e
          rw [Option.bind_eq_some_iff] at e
          obtain ⟨ys, h1, e⟩ := e
          obtain ⟨c, rfl⟩ := some_if e
          obtain ⟨q, vs, rfl, sq, rr⟩ := (show ∃ p vs, w = .ref p ∧ SqL K H2 p vs ∧ RelAll K F2 vs xs from pk_vw S2 rw' hx)
          have := txts_rel rr h1
          subst this
          refine ⟨q, ys.map mk, rfl, sq, ?_, ?_⟩
          · rw [lens_mk, List.length_map, mk_len]
            omega
          · rw [← List.map_reverse, join_mk]
            exact post_d S2 p (.str _)
        | _ => cases e
    | _ => obtain ⟨r, e, _⟩ := q1; cases e
  | own c => obtain ⟨r, e, _⟩ := q1; cases e
  | cv i => obtain ⟨r, e, _⟩ := q1; cases e
end
section
variable {X : Cx} {W : WX} {o e : Expr} {fo fe : SE} {apos pos p pos2 : Pos}
theorem pd_joinRev (hc : X.calm = true) (hm : X.mg "reversed" = none) (ho : PE X o (dE X.K W fo)) (he : PE X e (dE X.K W fe)) (hg : Gl X "reversed" := by rfl)
    (hs1 : starEach [.Call (.Name "reversed" p) [e] [] pos2] X.env = [(false, eval (.Call (.Name "reversed" p) [e] [] pos2) X.env)] := by rfl) (hs : starEach [e] X.env = (false, eval e X.env) :: starEach [] X.env := by rfl)
    (hbase : attributeBase o "join" X.env (eval o X.env) = eval o X.env := by rfl) (hline : (apos.endLine == pos.line) = true := by rfl) :
    PE X (.Call (.Attribute o "join" apos) [.Call (.Name "reversed" p) [e] [] pos2] [] pos) (dE X.K W (joinRevE fo fe)) := (pe_joinRev hc ho hg hm he hs1 hs hbase hline).wk fun _ _ _ q => dE_joinRev q
end
end
end Dw
namespace Dw
noncomputable section
open PySem PySem.Spec PyProof.Rows L2
variable [Glo] [Tabs]
open PySem.Sem (wp)

/-! ### zip of two things, each a list or a tuple (t: a tuple) -/
def ItB (t : Bool) (h : Heap) (it l : Addr) (k : Nat) : Prop := if t then h.IsTupleIter it l k else h.IsListIter it l k
def SqB (t : Bool) (h : Heap) (l : Addr) (xs : Array Value) : Prop := if t then h.IsTuple l xs else h.IsList l xs
section
variable {t u : Bool} {h h' : Heap} {it l c : Addr} {k : Nat} {xs : Array Value}
theorem ItB.but (q : ItB t h it l k) (e : Heap.ExtBut c h h') (n : it ≠ c) : ItB t h' it l k := by
  cases t
  · exact Heap.IsListIter.extBut q e n
  · exact Heap.IsTupleIter.extBut q e n
theorem SqB.but (q : SqB t h l xs) (e : Heap.ExtBut c h h') (n : l ≠ c) : SqB t h' l xs := by
  cases t
  · exact Heap.IsList.extBut q e n
  · exact Heap.IsTuple.extBut q e n
theorem ItB.keep (q : ItB t h it l k) (e : ∀ o, h.get? it = some o → h'.get? it = some o) : ItB t h' it l k := by
  cases t
  · exact Heap.IsListIter.at q e
  · exact Heap.IsTupleIter.at q e
theorem SqB.push (q : SqB t h l xs) (o : Obj) : SqB t (h.push o) l xs := by
  cases t
  · exact Heap.IsList.push q o
  · exact Heap.IsTuple.push q o
theorem ItB.obj (q : ItB t h it l k) : ∃ o, h.get? it = some o ∧ ∀ v, o.data ≠ .cell v := by
  cases t
  · obtain ⟨o, ho, _, hd⟩ := (q : h.IsListIter it l k)
    exact ⟨o, ho, fun v z => by rw [hd] at z; cases z⟩
  · obtain ⟨o, ho, _, hd⟩ := (q : h.IsTupleIter it l k)
    exact ⟨o, ho, fun v z => by rw [hd] at z; cases z⟩
theorem ItB.lt (q : ItB t h it l k) : it < h.objs.size := let ⟨_, e, _⟩ := q.obj; Heap.lt_size e
theorem SqB.lt (q : SqB t h l xs) : l < h.objs.size := by
  cases t
  · obtain ⟨o, ho, _⟩ := (q : h.IsList l xs)
    exact Heap.lt_size ho
  · obtain ⟨o, ho, _⟩ := (q : h.IsTuple l xs)
    exact Heap.lt_size ho
def itO (t : Bool) (l : Addr) : Obj := { cls := .type (if t then "tuple_iterator" else "list_iterator"), data := .fields #[.ref l, .int 0 0] }
theorem ItB.new (e : h.get? it = some (itO t l)) : ItB t h it l 0 := by
  cases t
  · exact ⟨_, e, rfl, rfl⟩
  · exact ⟨_, e, rfl, rfl⟩
end
section
variable {prog : Program} {w : World} {A : Around} {E : Value → Shared → Prop} {s : Shared} {t u : Bool}
theorem next_itB {it l : Addr} {i : Nat} {xs : Array Value} {x : Value} {Q : Value → Shared → Prop} (q : ItB t s.heap it l i) (ql : SqB t s.heap l xs) (hx : xs[i]? = some x)
    (k : ∀ h', ItB t h' it l (i + 1) → Heap.SameBut it s.heap h' → Q x { s with heap := h' }) : wpAny (model prog w) A (Builtin.SmallTypes.nextOf (.ref it)) Q E s := by
  cases t
  · exact wpAny_nextOf_list_item q ql hx fun h' a b => k h' a b
  · exact RZ.nextOf_tuple_item q ql hx fun h' a b => k h' a b
theorem stop_itB {it l : Addr} {i : Nat} {xs : Array Value} {Q : Value → Shared → Prop} (hh : A.handled = none) (q : ItB t s.heap it l i) (ql : SqB t s.heap l xs) (hx : xs[i]? = none)
    (k : ∀ h' e, Heap.ExtBut it s.heap h' → (∃ o, h'.get? e = some o ∧ o.cls = .type "StopIteration") → E (.ref e) { s with heap := h' }) : wpAny (model prog w) A (Builtin.SmallTypes.nextOf (.ref it)) Q E s := by
  cases t
  · exact wpAny_nextOf_list_end hh q ql hx fun h' e a b => k h' e a b
  · exact RZ.nextOf_tuple_end hh q ql hx fun h' e a b => k h' e a b
end
end
end Dw
namespace Dw
noncomputable section
open PySem PySem.Spec PyProof.Rows L2
variable [Glo] [Tabs]
/-- what a turn of zip leaves as it was -/
def ZKeep (z TO p q : Addr) (h h' : Heap) : Prop := ∀ c o, c ≠ z → c ≠ TO → c ≠ p → c ≠ q → h.get? c = some o → h'.get? c = some o
section
variable {prog : Program} {w : World} {A : Around} {E : Value → Shared → Prop} {s : Shared} {t u : Bool} {z TI TO p q la lb : Addr} {m n : Nat} {xs ys : Array Value} {v0 v1 : Value}
theorem zipB_item {x y : Value} {Q : Value → Shared → Prop} (D : ZipApart z TI TO p q la lb) (hz : IsZip s.heap z TI TO .none) (hi : IsPair s.heap TI (.ref p) (.ref q)) (ho : IsPair s.heap TO v0 v1)
    (a1 : ItB t s.heap p la m) (a2 : ItB u s.heap q lb n) (b1 : SqB t s.heap la xs) (b2 : SqB u s.heap lb ys) (ex : xs[m]? = some x) (ey : ys[n]? = some y)
    (k : ∀ h', IsZip h' z TI TO (rawInt s.heap.objs.size) → IsPair h' TO x y → ItB t h' p la (m + 1) → ItB u h' q lb (n + 1) → IsPair h' s.heap.objs.size x y → h'.objs.size = s.heap.objs.size + 1 → ZKeep z TO p q s.heap h' → Q (.ref s.heap.objs.size) { s with heap := h' }) :
    wpAny (model prog w) A (Builtin.«zip.__next__» ⟨[.ref z], []⟩) (fun fin s' => ∃ v, fin = .done (.ret v) ∧ Q v s') E s := by
  (show wpAny _ _ (field (.ref z) 2 >>= _) _ _ _); refine wpAny_bind (wpAny_field hz rfl (x := .bool false) rfl ?_)
  (show wpAny _ _ (field (.ref z) 3 >>= _) _ _ _); refine wpAny_bind (wpAny_field hz rfl (x := .ref TI) rfl ?_)
  refine wpAny_bind (wpAny_seqItems hi rfl ?_); (show wpAny _ _ (Builtin.SmallTypes.ownedTupleIsFree (.ref z) >>= _) _ _ _); refine wpAny_bind ?_
  unfold Builtin.SmallTypes.ownedTupleIsFree; refine wpAny_bind (wpAny_field hz rfl (x := .none) rfl (wpAny_pure ?_)); simp only [if_true]
  refine wpAny_bind (wpAny_rule ?_); refine wpAny_bind (wpAny_field hz rfl (x := .ref TO) rfl ?_)
  refine wpAny_bind (wpAny_setField_rec hz (by simp) fun g1 z1 k1 => ?_)
  have z1 : IsZip g1 z TI TO .ellipsis := z1
  refine wpAny_bind ?_; simp only [List.zipIdx_cons, List.zipIdx_nil, List.forIn_cons, List.forIn_nil]
  refine wpAny_bind (wpAny_bind (wpAny_onRaise ?_)); (show wpAny _ _ (Builtin.SmallTypes.nextOf (.ref p) >>= _) _ _ _)
  refine wpAny_bind (next_itB (a1.but k1.extBut D.i1z) (b1.but k1.extBut D.l1z) ex fun g2 n1 k2 => wpAny_pure ?_)
  have o2 : IsPair g2 TO v0 v1 := k2.extBut _ _ D.TOi1 (k1.extBut _ _ D.TOz ho)
  refine wpAny_bind (wpAny_seqItems o2 rfl ?_); refine wpAny_bind (wpAny_updateSeq_pair o2 fun g3 o3 k3 => ?_)
  have o3 : IsPair g3 TO x v1 := o3
  refine wpAny_bind (wpAny_letGo (wpAny_pure ?_)); refine wpAny_bind (wpAny_bind (wpAny_onRaise ?_)); (show wpAny _ _ (Builtin.SmallTypes.nextOf (.ref q) >>= _) _ _ _)
  refine wpAny_bind (next_itB (((a2.but k1.extBut D.i2z).but k2.extBut D.i12.symm).but k3.extBut D.TOi2.symm) (((b2.but k1.extBut D.l2z).but k2.extBut D.l2i1).but k3.extBut D.l2TO) ey fun g4 n2 k4 => wpAny_pure ?_)
  have o4 : IsPair g4 TO x v1 := k4.extBut _ _ D.TOi2 o3
  refine wpAny_bind (wpAny_seqItems o4 rfl ?_); refine wpAny_bind (wpAny_updateSeq_pair o4 fun g5 o5 k5 => ?_)
  have o5 : IsPair g5 TO x y := o5
  refine wpAny_bind (wpAny_letGo (wpAny_pure (wpAny_pure ?_))); refine wpAny_bind (wpAny_seqItems o5 rfl ?_); refine wpAny_bind (wpAny_newTuple ?_)
  have sz : g5.objs.size = s.heap.objs.size := by rw [k5.1, k4.1, k3.1, k2.1, k1.1]
  have z5 : IsZip g5 z TI TO .ellipsis := k5.extBut _ _ D.TOz.symm (k4.extBut _ _ D.i2z.symm (k3.extBut _ _ D.TOz.symm (k2.extBut _ _ D.i1z.symm z1)))
  have kk : ZKeep z TO p q s.heap g5 := fun c o c1 c2 c3 c4 e => k5.extBut _ _ c2 (k4.extBut _ _ c4 (k3.extBut _ _ c2 (k2.extBut _ _ c3 (k1.extBut _ _ c1 e))))
  have p5 : ItB t g5 p la (m + 1) := ((n1.but k3.extBut D.TOi1.symm).but k4.extBut D.i12).but k5.extBut D.TOi1.symm
  have q5 : ItB u g5 q lb (n + 1) := n2.but k5.extBut D.TOi2.symm
  have zl : z < g5.objs.size := Heap.lt_size z5
  (show wpAny _ _ (Builtin.SmallTypes.ownedTupleHandOut (.ref z) (.ref g5.objs.size) >>= _) _ _ _); refine wpAny_bind ?_
  unfold Builtin.SmallTypes.ownedTupleHandOut
  have z6 : IsZip (g5.push { cls := .type "tuple", data := .seq #[x, y] }) z TI TO .ellipsis := Heap.get?_push_of_some _ z5
  refine wpAny_bind (wpAny_setField_rec z6 (by simp) fun g7 z7 k7 => ?_)
  have z7 : IsZip g7 z TI TO (rawInt g5.objs.size) := z7
  refine wpAny_setField_rec z7 (by simp) fun g8 z8 k8 => ?_
  have z8 : IsZip g8 z TI TO (rawInt g5.objs.size) := z8
  have up : ∀ c o, c ≠ z → g5.get? c = some o → g8.get? c = some o := fun c o c1 e => k8.extBut _ _ c1 (k7.extBut _ _ c1 (Heap.get?_push_of_some _ e))
  have t8 : IsPair g8 g5.objs.size x y := k8.extBut _ _ (Nat.ne_of_gt zl) (k7.extBut _ _ (Nat.ne_of_gt zl) (Heap.get?_push_size _ rfl))
  have s8 : g8.objs.size = g5.objs.size + 1 := by rw [k8.1, k7.1, Heap.size_push]
  rw [sz] at z8 t8 s8
  refine wpAny_pure ⟨_, rfl, ?_⟩
  (show Q (.ref g5.objs.size) _); rw [sz]
  exact k g8 z8 (up _ _ D.TOz o5) (p5.keep fun o e => up _ o D.i1z e) (q5.keep fun o e => up _ o D.i2z e) t8 s8 fun c o c1 c2 c3 c4 e => up c o c1 (kk c o c1 c2 c3 c4 e)
theorem zipB_stop {Q : Fin → Shared → Prop} (hh : A.handled = none) (D : ZipApart z TI TO p q la lb) (hz : IsZip s.heap z TI TO .none) (hi : IsPair s.heap TI (.ref p) (.ref q)) (ho : IsPair s.heap TO v0 v1)
    (a1 : ItB t s.heap p la m) (a2 : ItB u s.heap q lb n) (b1 : SqB t s.heap la xs) (b2 : SqB u s.heap lb ys) (en : xs[m]? = none ∨ ys[n]? = none)
    (k : ∀ h' e, ZKeep z TO p q s.heap h' → (∃ o, h'.get? e = some o ∧ o.cls = .type "StopIteration") → E (.ref e) { s with heap := h' }) : wpAny (model prog w) A (Builtin.«zip.__next__» ⟨[.ref z], []⟩) Q E s := by
  (show wpAny _ _ (field (.ref z) 2 >>= _) _ _ _); refine wpAny_bind (wpAny_field hz rfl (x := .bool false) rfl ?_)
  (show wpAny _ _ (field (.ref z) 3 >>= _) _ _ _); refine wpAny_bind (wpAny_field hz rfl (x := .ref TI) rfl ?_)
  refine wpAny_bind (wpAny_seqItems hi rfl ?_); (show wpAny _ _ (Builtin.SmallTypes.ownedTupleIsFree (.ref z) >>= _) _ _ _); refine wpAny_bind ?_
  unfold Builtin.SmallTypes.ownedTupleIsFree; refine wpAny_bind (wpAny_field hz rfl (x := .none) rfl (wpAny_pure ?_)); simp only [if_true]
  refine wpAny_bind (wpAny_rule ?_); refine wpAny_bind (wpAny_field hz rfl (x := .ref TO) rfl ?_)
  refine wpAny_bind (wpAny_setField_rec hz (by simp) fun g1 z1 k1 => ?_)
  have z1 : IsZip g1 z TI TO .ellipsis := z1
  refine wpAny_bind ?_; simp only [List.zipIdx_cons, List.zipIdx_nil, List.forIn_cons, List.forIn_nil]
  refine wpAny_bind (wpAny_bind (wpAny_onRaise ?_)); (show wpAny _ _ (Builtin.SmallTypes.nextOf (.ref p) >>= _) _ _ _)
  cases ex : xs[m]? with
  | none =>
    refine wpAny_bind (stop_itB hh (a1.but k1.extBut D.i1z) (b1.but k1.extBut D.l1z) ex fun g2 e k2 ⟨oe, he, ce⟩ => ?_)
    have z2 : IsZip g2 z TI TO .ellipsis := k2 _ _ D.i1z.symm z1
    have ne : e ≠ z := fun r => by subst r; rw [z2] at he; cases he; simp at ce
    exact wpAny_setField_rec z2 (by simp) fun g3 _ k3 => k g3 e (fun c o c1 _ c3 _ r => k3.extBut _ _ c1 (k2 _ _ c3 (k1.extBut _ _ c1 r))) ⟨oe, k3.extBut _ _ ne he, ce⟩
  | some x =>
    have ey : ys[n]? = none := en.resolve_left (by rw [ex]; simp)
    refine wpAny_bind (next_itB (a1.but k1.extBut D.i1z) (b1.but k1.extBut D.l1z) ex fun g2 n1 k2 => wpAny_pure ?_)
    have o2 : IsPair g2 TO v0 v1 := k2.extBut _ _ D.TOi1 (k1.extBut _ _ D.TOz ho)
    refine wpAny_bind (wpAny_seqItems o2 rfl ?_); refine wpAny_bind (wpAny_updateSeq_pair o2 fun g3 o3 k3 => ?_)
    refine wpAny_bind (wpAny_letGo (wpAny_pure ?_)); refine wpAny_bind (wpAny_bind (wpAny_onRaise ?_)); (show wpAny _ _ (Builtin.SmallTypes.nextOf (.ref q) >>= _) _ _ _)
    refine wpAny_bind (stop_itB hh (((a2.but k1.extBut D.i2z).but k2.extBut D.i12.symm).but k3.extBut D.TOi2.symm) (((b2.but k1.extBut D.l2z).but k2.extBut D.l2i1).but k3.extBut D.l2TO) ey fun g4 e k4 ⟨oe, he, ce⟩ => ?_)
    have z4 : IsZip g4 z TI TO .ellipsis := k4 _ _ D.i2z.symm (k3.extBut _ _ D.TOz.symm (k2.extBut _ _ D.i1z.symm z1))
    have ne : e ≠ z := fun r => by subst r; rw [z4] at he; cases he; simp at ce
    exact wpAny_setField_rec z4 (by simp) fun g5 _ k5 => k g5 e (fun c o c1 c2 c3 c4 r => k5.extBut _ _ c1 (k4 _ _ c4 (k3.extBut _ _ c2 (k2.extBut _ _ c3 (k1.extBut _ _ c1 r))))) ⟨oe, k5.extBut _ _ ne he, ce⟩
theorem pyNext_zipB {x y : Value} {Q : Option Value → Shared → Prop} (D : ZipApart z TI TO p q la lb) (hz : IsZip s.heap z TI TO .none) (hi : IsPair s.heap TI (.ref p) (.ref q)) (ho : IsPair s.heap TO v0 v1)
    (a1 : ItB t s.heap p la m) (a2 : ItB u s.heap q lb n) (b1 : SqB t s.heap la xs) (b2 : SqB u s.heap lb ys) (ex : xs[m]? = some x) (ey : ys[n]? = some y)
    (k : ∀ h', IsZip h' z TI TO (rawInt s.heap.objs.size) → IsPair h' TO x y → ItB t h' p la (m + 1) → ItB u h' q lb (n + 1) → IsPair h' s.heap.objs.size x y → h'.objs.size = s.heap.objs.size + 1 → ZKeep z TO p q s.heap h' → Q (some (.ref s.heap.objs.size)) { s with heap := h' }) :
    wpAny (model prog w) A (pyNext (.ref z)) Q E s := by
  have ty : s.TypeIs (.ref z) "zip" := ⟨_, hz, rfl⟩
  exact wpAny_bind (wpAny_attempt (wpAny_callSpecial?_slot (name := Str.ofString "__next__") ty F.slot_zip_next (wpAny_call_entry F.slot_zip_next ty F.entry_zip_next
    (zipB_item D hz hi ho a1 a2 b1 b2 ex ey fun h' c1 c2 c3 c4 c5 c6 c7 => wpAny_pure (k h' c1 c2 c3 c4 c5 c6 c7)) (F.args_zip_next_1 _))))
theorem pyNext_zipB_stop {Q : Option Value → Shared → Prop} (hh : A.handled = none) (D : ZipApart z TI TO p q la lb) (hz : IsZip s.heap z TI TO .none) (hi : IsPair s.heap TI (.ref p) (.ref q)) (ho : IsPair s.heap TO v0 v1)
    (a1 : ItB t s.heap p la m) (a2 : ItB u s.heap q lb n) (b1 : SqB t s.heap la xs) (b2 : SqB u s.heap lb ys) (en : xs[m]? = none ∨ ys[n]? = none)
    (k : ∀ h', ZKeep z TO p q s.heap h' → Q none { s with heap := h' }) : wpAny (model prog w) A (pyNext (.ref z)) Q E s := by
  have ty : s.TypeIs (.ref z) "zip" := ⟨_, hz, rfl⟩
  refine wpAny_bind (wpAny_attempt (wpAny_callSpecial?_slot (name := Str.ofString "__next__") ty F.slot_zip_next (wpAny_call_entry F.slot_zip_next ty F.entry_zip_next
    (zipB_stop hh D hz hi ho a1 a2 b1 b2 en fun h' e hk ⟨o, oe, ce⟩ => ?_) (F.args_zip_next_1 _))))
  exact wpAny_bind (wpAny_isInstance (T := "StopIteration") (b := true) ⟨o, oe, ce⟩ isSubtype_stop (wpAny_pure (k _ hk)))
end
/-! ### a new zip -/
abbrev zB1 (t : Bool) (h : Heap) (a : Addr) : Heap := h.push (itO t a)
abbrev zB2 (t u : Bool) (h : Heap) (a b : Addr) : Heap := (zB1 t h a).push (itO u b)
abbrev zB3 (t u : Bool) (h : Heap) (a b : Addr) : Heap := (zB2 t u h a b).push { cls := .type "tuple", data := .seq #[.ref h.objs.size, .ref (zB1 t h a).objs.size] }
abbrev zB4 (t u : Bool) (h : Heap) (a b : Addr) : Heap := (zB3 t u h a b).push { cls := .type "tuple", data := .seq #[.none, .none] }
abbrev zB5 (t u : Bool) (h : Heap) (a b : Addr) : Heap := (zB4 t u h a b).push { cls := .type "zip", data := .fields #[.none, .bool false, .bool false, .ref (zB2 t u h a b).objs.size, .ref (zB3 t u h a b).objs.size] }
theorem meets_zipLT (a b : Addr) (xs ys : Array Value) : Meets (Builtin.«zip.__new__» ⟨[.type "zip", .ref a, .ref b], []⟩) (fun _ R s => s.heap.IsList a xs ∧ s.heap.IsTuple b ys ∧ R (.ok (.ret (.ref (zB4 false true s.heap a b).objs.size))) { s with heap := zB5 false true s.heap a b }) :=
  .of_wp fun prog w A R s h => by
    obtain ⟨hp, g, d, tk, os⟩ := s; obtain ⟨e1, e2, h⟩ := h; have hsub := sub_zip
    have f1 : Heap.IsList (Shared.heap ⟨hp, g, d, tk, os⟩) a xs := e1
    have f2 : Heap.IsTuple (Shared.heap ⟨hp.push { cls := .type "list_iterator", data := .fields #[.ref a, .int 0 0] }, g, d, tk, os⟩) b ys := Heap.IsTuple.push e2 _
    wp_walk using wpAny_pyIter_list f1, wpAny_pyIter_tuple f2
    exact ⟨_, rfl, h⟩
theorem meets_zipTL (a b : Addr) (xs ys : Array Value) : Meets (Builtin.«zip.__new__» ⟨[.type "zip", .ref a, .ref b], []⟩) (fun _ R s => s.heap.IsTuple a xs ∧ s.heap.IsList b ys ∧ R (.ok (.ret (.ref (zB4 true false s.heap a b).objs.size))) { s with heap := zB5 true false s.heap a b }) :=
  .of_wp fun prog w A R s h => by
    obtain ⟨hp, g, d, tk, os⟩ := s; obtain ⟨e1, e2, h⟩ := h; have hsub := sub_zip
    have f1 : Heap.IsTuple (Shared.heap ⟨hp, g, d, tk, os⟩) a xs := e1
    have f2 : Heap.IsList (Shared.heap ⟨hp.push { cls := .type "tuple_iterator", data := .fields #[.ref a, .int 0 0] }, g, d, tk, os⟩) b ys := Heap.IsList.push e2 _
    wp_walk using wpAny_pyIter_tuple f1, wpAny_pyIter_list f2
    exact ⟨_, rfl, h⟩
theorem meets_zipB (t u : Bool) (a b : Addr) (xs ys : Array Value) : Meets (Builtin.«zip.__new__» ⟨[.type "zip", .ref a, .ref b], []⟩) (fun _ R s => SqB t s.heap a xs ∧ SqB u s.heap b ys ∧ R (.ok (.ret (.ref (zB4 t u s.heap a b).objs.size))) { s with heap := zB5 t u s.heap a b }) := by
  cases t <;> cases u
  · exact meets_zip_new a b xs ys
  · exact meets_zipLT a b xs ys
  · exact meets_zipTL a b xs ys
  · exact RZ.meets_zipT_new a b xs ys
end
end Dw
namespace Dw
noncomputable section
open PySem PySem.Spec PyProof.Rows L2
variable [Glo] [Tabs]
section
variable {prog : Program} {w : World} {A : Around} {E : Value → Shared → Prop} {s : Shared} {t u : Bool} {a b : Addr} {xs ys : Array Value}
theorem call_zipB {Q : Value → Shared → Prop} (e1 : SqB t s.heap a xs) (e2 : SqB u s.heap b ys)
    (k : ∀ h', IsZip h' (s.heap.objs.size + 4) (s.heap.objs.size + 2) (s.heap.objs.size + 3) .none → IsPair h' (s.heap.objs.size + 2) (.ref s.heap.objs.size) (.ref (s.heap.objs.size + 1)) → IsPair h' (s.heap.objs.size + 3) .none .none →
      ItB t h' s.heap.objs.size a 0 → ItB u h' (s.heap.objs.size + 1) b 0 → (∀ c o, s.heap.get? c = some o → h'.get? c = some o) → Q (.ref (s.heap.objs.size + 4)) { s with heap := h' }) : wpAny (model prog w) A (call (.type "zip") [.ref a, .ref b]) Q E s := by
  refine callType_new F.called_zip (by decide) (F.typeCall_zip_2 _ _) (F.newCall_zip_2 _ _) (fun obj => F.args_object_init_3 obj _ _) F.entry_zip_new (meets_zipB t u a b xs ys) ⟨e1, e2, ?_⟩
  have y1 : (zB1 t s.heap a).objs.size = s.heap.objs.size + 1 := Heap.size_push ..
  have y2 : (zB2 t u s.heap a b).objs.size = s.heap.objs.size + 2 := by rw [Heap.size_push, y1]
  have y3 : (zB3 t u s.heap a b).objs.size = s.heap.objs.size + 3 := by rw [Heap.size_push, y2]
  have y4 : (zB4 t u s.heap a b).objs.size = s.heap.objs.size + 4 := by rw [Heap.size_push, y3]
  have p5 : (zB5 t u s.heap a b).get? (zB4 t u s.heap a b).objs.size = some _ := Heap.get?_push_size _ rfl
  have p4 : (zB5 t u s.heap a b).get? (zB3 t u s.heap a b).objs.size = some _ := Heap.get?_push_of_some _ (Heap.get?_push_size _ rfl)
  have p3 : (zB5 t u s.heap a b).get? (zB2 t u s.heap a b).objs.size = some _ := Heap.get?_push_of_some _ (Heap.get?_push_of_some _ (Heap.get?_push_size _ rfl))
  have p2 : (zB5 t u s.heap a b).get? (zB1 t s.heap a).objs.size = some (itO u b) := Heap.get?_push_of_some _ (Heap.get?_push_of_some _ (Heap.get?_push_of_some _ (Heap.get?_push_size _ rfl)))
  have p1 : (zB5 t u s.heap a b).get? s.heap.objs.size = some (itO t a) := Heap.get?_push_of_some _ (Heap.get?_push_of_some _ (Heap.get?_push_of_some _ (Heap.get?_push_of_some _ (Heap.get?_push_size _ rfl))))
  (show _ ∧ _); rw [y2, y3, y4] at p5; rw [y1, y2] at p3; rw [y3] at p4; rw [y1] at p2; rw [y4]
  exact ⟨⟨_, p5, rfl⟩, k _ p5 p3 p4 (ItB.new p1) (ItB.new p2) fun c o x => Heap.get?_push_of_some _ (Heap.get?_push_of_some _ (Heap.get?_push_of_some _ (Heap.get?_push_of_some _ (Heap.get?_push_of_some _ x))))⟩
end

/-! ### the loop over it -/
def SqX (t : Bool) (K : PySem.W.Frag) (H : Hp) (a : Addr) (xs : List V) : Prop := if t then SqT K H a xs else SqL K H a xs
theorem SqX.ex {t : Bool} {K : PySem.W.Frag} {H H' : Hp} {a : Addr} {xs : List V} (e : Ex H H') (q : SqX t K H a xs) : SqX t K H' a xs := by
  cases t
  · exact ex_l e q
  · exact ex_t e q
section
variable {X : Cx} {pins : List (Addr × Obj)} {σ : L2.St} {H : Hp} {s : Shared}
theorem SqX.at {t : Bool} {a : Addr} {xs : List V} (I : Inv X pins σ H s) (q : SqX t X.K H a xs) : ∃ its : List Value, Vals xs its ∧ SqB t s.heap a its.toArray := by
  cases t
  · obtain ⟨its, r, p, _⟩ := I.list q
    exact ⟨its, r, p.isList⟩
  · obtain ⟨its, r, p, _⟩ := I.tuple q
    exact ⟨its, r, p⟩
theorem SqX.inj {t : Bool} {a : Addr} {xs ys : List V} (I : Inv X pins σ H s) (q : SqX t X.K H a xs) (r : SqX t X.K H a ys) : xs = ys := by
  cases t
  · exact I.list_inj q r
  · exact I.tuple_inj q r
end
def ItZ (K : PySem.W.Frag) (t u : Bool) (a b : Addr) : It :=
  ⟨fun i H => ∃ (xs ys : List V) (x y : V), SqX t K H a xs ∧ SqX u K H b ys ∧ xs[i]? = some x ∧ ys[i]? = some y,
   fun i H v H' => ∃ T x y, v = .ref T ∧ H T = none ∧ H' = upd H T (.tup [x, y]) ∧ (∀ xs, SqX t K H a xs → xs[i]? = some x) ∧ ∀ ys, SqX u K H b ys → ys[i]? = some y,
   fun i H => ∃ xs ys : List V, SqX t K H a xs ∧ SqX u K H b ys ∧ (xs.length ≤ i ∨ ys.length ≤ i)⟩
theorem turn_zipB {P : Program} {w : World} {K : PySem.W.Frag} {elts : List Expr} {kk : Nat} {tpos : Pos} {t u : Bool} {a b z TI TO p q : Addr} (D : ZipApart z TI TO p q a b) :
    Turn P w K (.Tuple elts kk tpos) (ItZ K t u a b) [z, TI, TO, p, q] z (fun i h => IsZip h z TI TO .none ∧ IsPair h TI (.ref p) (.ref q) ∧ (∃ x y, IsPair h TO x y) ∧ ItB t h p a i ∧ ItB u h q b i) where
  mem := by simp
  obj := by
    intro i h st c hc
    obtain ⟨hz, h1, ⟨x, y, h2⟩, h3, h4⟩ := st
    simp only [List.mem_cons, List.not_mem_nil, or_false] at hc
    rcases hc with e | e | e | e | e <;> subst e
    · exact ⟨_, hz, fun v r => nomatch r⟩
    · exact ⟨_, h1, fun v r => nomatch r⟩
    · exact ⟨_, h2, fun v r => nomatch r⟩
    · exact h3.obj
    · exact h4.obj
  keep := by
    intro i h h' st k
    obtain ⟨hz, h1, ⟨x, y, h2⟩, h3, h4⟩ := st
    exact ⟨k z (by simp) _ hz, k TI (by simp) _ h1, ⟨x, y, k TO (by simp) _ h2⟩, h3.keep fun o r => k p (by simp) o r, h4.keep fun o r => k q (by simp) o r⟩
  item := by
    intro X hP hw hK hc i pins s σ H E I hf st hg
    subst hP hw hK
    obtain ⟨hz, h1, ⟨x0, y0, h2⟩, h3, h4⟩ := st
    obtain ⟨xs, ys, x, y, qx, qy, hx, hy⟩ := hg
    obtain ⟨is, r1, b1⟩ := qx.at I
    obtain ⟨js, r2, b2⟩ := qy.at I
    obtain ⟨v1, e1, f1⟩ := r1.get hx
    obtain ⟨v2, e2, f2⟩ := r2.get hy
    have zl : z < s.heap.objs.size := Heap.lt_size hz
    refine pyNext_zipB D hz h1 h2 h3 h4 b1 b2 (x := v1) (y := v2) (by simpa using e1) (by simpa using e2) fun h' n1 n2 n3 n4 n5 n6 n7 => ?_
    refine ⟨_, rfl, wpAny_letOwnedTupleGo_zip (s := { s with heap := h' }) n1 fun h'' m1 sb => ?_⟩
    have t2 : h''.get? s.heap.objs.size = some { cls := .type "tuple", data := .seq #[v1, v2] } := (sb.2 _ (Nat.ne_of_gt zl)).trans n5
    have nw : ObjOk X.prog X.w (upd H s.heap.objs.size (.tup [x, y])) h'' s.heap.objs.size (.tup [x, y]) := ⟨by show 2 ≤ sizeLine; decide, [v1, v2], .cons f1 (.cons f2 .nil), ⟨_, t2, rfl, _, rfl⟩⟩
    have I1 : Inv X pins σ (upd H s.heap.objs.size (.tup [x, y])) { s with heap := h'' } := I.turnedNew (t' := s.toks) (ch := [z, TI, TO, p, q])
      (fun c o hb r => (sb.2 c (fun w => hb (by simp [w]))).trans (n7 c o (fun w => hb (by simp [w])) (fun w => hb (by simp [w])) (fun w => hb (by simp [w])) (fun w => hb (by simp [w])) r)) hf (Nat.le_refl _) nw
    refine ⟨.ref s.heap.objs.size, _, I1, rfl, ⟨_, x, y, rfl, I.hok.fresh (Nat.le_refl _), rfl, fun l hl => by rw [hl.inj I qx]; exact hx, fun l hl => by rw [hl.inj I qy]; exact hy⟩,
      ⟨m1, (sb.2 _ D.TIz).trans (n7 _ _ D.TIz D.TITO D.TIi1 D.TIi2 h1), ⟨v1, v2, (sb.2 _ D.TOz).trans n2⟩, n3.keep fun o r => (sb.2 _ D.i1z).trans r, n4.keep fun o r => (sb.2 _ D.i2z).trans r⟩, fun c hcm => ?_⟩
    have hlt : c < s.heap.objs.size := by
      have hcm2 := hcm
      simp only [List.mem_cons, List.not_mem_nil, or_false] at hcm2
      rcases hcm2 with e | e | e | e | e <;> rw [e]
      · exact zl
      · exact Heap.lt_size h1
      · exact Heap.lt_size h2
      · exact h3.lt
      · exact h4.lt
    rw [upd_ne (Nat.ne_of_lt hlt)]
    exact (hf c hcm).1
  done := by
    intro X hP hw hK hc i pins s σ H E I hf st hg
    subst hP hw hK
    obtain ⟨hz, h1, ⟨x0, y0, h2⟩, h3, h4⟩ := st
    obtain ⟨xs, ys, qx, qy, en⟩ := hg
    obtain ⟨is, r1, b1⟩ := qx.at I
    obtain ⟨js, r2, b2⟩ := qy.at I
    have l1 := r1.length
    have l2 := r2.length
    have he : is.toArray[i]? = none ∨ js.toArray[i]? = none := en.imp (fun r => by simp; omega) (fun r => by simp; omega)
    exact pyNext_zipB_stop (I.ok.hd hc) D hz h1 h2 h3 h4 b1 b2 he fun h' hk => ⟨rfl, I.turnedL (t' := s.toks) (ch := [z, TI, TO, p, q])
      (fun c o hb r => hk c o (fun w => hb (by simp [w])) (fun w => hb (by simp [w])) (fun w => hb (by simp [w])) (fun w => hb (by simp [w])) r) hf⟩
  self := fun A i s Q E st h => wpAny_pyIter_zip st.1 h
def iZipB (K : PySem.W.Frag) (ta : TA) : TI := fun σ H R => ta σ H fun vs H1 => ∃ t u a b xs ys, vs = [.ref a, .ref b] ∧ SqX t K H1 a xs ∧ SqX u K H1 b ys ∧ R (ItZ K t u a b) H1
theorem pi_zipB {X : Cx} {e e2 : Expr} {ta : TA} {p pos tpos : Pos} {elts : List Expr} {kk : Nat} (hg : Gl X "zip") (hm : X.mg "zip" = none) (ha : PA X [e, e2] ta)
    (hs : starEach [e, e2] X.env = (false, eval e X.env) :: starEach [e2] X.env := by rfl) (hpl : (backTo pos (starEach [e2] X.env)).any (·.1) = false := by rfl) : PI X (.Tuple elts kk tpos) (.Call (.Name "zip" p) [e, e2] [] pos) (iZipB X.K ta) := by
  refine ⟨fun pins s σ H R I h => ?_⟩
  refine Call_ (ld_blt I hg hm PyProof.Rows.boot_zip (PyProof.Rows.callWith_type1 (thn (ha.run pos pins s σ H _ I h) fun us s1 ⟨vs, H1, I1, r1, q1⟩ => ?_) hs hpl))
  obtain ⟨t, u, a, b, xs, ys, ex, qx, qy, q⟩ := q1
  subst ex
  cases r1 with
  | cons rx rr =>
  cases rr with
  | cons ry rr =>
  cases rr
  cases rx
  cases ry
  obtain ⟨is, f1, b1⟩ := qx.at I1
  obtain ⟨js, f2, b2⟩ := qy.at I1
  refine call_zipB b1 b2 fun h' n1 n2 n3 n4 n5 hk => wpAny_pyIter_zip n1 ?_
  have I2 : Inv X pins σ H1 { s1 with heap := h' } := I1.kept (t' := s1.toks) hk
  refine ⟨s1.heap.objs.size + 4, [s1.heap.objs.size + 4, s1.heap.objs.size + 2, s1.heap.objs.size + 3, s1.heap.objs.size, s1.heap.objs.size + 1], _, _, H1, rfl, I2, turn_zipB (PySem.W.ktu_apart s1.heap.objs.size a b b1.lt b2.lt), ⟨n1, n2, ⟨_, _, n3⟩, n4, n5⟩, fun c hcm => ?_, q⟩
  have hc5 : c = s1.heap.objs.size + 4 ∨ c = s1.heap.objs.size + 2 ∨ c = s1.heap.objs.size + 3 ∨ c = s1.heap.objs.size ∨ c = s1.heap.objs.size + 1 := by simpa only [List.mem_cons, List.not_mem_nil, or_false] using hcm
  have hle : s1.heap.objs.size ≤ c := by
    rcases hc5 with e | e | e | e | e <;> rw [e]
    · exact Nat.le_add_right _ _
    · exact Nat.le_add_right _ _
    · exact Nat.le_add_right _ _
    · exact Nat.le_refl _
    · exact Nat.le_add_right _ _
  exact I1.fpOk hle (I1.hok.fresh hle)
end
end Dw
namespace Dw
noncomputable section
open PySem PySem.Spec PyProof.Rows L2
variable [Glo] [Tabs]

/-! ### zip: the meaning -/
def zipL : List D → List D → List D
  | x :: xs, y :: ys => .tup [x, y] :: zipL xs ys
  | _, _ => []
theorem zipL_len : ∀ (xs ys : List D), (zipL xs ys).length = min xs.length ys.length
  | [], _ => by simp [zipL]
  | _ :: _, [] => by simp [zipL]
  | x :: xs, y :: ys => by rw [zipL, List.length_cons, List.length_cons, List.length_cons, zipL_len]; omega
theorem zipL_get : ∀ (k : Nat) (xs ys : List D) (z : D), (zipL xs ys)[k]? = some z → ∃ x y, xs[k]? = some x ∧ ys[k]? = some y ∧ z = .tup [x, y]
  | k, [], _, z, h => by simp [zipL] at h
  | k, _ :: _, [], z, h => by simp [zipL] at h
  | 0, x :: xs, y :: ys, z, h => by
    simp [zipL] at h
    exact ⟨x, y, rfl, rfl, h.symm⟩
  | k + 1, x :: xs, y :: ys, z, h => by
    obtain ⟨a, b, h1, h2, h3⟩ := zipL_get k xs ys z (by simpa [zipL] using h)
    exact ⟨a, b, by simpa using h1, by simpa using h2, h3⟩
def seqZ : D → Option (Bool × List D)
  | .lst xs => some (false, xs)
  | .tup xs => some (true, xs)
  | _ => none
def zipE (fa : SA) : SI := fun env => bindAI (fa env) fun as env1 => (frzs as env1).bind fun p => match p.1 with
  | [x, y] => (seqZ x).bind fun a => (seqZ y).map fun b => .ok (zipL a.2 b.2) p.2
  | _ => none
section
variable {K : PySem.W.Frag} {W : WX} {F F' : Hp} {R R' : Fm} {σ : L2.St} {H H' : Hp} {env env' : Sl}
theorem seqZ_at {x : D} {t : Bool} {xs : List D} {v : V} (e : seqZ x = some (t, xs)) (r : Rel K F v x) : ∃ a vs, v = .ref a ∧ SqX t K F a vs ∧ RelAll K F vs xs := by
  cases r with
  | lst s r => cases e; exact ⟨_, _, rfl, s, r⟩
  | tup s r => cases e; exact ⟨_, _, rfl, s, r⟩
  | _ => cases e
theorem wk_zip {t u : Bool} {a b : Addr} {vs ws : List V} {xs ys : List D} (s : SqX t K F a vs) (r : RelAll K F vs xs) (s2 : SqX u K F b ws) (r2 : RelAll K F ws ys) : Wk K F (ItZ K t u a b) (zipL xs ys) := by
  refine ⟨fun i H hi e => ?_, fun H e => ⟨vs, ws, s.ex e, s2.ex e, by rw [r.len, r2.len, zipL_len]; omega⟩, fun {F' R σ env} i H v H' y hx e S yl => ?_⟩
  · rw [zipL_len] at hi
    obtain ⟨v, hv, _⟩ := r.getD (List.getElem?_eq_getElem (show i < xs.length by omega))
    obtain ⟨w, hw, _⟩ := r2.getD (List.getElem?_eq_getElem (show i < ys.length by omega))
    exact ⟨vs, ws, v, w, s.ex e, s2.ex e, hv, hw⟩
  · obtain ⟨T, v1, v2, rfl, hT, rfl, g1, g2⟩ := yl
    obtain ⟨x, y, h1, h2, rfl⟩ := zipL_get i _ _ _ hx
    obtain ⟨d1, q1, f1⟩ := r.get (g1 vs (s.ex (e.trans S.sub)))
    obtain ⟨d2, q2, f2⟩ := r2.get (g2 ws (s2.ex (e.trans S.sub)))
    rw [h1] at q1
    rw [h2] at q2
    cases q1
    cases q2
    have eF : Ex F' (upd F' T (.tup [v1, v2])) := Ex.new (S.freeF hT)
    exact ⟨_, eF, S.freshF hT, .tup (SqT.of upd_same) (.cons ((f1.up e).up eF) (.cons ((f2.up e).up eF) .nil)), Ex.new hT⟩
theorem dI_zip {fa : SA} {Q : It → Hp → Prop} (h : dI K W (zipE fa) σ H Q) : iZipB K (dA K W fa) σ H Q := by
  obtain ⟨env, F, R, r, S, e, p⟩ := h
  rcases bindAI_inv e with ⟨as, env1, h1, h2⟩ | ⟨x, env1, h1, rfl⟩
  · rw [Option.bind_eq_some_iff] at h2
    obtain ⟨⟨zs, env2⟩, h3, h4⟩ := h2
    match zs, h3, h4 with
    | [x, y], h3, h4 =>
      have h4 : ((seqZ x).bind fun a => (seqZ y).map fun b => ReI.ok (zipL a.2 b.2) env2) = some r := h4
      rw [Option.bind_eq_some_iff] at h4
      obtain ⟨⟨t, xs⟩, h5, h6⟩ := h4
      rw [Option.map_eq_some_iff] at h6
      obtain ⟨⟨u, ys⟩, h7, rfl⟩ := h6
      refine ⟨env, F, R, _, S, h1, fun vs F1 H1 R1 e1 eR S1 hv => ?_⟩
      obtain ⟨F2, R2, e2, eR2, S2, rr⟩ := frzs_held eR S1 hv h3
      match vs, rr with
      | _, .cons ra (.cons rb .nil) =>
        obtain ⟨a, us, rfl, sa, la⟩ := seqZ_at h5 ra
        obtain ⟨b, ws, rfl, sb, lb⟩ := seqZ_at h7 rb
        exact ⟨t, u, a, b, us, ws, rfl, sa.ex S2.sub, sb.ex S2.sub, p _ F2 H1 (e1.trans e2) (S2.unhold eR2) (wk_zip sa la sb lb)⟩
    | [], h3, h4 => cases h4
    | [_], h3, h4 => cases h4
    | _ :: _ :: _ :: _, h3, h4 => cases h4
  · exact ⟨env, F, R, _, S, h1, p⟩
end
section
variable {X : Cx} {W : WX} {e e2 : Expr} {fa : SA} {p pos tpos : Pos} {elts : List Expr} {kk : Nat}
theorem pi_dzip (hm : X.mg "zip" = none) (ha : PA X [e, e2] (dA X.K W fa)) (hg : Gl X "zip" := by rfl) (hs : starEach [e, e2] X.env = (false, eval e X.env) :: starEach [e2] X.env := by rfl) (hpl : (backTo pos (starEach [e2] X.env)).any (·.1) = false := by rfl) :
    PI X (.Tuple elts kk tpos) (.Call (.Name "zip" p) [e, e2] [] pos) (dI X.K W (zipE fa)) := (pi_zipB hg hm ha hs hpl).wk fun _ _ _ q => dI_zip q
end
theorem ev_zip {env env1 env2 : Sl} {fa : SA} {as : List RV} {x y : D} {t u : Bool} {xs ys : List D} (h : fa env = some (.ok as env1)) (h2 : frzs as env1 = some ([x, y], env2)) (h3 : seqZ x = some (t, xs)) (h4 : seqZ y = some (u, ys)) : zipE fa env = some (.ok (zipL xs ys) env2) := by
  unfold zipE bindAI
  rw [h]
  dsimp only
  rw [h2, Option.bind_some]
  dsimp only
  rw [h3, Option.bind_some, h4]
  rfl
end
end Dw
namespace Dw
noncomputable section
open PySem PySem.Spec PyProof.Rows L2
variable [Glo] [Tabs]

/-! ### loops and comprehensions as a whole -/
theorem loop_run {tg : Tg} {body : SS} : ∀ (xs : List D) (I : Nat → Sl → Prop) (env : Sl), I 0 env → (∀ k x env, xs[k]? = some x → I k env → ∃ env1 env2, putT tg x env = some env1 ∧ (body env1 = some (.nx env2) ∨ body env1 = some (.ct env2)) ∧ I (k + 1) env2) →
    ∃ env', loopD tg body xs env = some (.nx env') ∧ I xs.length env'
  | [], I, env, h, _ => ⟨env, rfl, h⟩
  | x :: xs, I, env, h, hs => by
    obtain ⟨env1, env2, h1, h2, h3⟩ := hs 0 x env rfl h
    obtain ⟨env', h4, h5⟩ := loop_run xs (fun k => I (k + 1)) env2 h3 fun k x env hk hi => hs (k + 1) x env (by simpa using hk) hi
    refine ⟨env', ?_, by simpa using h5⟩
    unfold loopD
    rw [h1, Option.bind_some]
    rcases h2 with h2 | h2 <;> rw [h2] <;> exact h4
/-- a loop that may end the def, or break off -/
theorem loop_runR {tg : Tg} {body : SS} : ∀ (xs : List D) (I : Nat → Sl → Prop) (P : Out → Prop) (env : Sl), I 0 env → (∀ env, I xs.length env → P (.nx env)) →
    (∀ k x env, xs[k]? = some x → I k env → ∃ env1, putT tg x env = some env1 ∧ ((∃ env2, (body env1 = some (.nx env2) ∨ body env1 = some (.ct env2)) ∧ I (k + 1) env2) ∨ (∃ env2, body env1 = some (.bk env2) ∧ P (.nx env2)) ∨ (∃ a env2, body env1 = some (.rt a env2) ∧ P (.rt a env2)))) →
    ∃ o, loopD tg body xs env = some o ∧ P o
  | [], I, P, env, h, hd, _ => ⟨.nx env, rfl, hd env h⟩
  | x :: xs, I, P, env, h, hd, hs => by
    obtain ⟨env1, h1, h2⟩ := hs 0 x env rfl h
    unfold loopD
    rw [h1, Option.bind_some]
    rcases h2 with ⟨env2, h2, h3⟩ | ⟨env2, h2, h3⟩ | ⟨a, env2, h2, h3⟩
    · obtain ⟨o, h4, h5⟩ := loop_runR xs (fun k => I (k + 1)) P env2 h3 (fun env q => hd env (by simpa using q)) fun k x env hk hi => hs (k + 1) x env (by simpa using hk) hi
      exact ⟨o, by rcases h2 with h2 | h2 <;> rw [h2] <;> exact h4, h5⟩
    · exact ⟨_, by rw [h2], h3⟩
    · exact ⟨_, by rw [h2], h3⟩
theorem comp_run {vs : List Nat} {tg : Tg} {fe : SE} {env0 : Sl} (f : D → D) : ∀ (xs acc : List D), (∀ x ∈ xs, ∃ env1 a env2 env3, putT tg x env0 = some env1 ∧ fe env1 = some (.ok a env2) ∧ frz a env2 = some (f x, env3) ∧ clr vs env3 = env0) → acc.length + xs.length ≤ 100000 →
    compD vs tg none fe xs acc env0 = some (acc ++ xs.map f, env0)
  | [], acc, _, _ => by simp [compD]
  | x :: xs, acc, h, hl => by
    rw [List.length_cons] at hl
    obtain ⟨env1, a, env2, env3, h1, h2, h3, h4⟩ := h x (List.mem_cons_self ..)
    have ih := comp_run f xs (acc ++ [f x]) (fun y hy => h y (List.mem_cons_of_mem _ hy)) (by simp; omega)
    have hc : acc.length < 100000 := by omega
    unfold compD
    rw [h1, Option.bind_some]
    show (eltD fe env1).bind _ = _
    unfold eltD
    rw [h2]
    dsimp only
    rw [h3, Option.bind_some, if_pos hc]
    dsimp only
    rw [h4, ih, List.append_assoc]
    rfl
theorem comp_if {vs : List Nat} {tg : Tg} {fe fc : SE} {env0 : Sl} (c : D → Bool) (f : D → D) : ∀ (xs acc : List D), (∀ x ∈ xs, ∃ env1 b env2, putT tg x env0 = some env1 ∧ fc env1 = some (.ok b env2) ∧ tru b env2 = some (c x) ∧
      (c x = true → ∃ a env3 env4, fe env2 = some (.ok a env3) ∧ frz a env3 = some (f x, env4) ∧ clr vs env4 = env0) ∧ (c x = false → clr vs env2 = env0)) → acc.length + xs.length ≤ 100000 →
    compD vs tg (some fc) fe xs acc env0 = some (acc ++ (xs.filter c).map f, env0)
  | [], acc, _, _ => by simp [compD]
  | x :: xs, acc, h, hl => by
    rw [List.length_cons] at hl
    obtain ⟨env1, b, env2, h1, h2, h3, h4, h5⟩ := h x (List.mem_cons_self ..)
    have hc : acc.length < 100000 := by omega
    unfold compD
    rw [h1, Option.bind_some]
    show bindTD (some fc) env1 _ = _
    unfold bindTD
    dsimp only
    rw [h2]
    dsimp only
    rw [h3, Option.bind_some]
    cases hb : c x with
    | true =>
      obtain ⟨a, env3, env4, h6, h7, h8⟩ := h4 hb
      have ih := comp_if c f xs (acc ++ [f x]) (fun y hy => h y (List.mem_cons_of_mem _ hy)) (by simp; omega)
      show (eltD fe env2).bind _ = _
      unfold eltD
      rw [h6]
      dsimp only
      rw [h7, Option.bind_some, if_pos hc]
      dsimp only
      rw [h8, ih, List.filter_cons_of_pos hb, List.append_assoc]
      rfl
    | false =>
      have ih := comp_if c f xs acc (fun y hy => h y (List.mem_cons_of_mem _ hy)) (by omega)
      show compD vs tg (some fc) fe xs acc (clr vs env2) = _
      rw [h5 hb, ih, List.filter_cons_of_neg (by rw [hb]; simp)]
theorem ev_comp {vs : List Nat} {fi : SI} {tg : Tg} {ft : Option SE} {fe : SE} {env env1 env2 env3 : Sl} {xs ys : List D} (h : fi env = some (.ok xs env1)) (h2 : compD vs tg ft fe xs [] (clr vs env1) = some (ys, env2)) (h3 : rst vs env1 env2 = env3) : compE vs fi tg ft fe env = some (.ok (.own (.lst ys)) env3) := by
  subst h3
  unfold compE
  rw [h]
  dsimp only
  rw [h2]
  rfl
/-! ### texts and data compared -/
theorem inB_str (z : List Nat) : ∀ ls : List (List Nat), inB (.str z) (ls.map D.str) = decide (z ∈ ls)
  | [] => rfl
  | a :: ls => by
    have ih := inB_str z ls
    unfold inB at ih ⊢
    rw [List.map_cons, List.any_cons, ih]
    by_cases h : a = z
    · subst h; simp [eqB]
    · have h' : ¬ z = a := fun e => h e.symm
      simp [eqB, h, h']
theorem flat_str (ls : List (List Nat)) : (ls.map D.str).all flatD = true := by
  rw [List.all_eq_true]
  intro x hx
  obtain ⟨z, _, rfl⟩ := List.mem_map.mp hx
  rfl
theorem in_lstS {z : List Nat} {ls : List (List Nat)} : inD (.str z) (.lst (ls.map D.str)) = some (.d (.bl (decide (z ∈ ls)))) := by
  show (if (flatD (.str z) && (ls.map D.str).all flatD) || _ then some (RV.d (.bl (inB (.str z) (ls.map D.str)))) else none) = _
  rw [flat_str, inB_str]
  rfl
theorem in_tupS {z : List Nat} {ls : List (List Nat)} : inD (.str z) (.tup (ls.map D.str)) = some (.d (.bl (decide (z ∈ ls)))) := by
  show (if flatD (.str z) && (ls.map D.str).all flatD then some (RV.d (.bl (inB (.str z) (ls.map D.str)))) else none) = _
  rw [flat_str, inB_str]
  rfl
end
end Dw
namespace Dw
noncomputable section
open PySem PySem.Spec PyProof.Rows L2
variable [Glo] [Tabs]

/-! ### xs[i] = e -/
def setL (j : Nat) (fi fe : SE) : SS := fun env => bindS (fe env) fun a env1 => (frz a env1).bind fun p => (ownL p.2[j]?).bind fun _ => bindS (fi p.2) fun b env2 => match pk b env2 with
  | some (.int k) => (ownL env2[j]?).bind fun o => (ixN o.2.length k).map fun m => .nx (env2.set j (.own o.1 (.lst (o.2.set m p.1))))
  | _ => none
section
variable {K : PySem.W.Frag} {W : WX} {F F' : Hp} {R R' : Fm} {σ : L2.St} {H H' : Hp} {env env' : Sl} {En : Ends} {Q : VK}
theorem dS_setL {j : Nat} {fi fe : SE} (h : dS K W (setL j fi fe) En σ H) : tAsg (dE K W fe) (gSub (dE K W (varE j)) (dE K W fi) rSetL) En σ H := by
  obtain ⟨env, F, R, r, S, e, p⟩ := h
  rcases bindS_inv e with ⟨a, env1, h1, h2⟩ | ⟨x, env1, h1, rfl⟩
  · rw [Option.bind_eq_some_iff] at h2
    obtain ⟨⟨x, env2⟩, h3, h4⟩ := h2
    rw [Option.bind_eq_some_iff] at h4
    obtain ⟨⟨b0, y0⟩, h5, h6⟩ := h4
    refine ⟨env, F, R, _, S, h1, fun v F1 H1 e1 S1 rv => ?_⟩
    obtain ⟨F2, e2, S2, rx⟩ := frz_ok S1 rv h3
    have h5 := ownL_some h5
    have hv : varE j env2 = some (.ok (.cv j) env2) := ev_varO h5
    refine ⟨env2, F2, R, _, S2, hv, fun o F3 H3 e3 S3 ro => ?_⟩
    have ro : σ[j]? = some (some o) := ro
    rcases bindS_inv h6 with ⟨b, env3, h7, h8⟩ | ⟨x', env3, h7, rfl⟩
    · refine ⟨env2, F3, R, _, S3, h7, fun w F4 H4 e4 S4 rw' => ?_⟩
      cases hb : pk b env3 with
      | none => rw [hb] at h8; cases h8
      | some y =>
        rw [hb] at h8
        cases y with
        | int k =>
          have h8 : ((ownL env3[j]?).bind fun o => (ixN o.2.length k).map fun m => Out.nx (env3.set j (.own o.1 (.lst (o.2.set m x))))) = some r := h8
          rw [Option.bind_eq_some_iff] at h8
          obtain ⟨⟨b1, ys⟩, h9, h8⟩ := h8
          rw [Option.map_eq_some_iff] at h8
          obtain ⟨m, h10, rfl⟩ := h8
          have h9 := ownL_some h9
          have vw := pk_vw S4 rw' hb
          cases vw
          obtain ⟨q, u, z1, _, _, z4, ws, rfl, z5⟩ := S4.own j _ _ h9
          rw [ro] at z1
          cases z1
          refine ⟨q, ws, k, m, rfl, rfl, z4, by rw [z5.len]; exact h10, ?_⟩
          exact p σ F4 _ (((e1.trans e2).trans e3).trans e4) (S4.mut h9 ro ⟨_, rfl, z5.set m (rx.up (e3.trans e4))⟩)
        | _ => cases h8
    · exact ⟨env2, F3, R, _, S3, h7, fun cls d F4 H4 e4 S4 hx => p cls d σ F4 H4 (((e1.trans e2).trans e3).trans e4) S4 hx⟩
  · exact ⟨env, F, R, _, S, h1, fun cls d F1 H1 e1 S1 hx => p cls d σ F1 H1 e1 S1 hx⟩
/-! ### xs.extend(a new list) -/
def extE (fo fe : SE) : SE := fun env => bindE (fo env) fun a env1 => match a with
  | .cv i => (ownL env1[i]?).bind fun _ => bindE (fe env1) fun b env2 => match b with
    | .own (.lst zs) => (ownL env2[i]?).bind fun o => if o.2.length + zs.length ≤ 100000 then some (.ok (.d .non) (env2.set i (.own o.1 (.lst (o.2 ++ zs))))) else none
    | _ => none
  | _ => none
theorem dE_ext {fo fe : SE} (h : dE K W (extE fo fe) σ H Q) : tBM K "list" rExtend (dE K W fo) (tCons (dE K W fe) tNil) σ H Q := by
  obtain ⟨env, F, R, S, q⟩ := of_dE h
  refine dE_of S (atE_bind q fun a env1 F1 v H1 e1 S1 rv q1 => ?_)
  obtain ⟨r', e, p⟩ := q1
  cases a with
  | d x => cases e
  | own c => cases e
  | cv i =>
    have rv : σ[i]? = some (some v) := rv
    have e : ((ownL env1[i]?).bind fun _ => bindE (fe env1) fun b env2 => match b with
      | .own (.lst zs) => (ownL env2[i]?).bind fun o => if o.2.length + zs.length ≤ 100000 then some (Re.ok (.d .non) (env2.set i (.own o.1 (.lst (o.2 ++ zs))))) else none
      | _ => none) = some r' := e
    rw [Option.bind_eq_some_iff] at e
    obtain ⟨⟨b0, y0⟩, h1, e⟩ := e
    obtain ⟨p0, o0, z1, _, _, z4, ws0, rfl, _⟩ := S1.own i _ _ (ownL_some h1)
    rw [rv] at z1
    cases z1
    refine ⟨.inl ⟨rfl, ws0, .inl (Rd.of z4)⟩, ?_⟩
    cases h2 : fe env1 with
    | none => rw [h2] at e; cases e
    | some q2 =>
      rw [h2] at e
      cases q2 with
      | ex x env2 =>
        cases e
        exact ⟨env1, F1, R, _, S1, h2, p⟩
      | ok b env2 =>
        rw [bindE_ok] at e
        refine ⟨env1, F1, R, _, S1, h2, fun w F2 H2 e2 S2 rw' => ?_⟩
        cases b with
        | d x => cases e
        | cv k => cases e
        | own c =>
          cases c with
          | lst zs =>
            have e : ((ownL env2[i]?).bind fun o => if o.2.length + zs.length ≤ 100000 then some (Re.ok (.d .non) (env2.set i (.own o.1 (.lst (o.2 ++ zs))))) else none) = some r' := e
            rw [Option.bind_eq_some_iff] at e
            obtain ⟨⟨b1, ys⟩, h3, e⟩ := e
            obtain ⟨hc, rfl⟩ := some_if e
            have h3 := ownL_some h3
            obtain ⟨p1, o1, z1, z2, z3, z4, ws, rfl, z5⟩ := S2.own i _ _ h3
            rw [rv] at z1
            cases z1
            obtain ⟨p2, o2, rfl, y2, y3, y4, ⟨us, rfl, y5⟩, y6⟩ := rw'
            refine ⟨p0, p2, ws, us, rfl, rfl, z4, y4, ?_, ?_⟩
            · rw [z5.len, y5.len]; exact Nat.le_trans hc (by decide)
            · exact p .non F2 _ e2 (S2.mut h3 rv ⟨_, rfl, z5.app y5⟩) .non
          | dct _ _ => cases e
          | ins _ _ _ => cases e
/-! ### xs.pop(), xs.insert(i, y) -/
def popE (fo : SE) : SE := fun env => bindE (fo env) fun a env1 => match a with
  | .cv i => (ownL env1[i]?).bind fun o => (o.2[o.2.length - 1]?).map fun x => .ok (.d x) (env1.set i (.own o.1 (.lst o.2.dropLast)))
  | _ => none
theorem RelAll.dropLast {K : PySem.W.Frag} {F : Hp} {vs : List V} {ds : List D} (h : RelAll K F vs ds) : RelAll K F vs.dropLast ds.dropLast := by
  rw [List.dropLast_eq_take, List.dropLast_eq_take, h.len]
  exact h.take _
theorem dE_pop {fo : SE} (h : dE K W (popE fo) σ H Q) : tBM0 K "list" rPop (dE K W fo) σ H Q := by
  obtain ⟨env, F, R, S, q⟩ := of_dE h
  refine dE_of S (atE_bind q fun a env1 F1 v H1 e1 S1 rv q1 => ?_)
  obtain ⟨r', e, p⟩ := q1
  cases a with
  | d x => cases e
  | own c => cases e
  | cv i =>
    have rv : σ[i]? = some (some v) := rv
    have e : ((ownL env1[i]?).bind fun o => (o.2[o.2.length - 1]?).map fun x => Re.ok (.d x) (env1.set i (.own o.1 (.lst o.2.dropLast)))) = some r' := e
    rw [Option.bind_eq_some_iff] at e
    obtain ⟨⟨b0, ys⟩, h1, e⟩ := e
    rw [Option.map_eq_some_iff] at e
    obtain ⟨x, h2, rfl⟩ := e
    have h1 := ownL_some h1
    obtain ⟨p0, o0, z1, _, _, z4, ws, rfl, z5⟩ := S1.own i _ _ h1
    rw [rv] at z1
    cases z1
    obtain ⟨w, h3, rx⟩ := z5.getD h2
    refine ⟨.inl ⟨rfl, ws, .inl (Rd.of z4)⟩, p0, ws, w, rfl, rfl, z4, by rw [z5.len]; exact h3, ?_⟩
    exact p w F1 _ (Ex.refl _) (S1.mut h1 rv ⟨_, rfl, z5.dropLast⟩) rx
def insU : List D → List D → Option (D × List D)
  | ys, [.int i, x] => if okP (0 ≤ i ∧ i < 2 ^ 63 ∧ ys.length < 100000) then some (.non, ys.take i.toNat ++ [x] ++ ys.drop i.toNat) else none
  | _, _ => none
theorem snd_ins {K : PySem.W.Frag} : SndU K insU (fun x vs H Q => ∃ (l : Addr) (xs : List V) (i : Int) (y : V), x = .ref l ∧ vs = [.int i, y] ∧ H l = some (.lst xs) ∧ xs.length < sizeLine ∧ 0 ≤ i ∧ i < 2 ^ 63 ∧ Q .non (upd H l (.lst (xs.take i.toNat ++ [y] ++ xs.drop i.toNat)))) := by
  intro F H Q l ws vs ys xs z eF hl rw' rv e q
  match xs, rv, e with
  | [.int i, x], rv, e =>
    have e : (if okP (0 ≤ i ∧ i < 2 ^ 63 ∧ ys.length < 100000) then some (D.non, ys.take i.toNat ++ [x] ++ ys.drop i.toNat) else none) = some z := e
    obtain ⟨hc, rfl⟩ := some_if e
    rw [okP_iff] at hc
    cases rv with
    | cons r1 rr =>
      obtain ⟨v, rfl, r2⟩ := rel1 rr
      cases r1
      refine ⟨l, ws, i, v, rfl, rfl, hl, ?_, hc.1, hc.2.1, q .non _ .non (((rw'.take i.toNat).app (.cons r2 .nil)).app (rw'.drop i.toNat))⟩
      rw [rw'.len]
      exact Nat.lt_of_lt_of_le hc.2.2 (by decide)
/-! ### xs[::-1] -/
def revE (fe : SE) : SE := fun env => bindE (fe env) fun a env1 => match pk a env1 with
  | some (.lst xs) => some (.ok (.own (.lst xs.reverse)) env1)
  | _ => none
theorem dE_rev {fe : SE} (h : dE K W (revE fe) σ H Q) : tRevL K (dE K W fe) σ H Q := by
  obtain ⟨env, F, R, S, q⟩ := of_dE h
  refine dE_of S (atE_bind q fun a env1 F1 v H1 e1 S1 rv q1 => ?_)
  obtain ⟨r', e, p⟩ := q1
  have e : (match pk a env1 with
    | some (.lst xs) => some (Re.ok (.own (.lst xs.reverse)) env1)
    | _ => none) = some r' := e
  cases ha : pk a env1 with
  | none => rw [ha] at e; cases e
  | some y =>
    rw [ha] at e
    cases y with
    | lst xs =>
      cases e
      obtain ⟨l, vs, rfl, s, r⟩ := pk_vw S1 rv ha
      exact ⟨l, vs, rfl, s, fun q hq => post_new S1 p hq r.rev⟩
    | _ => cases e
end
/-! ### sum -/
def intsD : List D → Option (List Int)
  | [] => some []
  | .int i :: xs => (intsD xs).map (i :: ·)
  | _ => none
theorem intsD_of : ∀ ns : List Int, intsD (ns.map D.int) = some ns
  | [] => rfl
  | n :: ns => by rw [List.map_cons, intsD, intsD_of ns]; rfl
theorem intsD_rel {K : PySem.W.Frag} {F : Hp} : ∀ {xs : List D} {vs : List V} {ns : List Int}, intsD xs = some ns → RelAll K F vs xs → vs = ns.map V.int
  | [], _, _, e, r => by cases e; cases r; rfl
  | .int i :: xs, _, ns, e, r => by
    have e : (intsD xs).map (i :: ·) = some ns := e
    rw [Option.map_eq_some_iff] at e
    obtain ⟨ms, e1, rfl⟩ := e
    cases r with
    | cons r1 r2 =>
      cases r1
      rw [intsD_rel e1 r2]
      rfl
  | .non :: _, _, _, e, _ => by cases e
  | .bl _ :: _, _, _, e, _ => by cases e
  | .str _ :: _, _, _, e, _ => by cases e
  | .lst _ :: _, _, _, e, _ => by cases e
  | .tup _ :: _, _, _, e, _ => by cases e
def sumC : List D → Option RV
  | [.lst xs] => (intsD xs).map fun ns => .d (.int ns.sum)
  | _ => none
theorem snd_sum {K : PySem.W.Frag} : SndC K sumC (rSum K) := by
  intro W F R σ H env Q xs vs z S hv e p
  match xs, e with
  | [.lst ys], e =>
    have e : ((intsD ys).map fun ns => RV.d (.int ns.sum)) = some z := e
    rw [Option.map_eq_some_iff] at e
    obtain ⟨ns, h1, rfl⟩ := e
    obtain ⟨v, rfl, hv'⟩ := vw1 hv
    obtain ⟨l, ws, rfl, s, r⟩ := hv'
    rw [intsD_rel h1 r] at s
    exact ⟨l, ns, rfl, s, post_d S p (.int _)⟩
section
variable {X : Cx} {W : WX} {o e i : Expr} {es : List Expr} {fo fe fi : SE} {fa : SA} {apos pos : Pos} {j : Nat} {x : Str} {px : Pos}
theorem ps_dsetL {tg : Expr} (he : PE X e (dE X.K W fe)) (hg : PG X tg (gSub (dE X.K W (varE j)) (dE X.K W fi) rSetL)) (hs : swapsWithSole [tg] e pos.line X.env = pure false := by rfl) (hw : swappedStores [tg] e X.env = pure none := by rfl)
    (h1 : (assignEach [tg] X.env).map (·.2) = [assign tg X.env] := by rfl) : PS X (.Assign [tg] e pos) (dS X.K W (setL j fi fe)) := (ps_asg he hg hs hw h1).wk fun _ _ _ q => dS_setL q
theorem pd_ext (ho : PE X o (dE X.K W fo)) (he : PE X e (dE X.K W fe)) (hbase : attributeBase o "extend" X.env (eval o X.env) = eval o X.env := by rfl)
    (hfew : ((backTo pos (starEach [e] X.env)).all (fun x => !x.1) && (backToKw pos (keywordEach [] X.env)).all (fun x => x.1.isSome)
      && decide ([e].length + ([] : List Keyword).length + (if ([] : List Keyword).isEmpty then 0 else 1) < 30)) = true := by rfl)
    (hline : (apos.endLine == pos.line) = true := by rfl) (hs' : starEach [e] X.env = (false, eval e X.env) :: starEach [] X.env := by rfl) (hplain : (backTo pos (starEach [] X.env)).any (·.1) = false := by rfl) :
    PE X (.Call (.Attribute o "extend" apos) [e] [] pos) (dE X.K W (extE fo fe)) := (pe_bm F.plainAttrs_list F.slot_list_extend F.type_list_extend mt_extend ho (pa_cons he pa_nil hs') hbase hfew hline hs' hplain).wk fun _ _ _ q => dE_ext q
theorem pd_pop (ho : PE X o (dE X.K W fo)) (hbase : attributeBase o "pop" X.env (eval o X.env) = eval o X.env := by rfl) (hline : (apos.endLine == pos.line) = true := by rfl) :
    PE X (.Call (.Attribute o "pop" apos) [] [] pos) (dE X.K W (popE fo)) := (pe_bm0 F.plainAttrs_list F.slot_list_pop F.type_list_pop mt_pop ho hbase hline).wk fun _ _ _ q => dE_pop q
theorem pd_rev {k : Nat} {p1 p2 p3 : Pos} (he : PE X e (dE X.K W fe)) : PE X (.Subscript e (.Slice none none (some (.UnaryOp .USub (.Constant (.int 1) k p1) p2)) p3) pos) (dE X.K W (revE fe)) := (pe_revL he).wk fun _ _ _ q => dE_rev q
end
/-! ### a def that calls itself -/
section
variable {P : Program} {w : World} {K : PySem.W.Frag} {mg : Str → Option Value} {base : Heap} {k : Nat} {f : Addr} {fd : FuncData} {ps : List Str} {np : Nat}
theorem spD_no {vs : List V} {H : Hp} {Q : VK} {E : XK} (h : spD K np (fun _ => none) vs H Q E) : False := by
  obtain ⟨_, _, _, _, _, _, e, _⟩ := h
  cases e
theorem fn0 : FnOk P w K mg base CX0 k f fd ps (spD K np fun _ => none) where
  len := fun vs H Q E h => (spD_no h).elim
  run := fun A outer s H args us vs Q E _ _ _ _ h => (spD_no h).elim
theorem Def.self {x : Str} {n k0 : Nat} {r : Nat → List SV → Option FR} {B : (List SV → Option FR) → SS} (h0 : r 0 = fun _ => none) (hs : ∀ i, r (i + 1) = defM np n (B (r i)))
    (step : ∀ (k : Nat) (m : List SV → Option FR), k0 ≤ k → Def P w K mg base k x np m [] → FnOk P w K mg base CX0 (k + 1) f fd ps (spD K np (defM np n (B m)))) (hm : mg x = some (.ref f)) (hk : PySem.W.keepIn K (.ref f) = true) (hb : Binds K fd ps []) :
    ∀ i, Def P w K mg base (k0 + i) x np (r i) []
  | 0 => by
    rw [h0]
    exact ⟨f, fd, ps, [], [], fn0, hm, hk, hb, .nil, fun _ => .nil, fun _ _ e => by cases e⟩
  | i + 1 => by
    have C := Def.self h0 hs step hm hk hb i
    have F := step (k0 + i) (r i) (Nat.le_add_right _ _) C
    rw [hs]
    exact Def.mk0 F hm hk hb
end
/-! ### reckoning -/
section
variable {env env1 env2 env3 : Sl} {fe fi fo : SE} {a b : RV} {x : D} {ys zs : List D} {j : Nat} {t t2 : Bool} {k : Int} {m : Nat}
theorem ev_setL (h1 : fe env = some (.ok a env1)) (h2 : frz a env1 = some (x, env2)) (h3 : env2[j]? = some (.own t (.lst zs))) (h4 : fi env2 = some (.ok b env3)) (h5 : pk b env3 = some (.int k)) (h6 : env3[j]? = some (.own t2 (.lst ys))) (h7 : ixN ys.length k = some m) {env4 : Sl} (h8 : env3.set j (.own t2 (.lst (ys.set m x))) = env4) :
    setL j fi fe env = some (.nx env4) := by
  subst h8
  unfold setL bindS
  rw [h1]
  show (frz a env1).bind _ = _
  rw [h2, Option.bind_some]
  dsimp only
  rw [h3]
  show (some (t, zs)).bind _ = _
  rw [Option.bind_some, h4]
  dsimp only
  rw [h5]
  dsimp only
  rw [h6]
  show (some (t2, ys)).bind _ = _
  rw [Option.bind_some]
  dsimp only
  rw [h7]
  rfl
theorem ev_ext (h1 : fo env = some (.ok (.cv j) env1)) (h2 : env1[j]? = some (.own t (.lst zs))) {ws : List D} (h3 : fe env1 = some (.ok (.own (.lst ws)) env2)) (h4 : env2[j]? = some (.own t2 (.lst ys))) (h5 : ys.length + ws.length ≤ 100000) {env4 : Sl} (h8 : env2.set j (.own t2 (.lst (ys ++ ws))) = env4) :
    extE fo fe env = some (.ok (.d .non) env4) := by
  subst h8
  unfold extE
  rw [h1, bindE_ok]
  dsimp only
  rw [h2]
  show (some (t, zs)).bind _ = _
  rw [Option.bind_some, h3, bindE_ok]
  dsimp only
  rw [h4]
  show (some (t2, ys)).bind _ = _
  rw [Option.bind_some]
  exact if_pos h5
theorem ev_pop (h1 : fo env = some (.ok (.cv j) env1)) (h2 : env1[j]? = some (.own t (.lst ys))) (h3 : ys[ys.length - 1]? = some x) {env4 : Sl} (h8 : env1.set j (.own t (.lst ys.dropLast)) = env4) : popE fo env = some (.ok (.d x) env4) := by
  subst h8
  unfold popE
  rw [h1, bindE_ok]
  dsimp only
  rw [h2]
  show (some (t, ys)).bind _ = _
  rw [Option.bind_some]
  dsimp only
  rw [h3]
  rfl
theorem ev_rev (h1 : fe env = some (.ok a env1)) (h2 : pk a env1 = some (.lst ys)) : revE fe env = some (.ok (.own (.lst ys.reverse)) env1) := by
  unfold revE
  rw [h1, bindE_ok]
  simp only [h2]
theorem sum_ints {ns : List Int} : sumC [.lst (ns.map D.int)] = some (.d (.int ns.sum)) := by
  show (intsD (ns.map D.int)).map _ = _
  rw [intsD_of]
  rfl
end
end
end Dw
namespace Dw
noncomputable section
open PySem PySem.Spec PyProof.Rows L2
variable [Glo] [Tabs]
theorem ev_callM {env env1 env2 env3 : Sl} {fs : SA} {as : List RV} {xs : List D} {i j : Nat} {t : Bool} {c c' : C} {m : List SV → Option FR} {ds : List D} {vs outs : List SV} {a b : RV} (h1 : fs env = some (.ok as env1)) (ha : as[j]? = some (.cv i)) (h2 : frzs (as.set j (.d .non)) env1 = some (xs, env2)) (hi : env2[i]? = some (.own t c))
    (he : ((xs ++ ds).map SV.d).set j (.own true c) = vs) (h3 : m vs = some (.ok a outs)) (ho : outs[j]? = some (.own true c')) (h4 : retV a = some b) (h5 : env2.set i (.own t c') = env3) : callM j m ds fs env = some (.ok b env3) := by
  subst he h5
  unfold callM
  rw [h1, bindA_ok, ha]
  show (frzs (as.set j (.d .non)) env1).bind _ = _
  rw [h2, Option.bind_some]
  show (match env2[i]? with | some (.own b c) => _ | _ => none) = _
  rw [hi]
  show (m (((xs ++ ds).map SV.d).set j (.own true c))).bind _ = _
  rw [h3, Option.bind_some]
  show (match outs[j]? with | some (.own true c) => (retV a).map (Re.ok · (env2.set i (.own t c))) | _ => none) = _
  rw [ho]
  show (retV a).map _ = _
  rw [h4]
  rfl
/-- one argument, two, four: the list stands in slot i -/
theorem call1 {env : Sl} {i : Nat} {t : Bool} {xs ys : List D} {m : List SV → Option FR} {x : D} (hi : env[i]? = some (.own t (.lst xs))) (h : m [.own true (.lst xs)] = some (.ok (.d x) [.own true (.lst ys)])) :
    callM 0 m [] (consA (varE i) nilA) env = some (.ok (.d x) (env.set i (.own t (.lst ys)))) :=
  ev_callM (as := [.cv i]) (ev_cons (ev_varO hi) ev_nil) rfl (xs := [.non]) (frzs_cons frz_d frzs_nil) hi rfl h rfl rfl rfl
theorem call2 {env : Sl} {i : Nat} {t : Bool} {xs ys : List D} {m : List SV → Option FR} {x y : D} {fb : SE} {o : SV} (hi : env[i]? = some (.own t (.lst xs))) (hb : fb env = some (.ok (.d y) env)) (h : m [.own true (.lst xs), .d y] = some (.ok (.d x) [.own true (.lst ys), o])) :
    callM 0 m [] (consA (varE i) (consA fb nilA)) env = some (.ok (.d x) (env.set i (.own t (.lst ys)))) :=
  ev_callM (as := [.cv i, .d y]) (ev_cons (ev_varO hi) (ev_cons hb ev_nil)) rfl (xs := [.non, y]) (frzs_cons frz_d (frzs_cons frz_d frzs_nil)) hi rfl h rfl rfl rfl
theorem comp_inv {vs : List Nat} {tg : Tg} {fe : SE} : ∀ (xs acc : List D) (I : List D → Sl → Prop) (env : Sl), I acc env → (∀ x acc env, x ∈ xs → I acc env → ∃ env1 a env2 y env3, putT tg x env = some env1 ∧ fe env1 = some (.ok a env2) ∧ frz a env2 = some (y, env3) ∧ I (acc ++ [y]) (clr vs env3)) → acc.length + xs.length ≤ 100000 →
    ∃ ys env', compD vs tg none fe xs acc env = some (ys, env') ∧ I ys env' ∧ ys.length = acc.length + xs.length
  | [], acc, I, env, h, _, _ => ⟨acc, env, by simp [compD], h, rfl⟩
  | x :: xs, acc, I, env, h, hs, hl => by
    rw [List.length_cons] at hl
    obtain ⟨env1, a, env2, y, env3, h1, h2, h3, h4⟩ := hs x acc env (List.mem_cons_self ..) h
    obtain ⟨ys, env', h5, h6, h7⟩ := comp_inv xs (acc ++ [y]) I (clr vs env3) h4 (fun x acc env hx => hs x acc env (List.mem_cons_of_mem _ hx)) (by simp; omega)
    refine ⟨ys, env', ?_, h6, by rw [h7, List.length_append, List.length_cons]; simp; omega⟩
    have hc : acc.length < 100000 := by omega
    unfold compD
    rw [h1, Option.bind_some]
    show (eltD fe env1).bind _ = _
    unfold eltD
    rw [h2]
    dsimp only
    rw [h3, Option.bind_some, if_pos hc]
    exact h5
theorem comp_two {vs : List Nat} {tg : Tg} {fe : SE} {env0 : Sl} : ∀ (xs ys acc : List D), xs.length = ys.length → (∀ (k : Nat) (x y : D), xs[k]? = some x → ys[k]? = some y → ∃ env1 a env2 env3, putT tg x env0 = some env1 ∧ fe env1 = some (.ok a env2) ∧ frz a env2 = some (y, env3) ∧ clr vs env3 = env0) → acc.length + xs.length ≤ 100000 →
    compD vs tg none fe xs acc env0 = some (acc ++ ys, env0)
  | [], [], acc, _, _, _ => by simp [compD]
  | [], _ :: _, _, h, _, _ => by cases h
  | _ :: _, [], _, h, _, _ => by cases h
  | x :: xs, y :: ys, acc, h, hs, hl => by
    rw [List.length_cons] at hl
    obtain ⟨env1, a, env2, env3, h1, h2, h3, h4⟩ := hs 0 x y rfl rfl
    have ih := comp_two xs ys (acc ++ [y]) (by simpa using h) (fun k u v hu hv => hs (k + 1) u v (by simpa using hu) (by simpa using hv)) (by simp; omega)
    have hc : acc.length < 100000 := by omega
    unfold compD
    rw [h1, Option.bind_some]
    show (eltD fe env1).bind _ = _
    unfold eltD
    rw [h2]
    dsimp only
    rw [h3, Option.bind_some, if_pos hc]
    dsimp only
    rw [h4, ih, List.append_assoc]
    rfl
theorem txts_chr (xs : List Nat) : txts (xs.map fun c => .str [c]) = some (xs.map fun c => [c]) := by
  induction xs with
  | nil => rfl
  | cons c xs ih => rw [List.map_cons, txts, ih]; rfl
theorem joinL_nil0 : ∀ (ys : List (List Nat)), TL.joinL [] ys = ys.flatten
  | [] => rfl
  | [y] => by simp [TL.joinL]
  | y :: z :: r => by
    rw [TL.joinL, joinL_nil0 (z :: r)]
    rfl
theorem flat_chr (xs : List Nat) : (xs.map fun c => [c]).flatten = xs := by
  induction xs with
  | nil => rfl
  | cons c xs ih => rw [List.map_cons, List.flatten_cons, ih]; rfl
theorem sum_chr (xs : List Nat) : ((xs.map fun c => [c]).map (·.length)).sum = xs.length := by
  induction xs with
  | nil => rfl
  | cons c xs ih => rw [List.map_cons, List.map_cons, List.sum_cons, ih, List.length_cons]; simp; omega
theorem join_chr {xs : List Nat} (h : xs.length ≤ 1000) : joinD (.str []) [.lst (xs.map fun c => .str [c])] = some (.d (.str xs)) := by
  simp only [joinD]
  rw [txts_chr, Option.bind_some, joinL_nil0, flat_chr, if_pos (by rw [sum_chr]; simp; omega)]
theorem putT_nm {i : Nat} {x : D} {env env1 : Sl} (h : freeSlot env[i]? = true) (h2 : env.set i (.d x) = env1) : putT (.nm i) x env = some env1 := by
  subst h2
  show setSlot i _ _ = _
  unfold setSlot
  rw [if_pos h]
theorem notin_S {z : List Nat} {ls : List (List Nat)} : notInD (.str z) (.lst (ls.map D.str)) = some (.d (.bl (!decide (z ∈ ls)))) := by
  unfold notInD
  rw [in_lstS]
theorem modN {c : Int} {n : Nat} (h : 0 < n) : ∃ k : Nat, c % (n : Int) = k ∧ k < n := ⟨(c % (n : Int)).toNat, by
  have := Int.emod_nonneg c (b := (n : Int)) (by omega)
  omega, by
  have := Int.emod_nonneg c (b := (n : Int)) (by omega)
  have := Int.emod_lt_of_pos c (b := (n : Int)) (by omega)
  omega⟩
theorem get_S {ps : List (List Nat)} {i : Nat} (h : i < ps.length) : getD (.lst (ps.map D.str)) (.int (i : Int)) = some (.d (.str ps[i])) := by
  refine Dw.get_lst (L2.atI_nat ?_)
  rw [List.getElem?_map, List.getElem?_eq_getElem h]
  rfl
end
end Dw
namespace Dw
noncomputable section
open PySem PySem.Spec PyProof.Rows L2
variable [Glo] [Tabs]
/-! ### a test asked of each sign of a text, in a scope of its own: it may read what stands in the module -/
def SignT (X : Cx) (scope : Scope) (x : Str) (elt : Expr) (pb : Nat → Bool) : Prop :=
  ∀ (e : Env) (A : Around) (E : Value → Shared → Prop) (c : Nat) (t : Tok) (s : Shared) (m : Str → Option Value), e.scope = scope → e.globals = mainGlobals → s.heap.Ns mainGlobals X.mg → s.heap.Ns e.locals m → m x = some (.str ⟨#[c]⟩ t) →
    wpAny (model X.prog X.w) A (eval elt e) (fun y s' => y = .bool (pb c) ∧ Keeps s s') E s
theorem signT_in {X : Cx} {scope : Scope} {x G : Str} {l : List Nat} {p1 p2 p3 : Pos} (hG : ∃ t, X.mg G = some (.str (mk l) t)) (hk : scope.kind = .function) (hl : scope.names.lookup x = some .local) (hg : scope.names.lookup G = some .globalImplicit)
    (hd : (x == ("__debug__" : Str)) = false := by decide) (hd2 : (G == ("__debug__" : Str)) = false := by decide) :
    SignT X scope x (.Compare (.Name x p1) [.In] [.Name G p2] p3) (fun c => decide (c ∈ l)) := by
  obtain ⟨tg, hG⟩ := hG
  intro e A E c t s m hs hgl hn hm hx
  refine wpAny_Compare1 ?_
  refine wpAny_Name (wpAny_loadName_local (by rw [hs]; exact hk) (show e.scope.names.lookup x = some .local by rw [hs]; exact hl) hm hx ?_) hd
  refine Calls.Name_function_global (by rw [hs]; exact hk) (show e.scope.names.lookup G = some .globalImplicit by rw [hs]; exact hg) (Calls.loadGlobal_global (by rw [hgl]; exact hn) hG ?_) hd2
  refine PyProof.Rows.in_str ⟨?_, GxR.keeps_refl _⟩
  rw [empty_one, Bool.not_not]
  rfl
/-- the scope of such a test holds a function's names: the walked thing, the sign, the module's -/
structure SignS (scope : Scope) (x : Str) : Prop where
  kind : scope.kind = .function
  co : scope.isCoroutine = false
  cell : ∀ y ∈ scope.names, y.2 ≠ .cell
  dot : scope.names.lookup (".0" : Str) = some NameKind.local
  loc : scope.names.lookup x = some .local
  free : ∀ y ∈ scope.names, y.2 ≠ .free
section
variable {M : Model} {A : Around} {E : Value → Shared → Prop} {s : Shared}
/-- its code object: found in the table, or made and put behind -/
theorem code_either {env : Env} {c P : Addr} {ps : Array Value} {pos : Pos} {q : Str} {scope : Scope} {R : Value → Shared → Prop} (hc : env.code = .ref c) (hd : PySem.W.CodeHd s.heap c P) (hP : s.heap.get? P = some { cls := .none, data := .fields ps }) (ht : TriplesOk ps.toList)
    (hR : ∀ code h tk more, Heap.ExtBut P s.heap h → s.heap.objs.size ≤ h.objs.size → h.get? P = some { cls := .none, data := .fields (ps ++ more) } → TriplesOk (ps ++ more).toList → R code { s with heap := h, toks := tk }) :
    wpAny M A (genexprCode env pos q scope) R E s := by
  rcases hf : codeAmong pos ps.toList with _ | cv
  · refine wpAny_genexprCodeX hc (hd.code hP ht) (hd.tab hP) hf fun c' h tk hx h1 h2 h3 _ h4 _ => ?_
    obtain ⟨_, _, _, _, _, _, _, _, _, _, _, _, _, _, _, _, _, _, _, h5, _⟩ := h3
    exact hR _ h tk _ hx (by have h1 : s.heap.objs.size ≤ c' := h1; have h2 : c' < h.objs.size := h2; omega) h4.2 h5
  · refine wpAny_genexprCode_hit hc (hd.code hP ht) hf ?_
    have e : ps ++ (#[] : Array Value) = ps := Array.append_empty ..
    exact hR cv s.heap s.toks #[] (Heap.ExtBut.refl _ _) (Nat.le_refl _) (by rw [e]; exact hP) (by rw [e]; exact ht)
end
section
variable {X : Cx} {W : WX} {P c : Addr} {scope : Scope} {x : Str} {elt iter : Expr} {pb : Nat → Bool} {te : TE} {k : Nat} {px p pos gpos : Pos}
/-- what the module holds is there in each turn -/
theorem glob_there {pins : List (Addr × Obj)} {σ : L2.St} {H : Hp} {s : Shared} {o : Obj} {h3 href h2 : Heap} (I : Inv X pins σ H s) (hg : mainGlobals ≠ P) (hx : Heap.ExtBut P (s.heap.push o) h3) (hr : ∀ b u, h3.get? b = some u → href.get? b = some u)
    (hk : ∀ b ∈ List.range h3.objs.size, b ∉ [s.heap.objs.size] → ∀ u, href.get? b = some u → h2.get? b = some u) : h2.Ns mainGlobals X.mg := by
  have n1 : s.heap.Ns mainGlobals X.mg := I.mod.glob.keeps I.bk
  have lt1 : mainGlobals < s.heap.objs.size := n1.lt
  obtain ⟨ob, es, ep, ho, r⟩ := (n1.push o).extBut hx hg
  exact ⟨ob, es, ep, hk _ (List.mem_range.mpr (Heap.lt_size ho)) (fun z => Nat.lt_irrefl _ (by rw [List.mem_singleton.mp z] at lt1; exact lt1)) _ (hr _ _ ho), r⟩
theorem pe_signs (hr : Room k X.A) (hg : Gl X "all") (hm : X.mg "all" = none) (hb : bootBuiltins "all" = some (.builtin "all")) (TB : GxR.TabB X.base X.mg c P) (hcode : X.env.code = .ref c) (S : SignS scope x) (hi : PE X iter te) (hel : SignT X scope x elt pb)
    (hs : ∀ v, genFold iter X.env v = pure v := by intro _; rfl)
    (he : starEach [.GeneratorExp elt [⟨.Name x px, iter, [], 0⟩] scope gpos] X.env = (false, eval (.GeneratorExp elt [⟨.Name x px, iter, [], 0⟩] scope gpos) X.env) :: starEach [] X.env := by rfl) :
    PE X (.Call (.Name "all" p) [.GeneratorExp elt [⟨.Name x px, iter, [], 0⟩] scope gpos] [] pos) (GxR.tAllS P pb te) := by
  refine ⟨fun pins s σ H Q I h => wpAny_Call_Name_kw (ld_blt I hg hm hb (PyProof.Rows.callWith_builtin1 ?_ he (by rfl)))⟩
  rw [he]
  refine Calls.spliced_cons ?_
  refine wpAny_GeneratorExp_walksQ hr.hd S.co (closure_ok fun y hy z => absurd z (S.free y hy)) S.cell S.dot S.loc S.kind (by have := hr.dp; omega) (wpAny_mono (hi.run pins s σ H _ I h) (fun xv s1 q => ?_) fun _ _ z => z) hs
  obtain ⟨v, H1, I1, r1, a, rfl, ⟨ps, hP, ht⟩, q1⟩ := q
  obtain ⟨t, rfl⟩ := _root_.id r1
  have hPs : s1.heap.get? P = some { cls := .none, data := .fields ps } := I1.hok P _ hP
  have old : ∀ {b : Addr} {u : Obj}, s1.heap.get? b = some u → b ≠ s1.heap.objs.size := fun e z => Nat.lt_irrefl _ (by have := Heap.lt_size e; rw [z] at this; exact this)
  refine wpAny_pyIter_str fun o St W0 h0 => ⟨I1.nolimit.push o, code_either hcode (TB.code.keeps fun b u e => Heap.get?_push_of_some _ (I1.bk b u e)) (Heap.get?_push_of_some _ hPs) ht fun code h3 tk more hx hsz hP3 ht3 => ?_⟩
  have hsz : s1.heap.objs.size < h3.objs.size := by
    have e : (s1.heap.push o).objs.size = s1.heap.objs.size + 1 := Heap.size_push ..
    have hsz : (s1.heap.push o).objs.size ≤ h3.objs.size := hsz
    omega
  have k3 : ∀ b u, b ≠ P → s1.heap.get? b = some u → h3.get? b = some u := fun b u hb e => hx b u hb (Heap.get?_push_of_some _ e)
  obtain ⟨bm, ob, b1, b2, b3, b4, b5, b6, b7, b8⟩ := TB.bm
  refine wpAny_builtinsFor (m := X.mg) (by rw [I1.ok.glob]; exact ((I1.mod.glob.keeps I1.bk).push o).extBut hx TB.gP) b1 b2 (k3 _ _ b4 (I1.bk _ _ b5)) b6 b7 b8 ?_
  have stP : cStatics ≠ P := fun z => by
    obtain ⟨_, ⟨u, _, _, h1, h2, _⟩, _⟩ := I1.nolimit
    rw [z, hPs] at h1
    cases h1
    cases h2
  have stl : cStatics < s1.heap.objs.size := let ⟨_, n, _⟩ := I1.nolimit; n.lt
  refine ⟨s1.heap.objs.size, [s1.heap.objs.size], [s1.heap.objs.size], a.cps.size, SignAt a, St, fun _ => true, fun i y => ∃ z, a.cps[i]? = some z ∧ y = .bool (pb z), rfl, W0, ?_, fun b hb => by rw [List.mem_singleton.mp hb]; exact hsz, (I1.nolimit.push o).extBut hx stP, fun z => Nat.ne_of_lt stl (List.mem_singleton.mp z), fun href hh => ⟨?_, ?_⟩, ?_⟩
  · exact (W0 X.A hr.hd).frame _ _ _ h0 fun b hb u e => hx b u (fun z => old hPs (by rw [← z]; exact List.mem_singleton.mp hb)) e
  · intro A' E' i v s2 m2 _ _ _ _ _
    simp only [List.forIn_nil]
    exact wpAny_pure ⟨rfl, GxR.keeps_refl _⟩
  · rintro A' E' i _ s2 m2 _ ⟨z, u, hz, rfl⟩ _ hn hmx hk
    exact wpAny_mono (hel _ A' E' z u s2 m2 rfl (show X.env.globals = mainGlobals from I1.ok.glob) (glob_there I1 TB.gP hx hh hk) hn hmx) (fun y s3 r => ⟨⟨z, hz, r.1⟩, r.2⟩) fun _ _ e => e
  · intro g h5 tk5 gs hgb hag hsz5 hk5 W5 hat
    simp only [GxR.passing_true, List.length_range] at W5
    have W6 := W5.in4_1
    refine Calls.spliced_nil ?_
    refine call_all_walkS (W6.self 0 _ _ _ hat ⟨g, _, _, _, _, _, _, GxR.trF pb a.cps.toList, rfl, W6, hat, ?_, fun s' hmv => ?_⟩)
    · rintro j y sj Qj Ej ⟨i, hij, z, hz, rfl⟩ hQj
      obtain ⟨hj, ej⟩ := List.getElem?_eq_some_iff.mp hij
      rw [List.getElem_range] at ej
      subst ej
      have hQ2 : Qj (GxR.trF pb a.cps.toList j) sj := hQj
      rw [GxR.trF_some (show a.cps.toList[j]? = some z by rw [Array.getElem?_toList]; exact hz)] at hQ2
      exact wpAny_truthy_bool hQ2
    · have nw : ∀ {b : Addr} {u : Obj}, s1.heap.get? b = some u → b ∉ h3.objs.size :: [s1.heap.objs.size] := fun {b u} e z => by
        rcases List.mem_cons.mp z with z | z
        · have := Heap.lt_size e
          rw [z] at this
          exact absurd this (by show ¬ (h3.objs.size < s1.heap.objs.size); omega)
        · exact old e (List.mem_singleton.mp z)
      have J := GxR.inv_tab (more := more) (h' := s'.heap) (g' := s'.gens) (d' := s'.drawn) (t' := s'.toks) I1 hP (fun b u hb e => hmv.heap b u (nw e) (hk5 b u (k3 b u hb e))) (hmv.heap P _ (nw hPs) (hk5 P _ hP3)) (AllBare.movedS (I1.bare.push hgb) hmv)
      rw [GxR.sh_eta s1 s' hmv.os] at J
      refine ⟨.bl _, _, J, rfl, ?_⟩
      rw [GxR.all_signs a pb]
      exact q1 _ ⟨⟨ps ++ more, upd_same, ht3⟩, fun b hb => upd_ne hb⟩
/-! ### its meaning -/
def allE (fe : SE) (pb : Nat → Bool) : SE := fun env => bindE (fe env) fun a env1 => match pk a env1 with
  | some (.str s) => some (.ok (.d (.bl (s.all pb))) env1)
  | _ => none
theorem Sta.tabbed {K : PySem.W.Frag} {F : Hp} {R : Fm} {σ : L2.St} {H H2 : Hp} {env : Sl} (S : Sta K F R σ H env) (hT : Tabs.T P) (h : GxR.Tabbed P H H2) : Sta K F R σ H2 env := by
  obtain ⟨t1, t2⟩ := h
  obtain ⟨⟨ps, g1, _⟩, g2, g3⟩ := S.tab P hT
  have nF : ∀ b u, F b = some u → b ≠ P := fun b u e z => by rw [z, g2] at e; cases e
  have nR : ∀ b u, R.r b = some u → b ≠ P := fun b u e z => by rw [z, g3] at e; cases e
  refine ⟨fun b u e => by rw [t2 b (nF b u e)]; exact S.sub b u e, fun b u e => by rw [t2 b (nR b u e)]; exact S.fr b u e, S.dis, S.len, S.dat, fun i b c e => ?_, S.tag, S.inj, S.xn, fun Q hQ => ?_⟩
  · obtain ⟨p, o, e1, e2, e3, e4, e5⟩ := S.own i b c e
    have n : p ≠ P := fun z => by
      rw [z, g1] at e4
      exact e5.noT ps (Option.some.inj e4).symm
    exact ⟨p, o, e1, e2, e3, by rw [t2 p n]; exact e4, e5⟩
  · obtain ⟨h1, h2, h3⟩ := S.tab Q hQ
    by_cases hq : Q = P
    · subst hq; exact ⟨t1, h2, h3⟩
    · obtain ⟨qs, q1, q2⟩ := h1
      exact ⟨⟨qs, by rw [t2 Q hq]; exact q1, q2⟩, h2, h3⟩
theorem dE_signs {K : PySem.W.Frag} {σ : L2.St} {H : Hp} {Q : VK} {fe : SE} (hT : Tabs.T P) (h : dE K W (allE fe pb) σ H Q) : GxR.tAllS P pb (dE K W fe) σ H Q := by
  refine dE_bind h fun a env F R v H1 S rv hk => ?_
  obtain ⟨r, e, q⟩ := hk
  have e : (match pk a env with | some (.str s) => some (.ok (.d (.bl (s.all pb))) env) | _ => none) = some r := e
  cases hp : pk a env with
  | none => rw [hp] at e; cases e
  | some x =>
    rw [hp] at e
    cases x with
    | str s =>
      cases e
      have hv := pk_vw S rv hp
      have hv : v = .str (mk s) := by cases hv; rfl
      subst hv
      refine ⟨mk s, rfl, (S.tab P hT).1, fun H2 h2 => ?_⟩
      have hs : (mk s).cps.toList = s := by simp [mk]
      rw [hs]
      exact q _ F H2 (Ex.refl F) (S.tabbed hT h2) (.bl _)
    | _ => cases e
theorem pd_signs {fe : SE} (hT : Tabs.T P) (hr : Room k X.A) (hg : Gl X "all") (hm : X.mg "all" = none) (hb : bootBuiltins "all" = some (.builtin "all")) (TB : GxR.TabB X.base X.mg c P) (hcode : X.env.code = .ref c) (S : SignS scope x) (hi : PE X iter (dE X.K W fe)) (hel : SignT X scope x elt pb)
    (hs : ∀ v, genFold iter X.env v = pure v := by intro _; rfl)
    (he : starEach [.GeneratorExp elt [⟨.Name x px, iter, [], 0⟩] scope gpos] X.env = (false, eval (.GeneratorExp elt [⟨.Name x px, iter, [], 0⟩] scope gpos) X.env) :: starEach [] X.env := by rfl) :
    PE X (.Call (.Name "all" p) [.GeneratorExp elt [⟨.Name x px, iter, [], 0⟩] scope gpos] [] pos) (dE X.K W (allE fe pb)) :=
  (pe_signs hr hg hm hb TB hcode S hi hel hs he).wk fun _ _ _ q => dE_signs hT q
theorem ev_signs {fe : SE} {env env1 : Sl} {a : RV} {s : List Nat} (h : fe env = some (.ok a env1)) (h2 : pk a env1 = some (.str s)) : allE fe pb env = some (.ok (.d (.bl (s.all pb))) env1) := by
  unfold allE
  rw [h, bindE_ok, h2]
end
end
end Dw
namespace Dw
noncomputable section
open PySem PySem.Spec PyProof.Rows L2
/-! ### the end, where one def's table of code grows -/
def tabFree (K : PySem.W.Frag) (y : Str) : Bool := match PySem.W.tabIn K y with
  | some (_, P) => (K.lookup P).isNone
  | none => false
theorem tabFree_of {K : PySem.W.Frag} {y : Str} (h : tabFree K y = true) : ∃ c P, PySem.W.tabIn K y = some (c, P) ∧ K.lookup P = none := by
  unfold tabFree at h
  split at h
  · rename_i c P e
    exact ⟨c, P, e, Option.isNone_iff_eq_none.mp h⟩
  · cases h
end
end Dw
namespace Dw
noncomputable section
open PySem PySem.Spec PyProof.Rows L2
variable [Glo] [Tabs]
/-! ### i <= e <= j, the ends given numbers -/
def betE (i : Int) (fe : SE) (j : Int) : SE := fun env => bindE (fe env) fun a env1 => match pk a env1 with
  | some (.int n) => some (.ok (.d (.bl (decide (i ≤ n) && decide (n ≤ j)))) env1)
  | _ => none
section
variable {X : Cx} {W : WX} {a b c : Expr} {fe : SE} {i j : Int} {pos : Pos}
theorem dE_bet {K : PySem.W.Frag} {σ : L2.St} {H : Hp} {Q : VK} (h : dE K W (betE i fe j) σ H Q) : tChain (rI0 fun i j => .bl (decide (i ≤ j))) (rI0 fun i j => .bl (decide (i ≤ j))) (dE K W (constE (.int i))) (dE K W fe) (dE K W (constE (.int j))) σ H Q := by
  obtain ⟨env, F, R, r, S, e, p⟩ := h
  refine ⟨env, F, R, .ok (.d (.int i)) env, S, rfl, fun v F1 H1 e1 S1 rv => ?_⟩
  have rv : Rel K F1 v (.int i) := rv
  cases rv
  unfold betE at e
  cases hf : fe env with
  | none => rw [hf] at e; cases e
  | some q =>
    rw [hf] at e
    cases q with
    | ex x env1 =>
      cases e
      exact ⟨env, F1, R, _, S1, hf, fun c d F2 H2 e2 S2 x => p c d F2 H2 (e1.trans e2) S2 x⟩
    | ok a env1 =>
      rw [bindE_ok] at e
      cases hp : pk a env1 with
      | none => rw [hp] at e; cases e
      | some x =>
        rw [hp] at e
        cases x with
        | int n =>
          cases e
          refine ⟨env, F1, R, _, S1, hf, fun v2 F2 H2 e2 S2 rv2 => ?_⟩
          have hv := pk_vw S2 rv2 hp
          have hv : v2 = .int n := by cases hv; rfl
          subst hv
          refine ⟨i, n, rfl, rfl, decide (i ≤ n), rfl, ?_⟩
          by_cases hin : i ≤ n
          · rw [decide_eq_true hin, if_pos rfl]
            refine ⟨env1, F2, R, .ok (.d (.int j)) env1, S2, rfl, fun w F3 H3 e3 S3 rv3 => ?_⟩
            have rv3 : Rel K F3 w (.int j) := rv3
            cases rv3
            refine ⟨n, j, rfl, rfl, ?_⟩
            have q := p (.bl (decide (i ≤ n) && decide (n ≤ j))) F3 H3 (e1.trans (e2.trans e3)) S3 (.bl _)
            rw [decide_eq_true hin, Bool.true_and] at q
            exact q
          · rw [decide_eq_false hin, if_neg (by simp)]
            have q := p (.bl (decide (i ≤ n) && decide (n ≤ j))) F2 H2 (e1.trans e2) S2 (.bl _)
            rw [decide_eq_false hin, Bool.false_and] at q
            exact q
        | _ => cases e
theorem pd_bet (ha : PE X a (dE X.K W (constE (.int i)))) (hb : PE X b (dE X.K W fe)) (hc : PE X c (dE X.K W (constE (.int j)))) (hm : lastMarks [.LtE, .LtE] [b, c] = false := by with_unfolding_all rfl) : PE X (.Compare a [.LtE, .LtE] [b, c] pos) (dE X.K W (betE i fe j)) :=
  (pe_chain op_le op_le ha hb hc hm).wk fun _ _ _ q => dE_bet q
theorem ev_bet {env env1 : Sl} {a : RV} {n : Int} (h : fe env = some (.ok a env1)) (h2 : pk a env1 = some (.int n)) : betE i fe j env = some (.ok (.d (.bl (decide (i ≤ n) && decide (n ≤ j)))) env1) := by
  unfold betE
  rw [h, bindE_ok, h2]
end
end
end Dw
namespace Dw
noncomputable section
open PySem PySem.Spec PyProof.Rows L2
variable [Glo] [Tabs]
/-! ### list(text) -/
def listTC : List D → Option RV
  | [.str s] => if s.length ≤ 100000 then some (.own (.lst (s.map fun c => .str [c]))) else none
  | _ => none
def rListT : List V → Hp → VK → Prop := fun xs H Q => ∃ s : List Nat, xs = [.str (mk s)] ∧ s.length ≤ 100000 ∧ ∀ l, H l = none → Q (.ref l) (upd H l (.lst (s.map fun c => V.str (mk [c]))))
theorem vals_signs : ∀ {s : List Nat} {us : List Value}, us.length = s.length → (∀ (j : Nat) v, us[j]? = some v → ∃ c t, s[j]? = some c ∧ v = .str ⟨#[c]⟩ t) → Vals (s.map fun c => V.str (mk [c])) us
  | [], [], _, _ => .nil
  | [], _ :: _, h, _ => by cases h
  | _ :: _, [], h, _ => by cases h
  | c :: s, u :: us, h, g => by
    obtain ⟨c', t, e1, e2⟩ := g 0 u rfl
    cases e1
    subst e2
    exact .cons ⟨t, rfl⟩ (vals_signs (by simpa using h) fun j v e => g (j + 1) v (by simpa using e))
theorem rel_signs {K : PySem.W.Frag} {F : Hp} : ∀ s : List Nat, RelAll K F (s.map fun c => V.str (mk [c])) (s.map fun c => D.str [c])
  | [] => .nil
  | c :: s => .cons (.str [c]) (rel_signs s)
theorem cr_listT {X : Cx} (hc : X.calm = true) : CallR X (.type "list") rListT := by
  intro pins s σ H xs us Q I r h
  obtain ⟨t, rfl, hz, q⟩ := h
  obtain ⟨u, rfl, tk, rfl⟩ := vals1 r
  have hs : (100000 : Nat) ≤ sizeLine := by decide
  have ht : (mk t).cps.size = t.length := by simp [mk]
  refine call_list_str (I.ok.hd hc) (mk t) tk (fun h' tk' acc c' hk hS hacc => ?_) (by rw [ht]; omega)
  have hv : Vals (t.map fun c => V.str (mk [c])) acc.toList := vals_signs (by rw [Array.length_toList, hacc.1, ht]) fun j v e => by
    obtain ⟨c, u, e1, e2⟩ := hacc.2 j v (by rw [← Array.getElem?_toList]; exact e)
    exact ⟨c, u, by simpa [mk] using e1, e2⟩
  exact ⟨.ref s.heap.objs.size, upd H s.heap.objs.size (.lst (t.map fun c => V.str (mk [c]))), I.laid (t' := tk') hk (Nat.le_refl _)
    (show ObjOk X.prog X.w _ _ _ (.lst (t.map fun c => V.str (mk [c]))) from ⟨by rw [List.length_map]; omega, acc.toList, c', hv, by rw [Array.toArray_toList]; exact hS⟩), rfl, q _ (I.hok.fresh (Nat.le_refl _))⟩
theorem snd_listT {K : PySem.W.Frag} : SndC K listTC rListT := by
  intro W F R σ H env Q xs vs z S h e p
  match xs, h, e with
  | [.str s], h, e =>
    obtain ⟨c, rfl⟩ := some_if e
    obtain ⟨v, rfl, hv⟩ := vw1 h
    cases hv
    exact ⟨s, rfl, c, fun q hq => post_new S p hq (rel_signs s)⟩
end
end Dw
namespace Dw
noncomputable section
open PySem PySem.Spec PyProof.Rows L2
variable [Glo] [Tabs]
/-! ### all(xs), any(xs), xs a list of truths -/
def blsD : List D → Option (List Bool)
  | [] => some []
  | .bl b :: xs => (blsD xs).map (b :: ·)
  | _ => none
theorem blsD_of : ∀ bs : List Bool, blsD (bs.map D.bl) = some bs
  | [] => rfl
  | b :: bs => by rw [List.map_cons, blsD, blsD_of bs]; rfl
theorem blsD_rel {K : PySem.W.Frag} {F : Hp} : ∀ {xs : List D} {vs : List V} {bs : List Bool}, blsD xs = some bs → RelAll K F vs xs → vs = bs.map V.bl
  | [], _, _, e, r => by cases e; cases r; rfl
  | .bl b :: xs, _, bs, e, r => by
    have e : (blsD xs).map (b :: ·) = some bs := e
    rw [Option.map_eq_some_iff] at e
    obtain ⟨cs, e1, rfl⟩ := e
    cases r with
    | cons r1 r2 =>
      cases r1
      rw [blsD_rel e1 r2]
      rfl
  | .non :: _, _, _, e, _ => by cases e
  | .int _ :: _, _, _, e, _ => by cases e
  | .str _ :: _, _, _, e, _ => by cases e
  | .lst _ :: _, _, _, e, _ => by cases e
  | .tup _ :: _, _, _, e, _ => by cases e
def allC : List D → Option RV
  | [.lst xs] => (blsD xs).map fun bs => .d (.bl (bs.all id))
  | _ => none
def anyC : List D → Option RV
  | [.lst xs] => (blsD xs).map fun bs => .d (.bl (bs.any id))
  | _ => none
theorem snd_all {K : PySem.W.Frag} : SndC K allC (rAll K) := by
  intro W F R σ H env Q xs vs z S hv e p
  match xs, e with
  | [.lst ys], e =>
    have e : ((blsD ys).map fun bs => RV.d (.bl (bs.all id))) = some z := e
    rw [Option.map_eq_some_iff] at e
    obtain ⟨bs, h1, rfl⟩ := e
    obtain ⟨v, rfl, hv'⟩ := vw1 hv
    obtain ⟨l, ws, rfl, s, r⟩ := hv'
    rw [blsD_rel h1 r] at s
    exact ⟨l, bs, rfl, s, post_d S p (.bl _)⟩
theorem snd_any {K : PySem.W.Frag} : SndC K anyC (rAny K) := by
  intro W F R σ H env Q xs vs z S hv e p
  match xs, e with
  | [.lst ys], e =>
    have e : ((blsD ys).map fun bs => RV.d (.bl (bs.any id))) = some z := e
    rw [Option.map_eq_some_iff] at e
    obtain ⟨bs, h1, rfl⟩ := e
    obtain ⟨v, rfl, hv'⟩ := vw1 hv
    obtain ⟨l, ws, rfl, s, r⟩ := hv'
    rw [blsD_rel h1 r] at s
    exact ⟨l, bs, rfl, s, post_d S p (.bl _)⟩
theorem all_bls {bs : List Bool} : allC [.lst (bs.map D.bl)] = some (.d (.bl (bs.all id))) := by
  show (blsD _).map _ = _
  rw [blsD_of]
  rfl
theorem any_bls {bs : List Bool} : anyC [.lst (bs.map D.bl)] = some (.d (.bl (bs.any id))) := by
  show (blsD _).map _ = _
  rw [blsD_of]
  rfl
end
end Dw
namespace Dw
noncomputable section
open PySem PySem.Spec PyProof.Rows L2
/-! ### the end, where the tables of several defs grow -/
/-- the code and the table of the def y -/
def cpOf (K : PySem.W.Frag) (y : Str) : Addr × Addr := (PySem.W.tabIn K y).getD (0, 0)
abbrev tabsOf (K : PySem.W.Frag) (ys : List Str) : Tabs := ⟨fun z => ∃ y ∈ ys, z = (cpOf K y).2, none⟩
theorem cpOf_is {K : PySem.W.Frag} {y : Str} (h : tabFree K y = true) : PySem.W.tabIn K y = some (cpOf K y) ∧ K.lookup (cpOf K y).2 = none := by
  obtain ⟨c, P, e, n⟩ := tabFree_of h
  have e2 : cpOf K y = (c, P) := by unfold cpOf; rw [e]; rfl
  rw [e2]
  exact ⟨e, n⟩
theorem walk_tabs {l : PySem.W.OpenLaw} {n k : Nat} {q : Program} {loose : List Str} {XP : (Str → Option Value) → Heap → Prop} {YP : World → Heap → Prop} {d : DefRec} {K : Params → PySem.W.Frag} {x : Str} {m : List SV → Option FR} (gl : World → (Str → Option Value) → Glo) (ys : List Str)
    (hn : l.most = some n) (hn2 : n ≤ sizeLine) (hdf : d.params.defaults = []) (hr : Room k callerA) (hY : ∀ (w : World) (h : Heap), YP w h → (K w.params).In h)
    (hrec : (ys.all fun y => ((recsOf q).find? fun e => e.name == y).isSome) = true) (hfree : ∀ p : Params, (ys.all fun y => tabFree (K p) y) = true)
    (F : ∀ (w : World) (mg : Str → Option Value) (fa : Addr) (h : Heap), (K w.params).In h → h.Ns mainGlobals mg → mg d.name = some (.ref fa) → (∀ y ∈ ys, PySem.W.tabIn (K w.params) y = some (cpOf (K w.params) y)) →
      ∃ fd : FuncData, (∀ (s : Shared) (u : Value), BindsTo s fd ⟨[u], []⟩ [(x, u)]) ∧ ∀ base : Heap, (K w.params).In base → base.Ns mainGlobals mg → (∀ y ∈ ys, GxR.TabB base mg (cpOf (K w.params) y).1 (cpOf (K w.params) y).2) → FnOk l.prog w (K w.params) mg base CX0 k fa fd [x] (@spD (gl w mg) (tabsOf (K w.params) ys) (K w.params) 1 m))
    (hm : ∀ (_ : Glo) (_ : Tabs) (ns : List Int), ns.length ≤ n → ∃ o, m [.d (.lst (ns.map .int))] = some (.ok (.d (.bl true)) o)) :
    PySem.W.WalkO q loose XP YP l.row.toRowW d [] (fun f vs => PySem.call f vs) := by
  refine Att.attach_callB hn hdf fun w s₀ s₁ mg mb fa o pm cd doc a vs ns G Y ho hd hcd hmg hobj hints hlen hbits hg => ?_
  have KX := hY w _ Y
  have fr : ∀ y ∈ ys, PySem.W.tabIn (K w.params) y = some (cpOf (K w.params) y) ∧ (K w.params).lookup (cpOf (K w.params) y).2 = none := fun y hy => cpOf_is (List.all_eq_true.mp (hfree w.params) y hy)
  have tb : ∀ y ∈ ys, PySem.W.CodeHd s₁.heap (cpOf (K w.params) y).1 (cpOf (K w.params) y).2 ∧ s₁.heap.get? (cpOf (K w.params) y).2 = some { cls := .none, data := .fields #[] } := fun y hy => by
    obtain ⟨dr, hdr⟩ := Option.isSome_iff_exists.mp (List.all_eq_true.mp hrec y hy)
    exact PySem.W.tab_of G.T KX hdr (fr y hy).1
  obtain ⟨fd, hb, hF⟩ := F w mg fa _ KX G.T.g hmg fun y hy => (fr y hy).1
  have of : ∀ {p : Addr × Addr}, p ∈ ys.map (cpOf (K w.params)) → ∃ y ∈ ys, p = cpOf (K w.params) y := fun h => let ⟨y, h1, h2⟩ := List.mem_map.mp h; ⟨y, h1, h2.symm⟩
  refine LamX.law_callTs (cs := ys.map (cpOf (K w.params))) KX G.T.g G.T.b G.T.builtins G.T.nolimit hg (fun p h => by obtain ⟨y, hy, rfl⟩ := of h; exact (tb y hy).2) (fun p h => by obtain ⟨y, hy, rfl⟩ := of h; exact (fr y hy).2) (fun p h => by obtain ⟨y, hy, rfl⟩ := of h; exact (tb y hy).1) G.T.bmain hobj hints (Nat.le_trans hlen hn2) hr
    (fun base h1 h2 h3 => hF base h1 h2 fun y hy => let t := h3 _ (List.mem_map.mpr ⟨y, hy, rfl⟩); ⟨t.code, t.bm, t.gP⟩) hb (fun H hH hS => ?_) (fun H e s' h => h)
  obtain ⟨o, ho⟩ := hm (gl w mg) (tabsOf (K w.params) ys) ns hlen
  refine @law_sp (gl w mg) (tabsOf (K w.params) ys) _ _ _ _ _ _ _ (fun z hz => ?_) hS ho
  obtain ⟨y, hy, hz⟩ : ∃ y ∈ ys, z = (cpOf (K w.params) y).2 := hz
  subst hz
  exact ⟨#[], hH _ (List.mem_map.mpr ⟨y, hy, rfl⟩), trivial⟩
end
end Dw
namespace Dw
noncomputable section
open PySem PySem.Spec PyProof.Rows L2
/-! ### more tests of a sign -/
section
variable {X : Cx} {scope : Scope} {x : Str}
theorem signT_inS {z : Str} {j : Nat} {p1 p2 p3 : Pos} (hk : scope.kind = .function) (hl : scope.names.lookup x = some .local) (hd : (x == ("__debug__" : Str)) = false := by decide) :
    SignT X scope x (.Compare (.Name x p1) [.In] [.Constant (.str z) j p2] p3) (fun c => decide (c ∈ z.cps.toList)) := by
  intro e A E c t s m hs hgl hn hm hx
  refine wpAny_Compare1 ?_
  refine wpAny_Name (wpAny_loadName_local (by rw [hs]; exact hk) (show e.scope.names.lookup x = some .local by rw [hs]; exact hl) hm hx ?_) hd
  refine Calls.Constant_str ?_
  refine PyProof.Rows.in_str ⟨?_, GxR.keeps_tok _ _⟩
  rw [empty_one, Bool.not_not]
theorem keeps_trans {s s' s'' : Shared} (h : Keeps s s') (h' : Keeps s' s'') : Keeps s s'' := by
  obtain ⟨h1, t1, rfl, k1⟩ := h
  obtain ⟨h2, t2, rfl, k2⟩ := h'
  exact ⟨h2, t2, rfl, fun b o e => k2 b o (k1 b o e)⟩
theorem keeps_ns {s s' : Shared} {a : Addr} {m : Str → Option Value} (h : Keeps s s') (n : s.heap.Ns a m) : s'.heap.Ns a m := by
  obtain ⟨h1, t1, rfl, k1⟩ := h
  exact n.keeps k1
theorem signT_or {a b : Expr} {pos : Pos} {pa pb : Nat → Bool} (ha : SignT X scope x a pa) (hb : SignT X scope x b pb) : SignT X scope x (.BoolOp .Or [a, b] pos) (fun c => pa c || pb c) := by
  intro e A E c t s m hs hgl hn hm hx
  refine wpAny_Or2 (wpAny_mono (ha e A E c t s m hs hgl hn hm hx) (fun y s1 h => ?_) fun _ _ z => z)
  obtain ⟨rfl, k⟩ := h
  refine wpAny_truthy_bool ?_
  cases hc : pa c with
  | true => exact ⟨by show _ = Value.bool (pa c || pb c); rw [hc]; rfl, k⟩
  | false =>
    refine wpAny_mono (hb e A E c t s1 m hs hgl (keeps_ns k hn) (keeps_ns k hm) hx) (fun y s2 h => ?_) fun _ _ z => z
    obtain ⟨rfl, k2⟩ := h
    exact ⟨by show _ = Value.bool (pa c || pb c); rw [hc]; rfl, keeps_trans k k2⟩
end
end
end Dw
namespace Dw
noncomputable section
open PySem PySem.Spec PyProof.Rows L2
variable [Glo] [Tabs]
/-! ### what is not reached needs no rule: its meaning is none -/
section
variable {X : Cx} {W : WX} {st : Stmt} {e : Expr}
theorem ps_und : PS X st (dS X.K W fun _ => none) := ⟨fun pins s σ H D I h => by
  obtain ⟨env, F, R, o, _, e, _⟩ := h
  cases e⟩
theorem pd_und : PE X e (dE X.K W fun _ => none) := ⟨fun pins s σ H Q I h => by
  obtain ⟨env, F, R, o, _, e, _⟩ := h
  cases e⟩
end
end
end Dw
namespace Dw
noncomputable section
open PySem PySem.Spec PyProof.Rows L2
variable [Glo] [Tabs]

/-! ### a def that may raise -/
def defX (np n : Nat) (body : SS) (args : List SV) : Option FR := if args.length = np then runF n body args else none
theorem ite_none {α : Type} {c : Prop} [Decidable c] {x : Option α} {y : α} (h : (if c then x else none) = some y) : c ∧ x = some y := by
  by_cases hc : c
  · rw [if_pos hc] at h; exact ⟨hc, h⟩
  · rw [if_neg hc] at h; cases h
theorem defX_len {np n : Nat} {body : SS} : ∀ as fr, defX np n body as = some fr → as.length = np := fun as fr h => (ite_none h).1
theorem dS_run {K : PySem.W.Frag} {N ps : List Str} {n : Nat} {body : SS} {vs : List V} {H : Hp} {Q : VK} {E : XK} (hn : N.length = ps.length + n) (h : spD K ps.length (defX ps.length n body) vs H Q E) :
    dS K (fun cls d _ H' => E cls d H') body { nx := fun _ H' => Q .non H', rt := Q } (L2.start N vs) H := by
  obtain ⟨F1, R, args, r, h1, S1, e, p⟩ := h
  have hv : vs.length = ps.length := by
    have := S1.len
    rw [List.length_map] at this
    omega
  have S2 := S1.start (N := N) (n := n) (by omega)
  obtain ⟨_, hr⟩ := ite_none e
  unfold runF at hr
  cases hbd : body (args ++ List.replicate n .un) with
  | none => rw [hbd] at hr; cases hr
  | some o =>
    rw [hbd] at hr
    refine ⟨_, F1, R, o, S2, hbd, ?_⟩
    cases o with
    | rt a0 env =>
      dsimp only at hr
      rw [Option.bind_eq_some_iff] at hr
      obtain ⟨a', h3, hr⟩ := hr
      rw [Option.map_eq_some_iff] at hr
      obtain ⟨o', h4, hr⟩ := hr
      cases hr
      exact fun v σ' F' H' e1 S3 rv => p v F' H' e1 (S1.backs e1 S3 h4) (RvOk.backs S1 S3 h4 rv h3)
    | nx env =>
      dsimp only at hr
      rw [Option.map_eq_some_iff] at hr
      obtain ⟨o', h4, hr⟩ := hr
      cases hr
      exact fun σ' F' H' e1 S3 => p .non F' H' e1 (S1.backs e1 S3 h4) .non
    | bk env => cases hr
    | ct env => cases hr
    | ex x env =>
      dsimp only at hr
      rw [Option.map_eq_some_iff] at hr
      obtain ⟨o', h4, hr⟩ := hr
      cases hr
      exact fun cls d σ' F' H' e1 S3 hx => p cls d F' H' e1 (S1.backs e1 S3 h4) hx
theorem spD_len {K : PySem.W.Frag} {ps : List Str} {m : List SV → Option FR} : ∀ vs H Q E, spD K ps.length m vs H Q E → vs.length = ps.length := fun vs H Q E h => by
  obtain ⟨F, R, args, r, h1, h2, _⟩ := h
  have := h2.len
  rw [List.length_map] at this
  omega
section
variable {P : Program} {w : World} {K : PySem.W.Frag} {mg : Str → Option Value} {base : Heap}
theorem fndX {x qual : Str} {st : Stmt} {f : Addr} {fd : FuncData} {N ps : List Str} {k n : Nat} {body : SS} (F : Fun K x qual st f fd) (S : FnScope N ps (defScope st)) (hn : N.length = ps.length + n)
    (hb : ∀ (cdv : Value) (A : Around) (outer : List Env) (s : Shared) (H : Hp) (E : XK), Room k (A.deeper (envOfC qual (defScope st) s.heap.objs.size f cdv)) →
      PSs (cxOf (L2.CX P w) P w K mg base N qual (defScope st) f cdv A outer s H E) (defBody st) (dS K (fun cls d _ H' => E cls d H') body)) : FnOk P w K mg base (L2.CX P w) (k + 1) f fd ps (spD K ps.length (defX ps.length n body)) :=
  F.okX S spD_len fun cdv A outer s H vs Q E hr h => ⟨_, hb cdv A outer s H E hr, dS_run hn h⟩
/-- a def whose parameters have defaults -/
theorem fndXD {x qual : Str} {st : Stmt} {f : Addr} {fd : FuncData} {N ps : List Str} {k n : Nat} {body : SS} {dvs : List V} (F : FunD K x qual (defArgs st) (defBody st) (defScope st) dvs [] f fd) (S : FnScope N ps (defScope st)) (hn : N.length = ps.length + n)
    (hb : ∀ (cdv : Value) (A : Around) (outer : List Env) (s : Shared) (H : Hp) (E : XK), Room k (A.deeper (envOfC qual (defScope st) s.heap.objs.size f cdv)) →
      PSs (cxOf (L2.CX P w) P w K mg base N qual (defScope st) f cdv A outer s H E) (defBody st) (dS K (fun cls d _ H' => E cls d H') body)) : FnOk P w K mg base (L2.CX P w) (k + 1) f fd ps (spD K ps.length (defX ps.length n body)) :=
  F.ok S spD_len fun cdv A outer s H vs Q E hr h => ⟨_, hb cdv A outer s H E hr, dS_run hn h⟩
theorem noX_some {r : Option FR} {q : FR} (h : noX r = some q) : r = some q := by
  cases r with
  | none => cases h
  | some x => cases x <;> first | exact h | cases h
theorem dS_run0 {N ps : List Str} {n : Nat} {body : SS} {vs : List V} {H : Hp} {Q : VK} {E : XK} (hn : N.length = ps.length + n) (h : spD K ps.length (defM ps.length n body) vs H Q E) :
    dS K W0 body { nx := fun _ H' => Q .non H', rt := Q } (L2.start N vs) H := by
  obtain ⟨F1, R, args, r, h1, S1, e, p⟩ := h
  obtain ⟨h2, e⟩ := ite_none e
  have hx : ∀ x o, r ≠ .ex x o := fun x o z => by
    subst z
    cases hr : runF n body args with
    | none => rw [hr] at e; cases e
    | some q => rw [hr] at e; cases q <;> cases e
  have q : spD K ps.length (defX ps.length n body) vs H Q (fun _ _ _ => False) := ⟨F1, R, args, r, h1, S1, by unfold defX; rw [if_pos h2]; exact noX_some e, by
    cases r with
    | ok a o => exact p
    | ex x o => exact absurd rfl (hx x o)⟩
  exact dS_run hn q
/-- a def that raises nothing, whose parameters have defaults -/
theorem fndD {x qual : Str} {st : Stmt} {f : Addr} {fd : FuncData} {N ps : List Str} {k n : Nat} {body : SS} {dvs : List V} (F : FunD K x qual (defArgs st) (defBody st) (defScope st) dvs [] f fd) (S : FnScope N ps (defScope st)) (hn : N.length = ps.length + n)
    (hb : ∀ (cdv : Value) (A : Around) (outer : List Env) (s : Shared) (H : Hp) (E : XK), Room k (A.deeper (envOfC qual (defScope st) s.heap.objs.size f cdv)) →
      PSs (cxOf CX0 P w K mg base N qual (defScope st) f cdv A outer s H E).nox (defBody st) (dS K W0 body)) : FnOk P w K mg base CX0 (k + 1) f fd ps (spD K ps.length (defM ps.length n body)) :=
  F.ok S spD_len fun cdv A outer s H vs Q E hr h => ⟨_, (hb cdv A outer s H E hr).nox, dS_run0 hn h⟩
end

/-! ### calls of such defs -/
structure DefG (CX : CXT) (P : Program) (w : World) (K : PySem.W.Frag) (mg : Str → Option Value) (base : Heap) (k : Nat) (x : Str) (np : Nat) (m : List SV → Option FR) (dfs : List D) : Prop where
  ex : ∃ (f : Addr) (fd : FuncData) (ps : List Str) (ds : List Value) (dvs : List V), FnOk P w K mg base CX k f fd ps (spD K np m) ∧ mg x = some (.ref f) ∧ PySem.W.keepIn K (.ref f) = true ∧ Binds K fd ps ds ∧ Vals dvs ds ∧ (∀ F : Hp, RelAll K F dvs dfs) ∧ ∀ as fr, m as = some fr → as.length = np
abbrev DefX (P : Program) (w : World) := DefG (L2.CX P w) P w
theorem DefG.mk0 {CX : CXT} {P : Program} {w : World} {K : PySem.W.Frag} {mg : Str → Option Value} {base : Heap} {k : Nat} {x : Str} {m : List SV → Option FR} {f : Addr} {fd : FuncData} {ps : List Str} (F : FnOk P w K mg base CX k f fd ps (spD K ps.length m)) (hl : ∀ as fr, m as = some fr → as.length = ps.length) (hm : mg x = some (.ref f)) (hk : PySem.W.keepIn K (.ref f) = true) (hb : Binds K fd ps []) : DefG CX P w K mg base k x ps.length m [] :=
  ⟨f, fd, ps, [], [], F, hm, hk, hb, .nil, fun _ => .nil, hl⟩
theorem DefG.mkD {CX : CXT} {P : Program} {w : World} {K : PySem.W.Frag} {mg : Str → Option Value} {base : Heap} {k : Nat} {x : Str} {m : List SV → Option FR} {f : Addr} {fd : FuncData} {ps : List Str} {dvs : List V} {dfs : List D} (F : FnOk P w K mg base CX k f fd ps (spD K ps.length m)) (hl : ∀ as fr, m as = some fr → as.length = ps.length) (hm : mg x = some (.ref f)) (hk : PySem.W.keepIn K (.ref f) = true) (hb : ∃ ds, Vals dvs ds ∧ Binds K fd ps ds) (hd : ∀ F : Hp, RelAll K F dvs dfs) : DefG CX P w K mg base k x ps.length m dfs :=
  let ⟨ds, h1, h2⟩ := hb
  ⟨f, fd, ps, ds, dvs, F, hm, hk, h2, h1, hd, hl⟩
theorem Def.toG {P : Program} {w : World} {K : PySem.W.Frag} {mg : Str → Option Value} {base : Heap} {k : Nat} {x : Str} {np : Nat} {m : List SV → Option FR} {dfs : List D} (C : Def P w K mg base k x np m dfs) : DefG CX0 P w K mg base k x np m dfs := ⟨C.ex⟩
theorem DefG.to {P : Program} {w : World} {K : PySem.W.Frag} {mg : Str → Option Value} {base : Heap} {k : Nat} {x : Str} {np : Nat} {m : List SV → Option FR} {dfs : List D} (C : DefG CX0 P w K mg base k x np m dfs) : Def P w K mg base k x np m dfs := ⟨C.ex⟩
theorem pd_callX {X : Cx} {W : WX} {k j : Nat} {x : Str} {np : Nat} {m : List SV → Option FR} {dfs : List D} {fa : SA} {p pos : Pos} {e : Expr} {es : List Expr} (C : DefX X.prog X.w X.K X.mg X.base k x np m dfs) (tk : Takes X W) (hr : Room j X.A) (hj : k ≤ j) (ha : PA X (e :: es) (dA X.K W fa)) (hg : Gl X x := by rfl)
    (hdb : (x == ("__debug__" : Str)) = false := by decide) (he : starEach (e :: es) X.env = (false, eval e X.env) :: starEach es X.env := by rfl) (hpl : (backTo pos (starEach es X.env)).any (·.1) = false := by rfl) :
    PE X (.Call (.Name x p) (e :: es) [] pos) (dE X.K W (callD m dfs fa)) := by
  obtain ⟨f, fd, ps, ds, dvs, h1, h2, h3, h4, h5, h6, h7⟩ := C.ex
  exact pd_call h1 (hr.mono hj) h2 h3 h4 h5 (fun σ => passAt tk σ) h6 h7 ha hg hdb he hpl
theorem pd_callMX {X : Cx} {W : WX} {k l : Nat} {x : Str} {np : Nat} {m : List SV → Option FR} {dfs : List D} {fa : SA} {p pos : Pos} {e : Expr} {es : List Expr} (j : Nat) (C : DefX X.prog X.w X.K X.mg X.base k x np m dfs) (tk : Takes X W) (hr : Room l X.A) (hj : k ≤ l) (ha : PA X (e :: es) (dA X.K W fa)) (hg : Gl X x := by rfl)
    (hdb : (x == ("__debug__" : Str)) = false := by decide) (he : starEach (e :: es) X.env = (false, eval e X.env) :: starEach es X.env := by rfl) (hpl : (backTo pos (starEach es X.env)).any (·.1) = false := by rfl) :
    PE X (.Call (.Name x p) (e :: es) [] pos) (dE X.K W (callM j m dfs fa)) := by
  obtain ⟨f, fd, ps, ds, dvs, h1, h2, h3, h4, h5, h6, h7⟩ := C.ex
  exact (pe_callSD h1 (hr.mono hj) hg h2 h3 h4 h5 (fun σ => passAt tk σ) ha hdb he hpl).wk fun _ _ _ q => dE_callM h6 h7 q
end
end Dw
namespace Dw
noncomputable section
open PySem PySem.Spec PyProof.Rows L2
variable [Glo] [Tabs]

/-! ### C.__init__(e, ..), C a class of one's own -/
section
variable {X : Cx} {CX : CXT} {k : Nat} {C f : Addr} {fd : FuncData} {ps : List Str} {sp : Sp} {E : L2.St → XK} {x : Str} {p1 p2 pos : Pos} {e : Expr} {es : List Expr} {t : TA}
theorem pe_clsInit {pl : Sem Bool} (hg : Gl X x) (hm : X.mg x = some (.ref C)) (rd : PySem.W.readsIn X.K C (.type "type") = true) (ga : PySem.W.specialIn X.K (.ref C) "__getattribute__" = some (some (.builtin "type.__getattribute__")))
    (fc : PySem.W.findCls X.K (.ref C) (.type "type") "__init__" = some (.val (.ref f))) (F : FnOk X.prog X.w X.K X.mg X.base CX k f fd ps sp) (hr : Room k X.A) (hk : PySem.W.keepIn X.K (.ref f) = true) (hb : Binds X.K fd ps []) (hx : ∀ σ, PassesAt CX X σ (E σ)) (ha : PA X (e :: es) t)
    (hdb : (x == ("__debug__" : Str)) = false := by decide)
    (hc : eval (.Call (.Attribute (.Name x p1) "__init__" p2) (e :: es) [] pos) X.env = (do
      let ov ← eval (.Name x p1) X.env
      standAt p2.atName
      let (f, first) ← holding [ov] (getMethod ov "__init__" pl)
      callWith pos f first (backTo pos (starEach (e :: es) X.env)) (backToKw pos (keywordEach [] X.env))) := by rfl)
    (he : starEach (e :: es) X.env = (false, eval e X.env) :: starEach es X.env := by rfl) (hpl : (backTo pos (starEach es X.env)).any (·.1) = false := by rfl) :
    PE X (.Call (.Attribute (.Name x p1) "__init__" p2) (e :: es) [] pos) (tCallS sp E t) := by
  refine ⟨fun pins s σ H Q I h => ?_⟩
  refine PySem.W.methodCall_KW (ld_glob I hg hm ?_ hdb) hc
  refine PySem.W.method_cls I.kIn ga (PySem.W.cls_value I.kIn rd fc rfl ?_)
  show wpAny _ _ (callWith pos (Value.ref f) [] (backTo pos (starEach (e :: es) X.env)) []) _ _ _
  refine PySem.W.callWith_K (h₀ := X.base) I.ok.mod.kin hk (thn (ha.run pos pins _ σ H _ (I.tok _) h) fun us s1 ⟨vs, H1, I1, r, q⟩ => ⟨I1.kIn, ?_⟩) he hpl
  exact run_fnS F hr hb (hx σ) I1 r q
end

/-! ### what the __init__s of the exceptions do -/
def iniH (H : Hp) (a C dx : Addr) (w p : V) : Hp := upd (upd (upd H dx (exd dx [("word", w)])) a (exo a C (some dx))) dx (exd dx [("place", p), ("word", w)])
/-- the class of an exception, as the written part has it -/
structure XC (K : PySem.W.Frag) (C : Addr) : Prop where
  o : OexC K C
  w : PySem.W.findIn K (.ref C) "word" = some none
  p : PySem.W.findIn K (.ref C) "place" = some none
/-- TalkError.__init__(self, word, place) -/
def spTE (K : PySem.W.Frag) : Sp := fun vs H Q _ => ∃ (a C : Addr) (w p : V), vs = [.ref a, w, p] ∧ XC K C ∧ H a = some (exo a C none) ∧ ∀ dx, H dx = none → dx ≠ a → Q .non (iniH H a C dx w p)
/-- .. of a class above it, whose word is x -/
def spXI (K : PySem.W.Frag) (x : Str) : Sp := fun vs H Q _ => ∃ (a C : Addr) (p : V), vs = [.ref a, p] ∧ XC K C ∧ H a = some (exo a C none) ∧ ∀ dx, H dx = none → dx ≠ a → Q .non (iniH H a C dx (.str x) p)
def t_te (K : PySem.W.Frag) : TS := tSeq (tDrop (tVeI K (tCons (tVar 0) (tCons (tVar 1) tNil)))) (tSeq (tOst K "word" (tVar 0) (tVar 1)) (tOst K "place" (tVar 0) (tVar 2)))
theorem rd_te {K : PySem.W.Frag} {vs : List V} {H : Hp} {Q : VK} {E : XK} (h : spTE K vs H Q E) : t_te K { nx := fun _ H' => Q .non H', rt := Q } (L2.start ["self", "word", "place"] vs) H := by
  obtain ⟨a, C, w, p, rfl, T, ea, q⟩ := h
  refine ⟨_, rfl, _, rfl, a, C, [w], rfl, (by show 1 ≤ 1000; decide), T.o, ea, ?_⟩
  refine ⟨_, rfl, _, rfl, a, C, rfl, T.o, T.w, .inl ⟨ea, fun dx hdx hne => ?_⟩⟩
  refine ⟨_, rfl, _, rfl, a, C, rfl, T.o, T.p, .inr ⟨dx, [("word", w)], upd_same, by rw [upd_ne hne, upd_same], (by show 1 ≤ 900; decide), ?_⟩⟩
  exact q dx hdx hne
def t_xi (K : PySem.W.Frag) (x : Str) : TS := tDrop (tCallS (spTE K) (fun _ _ _ _ => False) (tCons (tVar 0) (tCons (tC (.str x)) (tCons (tVar 1) tNil))))
theorem rd_xi {K : PySem.W.Frag} {x : Str} {vs : List V} {H : Hp} {Q : VK} {E : XK} (h : spXI K x vs H Q E) : t_xi K x { nx := fun _ H' => Q .non H', rt := Q } (L2.start ["self", "place"] vs) H := by
  obtain ⟨a, C, p, rfl, T, ea, q⟩ := h
  exact ⟨_, rfl, _, rfl, a, C, .str x, p, rfl, T, ea, fun dx hdx hne => q dx hdx hne⟩
theorem spTE_len {K : PySem.W.Frag} : ∀ vs H Q E, spTE K vs H Q E → vs.length = (["self", "word", "place"] : List Str).length := fun vs H Q E h => by
  obtain ⟨a, C, w, p, rfl, _⟩ := h
  rfl
theorem spXI_len {K : PySem.W.Frag} {x : Str} : ∀ vs H Q E, spXI K x vs H Q E → vs.length = (["self", "place"] : List Str).length := fun vs H Q E h => by
  obtain ⟨a, C, p, rfl, _⟩ := h
  rfl

/-! ### raise C(e), raise C() -/
def xnOf (x : Str) (d : D) : Xn := ⟨x, [("place", d), ("word", .str x.cps.toList)]⟩
def raiseS (x : Str) (fa : SA) : SS := fun env => match fa env with
  | some (.ok as env1) => (frzs as env1).bind fun p => match p.1 with
    | [d] => some (.ex (xnOf x d) p.2)
    | _ => none
  | some (.ex e env1) => some (.ex e env1)
  | none => none
def raiseNS (x : Str) : SS := fun env => some (.ex (xnOf x .non) env)
/-- a class of exceptions, with its __init__ -/
structure XcD (P : Program) (w : World) (K : PySem.W.Frag) (mg : Str → Option Value) (base : Heap) (k : Nat) (x : Str) : Prop where
  ex : ∃ (C fI : Addr) (fd : FuncData), XC K C ∧ Glo.C x C ∧ mg x = some (.ref C) ∧ PySem.W.findIn K (.ref C) "__init__" = some (some (.ref fI)) ∧ PySem.W.typeIn K (.ref fI) = some (.type "function") ∧
    FnOk P w K mg base CX0 k fI fd ["self", "place"] (spXI K x) ∧ Binds K fd ["self", "place"] [] ∧ ∃ ds, Vals [V.non] ds ∧ Binds K fd ["self", "place"] ds
theorem iniH_a {H : Hp} {a C dx : Addr} {w p : V} (h : dx ≠ a) : iniH H a C dx w p a = some (exo a C (some dx)) := by unfold iniH; rw [upd_ne (Ne.symm h), upd_same]
theorem iniH_d {H : Hp} {a C dx : Addr} {w p : V} : iniH H a C dx w p dx = some (exd dx [("place", p), ("word", w)]) := upd_same
theorem iniH_end {H1 : Hp} {a C dx : Addr} {w p : V} {o u : HO} (ha : H1 a = none) (h : dx ≠ a) : upd (del (iniH (upd H1 a o) a C dx w p) a) dx u = upd H1 dx u := by
  funext b
  by_cases hb : b = dx
  · subst hb; rw [upd_same, upd_same]
  · rw [upd_ne hb, upd_ne hb]
    by_cases hba : b = a
    · subst hba; rw [del_same, ha]
    · rw [del_ne hba]; unfold iniH; rw [upd_ne hb, upd_ne hba, upd_ne hb, upd_ne hba]
section
variable {K : PySem.W.Frag} {W : WX} {F : Hp} {R : Fm} {σ : L2.St} {H H1 : Hp} {env : Sl} {En : Ends}
/-- the way out of a raise -/
theorem out_raise {x : Str} {C dx : Addr} {v : V} {d : D} (S : Sta K F R σ H1 env) (g : Glo.C x C) (r : Rel K F v d) (hd : H1 dx = none) (p : PostS K W En F R (.ex (xnOf x d) env)) : W (.ref C) (some dx) σ (upd H1 dx (.xd [("place", v), ("word", .str x)])) := by
  have hF := S.freeF hd
  have eF : Ex F (upd F dx (.xd [("place", v), ("word", .str x)])) := Ex.new hF
  refine p _ _ σ _ _ eF (S.freshF hd) ⟨C, g, rfl, dx, _, rfl, upd_same, rfl, .cons (r.up eF) (.cons ?_ .nil)⟩
  have e : V.str x = V.str (mk x.cps.toList) := by rw [mk_of]
  rw [e]
  exact .str _
end
/-- C(): no argument written -/
def tMkO0 (C : Addr) (sp : Sp) (dvs : List V) : L2.St → Hp → XK → Prop := fun _ H Q => ∀ a, H a = none → sp (.ref a :: dvs) (upd H a (exo a C none))
  (fun v H2 => v = .non ∧ ∃ (d : Addr) (fs : List (Str × V)), H2 a = some (exo a C (some d)) ∧ H2 d = some (exd d fs) ∧ H d = none ∧ Q (.ref C) (some d) (upd (del H2 a) d (.xd fs))) (fun _ _ _ => False)
theorem pmk_oex0 {X : Cx} {p pos : Pos} {CX : CXT} {x : Str} {C fI : Addr} {k : Nat} {fd : FuncData} {ps : List Str} {sp : Sp} {ds : List Value} {dvs : List V} (T : OexC X.K C) (iC : PySem.W.findIn X.K (.ref C) "__init__" = some (some (.ref fI))) (tI : PySem.W.typeIn X.K (.ref fI) = some (.type "function"))
    (F1 : FnOk X.prog X.w X.K X.mg X.base CX k fI fd ps sp) (hr : Room (k + 1) X.A) (hb : Binds X.K fd ps ds) (hd : Vals dvs ds) (hx : Passes CX X (fun _ _ _ => False)) (hg : Gl X x) (hm : X.mg x = some (.ref C))
    (hdb : (x == ("__debug__" : Str)) = false := by decide) :
    PMk X (.Call (.Name x p) [] [] pos) (tMkO0 C sp dvs) := by
  intro pins s σ H Q I h
  obtain ⟨nm, q, N, bs, bm, sn, sub, ab, col, dd, k0, k1, k2, k3, k5, hC, hbm⟩ := T.cls
  refine wpAny_Call_Name_kw (ld_glob I hg hm ?_ hdb)
  refine PySem.W.callWith_K0 I.kIn T.kC ?_
  show wpAny _ _ (call (.ref C) []) _ _ _
  obtain ⟨hp, g, dr, tk, os⟩ := s
  have hsz : hp.objs.size ≤ hp.objs.size + 1 := Nat.le_succ _
  have hn : H (hp.objs.size + 1) = none := I.hok.fresh hsz
  have hq := h (hp.objs.size + 1) hn
  have kk : ∀ b o, hp.get? b = some o → ((hp.push (PySem.W.kdv_tup [])).push (PySem.HandSPX.excO C hp.objs.size)).get? b = some o := fun b o e => Heap.get?_push_of_some _ (Heap.get?_push_of_some _ e)
  have hget : ((hp.push (PySem.W.kdv_tup [])).push (PySem.HandSPX.excO C hp.objs.size)).get? (hp.objs.size + 1) = some (PySem.HandSPX.excO C hp.objs.size) := by heap_get
  have I2 : Inv X pins σ (upd H (hp.objs.size + 1) (exo (hp.objs.size + 1) C none)) ⟨(hp.push (PySem.W.kdv_tup [])).push (PySem.HandSPX.excO C hp.objs.size), g, dr, tk, os⟩ :=
    I.laid (t' := tk) (a := hp.objs.size + 1) (o := exo (hp.objs.size + 1) C none) (h' := (hp.push (PySem.W.kdv_tup [])).push (PySem.HandSPX.excO C hp.objs.size)) kk hsz (exo_ok hget)
  have r2 : Vals (V.ref (hp.objs.size + 1) :: dvs) (Value.ref (hp.objs.size + 1) :: ds) := .cons rfl hd
  have hl : (Value.ref (hp.objs.size + 1) :: [] ++ ds).length = ps.length := by
    have e := r2.length
    rw [F1.len _ _ _ _ hq] at e
    exact e.symm
  have hus : ([] : List Value).length ≤ sizeLine := Nat.zero_le _
  refine wpAny_call (PySem.HandSPX.call_own F.excBase_ValueError (fun Y => PySem.HandSPX.refsVE_contains Y bm hbm) (I.kIn _ _ hC) (PySem.W.looks_findIn I.kIn iC) (fun self => PySem.W.bind_fn I.kIn self tI) hus
    (codeAny_mono (F1.run _ X.stack _ _ ⟨Value.ref (hp.objs.size + 1) :: [], []⟩ (Value.ref (hp.objs.size + 1) :: ds) _ _ (fun _ _ _ => False) (hr.make C [] []) (I2.env0.make C [] []) (hb _ (Value.ref (hp.objs.size + 1) :: []) I2.kIn hl) r2 hq) fun r s' hq' => ?_))
  cases r with
  | error er => exact hx pins σ _ _ er s' I2 hq'
  | ok fl =>
    cases fl with
    | ret u =>
      obtain ⟨v, H2, os2, bare2, un2, hok2, rv, ev, d, fs, ea, ed, hd1, q2⟩ := hq'
      subst ev
      obtain ⟨h2, g2, d2, t2, os'⟩ := s'
      exact ⟨rv, mk_end (raises_own T.exC T.tyC) I hsz kk un2 hok2 os2 bare2 ea ed hd1 q2⟩
    | next => exact False.elim hq'
    | brk => exact False.elim hq'
    | cont => exact False.elim hq'
section
variable {X : Cx} {W : WX} {x : Str} {k j : Nat} {e : Expr} {p pos pos2 : Pos} {fa : SA}
theorem ps_draise (C : XcD X.prog X.w X.K X.mg X.base k x) (hc : X.calm = true) (tk : Takes X W) (hr : Room j X.A) (hj : k + 1 ≤ j) (ha : PA X [e] (dA X.K W fa)) (hg : Gl X x := by rfl)
    (hdb : (x == ("__debug__" : Str)) = false := by decide) (he : starEach [e] X.env = (false, eval e X.env) :: starEach [] X.env := by rfl) (hpl : (backTo pos (starEach [] X.env)).any (·.1) = false := by rfl) :
    PS X (.Raise (some (.Call (.Name x p) [e] [] pos)) none pos2) (dS X.K W (raiseS x fa)) := by
  obtain ⟨C, fI, fd, T, gC, hm, iC, tI, F1, b0, b1⟩ := C.ex
  refine (ps_raise hc tk (pmk_oex T.o iC tI F1 (hr.mono hj) b0 .nil (fun pins σ H s e s' I c => c.elim) hg hm ha hdb he hpl)).wk fun En σ H h => ?_
  obtain ⟨env, F, R, r, S, ev, pp⟩ := h
  unfold raiseS at ev
  cases h1 : fa env with
  | none => rw [h1] at ev; cases ev
  | some r1 =>
    rw [h1] at ev
    cases r1 with
    | ex y env1 =>
      cases ev
      exact ⟨env, F, R, _, S, h1, fun cls d F' H' e1 S1 hx => pp cls d σ F' H' e1 S1 hx⟩
    | ok as env1 =>
      dsimp only at ev
      rw [Option.bind_eq_some_iff] at ev
      obtain ⟨⟨xs, env2⟩, h3, ev⟩ := ev
      refine ⟨env, F, R, _, S, h1, fun vs F1' H1 R1 e1 eR S1 hv => ?_⟩
      obtain ⟨F2, R2, e2, eR2, S2, rr⟩ := frzs_held eR S1 hv h3
      have S3 := S2.unhold eR2
      match xs, ev, rr with
      | [d], ev, rr =>
        cases ev
        obtain ⟨v, rfl, r⟩ := rel1 rr
        refine ⟨by show 1 ≤ 1000; decide, fun a ha => ⟨a, C, v, rfl, T, upd_same, fun dx h1 h2 => ⟨rfl, dx, [("place", v), ("word", .str x)], iniH_a h2, iniH_d, ?_, ?_⟩⟩⟩
        · rw [upd_ne h2] at h1; exact h1
        · rw [iniH_end ha h2]
          rw [upd_ne h2] at h1
          exact out_raise S3 gC r h1 (pp.up (e1.trans e2))
theorem ps_draise0 (C : XcD X.prog X.w X.K X.mg X.base k x) (hc : X.calm = true) (tk : Takes X W) (hr : Room j X.A) (hj : k + 1 ≤ j) (hg : Gl X x := by rfl) (hdb : (x == ("__debug__" : Str)) = false := by decide) :
    PS X (.Raise (some (.Call (.Name x p) [] [] pos)) none pos2) (dS X.K W (raiseNS x)) := by
  obtain ⟨C, fI, fd, T, gC, hm, iC, tI, F1, b0, ds, hd, b1⟩ := C.ex
  refine (ps_raise hc tk (pmk_oex0 T.o iC tI F1 (hr.mono hj) b1 hd (fun pins σ H s e s' I c => c.elim) hg hm hdb)).wk fun En σ H h => ?_
  obtain ⟨env, F, R, r, S, ev, pp⟩ := h
  cases ev
  refine fun a ha => ⟨a, C, .non, rfl, T, upd_same, fun dx h1 h2 => ⟨rfl, dx, [("place", .non), ("word", .str x)], iniH_a h2, iniH_d, ?_, ?_⟩⟩
  · rw [upd_ne h2] at h1; exact h1
  · rw [iniH_end ha h2]
    rw [upd_ne h2] at h1
    exact out_raise S gC .non h1 pp
end
end
end Dw
namespace Dw
noncomputable section
open PySem PySem.Spec PyProof.Rows L2
variable [Glo] [Tabs]

/-! ### try: .. except X as n: .. -/
/-- the tables, an exception in hand -/
abbrev tx (a : Addr) (cls : Value) (d : Option Addr) : Tabs := ⟨Tabs.T, some (a, cls, d)⟩
def isXn : SV → Bool
  | .xn _ => true
  | _ => false
def noXn (env : Sl) : Bool := env.all fun s => !isXn s
theorem noXn_at {env : Sl} (h : noXn env = true) {i : Nat} {e : Xn} : env[i]? ≠ some (.xn e) := fun z => by
  have := List.all_eq_true.mp h _ (List.mem_of_getElem? z)
  cases this
/-- what leaves a suite: its name is gone -/
def outX (i : Nat) : Option Out → Option Out
  | some (.nx env) => if noXn (env.set i .un) then some (.nx (env.set i .un)) else none
  | some (.bk env) => if noXn (env.set i .un) then some (.bk (env.set i .un)) else none
  | some (.ct env) => if noXn (env.set i .un) then some (.ct (env.set i .un)) else none
  | some (.rt (.d x) env) => if noXn (env.set i .un) then some (.rt (.d x) (env.set i .un)) else none
  | some (.rt (.own c) env) => if noXn (env.set i .un) then some (.rt (.own c) (env.set i .un)) else none
  | some (.rt (.cv j) env) => if noXn (env.set i .un) && !(i == j) then some (.rt (.cv j) (env.set i .un)) else none
  | _ => none
def tryS (i : Nat) (cl : List Str) (f g : SS) : SS := fun env => match f env with
  | some (.ex e env1) => if e.cls ∈ cl then (if freeSlot env1[i]? then outX i (g (env1.set i (.xn e))) else none) else some (.ex e env1)
  | o => o
section
variable {K : PySem.W.Frag} {W : WX} {F F' : Hp} {R R' : Fm} {σ : L2.St} {H H' : Hp} {env env' : Sl} {En : Ends}
/-- a slot holds nothing any more -/
theorem Sta.gone (S : Sta K F R σ H env) (i : Nat) : Sta K F R (σ.set i none) H (env.set i .un) := by
  have other : ∀ {j : Nat} {s : SV}, (env.set i .un)[j]? = some s → s ≠ .un → j ≠ i ∧ env[j]? = some s := fun {j s} h hs => by
    by_cases hj : j = i
    · subst hj
      by_cases hl : j < env.length
      · rw [List.getElem?_set_self hl] at h
        exact absurd (Option.some.inj h).symm hs
      · rw [List.getElem?_eq_none (by rw [List.length_set]; omega)] at h
        cases h
    · rw [List.getElem?_set_ne (Ne.symm hj)] at h
      exact ⟨hj, h⟩
  refine ⟨S.sub, S.fr, S.dis, by rw [List.length_set, List.length_set]; exact S.len, fun j x e => ?_, fun j b c e => ?_, fun j c e => ?_, fun j k bj cj bk ck q h1 h2 h3 h4 => ?_, S.xnSet (Ex.refl F) _ (fun y z => by cases z), S.tab⟩
  · obtain ⟨hj, e⟩ := other e (by simp)
    rw [List.getElem?_set_ne (Ne.symm hj)]
    exact S.dat j x e
  · obtain ⟨hj, e⟩ := other e (by simp)
    rw [List.getElem?_set_ne (Ne.symm hj)]
    exact S.own j b c e
  · obtain ⟨hj, e⟩ := other e (by simp)
    rw [List.getElem?_set_ne (Ne.symm hj)]
    exact S.tag j c e
  · obtain ⟨hj, h1⟩ := other h1 (by simp)
    obtain ⟨hk, h2⟩ := other h2 (by simp)
    rw [List.getElem?_set_ne (Ne.symm hj)] at h3
    rw [List.getElem?_set_ne (Ne.symm hk)] at h4
    exact S.inj j k bj cj bk ck q h1 h2 h3 h4
theorem RvOk.gone {i : Nat} {a : RV} {v : V} (h : RvOk K F R σ H env v a) (ha : a ≠ .cv i) : RvOk K F R (σ.set i none) H (env.set i .un) v a := by
  cases a with
  | d x => exact h
  | cv j =>
    have h : σ[j]? = some (some v) := h
    show (σ.set i none)[j]? = some (some v)
    rw [List.getElem?_set_ne (fun z => ha (by rw [z]))]
    exact h
  | own c =>
    obtain ⟨p, o, e1, e2, e3, e4, e5, e6⟩ := h
    refine ⟨p, o, e1, e2, e3, e4, e5, fun j b c' q z => ?_⟩
    by_cases hj : j = i
    · subst hj
      by_cases hl : j < σ.length
      · rw [List.getElem?_set_self hl] at z; cases z
      · rw [List.getElem?_eq_none (by rw [List.length_set]; omega)] at z; cases z
    · rw [List.getElem?_set_ne (Ne.symm hj)] at q z
      exact e6 j b c' q z
/-- the exception is in hand -/
theorem Sta.toX (hX : Tabs.X = none) (S : Sta K F R σ H env) {i : Nat} {a : Addr} {cls : Value} {d : Option Addr} {e : Xn} (hf : freeSlot env[i]? = true) (hx : XnAt K F e cls d) : @Sta _ (tx a cls d) K F R (σ.set i (some (.ref a))) H (env.set i (.xn e)) := by
  have hl : i < env.length := by
    cases h : env[i]? with
    | none => rw [h] at hf; cases hf
    | some s => exact (List.getElem?_eq_some_iff.mp h).1
  have hl' : i < σ.length := by rw [S.len]; exact hl
  have other : ∀ {j : Nat} {s : SV}, (env.set i (.xn e))[j]? = some s → (j = i ∧ s = .xn e) ∨ (j ≠ i ∧ env[j]? = some s) := fun {j s} h => by
    by_cases hj : j = i
    · subst hj
      rw [List.getElem?_set_self hl] at h
      exact .inl ⟨rfl, (Option.some.inj h).symm⟩
    · rw [List.getElem?_set_ne (Ne.symm hj)] at h
      exact .inr ⟨hj, h⟩
  refine @Sta.mk _ (tx a cls d) K F R _ H _ S.sub S.fr S.dis (by simpa using S.len) (fun j x q => ?_) (fun j b c q => ?_) (fun j c q => ?_) (fun j k bj cj bk ck p h1 h2 h3 h4 => ?_) (fun j x q => ?_) S.tab
  · rcases other q with ⟨_, z⟩ | ⟨hj, q⟩
    · cases z
    · obtain ⟨v, z1, z2⟩ := S.dat j x q
      exact ⟨v, by rw [List.getElem?_set_ne (Ne.symm hj)]; exact z1, z2⟩
  · rcases other q with ⟨_, z⟩ | ⟨hj, q⟩
    · cases z
    · obtain ⟨p, o, z1, z2⟩ := S.own j b c q
      exact ⟨p, o, by rw [List.getElem?_set_ne (Ne.symm hj)]; exact z1, z2⟩
  · rcases other q with ⟨_, z⟩ | ⟨hj, q⟩
    · cases z
    · rw [List.getElem?_set_ne (Ne.symm hj)]; exact S.tag j c q
  · rcases other h1 with ⟨_, z⟩ | ⟨hj, h1⟩
    · cases z
    · rcases other h2 with ⟨_, z⟩ | ⟨hk, h2⟩
      · cases z
      · rw [List.getElem?_set_ne (Ne.symm hj)] at h3
        rw [List.getElem?_set_ne (Ne.symm hk)] at h4
        exact S.inj j k bj cj bk ck p h1 h2 h3 h4
  · rcases other q with ⟨hj, z⟩ | ⟨hj, q⟩
    · cases z
      subst hj
      exact ⟨a, cls, d, rfl, by rw [List.getElem?_set_self hl'], hx⟩
    · obtain ⟨_, _, _, z, _⟩ := S.xn j x q
      rw [hX] at z
      cases z
theorem Sta.ofX {a : Addr} {cls : Value} {d : Option Addr} (S : @Sta _ (tx a cls d) K F R σ H env) (h : noXn env = true) : Sta K F R σ H env := by
  obtain ⟨h1, h2, h3, h4, h5, h6, h7, h8, _, h10⟩ := S
  exact ⟨h1, h2, h3, h4, h5, h6, h7, h8, fun i e q => absurd q (noXn_at h), h10⟩
theorem noXn_free {i : Nat} {a : Addr} {cls : Value} {d : Option Addr} (S : @Sta _ (tx a cls d) K F R σ H env) (h : noXn (env.set i .un) = true) : Sta K F R (σ.set i none) H (env.set i .un) := (@Sta.gone _ (tx a cls d) _ _ _ _ _ _ S i).ofX h
/-- what an exception of one's own class is caught by -/
theorem dS_try {c : Value} {i : Nat} {cl : List Str} {f g : SS} (hX : Tabs.X = none) (hs : ∀ n C, Glo.C n C → PySem.W.exmOne K (.ref C) c = some (decide (n ∈ cl))) (h : dS K W (tryS i cl f g) En σ H) :
    dS K (wAs K c i (fun a cls d => @dS _ (tx a cls d) K W0 g) W En) f En σ H := by
  obtain ⟨env, F, R, r, S, e, p⟩ := h
  have e : (match f env with
    | some (.ex e env1) => if e.cls ∈ cl then (if freeSlot env1[i]? then outX i (g (env1.set i (.xn e))) else none) else some (.ex e env1)
    | o => o) = some r := e
  cases h1 : f env with
  | none => rw [h1] at e; cases e
  | some o =>
    rw [h1] at e
    cases o with
    | ex x env1 =>
      dsimp only at e
      refine ⟨env, F, R, _, S, h1, fun cls d σ' F' H' e1 S1 hx => ?_⟩
      obtain ⟨C, gC, hc, hrest⟩ := id hx
      refine ⟨decide (x.cls ∈ cl), by rw [hc]; exact hs _ _ gC, fun hb a ha => ?_, fun hb => ?_⟩
      · rw [if_pos (of_decide_eq_true hb)] at e
        obtain ⟨hf, e⟩ := ite_none e
        cases h2 : g (env1.set i (.xn x)) with
        | none => rw [h2] at e; cases e
        | some o2 =>
          rw [h2] at e
          refine ⟨_, F', R, o2, S1.toX hX hf hx, h2, ?_⟩
          cases o2 with
          | nx env3 =>
            obtain ⟨hn, e⟩ := ite_none e
            cases e
            exact fun σ3 F3 H3 e3 S3 => p _ F3 H3 (e1.trans e3) (noXn_free S3 hn)
          | bk env3 =>
            obtain ⟨hn, e⟩ := ite_none e
            cases e
            exact fun σ3 F3 H3 e3 S3 => p _ F3 H3 (e1.trans e3) (noXn_free S3 hn)
          | ct env3 =>
            obtain ⟨hn, e⟩ := ite_none e
            cases e
            exact fun σ3 F3 H3 e3 S3 => p _ F3 H3 (e1.trans e3) (noXn_free S3 hn)
          | ex _ _ => cases e
          | rt a3 env3 =>
            cases a3 with
            | d y =>
              obtain ⟨hn, e⟩ := ite_none e
              cases e
              exact fun v σ3 F3 H3 e3 S3 rv => p v _ F3 H3 (e1.trans e3) (noXn_free S3 hn) (RvOk.gone rv (by simp))
            | own c3 =>
              obtain ⟨hn, e⟩ := ite_none e
              cases e
              exact fun v σ3 F3 H3 e3 S3 rv => p v _ F3 H3 (e1.trans e3) (noXn_free S3 hn) (RvOk.gone rv (by simp))
            | cv j =>
              obtain ⟨hn, e⟩ := ite_none e
              cases e
              rw [Bool.and_eq_true, Bool.not_eq_true', beq_eq_false_iff_ne] at hn
              exact fun v σ3 F3 H3 e3 S3 rv => p v _ F3 H3 (e1.trans e3) (noXn_free S3 hn.1) (RvOk.gone rv (fun z => hn.2 (RV.cv.inj z).symm))
      · rw [if_neg (of_decide_eq_false hb)] at e
        cases e
        exact p cls d σ' F' H' e1 S1 hx
    | nx env1 => cases e; exact ⟨env, F, R, _, S, h1, p⟩
    | bk env1 => cases e; exact ⟨env, F, R, _, S, h1, p⟩
    | ct env1 => cases e; exact ⟨env, F, R, _, S, h1, p⟩
    | rt a env1 => cases e; exact ⟨env, F, R, _, S, h1, p⟩
end
section
variable {X : Cx} {W : WX} {x n : Str} {C : Addr} {i : Nat} {cl : List Str} {body suite : List Stmt} {b₀ : Stmt} {np pos pos' : Pos} {f g : SS}
theorem ps_dtry (hX : Tabs.X = none) (hs : X.stack = X.env :: X.outer) (hf : X.env.frame = some X.env.locals) (hN : X.N.Nodup) (hi : X.N[i]? = some n) (hln : X.env.kindOf n = some .local) (hg : Gl X x) (hm : X.mg x = some (.ref C)) (tk : Takes X W)
    (hsub : ∀ n C', Glo.C n C' → PySem.W.exmOne X.K (.ref C') (.ref C) = some (decide (n ∈ cl)))
    (hb : ∀ (W : WX) (pn : List (Addr × Obj)) (xe : Value → Shared → Prop), Takes (X.tr pn xe) W → PassesOwn (model X.prog X.w) X.A X.env xe → PSs (X.tr pn xe) body (dS X.K W f))
    (hsu : ∀ (a : Addr) (oe : Obj) (cls : Value) (d : Option Addr) (pn : List (Addr × Obj)), Zc cls d oe → (∃ vs, oe.data = .fields vs) → PSs (X.suite a ((a, oe) :: pn)) (b₀ :: suite) (@dS _ (tx a cls d) X.K W0 g))
    (hdb : (x == ("__debug__" : Str)) = false := by decide) :
    PS X (.Try body [.ExceptHandler (some (.Name x np)) (some n) (b₀ :: suite) pos'] [] [] pos) (dS X.K W (tryS i cl f g)) :=
  (ps_try_as (i := i) (tb := fun W => dS X.K W f) (ts := fun a cls d => @dS _ (tx a cls d) X.K W0 g) (Wout := W) hs hf hN hi hln ⟨hg, hdb, .inl hm⟩ tk hb hsu).wk fun En σ H q => dS_try hX hsub q
end

/-! ### in a suite: e.f, isinstance(e, C) -/
def xfE (i : Nat) (f : Str) : SE := fun env => match env[i]? with
  | some (.xn e) => (e.fs.lookup f).map fun x => .ok (.d x) env
  | _ => none
def isxE (i : Nat) (cl : List Str) : SE := fun env => match env[i]? with
  | some (.xn e) => some (.ok (.d (.bl (decide (e.cls ∈ cl)))) env)
  | _ => none
/-- what a class of exceptions must have -/
structure XA (K : PySem.W.Frag) (C : Addr) : Prop where
  f : XfC K C
  w : PySem.W.findIn K (.ref C) "word" = some none
  p : PySem.W.findIn K (.ref C) "place" = some none
  cl : (PySem.W.clsIn K C).isSome = true
  ha : PySem.W.findIn K (.ref C) "__class__" = some (some (.builtin "object.__class__"))
  hm : PySem.W.mroIn K C (.type "object") = some true
theorem lookup_rel {K : PySem.W.Frag} {F : Hp} {f : Str} : ∀ {vfs : List (Str × V)} {fs : List (Str × D)} {x : D}, vfs.map (·.1) = fs.map (·.1) → RelAll K F (vfs.map (·.2)) (fs.map (·.2)) → fs.lookup f = some x → ∃ v, vfs.lookup f = some v ∧ Rel K F v x
  | [], [], _, _, _, h => by cases h
  | [], _ :: _, _, h, _, _ => by cases h
  | _ :: _, [], _, h, _, _ => by cases h
  | (a, v) :: vfs, (b, y) :: fs, x, h, r, l => by
    injection h with h1 h2
    have h1 : a = b := h1
    subst h1
    cases r with
    | cons r1 r2 =>
      rw [L2.lookup_put]
      by_cases e : f = a
      · subst e
        rw [List.lookup_cons_self] at l
        cases l
        exact ⟨v, if_pos rfl, r1⟩
      · have e' : (f == a) = false := by simpa using e
        rw [List.lookup_cons, e'] at l
        rw [if_neg e]
        exact lookup_rel h2 r2 l
section
variable {X : Cx} {W : WX} {a : Addr} {oe : Obj} {cls : Value} {d : Option Addr} {pn : List (Addr × Obj)} {i : Nat} {n f : Str} {pos p : Pos}
/-- several readings of one thing -/
theorem _root_.L2.PE.some {X : Cx} {e : Expr} {ι : Type} {P : ι → Prop} {t : ι → TE} (h : ∀ c, P c → PE X e (t c)) : PE X e (fun σ H Q => ∃ c, P c ∧ t c σ H Q) := ⟨fun pins s σ H Q I ⟨c, h1, q⟩ => (h c h1).run pins s σ H Q I q⟩
theorem pd_xf (xG : ∀ n C, Glo.C n C → XA X.K C) (hff : f = "word" ∨ f = "place") (hz : Zc cls d oe) (hf : ∃ vs, oe.data = .fields vs) (he : PE (X.suite a ((a, oe) :: pn)) (.Name n p) (tVar i))
    (hb : attributeBase (.Name n p) f X.env (eval (.Name n p) X.env) = eval (.Name n p) X.env := by rfl) : PE (X.suite a ((a, oe) :: pn)) (.Attribute (.Name n p) f pos) (@dE _ (tx a cls d) X.K W (xfE i f)) := by
  refine (PE.some (P := fun C => XA X.K C) fun C T => pe_xf T.f (show PySem.W.findIn X.K (.ref C) f = some none by rcases hff with h | h <;> subst h; exact T.w; exact T.p) hz hf he hb).wk fun σ H Q q => ?_
  obtain ⟨env, F, R, r, S, ev, pp⟩ := q
  unfold xfE at ev
  cases hi : env[i]? with
  | none => rw [hi] at ev; cases ev
  | some s =>
    rw [hi] at ev
    cases s with
    | xn e =>
      dsimp only at ev
      rw [Option.map_eq_some_iff] at ev
      obtain ⟨x, hl, rfl⟩ := ev
      obtain ⟨a', cls', d', z, hσ, C, gC, hc, dd, vfs, hd, hF, hn, hr⟩ := @Sta.xn _ (tx a cls d) _ _ _ _ _ _ S i e hi
      cases z
      obtain ⟨v, hv, rv⟩ := lookup_rel hn hr hl
      exact ⟨C, xG _ _ gC, .ref a, hσ, rfl, hc, dd, vfs, v, hd, @Sta.sub _ (tx a cls d) _ _ _ _ _ _ S _ _ hF, hv, pp v F H (Ex.refl F) S rv⟩
    | un => cases ev
    | d _ => cases ev
    | own _ _ => cases ev
/-- the call of isinstance on the exception in hand -/
def rIsX (K : PySem.W.Frag) (a : Addr) (cls : Value) (d : Option Addr) : List V → Hp → VK → Prop := fun xs H Q => ∃ (c : V) (cv : Value) (b : Bool) (C dd : Addr) (fs : List (Str × V)), xs = [.ref a, c] ∧ (∀ u, RelV c u → u = cv) ∧ cls = .ref C ∧ d = some dd ∧ H dd = some (.xd fs) ∧ XA K C ∧ PySem.W.kitOne K (.ref C) cv = some b ∧ Q (.bl b) H
theorem call_isX (hn : PySem.W.specialIn X.K (.builtin "object.__class__") "__get__" = some (some (.builtin "getset_descriptor.__get__"))) (ht : PySem.W.takesIn X.K (.builtin "object.__class__") = some true) (hz : Zc cls d oe) (hf : ∃ vs, oe.data = .fields vs) :
    CallR (X.suite a ((a, oe) :: pn)) (.builtin "isinstance") (rIsX X.K a cls d) := by
  intro pins s σ H xs us Q I r h
  obtain ⟨c, cv, b, C, dd, fs, rfl, hcv, hc, hd, hH, T, e, q⟩ := h
  cases r with
  | cons rx rr =>
    cases rr with
    | cons rt rr =>
      cases rr
      cases rx
      have ec := hcv _ rt
      subst ec
      obtain ⟨hget, _⟩ := I.pin (a, oe) (List.mem_append.mpr (.inl List.mem_cons_self))
      obtain ⟨vs, hv⟩ := hf
      have hx : ObjOk X.prog X.w H s.heap dd (.xd fs) := I.hok dd _ hH
      obtain ⟨mA, hns, hr⟩ := hx
      obtain ⟨od, ho, hl⟩ := lookIn_ns hns
      have J : PySem.W.InstAt s.heap a oe C (some od) := ⟨hget, by rw [hz.1, hc], by unfold PySem.W.notCls; rw [hv] <;> rfl, by rw [hz.2, hd]; exact ho⟩
      exact PySem.W.kia_one (PySem.W.kitx_exc T.cl T.f.ga T.f.gg T.f.exC T.ha hn ht T.hm) I.kIn J e (fun z => nomatch z) fun tk => ⟨.bl b, H, I.kept (t' := tk) fun _ _ z => z, rfl, q⟩
theorem dE_isx {K : PySem.W.Frag} {cv : Value} {c : V} {cl : List Str} {σ : L2.St} {H : Hp} {Q : VK} (xG : ∀ n C, Glo.C n C → XA K C) (hcv : ∀ u, RelV c u → u = cv) (hk : ∀ n C, Glo.C n C → PySem.W.kitOne K (.ref C) cv = some (decide (n ∈ cl)))
    (q : @dE _ (tx a cls d) K W (isxE i cl) σ H Q) : tCB (rIsX K a cls d) (tCons (tVar i) (tCons (tC c) tNil)) σ H Q := by
  obtain ⟨env, F, R, r, S, ev, pp⟩ := q
  unfold isxE at ev
  cases hi : env[i]? with
  | none => rw [hi] at ev; cases ev
  | some s =>
    rw [hi] at ev
    cases s with
    | xn e =>
      cases ev
      obtain ⟨a', cls', d', z, hσ, C, gC, hc, dd, vfs, hd, hF, hn, hr⟩ := @Sta.xn _ (tx a cls d) _ _ _ _ _ _ S i e hi
      cases z
      exact ⟨.ref a, hσ, c, cv, _, C, dd, vfs, rfl, hcv, hc, hd, @Sta.sub _ (tx a cls d) _ _ _ _ _ _ S _ _ hF, xG _ _ gC, hk _ _ gC, pp _ F H (Ex.refl F) S (.bl _)⟩
    | un => cases ev
    | d _ => cases ev
    | own _ _ => cases ev
/-- isinstance(e, D), D a class of one's own -/
theorem pd_isx {D : Addr} {T : Str} {cl : List Str} {p1 p2 p3 : Pos} (xG : ∀ n C, Glo.C n C → XA X.K C) (hn : PySem.W.specialIn X.K (.builtin "object.__class__") "__get__" = some (some (.builtin "getset_descriptor.__get__"))) (ht : PySem.W.takesIn X.K (.builtin "object.__class__") = some true)
    (hk : ∀ n C, Glo.C n C → PySem.W.kitOne X.K (.ref C) (.ref D) = some (decide (n ∈ cl))) (hz : Zc cls d oe) (hf : ∃ vs, oe.data = .fields vs) (hm : X.mg "isinstance" = none) (hT : X.mg T = some (.ref D)) (he : PE (X.suite a ((a, oe) :: pn)) (.Name n p1) (tVar i)) (hgT : Gl X T := by rfl) (hTd : (T == ("__debug__" : Str)) = false := by decide) (hg : Gl X "isinstance" := by rfl)
    (he1 : starEach [.Name n p1, .Name T p2] X.env = (false, eval (.Name n p1) X.env) :: starEach [.Name T p2] X.env := by rfl) (he2 : starEach [.Name T p2] X.env = (false, eval (.Name T p2) X.env) :: starEach [] X.env := by rfl) (hpl : (backTo pos (starEach [.Name T p2] X.env)).any (·.1) = false := by rfl) :
    PE (X.suite a ((a, oe) :: pn)) (.Call (.Name "isinstance" p3) [.Name n p1, .Name T p2] [] pos) (@dE _ (tx a cls d) X.K W (isxE i cl)) :=
  (pe_callB (call_isX hn ht hz hf) hg hm (show bootBuiltins "isinstance" = some (.builtin "isinstance") by rfl) (pa_cons he (pa_cons (pe_glob (X := X.suite a ((a, oe) :: pn)) (v := .ref D) hgT hT rfl hTd) pa_nil he2) he1) (by decide) (by decide) he1 hpl).wk fun σ H Q q => dE_isx (cv := .ref D) xG (fun u r => r) hk q
/-- .. a built-in class -/
theorem pd_isxB {T : Str} {tn : String} {cl : List Str} {p1 p2 p3 : Pos} (xG : ∀ n C, Glo.C n C → XA X.K C) (hn : PySem.W.specialIn X.K (.builtin "object.__class__") "__get__" = some (some (.builtin "getset_descriptor.__get__"))) (ht : PySem.W.takesIn X.K (.builtin "object.__class__") = some true)
    (hk : ∀ n C, Glo.C n C → PySem.W.kitOne X.K (.ref C) (.type tn) = some (decide (n ∈ cl))) (hz : Zc cls d oe) (hf : ∃ vs, oe.data = .fields vs) (hm : X.mg "isinstance" = none) (hT : X.mg T = none) (hbT : bootBuiltins T = some (.type tn)) (he : PE (X.suite a ((a, oe) :: pn)) (.Name n p1) (tVar i)) (hgT : Gl X T := by rfl) (hTn : T ≠ "__name__" := by decide) (hTd : (T == ("__debug__" : Str)) = false := by decide) (hg : Gl X "isinstance" := by rfl)
    (he1 : starEach [.Name n p1, .Name T p2] X.env = (false, eval (.Name n p1) X.env) :: starEach [.Name T p2] X.env := by rfl) (he2 : starEach [.Name T p2] X.env = (false, eval (.Name T p2) X.env) :: starEach [] X.env := by rfl) (hpl : (backTo pos (starEach [.Name T p2] X.env)).any (·.1) = false := by rfl) :
    PE (X.suite a ((a, oe) :: pn)) (.Call (.Name "isinstance" p3) [.Name n p1, .Name T p2] [] pos) (@dE _ (tx a cls d) X.K W (isxE i cl)) :=
  (pe_callB (call_isX hn ht hz hf) hg hm (show bootBuiltins "isinstance" = some (.builtin "isinstance") by rfl) (pa_cons he (pa_cons (pe_bltn (X := X.suite a ((a, oe) :: pn)) (v := .ty tn) hgT hT hbT rfl hTn hTd) pa_nil he2) he1) (by decide) (by decide) he1 hpl).wk fun σ H Q q => dE_isx (cv := .type tn) xG (fun u r => r) hk q
end
end
end Dw
namespace Dw
noncomputable section
open PySem PySem.Spec PyProof.Rows L2
variable [Glo] [Tabs]

/-! ### the classes of exceptions, bundled -/
/-- what «except x» catches of the classes of one's own -/
structure ExS (K : PySem.W.Frag) (mg : Str → Option Value) (x : Str) (cl : List Str) : Prop where
  ex : ∃ D : Addr, mg x = some (.ref D) ∧ (∀ n C, Glo.C n C → PySem.W.exmOne K (.ref C) (.ref D) = some (decide (n ∈ cl))) ∧ ∀ n C, Glo.C n C → PySem.W.kitOne K (.ref C) (.ref D) = some (decide (n ∈ cl))
/-- what isinstance wants -/
structure XIs (K : PySem.W.Frag) : Prop where
  g : ∀ n C, Glo.C n C → XA K C
  n : PySem.W.specialIn K (.builtin "object.__class__") "__get__" = some (some (.builtin "getset_descriptor.__get__"))
  t : PySem.W.takesIn K (.builtin "object.__class__") = some true
theorem exS_of {K : PySem.W.Frag} {mg : Str → Option Value} {x : Str} {cl : List Str} {D : Addr} (hm : mg x = some (.ref D)) (h1 : PySem.W.subIn K (.ref D) (.type "BaseException") = some true) (hd : PySem.W.hasDictIn K D = true) (ht : PySem.W.typeIn K (.ref D) = some (.type "type"))
    (hs : ∀ n C, Glo.C n C → PySem.W.subIn K (.ref C) (.ref D) = some (decide (n ∈ cl))) (hk : ∀ n C, Glo.C n C → PySem.W.kitOne K (.ref C) (.ref D) = some (decide (n ∈ cl))) : ExS K mg x cl :=
  ⟨D, hm, fun n C g => PySem.W.exm_ref h1 hd ht (hs n C g), hk⟩
section
variable {X : Cx} {W : WX} {a : Addr} {oe : Obj} {cls : Value} {d : Option Addr} {pn : List (Addr × Obj)} {i : Nat} {n x f : Str} {cl : List Str} {p p1 p2 p3 pos pos' np : Pos} {body suite : List Stmt} {b₀ : Stmt} {g f' : SS}
theorem ps_dtryS (hX : Tabs.X = none) (E : ExS X.K X.mg x cl) (hs : X.stack = X.env :: X.outer) (hf : X.env.frame = some X.env.locals) (hN : X.N.Nodup) (hi : X.N[i]? = some n) (hln : X.env.kindOf n = some .local) (hg : Gl X x) (tk : Takes X W)
    (hb : ∀ (W : WX) (pn : List (Addr × Obj)) (xe : Value → Shared → Prop), Takes (X.tr pn xe) W → PassesOwn (model X.prog X.w) X.A X.env xe → PSs (X.tr pn xe) body (dS X.K W f'))
    (hsu : ∀ (a : Addr) (oe : Obj) (cls : Value) (d : Option Addr) (pn : List (Addr × Obj)), Zc cls d oe → (∃ vs, oe.data = .fields vs) → PSs (X.suite a ((a, oe) :: pn)) (b₀ :: suite) (@dS _ (tx a cls d) X.K W0 g))
    (hdb : (x == ("__debug__" : Str)) = false := by decide) :
    PS X (.Try body [.ExceptHandler (some (.Name x np)) (some n) (b₀ :: suite) pos'] [] [] pos) (dS X.K W (tryS i cl f' g)) := by
  obtain ⟨D, hm, h1, _⟩ := E.ex
  exact ps_dtry hX hs hf hN hi hln hg hm tk h1 hb hsu hdb
theorem pd_isxS (xI : XIs X.K) (E : ExS X.K X.mg x cl) (hz : Zc cls d oe) (hf : ∃ vs, oe.data = .fields vs) (hm : X.mg "isinstance" = none) (he : PE (X.suite a ((a, oe) :: pn)) (.Name n p1) (tVar i)) (hgT : Gl X x := by rfl) (hTd : (x == ("__debug__" : Str)) = false := by decide) (hg : Gl X "isinstance" := by rfl)
    (he1 : starEach [.Name n p1, .Name x p2] X.env = (false, eval (.Name n p1) X.env) :: starEach [.Name x p2] X.env := by rfl) (he2 : starEach [.Name x p2] X.env = (false, eval (.Name x p2) X.env) :: starEach [] X.env := by rfl) (hpl : (backTo pos (starEach [.Name x p2] X.env)).any (·.1) = false := by rfl) :
    PE (X.suite a ((a, oe) :: pn)) (.Call (.Name "isinstance" p3) [.Name n p1, .Name x p2] [] pos) (@dE _ (tx a cls d) X.K W (isxE i cl)) := by
  obtain ⟨D, hm2, _, h2⟩ := E.ex
  exact pd_isx xI.g xI.n xI.t h2 hz hf hm hm2 he hgT hTd hg he1 he2 hpl
end

/-! ### a <= b <= c -/
def chainE (g g' : D → D → Option RV) (fa fb fc : SE) : SE := fun env => bindE (fa env) fun a env1 => bindE (fb env1) fun b env2 =>
  (pk a env2).bind fun x => (pk b env2).bind fun y => match g x y with
    | some (.d (.bl true)) => bindE (fc env2) fun c env3 => (pk b env3).bind fun y' => (pk c env3).bind fun z => (g' y' z).map (Re.ok · env3)
    | some (.d (.bl false)) => some (.ok (.d (.bl false)) env2)
    | _ => none
section
variable {K : PySem.W.Frag} {W : WX} {F F' : Hp} {R R' : Fm} {σ : L2.St} {H H' : Hp} {env : Sl} {Q : VK}
theorem dE_chain {g g' : D → D → Option RV} {r r' : R2} {fa fb fc : SE} (hs : Snd2 K g r) (hs' : Snd2 K g' r') (h : dE K W (chainE g g' fa fb fc) σ H Q) : tChain r r' (dE K W fa) (dE K W fb) (dE K W fc) σ H Q := by
  obtain ⟨env, F, R, S, q⟩ := of_dE h
  refine dE_of S (atE_bind q fun a env1 F1 v H1 e1 S1 rv q1 => ?_)
  obtain ⟨R', eR, S1', hd⟩ := hold S1 rv
  refine dE_of S1' (atE_bindR eR q1 fun b env2 F2 w H2 e2 S2 rw' q2 => ?_)
  have S3 := S2.unhold eR
  have rv3 := unheld e2 eR S2 hd
  have rw3 := rw'.unhold eR
  obtain ⟨r0, e, p⟩ := q2
  rw [Option.bind_eq_some_iff] at e
  obtain ⟨x, hx, e⟩ := e
  rw [Option.bind_eq_some_iff] at e
  obtain ⟨y, hy, e⟩ := e
  have vx := pk_vw S3 rv3 hx
  have vy := pk_vw S3 rw3 hy
  cases hg : g x y with
  | none => rw [hg] at e; cases e
  | some z =>
    rw [hg] at e
    match z, hg, e with
    | .d (.bl false), hg, e =>
      cases e
      refine hs (W := W) (env := env2) S3 vx vy hg fun v3 F3 H3 e3 S4 r3 => ?_
      have r3 : Rel K F3 v3 (.bl false) := r3
      cases r3
      exact ⟨false, rfl, by rw [if_neg Bool.false_ne_true]; exact p _ F3 H3 e3 S4 (.bl _)⟩
    | .d (.bl true), hg, e =>
      obtain ⟨R4, eR4, S4, hd4⟩ := hold S3 rw3
      have vy4 : Vw K F2 H2 w y := vy
      refine hs (W := W) (env := env2) S4 vx vy hg fun v3 F3 H3 e3 S5 r3 => ?_
      have r3 : Rel K F3 v3 (.bl true) := r3
      cases r3
      refine ⟨true, rfl, ?_⟩
      rw [if_pos rfl]
      refine dE_of S5 ?_
      have q5 : atE K W (fun env => bindE (fc env) fun c env3 => (pk b env3).bind fun y' => (pk c env3).bind fun z => (g' y' z).map (Re.ok · env3)) F3 R σ env2 Q := ⟨r0, e, p.up e3⟩
      refine atE_bindR eR4 q5 fun c env3 F6 u H6 e6 S6 ru q6 => ?_
      have S7 := S6.unhold eR4
      have rw7 := unheld (e3.trans e6) eR4 S6 hd4
      have ru7 := ru.unhold eR4
      obtain ⟨r1, e, p⟩ := q6
      rw [Option.bind_eq_some_iff] at e
      obtain ⟨y', hy', e⟩ := e
      rw [Option.bind_eq_some_iff] at e
      obtain ⟨z', hz', e⟩ := e
      rw [Option.map_eq_some_iff] at e
      obtain ⟨o, ho, rfl⟩ := e
      exact hs' S7 (pk_vw S7 rw7 hy') (pk_vw S7 ru7 hz') ho p
    | .d .non, _, e => cases e
    | .d (.int _), _, e => cases e
    | .d (.str _), _, e => cases e
    | .d (.lst _), _, e => cases e
    | .d (.tup _), _, e => cases e
    | .d (.dct _ _), _, e => cases e
    | .d (.ins _ _ _), _, e => cases e
    | .own _, _, e => cases e
    | .cv _, _, e => cases e
end
section
variable {X : Cx} {W : WX} {a b c : Expr} {fa fb fc : SE} {pos : Pos}
theorem pd_chain {op op' : CmpOp} {r r' : R2} {g g' : D → D → Option RV} (ho : OpR X (compareOp op) r) (ho' : OpR X (compareOp op') r') (hs : Snd2 X.K g r) (hs' : Snd2 X.K g' r') (ha : PE X a (dE X.K W fa)) (hb : PE X b (dE X.K W fb)) (hc : PE X c (dE X.K W fc)) (hm : lastMarks [op, op'] [b, c] = false := by with_unfolding_all rfl) :
    PE X (.Compare a [op, op'] [b, c] pos) (dE X.K W (chainE g g' fa fb fc)) := (pe_chain ho ho' ha hb hc hm).wk fun _ _ _ q => dE_chain hs hs' q
theorem pd_chLL (ha : PE X a (dE X.K W fa)) (hb : PE X b (dE X.K W fb)) (hc : PE X c (dE X.K W fc)) (hm : lastMarks [.LtE, .LtE] [b, c] = false := by with_unfolding_all rfl) : PE X (.Compare a [.LtE, .LtE] [b, c] pos) (dE X.K W (chainE leD leD fa fb fc)) := pd_chain (OpR.or op_le op_le_str) (OpR.or op_le op_le_str) snd_le snd_le ha hb hc hm
theorem pd_chLS (ha : PE X a (dE X.K W fa)) (hb : PE X b (dE X.K W fb)) (hc : PE X c (dE X.K W fc)) (hm : lastMarks [.LtE, .Lt] [b, c] = false := by with_unfolding_all rfl) : PE X (.Compare a [.LtE, .Lt] [b, c] pos) (dE X.K W (chainE leD ltD fa fb fc)) := pd_chain (OpR.or op_le op_le_str) (OpR.or op_lt op_lt_str) snd_le snd_lt ha hb hc hm
end

/-! ### f() -/
def callD0 (m : List SV → Option FR) (dfs : List D) : SE := fun env => (m (dfs.map .d)).bind (outD env)
section
variable {K : PySem.W.Frag} {W : WX} {σ : L2.St} {H : Hp} {Q : VK}
theorem dE_callD0 {np : Nat} {m : List SV → Option FR} {dfs : List D} {dvs : List V} (hd : ∀ F : Hp, RelAll K F dvs dfs) (hn : ∀ as fr, m as = some fr → as.length = np) (h : dE K W (callD0 m dfs) σ H Q) : spD K np m dvs H Q (WE W σ) := by
  obtain ⟨env, F, R, r, S, e, p⟩ := h
  have e : (m (dfs.map .d)).bind (outD env) = some r := e
  rw [Option.bind_eq_some_iff] at e
  obtain ⟨fr, h4, h5⟩ := e
  exact ⟨F, calF R σ H env env.length 0, _, fr, hn _ _ h4, S.callD (hd F), h4, post_out S (hd F) h5 p⟩
end
theorem pd_call0 {X : Cx} {W : WX} {k j : Nat} {x : Str} {np : Nat} {m : List SV → Option FR} {dfs : List D} {p pos : Pos} (C : Def X.prog X.w X.K X.mg X.base k x np m dfs) (hr : Room j X.A) (hj : k ≤ j) (hg : Gl X x := by rfl) (hdb : (x == ("__debug__" : Str)) = false := by decide) :
    PE X (.Call (.Name x p) [] [] pos) (dE X.K W (callD0 m dfs)) := by
  obtain ⟨f, fd, ps, ds, dvs, h1, h2, h3, h4, h5, h6, h7⟩ := C.ex
  refine ⟨fun pins s σ H Q I h => ?_⟩
  refine wpAny_Call_Name_kw (ld_glob I hg h2 ?_ hdb)
  refine PySem.W.callWith_K0 I.kIn h3 ?_
  exact run_fnSD (vs := []) (us := []) (E := WE W) h1 (hr.mono hj) h4 h5 (fun pins H s e s' I c => c.elim) I .nil (dE_callD0 h6 h7 h)
end
end Dw
namespace Dw
noncomputable section
open PySem PySem.Spec PyProof.Rows L2
variable [Glo] [Tabs]
/-! ### the end: the classes of exceptions out of what the top has left -/
def clsBody : Stmt → List Stmt
  | .ClassDef _ _ _ b _ _ _ _ _ _ _ => b
  | _ => []
section
variable {K : PySem.W.Frag} {mg : Str → Option Value}
theorem funD_mk {x qual : Str} {st : Stmt} {f T : Addr} {oc : Value} {od an odT : Option Addr} {osl slT : Array (Option Value)} {kV doc pm cdv ct ocT : Value} {its : List Value} {n : Nat} {dvs : List V} (l : K.lookup f = some ⟨oc, od, .func (PySem.W.fnOf x qual (defArgs st) (defBody st) (defScope st) (.ref T) kV doc pm an cdv ct), osl⟩)
    (c : PySem.W.codeIn K cdv qual = true) (k : PySem.W.keepIn K (.ref f) = true) (lT : K.lookup T = some ⟨ocT, odT, .seq its.toArray n, slT⟩) (hv : Vals dvs its) (hne : dvs ≠ []) : FunD K x qual (defArgs st) (defBody st) (defScope st) dvs [] f (PySem.W.fnOf x qual (defArgs st) (defBody st) (defScope st) (.ref T) kV doc pm an cdv ct) :=
  ⟨⟨oc, od, .ref T, kV, doc, pm, an, cdv, ct, osl, rfl, l, c, .inr ⟨hne, T, _, its, n, rfl, lT, rfl, hv⟩, .inl rfl⟩, k⟩
theorem vals_nil {ds : List Value} (h : Vals [] ds) : ds = [] := by cases h; rfl
theorem binds_full {fd : FuncData} {ps : List Str} (h : ∃ ds, Vals [] ds ∧ Binds K fd ps ds) : Binds K fd ps [] := by
  obtain ⟨ds, h1, h2⟩ := h
  rw [vals_nil h1] at h2
  exact h2
theorem oexC_of {C N : Addr} {nm q : Str} {bs bm : List Value} {sn : List Str} {sub : List Value} {ab : Bool} {col : Option Bool} {dd : Option Addr} {m0 m1 m2 m3 m5 : Option Value} (xl : K.lookup C = some (excClassObj nm q C N bs bm true sn sub ab col dd m0 m1 m2 m3 m5 "ValueError.__new__")) (hbm : PySem.HandSPX.refsVE bm = true)
    (sa : PySem.W.findIn K (.ref C) "__setattr__" = some (some (.builtin "object.__setattr__"))) (ex : PySem.W.subIn K (.ref C) (.type "BaseException") = some true) (ty : PySem.W.typeIn K (.ref C) = some (.type "type")) (kc : PySem.W.keepIn K (.ref C) = true) : OexC K C :=
  ⟨⟨nm, q, N, bs, bm, sn, sub, ab, col, dd, m0, m1, m2, m3, m5, xl, hbm⟩, sa, ex, ty, kc⟩
theorem clsIn_of {C N : Addr} {nm q : Str} {bs bm : List Value} {sn : List Str} {sub : List Value} {ab : Bool} {col : Option Bool} {dd : Option Addr} {m0 m1 m2 m3 m5 : Option Value} (xl : K.lookup C = some (excClassObj nm q C N bs bm true sn sub ab col dd m0 m1 m2 m3 m5 "ValueError.__new__")) : (PySem.W.clsIn K C).isSome = true := by
  unfold PySem.W.clsIn
  rw [xl]
  rfl
end
end
end Dw
namespace Dw
section
variable [Glo] [Tabs]
@[simp] theorem cD_lst {xs : List D} : cD (.lst xs) = .lst xs := rfl
end
end Dw
namespace Dw
noncomputable section
open PySem PySem.Spec PyProof.Rows L2
variable [Glo] [Tabs]

/-! ### what a meaning comes to, read backwards -/
abbrev QE := RV → Sl → Prop
abbrev QX := Xn → Sl → Prop
def wr (r : Option Re) (Q : QE) (E : QX) : Prop := match r with
  | some (.ok a e) => Q a e
  | some (.ex x e) => E x e
  | none => False
def wra (r : Option ReA) (Q : List RV → Sl → Prop) (E : QX) : Prop := match r with
  | some (.ok a e) => Q a e
  | some (.ex x e) => E x e
  | none => False
def wri (r : Option ReI) (Q : List D → Sl → Prop) (E : QX) : Prop := match r with
  | some (.ok a e) => Q a e
  | some (.ex x e) => E x e
  | none => False
structure Ks where
  rt : QE
  bk : Sl → Prop
  ct : Sl → Prop
  ex : QX
def wrs (r : Option Out) (N : Sl → Prop) (k : Ks) : Prop := match r with
  | some (.nx e) => N e
  | some (.rt a e) => k.rt a e
  | some (.bk e) => k.bk e
  | some (.ct e) => k.ct e
  | some (.ex x e) => k.ex x e
  | none => False
def wF (r : Option FR) (Q : RV → List SV → Prop) (E : Xn → List SV → Prop) : Prop := match r with
  | some (.ok a o) => Q a o
  | some (.ex x o) => E x o
  | none => False
def wE (f : SE) (env : Sl) (Q : QE) (E : QX) : Prop := wr (f env) Q E
def wA (f : SA) (env : Sl) (Q : List RV → Sl → Prop) (E : QX) : Prop := wra (f env) Q E
def wI (f : SI) (env : Sl) (Q : List D → Sl → Prop) (E : QX) : Prop := wri (f env) Q E
def wS (f : SS) (env : Sl) (N : Sl → Prop) (k : Ks) : Prop := wrs (f env) N k
def nE : QX := fun _ _ => False
def nS : Sl → Prop := fun _ => False
def nX : Xn → List SV → Prop := fun _ _ => False

section
variable {env env1 env2 : Sl} {a b : RV} {x y dx dy : D} {z : RV} {i : Nat} {f g : D → D → Option RV} {fa fb fc fo fe : SE} {as : List RV} {fr fs : SA} {xs ys : List D} {r : Option Re} {Q : QE} {E : QX} {QA : List RV → Sl → Prop} {QI : List D → Sl → Prop}

theorem wr_mono {Q' : QE} {E' : QX} (h : wr r Q E) (hq : ∀ a e, Q a e → Q' a e) (he : ∀ x e, E x e → E' x e) : wr r Q' E' := by
  cases r with
  | none => exact h.elim
  | some r => cases r with
    | ok a e => exact hq _ _ h
    | ex x e => exact he _ _ h
theorem wF_mono {r : Option FR} {Q Q' : RV → List SV → Prop} {E E' : Xn → List SV → Prop} (h : wF r Q E) (hq : ∀ a o, Q a o → Q' a o) (he : ∀ x o, E x o → E' x o) : wF r Q' E' := by
  cases r with
  | none => exact h.elim
  | some r => cases r with
    | ok a e => exact hq _ _ h
    | ex x e => exact he _ _ h
/-- where nothing is raised -/
theorem wF_use {r : Option FR} {Q Q' : RV → List SV → Prop} {E' : Xn → List SV → Prop} (h : wF r Q nX) (hq : ∀ a o, Q a o → Q' a o) : wF r Q' E' := wF_mono h hq fun _ _ h => h.elim
theorem wF_ok {r : Option FR} {Q : RV → List SV → Prop} {E : Xn → List SV → Prop} {a : RV} {o : List SV} (h : r = some (.ok a o)) (q : Q a o) : wF r Q E := by subst h; exact q
theorem wF_ex {r : Option FR} {Q : RV → List SV → Prop} {E : Xn → List SV → Prop} {x : Xn} {o : List SV} (h : r = some (.ex x o)) (q : E x o) : wF r Q E := by subst h; exact q
theorem wF_get {r : Option FR} {Q : RV → List SV → Prop} (h : wF r Q nX) : ∃ a o, r = some (.ok a o) ∧ Q a o := by
  cases r with
  | none => exact h.elim
  | some r => cases r with
    | ok a o => exact ⟨a, o, rfl, h⟩
    | ex x o => exact h.elim
theorem wr_ok {a : RV} {e : Sl} (h : r = some (.ok a e)) (q : Q a e) : wr r Q E := by subst h; exact q
theorem wr_bind {k : RV → SE} (h : wr r (fun a e => wr (k a e) Q E) E) : wr (bindE r k) Q E := by
  cases r with
  | none => exact h.elim
  | some r => cases r with
    | ok a e => exact h
    | ex x e => exact h
theorem wra_bind {k : RV → SA} (h : wr r (fun a e => wra (k a e) QA E) E) : wra (bindEA r k) QA E := by
  cases r with
  | none => exact h.elim
  | some r => cases r with
    | ok a e => exact h
    | ex x e => exact h
theorem wr_bindA {r : Option ReA} {k : List RV → SE} (h : wra r (fun a e => wr (k a e) Q E) E) : wr (bindA r k) Q E := by
  cases r with
  | none => exact h.elim
  | some r => cases r with
    | ok a e => exact h
    | ex x e => exact h
theorem wri_bind {k : RV → SI} (h : wr r (fun a e => wri (k a e) QI E) E) : wri (bindI r k) QI E := by
  cases r with
  | none => exact h.elim
  | some r => cases r with
    | ok a e => exact h
    | ex x e => exact h
theorem wri_bindA {r : Option ReA} {k : List RV → SI} (h : wra r (fun a e => wri (k a e) QI E) E) : wri (bindAI r k) QI E := by
  cases r with
  | none => exact h.elim
  | some r => cases r with
    | ok a e => exact h
    | ex x e => exact h
theorem wrs_bind {k : RV → SS} {N : Sl → Prop} {K : Ks} (h : wr r (fun a e => wrs (k a e) N K) K.ex) : wrs (bindS r k) N K := by
  cases r with
  | none => exact h.elim
  | some r => cases r with
    | ok a e => exact h
    | ex x e => exact h

/-! ### expressions -/
theorem w_eq {f : SE} {a : RV} {e : Sl} (h : f env = some (.ok a e)) (q : Q a e) : wE f env Q E := wr_ok h q
theorem w_const (q : Q (.d x) env) : wE (constE x) env Q E := q
theorem w_var (h : env[i]? = some (.d x)) (q : Q (.d x) env) : wE (varE i) env Q E := wr_ok (ev_var h) q
theorem w_varO {c : C} {t : Bool} (h : env[i]? = some (.own t c)) (q : Q (.cv i) env) : wE (varE i) env Q E := wr_ok (ev_varO h) q
theorem w_two (h : wE fa env (fun u e1 => wE fb e1 (fun v e2 => wr (op2 f u v e2) Q E) E) E) : wE (two (op2 f) fa fb) env Q E := wr_bind (wr_mono h (fun _ _ h => wr_bind h) fun _ _ h => h)
theorem w_op (hx : pk a env = some dx) (hy : pk b env = some dy) (hz : f dx dy = some z) (q : Q z env) : wr (op2 f a b env) Q E := by
  unfold op2; rw [hx, Option.bind_some, hy, Option.bind_some, hz]; exact q
theorem w_one {g : D → Option RV} (h : wE fa env (fun u e1 => wr ((pk u e1).bind fun x => (g x).map (Re.ok · e1)) Q E) E) : wE (oneE g fa) env Q E := wr_bind h
theorem w_op1 {g : D → Option RV} (hx : pk a env = some dx) (hz : g dx = some z) (q : Q z env) : wr ((pk a env).bind fun x => (g x).map (Re.ok · env)) Q E := by
  rw [hx, Option.bind_some, hz]; exact q
def wB (a : RV) (env : Sl) (T F : Prop) : Prop := ∃ t, tru a env = some t ∧ (t = true → T) ∧ (t = false → F)
theorem w_b {t : Bool} {T F : Prop} (h : tru a env = some t) (hT : t = true → T) (hF : t = false → F) : wB a env T F := ⟨t, h, hT, hF⟩
theorem w_bT {T F : Prop} (h : tru a env = some true) (hT : T) : wB a env T F := ⟨true, h, fun _ => hT, fun h => by cases h⟩
theorem w_bF {T F : Prop} (h : tru a env = some false) (hF : F) : wB a env T F := ⟨false, h, fun h => (by cases h), fun _ => hF⟩
theorem w_not (h : wE fa env (fun u e1 => wr ((tru u e1).map fun b => Re.ok (.d (.bl (!b))) e1) Q E) E) : wE (notE fa) env Q E := wr_bind h
theorem w_not1 {t : Bool} (h : tru a env = some t) (q : Q (.d (.bl (!t))) env) : wr ((tru a env).map fun b => Re.ok (.d (.bl (!b))) env) Q E := by rw [h]; exact q
theorem w_and (h : wE fa env (fun u e1 => wB u e1 (wE fb e1 Q E) (Q u e1)) E) : wE (andE fa fb) env Q E :=
  wr_bind (wr_mono h (fun u e1 h => by
    obtain ⟨t, h1, h2, h3⟩ := h
    rw [h1]
    cases t with
    | true => exact h2 rfl
    | false => exact h3 rfl) fun _ _ h => h)
theorem w_or (h : wE fa env (fun u e1 => wB u e1 (Q u e1) (wE fb e1 Q E)) E) : wE (orE fa fb) env Q E :=
  wr_bind (wr_mono h (fun u e1 h => by
    obtain ⟨t, h1, h2, h3⟩ := h
    rw [h1]
    cases t with
    | true => exact h2 rfl
    | false => exact h3 rfl) fun _ _ h => h)
theorem w_ife (h : wE fc env (fun u e1 => wB u e1 (wE fa e1 Q E) (wE fb e1 Q E)) E) : wE (ifE fc fa fb) env Q E :=
  wr_bind (wr_mono h (fun u e1 h => by
    obtain ⟨t, h1, h2, h3⟩ := h
    rw [h1]
    cases t with
    | true => exact h2 rfl
    | false => exact h3 rfl) fun _ _ h => h)
theorem w_nil (q : QA [] env) : wA nilA env QA E := q
theorem wra_map {r : Option ReA} {h : List RV → List RV} (q : wra r (fun as e => QA (h as) e) E) : wra (mapA r h) QA E := by
  cases r with
  | none => exact q.elim
  | some r => cases r with
    | ok a e => exact q
    | ex x e => exact q
theorem w_cons (h : wE fa env (fun u e1 => wA fs e1 (fun as e2 => QA (u :: as) e2) E) E) : wA (consA fa fs) env QA E := wra_bind (wr_mono h (fun _ _ h => wra_map h) fun _ _ h => h)
theorem w_callE {g : List D → Option RV} (h : wA fs env (fun as e1 => wr ((pks as e1).bind fun xs => (g xs).map (Re.ok · e1)) Q E) E) : wE (callE g fs) env Q E := wr_bindA h
theorem w_opE {g : List D → Option RV} (hx : pks as env = some xs) (hz : g xs = some z) (q : Q z env) : wr ((pks as env).bind fun xs => (g xs).map (Re.ok · env)) Q E := by
  rw [hx, Option.bind_some, hz]; exact q
theorem w_isi {n : String} (h : wE fa env (fun u e1 => wr ((pk u e1).bind fun x => if okI x then some (Re.ok (.d (.bl (isiD n x))) e1) else none) Q E) E) : wE (isiE n fa) env Q E := wr_bind h
theorem w_isi1 {n : String} (hx : pk a env = some x) (o : okI x = true) (q : Q (.d (.bl (isiD n x))) env) : wr ((pk a env).bind fun x => if okI x then some (Re.ok (.d (.bl (isiD n x))) env) else none) Q E := by
  rw [hx, Option.bind_some, if_pos o]; exact q
theorem w_tup (h : wA fs env (fun as e1 => wr ((frzs as e1).bind fun p => if p.1.length ≤ 100000 then some (Re.ok (.d (.tup p.1)) p.2) else none) Q E) E) : wE (tupE fs) env Q E := wr_bindA h
theorem w_tup1 (h : frzs as env = some (xs, env1)) (hl : xs.length ≤ 100000) (q : Q (.d (.tup xs)) env1) : wr ((frzs as env).bind fun p => if p.1.length ≤ 100000 then some (Re.ok (.d (.tup p.1)) p.2) else none) Q E := by
  rw [h, Option.bind_some, if_pos hl]; exact q
theorem w_lst (h : wA fs env (fun as e1 => wr ((frzs as e1).bind fun p => if p.1.length ≤ 100000 then some (Re.ok (.own (.lst p.1)) p.2) else none) Q E) E) : wE (lstE fs) env Q E := wr_bindA h
theorem w_lst1 (h : frzs as env = some (xs, env1)) (hl : xs.length ≤ 100000) (q : Q (.own (.lst xs)) env1) : wr ((frzs as env).bind fun p => if p.1.length ≤ 100000 then some (Re.ok (.own (.lst p.1)) p.2) else none) Q E := by
  rw [h, Option.bind_some, if_pos hl]; exact q
theorem w_met {T : String} {g : D → List D → Option RV} (h : wE fo env (fun u e1 => wr ((pk u e1).bind fun x0 => if tyD x0 = T then bindA (fs e1) fun as env2 => (pk u env2).bind fun x => (pks as env2).bind fun xs => (g x xs).map (Re.ok · env2) else none) Q E) E) : wE (metE T g fo fs) env Q E := wr_bind h
theorem w_met1 {T : String} {g : D → List D → Option RV} (hx : pk a env = some x) (ht : tyD x = T) (h : wA fs env (fun as e2 => wr ((pk a e2).bind fun x => (pks as e2).bind fun xs => (g x xs).map (Re.ok · e2)) Q E) E) :
    wr ((pk a env).bind fun x0 => if tyD x0 = T then bindA (fs env) fun as env2 => (pk a env2).bind fun x => (pks as env2).bind fun xs => (g x xs).map (Re.ok · env2) else none) Q E := by
  rw [hx, Option.bind_some, if_pos ht]; exact wr_bindA h
theorem w_met2 {g : D → List D → Option RV} (hx : pk a env = some x) (hs : pks as env = some xs) (hz : g x xs = some z) (q : Q z env) : wr ((pk a env).bind fun x => (pks as env).bind fun xs => (g x xs).map (Re.ok · env)) Q E := by
  rw [hx, Option.bind_some, hs, Option.bind_some, hz]; exact q
/-- calls -/
def wC (r : Option FR) (env : Sl) (Q : QE) (E : QX) : Prop := wF r (fun u _ => ∃ u', retV u = some u' ∧ Q u' env) (fun x _ => E x env)
theorem wC_wr {r : Option FR} (h : wC r env Q E) : wr (r.bind (outD env)) Q E := by
  cases r with
  | none => exact h.elim
  | some r => cases r with
    | ok a o =>
      obtain ⟨u', h1, h2⟩ := h
      show wr ((retV a).map (Re.ok · env)) Q E
      rw [h1]; exact h2
    | ex x o => exact h
theorem w_callD {m : List SV → Option FR} {ds : List D} (h : wA fs env (fun as e1 => wr ((frzs as e1).bind fun p => (m ((p.1 ++ ds).map .d)).bind (outD p.2)) Q E) E) : wE (callD m ds fs) env Q E := wr_bindA h
theorem w_callD1 {m : List SV → Option FR} {ds : List D} {vs : List SV} (h : frzs as env = some (xs, env1)) (he : (xs ++ ds).map SV.d = vs) (q : wC (m vs) env1 Q E) : wr ((frzs as env).bind fun p => (m ((p.1 ++ ds).map .d)).bind (outD p.2)) Q E := by
  rw [h, Option.bind_some]; dsimp only; rw [he]; exact wC_wr q
theorem w_callD0 {m : List SV → Option FR} {ds : List D} (q : wC (m (ds.map .d)) env Q E) : wE (callD0 m ds) env Q E := wC_wr q
/-- by what is known of the def -/
theorem wC_use {r : Option FR} {Q0 : RV → List SV → Prop} {E0 : Xn → List SV → Prop} (h : wF r Q0 E0) (hq : ∀ u o, Q0 u o → ∃ u', retV u = some u' ∧ Q u' env) (he : ∀ x o, E0 x o → E x env) : wC r env Q E := wF_mono h hq he
theorem wC_nx {r : Option FR} {Q0 : RV → List SV → Prop} (h : wF r Q0 nX) (hq : ∀ u o, Q0 u o → ∃ u', retV u = some u' ∧ Q u' env) : wC r env Q E := wF_mono h hq fun _ _ h => h.elim
theorem wC_ok {r : Option FR} {u u' : RV} {o : List SV} (h : r = some (.ok u o)) (hr : retV u = some u') (q : Q u' env) : wC r env Q E := by subst h; exact ⟨u', hr, q⟩
theorem wC_d {r : Option FR} {P : D → Prop} (h : wF r (fun u _ => ∃ d, u = .d d ∧ P d) nX) (hq : ∀ d, P d → Q (.d d) env) : wC r env Q E := wC_nx h fun u o h => by
  obtain ⟨d, rfl, hp⟩ := h
  exact ⟨_, rfl, hq d hp⟩
/-- a call that changes a list of one's own -/
def wM (r : Option FR) (i j : Nat) (t : Bool) (env : Sl) (Q : QE) (E : QX) : Prop := wF r (fun u o => ∃ t' c u', o[j]? = some (.own true c) ∧ t' = env.set i (.own t c) ∧ retV u = some u' ∧ Q u' t') (fun x o => ∃ c t', o[j]? = some (.own true c) ∧ t' = env.set i (.own t c) ∧ E x t')
theorem wM_wr {r : Option FR} {i j : Nat} {t : Bool} (h : wM r i j t env Q E) : wr (r.bind (outM i j t env)) Q E := by
  cases r with
  | none => exact h.elim
  | some r => cases r with
    | ok a o =>
      obtain ⟨t', c, u', h0, rfl, h1, h2⟩ := h
      show wr (match o[j]? with
        | some (.own true c) => (retV a).map (Re.ok · (env.set i (.own t c)))
        | _ => none) Q E
      rw [h0]
      dsimp only
      rw [h1]; exact h2
    | ex x o =>
      obtain ⟨c, t', h0, rfl, h2⟩ := h
      show wr (match o[j]? with
        | some (.own true c) => some (.ex x (env.set i (.own t c)))
        | _ => none) Q E
      rw [h0]; exact h2
theorem w_callM {j : Nat} {m : List SV → Option FR} {ds : List D} (h : wA fs env (fun as e1 => wr (match as[j]? with
  | some (.cv i) => (frzs (as.set j (.d .non)) e1).bind fun p => match p.2[i]? with
    | some (.own b c) => (m (((p.1 ++ ds).map .d).set j (.own true c))).bind (outM i j b p.2)
    | _ => none
  | _ => none) Q E) E) : wE (callM j m ds fs) env Q E := wr_bindA h
theorem w_callM1 {i j : Nat} {t : Bool} {c : C} {m : List SV → Option FR} {ds : List D} {as' : List RV} {vs vs' : List SV} (h1 : as[j]? = some (.cv i)) (ha : as.set j (.d .non) = as') (h2 : frzs as' env = some (xs, env1)) (h3 : env1[i]? = some (.own t c)) (he : (xs ++ ds).map SV.d = vs) (he' : vs.set j (.own true c) = vs') (q : wM (m vs') i j t env1 Q E) :
    wr (match as[j]? with
  | some (.cv i) => (frzs (as.set j (.d .non)) env).bind fun p => match p.2[i]? with
    | some (.own b c) => (m (((p.1 ++ ds).map .d).set j (.own true c))).bind (outM i j b p.2)
    | _ => none
  | _ => none) Q E := by
  rw [h1]; dsimp only; rw [ha, h2, Option.bind_some]; dsimp only; rw [h3]; dsimp only; rw [he, he']; exact wM_wr q
theorem wM_ok {r : Option FR} {i j : Nat} {t : Bool} {u u' : RV} {o : List SV} {c : C} (h : r = some (.ok u o)) (ho : o[j]? = some (.own true c)) (he : env.set i (.own t c) = env1) (hr : retV u = some u') (q : Q u' env1) : wM r i j t env Q E := by subst h; exact ⟨_, c, u', ho, he.symm, hr, q⟩
/-- things that change a list -/
theorem w_mut {g : List D → List D → Option (D × List D)} (h : wE fo env (fun u e1 => wr (match u with
  | .cv i => (ownL e1[i]?).bind fun _ => bindA (fs e1) fun as env2 => (frzs as env2).bind fun p => (ownL p.2[i]?).bind fun o => (g o.2 p.1).map fun q => Re.ok (.d q.1) (p.2.set i (.own o.1 (.lst q.2)))
  | _ => none) Q E) E) : wE (mutE g fo fs) env Q E := wr_bind h
theorem w_mut1 {g : List D → List D → Option (D × List D)} {t : Bool} (h : env[i]? = some (.own t (.lst ys))) (q : wA fs env (fun as e2 => wr ((frzs as e2).bind fun p => (ownL p.2[i]?).bind fun o => (g o.2 p.1).map fun q => Re.ok (.d q.1) (p.2.set i (.own o.1 (.lst q.2)))) Q E) E) :
    wr (match RV.cv i with
  | .cv i => (ownL env[i]?).bind fun _ => bindA (fs env) fun as env2 => (frzs as env2).bind fun p => (ownL p.2[i]?).bind fun o => (g o.2 p.1).map fun q => Re.ok (.d q.1) (p.2.set i (.own o.1 (.lst q.2)))
  | _ => none) Q E := by
  dsimp only; rw [h]; exact wr_bindA q
theorem w_mut2 {g : List D → List D → Option (D × List D)} {t : Bool} {ys' : List D} (h : frzs as env = some (xs, env1)) (h2 : env1[i]? = some (.own t (.lst ys))) (h3 : g ys xs = some (x, ys')) (h4 : env1.set i (.own t (.lst ys')) = env2) (q : Q (.d x) env2) :
    wr ((frzs as env).bind fun p => (ownL p.2[i]?).bind fun o => (g o.2 p.1).map fun q => Re.ok (.d q.1) (p.2.set i (.own o.1 (.lst q.2)))) Q E := by
  subst h4
  rw [h, Option.bind_some]; dsimp only; rw [h2]; show wr ((g ys xs).map _) Q E; rw [h3]; exact q
theorem w_ext (h : wE fo env (fun u e1 => wr (match u with
  | .cv i => (ownL e1[i]?).bind fun _ => bindE (fe e1) fun b env2 => match b with
    | .own (.lst zs) => (ownL env2[i]?).bind fun o => if o.2.length + zs.length ≤ 100000 then some (.ok (.d .non) (env2.set i (.own o.1 (.lst (o.2 ++ zs))))) else none
    | _ => none
  | _ => none) Q E) E) : wE (extE fo fe) env Q E := wr_bind h
theorem w_ext1 {t : Bool} (h : env[i]? = some (.own t (.lst ys))) (q : wE fe env (fun v env2 => wr (match v with
    | .own (.lst zs) => (ownL env2[i]?).bind fun o => if o.2.length + zs.length ≤ 100000 then some (.ok (.d .non) (env2.set i (.own o.1 (.lst (o.2 ++ zs))))) else none
    | _ => none) Q E) E) :
    wr (match RV.cv i with
  | .cv i => (ownL env[i]?).bind fun _ => bindE (fe env) fun b env2 => match b with
    | .own (.lst zs) => (ownL env2[i]?).bind fun o => if o.2.length + zs.length ≤ 100000 then some (.ok (.d .non) (env2.set i (.own o.1 (.lst (o.2 ++ zs))))) else none
    | _ => none
  | _ => none) Q E := by
  dsimp only; rw [h]; exact wr_bind q
theorem w_ext2 {t : Bool} (h : env[i]? = some (.own t (.lst ys))) (hl : ys.length + xs.length ≤ 100000) (h4 : env.set i (.own t (.lst (ys ++ xs))) = env2) (q : Q (.d .non) env2) :
    wr (match RV.own (.lst xs) with
    | .own (.lst zs) => (ownL env[i]?).bind fun o => if o.2.length + zs.length ≤ 100000 then some (.ok (.d .non) (env.set i (.own o.1 (.lst (o.2 ++ zs))))) else none
    | _ => none) Q E := by
  subst h4
  dsimp only; rw [h]; show wr (if ys.length + xs.length ≤ 100000 then _ else _) Q E; rw [if_pos hl]; exact q
theorem w_pop (h : wE fo env (fun u e1 => wr (match u with
  | .cv i => (ownL e1[i]?).bind fun o => (o.2[o.2.length - 1]?).map fun x => .ok (.d x) (e1.set i (.own o.1 (.lst o.2.dropLast)))
  | _ => none) Q E) E) : wE (popE fo) env Q E := wr_bind h
theorem w_pop1 {t : Bool} (h : env[i]? = some (.own t (.lst ys))) (h2 : ys[ys.length - 1]? = some x) (h4 : env.set i (.own t (.lst ys.dropLast)) = env2) (q : Q (.d x) env2) : wr (match RV.cv i with
  | .cv i => (ownL env[i]?).bind fun o => (o.2[o.2.length - 1]?).map fun x => .ok (.d x) (env.set i (.own o.1 (.lst o.2.dropLast)))
  | _ => none) Q E := by
  subst h4
  dsimp only; rw [h]; show wr ((ys[ys.length - 1]?).map _) Q E; rw [h2]; exact q
/-- slices -/
theorem w_sl {fl fh : Option SE} (h : wE fe env (fun u e1 => wr (bindO fl e1 fun lo env2 => bindO fh env2 fun hi env3 => (pk u env3).bind fun x => (cutD x lo hi).map (Re.ok · env3)) Q E) E) : wE (sliceE fe fl fh) env Q E := wr_bind h
theorem w_bo0 {k : Option Int → SE} (h : wr (k none env) Q E) : wr (bindO none env k) Q E := h
def wbo (a : RV) (env : Sl) (k : Option Int → SE) (Q : QE) (E : QX) : Prop := wr (match pk a env with
    | some (.int i) => k (some i) env
    | _ => none) Q E
theorem w_bo1 {k : Option Int → SE} (h : wE fa env (fun u e1 => wbo u e1 k Q E) E) : wr (bindO (some fa) env k) Q E := wr_bind h
theorem w_bo2 {k : Option Int → SE} {n : Int} (hx : pk a env = some (.int n)) (h : wr (k (some n) env) Q E) : wbo a env k Q E := by unfold wbo; rw [hx]; exact h
theorem w_sl1 {lo hi : Option Int} (hx : pk a env = some x) (hz : cutD x lo hi = some z) (q : Q z env) : wr ((pk a env).bind fun x => (cutD x lo hi).map (Re.ok · env)) Q E := by
  rw [hx, Option.bind_some, hz]; exact q
/-- comprehensions -/
theorem w_comp {vs : List Nat} {fi : SI} {tg : Tg} {ft : Option SE} (h : wI fi env (fun xs e1 => wr ((compD vs tg ft fe xs [] (clr vs e1)).map fun p => .ok (.own (.lst p.1)) (rst vs e1 p.2)) Q E) E) : wE (compE vs fi tg ft fe) env Q E := by
  show wr (compE vs fi tg ft fe env) Q E
  unfold compE
  unfold wI at h
  cases hf : fi env with
  | none => rw [hf] at h; exact h.elim
  | some r => rw [hf] at h; cases r with
    | ok xs e => exact h
    | ex x e => exact h
theorem w_comp1 {vs : List Nat} {tg : Tg} {ft : Option SE} (h : compD vs tg ft fe xs [] (clr vs env) = some (ys, env1)) (he : rst vs env env1 = env2) (q : Q (.own (.lst ys)) env2) : wr ((compD vs tg ft fe xs [] (clr vs env)).map fun p => .ok (.own (.lst p.1)) (rst vs env p.2)) Q E := by
  subst he; rw [h]; exact q
theorem w_all {pb : Nat → Bool} (h : wE fe env (fun u e1 => wr (match pk u e1 with
  | some (.str s) => some (.ok (.d (.bl (s.all pb))) e1)
  | _ => none) Q E) E) : wE (allE fe pb) env Q E := wr_bind h
theorem w_all1 {pb : Nat → Bool} {s : List Nat} (hx : pk a env = some (.str s)) (q : Q (.d (.bl (s.all pb))) env) : wr (match pk a env with
  | some (.str s) => some (.ok (.d (.bl (s.all pb))) env)
  | _ => none) Q E := by rw [hx]; exact q
theorem w_bet {i j : Int} (h : wE fe env (fun u e1 => wr (match pk u e1 with
  | some (.int n) => some (.ok (.d (.bl (decide (i ≤ n) && decide (n ≤ j)))) e1)
  | _ => none) Q E) E) : wE (betE i fe j) env Q E := wr_bind h
theorem w_bet1 {i j n : Int} (hx : pk a env = some (.int n)) (q : Q (.d (.bl (decide (i ≤ n) && decide (n ≤ j)))) env) : wr (match pk a env with
  | some (.int n) => some (.ok (.d (.bl (decide (i ≤ n) && decide (n ≤ j)))) env)
  | _ => none) Q E := by rw [hx]; exact q
theorem w_rev (h : wE fe env (fun u e1 => wr (match pk u e1 with
  | some (.lst xs) => some (.ok (.own (.lst xs.reverse)) e1)
  | _ => none) Q E) E) : wE (revE fe) env Q E := wr_bind h
theorem w_rev1 (hx : pk a env = some (.lst xs)) (q : Q (.own (.lst xs.reverse)) env) : wr (match pk a env with
  | some (.lst xs) => some (.ok (.own (.lst xs.reverse)) env)
  | _ => none) Q E := by rw [hx]; exact q
theorem w_rg {g : List D → RV} (h : wE fa env (fun u e1 => wr (match pk u e1 with
  | some (.int n) => if okP (-(2 ^ 62) ≤ n ∧ n < 2 ^ 62 ∧ n.toNat ≤ 100000) then some (.ok (g ((List.range n.toNat).map fun i => .int (i : Nat))) e1) else none
  | _ => none) Q E) E) : wE (rgD g fa) env Q E := wr_bind h
theorem w_rg1 {g : List D → RV} {n : Int} (hx : pk a env = some (.int n)) (ho : -(2 ^ 62) ≤ n ∧ n < 2 ^ 62 ∧ n.toNat ≤ 100000) (q : Q (g ((List.range n.toNat).map fun i => .int (i : Nat))) env) : wr (match pk a env with
  | some (.int n) => if okP (-(2 ^ 62) ≤ n ∧ n < 2 ^ 62 ∧ n.toNat ≤ 100000) then some (.ok (g ((List.range n.toNat).map fun i => .int (i : Nat))) env) else none
  | _ => none) Q E := by rw [hx]; dsimp only; rw [if_pos (okP_iff.mpr ho)]; exact q
/-- the exception in hand -/
theorem w_xf {f : Str} {e : Xn} (h : env[i]? = some (.xn e)) (h2 : e.fs.lookup f = some x) (q : Q (.d x) env) : wE (xfE i f) env Q E := by
  show wr (xfE i f env) Q E
  unfold xfE; rw [h]; dsimp only; rw [h2]; exact q
theorem w_isx {cl : List Str} {e : Xn} (h : env[i]? = some (.xn e)) (q : Q (.d (.bl (decide (e.cls ∈ cl)))) env) : wE (isxE i cl) env Q E := by
  show wr (isxE i cl env) Q E
  unfold isxE; rw [h]; exact q
theorem look_place {x : Str} {d : D} : List.lookup ("place" : Str) (xnOf x d).fs = some d := rfl
theorem look_word {x : Str} {d : D} : List.lookup ("word" : Str) (xnOf x d).fs = some (D.str x.cps.toList) := rfl
/-- a <= b <= c -/
theorem w_chain {g' : D → D → Option RV} (h : wE fa env (fun u e1 => wE fb e1 (fun v e2 => wr ((pk u e2).bind fun x => (pk v e2).bind fun y => match g x y with
    | some (.d (.bl true)) => bindE (fc e2) fun c env3 => (pk v env3).bind fun y' => (pk c env3).bind fun z => (g' y' z).map (Re.ok · env3)
    | some (.d (.bl false)) => some (.ok (.d (.bl false)) e2)
    | _ => none) Q E) E) E) : wE (chainE g g' fa fb fc) env Q E := wr_bind (wr_mono h (fun _ _ h => wr_bind h) fun _ _ h => h)
theorem w_chain1 {g' : D → D → Option RV} {t : Bool} (hx : pk a env = some x) (hy : pk b env = some y) (hg : g x y = some (.d (.bl t)))
    (hT : t = true → wE fc env (fun c e3 => wr (op2 g' b c e3) Q E) E) (hF : t = false → Q (.d (.bl false)) env) :
    wr ((pk a env).bind fun x => (pk b env).bind fun y => match g x y with
    | some (.d (.bl true)) => bindE (fc env) fun c env3 => (pk b env3).bind fun y' => (pk c env3).bind fun z => (g' y' z).map (Re.ok · env3)
    | some (.d (.bl false)) => some (.ok (.d (.bl false)) env)
    | _ => none) Q E := by
  rw [hx, Option.bind_some, hy, Option.bind_some, hg]
  cases t with
  | true => exact wr_bind (hT rfl)
  | false => exact hF rfl

/-! ### what is walked -/
theorem w_src (h : wE fe env (fun u e1 => wri ((frz u e1).bind fun p => (itemsD p.1).map fun xs => .ok xs p.2) QI E) E) : wI (srcE fe) env QI E := wri_bind h
theorem w_src1 (h : frz a env = some (x, env1)) (h2 : itemsD x = some xs) (q : QI xs env1) : wri ((frz a env).bind fun p => (itemsD p.1).map fun xs => .ok xs p.2) QI E := by
  rw [h, Option.bind_some]; dsimp only; rw [h2]; exact q
theorem w_args {g : List D → Option (List D)} (h : wA fs env (fun as e1 => wri ((pks as e1).bind fun xs => (g xs).map fun ys => .ok ys e1) QI E) E) : wI (argsI g fs) env QI E := wri_bindA h
theorem w_args1 {g : List D → Option (List D)} (h : pks as env = some xs) (h2 : g xs = some ys) (q : QI ys env) : wri ((pks as env).bind fun xs => (g xs).map fun ys => .ok ys env) QI E := by
  rw [h, Option.bind_some, h2]; exact q
theorem w_enum (h : wA fs env (fun as e1 => wri (match as with
  | [a] => (frz a e1).bind fun p => (match p.1 with | .lst xs => some (enumL 0 xs) | .str x => some (enumL 0 (x.map fun c => .str [c])) | _ => none).map fun ys => .ok ys p.2
  | _ => none) QI E) E) : wI (enumE fs) env QI E := wri_bindA h
theorem w_enum1 (h : frz a env = some (.lst xs, env1)) (q : QI (enumL 0 xs) env1) : wri (match [a] with
  | [a] => (frz a env).bind fun p => (match p.1 with | .lst xs => some (enumL 0 xs) | .str x => some (enumL 0 (x.map fun c => .str [c])) | _ => none).map fun ys => .ok ys p.2
  | _ => none) QI E := by dsimp only; rw [h]; exact q
theorem w_enum2 {s : List Nat} (h : frz a env = some (.str s, env1)) (q : QI (enumL 0 (s.map fun c => .str [c])) env1) : wri (match [a] with
  | [a] => (frz a env).bind fun p => (match p.1 with | .lst xs => some (enumL 0 xs) | .str x => some (enumL 0 (x.map fun c => .str [c])) | _ => none).map fun ys => .ok ys p.2
  | _ => none) QI E := by dsimp only; rw [h]; exact q
theorem w_zip (h : wA fs env (fun as e1 => wri ((frzs as e1).bind fun p => match p.1 with
  | [x, y] => (seqZ x).bind fun a => (seqZ y).map fun b => .ok (zipL a.2 b.2) p.2
  | _ => none) QI E) E) : wI (zipE fs) env QI E := wri_bindA h
theorem w_zip1 {t u : Bool} (h : frzs as env = some ([x, y], env1)) (h1 : seqZ x = some (t, xs)) (h2 : seqZ y = some (u, ys)) (q : QI (zipL xs ys) env1) : wri ((frzs as env).bind fun p => match p.1 with
  | [x, y] => (seqZ x).bind fun a => (seqZ y).map fun b => .ok (zipL a.2 b.2) p.2
  | _ => none) QI E := by rw [h, Option.bind_some]; dsimp only; rw [h1, Option.bind_some, h2]; exact q
end

/-! ### statements -/
section
variable {env env1 env2 : Sl} {f g : SS} {fe fc : SE} {a : RV} {x : D} {i : Nat} {tg : Tg} {body : SS} {fi : SI} {xs ys : List D} {fa : SA} {as : List RV} {N : Sl → Prop} {k : Ks} {R : QE} {B Ct : Sl → Prop} {E : QX}
theorem wS_eq {e : Sl} (h : f env = some (.nx e)) (q : N e) : wS f env N k := by unfold wS; rw [h]; exact q
theorem wrs_mono {r : Option Out} {N' : Sl → Prop} {k' : Ks} (h : wrs r N k) (hn : ∀ e, N e → N' e) (hr : ∀ a e, k.rt a e → k'.rt a e) (hb : ∀ e, k.bk e → k'.bk e) (hc : ∀ e, k.ct e → k'.ct e) (he : ∀ x e, k.ex x e → k'.ex x e) : wrs r N' k' := by
  cases r with
  | none => exact h.elim
  | some r => cases r with
    | nx e => exact hn _ h
    | rt a e => exact hr _ _ h
    | bk e => exact hb _ h
    | ct e => exact hc _ h
    | ex x e => exact he _ _ h
theorem wS_mono {N' : Sl → Prop} {k' : Ks} (h : wS f env N k) (hn : ∀ e, N e → N' e) (hr : ∀ a e, k.rt a e → k'.rt a e) (hb : ∀ e, k.bk e → k'.bk e) (hc : ∀ e, k.ct e → k'.ct e) (he : ∀ x e, k.ex x e → k'.ex x e) : wS f env N' k' := wrs_mono h hn hr hb hc he
theorem w_seq (h : wS f env (fun e => wS g e N k) k) : wS (seqS f g) env N k := by
  unfold wS at h ⊢
  unfold seqS
  cases hf : f env with
  | none => rw [hf] at h; exact h.elim
  | some r => rw [hf] at h; cases r <;> exact h
/-- the second knows of the first what P says -/
theorem w_seqP (P : Sl → Prop) (h1 : wS f env P k) (h2 : ∀ e, P e → wS g e N k) : wS (seqS f g) env N k := w_seq (wrs_mono h1 h2 (fun _ _ h => h) (fun _ h => h) (fun _ h => h) fun _ _ h => h)
theorem w_skip (q : N env) : wS skipS env N k := q
def wSt (i : Nat) (a : RV) (env : Sl) (N : Sl → Prop) : Prop := ∃ e, storeR i a env = some e ∧ N e
theorem w_st (h : storeR i a env = some env1) (q : N env1) : wSt i a env N := ⟨_, h, q⟩
theorem w_asg (h : wE fe env (fun u e1 => wSt i u e1 N) E) : wS (asgS i fe) env N ⟨R, B, Ct, E⟩ := wrs_bind (wr_mono h (fun u e1 h => by
  obtain ⟨e, h1, h2⟩ := h
  rw [h1]; exact h2) fun _ _ h => h)
theorem w_seqP2 {f2 : SS} (P : Sl → Prop) (h1 : wS f env (fun e => wS f2 e P k) k) (h2 : ∀ e, P e → wS g e N k) : wS (seqS f (seqS f2 g)) env N k := w_seqP _ h1 fun _ h => w_seqP P h h2
theorem w_seqP3 {f2 f3 : SS} (P : Sl → Prop) (h1 : wS f env (fun e => wS f2 e (fun e => wS f3 e P k) k) k) (h2 : ∀ e, P e → wS g e N k) : wS (seqS f (seqS f2 (seqS f3 g))) env N k := w_seqP _ h1 fun _ h => w_seqP2 P h h2
theorem w_seqV (P : QE) (h1 : wE fe env P E) (h2 : ∀ u e, P u e → wSt i u e fun e => wS g e N ⟨R, B, Ct, E⟩) : wS (seqS (asgS i fe) g) env N ⟨R, B, Ct, E⟩ := w_seq (w_asg (wr_mono h1 h2 fun _ _ h => h))
theorem w_expr (h : wE fe env (fun _ e1 => N e1) E) : wS (exprS fe) env N ⟨R, B, Ct, E⟩ := wrs_bind h
theorem w_ret (h : wE fe env R E) : wS (retS fe) env N ⟨R, B, Ct, E⟩ := wrs_bind h
theorem w_retN (h : R (.d .non) env) : wS retNS env N ⟨R, B, Ct, E⟩ := h
theorem w_brk (h : B env) : wS breakS env N ⟨R, B, Ct, E⟩ := h
theorem w_cnt (h : Ct env) : wS contS env N ⟨R, B, Ct, E⟩ := h
theorem w_ite (h : wE fc env (fun u e1 => wB u e1 (wS f e1 N ⟨R, B, Ct, E⟩) (wS g e1 N ⟨R, B, Ct, E⟩)) E) : wS (iteS fc f g) env N ⟨R, B, Ct, E⟩ := wrs_bind (wr_mono h (fun u e1 h => by
    obtain ⟨t, h1, h2, h3⟩ := h
    rw [h1]
    cases t with
    | true => exact h2 rfl
    | false => exact h3 rfl) fun _ _ h => h)
theorem w_for (h : wI fi env (fun xs e1 => wS (loopD tg body xs) e1 N ⟨R, B, Ct, E⟩) E) : wS (forS fi tg body) env N ⟨R, B, Ct, E⟩ := by
  unfold wS forS
  unfold wI at h
  cases hf : fi env with
  | none => rw [hf] at h; exact h.elim
  | some r => rw [hf] at h; cases r with
    | ok xs e => exact h
    | ex x e => exact h
/-- a walk: what holds behind the part that is done -/
theorem w_loop (I : List D → Sl → Prop) (h0 : I [] env) (hs : ∀ pre x suf e, xs = pre ++ x :: suf → I pre e → ∃ e1, putT tg x e = some e1 ∧ wS body e1 (I (pre ++ [x])) ⟨R, N, I (pre ++ [x]), E⟩) (hn : ∀ e, I xs e → N e) : wS (loopD tg body xs) env N ⟨R, B, Ct, E⟩ := by
  have go : ∀ suf pre e, xs = pre ++ suf → I pre e → wS (loopD tg body suf) e N ⟨R, B, Ct, E⟩ := by
    intro suf
    induction suf with
    | nil => intro pre e h1 h2; rw [List.append_nil] at h1; subst h1; exact hn e h2
    | cons x suf ih =>
      intro pre e h1 h2
      obtain ⟨e1, g1, g2⟩ := hs pre x suf e h1 h2
      unfold wS at g2 ⊢
      rw [loopD, g1, Option.bind_some]
      have ih' := fun e => ih (pre ++ [x]) e (by rw [h1, List.append_assoc]; rfl)
      cases hb : body e1 with
      | none => rw [hb] at g2; exact g2.elim
      | some r => rw [hb] at g2; cases r with
        | nx e => exact ih' e g2
        | rt a e => exact g2
        | bk e => exact g2
        | ct e => exact ih' e g2
        | ex x e => exact g2
  exact go xs [] env rfl h0
/-- the same over things of any kind -/
theorem w_loopM {α : Type} {d : α → D} {l : List α} (I : List α → Sl → Prop) (h0 : I [] env) (hs : ∀ pre x suf e, l = pre ++ x :: suf → I pre e → ∃ e1, putT tg (d x) e = some e1 ∧ wS body e1 (I (pre ++ [x])) ⟨R, N, I (pre ++ [x]), E⟩) (hn : ∀ e, I l e → N e) : wS (loopD tg body (l.map d)) env N ⟨R, B, Ct, E⟩ := by
  have go : ∀ suf pre e, l = pre ++ suf → I pre e → wS (loopD tg body (suf.map d)) e N ⟨R, B, Ct, E⟩ := by
    intro suf
    induction suf with
    | nil => intro pre e h1 h2; rw [List.append_nil] at h1; subst h1; exact hn e h2
    | cons x suf ih =>
      intro pre e h1 h2
      obtain ⟨e1, g1, g2⟩ := hs pre x suf e h1 h2
      unfold wS at g2 ⊢
      rw [List.map_cons, loopD, g1, Option.bind_some]
      have ih' := fun e => ih (pre ++ [x]) e (by rw [h1, List.append_assoc]; rfl)
      cases hb : body e1 with
      | none => rw [hb] at g2; exact g2.elim
      | some r => rw [hb] at g2; cases r with
        | nx e => exact ih' e g2
        | rt a e => exact g2
        | bk e => exact g2
        | ct e => exact ih' e g2
        | ex x e => exact g2
  exact go l [] env rfl h0
/-- over range(n) -/
theorem w_loopR {n : Nat} (I : Nat → Sl → Prop) (h0 : I 0 env) (hs : ∀ k e, k < n → I k e → ∃ e1, putT tg (.int k) e = some e1 ∧ wS body e1 (I (k + 1)) ⟨R, N, I (k + 1), E⟩) (hn : ∀ e, I n e → N e) : wS (loopD tg body ((List.range n).map fun i => .int (i : Nat))) env N ⟨R, B, Ct, E⟩ :=
  w_loopM (fun pre e => I pre.length e) h0 (fun pre x suf e h hi => by
    have hx : x = pre.length := by
      have h1 : (List.range n)[pre.length]? = some x := by rw [h, List.getElem?_append_right (Nat.le_refl _), Nat.sub_self]; rfl
      have h2 : pre.length < n := by
        have := congrArg List.length h
        rw [List.length_range, List.length_append, List.length_cons] at this
        omega
      rw [List.getElem?_range h2] at h1
      exact (Option.some.inj h1).symm
    have h2 : pre.length < n := by
        have := congrArg List.length h
        rw [List.length_range, List.length_append, List.length_cons] at this
        omega
    subst hx
    obtain ⟨e1, g1, g2⟩ := hs pre.length e h2 hi
    rw [List.length_append, List.length_singleton]
    exact ⟨e1, g1, g2⟩) (fun e h => hn e (by rw [List.length_range] at h; exact h))
/-- over any list, by the place -/
theorem w_loopI (I : Nat → Sl → Prop) (h0 : I 0 env) (hs : ∀ k x e, xs[k]? = some x → I k e → ∃ e1, putT tg x e = some e1 ∧ wS body e1 (I (k + 1)) ⟨R, N, I (k + 1), E⟩) (hn : ∀ e, I xs.length e → N e) : wS (loopD tg body xs) env N ⟨R, B, Ct, E⟩ :=
  w_loop (fun pre e => I pre.length e) h0 (fun pre x suf e h hi => by
    obtain ⟨e1, g1, g2⟩ := hs pre.length x e (by rw [h, List.getElem?_append_right (Nat.le_refl _), Nat.sub_self]; rfl) hi
    rw [List.length_append, List.length_singleton]
    exact ⟨e1, g1, g2⟩) hn
/-- over enumerate(xs) -/
theorem w_loopE {α : Type} {d : α → D} {l : List α} (I : Nat → Sl → Prop) (h0 : I 0 env) (hs : ∀ k x e, l[k]? = some x → I k e → ∃ e1, putT tg (.tup [.int (k : Nat), d x]) e = some e1 ∧ wS body e1 (I (k + 1)) ⟨R, N, I (k + 1), E⟩) (hn : ∀ e, I l.length e → N e) : wS (loopD tg body (enumL 0 (l.map d))) env N ⟨R, B, Ct, E⟩ :=
  w_loopI I h0 (fun k x e hx hi => by
    obtain ⟨y, h1, rfl⟩ := enumL_get 0 k _ x hx
    rw [List.getElem?_map] at h1
    obtain ⟨z, h2, rfl⟩ := Option.map_eq_some_iff.mp h1
    rw [Nat.zero_add]
    exact hs k z e h2 hi) (fun e h => hn e (by rw [enumL_len, List.length_map] at h; exact h))
/-! comprehensions -/
theorem wE_get {f : SE} {e : Sl} {Q : QE} (h : wE f e Q nE) : ∃ a e1, f e = some (.ok a e1) ∧ Q a e1 := by
  unfold wE at h
  cases hf : f e with
  | none => rw [hf] at h; exact h.elim
  | some r => rw [hf] at h; cases r with
    | ok a e1 => exact ⟨a, e1, rfl, h⟩
    | ex x e1 => exact h.elim
theorem w_compM {α : Type} {d g : α → D} {l : List α} {vs : List Nat} {e0 : Sl} (hl : l.length ≤ 100000) (h : ∀ x ∈ l, ∃ e1, putT tg (d x) e0 = some e1 ∧ wE fe e1 (fun u e2 => ∃ e3, frz u e2 = some (g x, e3) ∧ clr vs e3 = e0) nE) : compD vs tg none fe (l.map d) [] e0 = some (l.map g, e0) := by
  have go : ∀ (l : List α) (acc : List D), (∀ x ∈ l, ∃ e1, putT tg (d x) e0 = some e1 ∧ wE fe e1 (fun u e2 => ∃ e3, frz u e2 = some (g x, e3) ∧ clr vs e3 = e0) nE) → acc.length + l.length ≤ 100000 → compD vs tg none fe (l.map d) acc e0 = some (acc ++ l.map g, e0) := by
    intro l
    induction l with
    | nil => intro acc _ _; rw [List.map_nil, List.map_nil, List.append_nil]; rfl
    | cons x l ih =>
      intro acc h hl
      obtain ⟨e1, h1, h2⟩ := h x (List.mem_cons_self ..)
      obtain ⟨a, e2, h3, e3, h4, h5⟩ := wE_get h2
      rw [List.map_cons, compD, h1, Option.bind_some]
      show (eltD fe e1).bind _ = _
      unfold eltD
      rw [h3]
      dsimp only
      rw [h4, Option.bind_some, if_pos (by rw [List.length_cons] at hl; omega)]
      dsimp only
      rw [h5, ih (acc ++ [g x]) (fun y hy => h y (List.mem_cons_of_mem _ hy)) (by rw [List.length_append, List.length_singleton]; rw [List.length_cons] at hl; omega), List.append_assoc]
      rfl
  have := go l [] h (by simpa using hl)
  rwa [List.nil_append] at this
theorem w_compF {α : Type} {d g : α → D} {p : α → Bool} {l : List α} {vs : List Nat} {e0 : Sl} (hl : l.length ≤ 100000) (h : ∀ x ∈ l, ∃ e1, putT tg (d x) e0 = some e1 ∧ wE fc e1 (fun u e2 => tru u e2 = some (p x) ∧ (p x = true → wE fe e2 (fun u e2 => ∃ e3, frz u e2 = some (g x, e3) ∧ clr vs e3 = e0) nE) ∧ (p x = false → clr vs e2 = e0)) nE) : compD vs tg (some fc) fe (l.map d) [] e0 = some ((l.filter p).map g, e0) := by
  have go : ∀ (l : List α) (acc : List D), (∀ x ∈ l, ∃ e1, putT tg (d x) e0 = some e1 ∧ wE fc e1 (fun u e2 => tru u e2 = some (p x) ∧ (p x = true → wE fe e2 (fun u e2 => ∃ e3, frz u e2 = some (g x, e3) ∧ clr vs e3 = e0) nE) ∧ (p x = false → clr vs e2 = e0)) nE) → acc.length + l.length ≤ 100000 → compD vs tg (some fc) fe (l.map d) acc e0 = some (acc ++ (l.filter p).map g, e0) := by
    intro l
    induction l with
    | nil => intro acc _ _; rw [List.map_nil, List.filter_nil, List.map_nil, List.append_nil]; rfl
    | cons x l ih =>
      intro acc h hl
      obtain ⟨e1, h1, h2⟩ := h x (List.mem_cons_self ..)
      obtain ⟨a, e2, h3, h4, h5, h6⟩ := wE_get h2
      rw [List.length_cons] at hl
      rw [List.map_cons, compD, h1, Option.bind_some]
      unfold bindTD
      dsimp only
      rw [h3]
      dsimp only
      rw [h4, Option.bind_some]
      cases hp : p x with
      | true =>
        obtain ⟨a', e2', g3, e3, g4, g5⟩ := wE_get (h5 hp)
        dsimp only
        unfold eltD
        rw [g3]
        dsimp only
        rw [g4, Option.bind_some, if_pos (by omega)]
        dsimp only
        rw [g5, ih (acc ++ [g x]) (fun y hy => h y (List.mem_cons_of_mem _ hy)) (by rw [List.length_append, List.length_singleton]; omega), List.filter_cons_of_pos hp, List.append_assoc]
        rfl
      | false =>
        dsimp only
        rw [h6 hp, ih acc (fun y hy => h y (List.mem_cons_of_mem _ hy)) (by omega), List.filter_cons_of_neg (by rw [hp]; exact Bool.false_ne_true)]
  have := go l [] h (by simpa using hl)
  rwa [List.nil_append] at this
theorem w_compI {vs : List Nat} {e0 : Sl} (I : List D → Sl → Prop) (hl : xs.length ≤ 100000) (h0 : I [] e0) (h : ∀ x acc e, x ∈ xs → acc.length < xs.length → I acc e → ∃ e1, putT tg x e = some e1 ∧ wE fe e1 (fun u e2 => ∃ y e3, frz u e2 = some (y, e3) ∧ I (acc ++ [y]) (clr vs e3)) nE) : ∃ ys e', compD vs tg none fe xs [] e0 = some (ys, e') ∧ I ys e' ∧ ys.length = xs.length := by
  have go : ∀ (suf acc : List D) (e : Sl), (∀ x ∈ suf, x ∈ xs) → I acc e → acc.length + suf.length = xs.length → ∃ ys e', compD vs tg none fe suf acc e = some (ys, e') ∧ I ys e' ∧ ys.length = xs.length := by
    intro suf
    induction suf with
    | nil => intro acc e _ hi hk; exact ⟨acc, e, rfl, hi, by simpa using hk⟩
    | cons x suf ih =>
      intro acc e hm hi hk
      rw [List.length_cons] at hk
      obtain ⟨e1, h1, h2⟩ := h x acc e (hm x (List.mem_cons_self ..)) (by omega) hi
      obtain ⟨a, e2, h3, y, e3, h4, h5⟩ := wE_get h2
      obtain ⟨ys, e', g1, g2⟩ := ih (acc ++ [y]) (clr vs e3) (fun y hy => hm y (List.mem_cons_of_mem _ hy)) h5 (by rw [List.length_append, List.length_singleton]; omega)
      refine ⟨ys, e', ?_, g2⟩
      rw [compD, h1, Option.bind_some]
      show (eltD fe e1).bind _ = _
      unfold eltD
      rw [h3]
      dsimp only
      rw [h4, Option.bind_some, if_pos (by omega)]
      exact g1
  exact go xs [] e0 (fun _ h => h) h0 (by simp)
/-- while -/
theorem w_while (I : Nat → Sl → Prop) {n : Nat} (hlt : n < 100000) (h0 : I n env) (hs : ∀ n e, I n e → wE fc e (fun u e1 => wB u e1 (wS f e1 (fun e2 => ∃ n', n' < n ∧ I n' e2) ⟨R, N, fun e2 => ∃ n', n' < n ∧ I n' e2, E⟩) (N e1)) E) : wS (whileS fc f) env N ⟨R, B, Ct, E⟩ := by
  have go : ∀ m n env, n < m → I n env → wS (whileN fc f m) env N ⟨R, B, Ct, E⟩ := by
    intro m
    induction m with
    | zero => intro n env h; omega
    | succ m ih =>
      intro n env h hi
      refine wrs_bind (wr_mono (hs n env hi) (fun u e1 h1 => ?_) fun _ _ h => h)
      obtain ⟨t, g1, g2, g3⟩ := h1
      rw [g1]
      cases t with
      | false => exact g3 rfl
      | true =>
        have g4 := g2 rfl
        unfold wS at g4
        dsimp only
        cases hb : f e1 with
        | none => rw [hb] at g4; exact g4.elim
        | some r => rw [hb] at g4; cases r with
          | nx e => obtain ⟨n', q1, q2⟩ := g4; exact ih n' e (by omega) q2
          | rt a e => exact g4
          | bk e => exact g4
          | ct e => obtain ⟨n', q1, q2⟩ := g4; exact ih n' e (by omega) q2
          | ex x e => exact g4
  exact go 100000 n env hlt h0
/-- xs[i] = e -/
theorem w_setL {j : Nat} {fi : SE} (h : wE fe env (fun u e1 => ∃ d e2 t ys, frz u e1 = some (d, e2) ∧ e2[j]? = some (.own t (.lst ys)) ∧ wE fi e2 (fun v e3 => ∃ n m t' ys' e4, pk v e3 = some (.int n) ∧ e3[j]? = some (.own t' (.lst ys')) ∧ ixN ys'.length n = some m ∧ e3.set j (.own t' (.lst (ys'.set m d))) = e4 ∧ N e4) E) E) : wS (setL j fi fe) env N ⟨R, B, Ct, E⟩ := wrs_bind (wr_mono h (fun u e1 h => by
  obtain ⟨d, e2, t, ys, h1, h2, h3⟩ := h
  rw [h1, Option.bind_some]
  dsimp only
  rw [h2]
  refine wrs_bind (wr_mono h3 (fun v e3 h => ?_) fun _ _ h => h)
  obtain ⟨n, m, t', ys', e4, g1, g2, g3, rfl, g4⟩ := h
  rw [g1]
  dsimp only
  rw [g2]
  show wrs ((ixN ys'.length n).map _) N _
  rw [g3]
  exact g4) fun _ _ h => h)
/-- raise -/
theorem w_raise {c : Str} (h : wA fa env (fun as e1 => ∃ d e2, frzs as e1 = some ([d], e2) ∧ E (xnOf c d) e2) E) : wS (raiseS c fa) env N ⟨R, B, Ct, E⟩ := by
  unfold wS raiseS
  unfold wA at h
  cases hf : fa env with
  | none => rw [hf] at h; exact h.elim
  | some r => rw [hf] at h; cases r with
    | ok as e =>
      obtain ⟨d, e2, h1, h2⟩ := h
      dsimp only
      rw [h1]; exact h2
    | ex x e => exact h
theorem w_raise1 {P : D → Sl → Prop} (h : frzs as env = some ([x], env1)) (q : P x env1) : ∃ d e2, frzs as env = some ([d], e2) ∧ P d e2 := ⟨_, _, h, q⟩
theorem w_raiseN {c : Str} (h : E (xnOf c .non) env) : wS (raiseNS c) env N ⟨R, B, Ct, E⟩ := h
/-- try -/
theorem w_try {cl : List Str} (h : wS f env N ⟨R, B, Ct, fun x e1 => (x.cls ∈ cl → freeSlot e1[i]? = true ∧ wS g (e1.set i (.xn x)) (fun e => noXn (e.set i .un) = true ∧ N (e.set i .un))
      ⟨fun a e => noXn (e.set i .un) = true ∧ a ≠ .cv i ∧ R a (e.set i .un), fun e => noXn (e.set i .un) = true ∧ B (e.set i .un), fun e => noXn (e.set i .un) = true ∧ Ct (e.set i .un), nE⟩) ∧ (x.cls ∉ cl → E x e1)⟩) : wS (tryS i cl f g) env N ⟨R, B, Ct, E⟩ := by
  unfold wS at h ⊢
  unfold tryS
  cases hf : f env with
  | none => rw [hf] at h; exact h.elim
  | some r => rw [hf] at h; cases r with
    | nx e => exact h
    | rt a e => exact h
    | bk e => exact h
    | ct e => exact h
    | ex x e =>
      dsimp only
      by_cases hc : x.cls ∈ cl
      · rw [if_pos hc]
        obtain ⟨h1, h2⟩ := h.1 hc
        rw [if_pos h1]
        cases hg : g (e.set i (.xn x)) with
        | none => rw [hg] at h2; exact h2.elim
        | some r =>
          rw [hg] at h2
          cases r with
          | nx e => unfold outX; dsimp only; rw [if_pos h2.1]; exact h2.2
          | bk e => unfold outX; dsimp only; rw [if_pos h2.1]; exact h2.2
          | ct e => unfold outX; dsimp only; rw [if_pos h2.1]; exact h2.2
          | ex x e => exact h2.elim
          | rt a e =>
            obtain ⟨q1, q2, q3⟩ := h2
            cases a with
            | d x => unfold outX; dsimp only; rw [if_pos q1]; exact q3
            | own c => unfold outX; dsimp only; rw [if_pos q1]; exact q3
            | cv j =>
              have : (i == j) = false := by
                rw [beq_eq_false_iff_ne]; intro e; exact q2 (by rw [e])
              unfold outX; dsimp only; rw [q1, this]; exact q3
      · rw [if_neg hc]; exact h.2 hc
end

/-! ### a def -/
theorem w_defM {np n : Nat} {body : SS} {as : List SV} {Q : RV → List SV → Prop} {E : Xn → List SV → Prop} {env : Sl} (hl : as.length = np) (he : as ++ List.replicate n .un = env)
    (h : wS body env (fun e => ∃ o, backs as e = some o ∧ Q (.d .non) o) ⟨fun a e => ∃ a' o, resV a e = some a' ∧ backs as e = some o ∧ Q a' o, nS, nS, nE⟩) : wF (defM np n body as) Q E := by
  subst he
  unfold defM
  rw [if_pos hl]
  unfold runF
  unfold wS at h
  cases hb : body (as ++ List.replicate n .un) with
  | none => rw [hb] at h; exact h.elim
  | some r =>
    rw [hb] at h
    cases r with
    | nx e => obtain ⟨o, h1, h2⟩ := h; dsimp only; rw [h1]; exact h2
    | rt a e => obtain ⟨a', o, h0, h1, h2⟩ := h; dsimp only; rw [h0, Option.bind_some, h1]; exact h2
    | bk e => exact h.elim
    | ct e => exact h.elim
    | ex x e => exact h.elim
theorem w_defX {np n : Nat} {body : SS} {as : List SV} {Q : RV → List SV → Prop} {E : Xn → List SV → Prop} {env : Sl} (hl : as.length = np) (he : as ++ List.replicate n .un = env)
    (h : wS body env (fun e => ∃ o, backs as e = some o ∧ Q (.d .non) o) ⟨fun a e => ∃ a' o, resV a e = some a' ∧ backs as e = some o ∧ Q a' o, nS, nS, fun x e => ∃ o, backs as e = some o ∧ E x o⟩) : wF (defX np n body as) Q E := by
  subst he
  unfold defX
  rw [if_pos hl]
  unfold runF
  unfold wS at h
  cases hb : body (as ++ List.replicate n .un) with
  | none => rw [hb] at h; exact h.elim
  | some r =>
    rw [hb] at h
    cases r with
    | nx e => obtain ⟨o, h1, h2⟩ := h; dsimp only; rw [h1]; exact h2
    | rt a e => obtain ⟨a', o, h0, h1, h2⟩ := h; dsimp only; rw [h0, Option.bind_some, h1]; exact h2
    | bk e => exact h.elim
    | ct e => exact h.elim
    | ex x e => obtain ⟨o, h1, h2⟩ := h; dsimp only; rw [h1]; exact h2
theorem w_out1 {as : List SV} {e : Sl} {o : List SV} {P : List SV → Prop} (h1 : backs as e = some o) (q : P o) : ∃ o, backs as e = some o ∧ P o := ⟨o, h1, q⟩
theorem w_out2 {as : List SV} {e : Sl} {o : List SV} {Q : RV → List SV → Prop} {a a' : RV} (h0 : resV a e = some a') (h1 : backs as e = some o) (q : Q a' o) : ∃ a' o, resV a e = some a' ∧ backs as e = some o ∧ Q a' o := ⟨a', o, h0, h1, q⟩
/-! more small facts -/
theorem res_d {x : D} {e : Sl} : resV (.d x) e = some (.d x) := rfl
theorem res_own {c : C} {e : Sl} : resV (.own c) e = some (.own c) := rfl
theorem res_cv {c : C} {e : Sl} {i : Nat} (h : e[i]? = some (.own false c)) : resV (.cv i) e = some (.own c) := by unfold resV; dsimp only; rw [h]; rfl
theorem bk_nil {e : Sl} : backs [] e = some [] := rfl
theorem bk_d {x : D} {s : SV} {as o : List SV} {e : Sl} (h : backs as e = some o) : backs (.d x :: as) (s :: e) = some (.d x :: o) := by unfold backs; rw [h]; rfl
theorem bk_own {c c' : C} {as o : List SV} {e : Sl} (h : backs as e = some o) : backs (.own true c :: as) (.own true c' :: e) = some (.own true c' :: o) := by unfold backs; rw [h]; rfl
theorem tru_int {i : Int} {e : Sl} : tru (.d (.int i)) e = some (i != 0) := rfl
theorem tru_non {e : Sl} : tru (.d .non) e = some false := rfl
theorem tru_str {x : List Nat} {e : Sl} (h : x.length ≤ sizeLine) : tru (.d (.str x)) e = some (!x.isEmpty) := by show (if x.length ≤ sizeLine then _ else _) = _; rw [if_pos h]
theorem tru_lst {x : List D} {e : Sl} : tru (.d (.lst x)) e = some (!x.isEmpty) := rfl
theorem tru_tup {x : List D} {e : Sl} : tru (.d (.tup x)) e = some (!x.isEmpty) := rfl
theorem tru_ownl {x : List D} {e : Sl} : tru (.own (.lst x)) e = some (!x.isEmpty) := rfl
theorem tru_cv {x : List D} {t : Bool} {e : Sl} {i : Nat} (h : e[i]? = some (.own t (.lst x))) : tru (.cv i) e = some (!x.isEmpty) := by unfold tru pk; dsimp only; rw [h]; rfl
theorem put_nm {i : Nat} {x : D} {e e1 : Sl} (h : freeSlot e[i]? = true) (h2 : e.set i (.d x) = e1) : putT (.nm i) x e = some e1 := by subst h2; unfold putT setSlot; dsimp only; rw [if_pos h]
theorem put_two {i j : Nat} {x y : D} {e e1 e2 : Sl} (h : freeSlot e[i]? = true) (h2 : e.set i (.d x) = e1) (h3 : freeSlot e1[j]? = true) (h4 : e1.set j (.d y) = e2) : putT (.two i j) (.tup [x, y]) e = some e2 := by
  subst h2; subst h4; unfold putT setSlot; dsimp only; rw [if_pos h, Option.bind_some, if_pos h3]
theorem fs_at {env : Sl} {i : Nat} {s : SV} (h : env[i]? = some s) (h2 : freeSlot (some s) = true) : freeSlot env[i]? = true := by rw [h]; exact h2
def wSet (i : Nat) (s : SV) (env : Sl) (P : Sl → Prop) : Prop := P (env.set i s)
theorem w_set {i : Nat} {s : SV} {env e : Sl} {P : Sl → Prop} (h : env.set i s = e) (q : P e) : wSet i s env P := by subst h; exact q
theorem wM_one {r : Option FR} {i j : Nat} {t : Bool} {env : Sl} {Q : QE} {E : QX} {x : D} {o : List SV} {c : C} (h : r = some (.ok (.d x) o)) (ho : o[j]? = some (.own true c)) (q : wSet i (.own t c) env (Q (.d x))) : wM r i j t env Q E := by subst h; exact ⟨_, c, _, ho, rfl, rfl, q⟩
theorem wM_own {r : Option FR} {i j : Nat} {t : Bool} {env : Sl} {Q : QE} {E : QX} {x : C} {o : List SV} {c : C} (h : r = some (.ok (.own x) o)) (ho : o[j]? = some (.own true c)) (q : wSet i (.own t c) env (Q (.own x))) : wM r i j t env Q E := by subst h; exact ⟨_, c, _, ho, rfl, rfl, q⟩
theorem setg_z {α : Type} {s t : α} {l : List α} : (s :: l).set 0 t = t :: l := rfl
theorem setg_s {α : Type} {s t : α} {l l' : List α} {n : Nat} (h : l.set n t = l') : (s :: l).set (n + 1) t = s :: l' := by subst h; rfl
theorem rp_z : ([] : List SV) ++ List.replicate 0 SV.un = [] := rfl
theorem rp_c {x : SV} {as l : List SV} {n : Nat} (h : as ++ List.replicate n SV.un = l) : (x :: as) ++ List.replicate n SV.un = x :: l := by subst h; rfl
theorem rp_s {l : List SV} {n : Nat} (h : ([] : List SV) ++ List.replicate n SV.un = l) : ([] : List SV) ++ List.replicate (n + 1) SV.un = .un :: l := by subst h; rfl
theorem wF_eq {r : Option FR} {a0 : RV} {o0 : List SV} (h : wF r (fun a o => a = a0 ∧ o = o0) nX) : r = some (.ok a0 o0) := by
  obtain ⟨a, o, h1, rfl, rfl⟩ := wF_get h
  exact h1
theorem wF_ex1 {r : Option FR} {P : RV → Prop} (h : wF r (fun a _ => P a) nX) : ∃ a, P a ∧ ∃ o, r = some (.ok a o) := by
  obtain ⟨a, o, h1, h2⟩ := wF_get h
  exact ⟨a, h2, o, h1⟩
theorem cut_tup {xs : List D} {lo hi : Option Int} : cutD (.tup xs) lo hi = some (.d (.tup (cutL xs lo hi))) := rfl
theorem cut_lst {xs : List D} {lo hi : Option Int} : cutD (.lst xs) lo hi = some (.own (.lst (cutL xs lo hi))) := rfl
theorem add_lst {xs ys : List D} (h : xs.length + ys.length ≤ 1000) : addD (.lst xs) (.lst ys) = some (.own (.lst (xs ++ ys))) := if_pos (Nat.le_trans h (by decide))
theorem w_n1 {P : Prop} (h : P) : (!true) = false → P := fun _ => h
theorem w_n2 {P : Prop} : (!true) = true → P := fun h => by cases h
theorem w_n3 {P : Prop} (h : P) : (!false) = true → P := fun _ => h
theorem w_n4 {P : Prop} : (!false) = false → P := fun h => by cases h
theorem w_hT {t : Bool} {P : Prop} (h : t = true) (q : P) : t = true → P := fun _ => q
theorem w_hF {t : Bool} {P : Prop} (h : t = false) : t = true → P := fun g => by rw [h] at g; cases g
theorem w_gT {t : Bool} {P : Prop} (h : t = false) (q : P) : t = false → P := fun _ => q
theorem w_gF {t : Bool} {P : Prop} (h : t = true) : t = false → P := fun g => by rw [h] at g; cases g
theorem w_tt {P : Prop} (h : P) : true = true → P := fun _ => h
theorem w_ff {P : Prop} (h : P) : false = false → P := fun _ => h
theorem w_tf {P : Prop} : true = false → P := fun h => by cases h
theorem w_ft {P : Prop} : false = true → P := fun h => by cases h
end
end Dw
namespace Dw
noncomputable section
open PySem PySem.Spec PyProof.Rows L2
/-! ### set(texts): each text once, in the order first met -/
section
variable {α : Type} [DecidableEq α]
def ddS (σ : List α) (v : α) : List α := if v ∈ σ then σ else σ ++ [v]
def dd (xs : List α) : List α := xs.foldl ddS []
theorem dd_snoc (xs : List α) (v : α) : dd (xs ++ [v]) = ddS (dd xs) v := by unfold dd; rw [List.foldl_append]; rfl
theorem ddS_mem (σ : List α) (v k : α) : k ∈ ddS σ v ↔ k ∈ σ ∨ k = v := by
  unfold ddS
  split
  · next h => exact ⟨.inl, fun g => g.elim id fun e => e ▸ h⟩
  · rw [List.mem_append, List.mem_singleton]
theorem ddS_len (σ : List α) (v : α) : (ddS σ v).length = if v ∈ σ then σ.length else σ.length + 1 := by
  unfold ddS
  split <;> simp
theorem dd_le : ∀ (n : Nat) (xs : List α), (dd (xs.take n)).length ≤ n
  | 0, xs => by simp [dd]
  | n + 1, xs => by
    have ih := dd_le n xs
    by_cases h : n < xs.length
    · rw [List.take_succ_eq_append_getElem h, dd_snoc, ddS_len]
      split <;> omega
    · rw [List.take_of_length_le (by omega)]
      rw [List.take_of_length_le (by omega)] at ih
      omega
theorem dd_mem (xs : List α) (k : α) : k ∈ dd xs ↔ k ∈ xs := by
  have go : ∀ (ys : List α) (σ : List α), k ∈ ys.foldl ddS σ ↔ k ∈ σ ∨ k ∈ ys := by
    intro ys
    induction ys with
    | nil => intro σ; simp
    | cons y ys ih =>
      intro σ
      rw [List.foldl_cons, ih, ddS_mem, List.mem_cons]
      exact ⟨fun h => h.elim (fun h => h.elim .inl fun e => .inr (.inl e)) fun h => .inr (.inr h), fun h => h.elim (fun h => .inl (.inl h)) fun h => h.elim (fun e => .inl (.inr e)) .inr⟩
  unfold dd
  rw [go]
  simp
theorem dd_nodup (xs : List α) : (dd xs).Nodup := by
  have go : ∀ (ys : List α) (σ : List α), σ.Nodup → (ys.foldl ddS σ).Nodup := by
    intro ys
    induction ys with
    | nil => intro σ h; exact h
    | cons y ys ih =>
      intro σ h
      rw [List.foldl_cons]
      refine ih _ ?_
      unfold ddS
      split
      · exact h
      · next hn =>
        rw [List.nodup_append]
        exact ⟨h, by simp, fun a ha b hb => by rw [List.mem_singleton] at hb; subst hb; intro e; subst e; exact hn ha⟩
  exact go xs [] (by simp)
/-- shorter exactly where something stands twice -/
theorem dd_short (xs : List α) : (dd xs).length < xs.length ↔ ¬ xs.Nodup := by
  have go : ∀ (n : Nat) (xs : List α), xs.length = n → (dd xs).length ≤ xs.length ∧ ((dd xs).length = xs.length ↔ xs.Nodup) := by
    intro n
    induction n with
    | zero => intro xs h; rw [List.eq_nil_of_length_eq_zero h]; simp [dd]
    | succ n ih =>
      intro xs h
      obtain ⟨ys, y, rfl⟩ : ∃ ys y, xs = ys ++ [y] := ⟨xs.dropLast, xs.getLast (by intro e; subst e; cases h), (List.dropLast_concat_getLast _).symm⟩
      rw [List.length_append, List.length_singleton] at h
      obtain ⟨i1, i2⟩ := ih ys (by omega)
      have em := dd_mem ys y
      rw [dd_snoc, ddS_len, List.length_append, List.length_singleton]
      have hn : (ys ++ [y]).Nodup ↔ ys.Nodup ∧ y ∉ ys := by
        rw [List.nodup_append]
        constructor
        · rintro ⟨a, _, c⟩
          exact ⟨a, fun hy => c y hy y (List.mem_singleton.mpr rfl) rfl⟩
        · rintro ⟨a, b⟩
          exact ⟨a, by simp, fun z hz w hw => by rw [List.mem_singleton] at hw; subst hw; intro e; subst e; exact b hz⟩
      rw [hn]
      by_cases hy : y ∈ ys
      · rw [if_pos (em.mpr hy)]
        exact ⟨by omega, ⟨fun e => by omega, fun e => absurd hy e.2⟩⟩
      · rw [if_neg fun h => hy (em.mp h), ← i2]
        exact ⟨by omega, ⟨fun e => ⟨by omega, hy⟩, fun e => by omega⟩⟩
  obtain ⟨a, b⟩ := go _ xs rfl
  rw [← b]
  omega
end
section
variable {prog : Program} {w : World} {A : Around} {R : Result → Shared → Prop} {I : Addr} {fp wr : List Addr} {G : Array GenState → Array GenState → Prop} {n : Nat} {P : Nat → Value → Prop} {St : Nat → Shared → Prop}
/-- the texts put in, one behind the other -/
theorem puts (W : WalksS prog w A.in1 I fp wr G n P St) (S : Addr) (hSf : S ∉ fp) (xs : List Str) (hxn : xs.length = n) (hb : n + 1 < scanBound) (hval : ∀ i v, P i v → ∃ x t, xs[i]? = some x ∧ v = .str x t) :
    ∀ (k i : Nat) (s : Shared), n - i = k → i ≤ n → St i s → s.heap.SetOf (PySem.strKind prog w) S (fun y => decide (y ∈ dd (xs.take i))) (dd (xs.take i)).length →
      (∀ s', Moved (S :: wr) G s s' → s'.heap.SetOf (PySem.strKind prog w) S (fun y => decide (y ∈ dd xs)) (dd xs).length → R (.ok (.ret .none)) s') → codeAny (model prog w) A (.builtin "set.update.loop" ⟨[.ref S, .ref I], []⟩) R s := by
  have off : S ∉ wr := fun h => hSf (W.sub _ h)
  have up : ∀ b ∈ wr, b ∈ S :: wr := fun b hb => List.mem_cons_of_mem _ hb
  have stay : ∀ {s s' : Shared} {f : Str → Bool} {m : Nat}, Moved wr G s s' → s.heap.SetOf (PySem.strKind prog w) S f m → s'.heap.SetOf (PySem.strKind prog w) S f m := by
    rintro s s' f m hm ⟨o, es, ep, tb, ho, z⟩
    exact ⟨o, es, ep, tb, hm.heap S _ off ho, z⟩
  intro k
  induction k with
  | zero =>
    intro i s hk hi hst hS hR
    have e : xs.take i = xs := List.take_of_length_le (by omega)
    rw [e] at hS
    have hin : i = n := by omega
    subst hin
    refine codeAny_builtin PyProof.Rows.F.entry_set_update_loop ?_
    rw [Around.under_plainId PyProof.Rows.F.plain_set_update_loop _]
    exact wpAny_bind (W.done s _ _ hst fun s' hm => wpAny_pure (hR s' (hm.mono up) (stay hm hS)))
  | succ k ih =>
    intro i s hk hi hst hS hR
    have hlt : i < n := by omega
    refine codeAny_builtin PyProof.Rows.F.entry_set_update_loop ?_
    rw [Around.under_plainId PyProof.Rows.F.plain_set_update_loop _]
    refine wpAny_bind (W.item i s _ _ hlt hst fun v s' hP hst' hm => ?_)
    obtain ⟨x, t, hx, rfl⟩ := hval i v hP
    have hS' := stay hm hS
    have room : (dd (xs.take i)).length + 1 < scanBound := by have := dd_le i xs; omega
    refine wpAny_bind (wpAny_holding ?_)
    unfold setAdd
    refine wpAny_holding (wpAny_bind ((PySem.strKind prog w).pyHash (k := x) (strKind_is _ _ _ _) ?_))
    refine wpAny_setAddHashed_of (knd := PySem.strKind prog w) (s := { s' with toks := s'.toks + 1 }) (strKind_is _ _ _ _) rfl hS' room fun h' but hS2 => ?_
    have tk : xs.take (i + 1) = xs.take i ++ [x] := by
      obtain ⟨h1, h2⟩ := List.getElem?_eq_some_iff.mp hx
      rw [List.take_succ_eq_append_getElem h1, h2]
    have hSi : h'.SetOf (PySem.strKind prog w) S (fun y => decide (y ∈ dd (xs.take (i + 1)))) (dd (xs.take (i + 1))).length := by
      refine SetOf_congr hS2 (fun y => ?_) ?_
      · rw [tk, dd_snoc, Bool.eq_iff_iff, Bool.or_eq_true, decide_eq_true_eq, decide_eq_true_eq, decide_eq_true_eq, ddS_mem]
      · rw [tk, dd_snoc, ddS_len]
        by_cases hm : x ∈ dd (xs.take i)
        · rw [if_pos (by simpa using hm), if_pos hm]
        · rw [if_neg (by simpa using hm), if_neg hm]
    have back : ∀ b o, b ≠ S → s'.heap.get? b = some o → h'.get? b = some o := fun b o hb e => by rw [but.2 b hb]; exact e
    refine wpAny_pure ⟨plainId_quiet PyProof.Rows.F.plain_set_update_loop _, ih (i + 1) _ (by omega) hlt (W.frame _ s' _ _ hst' (Nat.le_succ _) fun b hb o e => back b o (fun h => hSf (h ▸ hb)) e) hSi fun s2 hm2 hS3 => ?_⟩
    exact hR s2 (Moved.trans W.gtrans ((hm.mono up).then_heap (Nat.le_succ _) fun b o hb e => back b o (fun h => hb (h ▸ List.mem_cons_self)) e) hm2) hS3
end
section
variable {prog : Program} {w : World} {A : Around} {E : Value → Shared → Prop} {s : Shared}
abbrev set0 (led : Bool) : Obj := { cls := .type "set", dict := none, data := .set #[] 0 (.fresh 0 0 led) }
/-- what is to hold behind a built-in's end -/
abbrev endsB (prog : Program) (w : World) (A : Around) (R : Result → Shared → Prop) : PySem.Fin → Shared → Prop := fun fin s' => match fin with
  | .done f => R (.ok f) s'
  | .again c => c.quiet = true ∧ codeAny (model prog w) A c R s'
/-- set(x), by what its filling does -/
theorem set_new {l : Addr} {Q : Value → Shared → Prop} (Good : Heap → Prop) (hh : A.handled = none)
    (fill : ∀ (led : Bool) (A1 : Around), A1.handled = none → wpAny (model prog w) A1.in1 (Builtin.«set.__init__» ⟨[.ref s.heap.objs.size, .ref l], []⟩)
      (endsB prog w A1 (wants (fun v s2 => v = .none ∧ ∃ h' tk, s2 = { s with heap := h', toks := tk } ∧ Good h') E)) (fun e z => wants (fun v s2 => v = .none ∧ ∃ h' tk, s2 = { s with heap := h', toks := tk } ∧ Good h') E (.error e) z) { s with heap := s.heap.push (set0 led) })
    (h : ∀ (h' : Heap) (tk : Nat), Good h' → Q (.ref s.heap.objs.size) { s with heap := h', toks := tk }) : wpAny (model prog w) A (call (.type "set") [.ref l]) Q E s := by
  obtain ⟨c, tl, hmro⟩ := PySem.F.called_set.mro
  have hmade := PySem.F.called_set.made
  have hsub := PySem.F.called_set.sub
  have h1 := PySem.F.called_set.notType
  have h2 := PySem.F.called_set.canCreate
  have hct := PySem.F.typeCall_set_1 (.ref l)
  have hli := PySem.F.called_set.init.lookup
  have hbi := PySem.F.called_set.init.bind (.ref s.heap.objs.size)
  refine wpAny_call (codeAny_of_tree ?_)
  refine wpAny_pure ⟨Code.quiet_builtin _ (by decide +kernel), codeAny_builtin PySem.F.entry_type_call ?_⟩
  rw [Around.under_plain (weight_type_call_type "set" [.ref l] []) rfl]
  repeat (any_goals (first | assumption | wp_step))
  refine codeAny_mono (code_set_new_1 (.ref l) (E := E) (Q₁ := fun x z => ∃ led : Bool, x = .ref s.heap.objs.size ∧ z = { s with heap := s.heap.push (set0 led) }) fun led => ⟨led, rfl, rfl⟩) fun r z hr => ?_
  cases r with
  | error e => exact hr
  | ok fl =>
    cases fl with
    | ret x =>
      obtain ⟨led, rfl, rfl⟩ := hr
      have hT : Shared.TypeIs { s with heap := s.heap.push (set0 led) } (.ref s.heap.objs.size) "set" := ⟨_, Heap.get?_push_size _ rfl, rfl⟩
      repeat (any_goals (first | assumption | wp_step))
      refine codeAny_mono (codeAny_call_builtin (R := wants (fun v s2 => v = .none ∧ ∃ h' tk, s2 = { s with heap := h', toks := tk } ∧ Good h') E) PySem.F.called_set.init.plain PySem.F.entry_set_init (check_set_init_1 hT ?_)) fun r2 s2 hr2 => ?_
      · exact fill led _ (by simp [hh])
      · cases r2 with
        | error e => exact hr2
        | ok f2 =>
          cases f2 with
          | ret r =>
            obtain ⟨rfl, h', tk, rfl, g⟩ := hr2
            repeat (any_goals (first | assumption | wp_step))
            exact h _ _ g
          | _ => exact hr2.elim
    | _ => exact hr.elim
theorem set_lst {l : Addr} {items : Array Value} {xs : List Str} {Q : Value → Shared → Prop} (hh : A.handled = none) (hl : s.heap.IsList l items) (hi : StrsAre items.toList xs) (hb : xs.length + 1 < scanBound)
    (h : ∀ (h' : Heap) (tk : Nat), (h'.SetOf (PySem.strKind prog w) s.heap.objs.size (fun y => decide (y ∈ dd xs)) (dd xs).length ∧ ∀ b o, b < s.heap.objs.size → s.heap.get? b = some o → h'.get? b = some o) → Q (.ref s.heap.objs.size) { s with heap := h', toks := tk }) :
    wpAny (model prog w) A (call (.type "set") [.ref l]) Q E s := by
  refine set_new (fun h' => h'.SetOf (PySem.strKind prog w) s.heap.objs.size (fun y => decide (y ∈ dd xs)) (dd xs).length ∧ ∀ b o, b < s.heap.objs.size → s.heap.get? b = some o → h'.get? b = some o) hh (fun led A1 ha => ?_) h
  obtain ⟨ol, hol, hcl, nl, hdl⟩ := hl
  obtain ⟨ocls, od, odata, os⟩ := ol
  simp only at hcl hdl
  subst hcl; subst hdl
  have lt : l < s.heap.objs.size := Heap.lt_size hol
  have hS : (s.heap.push (set0 led)).get? s.heap.objs.size = some (set0 led) := Heap.get?_push_size _ rfl
  have hol' : (s.heap.push (set0 led)).get? l = some { cls := .type "list", dict := od, data := .seq items nl, slots := os } := Heap.get?_push_of_some _ hol
  have hl1 : (s.heap.push (set0 led)).IsList l items := ⟨_, hol', rfl, nl, rfl⟩
  have n1 : l ≠ (s.heap.push (set0 led)).objs.size := by rw [Heap.size_push]; exact Nat.ne_of_lt (Nat.lt_succ_of_lt lt)
  have n2 : s.heap.objs.size ∉ [(s.heap.push (set0 led)).objs.size, l] := by
    rw [Heap.size_push, List.mem_cons, List.mem_singleton]
    rintro (e | e)
    · exact Nat.ne_of_lt (Nat.lt_succ_self _) e
    · exact Nat.ne_of_gt lt e
  have hsz : xs.length = items.size := by rw [← StrsAre.len_eq hi, Array.length_toList]
  have hval : ∀ (i : Nat) (v : Value), items[i]? = some v → ∃ x t, xs[i]? = some x ∧ v = .str x t := fun i v hv => by
    obtain ⟨t, e⟩ := SS.strs_at hi i v (by rw [Array.getElem?_toList]; exact hv)
    have hlt : i < xs.length := by rw [hsz]; exact (Array.getElem?_eq_some_iff.mp hv).1
    exact ⟨xs[i], t, List.getElem?_eq_getElem hlt, by rw [e, List.getD_eq_getElem?_getD, List.getElem?_eq_getElem hlt]; rfl⟩
  have f1 := PySem.F.sub_list_set
  have f2 := PySem.F.sub_list_frozenset
  have f3 : (Value.type "list" == Value.type "dict") = false := by decide
  unfold Builtin.«set.__init__» noKeywords Builtin.Frozenset.updateFrom
  generalize hPI : pyIter = PI
  wp_walk
  subst hPI
  refine wpAny_pyIter_list hl1 (wpAny_bind (wpAny_runValue ?_))
  refine puts ((Walks.list (by simp [ha]) _ l n1 items).toS) s.heap.objs.size n2 xs hsz (by rw [← hsz]; exact hb) hval (items.size - 0) 0 _ (by omega) (Nat.zero_le _) ⟨⟨_, Heap.get?_push_size _ rfl, rfl, rfl⟩, (hl1.push _)⟩ ?first ?last
  case first =>
    refine SetOf_congr ((setObjOf_fresh (knd := PySem.strKind prog w) led).setOf (Heap.get?_push_of_some _ hS) (by unfold scanBound; omega)) (fun _ => ?_) rfl
    rw [List.take_zero]
    rfl
  case last =>
    intro s' hm hS'
    obtain ⟨h', g', d', tk', os'⟩ := s'
    obtain rfl : g' = s.gens := hm.gens
    obtain rfl : d' = s.drawn := hm.drawn
    obtain rfl : os' = s.os := hm.os
    refine wpAny_pure (wpAny_pure ⟨rfl, h', tk', rfl, hS', fun b o hb e => ?_⟩)
    refine hm.heap b o ?_ (Heap.get?_push_of_some _ (Heap.get?_push_of_some _ e))
    rw [Heap.size_push, List.mem_cons, List.mem_singleton]
    rintro (e | e)
    · exact Nat.ne_of_lt hb e
    · exact Nat.ne_of_lt (Nat.lt_succ_of_lt hb) e
theorem set_tup {l : Addr} {items : Array Value} {xs : List Str} {Q : Value → Shared → Prop} (hh : A.handled = none) (hl : s.heap.IsTuple l items) (hi : StrsAre items.toList xs) (hb : xs.length + 1 < scanBound)
    (h : ∀ (h' : Heap) (tk : Nat), (h'.SetOf (PySem.strKind prog w) s.heap.objs.size (fun y => decide (y ∈ dd xs)) (dd xs).length ∧ ∀ b o, b < s.heap.objs.size → s.heap.get? b = some o → h'.get? b = some o) → Q (.ref s.heap.objs.size) { s with heap := h', toks := tk }) :
    wpAny (model prog w) A (call (.type "set") [.ref l]) Q E s := by
  refine set_new (fun h' => h'.SetOf (PySem.strKind prog w) s.heap.objs.size (fun y => decide (y ∈ dd xs)) (dd xs).length ∧ ∀ b o, b < s.heap.objs.size → s.heap.get? b = some o → h'.get? b = some o) hh (fun led A1 ha => ?_) h
  obtain ⟨ol, hol, hcl, nl, hdl⟩ := hl
  obtain ⟨ocls, od, odata, os⟩ := ol
  simp only at hcl hdl
  subst hcl; subst hdl
  have lt : l < s.heap.objs.size := Heap.lt_size hol
  have hS : (s.heap.push (set0 led)).get? s.heap.objs.size = some (set0 led) := Heap.get?_push_size _ rfl
  have hol' : (s.heap.push (set0 led)).get? l = some { cls := .type "tuple", dict := od, data := .seq items nl, slots := os } := Heap.get?_push_of_some _ hol
  have hl1 : (s.heap.push (set0 led)).IsTuple l items := ⟨_, hol', rfl, nl, rfl⟩
  have n1 : l ≠ (s.heap.push (set0 led)).objs.size := by rw [Heap.size_push]; exact Nat.ne_of_lt (Nat.lt_succ_of_lt lt)
  have n2 : s.heap.objs.size ∉ [(s.heap.push (set0 led)).objs.size, l] := by
    rw [Heap.size_push, List.mem_cons, List.mem_singleton]
    rintro (e | e)
    · exact Nat.ne_of_lt (Nat.lt_succ_self _) e
    · exact Nat.ne_of_gt lt e
  have hsz : xs.length = items.size := by rw [← StrsAre.len_eq hi, Array.length_toList]
  have hval : ∀ (i : Nat) (v : Value), items[i]? = some v → ∃ x t, xs[i]? = some x ∧ v = .str x t := fun i v hv => by
    obtain ⟨t, e⟩ := SS.strs_at hi i v (by rw [Array.getElem?_toList]; exact hv)
    have hlt : i < xs.length := by rw [hsz]; exact (Array.getElem?_eq_some_iff.mp hv).1
    exact ⟨xs[i], t, List.getElem?_eq_getElem hlt, by rw [e, List.getD_eq_getElem?_getD, List.getElem?_eq_getElem hlt]; rfl⟩
  have f1 := PySem.F.sub_tuple_set
  have f2 := PySem.F.sub_tuple_frozenset
  have f3 : (Value.type "tuple" == Value.type "dict") = false := by decide
  unfold Builtin.«set.__init__» noKeywords Builtin.Frozenset.updateFrom
  generalize hPI : pyIter = PI
  wp_walk
  subst hPI
  refine wpAny_pyIter_tuple hl1 (wpAny_bind (wpAny_runValue ?_))
  refine puts ((Walks.tuple (by simp [ha]) _ l n1 items).toS) s.heap.objs.size n2 xs hsz (by rw [← hsz]; exact hb) hval (items.size - 0) 0 _ (by omega) (Nat.zero_le _) ⟨⟨_, Heap.get?_push_size _ rfl, rfl, rfl⟩, (hl1.push _)⟩ ?first ?last
  case first =>
    refine SetOf_congr ((setObjOf_fresh (knd := PySem.strKind prog w) led).setOf (Heap.get?_push_of_some _ hS) (by unfold scanBound; omega)) (fun _ => ?_) rfl
    rw [List.take_zero]
    rfl
  case last =>
    intro s' hm hS'
    obtain ⟨h', g', d', tk', os'⟩ := s'
    obtain rfl : g' = s.gens := hm.gens
    obtain rfl : d' = s.drawn := hm.drawn
    obtain rfl : os' = s.os := hm.os
    refine wpAny_pure (wpAny_pure ⟨rfl, h', tk', rfl, hS', fun b o hb e => ?_⟩)
    refine hm.heap b o ?_ (Heap.get?_push_of_some _ (Heap.get?_push_of_some _ e))
    rw [Heap.size_push, List.mem_cons, List.mem_singleton]
    rintro (e | e)
    · exact Nat.ne_of_lt hb e
    · exact Nat.ne_of_lt (Nat.lt_succ_of_lt hb) e
end
/-! ### len(set(xs)) -/
def tLenSetT (K : PySem.W.Frag) (ta : TE) : TE := fun σ H Q => ta σ H fun x H1 => ∃ l, ∃ xs : List Str, x = .ref l ∧ (SqL K H1 l (xs.map V.str) ∨ SqT K H1 l (xs.map V.str)) ∧ xs.length ≤ 1000 ∧ Q (.int (dd xs).length) H1
theorem pe_lenSetT {X : Cx} {a : Expr} {ta : TE} {p p2 q pos : Pos} (hc : X.calm = true) (hg : Gl X "len") (hm : X.mg "len" = none) (hg2 : Gl X "set") (hm2 : X.mg "set" = none) (ha : PE X a ta)
    (na : starEach [a] X.env = (false, eval a X.env) :: starEach [] X.env := by rfl) : PE X (.Call (.Name "len" p) [.Call (.Name "set" p2) [a] [] q] [] pos) (tLenSetT X.K ta) := by
  refine ⟨fun pins s σ H Q I h => Call_ (ld_blt I hg hm boot_len (callWith_builtin1 (PyProof.Rows.args_cons ?_ rfl) rfl rfl))⟩
  refine Call_ (ld_blt I hg2 hm2 boot_set (callWith_type1 (PyProof.Rows.args_cons (thn (ha.run pins s σ H _ I h) fun v s1 ⟨x, H1, I1, r1, q1⟩ => PyProof.Rows.args_nil ?_) na) na rfl))
  obtain ⟨l, xs, rfl, hq, h1, q1⟩ := q1
  cases r1
  have sb : xs.length + 1 < scanBound := by unfold scanBound; omega
  have ht : ∀ (h' : Heap) (tk : Nat), (h'.SetOf (PySem.strKind X.prog X.w) s1.heap.objs.size (fun y => decide (y ∈ dd xs)) (dd xs).length ∧ ∀ b o, b < s1.heap.objs.size → s1.heap.get? b = some o → h'.get? b = some o) →
      wpAny (model X.prog X.w) X.A (spliced (backTo pos (starEach [] X.env))) (fun vs s2 => wpAny (model X.prog X.w) X.A (call (.builtin "len") (Value.ref s1.heap.objs.size :: vs)) (EP X pins σ Q) X.xe s2) X.xe { s1 with heap := h', toks := tk } := by
    rintro h' tk ⟨⟨o, es, ep, t, ho, hex, hd, _, _, _, hf, hn⟩, hk⟩
    refine PyProof.Rows.args_nil (call_len_set ho hex hd hf ?_ ⟨.int (dd xs).length, H1, (I1.kept (t' := tk) fun b o e => hk b o (Heap.lt_size e) e).tok _, ⟨_, by rw [hn]⟩, q1⟩)
    have := dd_le xs.length xs
    rw [List.take_length] at this
    rw [hn]
    omega
  rcases hq with hq | hq
  · obtain ⟨its, r, pl, hz⟩ := I1.list hq
    exact set_lst (I1.ok.hd hc) pl.isList (by simpa using strsAre_of r) sb ht
  · obtain ⟨its, r, pl, hz⟩ := I1.tuple hq
    exact set_tup (I1.ok.hd hc) pl (by simpa using strsAre_of r) sb ht
def setLenD : D → Option Nat
  | .lst xs => (txts xs).bind fun ys => if ys.length ≤ 1000 then some (dd ys).length else none
  | .tup xs => (txts xs).bind fun ys => if ys.length ≤ 1000 then some (dd ys).length else none
  | _ => none
def lenSetE (fe : SE) : SE := fun env => bindE (fe env) fun a env1 => ((pk a env1).bind setLenD).map fun n => Re.ok (.d (.int (n : Nat))) env1
theorem dd_mk [Glo] [Tabs] (ys : List (List Nat)) : dd (ys.map mk) = (dd ys).map mk := by
  have go : ∀ (ys σ : List (List Nat)), (ys.map mk).foldl ddS (σ.map mk) = (ys.foldl ddS σ).map mk := by
    intro ys
    induction ys with
    | nil => intro σ; rfl
    | cons y ys ih =>
      intro σ
      rw [List.map_cons, List.foldl_cons, List.foldl_cons, ← ih]
      congr 1
      unfold ddS
      by_cases h : y ∈ σ
      · rw [if_pos h, if_pos (List.mem_map_of_mem h)]
      · rw [if_neg h, if_neg, List.map_append]
        · rfl
        · intro g
          obtain ⟨z, hz, e⟩ := List.mem_map.mp g
          exact h (mk_inj e ▸ hz)
  exact go ys []
section
variable [Glo] [Tabs] {K : PySem.W.Frag} {W : WX} {F F' : Hp} {R R' : Fm} {σ : L2.St} {H H' : Hp} {env env' : Sl} {Q : VK}
theorem dE_lenSet {fe : SE} (h : dE K W (lenSetE fe) σ H Q) : tLenSetT K (dE K W fe) σ H Q := by
  obtain ⟨env, F, R, S, q⟩ := of_dE h
  refine dE_of S (atE_bind (k := fun a env1 => ((pk a env1).bind setLenD).map fun n => Re.ok (.d (.int (n : Nat))) env1) q fun b env2 F2 w H2 e2 S2 rw' q2 => ?_)
  obtain ⟨r, e, p⟩ := q2
  rw [Option.map_eq_some_iff] at e
  obtain ⟨n, e, rfl⟩ := e
  rw [Option.bind_eq_some_iff] at e
  obtain ⟨y, hx, e⟩ := e
  have hv := pk_vw S2 rw' hx
  have fin : ∀ {ys : List (List Nat)}, (if ys.length ≤ 1000 then some (dd ys).length else none) = some n → (ys.map mk).length ≤ 1000 ∧ Q (.int (dd (ys.map mk)).length) H2 := by
    intro ys e
    obtain ⟨c, rfl⟩ := some_if e
    refine ⟨by rw [List.length_map]; exact c, ?_⟩
    rw [dd_mk, List.length_map]
    exact post_d S2 p (.int _)
  cases y with
  | lst xs =>
    have e : (txts xs).bind _ = some n := e
    rw [Option.bind_eq_some_iff] at e
    obtain ⟨ys, h1, e⟩ := e
    obtain ⟨q, vs, rfl, sq, rr⟩ := (show ∃ p vs, w = .ref p ∧ SqL K H2 p vs ∧ RelAll K F2 vs xs from hv)
    have := txts_rel rr h1
    subst this
    obtain ⟨g1, g2⟩ := fin e
    exact ⟨q, ys.map mk, rfl, .inl sq, g1, g2⟩
  | tup xs =>
    have e : (txts xs).bind _ = some n := e
    rw [Option.bind_eq_some_iff] at e
    obtain ⟨ys, h1, e⟩ := e
    cases hv with
    | tup sq rr =>
      have := txts_rel rr h1
      subst this
      obtain ⟨g1, g2⟩ := fin e
      exact ⟨_, ys.map mk, rfl, .inr (ex_t S2.sub sq), g1, g2⟩
  | _ => cases e
end
section
variable [Glo] [Tabs] {X : Cx} {W : WX} {a : Expr} {fe : SE} {p p2 q pos : Pos}
theorem pd_lenSet (hc : X.calm = true) (hm : X.mg "len" = none) (hm2 : X.mg "set" = none) (ha : PE X a (dE X.K W fe)) (hg : Gl X "len" := by rfl) (hg2 : Gl X "set" := by rfl)
    (na : starEach [a] X.env = (false, eval a X.env) :: starEach [] X.env := by rfl) : PE X (.Call (.Name "len" p) [.Call (.Name "set" p2) [a] [] q] [] pos) (dE X.K W (lenSetE fe)) := (pe_lenSetT hc hg hm hg2 hm2 ha na).wk fun _ _ _ q => dE_lenSet q
end
section
variable [Glo] [Tabs] {fe : SE} {env : Sl} {a : RV} {x : D} {n : Nat} {Q : QE} {E : QX}
theorem w_lenSet (h : wE fe env (fun u e1 => wr (((pk u e1).bind setLenD).map fun n => Re.ok (.d (.int (n : Nat))) e1) Q E) E) : wE (lenSetE fe) env Q E := wr_bind h
theorem w_lenSet1 (hx : pk a env = some x) (h : setLenD x = some n) (q : Q (.d (.int (n : Nat))) env) : wr (((pk a env).bind setLenD).map fun n => Re.ok (.d (.int (n : Nat))) env) Q E := by rw [hx, Option.bind_some, h]; exact q
end
/-! ### a <= b <= c as a test -/
section
variable [Glo] [Tabs]
theorem ch_bl {g g' : D → D → Option RV} (hg : ∀ x y z, g' x y = some z → ∃ b, z = .d (.bl b)) {fa fb fc : SE} {env e : Sl} {a : RV} (h : chainE g g' fa fb fc env = some (.ok a e)) : ∃ b, a = .d (.bl b) := by
  unfold chainE at h
  cases h1 : fa env with
  | none => rw [h1] at h; cases h
  | some r => rw [h1] at h; cases r with
    | ex x e1 => cases h
    | ok u e1 =>
      have h : bindE (fb e1) _ = _ := h
      cases h2 : fb e1 with
      | none => rw [h2] at h; cases h
      | some r => rw [h2] at h; cases r with
        | ex x e1 => cases h
        | ok v e2 =>
          have h : ((pk u e2).bind _) = _ := h
          rw [Option.bind_eq_some_iff] at h
          obtain ⟨x, _, h⟩ := h
          rw [Option.bind_eq_some_iff] at h
          obtain ⟨y, _, h⟩ := h
          split at h
          · cases h3 : fc e2 with
            | none => rw [h3] at h; cases h
            | some r => rw [h3] at h; cases r with
              | ex x e1 => cases h
              | ok w e3 =>
                have h : ((pk v e3).bind _) = _ := h
                rw [Option.bind_eq_some_iff] at h
                obtain ⟨y', _, h⟩ := h
                rw [Option.bind_eq_some_iff] at h
                obtain ⟨z, _, h⟩ := h
                rw [Option.map_eq_some_iff] at h
                obtain ⟨q, hq, h⟩ := h
                cases h
                exact hg _ _ _ hq
          · cases h
            exact ⟨false, rfl⟩
          · cases h
variable {X : Cx} {W : WX} {a b c : Expr} {fa fb fc : SE} {pos : Pos}
theorem pt_dchain {op op' : CmpOp} {r r' : R2} {g g' : D → D → Option RV} (ho : OpR X (compareOp op) r) (ho' : OpR X (compareOp op') r') (hs : Snd2 X.K g r) (hs' : Snd2 X.K g' r') (hg : ∀ x y z, g' x y = some z → ∃ b, z = .d (.bl b))
    (ha : PE X a (dE X.K W fa)) (hb : PE X b (dE X.K W fb)) (hc : PE X c (dE X.K W fc)) (hm : lastMarks [op, op'] [b, c] = false) : PT X (.Compare a [op, op'] [b, c] pos) (dT X.K W (chainE g g' fa fb fc)) := by
  refine (pt_chain ho ho' ha hb hc hm).wk fun σ H Q q => dE_chain hs hs' ?_
  obtain ⟨env, F, R, r, S, e, p⟩ := q
  refine ⟨env, F, R, r, S, e, ?_⟩
  cases r with
  | ok a' env' =>
    obtain ⟨k, hk, p⟩ := p
    obtain ⟨t, rfl⟩ := ch_bl hg e
    obtain rfl : t = k := Option.some.inj hk
    intro v F' H' e1 S1 rv
    cases rv
    exact ⟨t, rfl, p F' H' e1 S1⟩
  | ex x env' => exact p
theorem pt_chLL (ha : PE X a (dE X.K W fa)) (hb : PE X b (dE X.K W fb)) (hc : PE X c (dE X.K W fc)) (hm : lastMarks [.LtE, .LtE] [b, c] = false := by with_unfolding_all rfl) : PT X (.Compare a [.LtE, .LtE] [b, c] pos) (dT X.K W (chainE leD leD fa fb fc)) := pt_dchain (OpR.or op_le op_le_str) (OpR.or op_le op_le_str) snd_le snd_le (fun _ _ _ => bl_le) ha hb hc hm
theorem pt_chLS (ha : PE X a (dE X.K W fa)) (hb : PE X b (dE X.K W fb)) (hc : PE X c (dE X.K W fc)) (hm : lastMarks [.LtE, .Lt] [b, c] = false := by with_unfolding_all rfl) : PT X (.Compare a [.LtE, .Lt] [b, c] pos) (dT X.K W (chainE leD ltD fa fb fc)) := pt_dchain (OpR.or op_le op_le_str) (OpR.or op_lt op_lt_str) snd_le snd_lt (fun _ _ _ => bl_lt) ha hb hc hm
end
end
end Dw
namespace Dw
noncomputable section
open PySem PySem.Spec PyProof.Rows L2
variable [Glo] [Tabs]
/-! ### xs.count(x), xs a list -/
def rCountD (K : PySem.W.Frag) : V → List V → Hp → VK → Prop := fun x xs H Q => ∃ (a : Addr) (y : V) (d : PyData) (ds : List PyData), x = V.ref a ∧ xs = [y] ∧ Dp K H (V.ref a) (.list ds) ∧ Dp K H y d ∧
  SeqAt.shaped (.list ds) = true ∧ SeqAt.shaped d = true ∧ Q (.int (ds.countP fun z => PyData.eqv z d : Nat)) H
section
variable {X : Cx}
theorem mt_countD (hu : X.A.units + 65 < cLine) : MtR X "list.count" (rCountD X.K) := by
  intro pins s σ H x xs v us Q I rx rxs h
  obtain ⟨a, y, d, ds, rfl, rfl, hl, hy, sl, sd, q⟩ := h
  cases rx
  obtain ⟨uy, rfl, ry⟩ := rxs.one
  obtain ⟨bs, r1⟩ := Dp.reads I d y uy hy ry
  have hxs : PyData.canLayAll0 ds = true := SeqAt.canLay_of_shaped sl
  have hroom : X.A.units + 1 + min (PyData.depthAll ds) d.depth < cLine := room_in_shaped sd hu
  cases hl with
  | lst hs ha =>
    obtain ⟨its, rv, ⟨⟨cls, dd, dt, sls⟩, n, ho, hc, hdn, hdt⟩, hlen⟩ := I.list hs
    simp only at hc hdt
    subst hc hdt
    obtain ⟨as, h4⟩ := Dp.readsAll I ds _ its ha rv
    have hmap : its.map (SeqAt.readOf s.heap) = ds := SeqAt.readsAll_map ds its as hxs h4
    have ec : its.toArray.toList.countP (fun u => PyData.eqv (SeqAt.readOf s.heap u) d) = ds.countP fun z => PyData.eqv z d := by
      rw [List.toList_toArray, ← hmap, List.countP_map]
      rfl
    refine call_meets PySem.F.slot_list_count ⟨_, ho, rfl⟩ PySem.F.entry_list_count (PySem.F.args_list_count_2 _ _) (SeqAt.list_countAt a its.toArray n dd sls uy fun u => PyData.eqv (SeqAt.readOf s.heap u) d)
      ⟨ho, SeqAt.items_eqAt (vs := its.toArray) (show ReadsAll s.heap its.toArray.toList ds as from h4) r1 hxs (SeqAt.canLay_of_shaped sd) hroom, ⟨.int (ds.countP fun z => PyData.eqv z d : Nat), H, I.tok _, ⟨s.toks, ?_⟩, q⟩⟩
    show Value.int ((its.toArray.toList.countP fun u => PyData.eqv (SeqAt.readOf s.heap u) d : Nat) : Int) s.toks = _
    rw [ec]
end
def cntB (x : D) (xs : List D) : Nat := xs.countP fun y => eqB y x
def countLD (x : D) (as : List D) : Option RV := match x, as with
  | .lst xs, [y] => if shp (.lst xs) && shp y then some (.d (.int (cntB y xs : Nat))) else none
  | _, _ => none
theorem cnt_py (y : D) : ∀ xs : List D, (pys xs).countP (fun z => PyData.eqv z (py y)) = cntB y xs
  | [] => rfl
  | x :: xs => by
    have ih := cnt_py y xs
    unfold cntB at ih ⊢
    rw [pys, List.countP_cons, List.countP_cons, ih, eqv_py]
theorem snd_countLD {K : PySem.W.Frag} : SndM K countLD (rCountD K) := by
  intro W F R σ H env Q x v xs vs z S hx hs e p
  match x, xs, e with
  | .lst xs, [y], e =>
    obtain ⟨c, rfl⟩ := some_if e
    rw [Bool.and_eq_true] at c
    obtain ⟨w, rfl, hw⟩ := vw1 hs
    have hd := (hx.rel S.sub).dp _ (shp_pl c.1)
    obtain ⟨a, us, rfl, _, _⟩ := hx
    refine ⟨a, w, py y, pys xs, rfl, rfl, hd, (hw.rel S.sub).dp _ (shp_pl c.2), c.1, c.2, ?_⟩
    rw [cnt_py]
    exact post_d S p (.int _)
theorem cnt_ok {xs : List D} {y : D} (h1 : shp (.lst xs) = true) (h2 : shp y = true) : countLD (.lst xs) [y] = some (.d (.int (cntB y xs : Nat))) := if_pos (by rw [h1, h2]; rfl)
/-! ### more of the texts -/
def rfindL (a b : List Nat) : Option RV := some (.d (.int (Txt.rfind (mk a) (mk b))))
def rRfindS : V → List V → Hp → VK → Prop := fun x xs H Q => ∃ a b, x = .str a ∧ xs = [.str b] ∧ Q (.int (Txt.rfind a b)) H
theorem snd_rfind {K : PySem.W.Frag} : SndM K (textM rfindL) rRfindS := snd_textM fun S e p => by
  cases e
  exact ⟨_, _, rfl, rfl, post_d S p (.int _)⟩
end
end Dw
namespace Dw
noncomputable section
open PySem PySem.Spec PyProof.Rows L2
variable [Glo] [Tabs]
/-! ### x in ys, ys a tuple of any data -/
def rInU (K : PySem.W.Frag) (g : Bool → Bool) : R2 := fun x y H Q => ∃ d ds, Dp K H x d ∧ Dp K H y (.tuple ds) ∧ SeqAt.shaped d = true ∧ SeqAt.shaped (.tuple ds) = true ∧ Q (.bl (g (ds.any fun z => PyData.eqv z d))) H
section
variable {X : Cx}
theorem op_inU (hu : X.A.units + 65 < cLine) : OpR X (compareOp .In) (rInU X.K id) := by
  rintro pins s σ H x y v u Q I rx ry ⟨d, ds, hd, he, sd, se, q⟩
  obtain ⟨as, r1⟩ := Dp.reads I d x v hd rx
  obtain ⟨bs, r2⟩ := Dp.reads I (.tuple ds) y u he ry
  exact SeqAt.in_tuple_reads r2 r1 (SeqAt.canLay_of_shaped se) (SeqAt.canLay_of_shaped sd) (room_in_shaped sd hu) ⟨.bl _, H, I, rfl, q⟩
theorem op_notInU (hu : X.A.units + 65 < cLine) : OpR X (compareOp .NotIn) (rInU X.K not) := by
  rintro pins s σ H x y v u Q I rx ry ⟨d, ds, hd, he, sd, se, q⟩
  obtain ⟨as, r1⟩ := Dp.reads I d x v hd rx
  obtain ⟨bs, r2⟩ := Dp.reads I (.tuple ds) y u he ry
  exact SeqAt.notIn_tuple_reads r2 r1 (SeqAt.canLay_of_shaped se) (SeqAt.canLay_of_shaped sd) (room_in_shaped sd hu) ⟨.bl _, H, I, rfl, q⟩
end
def inG (x y : D) : Option RV := match y with
  | .tup ys => if (flatD x && ys.all flatD) || (shp x && shp (.tup ys)) then some (.d (.bl (inB x ys))) else none
  | y => inD x y
def notInG (x y : D) : Option RV := match inG x y with
  | some (.d (.bl b)) => some (.d (.bl (!b)))
  | _ => none
theorem inG_in {x y : D} {z : RV} (h : inD x y = some z) : inG x y = some z := by
  cases y with
  | tup ys =>
    obtain ⟨c, e⟩ := some_if (show (if flatD x && ys.all flatD then some (RV.d (.bl (inB x ys))) else none) = _ from h)
    cases e
    show (if _ then _ else _) = _
    rw [c]
    rfl
  | _ => exact h
theorem inG_tup {x : D} {ys : List D} (h : shp x = true) (h2 : shp (.tup ys) = true) : inG x (.tup ys) = some (.d (.bl (inB x ys))) := if_pos (by rw [h, h2]; simp)
theorem inG_lst {x : D} {ys : List D} (h : shp x = true) (h2 : shp (.lst ys) = true) : inG x (.lst ys) = some (.d (.bl (inB x ys))) := if_pos (by rw [h, h2]; simp)
theorem notInG_of {x y : D} {b : Bool} (h : inG x y = some (.d (.bl b))) : notInG x y = some (.d (.bl (!b))) := by unfold notInG; rw [h]
/-- flat things in a tuple: as before; else data -/
theorem inG_cases {x y : D} {z : RV} (h : inG x y = some z) : inD x y = some z ∨ ∃ ys, y = .tup ys ∧ (shp x = true ∧ shp (.tup ys) = true) ∧ z = .d (.bl (inB x ys)) := by
  cases y with
  | tup ys =>
    obtain ⟨c, e⟩ := some_if (show (if (flatD x && ys.all flatD) || (shp x && shp (.tup ys)) then some (RV.d (.bl (inB x ys))) else none) = _ from h)
    cases e
    by_cases hf : (flatD x && ys.all flatD) = true
    · exact .inl (if_pos hf)
    · rw [Bool.or_eq_true] at c
      have c2 := c.resolve_left hf
      rw [Bool.and_eq_true] at c2
      exact .inr ⟨ys, rfl, c2, rfl⟩
  | _ => exact .inl h
theorem inG_bl {x y : D} {z : RV} (h : inG x y = some z) : ∃ b, z = .d (.bl b) := by
  rcases inG_cases h with h | ⟨ys, _, _, rfl⟩
  · exact inD_bl h
  · exact ⟨_, rfl⟩
theorem tup_data {K : PySem.W.Frag} {F H : Hp} {x : D} {v w : V} {ys : List D} (e : Ex F H) (hx : Vw K F H v x) (hy : Vw K F H w (.tup ys)) (h : shp x = true ∧ shp (.tup ys) = true) :
    Dp K H v (py x) ∧ Dp K H w (.tuple (pys ys)) ∧ SeqAt.shaped (py x) = true ∧ SeqAt.shaped (.tuple (pys ys)) = true ∧ ((pys ys).any fun z => PyData.eqv z (py x)) = inB x ys :=
  ⟨(hx.rel e).dp _ (shp_pl h.1), (hy.rel e).dp _ (shp_pl h.2), h.1, h.2, any_py x ys⟩
theorem snd_inG {K : PySem.W.Frag} : Snd2 K inG (rOr (rInAny K) (rInU K id)) := by
  intro W F R σ H env Q x y v w z S hx hy e p
  rcases inG_cases e with h | ⟨ys, rfl, hs, rfl⟩
  · exact .inl (snd_in S hx hy h p)
  · obtain ⟨a, b, c, d, e1⟩ := tup_data S.sub hx hy hs
    refine .inr ⟨_, _, a, b, c, d, ?_⟩
    rw [e1]
    exact post_d S p (.bl _)
theorem bl_niG {x y : D} {z : RV} (h : notInG x y = some z) : ∃ b, z = .d (.bl b) := by
  unfold notInG at h
  split at h
  · cases h; exact ⟨_, rfl⟩
  · cases h
theorem snd_niG {K : PySem.W.Frag} : Snd2 K notInG (rOr (rNiAny K) (rInU K not)) := by
  intro W F R σ H env Q x y v w z S hx hy e p
  unfold notInG at e
  cases hi : inG x y with
  | none => rw [hi] at e; cases e
  | some z' =>
    rcases inG_cases hi with h | ⟨ys, rfl, hs, rfl⟩
    · refine .inl (snd_ni S hx hy (z := z) ?_ p)
      unfold notInD
      rw [h]
      rw [hi] at e
      exact e
    · rw [hi] at e
      cases e
      obtain ⟨a, b, c, d, e1⟩ := tup_data S.sub hx hy hs
      refine .inr ⟨_, _, a, b, c, d, ?_⟩
      rw [e1]
      exact post_d S p (.bl _)
section
variable {X : Cx} {W : WX} {a b : Expr} {fa fb : SE} {pos : Pos}
theorem pd_inG (hu : X.A.units + 65 < cLine) (ha : PE X a (dE X.K W fa)) (hb : PE X b (dE X.K W fb)) (hm : behindInMarks .In b = false := by rfl) : PE X (.Compare a [.In] [b] pos) (dE X.K W (two (op2 inG) fa fb)) := pd_cmp (OpR.or (OpR.or op_in_sign (OpR.or op_in_seq (op_inD hu))) (op_inU hu)) snd_inG hm ha hb
theorem pd_notInG (hu : X.A.units + 65 < cLine) (ha : PE X a (dE X.K W fa)) (hb : PE X b (dE X.K W fb)) (hm : behindInMarks .NotIn b = false := by rfl) : PE X (.Compare a [.NotIn] [b] pos) (dE X.K W (two (op2 notInG) fa fb)) := pd_cmp (OpR.or (OpR.or op_notIn_sign (OpR.or op_notIn_seq (op_notInD hu))) (op_notInU hu)) snd_niG hm ha hb
theorem pt_inGd (hu : X.A.units + 65 < cLine) (ha : PE X a (dE X.K W fa)) (hb : PE X b (dE X.K W fb)) (hm : behindInMarks .In b = false := by rfl) : PT X (.Compare a [.In] [b] pos) (dT X.K W (two (op2 inG) fa fb)) := pt_dcmp (OpR.or (OpR.or op_in_sign (OpR.or op_in_seq (op_inD hu))) (op_inU hu)) snd_inG (fun _ _ _ => inG_bl) hm ha hb
theorem pt_notInGd (hu : X.A.units + 65 < cLine) (ha : PE X a (dE X.K W fa)) (hb : PE X b (dE X.K W fb)) (hm : behindInMarks .NotIn b = false := by rfl) : PT X (.Compare a [.NotIn] [b] pos) (dT X.K W (two (op2 notInG) fa fb)) := pt_dcmp (OpR.or (OpR.or op_notIn_sign (OpR.or op_notIn_seq (op_notInD hu))) (op_notInU hu)) snd_niG (fun _ _ _ => bl_niG) hm ha hb
end
/-! ### a def that calls itself and may raise -/
section
variable {P : Program} {w : World} {K : PySem.W.Frag} {mg : Str → Option Value} {base : Heap} {f : Addr} {fd : FuncData} {ps : List Str} {np : Nat}
theorem fnG0 {CX : CXT} {k : Nat} : FnOk P w K mg base CX k f fd ps (spD K np fun _ => none) where
  len := fun vs H Q E h => (spD_no h).elim
  run := fun A outer s H args us vs Q E _ _ _ _ h => (spD_no h).elim
theorem DefG.selfX {x : Str} {n k0 : Nat} {r : Nat → List SV → Option FR} {B : (List SV → Option FR) → SS} (h0 : r 0 = fun _ => none) (hs : ∀ i, r (i + 1) = defX np n (B (r i)))
    (step : ∀ (k : Nat) (m : List SV → Option FR), k0 ≤ k → DefX P w K mg base k x np m [] → FnOk P w K mg base (L2.CX P w) (k + 1) f fd ps (spD K np (defX np n (B m)))) (hm : mg x = some (.ref f)) (hk : PySem.W.keepIn K (.ref f) = true) (hb : Binds K fd ps []) :
    ∀ i, DefX P w K mg base (k0 + i) x np (r i) []
  | 0 => by
    rw [h0]
    exact ⟨f, fd, ps, [], [], fnG0, hm, hk, hb, .nil, fun _ => .nil, fun _ _ e => by cases e⟩
  | i + 1 => by
    have C := DefG.selfX h0 hs step hm hk hb i
    have F := step (k0 + i) (r i) (Nat.le_add_right _ _) C
    rw [hs]
    exact ⟨f, fd, ps, [], [], F, hm, hk, hb, .nil, fun _ => .nil, fun as fr e => by
      unfold defX at e
      by_cases h : as.length = np
      · exact h
      · rw [if_neg h] at e; cases e⟩
end
/-! ### list(x), x a list, a tuple or a text -/
def listG : List D → Option RV
  | [.str s] => listTC [.str s]
  | xs => listC xs
theorem snd_listG {K : PySem.W.Frag} : SndC K listG (fun xs H Q => rListC K xs H Q ∨ rListT xs H Q) := by
  intro W F R σ H env Q xs vs z S h e p
  match xs, h, e with
  | [.str s], h, e => exact .inr (snd_listT S h (xs := [.str s]) e p)
  | [], h, e => exact .inl (snd_list S h (xs := []) e p)
  | [.non], h, e => exact .inl (snd_list S h (xs := [.non]) e p)
  | [.bl b], h, e => exact .inl (snd_list S h (xs := [.bl b]) e p)
  | [.int i], h, e => exact .inl (snd_list S h (xs := [.int i]) e p)
  | [.lst y], h, e => exact .inl (snd_list S h (xs := [.lst y]) e p)
  | [.tup y], h, e => exact .inl (snd_list S h (xs := [.tup y]) e p)
  | [.dct a b], h, e => exact .inl (snd_list S h (xs := [.dct a b]) e p)
  | [.ins a b c], h, e => exact .inl (snd_list S h (xs := [.ins a b c]) e p)
  | a :: b :: c, h, e => exact .inl (snd_list S h (xs := a :: b :: c) (by cases a <;> exact e) p)
theorem lg_lst {ds : List D} : listG [.lst ds] = some (.own (.lst ds)) := rfl
theorem lg_tup {ds : List D} : listG [.tup ds] = some (.own (.lst ds)) := rfl
theorem lg_str {s : List Nat} (h : s.length ≤ 100000) : listG [.str s] = some (.own (.lst (s.map fun c => .str [c]))) := if_pos h
end
end Dw
namespace Dw
noncomputable section
open PySem PySem.Spec PyProof.Rows L2
variable [Glo] [Tabs]
/-! ### a star among the items -/
def starL : D → Option (List D)
  | .lst xs => some xs
  | .tup xs => some xs
  | _ => none
def starA (fa : SE) (fr : SA) : SA := fun env => bindEA (fa env) fun a env1 => match (pk a env1).bind starL with
  | some xs => mapA (fr env1) (xs.map RV.d ++ ·)
  | none => none
section
variable {K : PySem.W.Frag} {W : WX} {F F' : Hp} {R R' R2 : Fm} {σ : L2.St} {H H' : Hp} {env : Sl}
theorem heldAll_app : ∀ {vs : List V} {xs : List D} {ws : List V} {as : List RV}, RelAll K F vs xs → HeldAll K F R R' σ ws as → HeldAll K F R R' σ (vs ++ ws) (xs.map RV.d ++ as)
  | [], [], _, _, _, h => h
  | _ :: _, _ :: _, _, _, .cons a r, h => ⟨a, (fun _ e => by cases e), heldAll_app r h⟩
theorem vw_star {v : V} {x : D} {xs : List D} (e : Ex F H) (h : Vw K F H v x) (hs : starL x = some xs) : ∃ p vs, v = V.ref p ∧ (SqT K H p vs ∨ SqL K H p vs) ∧ RelAll K F vs xs := by
  cases x with
  | lst ys =>
    cases hs
    obtain ⟨p, vs, h1, h2, h3⟩ := h
    exact ⟨p, vs, h1, .inr h2, h3⟩
  | tup ys =>
    cases hs
    have h : Rel K F v (.tup xs) := h
    cases h with
    | tup s r => exact ⟨_, _, rfl, .inl (ex_t e s), r⟩
  | _ => cases hs
theorem dA_star {fa : SE} {fr : SA} {Q : List V → Hp → Prop} (h : dA K W (starA fa fr) σ H Q) : StX.tStar K (dE K W fa) (dA K W fr) σ H Q := by
  obtain ⟨env, F, R, r, S, e, p⟩ := h
  have e : bindEA (fa env) (fun a env1 => match (pk a env1).bind starL with
    | some xs => mapA (fr env1) (xs.map RV.d ++ ·)
    | none => none) = some r := e
  cases h1 : fa env with
  | none => rw [h1] at e; cases e
  | some q =>
    rw [h1] at e
    cases q with
    | ex x env1 =>
      cases e
      exact ⟨env, F, R, _, S, h1, p⟩
    | ok a env1 =>
      rw [bindEA_ok] at e
      cases hb : (pk a env1).bind starL with
      | none => rw [hb] at e; cases e
      | some xs =>
        rw [hb] at e
        rw [Option.bind_eq_some_iff] at hb
        obtain ⟨x, hx, hs⟩ := hb
        refine ⟨env, F, R, _, S, h1, fun v F1 H1 e1 S1 rv => ?_⟩
        obtain ⟨p0, us, ev, hq, hr⟩ := vw_star S1.sub (pk_vw S1 rv hx) hs
        refine ⟨p0, us, ev, hq, ?_⟩
        cases h2 : fr env1 with
        | none => rw [h2] at e; cases e
        | some q2 =>
          rw [h2] at e
          cases q2 with
          | ex x env2 =>
            cases e
            exact ⟨env1, F1, R, _, S1, h2, fun cls d F2 H2 e2 S2 hx => p cls d F2 H2 (e1.trans e2) S2 hx⟩
          | ok as env2 =>
            cases e
            refine ⟨env1, F1, R, _, S1, h2, fun vs F2 H2 R2 e2 eR2 S2 hvs => ?_⟩
            exact p (us ++ vs) F2 H2 R2 (e1.trans e2) eR2 S2 (heldAll_app (RelAll.up e2 hr) hvs)
end
section
variable {X : Cx} {W : WX} {e : Expr} {es : List Expr} {fa : SE} {fr : SA} {p : Pos}
theorem pa_dstar (ha : PE X e (dE X.K W fa)) (hr : PA X es (dA X.K W fr)) (hs : starEach (.Starred e p :: es) X.env = (true, eval e X.env) :: starEach es X.env := by rfl) : PA X (.Starred e p :: es) (dA X.K W (starA fa fr)) := (StX.pa_star ha hr hs).wk fun _ _ _ q => dA_star q
end
/-! ### a constant of the module that is a tuple -/
def CTup (K : PySem.W.Frag) (mg : Str → Option Value) (x : Str) (ds : List D) : Prop := ∃ a xs, mg x = some (.ref a) ∧ (∀ F : Hp, SqT K F a xs) ∧ ∀ F : Hp, RelAll K F xs ds
theorem pd_ctup {X : Cx} {W : WX} {x : Str} {ds : List D} {pos : Pos} (h : CTup X.K X.mg x ds) (hg : Gl X x := by rfl) (hd : (x == ("__debug__" : Str)) = false := by decide) : PE X (.Name x pos) (dE X.K W (constE (.tup ds))) := by
  obtain ⟨a, xs, h1, h2, h3⟩ := h
  exact pd_glob h1 (v := .ref a) rfl (fun F => .tup (h2 F) (h3 F)) hg hd
/-! ### two defs that call each other -/
section
variable {P : Program} {w : World} {K : PySem.W.Frag} {mg : Str → Option Value} {base : Heap} {f f' : Addr} {fd fd' : FuncData} {ps ps' : List Str} {np np' : Nat}
theorem Def.pair {x x' : Str} {n n' k0 : Nat} {r r' : Nat → List SV → Option FR} {B B' : (List SV → Option FR) → (List SV → Option FR) → SS} (h0 : r 0 = fun _ => none) (h0' : r' 0 = fun _ => none) (hs : ∀ i, r (i + 1) = defM np n (B (r i) (r' i))) (hs' : ∀ i, r' (i + 1) = defM np' n' (B' (r i) (r' i)))
    (step : ∀ (k : Nat) (m m' : List SV → Option FR), k0 ≤ k → Def P w K mg base k x np m [] → Def P w K mg base k x' np' m' [] → FnOk P w K mg base CX0 (k + 1) f fd ps (spD K np (defM np n (B m m'))))
    (step' : ∀ (k : Nat) (m m' : List SV → Option FR), k0 ≤ k → Def P w K mg base k x np m [] → Def P w K mg base k x' np' m' [] → FnOk P w K mg base CX0 (k + 1) f' fd' ps' (spD K np' (defM np' n' (B' m m'))))
    (hm : mg x = some (.ref f)) (hk : PySem.W.keepIn K (.ref f) = true) (hb : Binds K fd ps []) (hm' : mg x' = some (.ref f')) (hk' : PySem.W.keepIn K (.ref f') = true) (hb' : Binds K fd' ps' []) :
    ∀ i, Def P w K mg base (k0 + i) x np (r i) [] ∧ Def P w K mg base (k0 + i) x' np' (r' i) []
  | 0 => by
    rw [h0, h0']
    exact ⟨⟨f, fd, ps, [], [], fn0, hm, hk, hb, .nil, fun _ => .nil, fun _ _ e => by cases e⟩, ⟨f', fd', ps', [], [], fn0, hm', hk', hb', .nil, fun _ => .nil, fun _ _ e => by cases e⟩⟩
  | i + 1 => by
    obtain ⟨C, C'⟩ := Def.pair h0 h0' hs hs' step step' hm hk hb hm' hk' hb' i
    have F := step (k0 + i) (r i) (r' i) (Nat.le_add_right _ _) C C'
    have F' := step' (k0 + i) (r i) (r' i) (Nat.le_add_right _ _) C C'
    rw [hs, hs']
    exact ⟨Def.mk0 F hm hk hb, Def.mk0 F' hm' hk' hb'⟩
end
/-! ### reckoning -/
section
variable {env : Sl} {fa : SE} {fr : SA} {E : QX} {QA : List RV → Sl → Prop}
def wStar (a : RV) (env : Sl) (P : List D → Prop) : Prop := ∃ xs, (pk a env).bind starL = some xs ∧ P xs
theorem w_star (h : wE fa env (fun a e1 => wStar a e1 fun xs => wA fr e1 (fun as e2 => QA (xs.map RV.d ++ as) e2) E) E) : wA (starA fa fr) env QA E := wra_bind (wr_mono h (fun a e1 h => by
  obtain ⟨xs, h1, h2⟩ := h
  rw [h1]
  exact wra_map h2) fun _ _ h => h)
theorem w_star1 {a : RV} {x : D} {xs : List D} {P : List D → Prop} (h1 : pk a env = some x) (h2 : starL x = some xs) (q : P xs) : wStar a env P := ⟨xs, by rw [h1, Option.bind_some, h2], q⟩
theorem st_lst {xs : List D} : starL (.lst xs) = some xs := rfl
theorem st_tup {xs : List D} : starL (.tup xs) = some xs := rfl
theorem frzs_map {xs : List D} {as : List RV} {ys : List D} {env1 : Sl} (h : frzs as env = some (ys, env1)) : frzs (xs.map RV.d ++ as) env = some (xs ++ ys, env1) := by
  induction xs with
  | nil => exact h
  | cons x xs ih => exact frzs_cons frz_d ih
end
end
end Dw
namespace Dw
noncomputable section
open PySem PySem.Spec PyProof.Rows L2
variable [Glo] [Tabs]
/-! ### str(n), int(text), split, removeprefix -/
def numL (i : Int) : List Nat := (PySem.Str.ofString (toString i)).cps.toList
def strC : List D → Option RV
  | [.int i] => if i.natAbs < 10 ^ 200 then some (.d (.str (numL i))) else none
  | _ => none
def rStrI : List V → Hp → VK → Prop := fun xs H Q => ∃ i, xs = [.int i] ∧ i.natAbs.log2 < 1920 ∧ Q (.str (toString i)) H
theorem cr_strI {X : Cx} : CallR X (.type "str") rStrI := call_str_int
theorem log_lt {n : Nat} (h : n < 10 ^ 200) : n.log2 < 1920 := by
  by_cases h0 : n = 0
  · subst h0; decide
  · rw [Nat.log2_lt h0]
    exact Nat.lt_trans h (by decide +kernel)
theorem snd_strC {K : PySem.W.Frag} : SndC K strC rStrI := by
  intro W F R σ H env Q xs vs z S h e p
  match xs, h, e with
  | [.int i], h, e =>
    obtain ⟨c, rfl⟩ := some_if e
    obtain ⟨v, rfl, hv⟩ := vw1 h
    cases hv
    exact ⟨i, rfl, log_lt c, post_d S p (by rw [show (PySem.Str.ofString (toString i)) = mk (numL i) from (mk_of _).symm]; exact .str _)⟩
def intT : List D → Option RV
  | [.str a] => match PySem.intText? (mk a) with
    | some n => if a.length ≤ 640 then some (.d (.int n)) else none
    | none => none
  | _ => none
def rIntT : List V → Hp → VK → Prop := fun xs H Q => ∃ a n, xs = [.str a] ∧ PySem.intText? a = some n ∧ a.length ≤ 640 ∧ Q (.int n) H
theorem cr_intT {X : Cx} : CallR X (.type "int") rIntT := call_int_str
theorem snd_intT {K : PySem.W.Frag} : SndC K intT rIntT := by
  intro W F R σ H env Q xs vs z S h e p
  match xs, h, e with
  | [.str a], h, e =>
    obtain ⟨v, rfl, hv⟩ := vw1 h
    cases hv
    have e : (match PySem.intText? (mk a) with
      | some n => if a.length ≤ 640 then some (RV.d (.int n)) else none
      | none => none) = some z := e
    cases hn : PySem.intText? (mk a) with
    | none => rw [hn] at e; cases e
    | some n =>
      rw [hn] at e
      obtain ⟨c, rfl⟩ := some_if e
      exact ⟨mk a, n, rfl, hn, by rw [mk_len]; exact c, post_d S p (.int _)⟩
def remPreL (a b : List Nat) : Option RV := if a.length ≤ sizeLine then some (.d (.str (Txt.removeprefix (mk a) (mk b)).cps.toList)) else none
def rRemPre : V → List V → Hp → VK → Prop := fun x xs H Q => ∃ a b, x = .str a ∧ xs = [.str b] ∧ a.length ≤ sizeLine ∧ Q (.str (Txt.removeprefix a b)) H
theorem snd_remPre {K : PySem.W.Frag} : SndM K (textM remPreL) rRemPre := snd_textM fun {W F R σ H env Q a b z} S e p => by
  obtain ⟨c, rfl⟩ := some_if e
  exact ⟨_, _, rfl, rfl, by rw [mk_len]; exact c, post_d S p (by rw [← mk_of (Txt.removeprefix (mk a) (mk b))]; exact .str _)⟩
def splL (a b : List Nat) : Option RV := if b.length ≠ 0 ∧ a.length ≤ 100000 then some (.own (.lst ((Txt.split (mk a) (mk b)).map fun s => D.str s.cps.toList))) else none
def rSplit : V → List V → Hp → VK → Prop := fun x xs H Q => ∃ a b, x = .str a ∧ xs = [.str b] ∧ (b.length == 0) = false ∧ a.length + 2 ≤ sizeLine ∧ rNewStrs (Txt.split a b) H Q
theorem rel_strs {K : PySem.W.Frag} {F : Hp} : ∀ ys : List Str, RelAll K F (ys.map V.str) (ys.map fun s => D.str s.cps.toList)
  | [] => .nil
  | y :: ys => .cons (by rw [← mk_of y]; exact .str _) (rel_strs ys)
theorem mt_remPre {X : Cx} : MtR X "str.removeprefix" rRemPre := mt_removeprefix
theorem mt_spl {X : Cx} : MtR X "str.split" rSplit := mt_split
theorem snd_split {K : PySem.W.Frag} : SndM K (textM splL) rSplit := snd_textM fun {W F R σ H env Q a b z} S e p => by
  obtain ⟨⟨c1, c2⟩, rfl⟩ := some_if e
  have hs : (100002 : Nat) ≤ sizeLine := by decide
  exact ⟨mk a, mk b, rfl, rfl, by rw [mk_len, beq_eq_false_iff_ne]; exact c1, by rw [mk_len]; omega, fun q hq => post_new S p hq (rel_strs _)⟩
end
end Dw
namespace Dw
noncomputable section
open PySem PySem.Spec PyProof.Rows L2
variable [Glo] [Tabs]
/-! ### sorted(xs, key=f), f a def of the program: the keys are asked for one by one -/
section
variable {X : Cx} {pins : List (Addr × Obj)} {σ : L2.St} {H : Hp} {s : Shared}
/-- an address that is new here is none of ours -/
theorem fresh_ch (I : Inv X pins σ H s) {b : Addr} (h : s.heap.objs.size ≤ b) : (b ∈ X.ex ∨ X.s_0.heap.objs.size ≤ b) ∧ b ≠ X.env.locals ∧ (∀ x c, X.env.cells.lookup x = some c → c ≠ b) ∧ ∀ p ∈ X.pn ++ pins, p.1 ≠ b := by
  have lt : ∀ {c : Addr} {o : Obj}, s.heap.get? c = some o → c ≠ b := fun e => Nat.ne_of_lt (Nat.lt_of_lt_of_le (Heap.lt_size e) h)
  refine ⟨.inr (Nat.le_trans I.sz h), fun z => ?_, fun x c e z => ?_, fun p hp => lt (I.pin p hp).1⟩
  · exact Nat.ne_of_gt (Nat.lt_of_lt_of_le I.lt h) z
  · obtain ⟨v, o, ho, _⟩ := I.cell x c e
    exact lt ho z
theorem fresh_fr (I : Inv X pins σ H s) {b : Addr} (h : s.heap.objs.size ≤ b) : b ∉ frs X.stack := fun z => by
  obtain ⟨_, o, ho, _⟩ := I.env0.funs.mem z
  exact Nat.ne_of_lt (Nat.lt_of_lt_of_le (Heap.lt_size ho) h) rfl
end
/-- how far the keys are asked for: what stands at the list a and at the keys' list c; the keys so far -/
structure KAt (X : Cx) (pins : List (Addr × Obj)) (σ : L2.St) (F0 : Hp) (R : Fm) (τ : L2.St) (env : Sl) (a c : Addr) (e1 : Nat) (ks : List D) (s' : Shared) (H : Hp) (F : Hp) (kvs : List V) (kA : Array Value) (e : Nat) : Prop where
  I : Inv X pins σ H s'
  ex : Ex F0 F
  S : Sta X.K F R τ H env
  na : H a = none
  nc : H c = none
  oa : s'.heap.get? a = some (seqObj "list" #[] e1)
  oc : s'.heap.get? c = some (seqObj "list" kA e)
  vs : Vals kvs kA.toList
  rs : RelAll X.K F kvs ks
theorem key_turn {X : Cx} {pins : List (Addr × Obj)} {σ : L2.St} {F0 : Hp} {R : Fm} {τ : L2.St} {env : Sl} {a c : Addr} {e1 : Nat} {ks : List D} {s' : Shared} {H F : Hp} {kvs : List V} {kA : Array Value} {e : Nat}
    {k : Nat} {f : Addr} {fd : FuncData} {ps : List Str} {m : List SV → Option FR} (Fo : FnOk X.prog X.w X.K X.mg X.base CX0 k f fd ps (spD X.K 1 m)) (hb : Binds X.K fd ps [])
    {A : Around} (hA : Room k A) (he : ∀ (s : Shared) (H : Hp), Env0 X.prog X.w X.K X.mg X.base X.A X.stack s H → Env0 X.prog X.w X.K X.mg X.base A X.stack s H)
    (ha : a ∉ frs X.stack) (hc : c ∉ frs X.stack) (J : KAt X pins σ F0 R τ env a c e1 ks s' H F kvs kA e) {v : V} {u : Value} {x y : D} (rv : RelV v u) (rx : Rel X.K F v x) (hm : m [.d x] = some (.ok (.d y) [.d x]))
    {Q : Value → Shared → Prop} {E : Value → Shared → Prop} (q : ∀ w s2 H2 F2 v2, KAt X pins σ F0 R τ env a c e1 ks s2 H2 F2 kvs kA e → RelV v2 w → Rel X.K F2 v2 y → Ex F F2 → Q w s2) :
    wpAny (model X.prog X.w) A (call (.ref f) [u]) Q E s' := by
  have sp : spD X.K 1 m [v] H (fun v2 H2 => ∃ F2, Ex F F2 ∧ Sta X.K F2 R τ H2 env ∧ Rel X.K F2 v2 y) fun _ _ _ => False := by
    have r1 : RelAll X.K F [v] [x] := .cons rx .nil
    exact ⟨F, calF R τ H env env.length 0, [.d x], .ok (.d y) [.d x], rfl, J.S.callD r1, hm, fun v2 F2 H2 e2 S2 r2 => ⟨F2, e2, J.S.retD e2 S2, r2⟩⟩
  have bd : BindsTo s' fd ⟨[u], []⟩ (ps.zip [u]) := by
    have := hb s' [u] J.I.kIn (by rw [List.append_nil]; exact Fo.len _ _ _ _ sp)
    rw [List.append_nil] at this
    exact this
  refine wpAny_call (codeAny_mono (Fo.run A X.stack s' H ⟨[u], []⟩ [u] [v] _ _ hA (he _ _ J.I.env0) bd (.cons rv .nil) sp) fun r s2 hq => ?_)
  cases r with
  | error e => exact hq.elim
  | ok fl =>
    cases fl with
    | ret w =>
      have hq : CE X.stack X.prog X.w H s' _ w s2 := hq
      obtain ⟨v2, H2, os, bare, un, hok, r2, F2, e2, S2, r3⟩ := id hq
      have I2 : Inv X pins σ H2 s2 := by
        obtain ⟨hh, g, d, t, os'⟩ := s2
        obtain rfl : os' = s'.os := os
        exact J.I.call (h' := hh) (g' := g) (d' := d) (t' := t) (ch := []) un hok bare (fun b z => absurd z (by simp))
      exact q w s2 H2 F2 v2 ⟨I2, J.ex.trans e2, S2, un.free _ _ J.oa J.na (by simp), un.free _ _ J.oc J.nc (by simp), un.keep _ _ J.oa J.na ha (by simp), un.keep _ _ J.oc J.nc hc (by simp), J.vs, J.rs.up e2⟩ r2 r3 e2
    | next => exact hq.elim
    | brk => exact hq.elim
    | cont => exact hq.elim
/-- a key is put down -/
theorem key_push {X : Cx} {pins : List (Addr × Obj)} {σ : L2.St} {F0 : Hp} {R : Fm} {τ : L2.St} {env : Sl} {a c : Addr} {e1 : Nat} {ks : List D} {s' : Shared} {H F : Hp} {kvs : List V} {kA : Array Value} {e : Nat}
    (J : KAt X pins σ F0 R τ env a c e1 ks s' H F kvs kA e) (hca : c ≠ a) (hc : (c ∈ X.ex ∨ X.s_0.heap.objs.size ≤ c) ∧ c ≠ X.env.locals ∧ (∀ x d, X.env.cells.lookup x = some d → d ≠ c) ∧ ∀ p ∈ X.pn ++ pins, p.1 ≠ c)
    {v : V} {w : Value} {y : D} (rv : RelV v w) (ry : Rel X.K F v y) : ∃ e', KAt X pins σ F0 R τ env a c e1 (ks ++ [y]) { s' with heap := s'.heap.update c (Obj.mapSeq (·.push w)) } H F (kvs ++ [v]) (kA.push w) e' := by
  have sb := Heap.SameBut.update s'.heap c (Obj.mapSeq (·.push w))
  have oth : ∀ b, b ≠ c → (s'.heap.update c (Obj.mapSeq (·.push w))).get? b = s'.heap.get? b := sb.2
  refine ⟨_, J.I.turned (t' := s'.toks) (fun b o hb q => (oth b hb).trans q) J.nc hc.2.1 hc.1 hc.2.2.1 hc.2.2.2, J.ex, J.S, J.na, J.nc, (oth a (Ne.symm hca)).trans J.oa, get?_update_seq J.oc (·.push w), ?_, ?_⟩
  · rw [Array.toList_push]
    exact J.vs.append (.cons rv .nil)
  · exact J.rs.app (.cons ry .nil)
/-- the heap without the object at c -/
def without (h : Heap) (c : Addr) : Heap := h.update c fun o => { o with data := .freed }
theorem without_at {h : Heap} {c : Addr} : (without h c).get? c = none := by
  cases q : (without h c).get? c with
  | none => rfl
  | some o =>
    obtain ⟨q1, q2⟩ := (Heap.get?_eq_some _ _ _).mp q
    unfold without at q1
    rw [Heap.objs_update_self] at q1
    obtain ⟨o2, _, rfl⟩ := Option.map_eq_some_iff.mp q1
    cases q2
theorem without_ne {h : Heap} {b c : Addr} (hb : b ≠ c) : (without h c).get? b = h.get? b := Heap.get?_update_ne _ _ _ _ hb
theorem reads_all {X : Cx} {pins : List (Addr × Obj)} {σ : L2.St} {H F : Hp} {s : Shared} (I : Inv X pins σ H s) (e : Ex F H) : ∀ {ys : List D} {kvs : List V} {us : List Value}, (∀ y ∈ ys, shp y = true) → RelAll X.K F kvs ys → Vals kvs us → PySem.W.EachIs (fun v d => ∃ as, Reads s.heap v d as) us (ys.map py)
  | [], _, _, _, r, v => by cases r; cases v; exact .nil
  | y :: ys, _, _, h, .cons r1 r2, .cons v1 v2 => .cons (Dp.reads I (py y) _ _ ((r1.up e).dp y (shp_pl (h y (List.mem_cons_self ..)))) v1) (reads_all I e (fun z hz => h z (List.mem_cons_of_mem _ hz)) r2 v2)
section
variable {X : Cx} {pins : List (Addr × Obj)} {σ : L2.St} {F0 : Hp} {R : Fm} {τ : L2.St} {env : Sl} {a c : Addr} {e1 : Nat}
theorem key_rest {k : Nat} {f : Addr} {fd : FuncData} {ps : List Str} {m : List SV → Option FR} (Fo : FnOk X.prog X.w X.K X.mg X.base CX0 k f fd ps (spD X.K 1 m)) (hb : Binds X.K fd ps [])
    {A : Around} (hA : Room k A) (he : ∀ (s : Shared) (H : Hp), Env0 X.prog X.w X.K X.mg X.base X.A X.stack s H → Env0 X.prog X.w X.K X.mg X.base A X.stack s H)
    (ha : a ∉ frs X.stack) (hcf : c ∉ frs X.stack) (hca : c ≠ a) (hc : (c ∈ X.ex ∨ X.s_0.heap.objs.size ≤ c) ∧ c ≠ X.env.locals ∧ (∀ x d, X.env.cells.lookup x = some d → d ≠ c) ∧ ∀ p ∈ X.pn ++ pins, p.1 ≠ c)
    {vs : List Value} {xs : List V} {ds ys : List D} (rv : Vals xs vs) (rx : RelAll X.K F0 xs ds) (hl : ys.length = ds.length) (hm : ∀ (j : Nat) d y, ds[j]? = some d → ys[j]? = some y → m [.d d] = some (.ok (.d y) [.d d]))
    (hZ : vs.length ≤ sizeLine) (hs : ∀ y ∈ ys, shp y = true) (hal : PySem.W.AllAlike (ys.map py)) (hsk : PySem.W.Sortable (ys.map py)) (hu : ∀ d ∈ ys.map py, A.units + d.depth < cLine)
    {s : Shared} {H : Hp} (J : KAt X pins σ F0 R τ env a c e1 [] s H F0 [] #[] 0) {P : PySem.Fin → Shared → Prop} {E : Value → Shared → Prop}
    (q : ∀ s2 H2 F2 kvs kA e h' tk out n, KAt X pins σ F0 R τ env a c e1 ys s2 H2 F2 kvs kA e → (∀ b o, b ≠ a → b ≠ c → s2.heap.get? b = some o → h'.get? b = some o) → h'.get? a = some (seqObj "list" (List.toArray out) n) → PySem.W.KeyedOut false (ys.map py) vs out →
      P (.done (.ret .none)) { s2 with heap := h', toks := tk }) :
    wpAny (model X.prog X.w) A (ksk_rest a (.ref f) false vs.toArray e1 (.ref c)) P E s := by
  have lv : vs.length = ys.length := by rw [← rv.length, rx.len, hl]
  unfold ksk_rest
  refine wpAny_bind (wpAny_rule ?_)
  rw [← Array.forIn_toList, List.toList_toArray]
  refine wpAny_bind (ksk_fold (fun j s2 => ∃ H2 F2 kvs kA e, KAt X pins σ F0 R τ env a c e1 (ys.take j) s2 H2 F2 kvs kA e) vs 0 s ⟨H, F0, [], #[], 0, J⟩ (fun j u s2 hu hJ => ?_) fun s2 hJ => ?_)
  · obtain ⟨H2, F2, kvs, kA, e, J2⟩ := hJ
    rw [Nat.zero_add] at J2
    have hj : j < vs.length := (List.getElem?_eq_some_iff.mp hu).1
    obtain ⟨y, hy⟩ : ∃ y, ys[j]? = some y := ⟨_, List.getElem?_eq_getElem (by omega)⟩
    obtain ⟨d, hd⟩ : ∃ d, ds[j]? = some d := ⟨_, List.getElem?_eq_getElem (by omega)⟩
    obtain ⟨v, hv, r1⟩ : ∃ v, RelV v u ∧ Rel X.K F0 v d := by
      obtain ⟨v, h1, h2⟩ := rx.getD hd
      obtain ⟨u2, h3, h4⟩ := rv.get h1
      rw [hu] at h3
      cases h3
      exact ⟨v, h4, h2⟩
    have hk : kA.size ≤ vs.length := by
      have g1 := J2.vs.length
      have g2 := J2.rs.len
      have g3 : kA.toList.length = kA.size := Array.length_toList
      have g4 : (ys.take j).length ≤ j := List.length_take_le ..
      omega
    refine wpAny_bind (wpAny_attempt (key_turn Fo hb hA he ha hcf J2 hv (r1.up J2.ex) (hm j d y hd hy) fun w s3 H3 F3 v3 J3 rv3 ry3 _ => ?_))
    obtain ⟨e', J4⟩ := key_push J3 hca hc rv3 ry3
    refine wpAny_bind (listUpdate_at J3.oc rfl ?_ (Nat.le_trans hk hZ) (Nat.le_trans (Nat.le_of_eq (Array.size_push ..)) (Nat.succ_le_succ (Nat.le_trans hk hZ))))
    refine wpAny_pure ⟨rfl, H3, F3, kvs ++ [v3], kA.push w, e', ?_⟩
    rw [Nat.zero_add, List.take_add_one, hy]
    exact J4
  · obtain ⟨H2, F2, kvs, kA, e, J2⟩ := hJ
    rw [Nat.zero_add, List.take_of_length_le (by omega)] at J2
    have rd := reads_all J2.I J2.S.sub hs J2.rs J2.vs
    have hsz : kA.size = vs.length := by
      have g1 := J2.vs.length
      have g2 := J2.rs.len
      have g3 : kA.toList.length = kA.size := Array.length_toList
      omega
    refine wpAny_bind (listItems_at J2.oc rfl ?_)
    refine PySem.W.keyH_end (κ := PySem.W.dataKind s2.heap (ys.map py)) (h₁ := without s2.heap c) (fun b o hb h => ?_) without_at J2.oc J2.oa hca (PySem.W.SortsAt.data rd hal hsk hu) hsz hZ fun h3 tk3 n k3 n3 => ?_
    · have hbc : b ≠ c := fun z => by rw [z, without_at] at h; cases h
      rw [without_ne hbc] at h
      exact h
    · exact q s2 H2 F2 kvs kA e h3 tk3 _ n J2 (fun b o hb1 hb2 h => k3 b o hb1 (by rw [without_ne hb2]; exact h)) n3 ⟨s2.heap, kA.toList, hal, rfl, rd⟩
/-- the things, sorted by their keys -/
def srtD (ds ys : List D) : List D := ((ds.zip ys).mergeSort (PySem.W.dataLe false fun p : D × D => py p.2)).map (·.1)
theorem zip_keys : ∀ {ds ys : List D}, ys.length = ds.length → ((ds.zip ys).map fun p : D × D => py p.2) = ys.map py
  | [], [], _ => rfl
  | d :: ds, y :: ys, h => by
    rw [List.zip_cons_cons, List.map_cons, List.map_cons, zip_keys (by simpa using h)]
  | [], _ :: _, h => by cases h
  | _ :: _, [], h => by cases h
theorem each_zip {K : PySem.W.Frag} {F : Hp} : ∀ {xs : List V} {us : List Value} {ds ys : List D}, Vals xs us → RelAll K F xs ds → ys.length = ds.length → PySem.W.EachIs (fun (u : Value) (p : D × D) => ∃ v, RelV v u ∧ Rel K F v p.1) us (ds.zip ys)
  | _, _, _, [], v, r, h => by
    have : _ = [] := List.length_eq_zero_iff.mp h.symm
    subst this
    cases r
    cases v
    exact .nil
  | _, _, _, y :: ys, v, r, h => by
    cases r with
    | nil => cases h
    | cons r1 r2 =>
      cases v with
      | cons v1 v2 => exact .cons ⟨_, v1, r1⟩ (each_zip v2 r2 (by simpa using h))
theorem each_out {K : PySem.W.Frag} {F : Hp} : ∀ {us : List Value} {bs : List (D × D)}, PySem.W.EachIs (fun (u : Value) (p : D × D) => ∃ v, RelV v u ∧ Rel K F v p.1) us bs → ∃ xs, Vals xs us ∧ RelAll K F xs (bs.map (·.1))
  | _, _, .nil => ⟨[], .nil, .nil⟩
  | _, _, .cons ⟨v, h1, h2⟩ t => by
    obtain ⟨xs, h3, h4⟩ := each_out t
    exact ⟨v :: xs, .cons h1 h3, .cons h2 h4⟩
/-- the sorted list stands at a: what is tracked -/
theorem key_end {ys : List D} {s2 : Shared} {H2 F2 : Hp} {kvs : List V} {kA : Array Value} {e : Nat} {h' : Heap} {tk : Nat} {out : List Value} {n : Nat} (J : KAt X pins σ F0 R τ env a c e1 ys s2 H2 F2 kvs kA e)
    (ch : ∀ b ∈ [a, c], (b ∈ X.ex ∨ X.s_0.heap.objs.size ≤ b) ∧ b ≠ X.env.locals ∧ (∀ x d, X.env.cells.lookup x = some d → d ≠ b) ∧ ∀ p ∈ X.pn ++ pins, p.1 ≠ b)
    (keep : ∀ b o, b ≠ a → b ≠ c → s2.heap.get? b = some o → h'.get? b = some o) (oa : h'.get? a = some (seqObj "list" (List.toArray out) n)) {ws : List V} (rv : Vals ws out) (hz : ws.length ≤ sizeLine) :
    Inv X pins σ (upd H2 a (.lst ws)) { s2 with heap := h', toks := tk } := by
  have ne : ∀ {b : Addr} {u : HO}, H2 b = some u → b ≠ a ∧ b ≠ c := fun q => ⟨(fun z => by rw [z, J.na] at q; cases q), (fun z => by rw [z, J.nc] at q; cases q)⟩
  have nx : ∀ {b : Addr}, b ∉ [a, c] → b ≠ a ∧ b ≠ c := fun h => ⟨(fun z => h (by simp [z])), (fun z => h (by simp [z]))⟩
  refine J.I.call (h' := h') (g' := s2.gens) (d' := s2.drawn) (t' := tk) (ch := [a, c]) ⟨fun b o q _ _ hx => keep b o (nx hx).1 (nx hx).2 q, fun b o q _ _ hx => ⟨o.slots, keep b o (nx hx).1 (nx hx).2 q⟩, fun b o _ q hx => by rw [upd_ne (nx hx).1]; exact q, fun b o q hx => ⟨o, keep b o (nx hx).1 (nx hx).2 q⟩,
    fun b xs q => by rw [upd_ne (ne q).1]; exact q, fun b o u q => by rw [upd_ne (ne q).1]; exact q, fun b ps q => ⟨#[], by rw [upd_ne (ne q).1, q]; simp⟩⟩ (fun b u q => ?_) J.I.bare ch
  by_cases hb : b = a
  · subst hb
    rw [upd_same] at q
    cases q
    exact ⟨hz, out, n, rv, oa⟩
  · rw [upd_ne hb] at q
    refine (J.I.hok b u q).stay (fun d v hd r => ?_) (fun d r => by rw [upd_ne (ne r).1]; exact r) fun d xs r => by rw [upd_ne (ne r).1]; exact r
    have hd2 : d ≠ a ∧ d ≠ c := by
      rcases hd with z | z
      · rw [z]; exact ne q
      · exact ne z
    exact keep d v hd2.1 hd2.2 r
theorem sorted_key_run {k : Nat} {f : Addr} {fd : FuncData} {ps : List Str} {m : List SV → Option FR} (Fo : FnOk X.prog X.w X.K X.mg X.base CX0 k f fd ps (spD X.K 1 m)) (hb : Binds X.K fd ps []) (hr : Room (k + 2) X.A)
    {s : Shared} {H F : Hp} (I : Inv X pins σ H s) (S : Sta X.K F R τ H env) {l : Addr} {xs : List V} {ds ys : List D} (hs : SqL X.K H l xs) (rx : RelAll X.K F xs ds) (hl : ys.length = ds.length)
    (hm : ∀ (j : Nat) d y, ds[j]? = some d → ys[j]? = some y → m [.d d] = some (.ok (.d y) [.d d])) (hsh : ∀ y ∈ ys, shp y = true) (hal : PySem.W.AllAlike (ys.map py)) (hsk : PySem.W.Sortable (ys.map py))
    {Q : VK} (q : ∀ H2 F2 p ws, Ex F F2 → Sta X.K F2 R τ H2 env → H2 p = none → RelAll X.K F2 ws (srtD ds ys) → Q (.ref p) (upd H2 p (.lst ws))) :
    wpAny (model X.prog X.w) X.A (call (.builtin "sorted") [.ref l] [(Str.ofString "key", .ref f)]) (EP X pins σ Q) X.xe s := by
  obtain ⟨its, rv, hli, hz⟩ := I.list hs
  have hlen : its.length ≤ sizeLine := by rw [← rv.length]; exact hz
  refine PySem.W.sorted_of_sort hli.isList hlen (ksk_s1 _ _) (fun _ => ksk_l1 _ _) fun E' => ?_
  rw [ksk_t1]
  have ho := PySem.W.copyHeap_at s.heap its
  obtain ⟨e1, ho1⟩ : ∃ e1, ((PySem.W.copyHeap s.heap its).update (s.heap.objs.size + 1) (Obj.mapSeq fun _ => (#[] : Array Value))).get? (s.heap.objs.size + 1) = some (seqObj "list" #[] e1) := ⟨_, get?_update_seq ho fun _ => #[]⟩
  have hsz : (PySem.W.copyHeap s.heap its).objs.size = s.heap.objs.size + 2 := by
    unfold PySem.W.copyHeap
    rw [size_push', Heap.size_update, size_push']
  unfold ksk_tree
  refine wpAny_bind (listItems_at ho rfl ?_)
  refine wpAny_bind (listUpdate_at ho rfl ?_ (by rw [List.size_toArray]; exact hlen) (Nat.zero_le _))
  refine wpAny_bind (seqEpoch_at ho1 rfl ?_)
  refine wpAny_bind (wpAny_newTuple ?_ hlen)
  refine wpAny_bind (wpAny_newList ?_ (Nat.zero_le _))
  refine wpAny_holding ?_
  have kp : ∀ b u, s.heap.get? b = some u → ((((PySem.W.copyHeap s.heap its).update (s.heap.objs.size + 1) (Obj.mapSeq fun _ => (#[] : Array Value))).push (seqObj "tuple" its.toArray 0)).push (seqObj "list" #[] 0)).get? b = some u := fun b u e => by
    have hlt : b < s.heap.objs.size := Heap.lt_size e
    refine Heap.get?_push_of_some _ (Heap.get?_push_of_some _ ?_)
    rw [Heap.get?_update_ne _ _ _ _ (Nat.ne_of_lt (Nat.lt_succ_of_lt hlt))]
    exact PySem.W.copyHeap_old e
  have hc3 : (((PySem.W.copyHeap s.heap its).update (s.heap.objs.size + 1) (Obj.mapSeq fun _ => (#[] : Array Value))).push (seqObj "tuple" its.toArray 0)).objs.size = s.heap.objs.size + 3 := by
    rw [size_push', Heap.size_update, hsz]
  have la : s.heap.objs.size ≤ s.heap.objs.size + 1 := Nat.le_succ _
  have lc : s.heap.objs.size ≤ (((PySem.W.copyHeap s.heap its).update (s.heap.objs.size + 1) (Obj.mapSeq fun _ => (#[] : Array Value))).push (seqObj "tuple" its.toArray 0)).objs.size := by rw [hc3]; exact Nat.le_add_right _ 3
  have J0 : KAt X pins σ F R τ env (s.heap.objs.size + 1) (((PySem.W.copyHeap s.heap its).update (s.heap.objs.size + 1) (Obj.mapSeq fun _ => (#[] : Array Value))).push (seqObj "tuple" its.toArray 0)).objs.size e1 []
      { s with heap := (((PySem.W.copyHeap s.heap its).update (s.heap.objs.size + 1) (Obj.mapSeq fun _ => (#[] : Array Value))).push (seqObj "tuple" its.toArray 0)).push (seqObj "list" #[] 0) } H F [] #[] 0 :=
    ⟨I.kept (t' := s.toks) kp, Ex.refl F, S, I.hok.fresh la, I.hok.fresh lc, Heap.get?_push_of_some _ (Heap.get?_push_of_some _ ho1), Heap.get?_push_size _ rfl, .nil, .nil⟩
  have hu : ∀ d ∈ ys.map py, X.A.in1.in1.units + d.depth < cLine := fun d hd => by
    obtain ⟨y, hy, rfl⟩ := List.mem_map.mp hd
    have h1 := hsh y hy
    unfold shp SeqAt.shaped at h1
    rw [Bool.and_eq_true, decide_eq_true_eq] at h1
    have h2 := hr.un
    show X.A.units + 1 + 1 + _ < cLine
    omega
  refine key_rest Fo hb hr.in1.in1 (fun _ _ e => e.in1.in1) (fresh_fr I la) (fresh_fr I lc) (by rw [hc3]; exact Nat.ne_of_gt (Nat.add_lt_add_left (by decide) _)) (fresh_ch I lc) rv rx hl hm hlen hsh hal hsk hu J0 fun s2 H2 F2 kvs kA e h' tk out n J keep oa ko => ⟨rfl, ?_⟩
  have ec := PySem.W.keyedOut_each (fun p : D × D => py p.2) (bs := ds.zip ys) (by rw [zip_keys hl]; exact ko) (each_zip rv rx hl)
  obtain ⟨ws, w1, w2⟩ := each_out ec
  have lo : out.length = its.length := ko.length (by rw [List.length_map, hl, ← rx.len, rv.length])
  refine ⟨.ref (s.heap.objs.size + 1), _, key_end J (fun b hb => ?_) keep oa w1 (by rw [w1.length, lo]; exact hlen), rfl, q H2 F2 _ ws J.ex J.S J.na (w2.up J.ex)⟩
  simp only [List.mem_cons, List.not_mem_nil, or_false] at hb
  rcases hb with rfl | rfl
  · exact fresh_ch I la
  · exact fresh_ch I lc
end
end
end Dw
namespace Dw
noncomputable section
open PySem PySem.Spec PyProof.Rows L2
variable [Glo] [Tabs]
/-! ### sorted(xs, key=f) -/
/-- ys are the keys of ds -/
def Keys (m : List SV → Option FR) (ds ys : List D) : Prop := ys.length = ds.length ∧ ∀ (j : Nat) d y, ds[j]? = some d → ys[j]? = some y → m [.d d] = some (.ok (.d y) [.d d])
def okKeys (ys : List D) : Prop := (∀ y ∈ ys, shp y = true) ∧ PySem.W.AllAlike (ys.map py) ∧ PySem.W.Sortable (ys.map py)
theorem Keys.uniq {m : List SV → Option FR} {ds ys zs : List D} (h : Keys m ds ys) (h' : Keys m ds zs) : ys = zs := by
  refine List.ext_getElem (h.1.trans h'.1.symm) fun j h1 h2 => ?_
  have h3 : j < ds.length := by rw [← h.1]; exact h1
  have a := h.2 j _ _ (List.getElem?_eq_getElem h3) (List.getElem?_eq_getElem h1)
  have b := h'.2 j _ _ (List.getElem?_eq_getElem h3) (List.getElem?_eq_getElem h2)
  rw [a] at b
  simpa using b
def sortK (m : List SV → Option FR) : List D → Option RV
  | [.lst ds] => @dite _ (∃ ys, Keys m ds ys ∧ okKeys ys) (Classical.propDecidable _) (fun h => some (.own (.lst (srtD ds h.choose)))) fun _ => none
  | _ => none
theorem sortK_eq {m : List SV → Option FR} {ds ys : List D} (h : Keys m ds ys) (o : okKeys ys) : sortK m [.lst ds] = some (.own (.lst (srtD ds ys))) := by
  have ex : ∃ ys, Keys m ds ys ∧ okKeys ys := ⟨ys, h, o⟩
  show @dite _ _ (Classical.propDecidable _) _ _ = _
  rw [dif_pos ex, ex.choose_spec.1.uniq h]
theorem sortK_inv {m : List SV → Option FR} {ds : List D} {z : RV} (h : sortK m [.lst ds] = some z) : ∃ ys, Keys m ds ys ∧ okKeys ys ∧ z = .own (.lst (srtD ds ys)) := by
  by_cases ex : ∃ ys, Keys m ds ys ∧ okKeys ys
  · obtain ⟨ys, h1, h2⟩ := ex
    rw [sortK_eq h1 h2] at h
    cases h
    exact ⟨ys, h1, h2, rfl⟩
  · have h : @dite _ (∃ ys, Keys m ds ys ∧ okKeys ys) (Classical.propDecidable _) (fun h => some (RV.own (.lst (srtD ds h.choose)))) (fun _ => none) = some z := h
    rw [dif_neg ex] at h
    cases h
def rKey (X : Cx) (f : Addr) (m : List SV → Option FR) : List V → List V → Hp → VK → Prop := fun vs zs H Q => zs = [.ref f] ∧ ∃ (l : Addr) (xs : List V) (ds ys : List D) (F : Hp) (R : Fm) (τ : L2.St) (env : Sl), vs = [.ref l] ∧ Sta X.K F R τ H env ∧ SqL X.K H l xs ∧ RelAll X.K F xs ds ∧ Keys m ds ys ∧ okKeys ys ∧
  ∀ H2 F2 p ws, Ex F F2 → Sta X.K F2 R τ H2 env → H2 p = none → RelAll X.K F2 ws (srtD ds ys) → Q (.ref p) (upd H2 p (.lst ws))
theorem snd_sortK {X : Cx} {f : Addr} {m : List SV → Option FR} : SndC X.K (sortK m) (fun vs H Q => rKey X f m vs [.ref f] H Q) := by
  intro W F R σ H env Q xs vs z S h e p
  match xs, h, e with
  | [.lst ds], h, e =>
    obtain ⟨ys, h1, h2, rfl⟩ := sortK_inv e
    obtain ⟨v, rfl, l, ws, rfl, hs, hr⟩ := vw1 h
    exact ⟨rfl, l, ws, ds, ys, F, R, σ, env, rfl, S, hs, hr, h1, h2, fun H2 F2 q us e2 S2 hq hu => post_new S2 (p.up e2) hq hu⟩
theorem cr_sortK {X : Cx} {k : Nat} {f : Addr} {fd : FuncData} {ps : List Str} {m : List SV → Option FR} (Fo : FnOk X.prog X.w X.K X.mg X.base CX0 k f fd ps (spD X.K 1 m)) (hb : L2.Binds X.K fd ps []) (hr : Room (k + 2) X.A) :
    L2.CallRK X (.builtin "sorted") [Str.ofString "key"] (rKey X f m) := by
  intro pins s σ H vs zs us ws Q I rv rz h
  obtain ⟨rfl, l, xs, ds, ys, F, R, τ, env, rfl, S, hs, rx, hk, ⟨o1, o2, o3⟩, q⟩ := h
  obtain rfl := Vals.ref1 rv
  obtain rfl := Vals.ref1 rz
  exact sorted_key_run Fo hb hr I S hs rx hk.1 hk.2 o1 o2 o3 q
theorem pd_sortK {X : Cx} {W : WX} {k l : Nat} {x : Str} {m : List SV → Option FR} {fa : SA} {p p2 kp pos : Pos} {e : Expr} (C : Def X.prog X.w X.K X.mg X.base k x 1 m []) (hr : Room l X.A) (hj : k + 2 ≤ l) (hm : X.mg "sorted" = none) (ha : PA X [e] (dA X.K W fa))
    (hg : Gl X "sorted" := by rfl) (hgx : Gl X x := by rfl) (hdx : (x == ("__debug__" : Str)) = false := by decide)
    (he : backTo pos (starEach [e] X.env) = (false, eval e X.env) :: backTo pos (starEach [] X.env) := by rfl) (hpl : (backTo pos (starEach [e] X.env)).any (·.1) = false := by rfl)
    (hall : (backToKw pos (keywordEach [⟨some (Str.ofString "key"), .Name x p2, kp⟩] X.env)).all (·.1.isSome) = true := by rfl) (hnone : (backToKw pos (keywordEach [⟨some (Str.ofString "key"), .Name x p2, kp⟩] X.env)).any (·.1.isNone) = false := by rfl)
    (hks : (backToKw pos (keywordEach [⟨some (Str.ofString "key"), .Name x p2, kp⟩] X.env)).filterMap (·.1) = [Str.ofString "key"] := by rfl) :
    PE X (.Call (.Name "sorted" p) [e] [⟨some (Str.ofString "key"), .Name x p2, kp⟩] pos) (dE X.K W (callE (sortK m) fa)) := by
  obtain ⟨f, fd, ps, d0, dvs, Fo, hmx, hkp, hb, hd, hD, hn⟩ := C.ex
  have hD := hD (fun _ => none)
  cases hD
  cases hd
  exact (pe_callBK (cr_sortK Fo hb (hr.mono hj)) hg hm rfl ha (pk_cons (pe_glob (v := V.ref f) hgx hmx rfl hdx) pk_nil) (by decide) (by decide) he hpl hall hnone hks).wk fun _ _ _ q => dE_callB snd_sortK q
end
end Dw
namespace Dw
noncomputable section
open PySem PySem.Spec PyProof.Rows L2
variable [Glo] [Tabs]

/-! ### dicts whose keys are texts and ints -/
def keyB : D → D → Bool
  | .int i, .int j => i == j
  | .str x, .str y => x == y
  | _, _ => false
def isK : D → Bool
  | .int _ => true
  | .str _ => true
  | _ => false
def keyOf : D → Option Key
  | .int i => some (.inl i)
  | .str x => some (.inr (mk x))
  | _ => none
theorem kD_of {d : D} {k : Key} (h : keyOf d = some k) : kD k = d := by
  cases d <;> cases h <;> rfl
theorem key_of' {d : D} (h : isK d = true) : ∃ k, keyOf d = some k := by
  cases d <;> first | (cases h; done) | exact ⟨_, rfl⟩
theorem keyB_dec (a b : Key) : keyB (kD a) (kD b) = decide (a = b) := by
  by_cases h : a = b
  · subst h
    rw [decide_eq_true rfl]
    cases a <;> simp [kD, keyB]
  · rw [decide_eq_false h]
    cases hk : keyB (kD a) (kD b) with
    | false => rfl
    | true =>
      refine absurd (kD_inj ?_) h
      cases a <;> cases b <;> simp [kD, keyB] at hk ⊢ <;> exact hk
theorem kV_rel {K : PySem.W.Frag} {F : Hp} {d : D} {k : Key} {y : V} (h : Rel K F y d) (e : keyOf d = some k) : y = kV k := by
  cases d <;> cases e <;> cases h <;> rfl
/-- what stands at the key -/
def atD : List D → List D → D → Option D
  | k :: ks, v :: vs, x => if keyB k x = true then some v else atD ks vs x
  | _, _, _ => none
def setD : List D → List D → D → D → List D
  | k :: ks, v :: vs, x, y => (if keyB k x = true then y else v) :: setD ks vs x y
  | _, _, _, _ => []
def hasD (ks : List D) (x : D) : Bool := ks.any fun k => keyB k x
def putDk (ks : List D) (x : D) : List D := if hasD ks x = true then ks else ks ++ [x]
def putDv (ks vs : List D) (x y : D) : List D := if hasD ks x = true then setD ks vs x y else vs ++ [y]
section
variable {K : PySem.W.Frag} {F : Hp}
theorem at_val (k : Key) : ∀ (kvs : List (Key × V)) (vs : List D), RelAll K F (kvs.map (·.2)) vs →
    (atD (kvs.map fun e => kD e.1) vs (kD k) = none ∧ valV kvs k = none) ∨ ∃ d v, atD (kvs.map fun e => kD e.1) vs (kD k) = some d ∧ valV kvs k = some v ∧ Rel K F v d
  | [], vs, h => by cases h; exact .inl ⟨rfl, rfl⟩
  | p :: r, vs, h => by
    cases h with
    | @cons _ _ d ds a b =>
      by_cases e : p.1 = k
      · refine .inr ⟨d, p.2, ?_, valV_pos e, a⟩
        show (if keyB (kD p.1) (kD k) = true then some d else _) = _
        rw [keyB_dec, decide_eq_true e, if_pos rfl]
      · have h1 : atD ((p :: r).map fun e => kD e.1) (d :: ds) (kD k) = atD (r.map fun e => kD e.1) ds (kD k) := by
          show (if keyB (kD p.1) (kD k) = true then some d else _) = _
          rw [keyB_dec, decide_eq_false e, if_neg (by simp)]
        rw [h1, valV_neg e]
        exact at_val k r ds b
theorem has_any (k : Key) (kvs : List (Key × V)) : hasD (kvs.map fun e => kD e.1) (kD k) = kvs.any fun kv => decide (kv.1 = k) := by
  unfold hasD
  rw [List.any_map]
  congr 1
  funext e
  exact keyB_dec e.1 k
theorem set_val (k : Key) {y : V} {d : D} (hy : Rel K F y d) : ∀ (kvs : List (Key × V)) (vs : List D), RelAll K F (kvs.map (·.2)) vs →
    RelAll K F ((kvs.map fun kv => if kv.1 = k then (kv.1, y) else kv).map (·.2)) (setD (kvs.map fun e => kD e.1) vs (kD k) d)
  | [], vs, h => by cases h; exact .nil
  | p :: r, vs, h => by
    cases h with
    | @cons _ _ d0 ds a b =>
      show RelAll K F ((if p.1 = k then (p.1, y) else p).2 :: _) ((if keyB (kD p.1) (kD k) = true then d else d0) :: _)
      rw [keyB_dec]
      refine .cons ?_ (set_val k hy r ds b)
      by_cases e : p.1 = k
      · rw [if_pos e, decide_eq_true e, if_pos rfl]; exact hy
      · rw [if_neg e, decide_eq_false e, if_neg (by simp)]; exact a
theorem put_rel (k : Key) {y : V} {d : D} (hy : Rel K F y d) (kvs : List (Key × V)) (vs : List D) (h : RelAll K F (kvs.map (·.2)) vs) :
    ((putK kvs k y).map fun e => kD e.1) = putDk (kvs.map fun e => kD e.1) (kD k) ∧ RelAll K F ((putK kvs k y).map (·.2)) (putDv (kvs.map fun e => kD e.1) vs (kD k) d) := by
  unfold putK putDk putDv
  rw [has_any]
  by_cases c : (kvs.any fun kv => decide (kv.1 = k)) = true
  · simp only [if_pos c]
    refine ⟨?_, set_val k hy kvs vs h⟩
    rw [List.map_map]
    congr 1
    funext e
    show kD (if e.1 = k then (e.1, y) else e).1 = kD e.1
    by_cases e' : e.1 = k
    · rw [if_pos e']
    · rw [if_neg e']
  · simp only [if_neg c]
    refine ⟨by rw [List.map_append]; rfl, ?_⟩
    rw [List.map_append]
    exact h.app (.cons hy .nil)
end
/-! d[k], k in d -/
def getK : D → D → Option RV
  | .dct ks vs, k => if isK k = true then (atD ks vs k).map .d else none
  | _, _ => none
def inK : D → D → Option RV
  | k, .dct ks vs => if isK k = true then some (.d (.bl (atD ks vs k).isSome)) else none
  | _, _ => none
def notInK : D → D → Option RV
  | k, .dct ks vs => if isK k = true then some (.d (.bl (!(atD ks vs k).isSome))) else none
  | _, _ => none
def rGetK : R2 := fun x y H Q => ∃ a v, x = .ref a ∧ DGet H a y (some v) ∧ Q v H
def rInK (g : Bool → Bool) : R2 := fun y x H Q => ∃ a o, x = .ref a ∧ DGet H a y o ∧ Q (.bl (g o.isSome)) H
theorem snd_getK {K : PySem.W.Frag} : Snd2 K getK rGetK := by
  intro W F R σ H env Q x y v w z S hx hy e p
  cases x with
  | dct ks vs =>
    obtain ⟨a, kvs, rfl, hs, rfl, r⟩ := hx
    have e : (if isK y = true then (atD (kvs.map fun e => kD e.1) vs y).map RV.d else none) = some z := e
    by_cases hk : isK y = true
    · rw [if_pos hk, Option.map_eq_some_iff] at e
      obtain ⟨d, h1, rfl⟩ := e
      obtain ⟨k, hk'⟩ := key_of' hk
      obtain rfl := kD_of hk'
      have : w = kV k := by
        cases k <;> (cases hy; rfl)
      subst this
      rcases at_val k kvs vs r with ⟨h2, _⟩ | ⟨d', u, h2, h3, ru⟩
      · rw [h2] at h1; cases h1
      · rw [h2] at h1
        cases h1
        exact ⟨a, u, rfl, by rw [← h3]; exact DGet.k hs, post_d S p ru⟩
    · rw [if_neg hk] at e; cases e
  | _ => cases e
theorem snd_inK {K : PySem.W.Frag} {g : Bool → Bool} {f : D → D → Option RV} (hf : ∀ k ks vs, f k (.dct ks vs) = if isK k = true then some (.d (.bl (g (atD ks vs k).isSome))) else none) (hn : ∀ k x z, f k x = some z → ∃ ks vs, x = .dct ks vs) : Snd2 K f (rInK g) := by
  intro W F R σ H env Q y x w v z S hy hx e p
  obtain ⟨ks, vs, rfl⟩ := hn _ _ _ e
  rw [hf] at e
  obtain ⟨a, kvs, rfl, hs, rfl, r⟩ := hx
  by_cases hk : isK y = true
  · rw [if_pos hk] at e
    cases e
    obtain ⟨k, hk'⟩ := key_of' hk
    obtain rfl := kD_of hk'
    have : w = kV k := by
      cases k <;> (cases hy; rfl)
    subst this
    refine ⟨a, valV kvs k, rfl, DGet.k hs, ?_⟩
    have : (atD (kvs.map fun e => kD e.1) vs (kD k)).isSome = (valV kvs k).isSome := by
      rcases at_val k kvs vs r with ⟨h2, h3⟩ | ⟨d', u, h2, h3, ru⟩ <;> rw [h2, h3] <;> rfl
    rw [this] at p
    exact post_d S p (.bl _)
  · rw [if_neg hk] at e; cases e
section
variable {X : Cx} {W : WX} {a b : Expr} {fa fb : SE} {pos : Pos}
theorem pd_getK {k : Nat} (hr : Room k X.A) (ha : PE X a (dE X.K W fa)) (hb : PE X b (dE X.K W fb)) (hs : NoSl b := by exact fun _ _ => rfl) : PE X (.Subscript a b pos) (dE X.K W (two (op2 getK) fa fb)) :=
  (pe_dget (by have := hr.units; omega) ha hb hs).wk fun σ H Q q => dE_two q fun _ _ _ _ _ _ _ _ S h1 h2 h => op2_snd snd_getK S h1 h2 h
theorem pd_inK {k : Nat} (hr : Room k X.A) (ha : PE X a (dE X.K W fa)) (hb : PE X b (dE X.K W fb)) (hm : behindInMarks .In b = false := by rfl) : PE X (.Compare a [.In] [b] pos) (dE X.K W (two (op2 inK) fa fb)) :=
  (pe_cmp (pc_din (by have := hr.units; omega) ha hb) hm).wk fun σ H Q q => dE_two q fun _ _ _ _ _ _ _ _ S h1 h2 h => op2_snd (snd_inK (g := fun b => b) (fun _ _ _ => rfl) fun k x z h => by cases x <;> first | (cases h; done) | exact ⟨_, _, rfl⟩) S h1 h2 h
theorem pd_notInK {k : Nat} (hr : Room k X.A) (ha : PE X a (dE X.K W fa)) (hb : PE X b (dE X.K W fb)) (hm : behindInMarks .NotIn b = false := by rfl) : PE X (.Compare a [.NotIn] [b] pos) (dE X.K W (two (op2 notInK) fa fb)) :=
  (pe_cmp (pc_dnotin (by have := hr.units; omega) ha hb) hm).wk fun σ H Q q => dE_two q fun _ _ _ _ _ _ _ _ S h1 h2 h => op2_snd (snd_inK (g := fun b => !b) (fun _ _ _ => rfl) fun k x z h => by cases x <;> first | (cases h; done) | exact ⟨_, _, rfl⟩) S h1 h2 h
end
/-! d[k] = e -/
def ownK : Option SV → Option (Bool × List D × List D)
  | some (.own b (.dct ks vs)) => some (b, ks, vs)
  | _ => none
theorem ownK_some {s : Option SV} {b : Bool} {ks vs : List D} (h : ownK s = some (b, ks, vs)) : s = some (.own b (.dct ks vs)) := by
  match s, h with
  | some (.own b' (.dct _ _)), h => cases h; rfl
def setK (j : Nat) (fi fe : SE) : SS := fun env => bindS (fe env) fun a env1 => (frz a env1).bind fun p => (ownK p.2[j]?).bind fun _ => bindS (fi p.2) fun b env2 => (pk b env2).bind fun k => (ownK env2[j]?).bind fun o =>
  if isK k = true ∧ o.2.1.length ≤ 1000 then some (.nx (env2.set j (.own o.1 (.dct (putDk o.2.1 k) (putDv o.2.1 o.2.2 k p.1))))) else none
section
variable {K : PySem.W.Frag} {W : WX} {F F' : Hp} {R R' : Fm} {σ : L2.St} {H H' : Hp} {env env' : Sl} {En : Ends} {Q : VK}
theorem dS_setK {j : Nat} {fi fe : SE} (h : dS K W (setK j fi fe) En σ H) : sDPut (dE K W (varE j)) (dE K W fi) (dE K W fe) En σ H := by
  obtain ⟨env, F, R, r, S, e, p⟩ := h
  rcases bindS_inv e with ⟨a, env1, h1, h2⟩ | ⟨x, env1, h1, rfl⟩
  · rw [Option.bind_eq_some_iff] at h2
    obtain ⟨⟨x, env2⟩, h3, h4⟩ := h2
    rw [Option.bind_eq_some_iff] at h4
    obtain ⟨⟨b0, y0, y1⟩, h5, h6⟩ := h4
    refine ⟨env, F, R, _, S, h1, fun v F1 H1 e1 S1 rv => ?_⟩
    obtain ⟨F2, e2, S2, rx⟩ := frz_ok S1 rv h3
    have h5 := ownK_some h5
    have hv : varE j env2 = some (.ok (.cv j) env2) := ev_varO h5
    refine ⟨env2, F2, R, _, S2, hv, fun o F3 H3 e3 S3 ro => ?_⟩
    have ro : σ[j]? = some (some o) := ro
    rcases bindS_inv h6 with ⟨b, env3, h7, h8⟩ | ⟨x', env3, h7, rfl⟩
    · refine ⟨env2, F3, R, _, S3, h7, fun w F4 H4 e4 S4 rw' => ?_⟩
      rw [Option.bind_eq_some_iff] at h8
      obtain ⟨kd, hb, h8⟩ := h8
      rw [Option.bind_eq_some_iff] at h8
      obtain ⟨⟨b1, ks, vs⟩, h9, h8⟩ := h8
      have h8 : (if isK kd = true ∧ ks.length ≤ 1000 then some (Out.nx (env3.set j (.own b1 (.dct (putDk ks kd) (putDv ks vs kd x))))) else none) = some r := h8
      obtain ⟨⟨c1, c2⟩, rfl⟩ := some_if h8
      have h9 := ownK_some h9
      obtain ⟨k, hk⟩ := key_of' c1
      obtain rfl := kD_of hk
      have vw := pk_vw S4 rw' hb
      have : w = kV k := by
        cases k <;> (cases vw; rfl)
      subst this
      obtain ⟨q, u, z1, _, _, z4, kvs, rfl, rfl, z5⟩ := S4.own j _ _ h9
      rw [ro] at z1
      cases z1
      obtain ⟨g1, g2⟩ := put_rel k (rx.up (e3.trans e4)) kvs vs z5
      rw [List.length_map] at c2
      refine ⟨q, upd H4 q (.dK (putK kvs k v)), rfl, DPut.k z4 (Nat.lt_of_le_of_lt c2 (by decide)), ?_⟩
      rw [← g1] at p
      exact p σ F4 _ (((e1.trans e2).trans e3).trans e4) (S4.mut h9 ro ⟨_, rfl, rfl, g2⟩)
    · exact ⟨env2, F3, R, _, S3, h7, fun cls d F4 H4 e4 S4 hx => p cls d σ F4 H4 (((e1.trans e2).trans e3).trans e4) S4 hx⟩
  · exact ⟨env, F, R, _, S, h1, fun cls d F1 H1 e1 S1 hx => p cls d σ F1 H1 e1 S1 hx⟩
/-- a new dict -/
theorem post_newK {kvs : List (Key × V)} {ks vs : List D} {p : Addr} (S : Sta K F R σ H env) (q : PostE K W F R σ (.ok (.own (.dct ks vs)) env) Q) (hp : H p = none) (hk : (kvs.map fun e => kD e.1) = ks) (h : RelAll K F (kvs.map (·.2)) vs) : Q (.ref p) (upd H p (.dK kvs)) :=
  q _ F _ (Ex.refl F) (S.freshH hp) ⟨p, _, rfl, S.freeF hp, S.freeR hp, upd_same, ⟨kvs, rfl, hk, h⟩, fun i b c' e z => by
    obtain ⟨p', o, e1, _, _, e4, _⟩ := S.own i b c' e
    rw [z] at e1
    cases e1
    rw [hp] at e4
    cases e4⟩
end
def newK : SE := fun env => some (.ok (.own (.dct [] [])) env)
def dictK : List D → Option RV
  | [.dct ks vs] => some (.own (.dct ks vs))
  | _ => none
def rDictK : List V → Hp → VK → Prop := fun xs H Q => ∃ a kvs, xs = [.ref a] ∧ H a = some (.dK kvs) ∧ ∀ p, H p = none → Q (.ref p) (upd H p (.dK kvs))
theorem cr_dictK {X : Cx} : CallR X (.type "dict") rDictK := by
  intro pins s σ H xs us Q I r q
  obtain ⟨a, kvs, rfl, hs, q⟩ := q
  obtain ⟨u, rfl, rx⟩ := vals1 r
  cases rx
  exact d_copyOf I (Rd.of hs) fun p s' hp I' => ⟨.ref p, _, I', rfl, q p hp⟩
theorem snd_dictK {K : PySem.W.Frag} : SndC K dictK rDictK := by
  intro W F R σ H env Q xs vs z S h e p
  match xs, h, e with
  | [.dct ks ws], h, e =>
    obtain ⟨v, rfl, a, kvs, rfl, hs, rfl, r⟩ := vw1 h
    cases e
    exact ⟨a, kvs, rfl, hs, fun q hq => post_newK S p hq rfl r⟩
section
variable {X : Cx} {W : WX} {pos pos' : Pos} {fe fi : SE} {j k : Nat} {o i value : Expr}
theorem pd_newK : PE X (.Dict [] [] pos) (dE X.K W newK) := pe_dnewK.wk fun σ H Q q => by
  obtain ⟨env, F, R, r, S, e, p⟩ := q
  cases e
  exact fun p' hp => post_newK S p hp rfl .nil
theorem ps_setK (hr : Room k X.A) (ho : PE X o (dE X.K W (varE j))) (hi : PE X i (dE X.K W fi)) (hv : PE X value (dE X.K W fe)) (hs : swapsWith value (some (.Subscript o i pos')) pos.line X.env = pure false := by rfl) :
    PS X (.Assign [.Subscript o i pos'] value pos) (dS X.K W (setK j fi fe)) := (L2.ps_dput (by have := hr.units; omega) ho hi hv hs).wk fun _ _ _ q => dS_setK q
end
/-! two dicts compared -/
def hitsD (ls ws : List D) : List D → List D → Bool
  | k :: ks, v :: vs => (match atD ls ws k with
    | some u => eqB v u
    | none => false) && hitsD ls ws ks vs
  | _, _ => true
def eqKB (ks vs ls ws : List D) : Bool := ks.length == ls.length && hitsD ls ws ks vs
def eqK : D → D → Option RV
  | .dct ks vs, .dct ls ws => if (vs.all shp && ws.all shp) = true then some (.d (.bl (eqKB ks vs ls ws))) else none
  | _, _ => none
def neK : D → D → Option RV
  | .dct ks vs, .dct ls ws => if (vs.all shp && ws.all shp) = true then some (.d (.bl (!eqKB ks vs ls ws))) else none
  | _, _ => none
def rCmpK (K : PySem.W.Frag) (g : Bool → Bool) : R2 := fun x y H Q => ∃ a b ks ls vs ws, x = .ref a ∧ y = .ref b ∧ H a = some (.dK ks) ∧ H b = some (.dK ls) ∧ RelAll K H (ks.map (·.2)) vs ∧ RelAll K H (ls.map (·.2)) ws ∧
  vs.all shp = true ∧ ws.all shp = true ∧ Q (.bl (g (eqKB (ks.map fun e => kD e.1) vs (ls.map fun e => kD e.1) ws))) H
theorem shp_room {A : Around} {x y : D} (hx : shp x = true) (hu : A.units + 64 < cLine) : A.units + min (py x).depth (py y).depth < cLine := SeqAt.room_of_shaped hx hu
theorem at_shp : ∀ {ks vs : List D} {x d : D}, vs.all shp = true → atD ks vs x = some d → shp d = true
  | [], vs, x, d, _, h => by cases vs <;> cases h
  | k :: ks, [], x, d, _, h => by cases h
  | k :: ks, v :: vs, x, d, hv, h => by
    rw [List.all_cons, Bool.and_eq_true] at hv
    have h : (if keyB k x = true then some v else atD ks vs x) = some d := h
    by_cases c : keyB k x = true
    · rw [if_pos c] at h; cases h; exact hv.1
    · rw [if_neg c] at h; exact at_shp hv.2 h
section
variable {X : Cx} {pins : List (Addr × Obj)} {σ : L2.St} {H : Hp} {s : Shared}
theorem eq_at (I : Inv X pins σ H s) {A : Around} (hu : A.units + 64 < cLine) {x y : D} {v w : V} {a b : Value} (hx : Rel X.K H v x) (hy : Rel X.K H w y) (sx : shp x = true) (sy : shp y = true) (rx : RelV v a) (ry : RelV w b) : SeqAt.EqAt A s a b (eqB x y) := by
  obtain ⟨as, r1⟩ := Dp.reads I _ _ _ (hx.dp _ (shp_pl sx)) rx
  obtain ⟨bs, r2⟩ := Dp.reads I _ _ _ (hy.dp _ (shp_pl sy)) ry
  rw [← eqv_py]
  exact SeqAt.eqAt_reads _ _ A s a b as bs r1 r2 (SeqAt.canLay_of_shaped sx) (SeqAt.canLay_of_shaped sy) (shp_room sx hu)
theorem hits_of (I : Inv X pins σ H s) {A : Around} (hu : A.units + 64 < cLine) {ls : List (Key × V)} {lw : List (Key × Value)} {ws : List D} (rl : KV ls lw) (hl : RelAll X.K H (ls.map (·.2)) ws) (sw : ws.all shp = true) :
    ∀ {ks : List (Key × V)} {kw : List (Key × Value)} {vs : List D}, KV ks kw → RelAll X.K H (ks.map (·.2)) vs → vs.all shp = true → ∃ r, PySem.W.KeqHits A s lw kw r ∧ (hitsD (ls.map fun e => kD e.1) ws (ks.map fun e => kD e.1) vs = r)
  | [], _, vs, .nil, h, _ => by
    cases h
    exact ⟨true, .nil, rfl⟩
  | p :: ps, _, vs, @Paired.cons _ _ _ _ q _ qs h t, hr, sv => by
    cases hr with
    | @cons _ _ d ds hd ht =>
      rw [List.all_cons, Bool.and_eq_true] at sv
      obtain ⟨r, h1, h2⟩ := hits_of I hu rl hl sw t ht sv.2
      obtain ⟨key, v⟩ := q
      obtain ⟨e1, e2⟩ := h
      have e1 : p.1 = key := e1
      have rv := rl.val p.1
      show ∃ r, _ ∧ ((match atD (ls.map fun e => kD e.1) ws (kD p.1) with
        | some u => eqB d u
        | none => false) && hitsD (ls.map fun e => kD e.1) ws (ps.map fun e => kD e.1) ds) = r
      rw [h2]
      rcases at_val p.1 ls ws hl with ⟨g1, g2⟩ | ⟨d', u, g1, g2, ru⟩
      · rw [g1]
        rw [g2] at rv
        exact ⟨false, .miss (by rw [← e1]; exact RelO.none_of rv), rfl⟩
      · rw [g1]
        rw [g2] at rv
        obtain ⟨y, hy, ry⟩ := rv.some_of
        exact ⟨_, .hit (by rw [← e1]; exact hy) (eq_at I hu hd ru sv.1 (at_shp sw g1) e2 ry) h1, rfl⟩
theorem op_eqK {X : Cx} (hu : X.A.units + 65 < cLine) : OpR X (compareOp .Eq) (rCmpK X.K fun b => b) := by
  intro pins s σ H x y v u Q I rx ry h
  obtain ⟨a, b, ks, ls, vs, ws, rfl, rfl, ea, eb, ha, hb, sv, sw, q⟩ := h
  obtain rfl : v = Value.ref a := rx
  obtain rfl : u = Value.ref b := ry
  obtain ⟨_, ya, va, ra, da⟩ := (show ObjOk X.prog X.w H s.heap a (.dK ks) from I.hok a _ ea)
  obtain ⟨_, yb, vb, rb, db⟩ := (show ObjOk X.prog X.w H s.heap b (.dK ls) from I.hok b _ eb)
  obtain ⟨r, h1, h2⟩ := hits_of (A := X.A.in1) I (by show X.A.units + 1 + 64 < cLine; omega) rb hb sw ra ha sv
  unfold eqKB at q
  rw [h2, List.length_map, List.length_map, ra.length, rb.length] at q
  exact PySem.W.keq_eq (knd := mixKind X.prog X.w) ya yb da db (by omega) (fun _ => h1) ⟨.bl _, H, I, rfl, q⟩
theorem op_neK {X : Cx} (hu : X.A.units + 65 < cLine) : OpR X (compareOp .NotEq) (rCmpK X.K fun b => !b) := by
  intro pins s σ H x y v u Q I rx ry h
  obtain ⟨a, b, ks, ls, vs, ws, rfl, rfl, ea, eb, ha, hb, sv, sw, q⟩ := h
  obtain rfl : v = Value.ref a := rx
  obtain rfl : u = Value.ref b := ry
  obtain ⟨_, ya, va, ra, da⟩ := (show ObjOk X.prog X.w H s.heap a (.dK ks) from I.hok a _ ea)
  obtain ⟨_, yb, vb, rb, db⟩ := (show ObjOk X.prog X.w H s.heap b (.dK ls) from I.hok b _ eb)
  obtain ⟨r, h1, h2⟩ := hits_of (A := X.A.in1) I (by show X.A.units + 1 + 64 < cLine; omega) rb hb sw ra ha sv
  unfold eqKB at q
  rw [h2, List.length_map, List.length_map, ra.length, rb.length] at q
  exact PySem.W.keq_ne (knd := mixKind X.prog X.w) ya yb da db (by omega) (fun _ => h1) ⟨.bl _, H, I, rfl, q⟩
end
theorem snd_cmpK {K : PySem.W.Frag} {g : Bool → Bool} {f : D → D → Option RV} (hf : ∀ ks vs ls ws, f (.dct ks vs) (.dct ls ws) = if (vs.all shp && ws.all shp) = true then some (.d (.bl (g (eqKB ks vs ls ws)))) else none)
    (hn : ∀ x y z, f x y = some z → ∃ ks vs ls ws, x = .dct ks vs ∧ y = .dct ls ws) : Snd2 K f (rCmpK K g) := by
  intro W F R σ H env Q x y v w z S hx hy e p
  obtain ⟨ks, vs, ls, ws, rfl, rfl⟩ := hn _ _ _ e
  rw [hf] at e
  obtain ⟨c, rfl⟩ := some_if e
  rw [Bool.and_eq_true] at c
  obtain ⟨a, kvs, rfl, h1, rfl, r1⟩ := hx
  obtain ⟨b, lvs, rfl, h2, rfl, r2⟩ := hy
  exact ⟨a, b, kvs, lvs, vs, ws, rfl, rfl, h1, h2, r1.up S.sub, r2.up S.sub, c.1, c.2, post_d S p (.bl _)⟩
section
variable {X : Cx} {W : WX} {a b : Expr} {fa fb : SE} {pos : Pos} {k : Nat}
theorem pd_eqK (hr : Room k X.A) (ha : PE X a (dE X.K W fa)) (hb : PE X b (dE X.K W fb)) (hm : behindInMarks .Eq b = false := by first | exact nobehind _ (by decide) (by decide) | rfl) : PE X (.Compare a [.Eq] [b] pos) (dE X.K W (two (op2 eqK) fa fb)) :=
  pd_cmp (op_eqK (r65 hr)) (snd_cmpK (g := fun b => b) (fun _ _ _ _ => rfl) fun x y z h => by cases x <;> cases y <;> first | (cases h; done) | exact ⟨_, _, _, _, rfl, rfl⟩) hm ha hb
theorem pd_neK (hr : Room k X.A) (ha : PE X a (dE X.K W fa)) (hb : PE X b (dE X.K W fb)) (hm : behindInMarks .NotEq b = false := by first | exact nobehind _ (by decide) (by decide) | rfl) : PE X (.Compare a [.NotEq] [b] pos) (dE X.K W (two (op2 neK) fa fb)) :=
  pd_cmp (op_neK (r65 hr)) (snd_cmpK (g := fun b => !b) (fun _ _ _ _ => rfl) fun x y z h => by cases x <;> cases y <;> first | (cases h; done) | exact ⟨_, _, _, _, rfl, rfl⟩) hm ha hb
end
end
end Dw
namespace Dw
noncomputable section
open PySem PySem.Spec PyProof.Rows L2

/-! ### defs that are run while no repr is under way -/
structure FnR (P : Program) (w : World) (K : PySem.W.Frag) (mg : Str → Option Value) (base : Heap) (CX : CXT) (k : Nat) (f : Addr) (fd : FuncData) (ps : List Str) (sp : Sp) : Prop where
  len : ∀ vs H Q E, sp vs H Q E → vs.length = ps.length
  run : ∀ (A : Around) (outer : List Env) (s : Shared) (H : Hp) (args : Args) (us : List Value) (vs : List V) (Q : VK) (E : XK), A.guards = some [] → Room k A → Env0 P w K mg base A outer s H → BindsTo s fd args (ps.zip us) → Vals vs us → sp vs H Q E →
    codeAny (model P w) A (.call (.ref f) args) (CR CX outer P w H s Q E) s
section
variable {P : Program} {w : World} {K : PySem.W.Frag} {mg : Str → Option Value} {base : Heap}
theorem FnR.imp {CX : CXT} {k : Nat} {f : Addr} {fd : FuncData} {ps : List Str} {sp sp' : Sp} (F : FnR P w K mg base CX k f fd ps sp) (h : ∀ vs H Q E, sp' vs H Q E → sp vs H Q E) : FnR P w K mg base CX k f fd ps sp' :=
  ⟨fun vs H Q E q => F.len vs H Q E (h _ _ _ _ q), fun A outer s H args us vs Q E hg hr he hb hv hs => F.run A outer s H args us vs Q E hg hr he hb hv (h _ _ _ _ hs)⟩
theorem FnR.mono {CX : CXT} {j k : Nat} {f : Addr} {fd : FuncData} {ps : List Str} {sp : Sp} (F : FnR P w K mg base CX j f fd ps sp) (h : j ≤ k) : FnR P w K mg base CX k f fd ps sp :=
  ⟨F.len, fun A outer s H args us vs Q E hg hr => F.run A outer s H args us vs Q E hg (hr.mono h)⟩
/-- by its body -/
theorem fnR_of {CX : CXT} {k : Nat} {f : Addr} {name qual : Str} {params : Arguments} {body : List Stmt} {scope : Scope} {dV kV doc pm cdv ct oc : Value} {an od : Option Addr} {osl : Array (Option Value)} {N ps : List Str} {sp : Sp}
    (lk : K.lookup f = some ⟨oc, od, .func (PySem.W.fnOf name qual params body scope dV kV doc pm an cdv ct), osl⟩) (hcd : PySem.W.codeIn K cdv qual = true) (S : FnScope N ps scope) (len : ∀ vs H Q E, sp vs H Q E → vs.length = ps.length)
    (hB : ∀ (A : Around) (outer : List Env) (s : Shared) (H : Hp) (vs : List V) (Q : VK) (E : XK), A.guards = some [] → Room k (A.deeper (envOfC qual scope s.heap.objs.size f cdv)) → sp vs H Q E →
      ∃ t, PSs (cxOf CX P w K mg base N qual scope f cdv A outer s H E) body t ∧ t { nx := fun _ H' => Q .non H', rt := Q } (start N vs) H) :
    FnR P w K mg base CX (k + 1) f (PySem.W.fnOf name qual params body scope dV kV doc pm an cdv ct) ps sp where
  len := len
  run := fun A outer s H args us vs Q E hg hr e0 hb r hsp => by
    obtain ⟨t, ht, hq⟩ := hB A outer s H vs Q E hg (hr.deeper _) hsp
    have keep : ∀ b o, base.get? b = some o → s.heap.get? b = some o := fun b o e => (e0.bs b o e).1
    have KX : K.In s.heap := e0.mod.kin.keeps keep
    have kinds : ∀ y ∈ ps.zip us, scope.names.lookup y.1 = some .local ∨ (scope.names.lookup y.1 = some .cell ∧ ((cellsFrom (s.heap.objs.size + 1) scope.names []).lookup y.1).isSome = true) := fun ⟨n, v⟩ hy =>
      (S.par n (List.of_mem_zip hy).1).imp id fun q => ⟨q, PySem.W.cellsFrom_some _ _ _ (.inl q)⟩
    refine codeAny_call_function hr.depth (KX _ _ lk) rfl S.co S.gen rfl (PySem.W.codeRec_of KX hcd) (hb _ _ _ _ (wpAny_newFunctionEnv_cells S.kind kinds fun env he s1 x => ?_))
    subst he
    refine ⟨(e0.mod.nolimit.keeps keep).keeps x.toInCall.keep, codeAny_func (wpAny_mono (ht.run [] s1 (start N vs) H _ (inv_start S hr.hd e0 (len _ _ _ _ hsp) r x) hq) (fun fl s' hs => ?_) fun e s' hs => hs)⟩
    cases fl with
    | ret u => obtain ⟨v, _, H', J, rv, q⟩ := hs; exact ⟨v, H', J.os, J.bare, J.base, J.hok, rv, q⟩
    | next => obtain ⟨_, H', J, q⟩ := hs; exact ⟨V.non, H', J.os, J.bare, J.base, J.hok, rfl, q⟩
    | brk => obtain ⟨_, _, _, q⟩ := hs; exact q.elim
    | cont => obtain ⟨_, _, _, q⟩ := hs; exact q.elim
end
section
variable [Glo] [Tabs]
section
variable {P : Program} {w : World} {K : PySem.W.Frag} {mg : Str → Option Value} {base : Heap}
theorem fndR {x qual : Str} {st : Stmt} {f : Addr} {fd : FuncData} {N ps : List Str} {k n : Nat} {body : SS} (F : Fun K x qual st f fd) (S : FnScope N ps (defScope st)) (hn : N.length = ps.length + n)
    (hb : ∀ (cdv : Value) (A : Around) (outer : List Env) (s : Shared) (H : Hp) (E : XK), A.guards = some [] → Room k (A.deeper (envOfC qual (defScope st) s.heap.objs.size f cdv)) → PSs (cxOf CX0 P w K mg base N qual (defScope st) f cdv A outer s H E).nox (defBody st) (dS K W0 body)) :
    FnR P w K mg base CX0 (k + 1) f fd ps (spD K ps.length (defM ps.length n body)) := by
  obtain ⟨oc, od, kV, doc, pm, an, cdv, ct, osl, rfl, lk, hcd⟩ := F.ex
  exact fnR_of lk hcd S spD_len fun A outer s H vs Q E hg hr h => ⟨_, (hb cdv A outer s H E hg hr).nox, dS_run0 hn h⟩
end
/-! calls -/
section
variable {X : Cx} {CX : CXT} {k : Nat} {f : Addr} {fd : FuncData} {ps : List Str} {sp : Sp} {dvs : List V} {ds : List Value} {E : L2.St → XK} {x : Str} {p pos : Pos} {e : Expr} {es : List Expr} {t : TA}
theorem run_fnR {pins : List (Addr × Obj)} {σ : L2.St} {H : Hp} {s : Shared} {Q : VK} {us : List Value} {vs : List V} (F : FnR X.prog X.w X.K X.mg X.base CX k f fd ps sp) (hG : X.A.guards = some []) (hr : Room k X.A) (hb : Binds X.K fd ps ds) (hd : Vals dvs ds) (hx : PassesAt CX X σ (E σ))
    (I : Inv X pins σ H s) (r : Vals vs us) (h : sp (vs ++ dvs) H Q (E σ)) : wpAny (model X.prog X.w) X.A (call (.ref f) us) (EP X pins σ Q) X.xe s := by
  have r2 : Vals (vs ++ dvs) (us ++ ds) := r.append hd
  refine wpAny_call (codeAny_mono (F.run X.A X.stack s H ⟨us, []⟩ (us ++ ds) (vs ++ dvs) Q (E σ) hG hr I.env0 (hb s us I.kIn (by rw [← r2.length]; exact F.len _ _ _ _ h)) r2 h) fun r s' hq => ?_)
  match r, hq with
  | .error e, hq => exact hx pins H s e s' I hq
  | .ok (.ret u), hq => exact I.after hq
theorem pe_callR (F : FnR X.prog X.w X.K X.mg X.base CX k f fd ps sp) (hG : X.A.guards = some []) (hr : Room k X.A) (hg : Gl X x) (hm : X.mg x = some (.ref f)) (hk : PySem.W.keepIn X.K (.ref f) = true) (hb : Binds X.K fd ps ds) (hd : Vals dvs ds) (hx : ∀ σ, PassesAt CX X σ (E σ))
    (ha : PA X (e :: es) t) (hdb : (x == ("__debug__" : Str)) = false := by decide) (he : starEach (e :: es) X.env = (false, eval e X.env) :: starEach es X.env := by rfl) (hpl : (backTo pos (starEach es X.env)).any (·.1) = false := by rfl) :
    PE X (.Call (.Name x p) (e :: es) [] pos) (tCallSD sp dvs E t) := ⟨fun pins s σ H Q I h => wpAny_Call_Name_kw (ld_glob I hg hm
      (PySem.W.callWith_K (h₀ := X.base) I.ok.mod.kin hk (thn (ha.run pos pins s σ H _ I h) fun us s1 ⟨vs, H1, I1, r, q⟩ => ⟨I1.kIn, run_fnR F hG hr hb hd (hx σ) I1 r q⟩) he hpl) hdb)⟩
end
structure DefR (P : Program) (w : World) (K : PySem.W.Frag) (mg : Str → Option Value) (base : Heap) (k : Nat) (x : Str) (np : Nat) (m : List SV → Option FR) (dfs : List D) : Prop where
  ex : ∃ (f : Addr) (fd : FuncData) (ps : List Str) (ds : List Value) (dvs : List V), FnR P w K mg base CX0 k f fd ps (spD K np m) ∧ mg x = some (.ref f) ∧ PySem.W.keepIn K (.ref f) = true ∧ Binds K fd ps ds ∧ Vals dvs ds ∧ (∀ F : Hp, RelAll K F dvs dfs) ∧ ∀ as fr, m as = some fr → as.length = np
theorem DefR.mk0 {P : Program} {w : World} {K : PySem.W.Frag} {mg : Str → Option Value} {base : Heap} {k : Nat} {x : Str} {np n : Nat} {body : SS} {f : Addr} {fd : FuncData} {ps : List Str} (F : FnR P w K mg base CX0 k f fd ps (spD K np (defM np n body))) (hm : mg x = some (.ref f)) (hk : PySem.W.keepIn K (.ref f) = true) (hb : Binds K fd ps []) : DefR P w K mg base k x np (defM np n body) [] :=
  ⟨f, fd, ps, [], [], F, hm, hk, hb, .nil, fun _ => .nil, defM_len⟩
section
variable {P : Program} {w : World} {K : PySem.W.Frag} {mg : Str → Option Value} {base : Heap} {k : Nat} {f : Addr} {fd : FuncData} {ps : List Str} {np : Nat}
theorem fnR0 : FnR P w K mg base CX0 k f fd ps (spD K np fun _ => none) where
  len := fun vs H Q E h => (spD_no h).elim
  run := fun A outer s H args us vs Q E _ _ _ _ _ h => (spD_no h).elim
theorem DefR.self {x : Str} {n k0 : Nat} {r : Nat → List SV → Option FR} {B : (List SV → Option FR) → SS} (h0 : r 0 = fun _ => none) (hs : ∀ i, r (i + 1) = defM np n (B (r i)))
    (step : ∀ (k : Nat) (m : List SV → Option FR), k0 ≤ k → DefR P w K mg base k x np m [] → FnR P w K mg base CX0 (k + 1) f fd ps (spD K np (defM np n (B m)))) (hm : mg x = some (.ref f)) (hk : PySem.W.keepIn K (.ref f) = true) (hb : Binds K fd ps []) :
    ∀ i, DefR P w K mg base (k0 + i) x np (r i) []
  | 0 => by
    rw [h0]
    exact ⟨f, fd, ps, [], [], fnR0, hm, hk, hb, .nil, fun _ => .nil, fun _ _ e => by cases e⟩
  | i + 1 => by
    have C := DefR.self h0 hs step hm hk hb i
    have F := step (k0 + i) (r i) (Nat.le_add_right _ _) C
    rw [hs]
    exact DefR.mk0 F hm hk hb
end
theorem pd_callR {X : Cx} {W : WX} {k j : Nat} {x : Str} {np : Nat} {m : List SV → Option FR} {dfs : List D} {fa : SA} {p pos : Pos} {e : Expr} {es : List Expr} (C : DefR X.prog X.w X.K X.mg X.base k x np m dfs) (hG : X.A.guards = some []) (hr : Room j X.A) (hj : k ≤ j) (ha : PA X (e :: es) (dA X.K W fa)) (hg : Gl X x := by rfl)
    (hdb : (x == ("__debug__" : Str)) = false := by decide) (he : starEach (e :: es) X.env = (false, eval e X.env) :: starEach es X.env := by rfl) (hpl : (backTo pos (starEach es X.env)).any (·.1) = false := by rfl) :
    PE X (.Call (.Name x p) (e :: es) [] pos) (dE X.K W (callD m dfs fa)) := by
  obtain ⟨f, fd, ps, ds, dvs, h1, h2, h3, h4, h5, h6, h7⟩ := C.ex
  exact (pe_callR h1 hG (hr.mono hj) hg h2 h3 h4 h5 (fun σ pins H s e s' I c => c.elim) ha hdb he hpl).wk fun _ _ _ q => dE_callD h6 h7 q
theorem pd_callMR {X : Cx} {W : WX} {k l : Nat} {x : Str} {np : Nat} {m : List SV → Option FR} {dfs : List D} {fa : SA} {p pos : Pos} {e : Expr} {es : List Expr} (j : Nat) (C : DefR X.prog X.w X.K X.mg X.base k x np m dfs) (hG : X.A.guards = some []) (hr : Room l X.A) (hj : k ≤ l) (ha : PA X (e :: es) (dA X.K W fa)) (hg : Gl X x := by rfl)
    (hdb : (x == ("__debug__" : Str)) = false := by decide) (he : starEach (e :: es) X.env = (false, eval e X.env) :: starEach es X.env := by rfl) (hpl : (backTo pos (starEach es X.env)).any (·.1) = false := by rfl) :
    PE X (.Call (.Name x p) (e :: es) [] pos) (dE X.K W (callM j m dfs fa)) := by
  obtain ⟨f, fd, ps, ds, dvs, h1, h2, h3, h4, h5, h6, h7⟩ := C.ex
  exact (pe_callR h1 hG (hr.mono hj) hg h2 h3 h4 h5 (fun σ pins H s e s' I c => c.elim) ha hdb he hpl).wk fun _ _ _ q => dE_callM h6 h7 q

/-! ### repr -/
def shownL (x : D) : List Nat := (py x).shown.cps.toList
def reprD : List D → Option RV
  | [x] => if okP ((shp x = true ∧ (py x).showable = true ∧ (py x).hasDict = false) ∧ (py x).shown.length ≤ sizeLine) then some (.d (.str (shownL x))) else none
  | _ => none
def rReprD (K : PySem.W.Frag) : List V → Hp → VK → Prop := fun xs H Q => ∃ v x, xs = [v] ∧ Rel K H v x ∧ shp x = true ∧ (py x).showable = true ∧ (py x).hasDict = false ∧ (py x).shown.length ≤ sizeLine ∧ Q (.str (py x).shown) H
theorem cr_reprD {X : Cx} (hG : X.A.guards = some []) (hu : X.A.units + 65 < cLine) : CallR X (.builtin "repr") (rReprD X.K) := by
  intro pins s σ H xs us Q I r q
  obtain ⟨v, x, rfl, rv, h1, h2, h3, h4, q⟩ := q
  obtain ⟨u, rfl, ru⟩ := vals1 r
  obtain ⟨as, rd⟩ := Dp.reads I _ _ _ (rv.dp _ (shp_pl h1)) ru
  have tok : ∀ t, EP X pins σ Q (.str (py x).shown t) { s with toks := s.toks + 1 } := fun t => ⟨.str _, H, I.tok _, ⟨_, rfl⟩, q⟩
  cases x with
  | non => cases rv; cases ru; exact PySem.P.repr_of_none (tok _)
  | bl b => cases rv; cases ru; cases b <;> exact PySem.P.repr_of_bool (tok _)
  | int i => cases rv; obtain ⟨t, rfl⟩ := ru; exact PySem.P.repr_of_int (by simpa [py, PyData.showable] using h2) (tok _)
  | str y => cases rv; obtain ⟨t, rfl⟩ := ru; exact PySem.P.repr_of_str (tok _) (by simpa [py, PyData.shown] using h4)
  | dct _ _ => exact absurd h1 (by simp [shp, py, SeqAt.shaped, PyData.canLay0])
  | ins _ _ _ => exact absurd h1 (by simp [shp, py, SeqAt.shaped, PyData.canLay0])
  | lst ys =>
    cases rv
    cases ru
    have hd := SeqAt.depth_of_shaped h1
    exact repr_of_reads' rd h2 (fun z => by rw [h3] at z; cases z) hG (by omega) (fun _ _ e => e) (fun h' u tk hk => ⟨.str _, H, I.kept hk, ⟨_, rfl⟩, q⟩) h4
  | tup ys =>
    cases rv
    cases ru
    have hd := SeqAt.depth_of_shaped h1
    exact repr_of_reads' rd h2 (fun z => by rw [h3] at z; cases z) hG (by omega) (fun _ _ e => e) (fun h' u tk hk => ⟨.str _, H, I.kept hk, ⟨_, rfl⟩, q⟩) h4
theorem snd_reprD {K : PySem.W.Frag} : SndC K reprD (rReprD K) := by
  intro W F R σ H env Q xs vs z S h e p
  match xs, h, e with
  | [x], h, e =>
    obtain ⟨v, rfl, hv⟩ := vw1 h
    obtain ⟨c, rfl⟩ := some_if e
    obtain ⟨⟨c1, c2, c3⟩, c4⟩ := okP_iff.mp c
    refine ⟨v, x, rfl, hv.rel S.sub, c1, c2, c3, c4, ?_⟩
    have : (py x).shown = mk (shownL x) := (mk_of _).symm
    rw [this]
    exact post_d S p (.str _)
end
/-! ### the end of a law in which repr is asked -/
/-- what is tracked at the start: the script, unless it is one of the module's own objects -/
def scrH (K : PySem.W.Frag) (a : Addr) (o : Obj) (u : HO) : Hp := fun b => if b = a ∧ K.lookup a = none then some (.frz o u) else none
theorem scrH_inv {K : PySem.W.Frag} {a b : Addr} {o : Obj} {u z : HO} (h : scrH K a o u b = some z) : b = a ∧ K.lookup a = none ∧ z = .frz o u := by
  unfold scrH at h
  by_cases c : b = a ∧ K.lookup a = none
  · rw [if_pos c] at h
    cases h
    exact ⟨c.1, c.2, rfl⟩
  · rw [if_neg c] at h
    cases h
theorem law_callR {P : Program} {w : World} {K : PySem.W.Frag} {mg mb : Str → Option Value} {k : Nat} {fa a : Addr} {fd : FuncData} {x : Str} {sp : Sp} {s₁ : Shared} {vs : List Value} {ns : List Int}
    (KX : K.In s₁.heap) (hns : s₁.heap.Ns mainGlobals mg) (hb : s₁.heap.Ns builtinsNs mb) (hbb : ∀ x : Str, x ≠ "__name__" → mb x = bootBuiltins x) (hlim : s₁.heap.NoLimit) (hg : s₁.gens = #[])
    (ha : s₁.heap.get? a = some { cls := .type "list", data := .seq vs.toArray }) (hi : IntsAre vs ns) (hl : ns.length ≤ sizeLine) (hr : Room k callerA)
    (F : ∀ base : Heap, K.In base → base.Ns mainGlobals mg → FnR P w K mg base CX0 k fa fd [x] sp) (hbind : ∀ (s : Shared) (u : Value), BindsTo s fd ⟨[u], []⟩ [(x, u)])
    (hsp : ∀ H : Hp, SqL K H a (ns.map V.int) → sp [.ref a] H (fun v _ => v = .bl true) fun _ _ _ => False) :
    codeAny (model P w) callerA (.call (.ref fa) ⟨[.ref a], []⟩) (fun r s' => r = .ok (.ret (.bool true)) ∧ OldK s₁.heap s'.heap ∧ s'.os = s₁.os ∧ AllBare s'.gens) s₁ := by
  have rv := vals_ints hi
  have hln : ns.length = vs.length := by have := rv.length; rwa [List.length_map] at this
  let o : Obj := { cls := .type "list", data := .seq vs.toArray }
  let u : HO := .lst (ns.map V.int)
  let H : Hp := scrH K a o u
  -- the script, seen
  have seen : SqL K H a (ns.map V.int) := by
    cases hk : K.lookup a with
    | none => exact .inl (.inr ⟨o, if_pos ⟨rfl, hk⟩⟩)
    | some q =>
      have e := KX a q hk
      rw [ha] at e
      cases e
      exact .inr ⟨_, vs.toArray, _, hk, rfl, rfl, rfl, by rw [List.size_toArray, ← hln]; exact hl, by simpa using rv⟩
  have hok : HOk P w H s₁.heap := fun b z e => by
    obtain ⟨rfl, _, rfl⟩ := scrH_inv e
    exact ⟨ha, by rw [List.length_map]; exact hl, vs, _, rv, ha⟩
  -- what is not the script stands in the base
  have off : ∀ {b : Addr} {q : Obj}, s₁.heap.get? b = some q → (b = a → ∃ z, K.lookup a = some z) → (hidT s₁.heap H).get? b = some q := fun {b q} e n => hidT_get e (by
    cases hb : H b with
    | none => rfl
    | some z =>
      obtain ⟨e1, e2, _⟩ := scrH_inv hb
      obtain ⟨z', hz⟩ := n e1
      rw [e2] at hz
      cases hz)
  have dicts : ∀ {b : Addr} {m : Str → Option Value}, s₁.heap.Ns b m → (hidT s₁.heap H).Ns b m := fun {b m} ⟨q, es, ep, e, d, r⟩ => ⟨q, es, ep, off e (fun z => by
    rw [z, ha] at e
    cases e
    cases d), d, r⟩
  have hK : K.In (hidT s₁.heap H) := fun b q e => off (KX b q e) fun z => ⟨q, by rw [← z]; exact e⟩
  obtain ⟨mc, l1, l2⟩ := hlim
  have e0 : Env0 P w K mg (hidT s₁.heap H) callerA [] s₁ H := ⟨rfl, ⟨hK, dicts hns, ⟨mb, dicts hb, hbb⟩, ⟨mc, dicts l1, l2⟩⟩, fun b q e => of_hidT e, Nat.le_of_eq (hidT_size _ _), trivial, fun b z => absurd (show b ∈ ([] : List Addr) from z) (by simp), hok, .of_eq hg⟩
  refine codeAny_mono ((F _ hK (dicts hns)).run callerA [] s₁ H ⟨[.ref a], []⟩ [.ref a] [.ref a] _ _ rfl hr e0 (hbind s₁ (.ref a)) (.cons rfl .nil) (hsp H seen)) fun r s' h => ?_
  match r, h with
  | .ok (.ret z), ⟨v, H', os, bare, un, hok', rz, q⟩ =>
    have q : v = .bl true := q
    subst q
    obtain rfl : z = Value.bool true := rz
    refine ⟨rfl, OldK.of_keep fun b p e => ?_, os, bare⟩
    cases hH : H b with
    | none => exact un.keep b p e hH (by intro z; exact absurd (show b ∈ ([] : List Addr) from z) (by simp)) (by simp)
    | some z =>
      obtain ⟨e1, _, rfl⟩ := scrH_inv hH
      obtain ⟨g1, _⟩ := hok b _ hH
      obtain ⟨g2, _⟩ := hok' b _ (un.frzs b _ _ hH)
      rw [e] at g1
      cases g1
      exact g2
theorem walk_R {l : PySem.W.OpenLaw} {n k : Nat} {q : Program} {loose : List Str} {XP : (Str → Option Value) → Heap → Prop} {YP : World → Heap → Prop} {d : DefRec} {K : Params → PySem.W.Frag} {x : Str} {m : List SV → Option FR} (gl : World → (Str → Option Value) → Glo)
    (hn : l.most = some n) (hn2 : n ≤ sizeLine) (hdf : d.params.defaults = []) (hr : Room k callerA) (hY : ∀ (w : World) (h : Heap), YP w h → (K w.params).In h)
    (F : ∀ (w : World) (mg : Str → Option Value) (fa : Addr) (h : Heap), (K w.params).In h → h.Ns mainGlobals mg → mg d.name = some (.ref fa) →
      ∃ fd : FuncData, (∀ (s : Shared) (u : Value), BindsTo s fd ⟨[u], []⟩ [(x, u)]) ∧ ∀ base : Heap, (K w.params).In base → base.Ns mainGlobals mg → FnR l.prog w (K w.params) mg base CX0 k fa fd [x] (@spD (gl w mg) ⟨fun _ => False, none⟩ (K w.params) 1 m))
    (hm : ∀ (_ : Glo) (_ : Tabs) (ns : List Int), ns.length ≤ n → ∃ o, m [.d (.lst (ns.map .int))] = some (.ok (.d (.bl true)) o)) :
    PySem.W.WalkO q loose XP YP l.row.toRowW d [] (fun f vs => PySem.call f vs) := by
  refine Att.attach_call hn hdf fun w s₀ s₁ mg mb fa o pm cd doc a vs ns G Y ho hd hcd hmg hobj hints hlen hg => ?_
  have KX := hY w _ Y
  obtain ⟨fd, hb, hF⟩ := F w mg fa _ KX G.T.g hmg
  obtain ⟨o, ho⟩ := hm (gl w mg) ⟨fun _ => False, none⟩ ns hlen
  exact law_callR KX G.T.g G.T.b G.T.builtins G.T.nolimit hg hobj hints (Nat.le_trans hlen hn2) hr hF hb fun H hS => @law_sp (gl w mg) ⟨fun _ => False, none⟩ _ _ _ _ _ _ _ (fun _ h => h.elim) hS ho
end
end Dw
namespace Dw
noncomputable section
open PySem PySem.Spec PyProof.Rows L2
variable [Glo] [Tabs]
/-! ### two dicts compared, as a test -/
section
variable {X : Cx} {W : WX} {a b : Expr} {fa fb : SE} {pos : Pos} {k : Nat}
theorem bl_eqK {x y : D} {z : RV} (h : eqK x y = some z) : ∃ b, z = .d (.bl b) := by
  cases x <;> cases y <;> first | (cases h; done) | skip
  obtain ⟨_, rfl⟩ := some_if (show (if _ then _ else none) = some z from h)
  exact ⟨_, rfl⟩
theorem bl_neK {x y : D} {z : RV} (h : neK x y = some z) : ∃ b, z = .d (.bl b) := by
  cases x <;> cases y <;> first | (cases h; done) | skip
  obtain ⟨_, rfl⟩ := some_if (show (if _ then _ else none) = some z from h)
  exact ⟨_, rfl⟩
theorem pt_eqK (hr : Room k X.A) (ha : PE X a (dE X.K W fa)) (hb : PE X b (dE X.K W fb)) (hm : behindInMarks .Eq b = false := by first | exact nobehind _ (by decide) (by decide) | rfl) : PT X (.Compare a [.Eq] [b] pos) (dT X.K W (two (op2 eqK) fa fb)) :=
  pt_dcmp (op_eqK (r65 hr)) (snd_cmpK (g := fun b => b) (fun _ _ _ _ => rfl) fun x y z h => by cases x <;> cases y <;> first | (cases h; done) | exact ⟨_, _, _, _, rfl, rfl⟩) (fun _ _ _ => bl_eqK) hm ha hb
theorem pt_neK (hr : Room k X.A) (ha : PE X a (dE X.K W fa)) (hb : PE X b (dE X.K W fb)) (hm : behindInMarks .NotEq b = false := by first | exact nobehind _ (by decide) (by decide) | rfl) : PT X (.Compare a [.NotEq] [b] pos) (dT X.K W (two (op2 neK) fa fb)) :=
  pt_dcmp (op_neK (r65 hr)) (snd_cmpK (g := fun b => !b) (fun _ _ _ _ => rfl) fun x y z h => by cases x <;> cases y <;> first | (cases h; done) | exact ⟨_, _, _, _, rfl, rfl⟩) (fun _ _ _ => bl_neK) hm ha hb
end
end
end Dw
namespace Dw
noncomputable section
open PySem PySem.Spec PyProof.Rows L2
variable [Glo] [Tabs]
/-! ### a call to which two things of one's own are handed -/
open Classical
noncomputable def cal2 (R : Fm) (σ : L2.St) (H : Hp) (env : Sl) (i1 i2 j1 : Nat) (p1 p2 : Addr) : Fm :=
  ⟨fun a => if ∃ j b c, (j ≠ i1 ∧ j ≠ i2) ∧ env[j]? = some (SV.own b c) ∧ σ[j]? = some (some (V.ref a)) then H a else R.r a, fun k => if k = j1 then p1 else p2, R.T⟩
section
variable {K : PySem.W.Frag} {W : WX} {F F' : Hp} {R R' : Fm} {σ : L2.St} {H H' : Hp} {env : Sl} {Q : VK} {i1 i2 j1 j2 : Nat} {p1 p2 : Addr}
theorem cal2_own (S : Sta K F R σ H env) {j : Nat} {b : Bool} {c : C} {p : Addr} (h1 : j ≠ i1) (h2 : j ≠ i2) (h : env[j]? = some (.own b c)) (e : σ[j]? = some (some (V.ref p))) : (cal2 R σ H env i1 i2 j1 p1 p2).r p = H p := if_pos ⟨j, b, c, ⟨h1, h2⟩, h, e⟩
theorem cal2_none (S : Sta K F R σ H env) {p : Addr} (h : (cal2 R σ H env i1 i2 j1 p1 p2).r p = none) : R.r p = none ∧ ∀ (j : Nat) (b : Bool) (c : C), j ≠ i1 → j ≠ i2 → env[j]? = some (SV.own b c) → σ[j]? ≠ some (some (V.ref p)) := by
  have h : (if ∃ j b c, (j ≠ i1 ∧ j ≠ i2) ∧ env[j]? = some (SV.own b c) ∧ σ[j]? = some (some (V.ref p)) then H p else R.r p) = none := h
  by_cases hc : ∃ j b c, (j ≠ i1 ∧ j ≠ i2) ∧ env[j]? = some (SV.own b c) ∧ σ[j]? = some (some (V.ref p))
  · rw [if_pos hc] at h
    exact ⟨S.freeR h, fun j b c _ _ e1 e2 => by
      obtain ⟨q, o, e3, _, _, e4, _⟩ := S.own j b c e1
      rw [e2] at e3
      cases e3
      rw [h] at e4
      cases e4⟩
  · rw [if_neg hc] at h
    exact ⟨h, fun j b c hj hj2 e1 e2 => hc ⟨j, b, c, ⟨hj, hj2⟩, e1, e2⟩⟩
theorem cal2_ex (S : Sta K F R σ H env) : Ex R.r (cal2 R σ H env i1 i2 j1 p1 p2).r := fun a u e => by
  show (if ∃ j b c, (j ≠ i1 ∧ j ≠ i2) ∧ env[j]? = some (SV.own b c) ∧ σ[j]? = some (some (V.ref a)) then H a else R.r a) = some u
  split
  · exact S.fr a u e
  · exact e
theorem cal2_sub (S : Sta K F R σ H env) : Ex (cal2 R σ H env i1 i2 j1 p1 p2).r H := fun a u e => by
  have e : (if ∃ j b c, (j ≠ i1 ∧ j ≠ i2) ∧ env[j]? = some (SV.own b c) ∧ σ[j]? = some (some (V.ref a)) then H a else R.r a) = some u := e
  split at e
  · exact e
  · exact S.fr a u e
theorem cal2_dis (S : Sta K F R σ H env) : ∀ b o, (cal2 R σ H env i1 i2 j1 p1 p2).r b = some o → F b = none := fun a u e => by
  have e : (if ∃ j b c, (j ≠ i1 ∧ j ≠ i2) ∧ env[j]? = some (SV.own b c) ∧ σ[j]? = some (some (V.ref a)) then H a else R.r a) = some u := e
  split at e
  · next h =>
    obtain ⟨j, b, c, _, h1, h2⟩ := h
    obtain ⟨q, o, e3, e4, _⟩ := S.own j b c h1
    rw [h2] at e3
    cases e3
    exact e4
  · exact S.dis a u e
theorem cal2_free (S : Sta K F R σ H env) {i : Nat} (hi : i = i1 ∨ i = i2) {b : Bool} {c : C} {p : Addr} (h : env[i]? = some (.own b c)) (e : σ[i]? = some (some (V.ref p))) : (cal2 R σ H env i1 i2 j1 p1 p2).r p = none := by
  show (if ∃ j b c, (j ≠ i1 ∧ j ≠ i2) ∧ env[j]? = some (SV.own b c) ∧ σ[j]? = some (some (V.ref p)) then H p else R.r p) = none
  rw [if_neg]
  · obtain ⟨q, o, e3, _, e4, _⟩ := S.own i b c h
    rw [e] at e3
    cases e3
    exact e4
  · intro ⟨j, b', c', ⟨hj, hj2⟩, h1, h2⟩
    have := S.inj j i _ _ _ _ p h1 h h2 e
    rcases hi with rfl | rfl
    · exact hj this
    · exact hj2 this
theorem cal2_tab (S : Sta K F R σ H env) : ∀ P, Tabs.T P → (cal2 R σ H env i1 i2 j1 p1 p2).r P = none := fun P h => by
  obtain ⟨⟨ps, h1, _⟩, _, h3⟩ := S.tab P h
  show (if _ then _ else _) = none
  rw [if_neg]
  · exact h3
  · intro ⟨j, b, c, _, e1, e2⟩
    obtain ⟨q, o, e3, _, _, e4, e5⟩ := S.own j b c e1
    rw [e2] at e3
    cases e3
    rw [h1] at e4
    exact e5.noT ps (Option.some.inj e4).symm
theorem set2_get {α : Type} {l : List α} {j1 j2 k : Nat} {x y s : α} (hj : j1 ≠ j2) (h : ((l.set j1 x).set j2 y)[k]? = some s) : (k = j1 ∧ s = x) ∨ (k = j2 ∧ s = y) ∨ (k ≠ j1 ∧ k ≠ j2 ∧ l[k]? = some s) := by
  by_cases h2 : k = j2
  · subst h2
    by_cases hl : k < l.length
    · rw [List.getElem?_set_self (by rw [List.length_set]; exact hl)] at h
      cases h
      exact .inr (.inl ⟨rfl, rfl⟩)
    · rw [List.getElem?_eq_none (by rw [List.length_set, List.length_set]; omega)] at h
      cases h
  · rw [List.getElem?_set_ne (Ne.symm h2)] at h
    by_cases h1 : k = j1
    · subst h1
      by_cases hl : k < l.length
      · rw [List.getElem?_set_self hl] at h
        cases h
        exact .inl ⟨rfl, rfl⟩
      · rw [List.getElem?_eq_none (by rw [List.length_set]; omega)] at h
        cases h
    · rw [List.getElem?_set_ne (Ne.symm h1)] at h
      exact .inr (.inr ⟨h1, h2, h⟩)
theorem Sta.call2 (S : Sta K F R σ H env) {xs : List D} {vs : List V} {b1 b2 : Bool} {c1 c2 : C} (hn : j1 ≠ j2) (hi1 : env[i1]? = some (.own b1 c1)) (hp1 : σ[i1]? = some (some (V.ref p1))) (hi2 : env[i2]? = some (.own b2 c2)) (hp2 : σ[i2]? = some (some (V.ref p2))) (hpn : p1 ≠ p2)
    (hj1 : vs[j1]? = some (.ref p1)) (hj2 : vs[j2]? = some (.ref p2)) (r : RelAll K F ((vs.set j1 .non).set j2 .non) xs) :
    Sta K F (cal2 R σ H env i1 i2 j1 p1 p2) (vs.map some) H (((xs.map .d).set j1 (.own true c1)).set j2 (.own true c2)) := by
  have hl : xs.length = vs.length := by rw [← r.len, List.length_set, List.length_set]
  have at' : ∀ {k : Nat} {s : SV}, (((xs.map SV.d).set j1 (.own true c1)).set j2 (.own true c2))[k]? = some s → (k = j1 ∧ s = .own true c1) ∨ (k = j2 ∧ s = .own true c2) ∨ ∃ x v, s = .d x ∧ (vs.map some)[k]? = some (some v) ∧ Rel K F v x := fun {k s} h => by
    rcases set2_get hn h with h | h | ⟨h1, h2, h⟩
    · exact .inl h
    · exact .inr (.inl h)
    · obtain ⟨x, v, g1, g2, g3⟩ := dGet r h
      rw [List.getElem?_map, List.getElem?_set_ne (Ne.symm h2), List.getElem?_set_ne (Ne.symm h1), ← List.getElem?_map] at g2
      exact .inr (.inr ⟨x, v, g1, g2, g3⟩)
  have hs1 : (vs.map some)[j1]? = some (some (V.ref p1)) := by rw [List.getElem?_map, hj1]; rfl
  have hs2 : (vs.map some)[j2]? = some (some (V.ref p2)) := by rw [List.getElem?_map, hj2]; rfl
  obtain ⟨q1, o1, e1, e2, e3, e4, e5⟩ := S.own i1 b1 c1 hi1
  rw [hp1] at e1
  cases e1
  obtain ⟨q2, o2, f1, f2, f3, f4, f5⟩ := S.own i2 b2 c2 hi2
  rw [hp2] at f1
  cases f1
  refine ⟨S.sub, cal2_sub S, cal2_dis S, by rw [List.length_map, List.length_set, List.length_set, List.length_map, hl], fun k x e => ?_, fun k b' c' e => ?_, fun k c' e => ?_, fun k l bk ck bl cl q h1 h2 g1 g2 => ?_, fun k x q => (by
    rcases at' q with ⟨_, h⟩ | ⟨_, h⟩ | ⟨y, v, h1, _⟩
    · cases h
    · cases h
    · cases h1), fun P h => let ⟨h1, h2, _⟩ := S.tab P h; ⟨h1, h2, cal2_tab S P h⟩⟩
  · rcases at' e with ⟨_, h⟩ | ⟨_, h⟩ | ⟨y, v, h1, h2, h3⟩
    · cases h
    · cases h
    · cases h1; exact ⟨v, h2, h3⟩
  · rcases at' e with ⟨rfl, h⟩ | ⟨rfl, h⟩ | ⟨y, v, h1, _⟩
    · cases h
      exact ⟨p1, o1, hs1, e2, cal2_free S (.inl rfl) hi1 hp1, e4, e5⟩
    · cases h
      exact ⟨p2, o2, hs2, f2, cal2_free S (.inr rfl) hi2 hp2, f4, f5⟩
    · cases h1
  · rcases at' e with ⟨rfl, h⟩ | ⟨rfl, h⟩ | ⟨y, v, h1, _⟩
    · show _ = some (some (V.ref (if k = k then p1 else p2)))
      rw [if_pos rfl]
      exact hs1
    · show _ = some (some (V.ref (if k = j1 then p1 else p2)))
      rw [if_neg (Ne.symm hn)]
      exact hs2
    · cases h1
  · have own' : ∀ {k : Nat} {b : Bool} {c : C}, (((xs.map SV.d).set j1 (.own true c1)).set j2 (.own true c2))[k]? = some (.own b c) → k = j1 ∨ k = j2 := fun h => by
      rcases at' h with ⟨h, _⟩ | ⟨h, _⟩ | ⟨y, v, h, _⟩
      · exact .inl h
      · exact .inr h
      · cases h
    rcases own' h1 with rfl | rfl <;> rcases own' h2 with rfl | rfl
    · rfl
    · rw [hs1] at g1; rw [hs2] at g2; cases g1; cases g2; exact absurd rfl hpn
    · rw [hs2] at g1; rw [hs1] at g2; cases g1; cases g2; exact absurd rfl hpn
    · rfl
theorem Sta.ret2 {σc : L2.St} {envc : Sl} {b1 b2 : Bool} {c1 c2 d1 d2 : C} (S : Sta K F R σ H env) (e : Ex F F') (S' : Sta K F' (cal2 R σ H env i1 i2 j1 p1 p2) σc H' envc) (hn : j1 ≠ j2) (hin : i1 ≠ i2) (hi1 : env[i1]? = some (.own b1 c1)) (hp1 : σ[i1]? = some (some (V.ref p1)))
    (hi2 : env[i2]? = some (.own b2 c2)) (hp2 : σ[i2]? = some (some (V.ref p2))) (hj1 : envc[j1]? = some (.own true d1)) (hj2 : envc[j2]? = some (.own true d2)) : Sta K F' R σ H' ((env.set i1 (.own b1 d1)).set i2 (.own b2 d2)) := by
  have t1 : σc[j1]? = some (some (V.ref p1)) := by
    have := S'.tag j1 d1 hj1
    rwa [show (cal2 R σ H env i1 i2 j1 p1 p2).t j1 = p1 from if_pos rfl] at this
  have t2 : σc[j2]? = some (some (V.ref p2)) := by
    have := S'.tag j2 d2 hj2
    rwa [show (cal2 R σ H env i1 i2 j1 p1 p2).t j2 = p2 from if_neg (Ne.symm hn)] at this
  have at' : ∀ {k : Nat} {s : SV}, ((env.set i1 (.own b1 d1)).set i2 (.own b2 d2))[k]? = some s → (k = i1 ∧ s = .own b1 d1) ∨ (k = i2 ∧ s = .own b2 d2) ∨ (k ≠ i1 ∧ k ≠ i2 ∧ env[k]? = some s) := fun h => set2_get hin h
  refine ⟨S'.sub, (cal2_ex S).trans S'.fr, fun a u q => S'.dis a u (cal2_ex S a u q), by rw [List.length_set, List.length_set]; exact S.len, fun k x q => ?_, fun k b c q => ?_, fun k c q => ?_, fun k l bk ck bl cl a h1 h2 h3 h4 => ?_, fun k x q => ?_, fun P h => let ⟨h1, h2, _⟩ := S'.tab P h; ⟨h1, h2, (S.tab P h).2.2⟩⟩
  · rcases at' q with ⟨_, h⟩ | ⟨_, h⟩ | ⟨_, _, q⟩
    · cases h
    · cases h
    · obtain ⟨v, e1, r⟩ := S.dat k x q
      exact ⟨v, e1, r.up e⟩
  · rcases at' q with ⟨rfl, h⟩ | ⟨rfl, h⟩ | ⟨hk1, hk2, q⟩
    · cases h
      obtain ⟨p', o', z1, z2, _, z4, z5⟩ := S'.own j1 true d1 hj1
      rw [t1] at z1
      cases z1
      obtain ⟨_, o2, y1, _, y3, _⟩ := S.own k _ _ hi1
      rw [hp1] at y1
      cases y1
      exact ⟨p1, o', hp1, z2, y3, z4, z5⟩
    · cases h
      obtain ⟨p', o', z1, z2, _, z4, z5⟩ := S'.own j2 true d2 hj2
      rw [t2] at z1
      cases z1
      obtain ⟨_, o2, y1, _, y3, _⟩ := S.own k _ _ hi2
      rw [hp2] at y1
      cases y1
      exact ⟨p2, o', hp2, z2, y3, z4, z5⟩
    · obtain ⟨q1, o2, y1, y2, y3, y4, y5⟩ := S.own k b c q
      have hr := cal2_own (p1 := p1) (p2 := p2) (j1 := j1) S hk1 hk2 q y1
      rw [y4] at hr
      exact ⟨q1, o2, y1, S'.dis q1 o2 hr, y3, S'.fr q1 o2 hr, y5.up e⟩
  · rcases at' q with ⟨rfl, h⟩ | ⟨rfl, h⟩ | ⟨_, _, q⟩
    · cases h; exact S.tag _ c1 hi1
    · cases h; exact S.tag _ c2 hi2
    · exact S.tag k c q
  · have get : ∀ {k : Nat} {b : Bool} {c : C}, ((env.set i1 (.own b1 d1)).set i2 (.own b2 d2))[k]? = some (SV.own b c) → ∃ b' c', env[k]? = some (SV.own b' c') := fun q => by
      rcases at' q with ⟨rfl, _⟩ | ⟨rfl, _⟩ | ⟨_, _, q⟩
      · exact ⟨_, _, hi1⟩
      · exact ⟨_, _, hi2⟩
      · exact ⟨_, _, q⟩
    obtain ⟨_, _, g1⟩ := get h1
    obtain ⟨_, _, g2⟩ := get h2
    exact S.inj k l _ _ _ _ a g1 g2 h3 h4
  · rcases at' q with ⟨_, h⟩ | ⟨_, h⟩ | ⟨_, _, q⟩
    · cases h
    · cases h
    · exact S.xnUp e k x q
def ownT : Option SV → Option C
  | some (.own true c) => some c
  | _ => none
theorem ownT_some {s : Option SV} {c : C} (h : ownT s = some c) : s = some (.own true c) := by
  match s, h with
  | some (.own true _), h => cases h; rfl
def ownA : Option SV → Option (Bool × C)
  | some (.own b c) => some (b, c)
  | _ => none
theorem ownA_some {s : Option SV} {b : Bool} {c : C} (h : ownA s = some (b, c)) : s = some (.own b c) := by
  match s, h with
  | some (.own _ _), h => cases h; rfl
def cvI : Option RV → Option Nat
  | some (.cv i) => some i
  | _ => none
theorem cvI_some {s : Option RV} {i : Nat} (h : cvI s = some i) : s = some (.cv i) := by
  match s, h with
  | some (.cv _), h => cases h; rfl
def outMM (i1 j1 : Nat) (b1 : Bool) (i2 j2 : Nat) (b2 : Bool) (env : Sl) : FR → Option Re
  | .ok a outs => (ownT outs[j1]?).bind fun c1 => (ownT outs[j2]?).bind fun c2 => (retV a).map (Re.ok · ((env.set i1 (.own b1 c1)).set i2 (.own b2 c2)))
  | .ex e outs => (ownT outs[j1]?).bind fun c1 => (ownT outs[j2]?).bind fun c2 => some (.ex e ((env.set i1 (.own b1 c1)).set i2 (.own b2 c2)))
def callMM (j1 j2 : Nat) (m : List SV → Option FR) (dfs : List D) (fa : SA) : SE := fun env => bindA (fa env) fun as env1 => (cvI as[j1]?).bind fun i1 => (cvI as[j2]?).bind fun i2 => if i1 ≠ i2 ∧ j1 ≠ j2 then
  (frzs ((as.set j1 (.d .non)).set j2 (.d .non)) env1).bind fun p => (ownA p.2[i1]?).bind fun c1 => (ownA p.2[i2]?).bind fun c2 => (m ((((p.1 ++ dfs).map .d).set j1 (.own true c1.2)).set j2 (.own true c2.2))).bind (outMM i1 j1 c1.1 i2 j2 c2.1 p.2) else none
theorem post_outMM {vs : List V} {fr : FR} {r : Re} {b1 b2 : Bool} {c1 c2 : C} (S : Sta K F R σ H env) (hn : j1 ≠ j2) (hin : i1 ≠ i2) (hi1 : env[i1]? = some (.own b1 c1)) (hp1 : σ[i1]? = some (some (V.ref p1))) (hi2 : env[i2]? = some (.own b2 c2)) (hp2 : σ[i2]? = some (some (V.ref p2)))
    (e : outMM i1 j1 b1 i2 j2 b2 env fr = some r) (q : PostE K W F R σ r Q) : PostF K F (cal2 R σ H env i1 i2 j1 p1 p2) vs fr Q (WE W σ) := by
  cases fr with
  | ex x outs =>
    have e : ((ownT outs[j1]?).bind fun c1 => (ownT outs[j2]?).bind fun c2 => some (Re.ex x ((env.set i1 (.own b1 c1)).set i2 (.own b2 c2)))) = some r := e
    rw [Option.bind_eq_some_iff] at e
    obtain ⟨d1, h1, e⟩ := e
    rw [Option.bind_eq_some_iff] at e
    obtain ⟨d2, h2, e⟩ := e
    cases e
    exact fun cls d F' H' e1 S1 hx => q cls d F' H' e1 (S.ret2 e1 S1 hn hin hi1 hp1 hi2 hp2 (ownT_some h1) (ownT_some h2)) hx
  | ok a outs =>
    have e : ((ownT outs[j1]?).bind fun c1 => (ownT outs[j2]?).bind fun c2 => (retV a).map (Re.ok · ((env.set i1 (.own b1 c1)).set i2 (.own b2 c2)))) = some r := e
    rw [Option.bind_eq_some_iff] at e
    obtain ⟨d1, h1, e⟩ := e
    rw [Option.bind_eq_some_iff] at e
    obtain ⟨d2, h2, e⟩ := e
    rw [Option.map_eq_some_iff] at e
    obtain ⟨a', h, rfl⟩ := e
    have h1 := ownT_some h1
    have h2 := ownT_some h2
    have ha : a' = a ∧ ∀ i, a ≠ .cv i := by
      cases a with
      | d x => cases h; exact ⟨rfl, by simp⟩
      | own c => cases h; exact ⟨rfl, by simp⟩
      | cv i => cases h
    obtain ⟨rfl, hcv⟩ := ha
    intro v F' H' e1 S1 rv'
    refine q v F' H' e1 (S.ret2 e1 S1 hn hin hi1 hp1 hi2 hp2 h1 h2) ?_
    cases a' with
    | d x => exact rv'
    | cv i => exact absurd rfl (hcv i)
    | own c =>
      obtain ⟨q1, o1, z1, z2, z3, z4, z5, z6⟩ := rv'
      obtain ⟨y1, y2⟩ := cal2_none S z3
      have t1 : outs = outs := rfl
      refine ⟨q1, o1, z1, z2, y1, z4, z5, fun k b' c' hk hz => ?_⟩
      have g1 := S1.tag j1 d1 h1
      rw [show (cal2 R σ H env i1 i2 j1 p1 p2).t j1 = p1 from if_pos rfl] at g1
      have g2 := S1.tag j2 d2 h2
      rw [show (cal2 R σ H env i1 i2 j1 p1 p2).t j2 = p2 from if_neg (Ne.symm hn)] at g2
      rcases set2_get hin hk with ⟨rfl, _⟩ | ⟨rfl, _⟩ | ⟨k1, k2, hk⟩
      · rw [hp1] at hz
        cases hz
        exact z6 j1 true d1 h1 g1
      · rw [hp2] at hz
        cases hz
        exact z6 j2 true d2 h2 g2
      · exact y2 k b' c' k1 k2 hk hz
theorem dE_callMM {np : Nat} {m : List SV → Option FR} {dfs : List D} {dvs : List V} {fa : SA} (hd : ∀ F : Hp, RelAll K F dvs dfs) (hnp : ∀ as fr, m as = some fr → as.length = np) (h : dE K W (callMM j1 j2 m dfs fa) σ H Q) : tCallSD (spD K np m) dvs (WE W) (dA K W fa) σ H Q := by
  obtain ⟨env, F, R, r, S, e, p⟩ := h
  rcases bindA_inv e with ⟨as, env1, h1, h2⟩ | ⟨x, env1, h1, rfl⟩
  · rw [Option.bind_eq_some_iff] at h2
    obtain ⟨i1, ha1, h2⟩ := h2
    rw [Option.bind_eq_some_iff] at h2
    obtain ⟨i2, ha2, h2⟩ := h2
    have ha1 := cvI_some ha1
    have ha2 := cvI_some ha2
    obtain ⟨⟨hin, hn⟩, h2⟩ := ite_none h2
    rw [Option.bind_eq_some_iff] at h2
    obtain ⟨⟨xs, env2⟩, h3, h4⟩ := h2
    rw [Option.bind_eq_some_iff] at h4
    obtain ⟨⟨b1, c1⟩, hi1, h4⟩ := h4
    rw [Option.bind_eq_some_iff] at h4
    obtain ⟨⟨b2, c2⟩, hi2, h4⟩ := h4
    have hi1 := ownA_some hi1
    have hi2 := ownA_some hi2
    rw [Option.bind_eq_some_iff] at h4
    obtain ⟨fr, h4, h5⟩ := h4
    refine ⟨env, F, R, _, S, h1, fun vs F1 H1 R1 e1 eR S1 hv => ?_⟩
    obtain ⟨v1, hv1, hs1⟩ := heldAll_at hv ha1
    obtain ⟨v2, hv2, hs2⟩ := heldAll_at hv ha2
    obtain ⟨F2, R2, e2, eR2, S2, rr⟩ := frzs_held eR S1 (heldAll_set j2 (heldAll_set j1 hv)) h3
    have S3 := S2.unhold eR2
    obtain ⟨q1, o1, y1, _⟩ := S3.own i1 b1 c1 hi1
    rw [hs1] at y1
    cases y1
    obtain ⟨q2, o2, y2, _⟩ := S3.own i2 b2 c2 hi2
    rw [hs2] at y2
    cases y2
    have hpn : q1 ≠ q2 := fun z => hin (S3.inj i1 i2 _ _ _ _ q1 hi1 hi2 hs1 (by rw [hs2, z]))
    have hl1 : j1 < vs.length := (List.getElem?_eq_some_iff.mp hv1).1
    have hl2 : j2 < vs.length := (List.getElem?_eq_some_iff.mp hv2).1
    have rr2 : RelAll K F2 (((vs ++ dvs).set j1 .non).set j2 .non) (xs ++ dfs) := by
      rw [List.set_append_left _ _ hl1, List.set_append_left _ _ (by rw [List.length_set]; exact hl2)]
      exact rr.app (hd F2)
    have g1 : (vs ++ dvs)[j1]? = some (.ref q1) := by rw [List.getElem?_append_left hl1]; exact hv1
    have g2 : (vs ++ dvs)[j2]? = some (.ref q2) := by rw [List.getElem?_append_left hl2]; exact hv2
    exact ⟨F2, cal2 R σ H1 env2 i1 i2 j1 q1 q2, _, fr, hnp _ _ h4, S3.call2 hn hi1 hs1 hi2 hs2 hpn g1 g2 rr2, h4, post_outMM S3 hn hin hi1 hs1 hi2 hs2 h5 (p.up (e1.trans e2))⟩
  · exact ⟨env, F, R, _, S, h1, p⟩
end
section
variable {X : Cx} {W : WX} {k l : Nat} {x : Str} {np : Nat} {m : List SV → Option FR} {dfs : List D} {fa : SA} {p pos : Pos} {e : Expr} {es : List Expr}
theorem pd_callMMN (j1 j2 : Nat) (C : Def X.prog X.w X.K X.mg X.base k x np m dfs) (hr : Room l X.A) (hj : k ≤ l) (ha : PA X (e :: es) (dA X.K W fa)) (hg : Gl X x := by rfl)
    (hdb : (x == ("__debug__" : Str)) = false := by decide) (he : starEach (e :: es) X.env = (false, eval e X.env) :: starEach es X.env := by rfl) (hpl : (backTo pos (starEach es X.env)).any (·.1) = false := by rfl) :
    PE X (.Call (.Name x p) (e :: es) [] pos) (dE X.K W (callMM j1 j2 m dfs fa)) := by
  obtain ⟨f, fd, ps, ds, dvs, h1, h2, h3, h4, h5, h6, h7⟩ := C.ex
  exact (pe_callSD h1 (hr.mono hj) hg h2 h3 h4 h5 (fun σ pins H s e s' I c => c.elim) ha hdb he hpl).wk fun _ _ _ q => dE_callMM h6 h7 q
end
/-! reading a meaning backwards -/
theorem w_mm {env e1 e2 e3 : Sl} {Q : QE} {E : QX} {fa : SA} {m : List SV → Option FR} {dfs : List D} {j1 j2 i1 i2 : Nat} {as : List RV} {xs : List D} {b1 b2 : Bool} {c1 c2 d1 d2 : C} {x : D} {o : List SV}
    (h0 : fa env = some (.ok as e1)) (h1 : cvI as[j1]? = some i1) (h2 : cvI as[j2]? = some i2) (hn : i1 ≠ i2 ∧ j1 ≠ j2) (hf : frzs ((as.set j1 (.d .non)).set j2 (.d .non)) e1 = some (xs, e2)) (g1 : ownA e2[i1]? = some (b1, c1)) (g2 : ownA e2[i2]? = some (b2, c2))
    (hm : m ((((xs ++ dfs).map .d).set j1 (.own true c1)).set j2 (.own true c2)) = some (.ok (.d x) o)) (o1 : ownT o[j1]? = some d1) (o2 : ownT o[j2]? = some d2) (he : (e2.set i1 (.own b1 d1)).set i2 (.own b2 d2) = e3) (q : Q (.d x) e3) : wE (callMM j1 j2 m dfs fa) env Q E := by
  have : callMM j1 j2 m dfs fa env = some (.ok (.d x) e3) := by
    unfold callMM
    rw [h0]
    show ((cvI as[j1]?).bind fun i1 => (cvI as[j2]?).bind fun i2 => if i1 ≠ i2 ∧ j1 ≠ j2 then _ else none) = _
    rw [h1, Option.bind_some, h2, Option.bind_some, if_pos hn, hf, Option.bind_some]
    dsimp only
    rw [g1, Option.bind_some, g2, Option.bind_some]
    dsimp only
    rw [hm, Option.bind_some]
    show ((ownT o[j1]?).bind fun c1 => (ownT o[j2]?).bind fun c2 => (retV (.d x)).map (Re.ok · ((e2.set i1 (.own b1 c1)).set i2 (.own b2 c2)))) = _
    rw [o1, Option.bind_some, o2, Option.bind_some, he]
    rfl
  unfold wE
  rw [this]
  exact q
end
end Dw
namespace Dw
noncomputable section
open PySem PySem.Spec PyProof.Rows L2
variable [Glo] [Tabs]
/-! ### dicts, read backwards -/
section
variable {env : Sl} {Q R : QE} {E : QX} {N B Ct : Sl → Prop} {fe fi : SE} {j : Nat}
theorem w_newK (q : Q (.own (.dct [] [])) env) : wE newK env Q E := q
theorem w_setK (h : wE fe env (fun u e1 => ∃ d e2 t ks vs, frz u e1 = some (d, e2) ∧ e2[j]? = some (.own t (.dct ks vs)) ∧ wE fi e2 (fun v e3 => ∃ k t' ks' vs' e4, pk v e3 = some k ∧ e3[j]? = some (.own t' (.dct ks' vs')) ∧ (isK k = true ∧ ks'.length ≤ 1000) ∧
    e3.set j (.own t' (.dct (putDk ks' k) (putDv ks' vs' k d))) = e4 ∧ N e4) E) E) : wS (setK j fi fe) env N ⟨R, B, Ct, E⟩ := wrs_bind (wr_mono h (fun u e1 h => by
  obtain ⟨d, e2, t, ks, vs, h1, h2, h3⟩ := h
  rw [h1, Option.bind_some]
  dsimp only
  rw [h2]
  show wrs (bindS (fi e2) _) _ _
  exact wrs_bind (wr_mono h3 (fun v e3 h => by
    obtain ⟨k, t', ks', vs', e4, g1, g2, g3, g4, g5⟩ := h
    rw [g1, Option.bind_some, g2]
    show wrs (if isK k = true ∧ ks'.length ≤ 1000 then some (Out.nx (e3.set j (.own t' (.dct (putDk ks' k) (putDv ks' vs' k d))))) else none) _ _
    rw [if_pos g3, g4]
    exact g5) fun _ _ h => h)) fun _ _ h => h)
end
end
end Dw
namespace Dw
noncomputable section
open PySem PySem.Spec PyProof.Rows L2
/-! ### the end of a law in which repr is asked and tables of code grow -/
def tabH (K : PySem.W.Frag) (ts : List Addr) (a : Addr) (o : Obj) (u : HO) : Hp := fun b => if b ∈ ts then some (.tbl #[]) else scrH K a o u b
theorem tabH_inv {K : PySem.W.Frag} {ts : List Addr} {a b : Addr} {o : Obj} {u z : HO} (h : tabH K ts a o u b = some z) : (b ∈ ts ∧ z = .tbl #[]) ∨ (b ∉ ts ∧ b = a ∧ K.lookup a = none ∧ z = .frz o u) := by
  unfold tabH at h
  by_cases c : b ∈ ts
  · rw [if_pos c] at h
    cases h
    exact .inl ⟨c, rfl⟩
  · rw [if_neg c] at h
    exact .inr ⟨c, scrH_inv h⟩
theorem law_callRT {P : Program} {w : World} {K : PySem.W.Frag} {mg mb : Str → Option Value} {k : Nat} {fa a : Addr} {cs : List (Addr × Addr)} {fd : FuncData} {x : Str} {sp : Sp} {s₁ : Shared} {vs : List Value} {ns : List Int}
    (KX : K.In s₁.heap) (hns : s₁.heap.Ns mainGlobals mg) (hb : s₁.heap.Ns builtinsNs mb) (hbb : ∀ x : Str, x ≠ "__name__" → mb x = bootBuiltins x) (hlim : s₁.heap.NoLimit) (hg : s₁.gens = #[])
    (tz : ∀ c ∈ cs, s₁.heap.get? c.2 = some { cls := .none, data := .fields #[] }) (tn : ∀ c ∈ cs, K.lookup c.2 = none) (td : ∀ c ∈ cs, PySem.W.CodeHd s₁.heap c.1 c.2)
    (bmod : ∃ (m : Addr) (q : Obj), mg "__builtins__" = some (.ref m) ∧ m ≠ builtinsNs ∧ s₁.heap.get? m = some q ∧ q.cls = .type "module" ∧ q.dict = some builtinsNs ∧ q.data = .plain)
    (ha : s₁.heap.get? a = some { cls := .type "list", data := .seq vs.toArray }) (hi : IntsAre vs ns) (hl : ns.length ≤ sizeLine) (hr : Room k callerA)
    (F : ∀ base : Heap, K.In base → base.Ns mainGlobals mg → (∀ c ∈ cs, GxR.TabB base mg c.1 c.2) → FnR P w K mg base CX0 k fa fd [x] sp) (hbind : ∀ (s : Shared) (u : Value), BindsTo s fd ⟨[u], []⟩ [(x, u)])
    (hsp : ∀ H : Hp, (∀ c ∈ cs, H c.2 = some (.tbl #[])) → SqL K H a (ns.map V.int) → sp [.ref a] H (fun v _ => v = .bl true) fun _ _ _ => False) :
    codeAny (model P w) callerA (.call (.ref fa) ⟨[.ref a], []⟩) (fun r s' => r = .ok (.ret (.bool true)) ∧ OldK s₁.heap s'.heap ∧ s'.os = s₁.os ∧ AllBare s'.gens) s₁ := by
  have rv := vals_ints hi
  have hln : ns.length = vs.length := by have := rv.length; rwa [List.length_map] at this
  let o : Obj := { cls := .type "list", data := .seq vs.toArray }
  let u : HO := .lst (ns.map V.int)
  let ts : List Addr := cs.map (·.2)
  let H : Hp := tabH K ts a o u
  have tmem : ∀ {c : Addr × Addr}, c ∈ cs → c.2 ∈ ts := fun hc => List.mem_map.mpr ⟨_, hc, rfl⟩
  have tat : ∀ {b : Addr}, b ∈ ts → s₁.heap.get? b = some { cls := .none, data := .fields #[] } := fun hb => by
    obtain ⟨c, hc, rfl⟩ := List.mem_map.mp hb
    exact tz c hc
  have tno : ∀ {b : Addr}, b ∈ ts → K.lookup b = none := fun hb => by
    obtain ⟨c, hc, rfl⟩ := List.mem_map.mp hb
    exact tn c hc
  have an : a ∉ ts := fun z => by
    have z := tat z
    rw [ha] at z
    cases z
  -- the script, seen
  have seen : SqL K H a (ns.map V.int) := by
    cases hk : K.lookup a with
    | none => exact .inl (.inr ⟨o, (if_neg an).trans (if_pos ⟨rfl, hk⟩)⟩)
    | some q =>
      have e := KX a q hk
      rw [ha] at e
      cases e
      exact .inr ⟨_, vs.toArray, _, hk, rfl, rfl, rfl, by rw [List.size_toArray, ← hln]; exact hl, by simpa using rv⟩
  have hok : HOk P w H s₁.heap := fun b z e => by
    rcases tabH_inv e with ⟨hb, rfl⟩ | ⟨_, rfl, _, rfl⟩
    · exact tat hb
    · exact ⟨ha, by rw [List.length_map]; exact hl, vs, _, rv, ha⟩
  -- what is neither the script nor a table stands in the base
  have off : ∀ {b : Addr} {q : Obj}, s₁.heap.get? b = some q → (b = a → ∃ z, K.lookup a = some z) → b ∉ ts → (hidT s₁.heap H).get? b = some q := fun {b q} e n nt => hidT_get e (by
    cases hb : H b with
    | none => rfl
    | some z =>
      rcases tabH_inv hb with ⟨hb, _⟩ | ⟨_, e1, e2, _⟩
      · exact absurd hb nt
      · obtain ⟨z', hz⟩ := n e1
        rw [e2] at hz
        cases hz)
  have other : ∀ {b : Addr} {q : Obj}, s₁.heap.get? b = some q → (∀ ys n, q.data ≠ .seq ys n) → q.data ≠ .fields #[] → (hidT s₁.heap H).get? b = some q := fun {b q} e n1 n2 => off e (fun z => by
    rw [z, ha] at e
    cases e
    exact absurd rfl (n1 _ _)) fun z => by
    rw [tat z] at e
    cases e
    exact n2 rfl
  have dicts : ∀ {b : Addr} {m : Str → Option Value}, s₁.heap.Ns b m → (hidT s₁.heap H).Ns b m := fun {b m} ⟨q, es, ep, e, d, r⟩ => ⟨q, es, ep, other e (fun _ _ z => by rw [d] at z; cases z) (fun z => by rw [d] at z; cases z), d, r⟩
  have hK : K.In (hidT s₁.heap H) := fun b q e => off (KX b q e) (fun z => ⟨q, by rw [← z]; exact e⟩) fun z => by
    rw [tno z] at e
    cases e
  have isG : ∀ {b : Addr} {q : Obj}, s₁.heap.get? mainGlobals = some q → s₁.heap.get? b = some q → (∀ es ep, q.data ≠ .dict es ep) → False := fun {b q} e _ n => by
    obtain ⟨q', es, ep, e', d, _⟩ := hns
    rw [e] at e'
    cases e'
    exact n _ _ d
  have TB : ∀ c ∈ cs, GxR.TabB (hidT s₁.heap H) mg c.1 c.2 := fun c hc => by
    obtain ⟨q, us, v1, v2, v3, v4, v5, v6, v7, g, g1, g2, g3, rest⟩ := td c hc
    obtain ⟨m, qm, m1, m2, m3, m4, m5, m6⟩ := bmod
    refine ⟨⟨q, us, v1, v2, v3, v4, v5, v6, v7, other g (fun _ _ z => by rw [g2] at z; cases z) (fun z => by rw [g2] at z; cases z; simp at g3), g1, g2, g3, rest⟩, ⟨m, qm, m1, m2, fun z => ?_, fun z => ?_, other m3 (fun _ _ z => by rw [m6] at z; cases z) (fun z => by rw [m6] at z; cases z), m4, m5, m6⟩, fun z => ?_⟩
    · subst z
      exact isG m3 m3 fun _ _ z => by rw [m6] at z; cases z
    · rw [z, tz c hc] at m3
      cases m3
      cases m6
    · have := tz c hc
      rw [← z] at this
      exact isG this this fun _ _ z => by cases z
  obtain ⟨mc, l1, l2⟩ := hlim
  have e0 : Env0 P w K mg (hidT s₁.heap H) callerA [] s₁ H := ⟨rfl, ⟨hK, dicts hns, ⟨mb, dicts hb, hbb⟩, ⟨mc, dicts l1, l2⟩⟩, fun b q e => of_hidT e, Nat.le_of_eq (hidT_size _ _), trivial, fun b z => absurd (show b ∈ ([] : List Addr) from z) (by simp), hok, .of_eq hg⟩
  have Ht : ∀ c ∈ cs, H c.2 = some (.tbl #[]) := fun c hc => if_pos (tmem hc)
  refine codeAny_mono ((F _ hK (dicts hns) TB).run callerA [] s₁ H ⟨[.ref a], []⟩ [.ref a] [.ref a] _ _ rfl hr e0 (hbind s₁ (.ref a)) (.cons rfl .nil) (hsp H Ht seen)) fun r s' h => ?_
  match r, h with
  | .ok (.ret z), ⟨v, H', os, bare, un, hok', rz, q⟩ =>
    have q : v = .bl true := q
    subst q
    obtain rfl : z = Value.bool true := rz
    have stays : ∀ {b : Addr} {p : Obj}, b ∉ ts → s₁.heap.get? b = some p → s'.heap.get? b = some p := fun {b p} nt e => by
      cases hH : H b with
      | none => exact un.keep b p e hH (fun z => absurd (show b ∈ ([] : List Addr) from z) (by simp)) (by simp)
      | some z =>
        rcases tabH_inv hH with ⟨hb, _⟩ | ⟨_, e1, _, rfl⟩
        · exact absurd hb nt
        · obtain ⟨g1, _⟩ := hok b _ hH
          obtain ⟨g2, _⟩ := hok' b _ (un.frzs b _ _ hH)
          rw [e] at g1
          cases g1
          exact g2
    have more : ∀ {c : Addr × Addr}, c ∈ cs → ∃ ps : Array Value, s'.heap.get? c.2 = some { cls := .none, data := .fields ps } := fun {c} hc => by
      obtain ⟨ps, y⟩ := un.tbls c.2 #[] (Ht c hc)
      exact ⟨_, hok' c.2 _ y⟩
    refine ⟨rfl, ⟨fun b p e => ?_, fun b p e => ?_⟩, os, bare⟩
    · by_cases hb : b ∈ ts
      · obtain ⟨c, hc, rfl⟩ := List.mem_map.mp hb
        obtain ⟨ps, hp⟩ := more hc
        rw [tz c hc] at e
        cases e
        exact .inr (.inl ⟨((td c hc).tab (tz c hc)).isCodeTable, rfl, #[], ps, rfl, by simpa using hp⟩)
      · exact .inl (stays hb e)
    · by_cases hb : b ∈ ts
      · obtain ⟨c, hc, rfl⟩ := List.mem_map.mp hb
        obtain ⟨ps, hp⟩ := more hc
        exact ⟨_, hp⟩
      · exact ⟨p, stays hb e⟩
theorem walk_RT {l : PySem.W.OpenLaw} {n k : Nat} {q : Program} {loose : List Str} {XP : (Str → Option Value) → Heap → Prop} {YP : World → Heap → Prop} {d : DefRec} {K : Params → PySem.W.Frag} {x : Str} {m : List SV → Option FR} (gl : World → (Str → Option Value) → Glo) (ys : List Str)
    (hn : l.most = some n) (hn2 : n ≤ sizeLine) (hdf : d.params.defaults = []) (hr : Room k callerA) (hY : ∀ (w : World) (h : Heap), YP w h → (K w.params).In h)
    (hrec : (ys.all fun y => ((recsOf q).find? fun e => e.name == y).isSome) = true) (hfree : ∀ p : Params, (ys.all fun y => tabFree (K p) y) = true)
    (F : ∀ (w : World) (mg : Str → Option Value) (fa : Addr) (h : Heap), (K w.params).In h → h.Ns mainGlobals mg → mg d.name = some (.ref fa) → (∀ y ∈ ys, PySem.W.tabIn (K w.params) y = some (cpOf (K w.params) y)) →
      ∃ fd : FuncData, (∀ (s : Shared) (u : Value), BindsTo s fd ⟨[u], []⟩ [(x, u)]) ∧ ∀ base : Heap, (K w.params).In base → base.Ns mainGlobals mg → (∀ y ∈ ys, GxR.TabB base mg (cpOf (K w.params) y).1 (cpOf (K w.params) y).2) → FnR l.prog w (K w.params) mg base CX0 k fa fd [x] (@spD (gl w mg) (tabsOf (K w.params) ys) (K w.params) 1 m))
    (hm : ∀ (_ : Glo) (_ : Tabs) (ns : List Int), ns.length ≤ n → ∃ o, m [.d (.lst (ns.map .int))] = some (.ok (.d (.bl true)) o)) :
    PySem.W.WalkO q loose XP YP l.row.toRowW d [] (fun f vs => PySem.call f vs) := by
  refine Att.attach_callB hn hdf fun w s₀ s₁ mg mb fa o pm cd doc a vs ns G Y ho hd hcd hmg hobj hints hlen hbits hg => ?_
  have KX := hY w _ Y
  have fr : ∀ y ∈ ys, PySem.W.tabIn (K w.params) y = some (cpOf (K w.params) y) ∧ (K w.params).lookup (cpOf (K w.params) y).2 = none := fun y hy => cpOf_is (List.all_eq_true.mp (hfree w.params) y hy)
  have tb : ∀ y ∈ ys, PySem.W.CodeHd s₁.heap (cpOf (K w.params) y).1 (cpOf (K w.params) y).2 ∧ s₁.heap.get? (cpOf (K w.params) y).2 = some { cls := .none, data := .fields #[] } := fun y hy => by
    obtain ⟨dr, hdr⟩ := Option.isSome_iff_exists.mp (List.all_eq_true.mp hrec y hy)
    exact PySem.W.tab_of G.T KX hdr (fr y hy).1
  obtain ⟨fd, hb, hF⟩ := F w mg fa _ KX G.T.g hmg fun y hy => (fr y hy).1
  have of : ∀ {p : Addr × Addr}, p ∈ ys.map (cpOf (K w.params)) → ∃ y ∈ ys, p = cpOf (K w.params) y := fun h => let ⟨y, h1, h2⟩ := List.mem_map.mp h; ⟨y, h1, h2.symm⟩
  obtain ⟨o, ho⟩ := hm (gl w mg) (tabsOf (K w.params) ys) ns hlen
  exact law_callRT (cs := ys.map (cpOf (K w.params))) KX G.T.g G.T.b G.T.builtins G.T.nolimit hg (fun p h => by obtain ⟨y, hy, rfl⟩ := of h; exact (tb y hy).2) (fun p h => by obtain ⟨y, hy, rfl⟩ := of h; exact (fr y hy).2) (fun p h => by obtain ⟨y, hy, rfl⟩ := of h; exact (tb y hy).1) G.T.bmain hobj hints (Nat.le_trans hlen hn2) hr
    (fun base h1 h2 h3 => hF base h1 h2 fun y hy => h3 _ (List.mem_map.mpr ⟨y, hy, rfl⟩)) hb fun H hH hS => by
      refine @law_sp (gl w mg) (tabsOf (K w.params) ys) _ _ _ _ _ _ _ (fun z hz => ?_) hS ho
      obtain ⟨y, hy, hz⟩ : ∃ y ∈ ys, z = (cpOf (K w.params) y).2 := hz
      subst hz
      exact ⟨#[], hH _ (List.mem_map.mpr ⟨y, hy, rfl⟩), trivial⟩
end
end Dw
namespace P_talkalike_k04_forms
noncomputable section
open PySem PySem.Spec PyProof.Rows L2 Dw
variable [GI : Glo] [TI : Tabs]
def topS (i : Nat) : Stmt := PySem.Challenge.pw_talkalike_k04_forms.main.body.getD i (.Pass ⟨0, 0, 0, 0⟩)
/-! ### class TalkError -/
abbrev i_TalkError : Stmt := (clsBody (topS 1)).getD 0 (.Pass ⟨0, 0, 0, 0⟩)
theorem si_TalkError : FnScope ["self", "word", "place"] ["self", "word", "place"] (defScope i_TalkError) := ⟨rfl, rfl, rfl, by decide +kernel, rfl, by decide +kernel, by decide +kernel⟩
theorem oi_TalkError {P : Program} {w : World} {K : PySem.W.Frag} {mg : Str → Option Value} {base : Heap} {f : Addr} {fd : FuncData} {dvs : List V} (F : FunD K "__init__" "TalkError.__init__" (defArgs i_TalkError) (defBody i_TalkError) (defScope i_TalkError) dvs [] f fd) (hm : mg "ValueError" = none) (vV : PySem.W.findCls K (.type "ValueError") (.type "type") "__init__" = some (.val (.builtin "ValueError.__init__"))) : FnOk P w K mg base CX0 1 f fd ["self", "word", "place"] (spTE K) :=
  F.ok si_TalkError spTE_len fun cdv A outer s H vs Q E hr h => ⟨t_te K, pss_cons (ps_expr (pe_veinit (by rfl) hm vV (pa_cons (pv 0) (pa_cons (pv 1) pa_nil)))) (pss_cons (ps_ost (pv 0) (pv 1)) (pss_one (ps_ost (pv 0) (pv 2)))), rd_te h⟩
/-! ### class BadPattern -/
abbrev i_BadPattern : Stmt := (clsBody (topS 2)).getD 0 (.Pass ⟨0, 0, 0, 0⟩)
theorem si_BadPattern : FnScope ["self", "place"] ["self", "place"] (defScope i_BadPattern) := ⟨rfl, rfl, rfl, by decide +kernel, rfl, by decide +kernel, by decide +kernel⟩
theorem oi_BadPattern {P : Program} {w : World} {K : PySem.W.Frag} {mg : Str → Option Value} {base : Heap} {f : Addr} {fd : FuncData} {dvs : List V} (F : FunD K "__init__" "BadPattern.__init__" (defArgs i_BadPattern) (defBody i_BadPattern) (defScope i_BadPattern) dvs [] f fd) {CT fT : Addr} {fdT : FuncData} (hm : mg "TalkError" = some (.ref CT)) (rd : PySem.W.readsIn K CT (.type "type") = true) (ga : PySem.W.specialIn K (.ref CT) "__getattribute__" = some (some (.builtin "type.__getattribute__"))) (fc : PySem.W.findCls K (.ref CT) (.type "type") "__init__" = some (.val (.ref fT))) (FT : FnOk P w K mg base CX0 1 fT fdT ["self", "word", "place"] (spTE K)) (kT : PySem.W.keepIn K (.ref fT) = true) (bT : Binds K fdT ["self", "word", "place"] []) : FnOk P w K mg base CX0 2 f fd ["self", "place"] (spXI K "BadPattern") :=
  F.ok si_BadPattern spXI_len fun cdv A outer s H vs Q E hr h => ⟨t_xi K "BadPattern", pss_one (ps_expr (pe_clsInit (by rfl) hm rd ga fc FT hr kT bT (fun σ pins H s e s' I c => c.elim) (pa_cons (pv 0) (pa_cons pe_str (pa_cons (pv 1) pa_nil))))), rd_xi h⟩
/-! ### class TooManyPatterns -/
abbrev i_TooManyPatterns : Stmt := (clsBody (topS 3)).getD 0 (.Pass ⟨0, 0, 0, 0⟩)
theorem si_TooManyPatterns : FnScope ["self", "place"] ["self", "place"] (defScope i_TooManyPatterns) := ⟨rfl, rfl, rfl, by decide +kernel, rfl, by decide +kernel, by decide +kernel⟩
theorem oi_TooManyPatterns {P : Program} {w : World} {K : PySem.W.Frag} {mg : Str → Option Value} {base : Heap} {f : Addr} {fd : FuncData} {dvs : List V} (F : FunD K "__init__" "TooManyPatterns.__init__" (defArgs i_TooManyPatterns) (defBody i_TooManyPatterns) (defScope i_TooManyPatterns) dvs [] f fd) {CT fT : Addr} {fdT : FuncData} (hm : mg "TalkError" = some (.ref CT)) (rd : PySem.W.readsIn K CT (.type "type") = true) (ga : PySem.W.specialIn K (.ref CT) "__getattribute__" = some (some (.builtin "type.__getattribute__"))) (fc : PySem.W.findCls K (.ref CT) (.type "type") "__init__" = some (.val (.ref fT))) (FT : FnOk P w K mg base CX0 1 fT fdT ["self", "word", "place"] (spTE K)) (kT : PySem.W.keepIn K (.ref fT) = true) (bT : Binds K fdT ["self", "word", "place"] []) : FnOk P w K mg base CX0 2 f fd ["self", "place"] (spXI K "TooManyPatterns") :=
  F.ok si_TooManyPatterns spXI_len fun cdv A outer s H vs Q E hr h => ⟨t_xi K "TooManyPatterns", pss_one (ps_expr (pe_clsInit (by rfl) hm rd ga fc FT hr kT bT (fun σ pins H s e s' I c => c.elim) (pa_cons (pv 0) (pa_cons pe_str (pa_cons (pv 1) pa_nil))))), rd_xi h⟩
/-! ### is_text -/
abbrev s_is_text : Stmt := topS 6
theorem sc_is_text : FnScope ["value"] ["value"] (defScope s_is_text) := ⟨rfl, rfl, rfl, by decide +kernel, rfl, by decide +kernel, by decide +kernel⟩
def b_is_text : SS :=
    (retS (andE (isiE "str" (varE 0)) (allE (varE 0) (fun c => decide (c ∈ [97, 98, 99, 100, 101, 102, 103, 104, 105, 106, 107, 108, 109, 110, 111, 112, 113, 114, 115, 116, 117, 118, 119, 120, 121, 122])))))
def m_is_text : List SV → Option FR := defM 1 0 b_is_text
theorem ok_is_text {P : Program} {w : World} {K : PySem.W.Frag} {mg : Str → Option Value} {base : Heap} {f : Addr} {fd : FuncData} (F : Fun K "is_text" "is_text" s_is_text f fd) (z_all : mg "all" = none) (z_isinstance : mg "isinstance" = none) (z_str : mg "str" = none) (cs_LETTERS : ∃ t, mg "LETTERS" = some (.str (mk [97, 98, 99, 100, 101, 102, 103, 104, 105, 106, 107, 108, 109, 110, 111, 112, 113, 114, 115, 116, 117, 118, 119, 120, 121, 122]) t))  {cc pp : Addr} (hTP : Tabs.T pp) (TB : GxR.TabB base mg cc pp) (hc : fd.code = .ref cc) : FnOk P w K mg base CX0 1 f fd ["value"] (spD K 1 m_is_text) :=
  fndC (k := 0) (n := 0) F sc_is_text rfl hc fun A outer s H E hr =>
    (pss_done (ps_dret (Dw.pd_and (pd_isi (n := "str") (by decide) z_isinstance z_str rfl (pd_var (pv 0))) (Dw.pd_one (pd_signs hTP hr (by rfl) z_all (by rfl) TB (by rfl) ⟨rfl, rfl, by decide +kernel, rfl, rfl, by decide +kernel⟩ (pd_var (pv 0)) (signT_in cs_LETTERS rfl rfl rfl))))))
/-! ### is_pattern -/
abbrev s_is_pattern : Stmt := topS 10
theorem sc_is_pattern : FnScope ["value"] ["value"] (defScope s_is_pattern) := ⟨rfl, rfl, rfl, by decide +kernel, rfl, by decide +kernel, by decide +kernel⟩
def b_is_pattern : SS :=
    (seqS (iteS (orE (notE (isiE "str" (varE 0))) (orE (two (op2 gtD) (callE lenD (consA (varE 0) nilA)) (constE (.int 8))) (two (op2 gtD) (metE "str" (textM countL) (varE 0) (consA (constE (.str [42])) nilA)) (constE (.int 2))))) (retS (constE (.bl false))) skipS)
    (retS (allE (varE 0) (fun c => (decide (c ∈ [97, 98, 99, 100, 101, 102, 103, 104, 105, 106, 107, 108, 109, 110, 111, 112, 113, 114, 115, 116, 117, 118, 119, 120, 121, 122]) || decide (c ∈ (Str.ofString "?*").cps.toList))))))
def m_is_pattern : List SV → Option FR := defM 1 0 b_is_pattern
theorem ok_is_pattern {P : Program} {w : World} {K : PySem.W.Frag} {mg : Str → Option Value} {base : Heap} {f : Addr} {fd : FuncData} (F : Fun K "is_pattern" "is_pattern" s_is_pattern f fd) (z_all : mg "all" = none) (z_isinstance : mg "isinstance" = none) (z_len : mg "len" = none) (z_str : mg "str" = none) (cs_LETTERS : ∃ t, mg "LETTERS" = some (.str (mk [97, 98, 99, 100, 101, 102, 103, 104, 105, 106, 107, 108, 109, 110, 111, 112, 113, 114, 115, 116, 117, 118, 119, 120, 121, 122]) t)) (cs_MOST_SIGNS : ∃ t, mg "MOST_SIGNS" = some (.int 8 t)) (cs_MOST_STARS : ∃ t, mg "MOST_STARS" = some (.int 2 t))  {cc pp : Addr} (hTP : Tabs.T pp) (TB : GxR.TabB base mg cc pp) (hc : fd.code = .ref cc) : FnOk P w K mg base CX0 1 f fd ["value"] (spD K 1 m_is_pattern) :=
  fndC (k := 0) (n := 0) F sc_is_pattern rfl hc fun A outer s H E hr =>
    (pss_dcons (ps_dif ((pw_dor (pt_dnot (pt_d (pd_isi (n := "str") (by decide) z_isinstance z_str rfl (pd_var (pv 0))))) (pw_dor (pt_gtd (pd_callB cr_len snd_len z_len rfl (pa_dcons (pd_var (pv 0)) pa_dnil)) (pd_cint cs_MOST_SIGNS)) (pw_dor1 (pt_gtd (pd_met (.inl rfl) PySem.F.plainAttrs_str PySem.F.slot_str_count PySem.F.type_str_count mt_count snd_count (pd_var (pv 0)) (pa_dcons (pd_str [42] (by rfl)) pa_dnil)) (pd_cint cs_MOST_STARS)))))).pt (pss_done (ps_dret pd_bl)) pss_dnil)
    (pss_done (ps_dret (pd_signs hTP hr (by rfl) z_all (by rfl) TB (by rfl) ⟨rfl, rfl, by decide +kernel, rfl, rfl, by decide +kernel⟩ (pd_var (pv 0)) (signT_or (signT_in cs_LETTERS rfl rfl rfl) (signT_inS rfl rfl))))))
/-! ### check_pattern -/
abbrev s_check_pattern : Stmt := topS 11
theorem sc_check_pattern : FnScope ["value"] ["value"] (defScope s_check_pattern) := ⟨rfl, rfl, rfl, by decide +kernel, rfl, by decide +kernel, by decide +kernel⟩
def b_check_pattern : SS :=
    (iteS (notE (callD m_is_pattern [] (consA (varE 0) nilA))) (raiseS "BadPattern" (consA (varE 0) nilA)) skipS)
def m_check_pattern : List SV → Option FR := defX 1 0 b_check_pattern
theorem ok_check_pattern {P : Program} {w : World} {K : PySem.W.Frag} {mg : Str → Option Value} {base : Heap} {f : Addr} {fd : FuncData} (F : Fun K "check_pattern" "check_pattern" s_check_pattern f fd) (x_BadPattern : XcD P w K mg base 2 "BadPattern") (c_is_pattern : Def P w K mg base 1 "is_pattern" 1 m_is_pattern []) : FnOk P w K mg base (L2.CX P w) 4 f fd ["value"] (spD K 1 m_check_pattern) :=
  fndX (k := 3) (n := 0) F sc_check_pattern rfl fun cdv A outer s H E hr =>
    (pss_done (ps_dif (pt_dnot (pt_d (pd_callN c_is_pattern hr (by decide) (pa_dcons (pd_var (pv 0)) pa_dnil)))) (pss_done (ps_draise x_BadPattern rfl (takes_of rfl rfl rfl rfl) hr (by decide) (pa_dcons (pd_var (pv 0)) pa_dnil))) pss_dnil))
/-! ### is_plain -/
abbrev s_is_plain : Stmt := topS 12
theorem sc_is_plain : FnScope ["pattern"] ["pattern"] (defScope s_is_plain) := ⟨rfl, rfl, rfl, by decide +kernel, rfl, by decide +kernel, by decide +kernel⟩
def b_is_plain : SS :=
    (retS (andE (two (op2 notInG) (constE (.str [63])) (varE 0)) (two (op2 notInG) (constE (.str [42])) (varE 0))))
def m_is_plain : List SV → Option FR := defM 1 0 b_is_plain
theorem ok_is_plain {P : Program} {w : World} {K : PySem.W.Frag} {mg : Str → Option Value} {base : Heap} {f : Addr} {fd : FuncData} (F : Fun K "is_plain" "is_plain" s_is_plain f fd)   : FnOk P w K mg base CX0 1 f fd ["pattern"] (spD K 1 m_is_plain) :=
  fnd (k := 0) (n := 0) F sc_is_plain rfl fun cdv A outer s H E hr =>
    (pss_done (ps_dret (Dw.pd_and (pd_notInG (r65 hr) (pd_str [63] (by rfl)) (pd_var (pv 0))) (Dw.pd_one (pd_notInG (r65 hr) (pd_str [42] (by rfl)) (pd_var (pv 0)))))))
/-! ### _law_cell -/
abbrev s_ulawucell : Stmt := topS 14
theorem sc_ulawucell : FnScope ["script", "k"] ["script", "k"] (defScope s_ulawucell) := ⟨rfl, rfl, rfl, by decide +kernel, rfl, by decide +kernel, by decide +kernel⟩
def b_ulawucell : SS :=
    (seqS (iteS (two (op2 ltG) (varE 1) (callE lenD (consA (varE 0) nilA))) (retS (two (op2 getD) (varE 0) (varE 1))) skipS)
    (retS (constE (.int 0))))
def m_ulawucell : List SV → Option FR := defM 2 0 b_ulawucell
theorem ok_ulawucell {P : Program} {w : World} {K : PySem.W.Frag} {mg : Str → Option Value} {base : Heap} {f : Addr} {fd : FuncData} (F : Fun K "_law_cell" "_law_cell" s_ulawucell f fd) (z_len : mg "len" = none)  : FnOk P w K mg base CX0 1 f fd ["script", "k"] (spD K 2 m_ulawucell) :=
  fnd (k := 0) (n := 0) F sc_ulawucell rfl fun cdv A outer s H E hr =>
    (pss_dcons (ps_dif (pt_ltg hr.units (pd_var (pv 1)) (pd_callB cr_len snd_len z_len rfl (pa_dcons (pd_var (pv 0)) pa_dnil))) (pss_done (ps_dret (pd_get (pd_var (pv 0)) (pd_var (pv 1))))) pss_dnil)
    (pss_done (ps_dret pd_int)))
/-! ### _law_row -/
abbrev s_ulawurow : Stmt := topS 15
theorem sc_ulawurow : FnScope ["cell", "count", "base", "row", "k", "number"] ["cell", "count", "base"] (defScope s_ulawurow) := ⟨rfl, rfl, rfl, by decide +kernel, rfl, by decide +kernel, by decide +kernel⟩
def l_ulawurow_1 : SS :=
    (iteS (two (op2 geD) (varE 0) (two (op2 powD) (constE (.int 10)) (constE (.int 18)))) (seqS (exprS (mutE appU (varE 3) (consA (two (op2 modD) (callE intC (consA (varE 0) nilA)) (varE 2)) nilA)))
    (asgS 0 (two (op2 fdivD) (varE 0) (varE 2)))) (seqS (asgS 5 (two (op2 modD) (callE intC (consA (two (op2 addD) (two (op2 addD) (two (op2 mulD) (varE 0) (constE (.int 48271))) (two (op2 mulD) (varE 4) (constE (.int 69621)))) (constE (.int 12345))) nilA)) (constE (.int 2147483647))))
    (seqS (asgS 5 (two (op2 modD) (callE intC (consA (two (op2 addD) (two (op2 addD) (two (op2 mulD) (varE 5) (varE 5)) (two (op2 mulD) (constE (.int 16807)) (varE 4))) (constE (.int 7))) nilA)) (constE (.int 998244353))))
    (seqS (asgS 5 (two (op2 modD) (callE intC (consA (two (op2 addD) (two (op2 addD) (two (op2 mulD) (varE 5) (varE 5)) (two (op2 mulD) (constE (.int 48271)) (varE 4))) (varE 0)) nilA)) (constE (.int 2147483629))))
    (exprS (mutE appU (varE 3) (consA (two (op2 modD) (callE intC (consA (two (op2 fdivD) (varE 5) (constE (.int 13))) nilA)) (varE 2)) nilA)))))))
def b_ulawurow : SS :=
    (seqS (asgS 3 (lstE nilA))
    (seqS (forS (argsI rng1 (consA (varE 1) nilA)) (.nm 4) l_ulawurow_1)
    (retS (varE 3))))
def m_ulawurow : List SV → Option FR := defM 3 3 b_ulawurow
theorem ok_ulawurow {P : Program} {w : World} {K : PySem.W.Frag} {mg : Str → Option Value} {base : Heap} {f : Addr} {fd : FuncData} (F : Fun K "_law_row" "_law_row" s_ulawurow f fd) (z_int : mg "int" = none) (z_range : mg "range" = none)  : FnOk P w K mg base CX0 1 f fd ["cell", "count", "base"] (spD K 3 m_ulawurow) :=
  fnd (k := 0) (n := 3) F sc_ulawurow rfl fun cdv A outer s H E hr =>
    (pss_dcons (ps_dset (i := 3) sc_ulawurow.nd rfl (.inl rfl) (pd_lst pa_dnil))
    (pss_dcons (ps_dfor PassesOwn.never rfl (pi_drange1 z_range (pa_dcons (pd_var (pv 1)) pa_dnil)) (pg_dnm sc_ulawurow.nd rfl (.inl rfl)) (pss_done (ps_dif (pt_ged (pd_var (pv 0)) (pd_pow pd_int pd_int)) (pss_dcons (ps_dexpr (pd_append (pd_var (pv 3)) (pa_dcons (pd_mod (pd_callTy cr_int snd_intC z_int rfl (pa_dcons (pd_var (pv 0)) pa_dnil)) (pd_var (pv 2))) pa_dnil)))
    (pss_done (ps_dset (i := 0) sc_ulawurow.nd rfl (.inl rfl) (pd_fdiv (pd_var (pv 0)) (pd_var (pv 2)))))) (pss_dcons (ps_dset (i := 5) sc_ulawurow.nd rfl (.inl rfl) (pd_mod (pd_callTy cr_int snd_intC z_int rfl (pa_dcons (pd_add (pd_add (pd_mul (pd_var (pv 0)) pd_int) (pd_mul (pd_var (pv 4)) pd_int)) pd_int) pa_dnil)) pd_int))
    (pss_dcons (ps_dset (i := 5) sc_ulawurow.nd rfl (.inl rfl) (pd_mod (pd_callTy cr_int snd_intC z_int rfl (pa_dcons (pd_add (pd_add (pd_mul (pd_var (pv 5)) (pd_var (pv 5))) (pd_mul pd_int (pd_var (pv 4)))) pd_int) pa_dnil)) pd_int))
    (pss_dcons (ps_dset (i := 5) sc_ulawurow.nd rfl (.inl rfl) (pd_mod (pd_callTy cr_int snd_intC z_int rfl (pa_dcons (pd_add (pd_add (pd_mul (pd_var (pv 5)) (pd_var (pv 5))) (pd_mul pd_int (pd_var (pv 4)))) (pd_var (pv 0))) pa_dnil)) pd_int))
    (pss_done (ps_dexpr (pd_append (pd_var (pv 3)) (pa_dcons (pd_mod (pd_callTy cr_int snd_intC z_int rfl (pa_dcons (pd_fdiv (pd_var (pv 5)) pd_int) pa_dnil)) (pd_var (pv 2))) pa_dnil))))))))))
    (pss_done (ps_dret (pd_var (pv 3))))))
/-! ### _law_value -/
abbrev s_ulawuvalue : Stmt := topS 16
theorem sc_ulawuvalue : FnScope ["script", "signs", "others", "size", "chars", "k"] ["script"] (defScope s_ulawuvalue) := ⟨rfl, rfl, rfl, by decide +kernel, rfl, by decide +kernel, by decide +kernel⟩
def e_ulawuvalue_1 : SE :=
    (two (op2 getD) (varE 1) (varE 5))
def e_ulawuvalue_2 : SE :=
    (two (op2 getD) (varE 1) (varE 5))
def e_ulawuvalue_3 : SE :=
    (two (op2 getD) (varE 1) (varE 5))
def b_ulawuvalue : SS :=
    (seqS (asgS 1 (constE (.str [97, 98, 99, 100, 101, 102, 103, 104, 105, 106, 107, 108, 109, 110, 111, 112, 113, 114, 115, 116, 117, 118, 119, 120, 121, 122, 97, 98, 99, 63, 63, 63, 42, 42, 42, 120, 121, 122, 63, 42])))
    (seqS (asgS 2 (constE (.str [65, 90, 48, 57, 32, 10, 9, 45, 95, 46, 44, 43, 33, 47, 92, 91, 93, 94, 36, 124, 40, 41, 123, 125])))
    (seqS (asgS 3 (two (op2 modD) (callE intC (consA (callD m_ulawucell [] (consA (varE 0) (consA (constE (.int 0)) nilA))) nilA)) (constE (.int 12))))
    (seqS (asgS 4 (compE [5] (srcE (callD m_ulawurow [] (consA (callD m_ulawucell [] (consA (varE 0) (consA (constE (.int 1)) nilA))) (consA (varE 3) (consA (constE (.int 40)) nilA))))) (.nm 5) none e_ulawuvalue_1))
    (seqS (iteS (andE (two (op2 eqD) (two (op2 modD) (callE intC (consA (callD m_ulawucell [] (consA (varE 0) (consA (constE (.int 2)) nilA))) nilA)) (constE (.int 3))) (constE (.int 1))) (two (op2 gtD) (varE 3) (constE (.int 0)))) (setL 4 (two (op2 modD) (callE intC (consA (callD m_ulawucell [] (consA (varE 0) (consA (constE (.int 3)) nilA))) nilA)) (varE 3)) (two (op2 getD) (varE 2) (two (op2 modD) (callE intC (consA (callD m_ulawucell [] (consA (varE 0) (consA (constE (.int 4)) nilA))) nilA)) (callE lenD (consA (varE 2) nilA))))) skipS)
    (seqS (iteS (two (op2 eqD) (two (op2 modD) (callE intC (consA (callD m_ulawucell [] (consA (varE 0) (consA (constE (.int 2)) nilA))) nilA)) (constE (.int 3))) (constE (.int 2))) (asgS 4 (compE [5] (srcE (callD m_ulawurow [] (consA (callD m_ulawucell [] (consA (varE 0) (consA (constE (.int 1)) nilA))) (consA (varE 3) (consA (constE (.int 26)) nilA))))) (.nm 5) none e_ulawuvalue_2)) skipS)
    (seqS (iteS (two (op2 eqD) (two (op2 modD) (callE intC (consA (callD m_ulawucell [] (consA (varE 0) (consA (constE (.int 5)) nilA))) nilA)) (constE (.int 8))) (constE (.int 2))) (asgS 4 (compE [5] (srcE (callD m_ulawurow [] (consA (callD m_ulawucell [] (consA (varE 0) (consA (constE (.int 1)) nilA))) (consA (two (op2 modD) (callE intC (consA (callD m_ulawucell [] (consA (varE 0) (consA (constE (.int 0)) nilA))) nilA)) (constE (.int 90))) (consA (constE (.int 26)) nilA))))) (.nm 5) none e_ulawuvalue_3)) skipS)
    (seqS (iteS (two (op2 eqD) (two (op2 modD) (callE intC (consA (callD m_ulawucell [] (consA (varE 0) (consA (constE (.int 5)) nilA))) nilA)) (constE (.int 8))) (constE (.int 1))) (retS (two (op2 getD) (lstE (consA (constE (.int 7)) (consA (constE .non) (consA (constE (.bl true)) (consA (constE (.bl false)) (consA (lstE (consA (constE (.str [97])) nilA)) (consA (tupE (consA (constE (.str [97])) nilA)) (consA (lstE nilA) (consA (oneE negD (constE (.int 1))) nilA))))))))) (two (op2 modD) (callE intC (consA (callD m_ulawucell [] (consA (varE 0) (consA (constE (.int 6)) nilA))) nilA)) (constE (.int 8))))) skipS)
    (retS (metE "str" joinD (constE (.str [])) (consA (varE 4) nilA)))))))))))
def m_ulawuvalue : List SV → Option FR := defM 1 5 b_ulawuvalue
theorem ok_ulawuvalue {P : Program} {w : World} {K : PySem.W.Frag} {mg : Str → Option Value} {base : Heap} {f : Addr} {fd : FuncData} (F : Fun K "_law_value" "_law_value" s_ulawuvalue f fd) (z_int : mg "int" = none) (z_len : mg "len" = none) (c_ulawucell : Def P w K mg base 1 "_law_cell" 2 m_ulawucell []) (c_ulawurow : Def P w K mg base 1 "_law_row" 3 m_ulawurow []) : FnOk P w K mg base CX0 2 f fd ["script"] (spD K 1 m_ulawuvalue) :=
  fnd (k := 1) (n := 5) F sc_ulawuvalue rfl fun cdv A outer s H E hr =>
    (pss_dcons (ps_dset (i := 1) sc_ulawuvalue.nd rfl (.inr rfl) (pd_str [97, 98, 99, 100, 101, 102, 103, 104, 105, 106, 107, 108, 109, 110, 111, 112, 113, 114, 115, 116, 117, 118, 119, 120, 121, 122, 97, 98, 99, 63, 63, 63, 42, 42, 42, 120, 121, 122, 63, 42] (by rfl)))
    (pss_dcons (ps_dset (i := 2) sc_ulawuvalue.nd rfl (.inl rfl) (pd_str [65, 90, 48, 57, 32, 10, 9, 45, 95, 46, 44, 43, 33, 47, 92, 91, 93, 94, 36, 124, 40, 41, 123, 125] (by rfl)))
    (pss_dcons (ps_dset (i := 3) sc_ulawuvalue.nd rfl (.inl rfl) (pd_mod (pd_callTy cr_int snd_intC z_int rfl (pa_dcons (pd_callN c_ulawucell hr (by decide) (pa_dcons (pd_var (pv 0)) (pa_dcons pd_int pa_dnil))) pa_dnil)) pd_int))
    (pss_dcons (ps_dsetComp (by rfl) sc_ulawuvalue.nd rfl rfl (sw_true rfl rfl rfl (by rfl)) (own := [("k", 5)]) (blk_of (N := ["script", "signs", "others", "size", "chars", "k"]) (sc := defScope s_ulawuvalue) (by decide +kernel)) (by rfl) (pi_dsrc (pd_callN c_ulawurow hr (by decide) (pa_dcons (pd_callN c_ulawucell hr (by decide) (pa_dcons (pd_var (pv 0)) (pa_dcons pd_int pa_dnil))) (pa_dcons (pd_var (pv 3)) (pa_dcons pd_int pa_dnil))))) (fun s H C cl fp => (pg_dnm sc_ulawuvalue.nd rfl (.inl rfl))) (fun s H C cl fp => pts_dnil) (fun s H C cl fp => (pd_get (pd_var (pv 1)) (pd_var (pv 5)))))
    (pss_dcons (ps_dif ((pw_dand (pt_eqd hr.units (pd_mod (pd_callTy cr_int snd_intC z_int rfl (pa_dcons (pd_callN c_ulawucell hr (by decide) (pa_dcons (pd_var (pv 0)) (pa_dcons pd_int pa_dnil))) pa_dnil)) pd_int) pd_int) (pw_dand1 (pt_gtd (pd_var (pv 3)) pd_int)))).pt (pss_done (ps_dsetL (pd_get (pd_var (pv 2)) (pd_mod (pd_callTy cr_int snd_intC z_int rfl (pa_dcons (pd_callN c_ulawucell hr (by decide) (pa_dcons (pd_var (pv 0)) (pa_dcons pd_int pa_dnil))) pa_dnil)) (pd_callB cr_len snd_len z_len rfl (pa_dcons (pd_var (pv 2)) pa_dnil)))) (pg_sub (pd_var (pv 4)) (pd_mod (pd_callTy cr_int snd_intC z_int rfl (pa_dcons (pd_callN c_ulawucell hr (by decide) (pa_dcons (pd_var (pv 0)) (pa_dcons pd_int pa_dnil))) pa_dnil)) (pd_var (pv 3))) set_list))) pss_dnil)
    (pss_dcons (ps_dif (pt_eqd hr.units (pd_mod (pd_callTy cr_int snd_intC z_int rfl (pa_dcons (pd_callN c_ulawucell hr (by decide) (pa_dcons (pd_var (pv 0)) (pa_dcons pd_int pa_dnil))) pa_dnil)) pd_int) pd_int) (pss_done (ps_dsetComp (by rfl) sc_ulawuvalue.nd rfl rfl (sw_true rfl rfl rfl (by rfl)) (own := [("k", 5)]) (blk_of (N := ["script", "signs", "others", "size", "chars", "k"]) (sc := defScope s_ulawuvalue) (by decide +kernel)) (by rfl) (pi_dsrc (pd_callN c_ulawurow hr (by decide) (pa_dcons (pd_callN c_ulawucell hr (by decide) (pa_dcons (pd_var (pv 0)) (pa_dcons pd_int pa_dnil))) (pa_dcons (pd_var (pv 3)) (pa_dcons pd_int pa_dnil))))) (fun s H C cl fp => (pg_dnm sc_ulawuvalue.nd rfl (.inl rfl))) (fun s H C cl fp => pts_dnil) (fun s H C cl fp => (pd_get (pd_var (pv 1)) (pd_var (pv 5)))))) pss_dnil)
    (pss_dcons (ps_dif (pt_eqd hr.units (pd_mod (pd_callTy cr_int snd_intC z_int rfl (pa_dcons (pd_callN c_ulawucell hr (by decide) (pa_dcons (pd_var (pv 0)) (pa_dcons pd_int pa_dnil))) pa_dnil)) pd_int) pd_int) (pss_done (ps_dsetComp (by rfl) sc_ulawuvalue.nd rfl rfl (sw_true rfl rfl rfl (by rfl)) (own := [("k", 5)]) (blk_of (N := ["script", "signs", "others", "size", "chars", "k"]) (sc := defScope s_ulawuvalue) (by decide +kernel)) (by rfl) (pi_dsrc (pd_callN c_ulawurow hr (by decide) (pa_dcons (pd_callN c_ulawucell hr (by decide) (pa_dcons (pd_var (pv 0)) (pa_dcons pd_int pa_dnil))) (pa_dcons (pd_mod (pd_callTy cr_int snd_intC z_int rfl (pa_dcons (pd_callN c_ulawucell hr (by decide) (pa_dcons (pd_var (pv 0)) (pa_dcons pd_int pa_dnil))) pa_dnil)) pd_int) (pa_dcons pd_int pa_dnil))))) (fun s H C cl fp => (pg_dnm sc_ulawuvalue.nd rfl (.inl rfl))) (fun s H C cl fp => pts_dnil) (fun s H C cl fp => (pd_get (pd_var (pv 1)) (pd_var (pv 5)))))) pss_dnil)
    (pss_dcons (ps_dif (pt_eqd hr.units (pd_mod (pd_callTy cr_int snd_intC z_int rfl (pa_dcons (pd_callN c_ulawucell hr (by decide) (pa_dcons (pd_var (pv 0)) (pa_dcons pd_int pa_dnil))) pa_dnil)) pd_int) pd_int) (pss_done (ps_dret (pd_get (pd_lst (pa_dcons pd_int (pa_dcons pd_non (pa_dcons pd_bl (pa_dcons pd_bl (pa_dcons (pd_lst (pa_dcons (pd_str [97] (by rfl)) pa_dnil)) (pa_dcons (pd_tup (pa_dcons (pd_str [97] (by rfl)) pa_dnil)) (pa_dcons (pd_lst pa_dnil) (pa_dcons (pd_neg pd_int) pa_dnil))))))))) (pd_mod (pd_callTy cr_int snd_intC z_int rfl (pa_dcons (pd_callN c_ulawucell hr (by decide) (pa_dcons (pd_var (pv 0)) (pa_dcons pd_int pa_dnil))) pa_dnil)) pd_int)))) pss_dnil)
    (pss_done (ps_dret (pd_join (pd_str [] (by rfl)) (pa_dcons (pd_var (pv 4)) pa_dnil))))))))))))
/-! ### _law_due -/
abbrev s_ulawudue : Stmt := topS 17
theorem sc_ulawudue : FnScope ["value", "letters", "wild", "char", "form"] ["value"] (defScope s_ulawudue) := ⟨rfl, rfl, rfl, by decide +kernel, rfl, by decide +kernel, by decide +kernel⟩
def l_ulawudue_1 : SS :=
    (seqS (asgS 1 (two (op2 addD) (varE 1) (callE intC (consA (chainE leD leD (constE (.str [97])) (varE 3) (constE (.str [122]))) nilA))))
    (asgS 2 (two (op2 addD) (varE 2) (callE intC (consA (orE (two (op2 eqD) (varE 3) (constE (.str [63]))) (two (op2 eqD) (varE 3) (constE (.str [42])))) nilA)))))
def b_ulawudue : SS :=
    (seqS (iteS (notE (isiE "str" (varE 0))) (retS (tupE (consA (constE (.bl false)) (consA (constE (.bl false)) (consA (constE (.bl false)) nilA))))) skipS)
    (seqS (asgS 1 (constE (.int 0)))
    (seqS (asgS 2 (constE (.int 0)))
    (seqS (forS (srcE (varE 0)) (.nm 3) l_ulawudue_1)
    (seqS (asgS 4 (andE (two (op2 eqD) (two (op2 addD) (varE 1) (varE 2)) (callE lenD (consA (varE 0) nilA))) (andE (two (op2 leD) (callE lenD (consA (varE 0) nilA)) (constE (.int 8))) (two (op2 leD) (metE "str" (textM countL) (varE 0) (consA (constE (.str [42])) nilA)) (constE (.int 2))))))
    (retS (tupE (consA (two (op2 eqD) (varE 1) (callE lenD (consA (varE 0) nilA))) (consA (varE 4) (consA (andE (varE 4) (two (op2 eqD) (varE 2) (constE (.int 0)))) nilA))))))))))
def m_ulawudue : List SV → Option FR := defM 1 4 b_ulawudue
theorem ok_ulawudue {P : Program} {w : World} {K : PySem.W.Frag} {mg : Str → Option Value} {base : Heap} {f : Addr} {fd : FuncData} (F : Fun K "_law_due" "_law_due" s_ulawudue f fd) (z_int : mg "int" = none) (z_isinstance : mg "isinstance" = none) (z_len : mg "len" = none) (z_str : mg "str" = none)  : FnOk P w K mg base CX0 1 f fd ["value"] (spD K 1 m_ulawudue) :=
  fnd (k := 0) (n := 4) F sc_ulawudue rfl fun cdv A outer s H E hr =>
    (pss_dcons (ps_dif (pt_dnot (pt_d (pd_isi (n := "str") (by decide) z_isinstance z_str rfl (pd_var (pv 0))))) (pss_done (ps_dret (pd_tup (pa_dcons pd_bl (pa_dcons pd_bl (pa_dcons pd_bl pa_dnil)))))) pss_dnil)
    (pss_dcons (ps_dset (i := 1) sc_ulawudue.nd rfl (.inl rfl) pd_int)
    (pss_dcons (ps_dset (i := 2) sc_ulawudue.nd rfl (.inl rfl) pd_int)
    (pss_dcons (ps_dfor PassesOwn.never rfl (pi_dsrc (pd_var (pv 0))) (pg_dnm sc_ulawudue.nd rfl (.inl rfl)) (pss_dcons (ps_dset (i := 1) sc_ulawudue.nd rfl (.inl rfl) (pd_add (pd_var (pv 1)) (pd_callTy cr_int snd_intC z_int rfl (pa_dcons (pd_chLL (pd_str [97] (by rfl)) (pd_var (pv 3)) (pd_str [122] (by rfl))) pa_dnil))))
    (pss_done (ps_dset (i := 2) sc_ulawudue.nd rfl (.inl rfl) (pd_add (pd_var (pv 2)) (pd_callTy cr_int snd_intC z_int rfl (pa_dcons (Dw.pd_or (pd_eq hr.units (pd_var (pv 3)) (pd_str [63] (by rfl))) (Dw.pd_one (pd_eq hr.units (pd_var (pv 3)) (pd_str [42] (by rfl))))) pa_dnil)))))))
    (pss_dcons (ps_dset (i := 4) sc_ulawudue.nd rfl (.inl rfl) (Dw.pd_and (pd_eq hr.units (pd_add (pd_var (pv 1)) (pd_var (pv 2))) (pd_callB cr_len snd_len z_len rfl (pa_dcons (pd_var (pv 0)) pa_dnil))) (Dw.pd_and (pd_le (pd_callB cr_len snd_len z_len rfl (pa_dcons (pd_var (pv 0)) pa_dnil)) pd_int) (Dw.pd_one (pd_le (pd_met (.inl rfl) PySem.F.plainAttrs_str PySem.F.slot_str_count PySem.F.type_str_count mt_count snd_count (pd_var (pv 0)) (pa_dcons (pd_str [42] (by rfl)) pa_dnil)) pd_int)))))
    (pss_done (ps_dret (pd_tup (pa_dcons (pd_eq hr.units (pd_var (pv 1)) (pd_callB cr_len snd_len z_len rfl (pa_dcons (pd_var (pv 0)) pa_dnil))) (pa_dcons (pd_var (pv 4)) (pa_dcons (Dw.pd_and (pd_var (pv 4)) (Dw.pd_one (pd_eq hr.units (pd_var (pv 2)) pd_int))) pa_dnil)))))))))))
/-! ### _law_is -/
abbrev s_ulawuis : Stmt := topS 18
theorem sc_ulawuis : FnScope ["actual", "expected"] ["actual", "expected"] (defScope s_ulawuis) := ⟨rfl, rfl, rfl, by decide +kernel, rfl, by decide +kernel, by decide +kernel⟩
def b_ulawuis : SS :=
    (retS (andE (isiE "bool" (varE 0)) (two (op2 eqD) (varE 0) (varE 1))))
def m_ulawuis : List SV → Option FR := defM 2 0 b_ulawuis
theorem ok_ulawuis {P : Program} {w : World} {K : PySem.W.Frag} {mg : Str → Option Value} {base : Heap} {f : Addr} {fd : FuncData} (F : Fun K "_law_is" "_law_is" s_ulawuis f fd) (z_bool : mg "bool" = none) (z_isinstance : mg "isinstance" = none)  : FnOk P w K mg base CX0 1 f fd ["actual", "expected"] (spD K 2 m_ulawuis) :=
  fnd (k := 0) (n := 0) F sc_ulawuis rfl fun cdv A outer s H E hr =>
    (pss_done (ps_dret (Dw.pd_and (pd_isi (n := "bool") (by decide) z_isinstance z_bool rfl (pd_var (pv 0))) (Dw.pd_one (pd_eq hr.units (pd_var (pv 0)) (pd_var (pv 1)))))))
/-! ### _law_asks_check -/
abbrev s_ulawuasksucheck : Stmt := topS 19
theorem sc_ulawuasksucheck : FnScope ["value", "form", "e", "answer"] ["value", "form"] (defScope s_ulawuasksucheck) := ⟨rfl, rfl, rfl, by decide +kernel, rfl, by decide +kernel, by decide +kernel⟩
def t_ulawuasksucheck_1 : SS :=
    (asgS 3 (callD m_check_pattern [] (consA (varE 0) nilA)))
def x_ulawuasksucheck_2 : SS :=
    (seqS (iteS (orE (varE 1) (orE (notE (isxE 2 ["BadPattern"])) (orE (isxE 2 ["TooManyPatterns"]) (notE (isxE 2 ["TalkError", "BadPattern", "TooManyPatterns"]))))) (retS (constE (.bl false))) skipS)
    (retS (andE (two (op2 eqD) (xfE 2 "word") (constE (.str [66, 97, 100, 80, 97, 116, 116, 101, 114, 110]))) (two (op2 eqD) (callE reprD (consA (xfE 2 "place") nilA)) (callE reprD (consA (varE 0) nilA))))))
def b_ulawuasksucheck : SS :=
    (seqS (tryS 2 ["TalkError", "BadPattern", "TooManyPatterns"] t_ulawuasksucheck_1 x_ulawuasksucheck_2)
    (retS (andE (varE 1) (two (op2 isD) (varE 3) (constE .non)))))
def m_ulawuasksucheck : List SV → Option FR := defM 2 2 b_ulawuasksucheck
theorem ok_ulawuasksucheck {P : Program} {w : World} {K : PySem.W.Frag} {mg : Str → Option Value} {base : Heap} {f : Addr} {fd : FuncData} (F : Fun K "_law_asks_check" "_law_asks_check" s_ulawuasksucheck f fd) (z_ValueError : mg "ValueError" = none) (z_isinstance : mg "isinstance" = none) (z_repr : mg "repr" = none) (hX : Tabs.X = none) (xI : XIs K) (xe_BadPattern : ExS K mg "BadPattern" ["BadPattern"]) (xe_TalkError : ExS K mg "TalkError" ["TalkError", "BadPattern", "TooManyPatterns"]) (xe_TooManyPatterns : ExS K mg "TooManyPatterns" ["TooManyPatterns"]) (xk_ValueError : ∀ n C, Glo.C n C → PySem.W.kitOne K (.ref C) (.type "ValueError") = some (decide (n ∈ (["TalkError", "BadPattern", "TooManyPatterns"] : List PySem.Str)))) (c_check_pattern : DefX P w K mg base 4 "check_pattern" 1 m_check_pattern []) : FnR P w K mg base CX0 5 f fd ["value", "form"] (spD K 2 m_ulawuasksucheck) :=
  fndR (k := 4) (n := 2) F sc_ulawuasksucheck rfl fun cdv A outer s H E hG hr =>
    (pss_dcons (ps_dtryS (i := 2) hX xe_TalkError rfl rfl sc_ulawuasksucheck.nd rfl rfl (by rfl) takes0 (fun W pn xe tk hp => (pss_done (ps_dset (i := 3) sc_ulawuasksucheck.nd rfl (.inl rfl) (pd_callX c_check_pattern tk hr (by decide) (pa_dcons (pd_var (pv 0)) pa_dnil))))) (fun a oe cls d pn hz hf => letI : Tabs := Dw.tx a cls d; (pss_dcons (ps_dif ((pw_dor (pt_d (pd_var (pv 1))) (pw_dor (pt_dnot (pt_d (pd_isxS xI xe_BadPattern hz hf z_isinstance (pv 2)))) (pw_dor (pt_d (pd_isxS xI xe_TooManyPatterns hz hf z_isinstance (pv 2))) (pw_dor1 (pt_dnot (pt_d (pd_isxB xI.g xI.n xI.t xk_ValueError hz hf z_isinstance z_ValueError rfl (pv 2))))))))).pt (pss_done (ps_dret pd_bl)) pss_dnil)
    (pss_done (ps_dret (Dw.pd_and (pd_eq (by exact hr.units) (pd_xf xI.g (.inl rfl) hz hf (pv 2)) (pd_str [66, 97, 100, 80, 97, 116, 116, 101, 114, 110] (by rfl))) (Dw.pd_one (pd_eq (by exact hr.units) (pd_callB (cr_reprD (by exact hG) (by have z := r65 hr; exact z)) snd_reprD z_repr rfl (pa_dcons (pd_xf xI.g (.inr rfl) hz hf (pv 2)) pa_dnil)) (pd_callB (cr_reprD (by exact hG) (by have z := r65 hr; exact z)) snd_reprD z_repr rfl (pa_dcons (pd_var (pv 0)) pa_dnil))))))))))
    (pss_done (ps_dret (Dw.pd_and (pd_var (pv 1)) (Dw.pd_one (pd_is (pd_var (pv 3)) pd_non))))))
/-! ### law -/
abbrev s_law : Stmt := topS 20
theorem sc_law : FnScope ["script", "value", "due"] ["script"] (defScope s_law) := ⟨rfl, rfl, rfl, by decide +kernel, rfl, by decide +kernel, by decide +kernel⟩
def b_law : SS :=
    (seqS (iteS (two (op2 neD) (constE (.str [97, 98, 99, 100, 101, 102, 103, 104, 105, 106, 107, 108, 109, 110, 111, 112, 113, 114, 115, 116, 117, 118, 119, 120, 121, 122])) (constE (.str [97, 98, 99, 100, 101, 102, 103, 104, 105, 106, 107, 108, 109, 110, 111, 112, 113, 114, 115, 116, 117, 118, 119, 120, 121, 122]))) (retS (constE (.bl false))) skipS)
    (seqS (asgS 1 (callD m_ulawuvalue [] (consA (varE 0) nilA)))
    (seqS (asgS 2 (callD m_ulawudue [] (consA (varE 1) nilA)))
    (seqS (iteS (orE (notE (callD m_ulawuis [] (consA (callD m_is_text [] (consA (varE 1) nilA)) (consA (two (op2 getD) (varE 2) (constE (.int 0))) nilA)))) (notE (callD m_ulawuis [] (consA (callD m_is_pattern [] (consA (varE 1) nilA)) (consA (two (op2 getD) (varE 2) (constE (.int 1))) nilA))))) (retS (constE (.bl false))) skipS)
    (seqS (iteS (andE (two (op2 getD) (varE 2) (constE (.int 1))) (notE (callD m_ulawuis [] (consA (callD m_is_plain [] (consA (varE 1) nilA)) (consA (two (op2 getD) (varE 2) (constE (.int 2))) nilA))))) (retS (constE (.bl false))) skipS)
    (retS (callD m_ulawuasksucheck [] (consA (varE 1) (consA (two (op2 getD) (varE 2) (constE (.int 1))) nilA)))))))))
def m_law : List SV → Option FR := defM 1 2 b_law
theorem ok_law {P : Program} {w : World} {K : PySem.W.Frag} {mg : Str → Option Value} {base : Heap} {f : Addr} {fd : FuncData} (F : Fun K "law" "law" s_law f fd) (cs_LETTERS : ∃ t, mg "LETTERS" = some (.str (mk [97, 98, 99, 100, 101, 102, 103, 104, 105, 106, 107, 108, 109, 110, 111, 112, 113, 114, 115, 116, 117, 118, 119, 120, 121, 122]) t)) (c_ulawuvalue : Def P w K mg base 2 "_law_value" 1 m_ulawuvalue []) (c_ulawudue : Def P w K mg base 1 "_law_due" 1 m_ulawudue []) (c_is_text : Def P w K mg base 1 "is_text" 1 m_is_text []) (c_ulawuis : Def P w K mg base 1 "_law_is" 2 m_ulawuis []) (c_is_pattern : Def P w K mg base 1 "is_pattern" 1 m_is_pattern []) (c_is_plain : Def P w K mg base 1 "is_plain" 1 m_is_plain []) (c_ulawuasksucheck : DefR P w K mg base 5 "_law_asks_check" 2 m_ulawuasksucheck []) : FnR P w K mg base CX0 6 f fd ["script"] (spD K 1 m_law) :=
  fndR (k := 5) (n := 2) F sc_law rfl fun cdv A outer s H E hG hr =>
    (pss_dcons (ps_dif (pt_ned hr.units (pd_cstr cs_LETTERS) (pd_str [97, 98, 99, 100, 101, 102, 103, 104, 105, 106, 107, 108, 109, 110, 111, 112, 113, 114, 115, 116, 117, 118, 119, 120, 121, 122] (by rfl))) (pss_done (ps_dret pd_bl)) pss_dnil)
    (pss_dcons (ps_dset (i := 1) sc_law.nd rfl (.inl rfl) (pd_callN c_ulawuvalue hr (by decide) (pa_dcons (pd_var (pv 0)) pa_dnil)))
    (pss_dcons (ps_dset (i := 2) sc_law.nd rfl (.inl rfl) (pd_callN c_ulawudue hr (by decide) (pa_dcons (pd_var (pv 1)) pa_dnil)))
    (pss_dcons (ps_dif ((pw_dor (pt_dnot (pt_d (pd_callN c_ulawuis hr (by decide) (pa_dcons (pd_callN c_is_text hr (by decide) (pa_dcons (pd_var (pv 1)) pa_dnil)) (pa_dcons (pd_get (pd_var (pv 2)) pd_int) pa_dnil))))) (pw_dor1 (pt_dnot (pt_d (pd_callN c_ulawuis hr (by decide) (pa_dcons (pd_callN c_is_pattern hr (by decide) (pa_dcons (pd_var (pv 1)) pa_dnil)) (pa_dcons (pd_get (pd_var (pv 2)) pd_int) pa_dnil)))))))).pt (pss_done (ps_dret pd_bl)) pss_dnil)
    (pss_dcons (ps_dif ((pw_dand (pt_d (pd_get (pd_var (pv 2)) pd_int)) (pw_dand1 (pt_dnot (pt_d (pd_callN c_ulawuis hr (by decide) (pa_dcons (pd_callN c_is_plain hr (by decide) (pa_dcons (pd_var (pv 1)) pa_dnil)) (pa_dcons (pd_get (pd_var (pv 2)) pd_int) pa_dnil)))))))).pt (pss_done (ps_dret pd_bl)) pss_dnil)
    (pss_done (ps_dret (pd_callR c_ulawuasksucheck hG hr (by decide) (pa_dcons (pd_var (pv 1)) (pa_dcons (pd_get (pd_var (pv 2)) pd_int) pa_dnil))))))))))
end
end P_talkalike_k04_forms
namespace P_talkalike_k04_forms
noncomputable section
open PySem PySem.Spec PyProof.Rows L2 Dw
variable [GI : Glo] [TI : Tabs]
/-- texts of ordinary signs, not too long -/
def okS (x : List Nat) : Prop := x.length ≤ 1000 ∧ ∀ c ∈ x, c < 128
theorem okS.len {x : List Nat} (h : okS x) : x.length ≤ sizeLine := Nat.le_trans h.1 (by decide)
theorem strOk_of {x : List Nat} (h : ∀ c ∈ x, c < 128) : PyData.strOk (mk x) = true := by
  unfold PyData.strOk
  rw [Array.all_eq_true]
  intro i hi
  have : (mk x).cps[i] ∈ x := by simp [mk]
  have := h _ this
  simp; omega
abbrev dI (ns : List Int) : List D := ns.map D.int
def cellZ (ns : List Int) (k : Nat) : Int := ns.getD k 0
theorem atI_int {ns : List Int} {k : Nat} (h : k < ns.length) : L2.atI (dI ns) (k : Int) = some (.int (cellZ ns k)) := by
  refine L2.atI_nat ?_
  unfold cellZ
  rw [List.getElem?_map, List.getElem?_eq_getElem h]
  simp [List.getD_eq_getElem?_getD, h]
theorem ev_cell {ns : List Int} {k : Nat} : m_ulawucell [.d (.lst (dI ns)), .d (.int k)] = some (.ok (.d (.int (cellZ ns k))) [.d (.lst (dI ns)), .d (.int k)]) := by
  by_cases h : k < ns.length
  · have h' : ((k : Int) < (ns.length : Int)) := by omega
    have ha := atI_int h
    simp only [dI] at ha
    simp [dI, ha, m_ulawucell, defM, runF, b_ulawucell, seqS, iteS, two, op2, varE, varS, pk, callE, consA, nilA, bindEA, bindA, mapA, pks, lenD, ltG, h, h', bindS, tru, truD, skipS, retS, getD, resV, backs, noX]
  · have h' : ¬ ((k : Int) < (ns.length : Int)) := by omega
    simp [m_ulawucell, defM, runF, b_ulawucell, seqS, iteS, two, op2, varE, varS, pk, callE, consA, nilA, bindEA, bindA, mapA, pks, lenD, ltG, h, h', bindS, tru, truD, skipS, retS, getD, resV, backs, noX, cellZ]
/-- a slot that may be written, and holds no thing of one's own -/
def flat : SV → Bool
  | .own _ _ => false
  | .xn _ => false
  | _ => true
theorem big_c : big64 48271 = true ∧ big64 69621 = true ∧ big64 16807 = true := ⟨big64_iff.mpr (by decide), big64_iff.mpr (by decide), big64_iff.mpr (by decide)⟩
theorem big_of {n : Int} (h0 : 0 ≤ n) (h : n < 2147483648) : big64 n = true := by
  rw [big64_iff]
  omega
theorem row_turn {c cnt b : Int} {rs : List Int} {k : Nat} {u v : SV} (hb : 0 < b) (hb2 : b < 1073741824) (hu : flat u = true) (hv : flat v = true) (hr : rs.length < 100000) :
    ∃ c' r v', 0 ≤ r ∧ r < b ∧ flat v' = true ∧ l_ulawurow_1 [.d (.int c), .d (.int cnt), .d (.int b), .own false (.lst (dI rs)), .d (.int k), v] = some (.nx [.d (.int c'), .d (.int cnt), .d (.int b), .own false (.lst (dI (rs ++ [r]))), .d (.int k), v']) := by
  have fv : v = .un ∨ ∃ y, v = .d y := by
    cases v with
    | own b c => simp [flat] at hv
    | xn e => simp [flat] at hv
    | un => exact .inl rfl
    | d y => exact .inr ⟨y, rfl⟩
  by_cases h : (10 : Int) ^ 18 ≤ c
  · refine ⟨c / b, c % b, v, Int.emod_nonneg _ (by omega), Int.emod_lt_of_pos _ hb, hv, ?_⟩
    have h' : (1000000000000000000 : Int) ≤ c := by simpa using h
    simp [l_ulawurow_1, seqS, iteS, two, op2, varE, varS, pk, pkS, callE, consA, nilA, bindEA, bindA, mapA, pks, geD, powD, Dw.intD, powI_18, h', bindS, tru, truD, exprS, mutE, ownL, intC, modD, modI_ok, hb, hb2, frzs, frz, appU, hr, asgS, fdivD, fdivI_ok, storeR, setSlot, freeSlot, dI]
  · have h' : ¬ (1000000000000000000 : Int) ≤ c := by simpa using h
    obtain ⟨bc1, bc2, bc3⟩ := big_c
    generalize e1 : (c * 48271 + (k : Int) * 69621 + 12345) % 2147483647 = n1
    have a1 : 0 ≤ n1 := by rw [← e1]; exact Int.emod_nonneg _ (by decide)
    have a2 : n1 < 2147483648 := by rw [← e1]; exact Int.lt_trans (Int.emod_lt_of_pos _ (by decide)) (by decide)
    have g1 := big_of a1 a2
    generalize e2 : (n1 * n1 + 16807 * (k : Int) + 7) % 998244353 = n2
    have a3 : 0 ≤ n2 := by rw [← e2]; exact Int.emod_nonneg _ (by decide)
    have a4 : n2 < 2147483648 := by rw [← e2]; exact Int.lt_trans (Int.emod_lt_of_pos _ (by decide)) (by decide)
    have g2 := big_of a3 a4
    generalize e3 : (n2 * n2 + 48271 * (k : Int) + c) % 2147483629 = n3
    refine ⟨c, (n3 / 13) % b, .d (.int n3), Int.emod_nonneg _ (by omega), Int.emod_lt_of_pos _ hb, rfl, ?_⟩
    rcases fv with rfl | ⟨y, rfl⟩ <;> simp [l_ulawurow_1, seqS, iteS, two, op2, varE, varS, pk, pkS, callE, consA, nilA, bindEA, bindA, mapA, pks, geD, powD, Dw.intD, powI_18, h', bindS, tru, truD, exprS, mutE, ownL, intC, modD, modI_ok, mulD, mulI_l, mulI_r, addD, bc1, bc2, bc3, e1, g1, e2, g2, e3, hb, hb2, frzs, frz, appU, hr, asgS, fdivD, fdivI_ok, storeR, setSlot, freeSlot, dI]
theorem row_loop {cnt b : Int} (hb : 0 < b) (hb2 : b < 1073741824) : ∀ (ks : List Nat) (c : Int) (rs : List Int) (u v : SV), flat u = true → flat v = true → rs.length + ks.length ≤ 100000 →
    ∃ c' rs' u' v', (∀ r ∈ rs', 0 ≤ r ∧ r < b) ∧ rs'.length = ks.length ∧ loopD (.nm 4) l_ulawurow_1 (ks.map fun i => .int (i : Nat)) [.d (.int c), .d (.int cnt), .d (.int b), .own false (.lst (dI rs)), u, v] = some (.nx [.d (.int c'), .d (.int cnt), .d (.int b), .own false (.lst (dI (rs ++ rs'))), u', v'])
  | [], c, rs, u, v, hu, hv, _ => ⟨c, [], u, v, by simp, rfl, by simp [loopD]⟩
  | k :: ks, c, rs, u, v, hu, hv, hl => by
    rw [List.length_cons] at hl
    obtain ⟨c1, r, v1, h1, h2, h3, h4⟩ := row_turn (c := c) (cnt := cnt) (rs := rs) (k := k) (u := u) (v := v) hb hb2 hu hv (by omega)
    obtain ⟨c2, rs2, u2, v2, h5, h6, h7⟩ := row_loop hb hb2 ks c1 (rs ++ [r]) (.d (.int k)) v1 rfl h3 (by simp; omega)
    have fu : freeSlot (some u) = true := by
      cases u with
      | own b c => simp [flat] at hu
      | xn e => simp [flat] at hu
      | _ => rfl
    refine ⟨c2, r :: rs2, u2, v2, fun x hx => ?_, by simp [h6], ?_⟩
    · rcases List.mem_cons.mp hx with rfl | hx
      · exact ⟨h1, h2⟩
      · exact h5 x hx
    · rw [List.map_cons, loopD]
      simp only [putT, setSlot, List.getElem?_cons_succ, List.getElem?_cons_zero, fu, if_true, Option.bind_some, List.set_cons_succ, List.set_cons_zero]
      rw [h4]
      dsimp only
      rw [h7, List.append_assoc]
      rfl
theorem ev_row {c : Int} {n : Nat} {b : Int} (hn : n ≤ 100000) (hb : 0 < b) (hb2 : b < 1073741824) : ∃ rs : List Int, (∀ r ∈ rs, 0 ≤ r ∧ r < b) ∧ rs.length = n ∧ ∃ o, m_ulawurow [.d (.int c), .d (.int n), .d (.int b)] = some (.ok (.own (.lst (dI rs))) o) := by
  obtain ⟨c', rs, u, v, h1, h2, h3⟩ := row_loop (cnt := n) hb hb2 (List.range n) c [] .un .un rfl rfl (by simpa using hn)
  rw [List.length_range] at h2
  simp only [dI, List.map_nil, List.nil_append] at h3
  refine ⟨rs, h1, h2, [.d (.int c), .d (.int n), .d (.int b)], ?_⟩
  have r1 := rng1_nat (n := n) (by omega)
  simp [m_ulawurow, defM, runF, b_ulawurow, seqS, lstE, bindA, nilA, frzs, asgS, bindS, storeR, setSlot, freeSlot, forS, argsI, consA, varE, varS, bindEA, mapA, bindAI, pks, pk, r1, h3, retS, resV, resS, backs, noX, dI]
end
end P_talkalike_k04_forms
namespace P_talkalike_k04_forms
noncomputable section
open PySem PySem.Spec PyProof.Rows L2 Dw
variable [GI : Glo] [TI : Tabs]
local macro_rules | `(tactic| fail "S") => `(tactic| (focus ((repeat' (first | with_reducible assumption | with_reducible exact Dw.ty_str | with_reducible exact Dw.ty_lst | with_reducible exact Dw.lst_eq | with_reducible exact Dw.set_z | with_reducible exact Dw.setg_z | with_reducible exact Dw.ret_d | with_reducible exact Dw.ret_own | with_reducible exact Dw.mapd_nn | with_reducible exact Dw.pk_d | with_reducible exact Dw.pk_own | with_reducible exact Dw.pks_nil | with_reducible exact Dw.frz_d | with_reducible exact Dw.frz_own | with_reducible exact Dw.frzs_nil | with_reducible exact Dw.tru_bl | with_reducible exact Dw.tru_int | with_reducible exact Dw.tru_non | with_reducible exact Dw.tru_lst | with_reducible exact Dw.tru_tup | with_reducible exact Dw.tru_ownl | with_reducible exact Dw.len_lst | with_reducible exact Dw.len_tup | with_reducible exact Dw.eq_int | with_reducible exact Dw.ne_int | with_reducible exact Dw.eq_str | with_reducible exact Dw.ne_str | with_reducible exact Dw.eq_bl | with_reducible exact Dw.ne_bl | with_reducible exact Dw.lt_int' | with_reducible exact Dw.lt_str' | with_reducible exact Dw.le_int' | with_reducible exact Dw.gt_int' | with_reducible exact Dw.ge_int' | with_reducible exact Dw.add_int' | with_reducible exact Dw.sub_int' | with_reducible exact Dw.neg_int' | with_reducible exact Dw.ord_str | with_reducible exact Dw.int_int | with_reducible exact Dw.int_bl | with_reducible exact Dw.list_lst | with_reducible exact Dw.list_tup | with_reducible exact Dw.lg_lst | with_reducible exact Dw.lg_tup | with_reducible exact Dw.tup_lst | with_reducible exact Dw.tup_tup | with_reducible exact Dw.it_lst | with_reducible exact Dw.it_tup | with_reducible exact Dw.it_str | with_reducible exact Dw.res_d | with_reducible exact Dw.res_own | with_reducible exact Dw.bk_nil | with_reducible exact Dw.look_place | with_reducible exact Dw.look_word | with_reducible exact Dw.rp_z | with_reducible exact Dw.cut_tup | with_reducible exact Dw.cut_lst | with_reducible exact Dw.st_lst | with_reducible exact Dw.st_tup | ((with_reducible apply Dw.pk_cv); exact rfl) | ((with_reducible apply Dw.fs_ok); exact rfl) | ((with_reducible apply Dw.gE); exact rfl) | ((with_reducible apply Dw.tru_cv); exact rfl) | ((with_reducible apply Dw.res_cv); exact rfl) | with_reducible apply Dw.pks_cons | with_reducible apply Dw.frzs_cons | with_reducible apply Dw.frzs_map | with_reducible apply Dw.mapd_c | with_reducible apply Dw.mapd_d | with_reducible apply Dw.inG_in | with_reducible apply Dw.set_s | with_reducible apply Dw.setg_s | with_reducible apply Dw.st_d | with_reducible apply Dw.st_own | with_reducible apply Dw.st_cv | with_reducible apply Dw.frz_cv | with_reducible apply Dw.bk_d | with_reducible apply Dw.bk_own | with_reducible apply Dw.put_nm | with_reducible apply Dw.put_two | with_reducible apply Dw.rp_c | with_reducible apply Dw.rp_s | with_reducible apply Dw.add_lst | with_reducible apply Dw.add_str | with_reducible apply Dw.app_ok | with_reducible apply Dw.get_str | with_reducible apply Dw.cut_str | with_reducible apply Dw.len_str | with_reducible apply Dw.tru_str | with_reducible apply Dw.lg_str | ((with_reducible apply Dw.fs_at); (exact rfl); (with_reducible assumption)) | ((with_reducible show Dw.okI _ = true); exact rfl) | ((with_reducible show (_ : Nat) ≤ _); ((try simp only [List.length_cons, List.length_nil, List.length_map, List.length_append, List.length_range, List.length_singleton] at *) <;> omega)) | ((with_reducible show (_ : Nat) < _); ((try simp only [List.length_cons, List.length_nil, List.length_map, List.length_append, List.length_range, List.length_singleton] at *) <;> omega)) | ((with_reducible show (_ : List _)[_]? = some _); exact rfl))); done)))
local macro_rules | `(tactic| fail "V") => `(tactic| (first | with_reducible apply Dw.w_const | ((with_reducible apply Dw.w_var); exact rfl) | ((with_reducible apply Dw.w_varO); exact rfl) | with_reducible apply Dw.w_two | with_reducible apply Dw.w_one | with_reducible apply Dw.w_not | with_reducible apply Dw.w_and | with_reducible apply Dw.w_or | with_reducible apply Dw.w_ife | with_reducible apply Dw.w_nil | with_reducible apply Dw.w_cons | with_reducible apply Dw.w_callE | with_reducible apply Dw.w_isi | with_reducible apply Dw.w_tup | with_reducible apply Dw.w_lst | with_reducible apply Dw.w_met | with_reducible apply Dw.w_callD | with_reducible apply Dw.w_callD0 | with_reducible apply Dw.w_callM | with_reducible apply Dw.w_mut | with_reducible apply Dw.w_ext | with_reducible apply Dw.w_pop | with_reducible apply Dw.w_sl | with_reducible apply Dw.w_bo0 | with_reducible apply Dw.w_bo1 | with_reducible apply Dw.w_comp | with_reducible apply Dw.w_all | with_reducible apply Dw.w_bet | with_reducible apply Dw.w_rev | with_reducible apply Dw.w_rg | with_reducible apply Dw.w_chain | with_reducible apply Dw.w_src | with_reducible apply Dw.w_args | with_reducible apply Dw.w_enum | with_reducible apply Dw.w_zip | with_reducible apply Dw.w_seq | with_reducible apply Dw.w_skip | with_reducible apply Dw.w_asg | with_reducible apply Dw.w_expr | with_reducible apply Dw.w_ret | with_reducible apply Dw.w_retN | with_reducible apply Dw.w_brk | with_reducible apply Dw.w_cnt | with_reducible apply Dw.w_ite | with_reducible apply Dw.w_for | with_reducible apply Dw.w_raise | with_reducible apply Dw.w_raiseN | with_reducible apply Dw.w_setL | with_reducible apply Dw.w_lenSet | with_reducible apply Dw.w_star | with_reducible apply Dw.w_newK | with_reducible apply Dw.w_setK | ((with_reducible apply Dw.w_op); (fail "S"); (fail "S"); (fail "S")) | ((with_reducible apply Dw.w_op1); (fail "S"); (fail "S")) | ((with_reducible apply Dw.w_not1); (fail "S")) | ((with_reducible apply Dw.w_opE); (fail "S"); (fail "S")) | ((with_reducible apply Dw.w_isi1); (fail "S"); (fail "S")) | ((with_reducible apply Dw.w_tup1); (fail "S"); (fail "S")) | ((with_reducible apply Dw.w_lst1); (fail "S"); (fail "S")) | ((with_reducible apply Dw.w_met1); (fail "S"); (fail "S")) | ((with_reducible apply Dw.w_met2); (fail "S"); (fail "S"); (fail "S")) | ((with_reducible apply Dw.w_callD1); (fail "S"); (fail "S")) | ((with_reducible apply Dw.w_callM1); (fail "S"); (fail "S"); (fail "S"); (fail "S"); (fail "S"); (fail "S")) | ((with_reducible apply Dw.w_mut1); (fail "S")) | ((with_reducible apply Dw.w_mut2); (fail "S"); (fail "S"); (fail "S"); (fail "S")) | ((with_reducible apply Dw.w_ext1); (fail "S")) | ((with_reducible apply Dw.w_ext2); (fail "S"); (fail "S"); (fail "S")) | ((with_reducible apply Dw.w_pop1); (fail "S"); (fail "S"); (fail "S")) | ((with_reducible apply Dw.w_bo2); (fail "S")) | ((with_reducible apply Dw.w_sl1); (fail "S"); (fail "S")) | ((with_reducible apply Dw.w_all1); (fail "S")) | ((with_reducible apply Dw.w_bet1); (fail "S")) | ((with_reducible apply Dw.w_rev1); (fail "S")) | ((with_reducible apply Dw.w_chain1); (fail "S"); (fail "S"); (fail "S")) | ((with_reducible apply Dw.w_src1); (fail "S"); (fail "S")) | ((with_reducible apply Dw.w_args1); (fail "S"); (fail "S")) | ((with_reducible apply Dw.w_enum1); (fail "S")) | ((with_reducible apply Dw.w_enum2); (fail "S")) | ((with_reducible apply Dw.w_zip1); (fail "S"); (fail "S"); (fail "S")) | ((with_reducible apply Dw.w_st); (fail "S")) | ((with_reducible apply Dw.w_set); (fail "S")) | ((with_reducible apply Dw.w_b); (fail "S")) | ((with_reducible apply Dw.wC_ok); (fail "S"); (fail "S")) | ((with_reducible apply Dw.wM_ok); (fail "S"); (fail "S"); (fail "S"); (fail "S")) | ((with_reducible apply Dw.w_out1); (fail "S")) | ((with_reducible apply Dw.w_out2); (fail "S"); (fail "S")) | ((with_reducible apply Dw.w_raise1); (fail "S")) | ((with_reducible apply Dw.w_xf); (fail "S"); (fail "S")) | ((with_reducible apply Dw.w_isx); (fail "S")) | ((with_reducible apply Dw.w_lenSet1); (fail "S"); (fail "S")) | ((with_reducible apply Dw.w_star1); (fail "S"); (fail "S")) | with_reducible refine Dw.w_tt ?_ | with_reducible refine Dw.w_ff ?_ | with_reducible exact Dw.w_tf | with_reducible exact Dw.w_ft | with_reducible refine Dw.w_n1 ?_ | with_reducible exact Dw.w_n2 | with_reducible refine Dw.w_n3 ?_ | with_reducible exact Dw.w_n4 | ((with_reducible refine Dw.w_hT ?_ ?_); (with_reducible assumption)) | ((with_reducible refine Dw.w_hF ?_); (with_reducible assumption)) | ((with_reducible refine Dw.w_gT ?_ ?_); (with_reducible assumption)) | ((with_reducible refine Dw.w_gF ?_); (with_reducible assumption))))
/-! ### the drawn value -/
theorem ixN_nat {n m : Nat} (h : m < n) : ixN n (m : Int) = some m := by
  unfold ixN
  simp [h]
abbrev sS (xs : List Nat) : List D := xs.map fun c => .str [c]
def spec : List D := [.int 7, .non, .bl true, .bl false, .lst [.str [97]], .tup [.str [97]], .lst [], .int (-1)]
/-- texts of at most 90 signs, and eight other things -/
def isV (x : D) : Prop := x ∈ spec ∨ ∃ s : List Nat, x = .str s ∧ s.length ≤ 90 ∧ ∀ c ∈ s, c < 128
def okX (n : Nat) (xs : List Nat) : Prop := xs.length = n ∧ ∀ c ∈ xs, c < 128
theorem pick_get {S : List Nat} (hS : ∀ c ∈ S, c < 128) {r : Int} (h0 : 0 ≤ r) (h1 : r < S.length) (hl : S.length ≤ 1000) : getD (.str S) (.int r) = some (.d (.str [S.getD r.toNat 0])) ∧ S.getD r.toNat 0 < 128 := by
  obtain ⟨k, rfl⟩ := Int.eq_ofNat_of_zero_le h0
  have hk : k < S.length := by omega
  have e : S.getD (Int.toNat (k : Int)) 0 = S[k] := by
    rw [Int.toNat_natCast, List.getD_eq_getElem?_getD, List.getElem?_eq_getElem hk]
    rfl
  rw [e]
  exact ⟨Dw.get_str (Nat.le_trans hl (by decide)) (L2.atI_nat (List.getElem?_eq_getElem hk)), hS _ (List.getElem_mem hk)⟩
theorem ok_pick {S : List Nat} (hS : ∀ c ∈ S, c < 128) (hl : S.length ≤ 1000) {rs : List Int} (h : ∀ r ∈ rs, 0 ≤ r ∧ r < S.length) : okX rs.length (rs.map fun r => S.getD r.toNat 0) := by
  refine ⟨by rw [List.length_map], fun c hc => ?_⟩
  obtain ⟨r, hr, rfl⟩ := List.mem_map.mp hc
  exact (pick_get hS (h r hr).1 (h r hr).2 hl).2
theorem map_pick {S : List Nat} {rs : List Int} : (rs.map fun r => D.str [S.getD r.toNat 0]) = sS (rs.map fun r => S.getD r.toNat 0) := by
  show _ = (rs.map fun r => S.getD r.toNat 0).map fun c => D.str [c]
  rw [List.map_map]
  rfl
theorem mod_nat {z : Int} {b : Nat} (hb : 0 < b) : ∃ n : Nat, n < b ∧ modD (.int z) (.int (b : Nat)) = some (.d (.int (n : Nat))) := by
  have h1 : 0 ≤ z % (b : Int) := Int.emod_nonneg _ (by omega)
  have h2 : z % (b : Int) < b := Int.emod_lt_of_pos _ (by omega)
  refine ⟨(z % (b : Int)).toNat, by omega, ?_⟩
  rw [Dw.mod_ok (by omega), show (((z % (b : Int)).toNat : Nat) : Int) = z % (b : Int) by omega]
theorem ev_value {ns : List Int} : ∃ x, isV x ∧ m_ulawuvalue [.d (.lst (dI ns))] = some (.ok (.d x) [.d (.lst (dI ns))]) := by
  have main : wF (m_ulawuvalue [.d (.lst (dI ns))]) (fun a o => ∃ x, isV x ∧ a = .d x ∧ o = [.d (.lst (dI ns))]) nX := by
    have c0 := ev_cell (ns := ns) (k := 0)
    have c1 := ev_cell (ns := ns) (k := 1)
    have c2 := ev_cell (ns := ns) (k := 2)
    have c3 := ev_cell (ns := ns) (k := 3)
    have c4 := ev_cell (ns := ns) (k := 4)
    have c5 := ev_cell (ns := ns) (k := 5)
    have c6 := ev_cell (ns := ns) (k := 6)
    have c0 : m_ulawucell [.d (.lst (dI ns)), .d (.int 0)] = _ := c0
    have c1 : m_ulawucell [.d (.lst (dI ns)), .d (.int 1)] = _ := c1
    have c2 : m_ulawucell [.d (.lst (dI ns)), .d (.int 2)] = _ := c2
    have c3 : m_ulawucell [.d (.lst (dI ns)), .d (.int 3)] = _ := c3
    have c4 : m_ulawucell [.d (.lst (dI ns)), .d (.int 4)] = _ := c4
    have c5 : m_ulawucell [.d (.lst (dI ns)), .d (.int 5)] = _ := c5
    have c6 : m_ulawucell [.d (.lst (dI ns)), .d (.int 6)] = _ := c6
    refine w_defM rfl (by fail "S") ?_
    unfold b_ulawuvalue
    generalize D.lst (dI ns) = sc at c0 c1 c2 c3 c4 c5 c6
    generalize cellZ ns 0 = z0 at c0
    generalize cellZ ns 1 = z1 at c1
    generalize cellZ ns 2 = z2 at c2
    generalize cellZ ns 3 = z3 at c3
    generalize cellZ ns 4 = z4 at c4
    generalize cellZ ns 5 = z5 at c5
    generalize cellZ ns 6 = z6 at c6
    obtain ⟨S, hS⟩ : ∃ S : List Nat, S = [97, 98, 99, 100, 101, 102, 103, 104, 105, 106, 107, 108, 109, 110, 111, 112, 113, 114, 115, 116, 117, 118, 119, 120, 121, 122, 97, 98, 99, 63, 63, 63, 42, 42, 42, 120, 121, 122, 63, 42] := ⟨_, rfl⟩
    obtain ⟨T, hT⟩ : ∃ T : List Nat, T = [65, 90, 48, 57, 32, 10, 9, 45, 95, 46, 44, 43, 33, 47, 92, 91, 93, 94, 36, 124, 40, 41, 123, 125] := ⟨_, rfl⟩
    rw [← hS, ← hT]
    have S1 : S.length = 40 := by rw [hS]; rfl
    have S2 : ∀ c ∈ S, c < 128 := by rw [hS]; decide
    have T1 : T.length = 24 := by rw [hT]; rfl
    have T2 : ∀ c ∈ T, c < 128 := by rw [hT]; decide
    clear hS hT
    obtain ⟨n0, hn0, m0⟩ := mod_nat (z := z0) (b := 12) (by decide)
    have m0 : modD (.int z0) (.int 12) = some (.d (.int (n0 : Nat))) := m0
    obtain ⟨n9, hn9, m9⟩ := mod_nat (z := z0) (b := 90) (by decide)
    have m9 : modD (.int z0) (.int 90) = some (.d (.int (n9 : Nat))) := m9
    have m2 : modD (.int z2) (.int 3) = some (.d (.int (z2 % 3))) := Dw.mod_ok (by decide)
    have m5 : modD (.int z5) (.int 8) = some (.d (.int (z5 % 8))) := Dw.mod_ok (by decide)
    obtain ⟨n4, hn4, m4⟩ := mod_nat (z := z4) (b := 24) (by decide)
    have m4 : modD (.int z4) (.int 24) = some (.d (.int (n4 : Nat))) := m4
    obtain ⟨n6, hn6, m6⟩ := mod_nat (z := z6) (b := 8) (by decide)
    have m6 : modD (.int z6) (.int 8) = some (.d (.int (n6 : Nat))) := m6
    have lT : lenD [.str T] = some (.d (.int 24)) := by rw [Dw.len_str (by rw [T1]; decide), T1]; rfl
    have g4 := (pick_get T2 (r := (n4 : Nat)) (by omega) (by omega) (by omega)).1
    have g4b := (pick_get T2 (r := (n4 : Nat)) (by omega) (by omega) (by omega)).2
    generalize T.getD (Int.toNat (n4 : Nat)) 0 = t4 at g4 g4b
    obtain ⟨ra, ha1, ha2, oa, ra0⟩ := ev_row (c := z1) (n := n0) (b := 40) (by omega) (by decide) (by decide)
    obtain ⟨rb, hb1, hb2, ob, rb0⟩ := ev_row (c := z1) (n := n0) (b := 26) (by omega) (by decide) (by decide)
    obtain ⟨rc, hc1, hc2, oc, rc0⟩ := ev_row (c := z1) (n := n9) (b := 26) (by omega) (by decide) (by decide)
    have comp : ∀ (fe : SE) (e0 : Sl), (fe = e_ulawuvalue_1 ∨ fe = e_ulawuvalue_2 ∨ fe = e_ulawuvalue_3) → (∃ s2 s3 s4, e0 = [.d sc, .d (.str S), s2, s3, s4, .un]) → ∀ (rs : List Int), (∀ r ∈ rs, 0 ≤ r ∧ r < 40) → rs.length ≤ 1000 → compD [5] (.nm 5) none fe (rs.map .int) [] e0 = some (sS (rs.map fun r => S.getD r.toNat 0), e0) := by
      rintro fe e0 hfe ⟨s2, s3, s4, rfl⟩ rs hr hl
      rw [← map_pick]
      refine w_compM (vs := [5]) (tg := .nm 5) (d := D.int) (by omega) fun r hr' => ?_
      have g := (pick_get S2 (hr r hr').1 (by have := (hr r hr').2; omega) (by omega)).1
      refine ⟨[.d sc, .d (.str S), s2, s3, s4, .d (.int r)], by fail "S", ?_⟩
      rcases hfe with rfl | rfl | rfl
      · unfold e_ulawuvalue_1
        (repeat' fail "V")
        exact ⟨_, rfl, rfl⟩
      · unfold e_ulawuvalue_2
        (repeat' fail "V")
        exact ⟨_, rfl, rfl⟩
      · unfold e_ulawuvalue_3
        (repeat' fail "V")
        exact ⟨_, rfl, rfl⟩
    have pa := ok_pick S2 (by omega) (rs := ra) (fun r hr => ⟨(ha1 r hr).1, by have := (ha1 r hr).2; omega⟩)
    have pb := ok_pick S2 (by omega) (rs := rb) (fun r hr => ⟨(hb1 r hr).1, by have := (hb1 r hr).2; omega⟩)
    have pc := ok_pick S2 (by omega) (rs := rc) (fun r hr => ⟨(hc1 r hr).1, by have := (hc1 r hr).2; omega⟩)
    have ka := fun e0 he => comp e_ulawuvalue_1 e0 (.inl rfl) he ra (fun r hr => ⟨(ha1 r hr).1, (ha1 r hr).2⟩) (by omega)
    have kb := fun e0 he => comp e_ulawuvalue_2 e0 (.inr (.inl rfl)) he rb (fun r hr => ⟨(hb1 r hr).1, by have := (hb1 r hr).2; omega⟩) (by omega)
    have kc := fun e0 he => comp e_ulawuvalue_3 e0 (.inr (.inr rfl)) he rc (fun r hr => ⟨(hc1 r hr).1, by have := (hc1 r hr).2; omega⟩) (by omega)
    rw [ha2] at pa
    rw [hb2] at pb
    rw [hc2] at pc
    generalize (ra.map fun r => S.getD r.toNat 0) = xa at pa ka
    generalize (rb.map fun r => S.getD r.toNat 0) = xb at pb kb
    generalize (rc.map fun r => S.getD r.toNat 0) = xc at pc kc
    have ra0 : m_ulawurow [.d (.int z1), .d (.int (n0 : Nat)), .d (.int 40)] = some (.ok (.own (.lst (ra.map .int))) oa) := ra0
    have rb0 : m_ulawurow [.d (.int z1), .d (.int (n0 : Nat)), .d (.int 26)] = some (.ok (.own (.lst (rb.map .int))) ob) := rb0
    have rc0 : m_ulawurow [.d (.int z1), .d (.int (n9 : Nat)), .d (.int 26)] = some (.ok (.own (.lst (rc.map .int))) oc) := rc0
    refine w_seqP3 (fun e => e = [.d sc, .d (.str S), .d (.str T), .d (.int (n0 : Nat)), .un, .un]) ?_ ?_
    · (repeat' fail "V")
      rfl
    rintro _ rfl
    refine w_seqP (fun e => e = [.d sc, .d (.str S), .d (.str T), .d (.int (n0 : Nat)), .own false (.lst (sS xa)), .un]) ?_ ?_
    · (repeat' fail "V")
      refine Dw.w_comp1 (env2 := [.d sc, .d (.str S), .d (.str T), .d (.int (n0 : Nat)), .un, .un]) (ka _ ⟨_, _, _, rfl⟩) rfl ?_
      (repeat' fail "V")
      rfl
    rintro _ rfl
    refine w_seqP (fun e => ∃ xs, okX n0 xs ∧ e = [.d sc, .d (.str S), .d (.str T), .d (.int (n0 : Nat)), .own false (.lst (sS xs)), .un]) ?_ ?_
    · (repeat' fail "V")
      · intro _
        (repeat' fail "V")
        · intro hp
          have hp := of_decide_eq_true hp
          obtain ⟨n3, hn3, m3⟩ := mod_nat (z := z3) (b := n0) (by omega)
          (repeat' fail "V")
          refine ⟨_, _, _, _, rfl, rfl, ?_⟩
          (repeat' fail "V")
          refine ⟨_, _, _, _, _, rfl, rfl, ixN_nat (by rw [List.length_map, pa.1]; exact hn3), rfl, xa.set n3 t4, ⟨by rw [List.length_set]; exact pa.1, fun c hc => ?_⟩, ?_⟩
          · rcases List.mem_or_eq_of_mem_set hc with h | rfl
            · exact pa.2 c h
            · exact g4b
          · show [SV.d sc, .d (.str S), .d (.str T), .d (.int (n0 : Nat)), .own false (.lst ((sS xa).set n3 (.str [t4]))), .un] = _
            rw [← List.map_set]
        · intro _
          (repeat' fail "V")
          exact ⟨xa, pa, rfl⟩
      · intro _
        (repeat' fail "V")
        exact ⟨xa, pa, rfl⟩
    rintro _ ⟨xs, hx, rfl⟩
    refine w_seqP (fun e => ∃ xs, okX n0 xs ∧ e = [.d sc, .d (.str S), .d (.str T), .d (.int (n0 : Nat)), .own false (.lst (sS xs)), .un]) ?_ ?_
    · (repeat' fail "V")
      · intro _
        (repeat' fail "V")
        refine Dw.w_comp1 (env2 := [.d sc, .d (.str S), .d (.str T), .d (.int (n0 : Nat)), .own false (.lst (sS xs)), .un]) (kb _ ⟨_, _, _, rfl⟩) rfl ?_
        (repeat' fail "V")
        exact ⟨xb, pb, rfl⟩
      · intro _
        (repeat' fail "V")
        exact ⟨xs, hx, rfl⟩
    clear hx
    rintro _ ⟨xs, hx, rfl⟩
    refine w_seqP (fun e => ∃ xs, (xs.length ≤ 90 ∧ ∀ c ∈ xs, c < 128) ∧ e = [.d sc, .d (.str S), .d (.str T), .d (.int (n0 : Nat)), .own false (.lst (sS xs)), .un]) ?_ ?_
    · (repeat' fail "V")
      · intro _
        (repeat' fail "V")
        refine Dw.w_comp1 (env2 := [.d sc, .d (.str S), .d (.str T), .d (.int (n0 : Nat)), .own false (.lst (sS xs)), .un]) (kc _ ⟨_, _, _, rfl⟩) rfl ?_
        (repeat' fail "V")
        exact ⟨xc, ⟨by have := pc.1; omega, pc.2⟩, rfl⟩
      · intro _
        (repeat' fail "V")
        exact ⟨xs, ⟨by have := hx.1; omega, hx.2⟩, rfl⟩
    clear hx
    rintro _ ⟨xs, ⟨hx1, hx2⟩, rfl⟩
    have gs : getD (.lst spec) (.int (n6 : Nat)) = some (.d (spec.getD n6 .non)) := by
      refine Dw.get_lst (L2.atI_nat ?_)
      have : n6 < spec.length := hn6
      rw [List.getD_eq_getElem?_getD, List.getElem?_eq_getElem this]
      rfl
    have gm : spec.getD n6 .non ∈ spec := by
      have : n6 < spec.length := hn6
      rw [List.getD_eq_getElem?_getD, List.getElem?_eq_getElem this]
      exact List.getElem_mem this
    have gs : getD (.lst [.int 7, .non, .bl true, .bl false, .lst [.str [97]], .tup [.str [97]], .lst [], .int (-1)]) (.int (n6 : Nat)) = some (.d (spec.getD n6 .non)) := gs
    generalize spec.getD n6 .non = y at gs gm
    have jn : joinD (.str []) [.lst (sS xs)] = some (.d (.str xs)) := join_chr (by omega)
    (repeat' fail "V")
    · intro _
      (repeat' fail "V")
      exact ⟨_, .inl gm, rfl, rfl⟩
    · intro _
      (repeat' fail "V")
      exact ⟨_, .inr ⟨xs, rfl, hx1, hx2⟩, rfl, rfl⟩
  obtain ⟨a, o, h1, x, hx, rfl, rfl⟩ := wF_get main
  exact ⟨x, hx, h1⟩
end
end P_talkalike_k04_forms
namespace P_talkalike_k04_forms
noncomputable section
open PySem PySem.Spec PyProof.Rows L2 Dw
variable [GI : Glo] [TI : Tabs]
local macro_rules | `(tactic| fail "S") => `(tactic| (focus ((repeat' (first | with_reducible assumption | with_reducible exact Dw.ty_str | with_reducible exact Dw.ty_lst | with_reducible exact Dw.lst_eq | with_reducible exact Dw.set_z | with_reducible exact Dw.setg_z | with_reducible exact Dw.ret_d | with_reducible exact Dw.ret_own | with_reducible exact Dw.mapd_nn | with_reducible exact Dw.pk_d | with_reducible exact Dw.pk_own | with_reducible exact Dw.pks_nil | with_reducible exact Dw.frz_d | with_reducible exact Dw.frz_own | with_reducible exact Dw.frzs_nil | with_reducible exact Dw.tru_bl | with_reducible exact Dw.tru_int | with_reducible exact Dw.tru_non | with_reducible exact Dw.tru_lst | with_reducible exact Dw.tru_tup | with_reducible exact Dw.tru_ownl | with_reducible exact Dw.len_lst | with_reducible exact Dw.len_tup | with_reducible exact Dw.eq_int | with_reducible exact Dw.ne_int | with_reducible exact Dw.eq_str | with_reducible exact Dw.ne_str | with_reducible exact Dw.eq_bl | with_reducible exact Dw.ne_bl | with_reducible exact Dw.lt_int' | with_reducible exact Dw.lt_str' | with_reducible exact Dw.le_int' | with_reducible exact Dw.gt_int' | with_reducible exact Dw.ge_int' | with_reducible exact Dw.add_int' | with_reducible exact Dw.sub_int' | with_reducible exact Dw.neg_int' | with_reducible exact Dw.ord_str | with_reducible exact Dw.int_int | with_reducible exact Dw.int_bl | with_reducible exact Dw.list_lst | with_reducible exact Dw.list_tup | with_reducible exact Dw.lg_lst | with_reducible exact Dw.lg_tup | with_reducible exact Dw.tup_lst | with_reducible exact Dw.tup_tup | with_reducible exact Dw.it_lst | with_reducible exact Dw.it_tup | with_reducible exact Dw.it_str | with_reducible exact Dw.res_d | with_reducible exact Dw.res_own | with_reducible exact Dw.bk_nil | with_reducible exact Dw.look_place | with_reducible exact Dw.look_word | with_reducible exact Dw.rp_z | with_reducible exact Dw.cut_tup | with_reducible exact Dw.cut_lst | with_reducible exact Dw.st_lst | with_reducible exact Dw.st_tup | ((with_reducible apply Dw.pk_cv); exact rfl) | ((with_reducible apply Dw.fs_ok); exact rfl) | ((with_reducible apply Dw.gE); exact rfl) | ((with_reducible apply Dw.tru_cv); exact rfl) | ((with_reducible apply Dw.res_cv); exact rfl) | with_reducible apply Dw.pks_cons | with_reducible apply Dw.frzs_cons | with_reducible apply Dw.frzs_map | with_reducible apply Dw.mapd_c | with_reducible apply Dw.mapd_d | with_reducible apply Dw.inG_in | with_reducible apply Dw.set_s | with_reducible apply Dw.setg_s | with_reducible apply Dw.st_d | with_reducible apply Dw.st_own | with_reducible apply Dw.st_cv | with_reducible apply Dw.frz_cv | with_reducible apply Dw.bk_d | with_reducible apply Dw.bk_own | with_reducible apply Dw.put_nm | with_reducible apply Dw.put_two | with_reducible apply Dw.rp_c | with_reducible apply Dw.rp_s | with_reducible apply Dw.add_lst | with_reducible apply Dw.add_str | with_reducible apply Dw.app_ok | with_reducible apply Dw.get_str | with_reducible apply Dw.cut_str | with_reducible apply Dw.len_str | with_reducible apply Dw.tru_str | with_reducible apply Dw.lg_str | ((with_reducible apply Dw.fs_at); (exact rfl); (with_reducible assumption)) | ((with_reducible show Dw.okI _ = true); exact rfl) | ((with_reducible show (_ : Nat) ≤ _); ((try simp only [List.length_cons, List.length_nil, List.length_map, List.length_append, List.length_range, List.length_singleton] at *) <;> omega)) | ((with_reducible show (_ : Nat) < _); ((try simp only [List.length_cons, List.length_nil, List.length_map, List.length_append, List.length_range, List.length_singleton] at *) <;> omega)) | ((with_reducible show (_ : List _)[_]? = some _); exact rfl))); done)))
local macro_rules | `(tactic| fail "V") => `(tactic| (first | with_reducible apply Dw.w_const | ((with_reducible apply Dw.w_var); exact rfl) | ((with_reducible apply Dw.w_varO); exact rfl) | with_reducible apply Dw.w_two | with_reducible apply Dw.w_one | with_reducible apply Dw.w_not | with_reducible apply Dw.w_and | with_reducible apply Dw.w_or | with_reducible apply Dw.w_ife | with_reducible apply Dw.w_nil | with_reducible apply Dw.w_cons | with_reducible apply Dw.w_callE | with_reducible apply Dw.w_isi | with_reducible apply Dw.w_tup | with_reducible apply Dw.w_lst | with_reducible apply Dw.w_met | with_reducible apply Dw.w_callD | with_reducible apply Dw.w_callD0 | with_reducible apply Dw.w_callM | with_reducible apply Dw.w_mut | with_reducible apply Dw.w_ext | with_reducible apply Dw.w_pop | with_reducible apply Dw.w_sl | with_reducible apply Dw.w_bo0 | with_reducible apply Dw.w_bo1 | with_reducible apply Dw.w_comp | with_reducible apply Dw.w_all | with_reducible apply Dw.w_bet | with_reducible apply Dw.w_rev | with_reducible apply Dw.w_rg | with_reducible apply Dw.w_chain | with_reducible apply Dw.w_src | with_reducible apply Dw.w_args | with_reducible apply Dw.w_enum | with_reducible apply Dw.w_zip | with_reducible apply Dw.w_seq | with_reducible apply Dw.w_skip | with_reducible apply Dw.w_asg | with_reducible apply Dw.w_expr | with_reducible apply Dw.w_ret | with_reducible apply Dw.w_retN | with_reducible apply Dw.w_brk | with_reducible apply Dw.w_cnt | with_reducible apply Dw.w_ite | with_reducible apply Dw.w_for | with_reducible apply Dw.w_raise | with_reducible apply Dw.w_raiseN | with_reducible apply Dw.w_setL | with_reducible apply Dw.w_lenSet | with_reducible apply Dw.w_star | with_reducible apply Dw.w_newK | with_reducible apply Dw.w_setK | ((with_reducible apply Dw.w_op); (fail "S"); (fail "S"); (fail "S")) | ((with_reducible apply Dw.w_op1); (fail "S"); (fail "S")) | ((with_reducible apply Dw.w_not1); (fail "S")) | ((with_reducible apply Dw.w_opE); (fail "S"); (fail "S")) | ((with_reducible apply Dw.w_isi1); (fail "S"); (fail "S")) | ((with_reducible apply Dw.w_tup1); (fail "S"); (fail "S")) | ((with_reducible apply Dw.w_lst1); (fail "S"); (fail "S")) | ((with_reducible apply Dw.w_met1); (fail "S"); (fail "S")) | ((with_reducible apply Dw.w_met2); (fail "S"); (fail "S"); (fail "S")) | ((with_reducible apply Dw.w_callD1); (fail "S"); (fail "S")) | ((with_reducible apply Dw.w_callM1); (fail "S"); (fail "S"); (fail "S"); (fail "S"); (fail "S"); (fail "S")) | ((with_reducible apply Dw.w_mut1); (fail "S")) | ((with_reducible apply Dw.w_mut2); (fail "S"); (fail "S"); (fail "S"); (fail "S")) | ((with_reducible apply Dw.w_ext1); (fail "S")) | ((with_reducible apply Dw.w_ext2); (fail "S"); (fail "S"); (fail "S")) | ((with_reducible apply Dw.w_pop1); (fail "S"); (fail "S"); (fail "S")) | ((with_reducible apply Dw.w_bo2); (fail "S")) | ((with_reducible apply Dw.w_sl1); (fail "S"); (fail "S")) | ((with_reducible apply Dw.w_all1); (fail "S")) | ((with_reducible apply Dw.w_bet1); (fail "S")) | ((with_reducible apply Dw.w_rev1); (fail "S")) | ((with_reducible apply Dw.w_chain1); (fail "S"); (fail "S"); (fail "S")) | ((with_reducible apply Dw.w_src1); (fail "S"); (fail "S")) | ((with_reducible apply Dw.w_args1); (fail "S"); (fail "S")) | ((with_reducible apply Dw.w_enum1); (fail "S")) | ((with_reducible apply Dw.w_enum2); (fail "S")) | ((with_reducible apply Dw.w_zip1); (fail "S"); (fail "S"); (fail "S")) | ((with_reducible apply Dw.w_st); (fail "S")) | ((with_reducible apply Dw.w_set); (fail "S")) | ((with_reducible apply Dw.w_b); (fail "S")) | ((with_reducible apply Dw.wC_ok); (fail "S"); (fail "S")) | ((with_reducible apply Dw.wM_ok); (fail "S"); (fail "S"); (fail "S"); (fail "S")) | ((with_reducible apply Dw.w_out1); (fail "S")) | ((with_reducible apply Dw.w_out2); (fail "S"); (fail "S")) | ((with_reducible apply Dw.w_raise1); (fail "S")) | ((with_reducible apply Dw.w_xf); (fail "S"); (fail "S")) | ((with_reducible apply Dw.w_isx); (fail "S")) | ((with_reducible apply Dw.w_lenSet1); (fail "S"); (fail "S")) | ((with_reducible apply Dw.w_star1); (fail "S"); (fail "S")) | with_reducible refine Dw.w_tt ?_ | with_reducible refine Dw.w_ff ?_ | with_reducible exact Dw.w_tf | with_reducible exact Dw.w_ft | with_reducible refine Dw.w_n1 ?_ | with_reducible exact Dw.w_n2 | with_reducible refine Dw.w_n3 ?_ | with_reducible exact Dw.w_n4 | ((with_reducible refine Dw.w_hT ?_ ?_); (with_reducible assumption)) | ((with_reducible refine Dw.w_hF ?_); (with_reducible assumption)) | ((with_reducible refine Dw.w_gT ?_ ?_); (with_reducible assumption)) | ((with_reducible refine Dw.w_gF ?_); (with_reducible assumption))))
/-! ### the forms -/
def lt (c : Nat) : Bool := decide (97 ≤ c) && decide (c ≤ 122)
def wl (c : Nat) : Bool := c == 63 || c == 42
theorem one_eq (a b : Nat) : ([a] == [b]) = (a == b) := by
  by_cases h : a = b
  · subst h; simp
  · simp [h]
theorem le_chr (a b : Nat) : leD (.str [a]) (.str [b]) = some (.d (.bl (decide (a ≤ b)))) := by
  show some (RV.d (.bl (!decide ([b] < [a])))) = _
  congr 3
  rw [Bool.eq_iff_iff, Bool.not_eq_true', decide_eq_false_iff_not, decide_eq_true_iff]
  have : [b] < [a] ↔ b < a := by simp [List.cons_lt_cons_iff]
  rw [this]
  omega
theorem abc_lt (c : Nat) : decide (c ∈ [97, 98, 99, 100, 101, 102, 103, 104, 105, 106, 107, 108, 109, 110, 111, 112, 113, 114, 115, 116, 117, 118, 119, 120, 121, 122]) = lt c := by
  unfold lt
  rw [← Bool.decide_and, decide_eq_decide]
  constructor
  · intro h
    simp only [List.mem_cons, List.not_mem_nil, or_false] at h
    omega
  · intro h
    simp only [List.mem_cons, List.not_mem_nil, or_false]
    omega
theorem qs_wl (c : Nat) : decide (c ∈ (Str.ofString "?*").cps.toList) = wl c := by
  have : (Str.ofString "?*").cps.toList = [63, 42] := by decide
  rw [this]
  unfold wl
  rw [Bool.eq_iff_iff, decide_eq_true_iff, Bool.or_eq_true, beq_iff_eq, beq_iff_eq, List.mem_cons, List.mem_singleton]
theorem cnt_two : ∀ s : List Nat, s.countP lt + s.countP wl = s.countP fun c => lt c || wl c
  | [] => rfl
  | c :: s => by
    have ih := cnt_two s
    have : (lt c && wl c) = false := by
      unfold lt wl
      by_cases h1 : c = 63
      · subst h1; rfl
      · by_cases h2 : c = 42
        · subst h2; rfl
        · simp [h1, h2]
    simp only [List.countP_cons]
    generalize lt c = a at this
    generalize wl c = b at this
    cases a <;> cases b <;> simp at this ⊢ <;> omega
theorem ev_due_turn {s : List Nat} {a b c : Nat} : wS l_ulawudue_1 [.d (.str s), .d (.int (a : Nat)), .d (.int (b : Nat)), .d (.str [c]), .un]
    (fun e => e = [.d (.str s), .d (.int ((a + (if lt c = true then 1 else 0) : Nat) : Int)), .d (.int ((b + (if wl c = true then 1 else 0) : Nat) : Int)), .d (.str [c]), .un]) ⟨fun _ _ => False, nS, nS, nE⟩ := by
  have l1 := le_chr 97 c
  have l2 := le_chr c 122
  have s1 := one_eq c 63
  have s2 := one_eq c 42
  unfold lt wl
  unfold l_ulawudue_1
  generalize decide (97 ≤ c) = b1 at l1
  generalize decide (c ≤ 122) = b2 at l2
  generalize (c == 63) = b3 at s1
  generalize (c == 42) = b4 at s2
  cases b1 <;> cases b2 <;> cases b3 <;> cases b4 <;> ((repeat' fail "V"); first | rfl | (rw [s1]; rfl) | (rw [s2]; rfl))
theorem ev_due {s : List Nat} (hl : s.length ≤ 90) {k : Int} (ct : textM countL (.str s) [.str [42]] = some (.d (.int k))) : m_ulawudue [.d (.str s)] = some (.ok (.d (.tup [.bl (s.all lt), .bl ((s.all fun c => lt c || wl c) && (decide (s.length ≤ 8) && decide (k ≤ 2))), .bl (((s.all fun c => lt c || wl c) && (decide (s.length ≤ 8) && decide (k ≤ 2))) && (s.countP wl == 0))])) [.d (.str s)]) := by
  have is : (!isiD "str" (.str s)) = false := rfl
  have ln : lenD [.str s] = some (.d (.int (s.length : Nat))) := Dw.len_str (Nat.le_trans hl (by decide))
  refine wF_eq (w_defM rfl (by fail "S") ?_)
  unfold b_ulawudue
  refine w_seqP (fun e => e = [.d (.str s), .un, .un, .un, .un]) ?_ ?_
  · (repeat' fail "V")
    rfl
  rintro _ rfl
  refine w_seqP3 (fun e => ∃ s3, e = [.d (.str s), .d (.int (s.countP lt : Nat)), .d (.int (s.countP wl : Nat)), s3, .un]) ?_ ?_
  · (repeat' fail "V")
    refine w_loopM (d := fun c : Nat => D.str [c]) (fun pre e => ∃ s3, (s3 = .un ∨ ∃ x, s3 = .d x) ∧ e = [.d (.str s), .d (.int (pre.countP lt : Nat)), .d (.int (pre.countP wl : Nat)), s3, .un]) ⟨.un, .inl rfl, rfl⟩ ?_ ?_
    · rintro pre c suf e he ⟨s3, f3, rfl⟩
      have f3 : freeSlot (some s3) = true := by rcases f3 with rfl | ⟨x, rfl⟩ <;> rfl
      refine ⟨[.d (.str s), .d (.int (pre.countP lt : Nat)), .d (.int (pre.countP wl : Nat)), .d (.str [c]), .un], by fail "S", ?_⟩
      refine wrs_mono ev_due_turn (fun e h => ?_) (fun _ _ h => h.elim) (fun _ h => h.elim) (fun _ h => h.elim) fun _ _ h => h.elim
      subst h
      refine ⟨.d (.str [c]), .inr ⟨_, rfl⟩, ?_⟩
      simp only [List.countP_append, List.countP_cons, List.countP_nil, Nat.zero_add]
    · rintro e ⟨s3, _, rfl⟩
      exact ⟨s3, rfl⟩
  rintro _ ⟨s3, rfl⟩
  have e0 : eqD (.int (s.countP lt : Nat)) (.int (s.length : Nat)) = some (.d (.bl (s.all lt))) := by
    rw [Dw.eq_int]
    congr 3
    rw [Bool.eq_iff_iff, beq_iff_eq, List.all_eq_true, ← List.countP_eq_length]
    omega
  have e1 : eqD (.int ((s.countP lt : Nat) + (s.countP wl : Nat))) (.int (s.length : Nat)) = some (.d (.bl (s.all fun c => lt c || wl c))) := by
    rw [Dw.eq_int]
    congr 3
    rw [Bool.eq_iff_iff, beq_iff_eq, List.all_eq_true, ← List.countP_eq_length, ← cnt_two]
    omega
  have e2 : eqD (.int (s.countP wl : Nat)) (.int 0) = some (.d (.bl (s.countP wl == 0))) := by
    rw [Dw.eq_int]
    congr 3
    rw [Bool.eq_iff_iff, beq_iff_eq, beq_iff_eq]
    omega
  have l8 : leD (.int (s.length : Nat)) (.int 8) = some (.d (.bl (decide (s.length ≤ 8)))) := by
    rw [Dw.le_int']
    congr 3
    rw [decide_eq_decide]
    omega
  have l2 : leD (.int k) (.int 2) = some (.d (.bl (decide (k ≤ 2)))) := Dw.le_int'
  generalize s.all lt = b0 at e0
  generalize (s.all fun c => lt c || wl c) = b1 at e1
  generalize decide (s.length ≤ 8) = b2 at l8
  generalize decide (k ≤ 2) = b3 at l2
  generalize (s.countP wl == 0) = b4 at e2
  cases b1 <;> cases b2 <;> cases b3 <;> ((repeat' fail "V"); exact ⟨rfl, rfl⟩)
theorem ev_text {s : List Nat} : m_is_text [.d (.str s)] = some (.ok (.d (.bl (s.all lt))) [.d (.str s)]) := by
  have is : isiD "str" (.str s) = true := rfl
  have e : (fun c => decide (c ∈ [97, 98, 99, 100, 101, 102, 103, 104, 105, 106, 107, 108, 109, 110, 111, 112, 113, 114, 115, 116, 117, 118, 119, 120, 121, 122])) = lt := funext abc_lt
  refine wF_eq (w_defM rfl (by fail "S") ?_)
  unfold b_is_text
  rw [e]
  (repeat' fail "V")
  exact ⟨rfl, rfl⟩
theorem ev_pattern {s : List Nat} (hl : s.length ≤ 90) {k : Int} (ct : textM countL (.str s) [.str [42]] = some (.d (.int k))) : m_is_pattern [.d (.str s)] = some (.ok (.d (.bl ((s.all fun c => lt c || wl c) && (decide (s.length ≤ 8) && decide (k ≤ 2))))) [.d (.str s)]) := by
  have is : (!isiD "str" (.str s)) = false := rfl
  have ln : lenD [.str s] = some (.d (.int (s.length : Nat))) := Dw.len_str (Nat.le_trans hl (by decide))
  have e : (fun c => (decide (c ∈ [97, 98, 99, 100, 101, 102, 103, 104, 105, 106, 107, 108, 109, 110, 111, 112, 113, 114, 115, 116, 117, 118, 119, 120, 121, 122]) || decide (c ∈ (Str.ofString "?*").cps.toList))) = fun c => lt c || wl c := funext fun c => by rw [abc_lt, qs_wl]
  have g8 : gtD (.int (s.length : Nat)) (.int 8) = some (.d (.bl (!decide (s.length ≤ 8)))) := by
    rw [Dw.gt_int', ← decide_not]
    congr 3
    rw [decide_eq_decide]
    omega
  have g2 : gtD (.int k) (.int 2) = some (.d (.bl (!decide (k ≤ 2)))) := by
    rw [Dw.gt_int', ← decide_not]
    congr 3
    rw [decide_eq_decide]
    omega
  refine wF_eq (w_defM rfl (by fail "S") ?_)
  unfold b_is_pattern
  rw [e]
  generalize decide (s.length ≤ 8) = b2 at g8
  generalize decide (k ≤ 2) = b3 at g2
  have q : ∀ b : Bool, (b && (true && true)) = b := fun b => by cases b <;> rfl
  have q2 : ∀ b c : Bool, (b && (false && c)) = false := fun b c => by cases b <;> rfl
  have q3 : ∀ b : Bool, (b && (true && false)) = false := fun b => by cases b <;> rfl
  cases b2
  · rw [q2]
    have g8 : gtD (.int (s.length : Nat)) (.int 8) = some (.d (.bl true)) := g8
    (repeat' fail "V")
    exact ⟨rfl, rfl⟩
  · have g8 : gtD (.int (s.length : Nat)) (.int 8) = some (.d (.bl false)) := g8
    cases b3
    · rw [q3]
      have g2 : gtD (.int k) (.int 2) = some (.d (.bl true)) := g2
      (repeat' fail "V")
      exact ⟨rfl, rfl⟩
    · rw [q]
      have g2 : gtD (.int k) (.int 2) = some (.d (.bl false)) := g2
      (repeat' fail "V")
      exact ⟨rfl, rfl⟩
theorem ev_plain {p : List Nat} : m_is_plain [.d (.str p)] = some (.ok (.d (.bl (p.countP wl == 0))) [.d (.str p)]) := by
  have n1 : notInG (.str [63]) (.str p) = some (.d (.bl (!decide (63 ∈ p)))) := notInG_of (inG_in rfl)
  have n2 : notInG (.str [42]) (.str p) = some (.d (.bl (!decide (42 ∈ p)))) := notInG_of (inG_in rfl)
  have e : (p.countP wl == 0) = (!decide (63 ∈ p) && !decide (42 ∈ p)) := by
    rw [Bool.eq_iff_iff, beq_iff_eq, List.countP_eq_zero, Bool.and_eq_true, Bool.not_eq_true', Bool.not_eq_true', decide_eq_false_iff_not, decide_eq_false_iff_not]
    constructor
    · intro h
      exact ⟨fun m => h _ m rfl, fun m => h _ m rfl⟩
    · rintro ⟨h1, h2⟩ c hc h
      unfold wl at h
      rw [Bool.or_eq_true, beq_iff_eq, beq_iff_eq] at h
      rcases h with rfl | rfl
      · exact h1 hc
      · exact h2 hc
  rw [e]
  refine wF_eq (w_defM rfl (by fail "S") ?_)
  unfold b_is_plain
  generalize decide (63 ∈ p) = b1 at n1
  generalize decide (42 ∈ p) = b2 at n2
  cases b1 <;> cases b2 <;> ((repeat' fail "V"); exact ⟨rfl, rfl⟩)
theorem ev_other {x : D} (h : isiD "str" x = false) (ho : okI x = true) : m_is_text [.d x] = some (.ok (.d (.bl false)) [.d x]) ∧ m_is_pattern [.d x] = some (.ok (.d (.bl false)) [.d x]) ∧ m_ulawudue [.d x] = some (.ok (.d (.tup [.bl false, .bl false, .bl false])) [.d x]) := by
  have hn : (!isiD "str" x) = true := by rw [h]; rfl
  refine ⟨wF_eq (w_defM rfl (by fail "S") ?_), wF_eq (w_defM rfl (by fail "S") ?_), wF_eq (w_defM rfl (by fail "S") ?_)⟩
  · unfold b_is_text
    (repeat' fail "V")
    exact ⟨by rw [h], rfl⟩
  · unfold b_is_pattern
    (repeat' fail "V")
    exact ⟨rfl, rfl⟩
  · unfold b_ulawudue
    (repeat' fail "V")
    exact ⟨rfl, rfl⟩
end
end P_talkalike_k04_forms
namespace P_talkalike_k04_forms
noncomputable section
open PySem PySem.Spec PyProof.Rows L2 Dw
variable [GI : Glo] [TI : Tabs]
local macro_rules | `(tactic| fail "S") => `(tactic| (focus ((repeat' (first | with_reducible assumption | with_reducible exact Dw.ty_str | with_reducible exact Dw.ty_lst | with_reducible exact Dw.lst_eq | with_reducible exact Dw.set_z | with_reducible exact Dw.setg_z | with_reducible exact Dw.ret_d | with_reducible exact Dw.ret_own | with_reducible exact Dw.mapd_nn | with_reducible exact Dw.pk_d | with_reducible exact Dw.pk_own | with_reducible exact Dw.pks_nil | with_reducible exact Dw.frz_d | with_reducible exact Dw.frz_own | with_reducible exact Dw.frzs_nil | with_reducible exact Dw.tru_bl | with_reducible exact Dw.tru_int | with_reducible exact Dw.tru_non | with_reducible exact Dw.tru_lst | with_reducible exact Dw.tru_tup | with_reducible exact Dw.tru_ownl | with_reducible exact Dw.len_lst | with_reducible exact Dw.len_tup | with_reducible exact Dw.eq_int | with_reducible exact Dw.ne_int | with_reducible exact Dw.eq_str | with_reducible exact Dw.ne_str | with_reducible exact Dw.eq_bl | with_reducible exact Dw.ne_bl | with_reducible exact Dw.lt_int' | with_reducible exact Dw.lt_str' | with_reducible exact Dw.le_int' | with_reducible exact Dw.gt_int' | with_reducible exact Dw.ge_int' | with_reducible exact Dw.add_int' | with_reducible exact Dw.sub_int' | with_reducible exact Dw.neg_int' | with_reducible exact Dw.ord_str | with_reducible exact Dw.int_int | with_reducible exact Dw.int_bl | with_reducible exact Dw.list_lst | with_reducible exact Dw.list_tup | with_reducible exact Dw.lg_lst | with_reducible exact Dw.lg_tup | with_reducible exact Dw.tup_lst | with_reducible exact Dw.tup_tup | with_reducible exact Dw.it_lst | with_reducible exact Dw.it_tup | with_reducible exact Dw.it_str | with_reducible exact Dw.res_d | with_reducible exact Dw.res_own | with_reducible exact Dw.bk_nil | with_reducible exact Dw.look_place | with_reducible exact Dw.look_word | with_reducible exact Dw.rp_z | with_reducible exact Dw.cut_tup | with_reducible exact Dw.cut_lst | with_reducible exact Dw.st_lst | with_reducible exact Dw.st_tup | ((with_reducible apply Dw.pk_cv); exact rfl) | ((with_reducible apply Dw.fs_ok); exact rfl) | ((with_reducible apply Dw.gE); exact rfl) | ((with_reducible apply Dw.tru_cv); exact rfl) | ((with_reducible apply Dw.res_cv); exact rfl) | with_reducible apply Dw.pks_cons | with_reducible apply Dw.frzs_cons | with_reducible apply Dw.frzs_map | with_reducible apply Dw.mapd_c | with_reducible apply Dw.mapd_d | with_reducible apply Dw.inG_in | with_reducible apply Dw.set_s | with_reducible apply Dw.setg_s | with_reducible apply Dw.st_d | with_reducible apply Dw.st_own | with_reducible apply Dw.st_cv | with_reducible apply Dw.frz_cv | with_reducible apply Dw.bk_d | with_reducible apply Dw.bk_own | with_reducible apply Dw.put_nm | with_reducible apply Dw.put_two | with_reducible apply Dw.rp_c | with_reducible apply Dw.rp_s | with_reducible apply Dw.add_lst | with_reducible apply Dw.add_str | with_reducible apply Dw.app_ok | with_reducible apply Dw.get_str | with_reducible apply Dw.cut_str | with_reducible apply Dw.len_str | with_reducible apply Dw.tru_str | with_reducible apply Dw.lg_str | ((with_reducible apply Dw.fs_at); (exact rfl); (with_reducible assumption)) | ((with_reducible show Dw.okI _ = true); exact rfl) | ((with_reducible show (_ : Nat) ≤ _); ((try simp only [List.length_cons, List.length_nil, List.length_map, List.length_append, List.length_range, List.length_singleton] at *) <;> omega)) | ((with_reducible show (_ : Nat) < _); ((try simp only [List.length_cons, List.length_nil, List.length_map, List.length_append, List.length_range, List.length_singleton] at *) <;> omega)) | ((with_reducible show (_ : List _)[_]? = some _); exact rfl))); done)))
local macro_rules | `(tactic| fail "V") => `(tactic| (first | with_reducible apply Dw.w_const | ((with_reducible apply Dw.w_var); exact rfl) | ((with_reducible apply Dw.w_varO); exact rfl) | with_reducible apply Dw.w_two | with_reducible apply Dw.w_one | with_reducible apply Dw.w_not | with_reducible apply Dw.w_and | with_reducible apply Dw.w_or | with_reducible apply Dw.w_ife | with_reducible apply Dw.w_nil | with_reducible apply Dw.w_cons | with_reducible apply Dw.w_callE | with_reducible apply Dw.w_isi | with_reducible apply Dw.w_tup | with_reducible apply Dw.w_lst | with_reducible apply Dw.w_met | with_reducible apply Dw.w_callD | with_reducible apply Dw.w_callD0 | with_reducible apply Dw.w_callM | with_reducible apply Dw.w_mut | with_reducible apply Dw.w_ext | with_reducible apply Dw.w_pop | with_reducible apply Dw.w_sl | with_reducible apply Dw.w_bo0 | with_reducible apply Dw.w_bo1 | with_reducible apply Dw.w_comp | with_reducible apply Dw.w_all | with_reducible apply Dw.w_bet | with_reducible apply Dw.w_rev | with_reducible apply Dw.w_rg | with_reducible apply Dw.w_chain | with_reducible apply Dw.w_src | with_reducible apply Dw.w_args | with_reducible apply Dw.w_enum | with_reducible apply Dw.w_zip | with_reducible apply Dw.w_seq | with_reducible apply Dw.w_skip | with_reducible apply Dw.w_asg | with_reducible apply Dw.w_expr | with_reducible apply Dw.w_ret | with_reducible apply Dw.w_retN | with_reducible apply Dw.w_brk | with_reducible apply Dw.w_cnt | with_reducible apply Dw.w_ite | with_reducible apply Dw.w_for | with_reducible apply Dw.w_raise | with_reducible apply Dw.w_raiseN | with_reducible apply Dw.w_setL | with_reducible apply Dw.w_lenSet | with_reducible apply Dw.w_star | with_reducible apply Dw.w_newK | with_reducible apply Dw.w_setK | ((with_reducible apply Dw.w_op); (fail "S"); (fail "S"); (fail "S")) | ((with_reducible apply Dw.w_op1); (fail "S"); (fail "S")) | ((with_reducible apply Dw.w_not1); (fail "S")) | ((with_reducible apply Dw.w_opE); (fail "S"); (fail "S")) | ((with_reducible apply Dw.w_isi1); (fail "S"); (fail "S")) | ((with_reducible apply Dw.w_tup1); (fail "S"); (fail "S")) | ((with_reducible apply Dw.w_lst1); (fail "S"); (fail "S")) | ((with_reducible apply Dw.w_met1); (fail "S"); (fail "S")) | ((with_reducible apply Dw.w_met2); (fail "S"); (fail "S"); (fail "S")) | ((with_reducible apply Dw.w_callD1); (fail "S"); (fail "S")) | ((with_reducible apply Dw.w_callM1); (fail "S"); (fail "S"); (fail "S"); (fail "S"); (fail "S"); (fail "S")) | ((with_reducible apply Dw.w_mut1); (fail "S")) | ((with_reducible apply Dw.w_mut2); (fail "S"); (fail "S"); (fail "S"); (fail "S")) | ((with_reducible apply Dw.w_ext1); (fail "S")) | ((with_reducible apply Dw.w_ext2); (fail "S"); (fail "S"); (fail "S")) | ((with_reducible apply Dw.w_pop1); (fail "S"); (fail "S"); (fail "S")) | ((with_reducible apply Dw.w_bo2); (fail "S")) | ((with_reducible apply Dw.w_sl1); (fail "S"); (fail "S")) | ((with_reducible apply Dw.w_all1); (fail "S")) | ((with_reducible apply Dw.w_bet1); (fail "S")) | ((with_reducible apply Dw.w_rev1); (fail "S")) | ((with_reducible apply Dw.w_chain1); (fail "S"); (fail "S"); (fail "S")) | ((with_reducible apply Dw.w_src1); (fail "S"); (fail "S")) | ((with_reducible apply Dw.w_args1); (fail "S"); (fail "S")) | ((with_reducible apply Dw.w_enum1); (fail "S")) | ((with_reducible apply Dw.w_enum2); (fail "S")) | ((with_reducible apply Dw.w_zip1); (fail "S"); (fail "S"); (fail "S")) | ((with_reducible apply Dw.w_st); (fail "S")) | ((with_reducible apply Dw.w_set); (fail "S")) | ((with_reducible apply Dw.w_b); (fail "S")) | ((with_reducible apply Dw.wC_ok); (fail "S"); (fail "S")) | ((with_reducible apply Dw.wM_ok); (fail "S"); (fail "S"); (fail "S"); (fail "S")) | ((with_reducible apply Dw.w_out1); (fail "S")) | ((with_reducible apply Dw.w_out2); (fail "S"); (fail "S")) | ((with_reducible apply Dw.w_raise1); (fail "S")) | ((with_reducible apply Dw.w_xf); (fail "S"); (fail "S")) | ((with_reducible apply Dw.w_isx); (fail "S")) | ((with_reducible apply Dw.w_lenSet1); (fail "S"); (fail "S")) | ((with_reducible apply Dw.w_star1); (fail "S"); (fail "S")) | with_reducible refine Dw.w_tt ?_ | with_reducible refine Dw.w_ff ?_ | with_reducible exact Dw.w_tf | with_reducible exact Dw.w_ft | with_reducible refine Dw.w_n1 ?_ | with_reducible exact Dw.w_n2 | with_reducible refine Dw.w_n3 ?_ | with_reducible exact Dw.w_n4 | ((with_reducible refine Dw.w_hT ?_ ?_); (with_reducible assumption)) | ((with_reducible refine Dw.w_hF ?_); (with_reducible assumption)) | ((with_reducible refine Dw.w_gT ?_ ?_); (with_reducible assumption)) | ((with_reducible refine Dw.w_gF ?_); (with_reducible assumption))))
/-! ### the error -/
theorem ev_ck {x : D} {p : Bool} (hp : m_is_pattern [.d x] = some (.ok (.d (.bl p)) [.d x])) : wF (m_check_pattern [.d x]) (fun u o => p = true ∧ u = .d .non) (fun e o => p = false ∧ e = xnOf "BadPattern" x) := by
  refine w_defX rfl (by fail "S") ?_
  unfold b_check_pattern
  cases p
  · have t : (!false) = true := rfl
    (repeat' fail "V")
    exact ⟨rfl, rfl⟩
  · have t : (!true) = false := rfl
    (repeat' fail "V")
    exact ⟨rfl, rfl⟩
theorem ev_ask {x : D} {p : Bool} (hp : m_is_pattern [.d x] = some (.ok (.d (.bl p)) [.d x])) (hr : reprD [x] = some (.d (.str (shownL x)))) : m_ulawuasksucheck [.d x, .d (.bl p)] = some (.ok (.d (.bl true)) [.d x, .d (.bl p)]) := by
  have ck := ev_ck hp
  refine wF_eq (w_defM rfl (by fail "S") ?_)
  unfold b_ulawuasksucheck
  cases p
  · refine w_seqP (fun _ => False) ?_ ?_
    · refine w_try ?_
      unfold t_ulawuasksucheck_1
      (repeat' fail "V")
      refine wC_use ck (fun u o h => by cases h.1) ?_
      rintro e o ⟨_, rfl⟩
      refine ⟨fun _ => ⟨rfl, ?_⟩, fun h => absurd (List.mem_cons_of_mem _ (List.mem_cons_self ..)) h⟩
      show wS _ [.d x, .d (.bl false), .xn (xnOf "BadPattern" x), .un] _ _
      have i1 : decide ((xnOf "BadPattern" x).cls ∈ (["BadPattern"] : List Str)) = true := decide_eq_true (List.mem_cons_self ..)
      have i2 : decide ((xnOf "BadPattern" x).cls ∈ (["TooManyPatterns"] : List Str)) = false := by
        show decide (("BadPattern" : Str) ∈ (["TooManyPatterns"] : List Str)) = false
        decide
      have i3 : decide ((xnOf "BadPattern" x).cls ∈ (["TalkError", "BadPattern", "TooManyPatterns"] : List Str)) = true := decide_eq_true (List.mem_cons_of_mem _ (List.mem_cons_self ..))
      have j1 : (!decide ((xnOf "BadPattern" x).cls ∈ (["BadPattern"] : List Str))) = false := by rw [i1]; rfl
      have j3 : (!decide ((xnOf "BadPattern" x).cls ∈ (["TalkError", "BadPattern", "TooManyPatterns"] : List Str))) = false := by rw [i3]; rfl
      have pw : eqD (.str (Str.ofString "BadPattern").cps.toList) (.str [66, 97, 100, 80, 97, 116, 116, 101, 114, 110]) = some (.d (.bl true)) := rfl
      have es : eqD (.str (shownL x)) (.str (shownL x)) = some (.d (.bl true)) := by rw [Dw.eq_str, beq_self_eq_true]
      unfold x_ulawuasksucheck_2
      (repeat' fail "V")
      exact ⟨rfl, by simp, _, _, rfl, rfl, rfl, rfl⟩
    · intro e h; exact h.elim
  · refine w_seqP (fun e => e = [.d x, .d (.bl true), .un, .d .non]) ?_ ?_
    · refine w_try ?_
      unfold t_ulawuasksucheck_1
      (repeat' fail "V")
      refine wC_use ck ?_ (fun e o h => by cases h.1)
      rintro u o ⟨_, rfl⟩
      refine ⟨_, rfl, ?_⟩
      (repeat' fail "V")
      rfl
    rintro _ rfl
    have i1 : isD .non .non = some (.d (.bl true)) := rfl
    (repeat' fail "V")
    exact ⟨rfl, rfl⟩
theorem ev_is {a b : Bool} : m_ulawuis [.d (.bl a), .d (.bl b)] = some (.ok (.d (.bl (a == b))) [.d (.bl a), .d (.bl b)]) := by
  have is : isiD "bool" (.bl a) = true := rfl
  refine wF_eq (w_defM rfl (by fail "S") ?_)
  unfold b_ulawuis
  (repeat' fail "V")
  exact ⟨rfl, rfl⟩
/-! ### what is shown -/
theorem spec_show : ∀ k : Fin 8, (shp (spec.getD k.val .non) = true ∧ (py (spec.getD k.val .non)).showable = true ∧ (py (spec.getD k.val .non)).hasDict = false) ∧ (py (spec.getD k.val .non)).shown.length ≤ 20 := by decide +kernel
theorem strOk_lt {x : List Nat} (h : ∀ c ∈ x, c < 128) : PyData.strOk (mk x) = true := by
  unfold PyData.strOk
  rw [Array.all_eq_true]
  intro i hi
  have : (mk x).cps[i] ∈ x := by simp [mk]
  have := h _ this
  simp; omega
theorem repr_v {x : D} (h : isV x) : reprD [x] = some (.d (.str (shownL x))) := by
  refine if_pos (okP_iff.mpr ?_)
  rcases h with h | ⟨s, rfl, h1, h2⟩
  · obtain ⟨k, hk, rfl⟩ := List.mem_iff_getElem.mp h
    have e := spec_show ⟨k, hk⟩
    rw [List.getD_eq_getElem?_getD, List.getElem?_eq_getElem hk] at e
    exact ⟨e.1, Nat.le_trans e.2 (by decide)⟩
  · refine ⟨⟨?_, rfl, rfl⟩, ?_⟩
    · have := strOk_lt h2
      simp [shp, SeqAt.shaped, py, PyData.canLay0, PyData.depth, this]
    · have := StrLaws.reprText_len (mk s) (fun c hc => by
        have := h2 c hc
        have : (16 : Nat) ^ 8 = 4294967296 := by decide
        omega)
      rw [mk_len] at this
      exact Nat.le_trans this (Nat.le_trans (show 10 * s.length + 2 ≤ 902 by omega) (by decide))
theorem spec_not : ∀ x ∈ spec, isiD "str" x = false ∧ okI x = true := by
  intro x hx
  simp only [spec, List.mem_cons, List.not_mem_nil, or_false] at hx
  rcases hx with rfl | rfl | rfl | rfl | rfl | rfl | rfl | rfl <;> exact ⟨rfl, rfl⟩
theorem ev_all {x : D} (h : isV x) : ∃ f0 f1 f2, m_is_text [.d x] = some (.ok (.d (.bl f0)) [.d x]) ∧ m_is_pattern [.d x] = some (.ok (.d (.bl f1)) [.d x]) ∧ m_ulawudue [.d x] = some (.ok (.d (.tup [.bl f0, .bl f1, .bl f2])) [.d x]) ∧ (f1 = true → m_is_plain [.d x] = some (.ok (.d (.bl f2)) [.d x])) := by
  rcases h with h | ⟨s, rfl, h1, h2⟩
  · obtain ⟨a, b⟩ := spec_not x h
    obtain ⟨c, d, e⟩ := ev_other a b
    exact ⟨false, false, false, c, d, e, fun h => by cases h⟩
  · have ct : textM countL (.str s) [.str [42]] = some (.d (.int (Txt.count (mk s) (mk [42])))) := rfl
    refine ⟨_, _, _, ev_text, ev_pattern h1 ct, ev_due h1 ct, fun h => ?_⟩
    rw [h, Bool.true_and]
    exact ev_plain
theorem main (ns : List Int) (hl : ns.length ≤ 63) : ∃ o, m_law [.d (.lst (ns.map .int))] = some (.ok (.d (.bl true)) o) := by
  have main : wF (m_law [.d (.lst (ns.map .int))]) (fun a o => a = .d (.bl true)) nX := by
    obtain ⟨x, hx, vl⟩ := ev_value (ns := ns)
    obtain ⟨f0, f1, f2, p0, p1, p2, p3⟩ := ev_all hx
    have ask := ev_ask p1 (repr_v hx)
    have g0 : getD (.tup [.bl f0, .bl f1, .bl f2]) (.int 0) = some (.d (.bl f0)) := Dw.get_tup (L2.atI_nat (j := 0) rfl)
    have g1 : getD (.tup [.bl f0, .bl f1, .bl f2]) (.int 1) = some (.d (.bl f1)) := Dw.get_tup (L2.atI_nat (j := 1) rfl)
    have g2 : getD (.tup [.bl f0, .bl f1, .bl f2]) (.int 2) = some (.d (.bl f2)) := Dw.get_tup (L2.atI_nat (j := 2) rfl)
    have same : ∀ b : Bool, m_ulawuis [.d (.bl b), .d (.bl b)] = some (.ok (.d (.bl true)) [.d (.bl b), .d (.bl b)]) := fun b => by
      have := ev_is (a := b) (b := b)
      rw [beq_self_eq_true] at this
      exact this
    have s0 := same f0
    have s1 := same f1
    have s2 := same f2
    have t : (!true) = false := rfl
    have abc : (([97, 98, 99, 100, 101, 102, 103, 104, 105, 106, 107, 108, 109, 110, 111, 112, 113, 114, 115, 116, 117, 118, 119, 120, 121, 122] : List Nat) == [97, 98, 99, 100, 101, 102, 103, 104, 105, 106, 107, 108, 109, 110, 111, 112, 113, 114, 115, 116, 117, 118, 119, 120, 121, 122]) = true := rfl
    have abn : neD (.str [97, 98, 99, 100, 101, 102, 103, 104, 105, 106, 107, 108, 109, 110, 111, 112, 113, 114, 115, 116, 117, 118, 119, 120, 121, 122]) (.str [97, 98, 99, 100, 101, 102, 103, 104, 105, 106, 107, 108, 109, 110, 111, 112, 113, 114, 115, 116, 117, 118, 119, 120, 121, 122]) = some (.d (.bl false)) := rfl
    refine w_defM rfl (by fail "S") ?_
    unfold b_law
    have vl : m_ulawuvalue [.d (.lst (ns.map .int))] = _ := vl
    generalize D.lst (ns.map .int) = sc at vl
    cases f1
    · (repeat' fail "V")
      rfl
    · have p3 := p3 rfl
      (repeat' fail "V")
      rfl
  obtain ⟨a, o, h1, rfl⟩ := wF_get main
  exact ⟨o, h1⟩
end
end P_talkalike_k04_forms
namespace P_talkalike_k04_forms
noncomputable section
open PySem PySem.Spec PyProof.Rows L2 Dw
variable [GI : Glo] [TI : Tabs]
theorem all_mk {l : PySem.W.OpenLaw} {w : World} {K : PySem.W.Frag} {h : Heap} {mg : Str → Option Value} {fa : Addr} (X : K.In h) (G : h.Ns mainGlobals mg) (hfa : mg "law" = some (.ref fa)) (hX : Tabs.X = none) (hGl : ∀ n C, Glo.C n C ↔ n ∈ (["TalkError", "BadPattern", "TooManyPatterns"] : List Str) ∧ mg n = some (.ref C)) {pc1 pp1 : Addr} (hTP1 : Tabs.T pp1) (ht1 : PySem.W.tabIn K "is_text" = some (pc1, pp1)) {pc2 pp2 : Addr} (hTP2 : Tabs.T pp2) (ht2 : PySem.W.tabIn K "is_pattern" = some (pc2, pp2))
    {f1 : Addr} {od1 an1 : Option Addr} {sl1 : Array (Option Value)} {oc1 kV1 dc1 pm1 cd1 ct1 : Value} {f2 : Addr} {od2 an2 : Option Addr} {sl2 : Array (Option Value)} {oc2 kV2 dc2 pm2 cd2 ct2 : Value} {f3 : Addr} {od3 an3 : Option Addr} {sl3 : Array (Option Value)} {oc3 kV3 dc3 pm3 cd3 ct3 : Value} {f4 : Addr} {od4 an4 : Option Addr} {sl4 : Array (Option Value)} {oc4 kV4 dc4 pm4 cd4 ct4 : Value} {f5 : Addr} {od5 an5 : Option Addr} {sl5 : Array (Option Value)} {oc5 kV5 dc5 pm5 cd5 ct5 : Value} {f6 : Addr} {od6 an6 : Option Addr} {sl6 : Array (Option Value)} {oc6 kV6 dc6 pm6 cd6 ct6 : Value} {f7 : Addr} {od7 an7 : Option Addr} {sl7 : Array (Option Value)} {oc7 kV7 dc7 pm7 cd7 ct7 : Value} {f8 : Addr} {od8 an8 : Option Addr} {sl8 : Array (Option Value)} {oc8 kV8 dc8 pm8 cd8 ct8 : Value} {f9 : Addr} {od9 an9 : Option Addr} {sl9 : Array (Option Value)} {oc9 kV9 dc9 pm9 cd9 ct9 : Value} {f10 : Addr} {od10 an10 : Option Addr} {sl10 : Array (Option Value)} {oc10 kV10 dc10 pm10 cd10 ct10 : Value} {f11 : Addr} {od11 an11 : Option Addr} {sl11 : Array (Option Value)} {oc11 kV11 dc11 pm11 cd11 ct11 : Value} {t_LETTERS : Tok} {t_MOST_SIGNS : Tok} {t_MOST_STARS : Tok} {Cx0 Nx0 Fx0 Tx0 : Addr} {nmx0 qnx0 : Str} {bsx0 subx0 : List Value} {snx0 : List Str} {abx0 : Bool} {colx0 : Option Bool} {ddx0 odx0 anx0 odTx0 : Option Addr} {max0 mbx0 mcx0 mdx0 mex0 : Option Value} {slx0 slTx0 : Array (Option Value)} {ocx0 kVx0 dcx0 pmx0 cdx0 ctx0 ocTx0 : Value} {nTx0 : Nat} {Cx1 Nx1 Fx1 Tx1 : Addr} {nmx1 qnx1 : Str} {bsx1 subx1 : List Value} {snx1 : List Str} {abx1 : Bool} {colx1 : Option Bool} {ddx1 odx1 anx1 odTx1 : Option Addr} {max1 mbx1 mcx1 mdx1 mex1 : Option Value} {slx1 slTx1 : Array (Option Value)} {ocx1 kVx1 dcx1 pmx1 cdx1 ctx1 ocTx1 : Value} {nTx1 : Nat} {Cx2 Nx2 : Addr} {nmx2 qnx2 : Str} {bsx2 subx2 : List Value} {snx2 : List Str} {abx2 : Bool} {colx2 : Option Bool} {ddx2 : Option Addr} {max2 mbx2 mcx2 mdx2 mex2 : Option Value}
    (a1 : PySem.W.nsIn K mainGlobals "is_text" = some (some (.ref f1)))
    (l1 : K.lookup f1 = some ⟨oc1, od1, .func (PySem.W.fnOf "is_text" "is_text" (defArgs s_is_text) (defBody s_is_text) (defScope s_is_text) .none kV1 dc1 pm1 an1 cd1 ct1), sl1⟩)
    (c1 : PySem.W.codeIn K cd1 "is_text" = true)
    (k1 : PySem.W.keepIn K (.ref f1) = true)
    (a2 : PySem.W.nsIn K mainGlobals "is_pattern" = some (some (.ref f2)))
    (l2 : K.lookup f2 = some ⟨oc2, od2, .func (PySem.W.fnOf "is_pattern" "is_pattern" (defArgs s_is_pattern) (defBody s_is_pattern) (defScope s_is_pattern) .none kV2 dc2 pm2 an2 cd2 ct2), sl2⟩)
    (c2 : PySem.W.codeIn K cd2 "is_pattern" = true)
    (k2 : PySem.W.keepIn K (.ref f2) = true)
    (a3 : PySem.W.nsIn K mainGlobals "check_pattern" = some (some (.ref f3)))
    (l3 : K.lookup f3 = some ⟨oc3, od3, .func (PySem.W.fnOf "check_pattern" "check_pattern" (defArgs s_check_pattern) (defBody s_check_pattern) (defScope s_check_pattern) .none kV3 dc3 pm3 an3 cd3 ct3), sl3⟩)
    (c3 : PySem.W.codeIn K cd3 "check_pattern" = true)
    (k3 : PySem.W.keepIn K (.ref f3) = true)
    (a4 : PySem.W.nsIn K mainGlobals "is_plain" = some (some (.ref f4)))
    (l4 : K.lookup f4 = some ⟨oc4, od4, .func (PySem.W.fnOf "is_plain" "is_plain" (defArgs s_is_plain) (defBody s_is_plain) (defScope s_is_plain) .none kV4 dc4 pm4 an4 cd4 ct4), sl4⟩)
    (c4 : PySem.W.codeIn K cd4 "is_plain" = true)
    (k4 : PySem.W.keepIn K (.ref f4) = true)
    (a5 : PySem.W.nsIn K mainGlobals "_law_cell" = some (some (.ref f5)))
    (l5 : K.lookup f5 = some ⟨oc5, od5, .func (PySem.W.fnOf "_law_cell" "_law_cell" (defArgs s_ulawucell) (defBody s_ulawucell) (defScope s_ulawucell) .none kV5 dc5 pm5 an5 cd5 ct5), sl5⟩)
    (c5 : PySem.W.codeIn K cd5 "_law_cell" = true)
    (k5 : PySem.W.keepIn K (.ref f5) = true)
    (a6 : PySem.W.nsIn K mainGlobals "_law_row" = some (some (.ref f6)))
    (l6 : K.lookup f6 = some ⟨oc6, od6, .func (PySem.W.fnOf "_law_row" "_law_row" (defArgs s_ulawurow) (defBody s_ulawurow) (defScope s_ulawurow) .none kV6 dc6 pm6 an6 cd6 ct6), sl6⟩)
    (c6 : PySem.W.codeIn K cd6 "_law_row" = true)
    (k6 : PySem.W.keepIn K (.ref f6) = true)
    (a7 : PySem.W.nsIn K mainGlobals "_law_value" = some (some (.ref f7)))
    (l7 : K.lookup f7 = some ⟨oc7, od7, .func (PySem.W.fnOf "_law_value" "_law_value" (defArgs s_ulawuvalue) (defBody s_ulawuvalue) (defScope s_ulawuvalue) .none kV7 dc7 pm7 an7 cd7 ct7), sl7⟩)
    (c7 : PySem.W.codeIn K cd7 "_law_value" = true)
    (k7 : PySem.W.keepIn K (.ref f7) = true)
    (a8 : PySem.W.nsIn K mainGlobals "_law_due" = some (some (.ref f8)))
    (l8 : K.lookup f8 = some ⟨oc8, od8, .func (PySem.W.fnOf "_law_due" "_law_due" (defArgs s_ulawudue) (defBody s_ulawudue) (defScope s_ulawudue) .none kV8 dc8 pm8 an8 cd8 ct8), sl8⟩)
    (c8 : PySem.W.codeIn K cd8 "_law_due" = true)
    (k8 : PySem.W.keepIn K (.ref f8) = true)
    (a9 : PySem.W.nsIn K mainGlobals "_law_is" = some (some (.ref f9)))
    (l9 : K.lookup f9 = some ⟨oc9, od9, .func (PySem.W.fnOf "_law_is" "_law_is" (defArgs s_ulawuis) (defBody s_ulawuis) (defScope s_ulawuis) .none kV9 dc9 pm9 an9 cd9 ct9), sl9⟩)
    (c9 : PySem.W.codeIn K cd9 "_law_is" = true)
    (k9 : PySem.W.keepIn K (.ref f9) = true)
    (a10 : PySem.W.nsIn K mainGlobals "_law_asks_check" = some (some (.ref f10)))
    (l10 : K.lookup f10 = some ⟨oc10, od10, .func (PySem.W.fnOf "_law_asks_check" "_law_asks_check" (defArgs s_ulawuasksucheck) (defBody s_ulawuasksucheck) (defScope s_ulawuasksucheck) .none kV10 dc10 pm10 an10 cd10 ct10), sl10⟩)
    (c10 : PySem.W.codeIn K cd10 "_law_asks_check" = true)
    (k10 : PySem.W.keepIn K (.ref f10) = true)
    (a11 : PySem.W.nsIn K mainGlobals "law" = some (some (.ref f11)))
    (l11 : K.lookup f11 = some ⟨oc11, od11, .func (PySem.W.fnOf "law" "law" (defArgs s_law) (defBody s_law) (defScope s_law) .none kV11 dc11 pm11 an11 cd11 ct11), sl11⟩)
    (c11 : PySem.W.codeIn K cd11 "law" = true)
    (k11 : PySem.W.keepIn K (.ref f11) = true)
    (g_LETTERS : PySem.W.nsIn K mainGlobals "LETTERS" = some (some (.str (Str.ofString "abcdefghijklmnopqrstuvwxyz") t_LETTERS)))
    (g_MOST_SIGNS : PySem.W.nsIn K mainGlobals "MOST_SIGNS" = some (some (.int 8 t_MOST_SIGNS)))
    (g_MOST_STARS : PySem.W.nsIn K mainGlobals "MOST_STARS" = some (some (.int 2 t_MOST_STARS)))
    (z_ValueError : PySem.W.nsIn K mainGlobals "ValueError" = some none)
    (z_all : PySem.W.nsIn K mainGlobals "all" = some none)
    (z_bool : PySem.W.nsIn K mainGlobals "bool" = some none)
    (z_int : PySem.W.nsIn K mainGlobals "int" = some none)
    (z_isinstance : PySem.W.nsIn K mainGlobals "isinstance" = some none)
    (z_len : PySem.W.nsIn K mainGlobals "len" = some none)
    (z_range : PySem.W.nsIn K mainGlobals "range" = some none)
    (z_repr : PySem.W.nsIn K mainGlobals "repr" = some none)
    (z_str : PySem.W.nsIn K mainGlobals "str" = some none)
    (xax0 : PySem.W.nsIn K mainGlobals "TalkError" = some (some (.ref Cx0)))
    (xlx0 : K.lookup Cx0 = some (excClassObj nmx0 qnx0 Cx0 Nx0 bsx0 [.type "ValueError", .type "Exception", .type "BaseException", .type "object"] true snx0 subx0 abx0 colx0 ddx0 max0 mbx0 mcx0 mdx0 mex0 "ValueError.__new__"))
    (sax0 : PySem.W.findIn K (.ref Cx0) "__setattr__" = some (some (.builtin "object.__setattr__")))
    (gax0 : PySem.W.findIn K (.ref Cx0) "__getattribute__" = some (some (.builtin "BaseException.__getattribute__")))
    (ggx0 : PySem.W.findIn K (.ref Cx0) "__getattr__" = some (none))
    (w0x0 : PySem.W.findIn K (.ref Cx0) "word" = some (none))
    (p0x0 : PySem.W.findIn K (.ref Cx0) "place" = some (none))
    (cax0 : PySem.W.findIn K (.ref Cx0) "__class__" = some (some (.builtin "object.__class__")))
    (mox0 : PySem.W.mroIn K Cx0 (.type "object") = some true)
    (kcx0 : PySem.W.keepIn K (.ref Cx0) = true)
    (exx0 : PySem.W.subIn K (.ref Cx0) (.type "BaseException") = some true)
    (tyx0 : PySem.W.typeIn K (.ref Cx0) = some (.type "type"))
    (hdx0 : PySem.W.hasDictIn K Cx0 = true)
    (iix0 : PySem.W.findIn K (.ref Cx0) "__init__" = some (some (.ref Fx0)))
    (tix0 : PySem.W.typeIn K (.ref Fx0) = some (.type "function"))
    (lix0 : K.lookup Fx0 = some ⟨ocx0, odx0, .func (PySem.W.fnOf "__init__" "TalkError.__init__" (defArgs i_TalkError) (defBody i_TalkError) (defScope i_TalkError) (.ref Tx0) kVx0 dcx0 pmx0 anx0 cdx0 ctx0), slx0⟩)
    (ttx0 : K.lookup Tx0 = some ⟨ocTx0, odTx0, .seq (List.toArray [Value.none]) nTx0, slTx0⟩)
    (cix0 : PySem.W.codeIn K cdx0 "TalkError.__init__" = true)
    (kix0 : PySem.W.keepIn K (.ref Fx0) = true)
    (rdx0 : PySem.W.readsIn K Cx0 (.type "type") = true)
    (gsx0 : PySem.W.specialIn K (.ref Cx0) "__getattribute__" = some (some (.builtin "type.__getattribute__")))
    (fcx0 : PySem.W.findCls K (.ref Cx0) (.type "type") "__init__" = some (.val (.ref Fx0)))
    (xax1 : PySem.W.nsIn K mainGlobals "BadPattern" = some (some (.ref Cx1)))
    (xlx1 : K.lookup Cx1 = some (excClassObj nmx1 qnx1 Cx1 Nx1 bsx1 [.ref Cx0, .type "ValueError", .type "Exception", .type "BaseException", .type "object"] true snx1 subx1 abx1 colx1 ddx1 max1 mbx1 mcx1 mdx1 mex1 "ValueError.__new__"))
    (sax1 : PySem.W.findIn K (.ref Cx1) "__setattr__" = some (some (.builtin "object.__setattr__")))
    (gax1 : PySem.W.findIn K (.ref Cx1) "__getattribute__" = some (some (.builtin "BaseException.__getattribute__")))
    (ggx1 : PySem.W.findIn K (.ref Cx1) "__getattr__" = some (none))
    (w0x1 : PySem.W.findIn K (.ref Cx1) "word" = some (none))
    (p0x1 : PySem.W.findIn K (.ref Cx1) "place" = some (none))
    (cax1 : PySem.W.findIn K (.ref Cx1) "__class__" = some (some (.builtin "object.__class__")))
    (mox1 : PySem.W.mroIn K Cx1 (.type "object") = some true)
    (kcx1 : PySem.W.keepIn K (.ref Cx1) = true)
    (exx1 : PySem.W.subIn K (.ref Cx1) (.type "BaseException") = some true)
    (tyx1 : PySem.W.typeIn K (.ref Cx1) = some (.type "type"))
    (hdx1 : PySem.W.hasDictIn K Cx1 = true)
    (iix1 : PySem.W.findIn K (.ref Cx1) "__init__" = some (some (.ref Fx1)))
    (tix1 : PySem.W.typeIn K (.ref Fx1) = some (.type "function"))
    (lix1 : K.lookup Fx1 = some ⟨ocx1, odx1, .func (PySem.W.fnOf "__init__" "BadPattern.__init__" (defArgs i_BadPattern) (defBody i_BadPattern) (defScope i_BadPattern) (.ref Tx1) kVx1 dcx1 pmx1 anx1 cdx1 ctx1), slx1⟩)
    (ttx1 : K.lookup Tx1 = some ⟨ocTx1, odTx1, .seq (List.toArray [Value.none]) nTx1, slTx1⟩)
    (cix1 : PySem.W.codeIn K cdx1 "BadPattern.__init__" = true)
    (kix1 : PySem.W.keepIn K (.ref Fx1) = true)
    (xax2 : PySem.W.nsIn K mainGlobals "TooManyPatterns" = some (some (.ref Cx2)))
    (xlx2 : K.lookup Cx2 = some (excClassObj nmx2 qnx2 Cx2 Nx2 bsx2 [.ref Cx0, .type "ValueError", .type "Exception", .type "BaseException", .type "object"] true snx2 subx2 abx2 colx2 ddx2 max2 mbx2 mcx2 mdx2 mex2 "ValueError.__new__"))
    (sax2 : PySem.W.findIn K (.ref Cx2) "__setattr__" = some (some (.builtin "object.__setattr__")))
    (gax2 : PySem.W.findIn K (.ref Cx2) "__getattribute__" = some (some (.builtin "BaseException.__getattribute__")))
    (ggx2 : PySem.W.findIn K (.ref Cx2) "__getattr__" = some (none))
    (w0x2 : PySem.W.findIn K (.ref Cx2) "word" = some (none))
    (p0x2 : PySem.W.findIn K (.ref Cx2) "place" = some (none))
    (cax2 : PySem.W.findIn K (.ref Cx2) "__class__" = some (some (.builtin "object.__class__")))
    (mox2 : PySem.W.mroIn K Cx2 (.type "object") = some true)
    (kcx2 : PySem.W.keepIn K (.ref Cx2) = true)
    (exx2 : PySem.W.subIn K (.ref Cx2) (.type "BaseException") = some true)
    (tyx2 : PySem.W.typeIn K (.ref Cx2) = some (.type "type"))
    (hdx2 : PySem.W.hasDictIn K Cx2 = true)
    (sbx0_x1 : PySem.W.subIn K (.ref Cx0) (.ref Cx1) = some false)
    (ktx0_x1 : PySem.W.kitOne K (.ref Cx0) (.ref Cx1) = some false)
    (sbx1_x1 : PySem.W.subIn K (.ref Cx1) (.ref Cx1) = some true)
    (ktx1_x1 : PySem.W.kitOne K (.ref Cx1) (.ref Cx1) = some true)
    (sbx2_x1 : PySem.W.subIn K (.ref Cx2) (.ref Cx1) = some false)
    (ktx2_x1 : PySem.W.kitOne K (.ref Cx2) (.ref Cx1) = some false)
    (sbx0_x0 : PySem.W.subIn K (.ref Cx0) (.ref Cx0) = some true)
    (ktx0_x0 : PySem.W.kitOne K (.ref Cx0) (.ref Cx0) = some true)
    (sbx1_x0 : PySem.W.subIn K (.ref Cx1) (.ref Cx0) = some true)
    (ktx1_x0 : PySem.W.kitOne K (.ref Cx1) (.ref Cx0) = some true)
    (sbx2_x0 : PySem.W.subIn K (.ref Cx2) (.ref Cx0) = some true)
    (ktx2_x0 : PySem.W.kitOne K (.ref Cx2) (.ref Cx0) = some true)
    (sbx0_x2 : PySem.W.subIn K (.ref Cx0) (.ref Cx2) = some false)
    (ktx0_x2 : PySem.W.kitOne K (.ref Cx0) (.ref Cx2) = some false)
    (sbx1_x2 : PySem.W.subIn K (.ref Cx1) (.ref Cx2) = some false)
    (ktx1_x2 : PySem.W.kitOne K (.ref Cx1) (.ref Cx2) = some false)
    (sbx2_x2 : PySem.W.subIn K (.ref Cx2) (.ref Cx2) = some true)
    (ktx2_x2 : PySem.W.kitOne K (.ref Cx2) (.ref Cx2) = some true)
    (kbx0_ValueError : PySem.W.kitOne K (.ref Cx0) (.type "ValueError") = some true)
    (kbx1_ValueError : PySem.W.kitOne K (.ref Cx1) (.type "ValueError") = some true)
    (kbx2_ValueError : PySem.W.kitOne K (.ref Cx2) (.type "ValueError") = some true)
    (vV : PySem.W.findCls K (.type "ValueError") (.type "type") "__init__" = some (.val (.builtin "ValueError.__init__")))
    (hn : PySem.W.specialIn K (.builtin "object.__class__") "__get__" = some (some (.builtin "getset_descriptor.__get__")))
    (htk : PySem.W.takesIn K (.builtin "object.__class__") = some true) :
    ∃ fd : FuncData, (∀ (s : Shared) (v : Value), BindsTo s fd ⟨[v], []⟩ [("script", v)]) ∧ ∀ base : Heap, K.In base → base.Ns mainGlobals mg → GxR.TabB base mg pc1 pp1 → GxR.TabB base mg pc2 pp2 → FnR l.prog w K mg base CX0 6 fa fd ["script"] (spD K 1 m_law) := by
  have e := hfa.symm.trans (PySem.W.mg_of X G a11)
  cases e
  refine ⟨PySem.W.fnOf "law" "law" (defArgs s_law) (defBody s_law) (defScope s_law) .none kV11 dc11 pm11 an11 cd11 ct11, fun s v => .of_eq rfl, fun base _ _ TB1 TB2 => ?_⟩
  have y_ValueError := PySem.W.mg_none_of X G z_ValueError
  have y_all := PySem.W.mg_none_of X G z_all
  have y_bool := PySem.W.mg_none_of X G z_bool
  have y_int := PySem.W.mg_none_of X G z_int
  have y_isinstance := PySem.W.mg_none_of X G z_isinstance
  have y_len := PySem.W.mg_none_of X G z_len
  have y_range := PySem.W.mg_none_of X G z_range
  have y_repr := PySem.W.mg_none_of X G z_repr
  have y_str := PySem.W.mg_none_of X G z_str
  have e_LETTERS : ∃ t, mg "LETTERS" = some (.str (mk [97, 98, 99, 100, 101, 102, 103, 104, 105, 106, 107, 108, 109, 110, 111, 112, 113, 114, 115, 116, 117, 118, 119, 120, 121, 122]) t) := ⟨t_LETTERS, PySem.W.mg_of X G g_LETTERS⟩
  have e_MOST_SIGNS : ∃ t, mg "MOST_SIGNS" = some (.int 8 t) := ⟨t_MOST_SIGNS, PySem.W.mg_of X G g_MOST_SIGNS⟩
  have e_MOST_STARS : ∃ t, mg "MOST_STARS" = some (.int 2 t) := ⟨t_MOST_STARS, PySem.W.mg_of X G g_MOST_STARS⟩
  have Mx0 := PySem.W.mg_of X G xax0
  have Mx1 := PySem.W.mg_of X G xax1
  have Mx2 := PySem.W.mg_of X G xax2
  have key : ∀ n C, Glo.C n C → (n = "TalkError" ∧ C = Cx0) ∨ (n = "BadPattern" ∧ C = Cx1) ∨ (n = "TooManyPatterns" ∧ C = Cx2) := by
    intro n C g
    obtain ⟨hn, hm⟩ := (hGl n C).mp g
    simp only [List.mem_cons, List.not_mem_nil, or_false] at hn
    rcases hn with hn | hn | hn
    · exact .inl ⟨hn, Value.ref.inj (Option.some.inj (hm.symm.trans (by rw [hn]; exact Mx0)))⟩
    · exact .inr (.inl ⟨hn, Value.ref.inj (Option.some.inj (hm.symm.trans (by rw [hn]; exact Mx1)))⟩)
    · exact .inr (.inr (⟨hn, Value.ref.inj (Option.some.inj (hm.symm.trans (by rw [hn]; exact Mx2)))⟩))
  have xG : ∀ n C, Glo.C n C → XA K C := fun n C g => by
    rcases key n C g with ⟨rfl, rfl⟩ | ⟨rfl, rfl⟩ | ⟨rfl, rfl⟩
    · exact ⟨⟨gax0, ggx0, exx0, hdx0⟩, w0x0, p0x0, clsIn_of xlx0, cax0, mox0⟩
    · exact ⟨⟨gax1, ggx1, exx1, hdx1⟩, w0x1, p0x1, clsIn_of xlx1, cax1, mox1⟩
    · exact ⟨⟨gax2, ggx2, exx2, hdx2⟩, w0x2, p0x2, clsIn_of xlx2, cax2, mox2⟩
  have xI : XIs K := ⟨xG, hn, htk⟩
  have e_xe_BadPattern : ExS K mg "BadPattern" ["BadPattern"] := by
    refine exS_of Mx1 exx1 hdx1 tyx1 (fun n C g => ?_) (fun n C g => ?_)
    · rcases key n C g with ⟨rfl, rfl⟩ | ⟨rfl, rfl⟩ | ⟨rfl, rfl⟩
      · exact sbx0_x1.trans (by decide)
      · exact sbx1_x1.trans (by decide)
      · exact sbx2_x1.trans (by decide)
    · rcases key n C g with ⟨rfl, rfl⟩ | ⟨rfl, rfl⟩ | ⟨rfl, rfl⟩
      · exact ktx0_x1.trans (by decide)
      · exact ktx1_x1.trans (by decide)
      · exact ktx2_x1.trans (by decide)
  have e_xe_TalkError : ExS K mg "TalkError" ["TalkError", "BadPattern", "TooManyPatterns"] := by
    refine exS_of Mx0 exx0 hdx0 tyx0 (fun n C g => ?_) (fun n C g => ?_)
    · rcases key n C g with ⟨rfl, rfl⟩ | ⟨rfl, rfl⟩ | ⟨rfl, rfl⟩
      · exact sbx0_x0.trans (by decide)
      · exact sbx1_x0.trans (by decide)
      · exact sbx2_x0.trans (by decide)
    · rcases key n C g with ⟨rfl, rfl⟩ | ⟨rfl, rfl⟩ | ⟨rfl, rfl⟩
      · exact ktx0_x0.trans (by decide)
      · exact ktx1_x0.trans (by decide)
      · exact ktx2_x0.trans (by decide)
  have e_xe_TooManyPatterns : ExS K mg "TooManyPatterns" ["TooManyPatterns"] := by
    refine exS_of Mx2 exx2 hdx2 tyx2 (fun n C g => ?_) (fun n C g => ?_)
    · rcases key n C g with ⟨rfl, rfl⟩ | ⟨rfl, rfl⟩ | ⟨rfl, rfl⟩
      · exact sbx0_x2.trans (by decide)
      · exact sbx1_x2.trans (by decide)
      · exact sbx2_x2.trans (by decide)
    · rcases key n C g with ⟨rfl, rfl⟩ | ⟨rfl, rfl⟩ | ⟨rfl, rfl⟩
      · exact ktx0_x2.trans (by decide)
      · exact ktx1_x2.trans (by decide)
      · exact ktx2_x2.trans (by decide)
  have e_xk_ValueError : ∀ n C, Glo.C n C → PySem.W.kitOne K (.ref C) (.type "ValueError") = some (decide (n ∈ (["TalkError", "BadPattern", "TooManyPatterns"] : List PySem.Str))) := fun n C g => by
    rcases key n C g with ⟨rfl, rfl⟩ | ⟨rfl, rfl⟩ | ⟨rfl, rfl⟩
    · exact kbx0_ValueError.trans (by decide)
    · exact kbx1_ValueError.trans (by decide)
    · exact kbx2_ValueError.trans (by decide)
  have FIx0 := funD_mk (st := i_TalkError) (its := [Value.none]) (dvs := [V.non]) lix0 cix0 kix0 ttx0 (.cons rfl .nil) (by simp)
  have BIx0 := binds_full (FIx0.binds1 (ps := ["self", "word", "place"]) 3 1 (by simp) rfl fun _ _ _ _ _ _ _ us its hl h2 => match us, hl, its, h2 with | [_, _, _], _, [_], _ => ⟨_, rfl, rfl⟩)
  have OIx0 : FnOk l.prog w K mg base CX0 1 Fx0 _ ["self", "word", "place"] (spTE K) := oi_TalkError FIx0 y_ValueError vV
  have FIx1 := funD_mk (st := i_BadPattern) (its := [Value.none]) (dvs := [V.non]) lix1 cix1 kix1 ttx1 (.cons rfl .nil) (by simp)
  have BIx1 := binds_full (FIx1.binds1 (ps := ["self", "place"]) 2 1 (by simp) rfl fun _ _ _ _ _ _ _ us its hl h2 => match us, hl, its, h2 with | [_, _], _, [_], _ => ⟨_, rfl, rfl⟩)
  have OIx1 : FnOk l.prog w K mg base CX0 2 Fx1 _ ["self", "place"] (spXI K "BadPattern") := oi_BadPattern FIx1 Mx0 rdx0 gsx0 fcx0 OIx0 kix0 BIx0
  have BJx1 := FIx1.binds1 (ps := ["self", "place"]) 1 0 (by simp) rfl fun _ _ _ _ _ _ _ us its hl h2 => match us, hl, its, h2 with | [_], _, [_], _ => ⟨_, rfl, rfl⟩
  have e_x_BadPattern : XcD l.prog w K mg base 2 "BadPattern" := ⟨Cx1, Fx1, _, ⟨oexC_of xlx1 rfl sax1 exx1 tyx1 kcx1, w0x1, p0x1⟩, (hGl _ _).mpr ⟨by decide, Mx1⟩, Mx1, iix1, tix1, OIx1, BIx1, BJx1⟩
  have F1 := fun_mk (st := s_is_text) l1 c1 k1
  have O1 : FnOk l.prog w K mg base CX0 1 f1 _ ["value"] (spD K 1 m_is_text) := ok_is_text F1 y_all y_isinstance y_str e_LETTERS hTP1 TB1 (PySem.W.law_code X G ht1 (PySem.W.mg_of X G a1) (X _ _ l1) rfl)
  have b1 := F1.binds (ps := ["value"]) fun _ _ _ _ _ _ us hl => match us, hl with | [_], _ => rfl
  have D1 : Def l.prog w K mg base 1 "is_text" 1 m_is_text [] := (DefG.mk0 O1 defM_len (PySem.W.mg_of X G a1) F1.kp b1).to
  have F2 := fun_mk (st := s_is_pattern) l2 c2 k2
  have O2 : FnOk l.prog w K mg base CX0 1 f2 _ ["value"] (spD K 1 m_is_pattern) := ok_is_pattern F2 y_all y_isinstance y_len y_str e_LETTERS e_MOST_SIGNS e_MOST_STARS hTP2 TB2 (PySem.W.law_code X G ht2 (PySem.W.mg_of X G a2) (X _ _ l2) rfl)
  have b2 := F2.binds (ps := ["value"]) fun _ _ _ _ _ _ us hl => match us, hl with | [_], _ => rfl
  have D2 : Def l.prog w K mg base 1 "is_pattern" 1 m_is_pattern [] := (DefG.mk0 O2 defM_len (PySem.W.mg_of X G a2) F2.kp b2).to
  have F3 := fun_mk (st := s_check_pattern) l3 c3 k3
  have O3 : FnOk l.prog w K mg base (L2.CX l.prog w) 4 f3 _ ["value"] (spD K 1 m_check_pattern) := ok_check_pattern F3 e_x_BadPattern D2
  have b3 := F3.binds (ps := ["value"]) fun _ _ _ _ _ _ us hl => match us, hl with | [_], _ => rfl
  have D3 : DefX l.prog w K mg base 4 "check_pattern" 1 m_check_pattern [] := (DefG.mk0 O3 defX_len (PySem.W.mg_of X G a3) F3.kp b3)
  have F4 := fun_mk (st := s_is_plain) l4 c4 k4
  have O4 : FnOk l.prog w K mg base CX0 1 f4 _ ["pattern"] (spD K 1 m_is_plain) := ok_is_plain F4 
  have b4 := F4.binds (ps := ["pattern"]) fun _ _ _ _ _ _ us hl => match us, hl with | [_], _ => rfl
  have D4 : Def l.prog w K mg base 1 "is_plain" 1 m_is_plain [] := (DefG.mk0 O4 defM_len (PySem.W.mg_of X G a4) F4.kp b4).to
  have F5 := fun_mk (st := s_ulawucell) l5 c5 k5
  have O5 : FnOk l.prog w K mg base CX0 1 f5 _ ["script", "k"] (spD K 2 m_ulawucell) := ok_ulawucell F5 y_len
  have b5 := F5.binds (ps := ["script", "k"]) fun _ _ _ _ _ _ us hl => match us, hl with | [_, _], _ => rfl
  have D5 : Def l.prog w K mg base 1 "_law_cell" 2 m_ulawucell [] := (DefG.mk0 O5 defM_len (PySem.W.mg_of X G a5) F5.kp b5).to
  have F6 := fun_mk (st := s_ulawurow) l6 c6 k6
  have O6 : FnOk l.prog w K mg base CX0 1 f6 _ ["cell", "count", "base"] (spD K 3 m_ulawurow) := ok_ulawurow F6 y_int y_range
  have b6 := F6.binds (ps := ["cell", "count", "base"]) fun _ _ _ _ _ _ us hl => match us, hl with | [_, _, _], _ => rfl
  have D6 : Def l.prog w K mg base 1 "_law_row" 3 m_ulawurow [] := (DefG.mk0 O6 defM_len (PySem.W.mg_of X G a6) F6.kp b6).to
  have F7 := fun_mk (st := s_ulawuvalue) l7 c7 k7
  have O7 : FnOk l.prog w K mg base CX0 2 f7 _ ["script"] (spD K 1 m_ulawuvalue) := ok_ulawuvalue F7 y_int y_len D5 D6
  have b7 := F7.binds (ps := ["script"]) fun _ _ _ _ _ _ us hl => match us, hl with | [_], _ => rfl
  have D7 : Def l.prog w K mg base 2 "_law_value" 1 m_ulawuvalue [] := (DefG.mk0 O7 defM_len (PySem.W.mg_of X G a7) F7.kp b7).to
  have F8 := fun_mk (st := s_ulawudue) l8 c8 k8
  have O8 : FnOk l.prog w K mg base CX0 1 f8 _ ["value"] (spD K 1 m_ulawudue) := ok_ulawudue F8 y_int y_isinstance y_len y_str
  have b8 := F8.binds (ps := ["value"]) fun _ _ _ _ _ _ us hl => match us, hl with | [_], _ => rfl
  have D8 : Def l.prog w K mg base 1 "_law_due" 1 m_ulawudue [] := (DefG.mk0 O8 defM_len (PySem.W.mg_of X G a8) F8.kp b8).to
  have F9 := fun_mk (st := s_ulawuis) l9 c9 k9
  have O9 : FnOk l.prog w K mg base CX0 1 f9 _ ["actual", "expected"] (spD K 2 m_ulawuis) := ok_ulawuis F9 y_bool y_isinstance
  have b9 := F9.binds (ps := ["actual", "expected"]) fun _ _ _ _ _ _ us hl => match us, hl with | [_, _], _ => rfl
  have D9 : Def l.prog w K mg base 1 "_law_is" 2 m_ulawuis [] := (DefG.mk0 O9 defM_len (PySem.W.mg_of X G a9) F9.kp b9).to
  have F10 := fun_mk (st := s_ulawuasksucheck) l10 c10 k10
  have O10 : FnR l.prog w K mg base CX0 5 f10 _ ["value", "form"] (spD K 2 m_ulawuasksucheck) := ok_ulawuasksucheck F10 y_ValueError y_isinstance y_repr hX xI e_xe_BadPattern e_xe_TalkError e_xe_TooManyPatterns e_xk_ValueError D3
  have b10 := F10.binds (ps := ["value", "form"]) fun _ _ _ _ _ _ us hl => match us, hl with | [_, _], _ => rfl
  have D10 : DefR l.prog w K mg base 5 "_law_asks_check" 2 m_ulawuasksucheck [] := DefR.mk0 O10 (PySem.W.mg_of X G a10) F10.kp b10
  have F11 := fun_mk (st := s_law) l11 c11 k11
  exact ok_law F11 e_LETTERS D7 D8 D1 D9 D2 D4 D10
end
end P_talkalike_k04_forms
open PySem PySem.W PyProof.Rows
set_option maxHeartbeats 0 in
theorem PySem.Challenge.cw_talkalike_k04_forms_holds : PySem.Challenge.rw_talkalike_k04_forms.Holds := by
  w_on; o_law; k_head; (case hw => w_witness2)
  k_fill
  refine Dw.walk_RT (l := PySem.Challenge.rw_talkalike_k04_forms) (n := 63) (k := 6) (x := "script") (m := P_talkalike_k04_forms.m_law) (fun w mg => ⟨fun n C => n ∈ (["TalkError", "BadPattern", "TooManyPatterns"] : List PySem.Str) ∧ mg n = some (.ref C), w⟩) ["is_text", "is_pattern"] rfl (by decide) rfl ⟨rfl, by decide, by decide⟩ (fun w h Y => PySem.W.kIn_of Y) ?R (fun p => ?T) ?F (fun GI TI ns hl => letI : Dw.Glo := GI; letI : Dw.Tabs := TI; P_talkalike_k04_forms.main ns hl)
  case R => kernel_rfl
  case T => kernel_rfl
  case F =>
    intro w mg fa h KX G hmg ht
    refine' Exists.imp (fun fd b => ⟨b.1, fun base h1 h2 t => b.2 base h1 h2 (t "is_text" (List.mem_cons_self ..)) (t "is_pattern" (List.mem_cons_of_mem _ (List.mem_cons_self ..)))⟩) (P_talkalike_k04_forms.all_mk (GI := ⟨fun n C => n ∈ (["TalkError", "BadPattern", "TooManyPatterns"] : List PySem.Str) ∧ mg n = some (.ref C), w⟩) (TI := Dw.tabsOf _ ["is_text", "is_pattern"]) KX G hmg rfl (fun _ _ => Iff.rfl) ⟨"is_text", (List.mem_cons_self ..), rfl⟩ (ht "is_text" (List.mem_cons_self ..)) ⟨"is_pattern", (List.mem_cons_of_mem _ (List.mem_cons_self ..)), rfl⟩ (ht "is_pattern" (List.mem_cons_of_mem _ (List.mem_cons_self ..))) ?a1 ?l1 ?c1 ?k1 ?a2 ?l2 ?c2 ?k2 ?a3 ?l3 ?c3 ?k3 ?a4 ?l4 ?c4 ?k4 ?a5 ?l5 ?c5 ?k5 ?a6 ?l6 ?c6 ?k6 ?a7 ?l7 ?c7 ?k7 ?a8 ?l8 ?c8 ?k8 ?a9 ?l9 ?c9 ?k9 ?a10 ?l10 ?c10 ?k10 ?a11 ?l11 ?c11 ?k11 ?g_LETTERS ?g_MOST_SIGNS ?g_MOST_STARS ?z_ValueError ?z_all ?z_bool ?z_int ?z_isinstance ?z_len ?z_range ?z_repr ?z_str ?xax0 ?xlx0 ?sax0 ?gax0 ?ggx0 ?w0x0 ?p0x0 ?cax0 ?mox0 ?kcx0 ?exx0 ?tyx0 ?hdx0 ?iix0 ?tix0 ?lix0 ?ttx0 ?cix0 ?kix0 ?rdx0 ?gsx0 ?fcx0 ?xax1 ?xlx1 ?sax1 ?gax1 ?ggx1 ?w0x1 ?p0x1 ?cax1 ?mox1 ?kcx1 ?exx1 ?tyx1 ?hdx1 ?iix1 ?tix1 ?lix1 ?ttx1 ?cix1 ?kix1 ?xax2 ?xlx2 ?sax2 ?gax2 ?ggx2 ?w0x2 ?p0x2 ?cax2 ?mox2 ?kcx2 ?exx2 ?tyx2 ?hdx2 ?sbx0_x1 ?ktx0_x1 ?sbx1_x1 ?ktx1_x1 ?sbx2_x1 ?ktx2_x1 ?sbx0_x0 ?ktx0_x0 ?sbx1_x0 ?ktx1_x0 ?sbx2_x0 ?ktx2_x0 ?sbx0_x2 ?ktx0_x2 ?sbx1_x2 ?ktx1_x2 ?sbx2_x2 ?ktx2_x2 ?kbx0_ValueError ?kbx1_ValueError ?kbx2_ValueError ?vV ?hn ?htk)
    (case a1 => k_is); (case l1 => k_is); (case c1 => k_is); (case k1 => k_is); (case a2 => k_is); (case l2 => k_is); (case c2 => k_is); (case k2 => k_is); (case a3 => k_is); (case l3 => k_is); (case c3 => k_is); (case k3 => k_is); (case a4 => k_is); (case l4 => k_is); (case c4 => k_is); (case k4 => k_is); (case a5 => k_is); (case l5 => k_is); (case c5 => k_is); (case k5 => k_is); (case a6 => k_is); (case l6 => k_is); (case c6 => k_is); (case k6 => k_is); (case a7 => k_is); (case l7 => k_is); (case c7 => k_is); (case k7 => k_is); (case a8 => k_is); (case l8 => k_is); (case c8 => k_is); (case k8 => k_is); (case a9 => k_is); (case l9 => k_is); (case c9 => k_is); (case k9 => k_is); (case a10 => k_is); (case l10 => k_is); (case c10 => k_is); (case k10 => k_is); (case a11 => k_is); (case l11 => k_is); (case c11 => k_is); (case k11 => k_is); (case g_LETTERS => k_is); (case g_MOST_SIGNS => k_is); (case g_MOST_STARS => k_is); (case z_ValueError => k_is); (case z_all => k_is); (case z_bool => k_is); (case z_int => k_is); (case z_isinstance => k_is); (case z_len => k_is); (case z_range => k_is); (case z_repr => k_is); (case z_str => k_is); (case xax0 => k_is); (case xlx0 => k_is); (case sax0 => k_is); (case gax0 => k_is); (case ggx0 => k_is); (case w0x0 => k_is); (case p0x0 => k_is); (case cax0 => k_is); (case mox0 => k_is); (case kcx0 => k_is); (case exx0 => k_is); (case tyx0 => k_is); (case hdx0 => k_is); (case iix0 => k_is); (case tix0 => k_is); (case lix0 => k_is); (case ttx0 => k_is); (case cix0 => k_is); (case kix0 => k_is); (case rdx0 => k_is); (case gsx0 => k_is); (case fcx0 => k_is); (case xax1 => k_is); (case xlx1 => k_is); (case sax1 => k_is); (case gax1 => k_is); (case ggx1 => k_is); (case w0x1 => k_is); (case p0x1 => k_is); (case cax1 => k_is); (case mox1 => k_is); (case kcx1 => k_is); (case exx1 => k_is); (case tyx1 => k_is); (case hdx1 => k_is); (case iix1 => k_is); (case tix1 => k_is); (case lix1 => k_is); (case ttx1 => k_is); (case cix1 => k_is); (case kix1 => k_is); (case xax2 => k_is); (case xlx2 => k_is); (case sax2 => k_is); (case gax2 => k_is); (case ggx2 => k_is); (case w0x2 => k_is); (case p0x2 => k_is); (case cax2 => k_is); (case mox2 => k_is); (case kcx2 => k_is); (case exx2 => k_is); (case tyx2 => k_is); (case hdx2 => k_is); (case sbx0_x1 => k_is); (case ktx0_x1 => kit_is); (case sbx1_x1 => k_is); (case ktx1_x1 => kit_is); (case sbx2_x1 => k_is); (case ktx2_x1 => kit_is); (case sbx0_x0 => k_is); (case ktx0_x0 => kit_is); (case sbx1_x0 => k_is); (case ktx1_x0 => kit_is); (case sbx2_x0 => k_is); (case ktx2_x0 => kit_is); (case sbx0_x2 => k_is); (case ktx0_x2 => kit_is); (case sbx1_x2 => k_is); (case ktx1_x2 => kit_is); (case sbx2_x2 => k_is); (case ktx2_x2 => kit_is); (case kbx0_ValueError => kit_is); (case kbx1_ValueError => kit_is); (case kbx2_ValueError => kit_is); (case vV => k_is); (case hn => k_is); (case htk => k_is)
